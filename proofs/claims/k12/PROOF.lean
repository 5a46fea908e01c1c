import PyProof.Rows.All
import Wide.All
import OpenK.AllK
import Wide.FinOn
import PyProof.EqAt
import PyProof.EqKinds
import PyProof.TupleCall
import HandS.ForMost
import HandS.ForExc
import HandS.Evl
import HandS.Flow
import HandS.ExcInit
import HandS.ExcIs
import HandS.IsInst
import HandS.MakeKwOnly
import HandS.ExcField
import KE.KExcInit
import KE.KExcIs
import HandS.Ends
import KE.DataEq
import KE.GoesEnum
import HandS.TupAny
import HandS.Property
import HandS.Star
import HandS.Defaults
import HandS.FStr
import HandS.GenList
import PyProof.ReprRoads
import HandS.Conv
import HandS.Gcd
import KE.KMathGC
import HandS.SetFor
import HandS.Strs
import HandS.SortInts
import HandS.Iter
import HandS.Dict
import HandS.DictComp
import HandS.TupSets
import HandS.Style
import HandS.Words
import HandS.Text
import HandS.More
import HandS.Replace
import PyProof.StrBlock2
import HandS.SetKeys
import HandS.SortRule
import KE.KDictCopyH
import PyProof.DictMoreH
import HandS.Comp
import KE.KDictList
import HandS.Wide
import HandS.Head3
import PySem.Challenge.RW_evertreads_k12_whole_walks_step_by_step
set_option Elab.async false
set_option linter.all false
namespace Vd
open PySem L2
def keyS (e : DictEntry) : Str := match e.key with
  | .str x _ => x
  | _ => Str.empty
end Vd
set_option Elab.async false
set_option linter.all false
set_option maxRecDepth 100000
set_option maxHeartbeats 4000000
namespace K2
open PySem L2
def top (i : Nat) : Stmt := PySem.Challenge.pw_evertreads_k12_whole_walks_step_by_step.main.body.getD i (.Pass ⟨0, 0, 0, 0⟩)
abbrev s_is_integer : Stmt := top 7
abbrev s_is_within : Stmt := top 8
abbrev s_is_pair : Stmt := top 9
abbrev s_is_square : Stmt := top 10
abbrev s_is_time : Stmt := top 11
abbrev s_lane_of : Stmt := top 20
abbrev s_square_in : Stmt := top 21
abbrev s_lanes_trodden : Stmt := top 22
abbrev s_is_row : Stmt := top 116
abbrev s_is_order : Stmt := top 117
abbrev s_is_way : Stmt := top 118
abbrev s_turned_way : Stmt := top 119
abbrev s_one_run : Stmt := top 120
abbrev s_ways_gone : Stmt := top 121
abbrev s_offsets_along : Stmt := top 122
abbrev s_Walker___init__ : Stmt := inClass (top 124) 0
abbrev s_Walker_start : Stmt := inClass (top 124) 2
abbrev s_Walker_period : Stmt := inClass (top 124) 4
abbrev s_Walker_drift : Stmt := inClass (top 124) 5
abbrev s_Walker_at : Stmt := inClass (top 124) 8
abbrev s_Walker_goes : Stmt := inClass (top 124) 9
abbrev s_from_start : Stmt := top 125
abbrev s_square_at : Stmt := top 126
abbrev s__law_cup : Stmt := top 129
abbrev s__law_sip : Stmt := top 130
abbrev s__law_pick : Stmt := top 131
abbrev s__law_row : Stmt := top 132
abbrev s__law_start : Stmt := top 133
abbrev s__law_steps : Stmt := top 134
abbrev s__law_on : Stmt := top 135
abbrev s__law_path : Stmt := top 136
abbrev s__law_four : Stmt := top 137
abbrev s__law_some : Stmt := top 138
abbrev s__law_far : Stmt := top 139
abbrev s__law_right : Stmt := top 140
abbrev s_law : Stmt := top 141
end K2
set_option Elab.async false
set_option linter.all false
set_option maxRecDepth 100000
set_option maxHeartbeats 4000000
namespace K2
open PySem PySem.W PyProof.Rows
def hn0 : List PySem.Str := [("_wall" : PySem.Str), ("MOST_ORDERS" : PySem.Str), ("MOST_STEPS" : PySem.Str), ("MOST_MOVE" : PySem.Str), ("GREATEST" : PySem.Str), ("is_integer" : PySem.Str), ("is_within" : PySem.Str), ("is_pair" : PySem.Str), ("is_square" : PySem.Str), ("is_time" : PySem.Str), ("WrongValue" : PySem.Str), ("InvalidRow" : PySem.Str), ("InvalidSquare" : PySem.Str), ("InvalidWay" : PySem.Str), ("InvalidTime" : PySem.Str), ("InvalidParts" : PySem.Str), ("lane_of" : PySem.Str), ("square_in" : PySem.Str), ("lanes_trodden" : PySem.Str), ("slope_of" : PySem.Str), ("line_through" : PySem.Str), ("square_on" : PySem.Str), ("crossing" : PySem.Str), ("place" : PySem.Str), ("primes_of" : PySem.Str), ("common_multiple" : PySem.Str), ("inverse" : PySem.Str), ("repeated" : PySem.Str), ("window" : PySem.Str), ("least" : PySem.Str)]
def hn1 : List PySem.Str := [("full" : PySem.Str), ("ones" : PySem.Str), ("places" : PySem.Str), ("raised" : PySem.Str), ("BOTH" : PySem.Str), ("EITHER" : PySem.Str), ("FIRST" : PySem.Str), ("ONE" : PySem.Str), ("NEVER" : PySem.Str), ("MOST_TABLED" : PySem.Str), ("plain" : PySem.Str), ("holds" : PySem.Str), ("told" : PySem.Str), ("common_period" : PySem.Str), ("tabled" : PySem.Str), ("answers" : PySem.Str), ("layers" : PySem.Str), ("joined" : PySem.Str), ("MOST_BITS" : PySem.Str), ("seen_along" : PySem.Str), ("gathered" : PySem.Str), ("taken" : PySem.Str), ("loosened" : PySem.Str), ("deciding" : PySem.Str), ("primes_in" : PySem.Str), ("shared_prime" : PySem.Str), ("leave_some" : PySem.Str), ("parted" : PySem.Str), ("left_in_bits" : PySem.Str), ("left_of" : PySem.Str)]
def hn2 : List PySem.Str := [("FEW_MARKS" : PySem.Str), ("sides" : PySem.Str), ("meeting_point" : PySem.Str), ("followers" : PySem.Str), ("holds_any" : PySem.Str), ("cases" : PySem.Str), ("seen_from" : PySem.Str), ("many_in" : PySem.Str), ("many_in_cases" : PySem.Str), ("NOTHING" : PySem.Str), ("MOST_WRITTEN" : PySem.Str), ("track_of" : PySem.Str), ("rule_about" : PySem.Str), ("simplified" : PySem.Str), ("written_short" : PySem.Str), ("rule_at" : PySem.Str), ("on_track" : PySem.Str), ("joined_tracks" : PySem.Str), ("endless_track" : PySem.Str), ("stretches" : PySem.Str), ("many_on" : PySem.Str), ("more_on" : PySem.Str), ("laid" : PySem.Str), ("slopes_of" : PySem.Str), ("crossings" : PySem.Str), ("tracks_over" : PySem.Str), ("settled" : PySem.Str), ("in_field" : PySem.Str), ("joined_fields" : PySem.Str), ("endless_field" : PySem.Str)]
def hn3 : List PySem.Str := [("told_by_tracks" : PySem.Str), ("many_in_field" : PySem.Str), ("any_in_field" : PySem.Str), ("MOST_PARTS" : PySem.Str), ("Squares" : PySem.Str), ("is_ray" : PySem.Str), ("with_field" : PySem.Str), ("of_parts" : PySem.Str), ("WAYS" : PySem.Str), ("MOVES" : PySem.Str), ("TURNS" : PySem.Str), ("is_row" : PySem.Str), ("is_order" : PySem.Str), ("is_way" : PySem.Str), ("turned_way" : PySem.Str), ("one_run" : PySem.Str), ("ways_gone" : PySem.Str), ("offsets_along" : PySem.Str), ("Walker" : PySem.Str), ("from_start" : PySem.Str), ("square_at" : PySem.Str), ("along_lanes" : PySem.Str), ("_law_cup" : PySem.Str), ("_law_sip" : PySem.Str), ("_law_pick" : PySem.Str), ("_law_row" : PySem.Str), ("_law_start" : PySem.Str), ("_law_steps" : PySem.Str), ("_law_on" : PySem.Str), ("_law_path" : PySem.Str)]
def hn4 : List PySem.Str := [("_law_four" : PySem.Str), ("_law_some" : PySem.Str), ("_law_far" : PySem.Str), ("_law_right" : PySem.Str)]
def hnames : List PySem.Str := hn0 ++ (hn1 ++ (hn2 ++ (hn3 ++ (hn4))))
def hrow : OpenRow := OpenLaw.row PySem.Challenge.rw_evertreads_k12_whole_walks_step_by_step
def hview : Program := view hrow.prog [0, 141]
end K2
namespace K2
open PySem PySem.W PyProof.Rows L2
abbrev N := BT.node
abbrev L := BT.nil
def ce (P : Params) (k : Str) (t : Tok) (v : Value) : DictEntry := ⟨PyData.keyHash P k, .str k t, v⟩
def cf (st : Stmt) (n q : Str) (g : Addr) (d kd doc pm : Value) (an : Option Addr) (c ct : Value) (b : Addr) : Data := .func ⟨n, q, defArgs st, .stmts (defBody st), defScope st, g, [], d, kd, doc, pm, an, c, ct, b⟩
noncomputable def o0 (P : Params) : Obj := ⟨.type "dict", none, (.dict #[ce P "__name__" 1 (.str "builtins" 160), ce P "__doc__" 2 (.builtin "builtins.__doc__:str#opaque"), ce P "__package__" 3 (.builtin "builtins.__package__:str#opaque"), ce P "__loader__" 4 (.builtin "builtins.__loader__:shared#opaque"), ce P "__spec__" 5 (.builtin "builtins.__spec__#opaque"), ce P "__build_class__" 6 (.builtin "__build_class__"), ce P "__import__" 7 (.builtin "__import__"), ce P "abs" 8 (.builtin "abs"), ce P "all" 9 (.builtin "all"), ce P "any" 10 (.builtin "any"), ce P "ascii" 11 (.builtin "ascii"), ce P "bin" 12 (.builtin "bin"), ce P "breakpoint" 13 (.builtin "breakpoint"), ce P "callable" 14 (.builtin "callable"), ce P "chr" 15 (.builtin "chr"), ce P "compile" 16 (.builtin "compile"), ce P "delattr" 17 (.builtin "delattr"), ce P "dir" 18 (.builtin "dir"), ce P "divmod" 19 (.builtin "divmod"), ce P "eval" 20 (.builtin "eval"), ce P "exec" 21 (.builtin "exec"), ce P "format" 22 (.builtin "format"), ce P "getattr" 23 (.builtin "getattr"), ce P "globals" 24 (.builtin "globals"), ce P "hasattr" 25 (.builtin "hasattr"), ce P "hash" 26 (.builtin "hash"), ce P "hex" 27 (.builtin "hex"), ce P "id" 28 (.builtin "id"), ce P "input" 29 (.builtin "input"), ce P "isinstance" 30 (.builtin "isinstance"), ce P "issubclass" 31 (.builtin "issubclass"), ce P "iter" 32 (.builtin "iter"), ce P "aiter" 33 (.builtin "aiter"), ce P "len" 34 (.builtin "len"), ce P "locals" 35 (.builtin "locals"), ce P "max" 36 (.builtin "max"), ce P "min" 37 (.builtin "min"), ce P "next" 38 (.builtin "next"), ce P "anext" 39 (.builtin "anext"), ce P "oct" 40 (.builtin "oct"), ce P "ord" 41 (.builtin "ord"), ce P "pow" 42 (.builtin "pow"), ce P "print" 43 (.builtin "print"), ce P "repr" 44 (.builtin "repr"), ce P "round" 45 (.builtin "round"), ce P "setattr" 46 (.builtin "setattr"), ce P "sorted" 47 (.builtin "sorted"), ce P "sum" 48 (.builtin "sum"), ce P "vars" 49 (.builtin "vars"), ce P "None" 50 .none, ce P "Ellipsis" 51 (.ellipsis), ce P "NotImplemented" 52 (.notImplemented), ce P "False" 53 (.bool false), ce P "True" 54 (.bool true), ce P "bool" 55 (.type "bool"), ce P "memoryview" 56 (.type "memoryview"), ce P "bytearray" 57 (.type "bytearray"), ce P "bytes" 58 (.type "bytes"), ce P "classmethod" 59 (.type "classmethod"), ce P "complex" 60 (.type "complex"), ce P "dict" 61 (.type "dict"), ce P "enumerate" 62 (.type "enumerate"), ce P "filter" 63 (.type "filter"), ce P "float" 64 (.type "float"), ce P "frozenset" 65 (.type "frozenset"), ce P "property" 66 (.type "property"), ce P "int" 67 (.type "int"), ce P "list" 68 (.type "list"), ce P "map" 69 (.type "map"), ce P "object" 70 (.type "object"), ce P "range" 71 (.type "range"), ce P "reversed" 72 (.type "reversed"), ce P "set" 73 (.type "set"), ce P "slice" 74 (.type "slice"), ce P "staticmethod" 75 (.type "staticmethod"), ce P "str" 76 (.type "str"), ce P "super" 77 (.type "super"), ce P "tuple" 78 (.type "tuple"), ce P "type" 79 (.type "type"), ce P "zip" 80 (.type "zip"), ce P "__debug__" 81 (.bool true), ce P "BaseException" 82 (.type "BaseException"), ce P "BaseExceptionGroup" 83 (.type "BaseExceptionGroup"), ce P "Exception" 84 (.type "Exception"), ce P "GeneratorExit" 85 (.type "GeneratorExit"), ce P "KeyboardInterrupt" 86 (.type "KeyboardInterrupt"), ce P "SystemExit" 87 (.type "SystemExit"), ce P "ArithmeticError" 88 (.type "ArithmeticError"), ce P "AssertionError" 89 (.type "AssertionError"), ce P "AttributeError" 90 (.type "AttributeError"), ce P "BufferError" 91 (.type "BufferError"), ce P "EOFError" 92 (.type "EOFError"), ce P "ImportError" 93 (.type "ImportError"), ce P "LookupError" 94 (.type "LookupError"), ce P "MemoryError" 95 (.type "MemoryError"), ce P "NameError" 96 (.type "NameError"), ce P "OSError" 97 (.type "OSError"), ce P "ReferenceError" 98 (.type "ReferenceError"), ce P "RuntimeError" 99 (.type "RuntimeError"), ce P "StopAsyncIteration" 100 (.type "StopAsyncIteration"), ce P "StopIteration" 101 (.type "StopIteration"), ce P "SyntaxError" 102 (.type "SyntaxError"), ce P "SystemError" 103 (.type "SystemError"), ce P "TypeError" 104 (.type "TypeError"), ce P "ValueError" 105 (.type "ValueError"), ce P "Warning" 106 (.type "Warning"), ce P "FloatingPointError" 107 (.type "FloatingPointError"), ce P "OverflowError" 108 (.type "OverflowError"), ce P "ZeroDivisionError" 109 (.type "ZeroDivisionError"), ce P "BytesWarning" 110 (.type "BytesWarning"), ce P "DeprecationWarning" 111 (.type "DeprecationWarning"), ce P "EncodingWarning" 112 (.type "EncodingWarning"), ce P "FutureWarning" 113 (.type "FutureWarning"), ce P "ImportWarning" 114 (.type "ImportWarning"), ce P "PendingDeprecationWarning" 115 (.type "PendingDeprecationWarning"), ce P "ResourceWarning" 116 (.type "ResourceWarning"), ce P "RuntimeWarning" 117 (.type "RuntimeWarning"), ce P "SyntaxWarning" 118 (.type "SyntaxWarning"), ce P "UnicodeWarning" 119 (.type "UnicodeWarning"), ce P "UserWarning" 120 (.type "UserWarning"), ce P "BlockingIOError" 121 (.type "BlockingIOError"), ce P "ChildProcessError" 122 (.type "ChildProcessError"), ce P "ConnectionError" 123 (.type "ConnectionError"), ce P "FileExistsError" 124 (.type "FileExistsError"), ce P "FileNotFoundError" 125 (.type "FileNotFoundError"), ce P "InterruptedError" 126 (.type "InterruptedError"), ce P "IsADirectoryError" 127 (.type "IsADirectoryError"), ce P "NotADirectoryError" 128 (.type "NotADirectoryError"), ce P "PermissionError" 129 (.type "PermissionError"), ce P "ProcessLookupError" 130 (.type "ProcessLookupError"), ce P "TimeoutError" 131 (.type "TimeoutError"), ce P "IndentationError" 132 (.type "IndentationError"), ce P "_IncompleteInputError" 133 (.type "_IncompleteInputError"), ce P "IndexError" 134 (.type "IndexError"), ce P "KeyError" 135 (.type "KeyError"), ce P "ModuleNotFoundError" 136 (.type "ModuleNotFoundError"), ce P "NotImplementedError" 137 (.type "NotImplementedError"), ce P "PythonFinalizationError" 138 (.type "PythonFinalizationError"), ce P "RecursionError" 139 (.type "RecursionError"), ce P "UnboundLocalError" 140 (.type "UnboundLocalError"), ce P "UnicodeError" 141 (.type "UnicodeError"), ce P "BrokenPipeError" 142 (.type "BrokenPipeError"), ce P "ConnectionAbortedError" 143 (.type "ConnectionAbortedError"), ce P "ConnectionRefusedError" 144 (.type "ConnectionRefusedError"), ce P "ConnectionResetError" 145 (.type "ConnectionResetError"), ce P "TabError" 146 (.type "TabError"), ce P "UnicodeDecodeError" 147 (.type "UnicodeDecodeError"), ce P "UnicodeEncodeError" 148 (.type "UnicodeEncodeError"), ce P "UnicodeTranslateError" 149 (.type "UnicodeTranslateError"), ce P "ExceptionGroup" 150 (.type "ExceptionGroup"), ce P "EnvironmentError" 151 (.type "OSError"), ce P "IOError" 152 (.type "OSError"), ce P "open" 153 (.builtin "open"), ce P "quit" 154 (.builtin "builtins.quit#opaque"), ce P "exit" 155 (.builtin "builtins.exit#opaque"), ce P "copyright" 156 (.builtin "builtins.copyright#opaque"), ce P "credits" 157 (.builtin "builtins.credits#opaque"), ce P "license" 158 (.builtin "builtins.license#opaque"), ce P "help" 159 (.builtin "builtins.help#opaque")] 159), #[]⟩
noncomputable def o1 (P : Params) : Obj := ⟨.type "dict", none, (.dict #[ce P "builtins" 162 (.ref 4), ce P "__main__" 163 (.ref 5), ce P "math" 285 (.ref 13)] 3), #[]⟩
noncomputable def o2 (P : Params) : Obj := ⟨.none, none, (.dict #[ce P "import.loaded.math" 186 (.bool true), ce P (PySem.Str.mk #[99, 108, 97, 115, 115, 46, 95, 102, 114, 111, 122, 101, 110, 95, 105, 109, 112, 111, 114, 116, 108, 105, 98, 95, 101, 120, 116, 101, 114, 110, 97, 108, 46, 95, 76, 111, 97, 100, 101, 114, 66, 97, 115, 105, 99, 115]) 191 (.ref 16), ce P "watched.import" 207 (.ref 20), ce P (PySem.Str.mk #[99, 108, 97, 115, 115, 46, 95, 102, 114, 111, 122, 101, 110, 95, 105, 109, 112, 111, 114, 116, 108, 105, 98, 95, 101, 120, 116, 101, 114, 110, 97, 108, 46, 70, 105, 108, 101, 76, 111, 97, 100, 101, 114]) 208 (.ref 22), ce P (PySem.Str.mk #[99, 108, 97, 115, 115, 46, 95, 102, 114, 111, 122, 101, 110, 95, 105, 109, 112, 111, 114, 116, 108, 105, 98, 95, 101, 120, 116, 101, 114, 110, 97, 108, 46, 69, 120, 116, 101, 110, 115, 105, 111, 110, 70, 105, 108, 101, 76, 111, 97, 100, 101, 114]) 229 (.ref 27), ce P "class._frozen_importlib.ModuleSpec" 257 (.ref 33), ce P "sys.modules.booked-epoch" 286 (.int 3 0), ce P "import.later-laid.math" 362 (.bool true), ce P "watched.library" 364 (.ref 38), ce P "watched.library-objects" 0 (.str "\x0d" 0)] 10), #[]⟩
noncomputable def o3 (P : Params) : Obj := ⟨.type "dict", none, (.dict #[ce P "__name__" 165 (.str "__main__" 164), ce P "__doc__" 166 .none, ce P "__package__" 167 .none, ce P "__loader__" 168 (.builtin "__main__.__loader__#opaque"), ce P "__spec__" 169 .none, ce P "__annotations__" 170 (.ref 6), ce P "__builtins__" 171 (.ref 4), ce P "__file__" 173 (.str "/claim/cut.py" 172), ce P "__cached__" 174 .none, ce P "gcd" 370 (.builtin "math.gcd"), ce P "lcm" 373 (.builtin "math.lcm")] 11), #[]⟩
noncomputable def o4 (P : Params) : Obj := ⟨.type "module", (some 0), .plain, #[]⟩
noncomputable def o5 (P : Params) : Obj := ⟨.type "module", (some 3), .plain, #[]⟩
noncomputable def o6 (P : Params) : Obj := ⟨.type "dict", none, (.dict #[] 0), #[]⟩
noncomputable def o7 (P : Params) : Obj := ⟨.type "tuple", none, (.seq #[] 0), #[]⟩
noncomputable def o8 (P : Params) : Obj := ⟨.none, none, (.fields #[]), #[]⟩
noncomputable def o9 (P : Params) : Obj := ⟨.type "code", none, (.fields #[.str "<module>" 176, .str "<module>" 177, .str "/claim/cut.py" 178, .int 1 0, .int 0 0, .int 0 0, .int 0 0, .int 0 0, .ref 7, .bool false, .int 175 0, .ref 8, .none, .none, .none, .none, .int 179 0, .int 1 0, .str "/claim/cut.py" 180]), #[]⟩
noncomputable def o10 (P : Params) : Obj := ⟨.type "frame", none, .plain, #[some (.ref 9), some (.ref 3), some (.ref 3), none, some (.str "__main__" 164), none, some (.ref 0)]⟩
noncomputable def o11 (P : Params) : Obj := ⟨.type "tuple", none, (.seq #[.str "gcd" 182, .str "lcm" 183] 0), #[]⟩
noncomputable def o12 (P : Params) : Obj := ⟨.type "dict", none, (.dict #[ce P "__name__" 288 (.str "math" 287), ce P "__doc__" 289 (.builtin "math.__doc__:str#opaque"), ce P "__package__" 291 (.str "" 290), ce P "__loader__" 292 (.ref 29), ce P "__spec__" 293 (.ref 37), ce P "acos" 294 (.builtin "math.acos"), ce P "acosh" 295 (.builtin "math.acosh"), ce P "asin" 296 (.builtin "math.asin"), ce P "asinh" 297 (.builtin "math.asinh"), ce P "atan" 298 (.builtin "math.atan"), ce P "atan2" 299 (.builtin "math.atan2"), ce P "atanh" 300 (.builtin "math.atanh"), ce P "cbrt" 301 (.builtin "math.cbrt"), ce P "ceil" 302 (.builtin "math.ceil"), ce P "copysign" 303 (.builtin "math.copysign"), ce P "cos" 304 (.builtin "math.cos"), ce P "cosh" 305 (.builtin "math.cosh"), ce P "degrees" 306 (.builtin "math.degrees"), ce P "dist" 307 (.builtin "math.dist"), ce P "erf" 308 (.builtin "math.erf"), ce P "erfc" 309 (.builtin "math.erfc"), ce P "exp" 310 (.builtin "math.exp"), ce P "exp2" 311 (.builtin "math.exp2"), ce P "expm1" 312 (.builtin "math.expm1"), ce P "fabs" 313 (.builtin "math.fabs"), ce P "factorial" 314 (.builtin "math.factorial"), ce P "floor" 315 (.builtin "math.floor"), ce P "fma" 316 (.builtin "math.fma"), ce P "fmod" 317 (.builtin "math.fmod"), ce P "frexp" 318 (.builtin "math.frexp"), ce P "fsum" 319 (.builtin "math.fsum"), ce P "gamma" 320 (.builtin "math.gamma"), ce P "gcd" 321 (.builtin "math.gcd"), ce P "hypot" 322 (.builtin "math.hypot"), ce P "isclose" 323 (.builtin "math.isclose"), ce P "isfinite" 324 (.builtin "math.isfinite"), ce P "isinf" 325 (.builtin "math.isinf"), ce P "isnan" 326 (.builtin "math.isnan"), ce P "isqrt" 327 (.builtin "math.isqrt"), ce P "lcm" 328 (.builtin "math.lcm"), ce P "ldexp" 329 (.builtin "math.ldexp"), ce P "lgamma" 330 (.builtin "math.lgamma"), ce P "log" 331 (.builtin "math.log"), ce P "log1p" 332 (.builtin "math.log1p"), ce P "log10" 333 (.builtin "math.log10"), ce P "log2" 334 (.builtin "math.log2"), ce P "modf" 335 (.builtin "math.modf"), ce P "pow" 336 (.builtin "math.pow"), ce P "radians" 337 (.builtin "math.radians"), ce P "remainder" 338 (.builtin "math.remainder"), ce P "sin" 339 (.builtin "math.sin"), ce P "sinh" 340 (.builtin "math.sinh"), ce P "sqrt" 341 (.builtin "math.sqrt"), ce P "tan" 342 (.builtin "math.tan"), ce P "tanh" 343 (.builtin "math.tanh"), ce P "sumprod" 344 (.builtin "math.sumprod"), ce P "trunc" 345 (.builtin "math.trunc"), ce P "prod" 346 (.builtin "math.prod"), ce P "perm" 347 (.builtin "math.perm"), ce P "comb" 348 (.builtin "math.comb"), ce P "nextafter" 349 (.builtin "math.nextafter"), ce P "ulp" 350 (.builtin "math.ulp"), ce P "__file__" 351 (.str (PySem.Str.mk #[47, 110, 105, 120, 47, 115, 116, 111, 114, 101, 47, 119, 106, 49, 102, 53, 54, 113, 107, 121, 52, 112, 109, 106, 99, 55, 108, 48, 114, 54, 98, 54, 108, 55, 119, 104, 110, 110, 119, 55, 104, 112, 54, 45, 112, 121, 116, 104, 111, 110, 51, 45, 51, 46, 49, 51, 46, 49, 53, 47, 108, 105, 98, 47, 112, 121, 116, 104, 111, 110, 51, 46, 49, 51, 47, 108, 105, 98, 45, 100, 121, 110, 108, 111, 97, 100, 47, 109, 97, 116, 104, 46, 99, 112, 121, 116, 104, 111, 110, 45, 51, 49, 51, 45, 120, 56, 54, 95, 54, 52, 45, 108, 105, 110, 117, 120, 45, 103, 110, 117, 46, 115, 111]) 187), ce P "pi" 353 (.float 4614256656552045848 352), ce P "e" 355 (.float 4613303445314885481 354), ce P "tau" 357 (.float 4618760256179416344 356), ce P "inf" 359 (.float 9218868437227405312 358), ce P "nan" 361 (.float 9221120237041090560 360)] 68), #[]⟩
noncomputable def o13 (P : Params) : Obj := ⟨.type "module", (some 12), .plain, #[]⟩
noncomputable def o14 (P : Params) : Obj := ⟨.type "dict", none, (.dict #[ce P "name" 189 (.str "math" 188), ce P "path" 190 (.str (PySem.Str.mk #[47, 110, 105, 120, 47, 115, 116, 111, 114, 101, 47, 119, 106, 49, 102, 53, 54, 113, 107, 121, 52, 112, 109, 106, 99, 55, 108, 48, 114, 54, 98, 54, 108, 55, 119, 104, 110, 110, 119, 55, 104, 112, 54, 45, 112, 121, 116, 104, 111, 110, 51, 45, 51, 46, 49, 51, 46, 49, 53, 47, 108, 105, 98, 47, 112, 121, 116, 104, 111, 110, 51, 46, 49, 51, 47, 108, 105, 98, 45, 100, 121, 110, 108, 111, 97, 100, 47, 109, 97, 116, 104, 46, 99, 112, 121, 116, 104, 111, 110, 45, 51, 49, 51, 45, 120, 56, 54, 95, 54, 52, 45, 108, 105, 110, 117, 120, 45, 103, 110, 117, 46, 115, 111]) 187)] 2), #[]⟩
noncomputable def o15 (P : Params) : Obj := ⟨.type "dict", none, (.dict #[ce P "__module__" 194 (.str "_frozen_importlib_external" 192), ce P "__firstlineno__" 195 (.int 1001 193), ce P "__doc__" 196 (.builtin "_frozen_importlib_external._LoaderBasics.__doc__:str#opaque"), ce P "is_package" 197 (.builtin "_frozen_importlib_external._LoaderBasics.is_package#opaque"), ce P "create_module" 198 (.builtin "_frozen_importlib_external._LoaderBasics.create_module#opaque"), ce P "exec_module" 199 (.builtin "_frozen_importlib_external._LoaderBasics.exec_module#opaque"), ce P "load_module" 200 (.builtin "_frozen_importlib_external._LoaderBasics.load_module#opaque"), ce P "__static_attributes__" 201 (.ref 17), ce P "__dict__" 203 (.ref 18), ce P "__weakref__" 205 (.ref 19)] 10), #[]⟩
noncomputable def o16 (P : Params) : Obj := ⟨.type "type", none, (.cls ⟨"_LoaderBasics", [.type "object"], [.ref 16, .type "object"], 15, "_LoaderBasics", true, [], [.ref 27], false, none, false⟩), #[]⟩
noncomputable def o17 (P : Params) : Obj := ⟨.type "tuple", none, (.seq #[] 0), #[]⟩
noncomputable def o18 (P : Params) : Obj := ⟨.type "getset_descriptor", none, (.fields #[.str "__dict__" 202, .ref 16, .builtin "function.__dict__", .builtin "function.__dict__#set"]), #[]⟩
noncomputable def o19 (P : Params) : Obj := ⟨.type "getset_descriptor", none, (.fields #[.str "__weakref__" 204, .ref 16, .builtin "ExceptionGroup.__weakref__", .none]), #[]⟩
noncomputable def o20 (P : Params) : Obj := ⟨.none, none, (.seq #[.int 15 0, .str (PySem.Str.mk #[6, 194, 10, 95, 95, 109, 111, 100, 117, 108, 101, 95, 95, 6, 192, 26, 95, 102, 114, 111, 122, 101, 110, 95, 105, 109, 112, 111, 114, 116, 108, 105, 98, 95, 101, 120, 116, 101, 114, 110, 97, 108, 6, 195, 15, 95, 95, 102, 105, 114, 115, 116, 108, 105, 110, 101, 110, 111, 95, 95, 4, 193, 0, 1001, 6, 196, 7, 95, 95, 100, 111, 99, 95, 95, 9, 59, 95, 102, 114, 111, 122, 101, 110, 95, 105, 109, 112, 111, 114, 116, 108, 105, 98, 95, 101, 120, 116, 101, 114, 110, 97, 108, 46, 95, 76, 111, 97, 100, 101, 114, 66, 97, 115, 105, 99, 115, 46, 95, 95, 100, 111, 99, 95, 95, 58, 115, 116, 114, 35, 111, 112, 97, 113, 117, 101, 6, 197, 10, 105, 115, 95, 112, 97, 99, 107, 97, 103, 101, 9, 58, 95, 102, 114, 111, 122, 101, 110, 95, 105, 109, 112, 111, 114, 116, 108, 105, 98, 95, 101, 120, 116, 101, 114, 110, 97, 108, 46, 95, 76, 111, 97, 100, 101, 114, 66, 97, 115, 105, 99, 115, 46, 105, 115, 95, 112, 97, 99, 107, 97, 103, 101, 35, 111, 112, 97, 113, 117, 101, 6, 198, 13, 99, 114, 101, 97, 116, 101, 95, 109, 111, 100, 117, 108, 101, 9, 61, 95, 102, 114, 111, 122, 101, 110, 95, 105, 109, 112, 111, 114, 116, 108, 105, 98, 95, 101, 120, 116, 101, 114, 110, 97, 108, 46, 95, 76, 111, 97, 100, 101, 114, 66, 97, 115, 105, 99, 115, 46, 99, 114, 101, 97, 116, 101, 95, 109, 111, 100, 117, 108, 101, 35, 111, 112, 97, 113, 117, 101, 6, 199, 11, 101, 120, 101, 99, 95, 109, 111, 100, 117, 108, 101, 9, 59, 95, 102, 114, 111, 122, 101, 110, 95, 105, 109, 112, 111, 114, 116, 108, 105, 98, 95, 101, 120, 116, 101, 114, 110, 97, 108, 46, 95, 76, 111, 97, 100, 101, 114, 66, 97, 115, 105, 99, 115, 46, 101, 120, 101, 99, 95, 109, 111, 100, 117, 108, 101, 35, 111, 112, 97, 113, 117, 101, 6, 200, 11, 108, 111, 97, 100, 95, 109, 111, 100, 117, 108, 101, 9, 59, 95, 102, 114, 111, 122, 101, 110, 95, 105, 109, 112, 111, 114, 116, 108, 105, 98, 95, 101, 120, 116, 101, 114, 110, 97, 108, 46, 95, 76, 111, 97, 100, 101, 114, 66, 97, 115, 105, 99, 115, 46, 108, 111, 97, 100, 95, 109, 111, 100, 117, 108, 101, 35, 111, 112, 97, 113, 117, 101, 6, 201, 21, 95, 95, 115, 116, 97, 116, 105, 99, 95, 97, 116, 116, 114, 105, 98, 117, 116, 101, 115, 95, 95, 4, 0, 0, 17, 6, 203, 8, 95, 95, 100, 105, 99, 116, 95, 95, 4, 0, 0, 18, 6, 205, 11, 95, 95, 119, 101, 97, 107, 114, 101, 102, 95, 95, 4, 0, 0, 19]) 0, .bool true, .bool true, .str "" 206, .int 21 0, .str (PySem.Str.mk #[6, 213, 10, 95, 95, 109, 111, 100, 117, 108, 101, 95, 95, 6, 209, 26, 95, 102, 114, 111, 122, 101, 110, 95, 105, 109, 112, 111, 114, 116, 108, 105, 98, 95, 101, 120, 116, 101, 114, 110, 97, 108, 6, 214, 15, 95, 95, 102, 105, 114, 115, 116, 108, 105, 110, 101, 110, 111, 95, 95, 4, 210, 0, 1176, 6, 215, 7, 95, 95, 100, 111, 99, 95, 95, 9, 56, 95, 102, 114, 111, 122, 101, 110, 95, 105, 109, 112, 111, 114, 116, 108, 105, 98, 95, 101, 120, 116, 101, 114, 110, 97, 108, 46, 70, 105, 108, 101, 76, 111, 97, 100, 101, 114, 46, 95, 95, 100, 111, 99, 95, 95, 58, 115, 116, 114, 35, 111, 112, 97, 113, 117, 101, 6, 216, 8, 95, 95, 105, 110, 105, 116, 95, 95, 9, 53, 95, 102, 114, 111, 122, 101, 110, 95, 105, 109, 112, 111, 114, 116, 108, 105, 98, 95, 101, 120, 116, 101, 114, 110, 97, 108, 46, 70, 105, 108, 101, 76, 111, 97, 100, 101, 114, 46, 95, 95, 105, 110, 105, 116, 95, 95, 35, 111, 112, 97, 113, 117, 101, 6, 217, 6, 95, 95, 101, 113, 95, 95, 9, 51, 95, 102, 114, 111, 122, 101, 110, 95, 105, 109, 112, 111, 114, 116, 108, 105, 98, 95, 101, 120, 116, 101, 114, 110, 97, 108, 46, 70, 105, 108, 101, 76, 111, 97, 100, 101, 114, 46, 95, 95, 101, 113, 95, 95, 35, 111, 112, 97, 113, 117, 101, 6, 218, 8, 95, 95, 104, 97, 115, 104, 95, 95, 9, 53, 95, 102, 114, 111, 122, 101, 110, 95, 105, 109, 112, 111, 114, 116, 108, 105, 98, 95, 101, 120, 116, 101, 114, 110, 97, 108, 46, 70, 105, 108, 101, 76, 111, 97, 100, 101, 114, 46, 95, 95, 104, 97, 115, 104, 95, 95, 35, 111, 112, 97, 113, 117, 101, 6, 219, 11, 108, 111, 97, 100, 95, 109, 111, 100, 117, 108, 101, 9, 56, 95, 102, 114, 111, 122, 101, 110, 95, 105, 109, 112, 111, 114, 116, 108, 105, 98, 95, 101, 120, 116, 101, 114, 110, 97, 108, 46, 70, 105, 108, 101, 76, 111, 97, 100, 101, 114, 46, 108, 111, 97, 100, 95, 109, 111, 100, 117, 108, 101, 35, 111, 112, 97, 113, 117, 101, 6, 220, 12, 103, 101, 116, 95, 102, 105, 108, 101, 110, 97, 109, 101, 9, 57, 95, 102, 114, 111, 122, 101, 110, 95, 105, 109, 112, 111, 114, 116, 108, 105, 98, 95, 101, 120, 116, 101, 114, 110, 97, 108, 46, 70, 105, 108, 101, 76, 111, 97, 100, 101, 114, 46, 103, 101, 116, 95, 102, 105, 108, 101, 110, 97, 109, 101, 35, 111, 112, 97, 113, 117, 101, 6, 221, 8, 103, 101, 116, 95, 100, 97, 116, 97, 9, 53, 95, 102, 114, 111, 122, 101, 110, 95, 105, 109, 112, 111, 114, 116, 108, 105, 98, 95, 101, 120, 116, 101, 114, 110, 97, 108, 46, 70, 105, 108, 101, 76, 111, 97, 100, 101, 114, 46, 103, 101, 116, 95, 100, 97, 116, 97, 35, 111, 112, 97, 113, 117, 101, 6, 222, 19, 103, 101, 116, 95, 114, 101, 115, 111, 117, 114, 99, 101, 95, 114, 101, 97, 100, 101, 114, 9, 64, 95, 102, 114, 111, 122, 101, 110, 95, 105, 109, 112, 111, 114, 116, 108, 105, 98, 95, 101, 120, 116, 101, 114, 110, 97, 108, 46, 70, 105, 108, 101, 76, 111, 97, 100, 101, 114, 46, 103, 101, 116, 95, 114, 101, 115, 111, 117, 114, 99, 101, 95, 114, 101, 97, 100, 101, 114, 35, 111, 112, 97, 113, 117, 101, 6, 223, 21, 95, 95, 115, 116, 97, 116, 105, 99, 95, 97, 116, 116, 114, 105, 98, 117, 116, 101, 115, 95, 95, 4, 0, 0, 23, 6, 225, 8, 95, 95, 100, 105, 99, 116, 95, 95, 4, 0, 0, 24, 6, 227, 11, 95, 95, 119, 101, 97, 107, 114, 101, 102, 95, 95, 4, 0, 0, 25]) 0, .bool true, .bool true, .str "" 228, .int 26 0, .str (PySem.Str.mk #[6, 234, 10, 95, 95, 109, 111, 100, 117, 108, 101, 95, 95, 6, 230, 26, 95, 102, 114, 111, 122, 101, 110, 95, 105, 109, 112, 111, 114, 116, 108, 105, 98, 95, 101, 120, 116, 101, 114, 110, 97, 108, 6, 235, 15, 95, 95, 102, 105, 114, 115, 116, 108, 105, 110, 101, 110, 111, 95, 95, 4, 231, 0, 1296, 6, 236, 7, 95, 95, 100, 111, 99, 95, 95, 9, 65, 95, 102, 114, 111, 122, 101, 110, 95, 105, 109, 112, 111, 114, 116, 108, 105, 98, 95, 101, 120, 116, 101, 114, 110, 97, 108, 46, 69, 120, 116, 101, 110, 115, 105, 111, 110, 70, 105, 108, 101, 76, 111, 97, 100, 101, 114, 46, 95, 95, 100, 111, 99, 95, 95, 58, 115, 116, 114, 35, 111, 112, 97, 113, 117, 101, 6, 237, 8, 95, 95, 105, 110, 105, 116, 95, 95, 9, 62, 95, 102, 114, 111, 122, 101, 110, 95, 105, 109, 112, 111, 114, 116, 108, 105, 98, 95, 101, 120, 116, 101, 114, 110, 97, 108, 46, 69, 120, 116, 101, 110, 115, 105, 111, 110, 70, 105, 108, 101, 76, 111, 97, 100, 101, 114, 46, 95, 95, 105, 110, 105, 116, 95, 95, 35, 111, 112, 97, 113, 117, 101, 6, 238, 6, 95, 95, 101, 113, 95, 95, 9, 60, 95, 102, 114, 111, 122, 101, 110, 95, 105, 109, 112, 111, 114, 116, 108, 105, 98, 95, 101, 120, 116, 101, 114, 110, 97, 108, 46, 69, 120, 116, 101, 110, 115, 105, 111, 110, 70, 105, 108, 101, 76, 111, 97, 100, 101, 114, 46, 95, 95, 101, 113, 95, 95, 35, 111, 112, 97, 113, 117, 101, 6, 239, 8, 95, 95, 104, 97, 115, 104, 95, 95, 9, 62, 95, 102, 114, 111, 122, 101, 110, 95, 105, 109, 112, 111, 114, 116, 108, 105, 98, 95, 101, 120, 116, 101, 114, 110, 97, 108, 46, 69, 120, 116, 101, 110, 115, 105, 111, 110, 70, 105, 108, 101, 76, 111, 97, 100, 101, 114, 46, 95, 95, 104, 97, 115, 104, 95, 95, 35, 111, 112, 97, 113, 117, 101, 6, 240, 13, 99, 114, 101, 97, 116, 101, 95, 109, 111, 100, 117, 108, 101, 9, 67, 95, 102, 114, 111, 122, 101, 110, 95, 105, 109, 112, 111, 114, 116, 108, 105, 98, 95, 101, 120, 116, 101, 114, 110, 97, 108, 46, 69, 120, 116, 101, 110, 115, 105, 111, 110, 70, 105, 108, 101, 76, 111, 97, 100, 101, 114, 46, 99, 114, 101, 97, 116, 101, 95, 109, 111, 100, 117, 108, 101, 35, 111, 112, 97, 113, 117, 101, 6, 241, 11, 101, 120, 101, 99, 95, 109, 111, 100, 117, 108, 101, 9, 65, 95, 102, 114, 111, 122, 101, 110, 95, 105, 109, 112, 111, 114, 116, 108, 105, 98, 95, 101, 120, 116, 101, 114, 110, 97, 108, 46, 69, 120, 116, 101, 110, 115, 105, 111, 110, 70, 105, 108, 101, 76, 111, 97, 100, 101, 114, 46, 101, 120, 101, 99, 95, 109, 111, 100, 117, 108, 101, 35, 111, 112, 97, 113, 117, 101, 6, 242, 10, 105, 115, 95, 112, 97, 99, 107, 97, 103, 101, 9, 64, 95, 102, 114, 111, 122, 101, 110, 95, 105, 109, 112, 111, 114, 116, 108, 105, 98, 95, 101, 120, 116, 101, 114, 110, 97, 108, 46, 69, 120, 116, 101, 110, 115, 105, 111, 110, 70, 105, 108, 101, 76, 111, 97, 100, 101, 114, 46, 105, 115, 95, 112, 97, 99, 107, 97, 103, 101, 35, 111, 112, 97, 113, 117, 101, 6, 243, 8, 103, 101, 116, 95, 99, 111, 100, 101, 9, 62, 95, 102, 114, 111, 122, 101, 110, 95, 105, 109, 112, 111, 114, 116, 108, 105, 98, 95, 101, 120, 116, 101, 114, 110, 97, 108, 46, 69, 120, 116, 101, 110, 115, 105, 111, 110, 70, 105, 108, 101, 76, 111, 97, 100, 101, 114, 46, 103, 101, 116, 95, 99, 111, 100, 101, 35, 111, 112, 97, 113, 117, 101, 6, 244, 10, 103, 101, 116, 95, 115, 111, 117, 114, 99, 101, 9, 64, 95, 102, 114, 111, 122, 101, 110, 95, 105, 109, 112, 111, 114, 116, 108, 105, 98, 95, 101, 120, 116, 101, 114, 110, 97, 108, 46, 69, 120, 116, 101, 110, 115, 105, 111, 110, 70, 105, 108, 101, 76, 111, 97, 100, 101, 114, 46, 103, 101, 116, 95, 115, 111, 117, 114, 99, 101, 35, 111, 112, 97, 113, 117, 101, 6, 245, 12, 103, 101, 116, 95, 102, 105, 108, 101, 110, 97, 109, 101, 9, 66, 95, 102, 114, 111, 122, 101, 110, 95, 105, 109, 112, 111, 114, 116, 108, 105, 98, 95, 101, 120, 116, 101, 114, 110, 97, 108, 46, 69, 120, 116, 101, 110, 115, 105, 111, 110, 70, 105, 108, 101, 76, 111, 97, 100, 101, 114, 46, 103, 101, 116, 95, 102, 105, 108, 101, 110, 97, 109, 101, 35, 111, 112, 97, 113, 117, 101, 6, 246, 21, 95, 95, 115, 116, 97, 116, 105, 99, 95, 97, 116, 116, 114, 105, 98, 117, 116, 101, 115, 95, 95, 4, 0, 0, 28]) 0, .bool true, .bool true, .str "" 247, .int 32 0, .str (PySem.Str.mk #[6, 268, 10, 95, 95, 109, 111, 100, 117, 108, 101, 95, 95, 6, 258, 17, 95, 102, 114, 111, 122, 101, 110, 95, 105, 109, 112, 111, 114, 116, 108, 105, 98, 6, 269, 15, 95, 95, 102, 105, 114, 115, 116, 108, 105, 110, 101, 110, 111, 95, 95, 4, 259, 0, 562, 6, 270, 7, 95, 95, 100, 111, 99, 95, 95, 9, 47, 95, 102, 114, 111, 122, 101, 110, 95, 105, 109, 112, 111, 114, 116, 108, 105, 98, 46, 77, 111, 100, 117, 108, 101, 83, 112, 101, 99, 46, 95, 95, 100, 111, 99, 95, 95, 58, 115, 116, 114, 35, 111, 112, 97, 113, 117, 101, 6, 271, 8, 95, 95, 105, 110, 105, 116, 95, 95, 9, 44, 95, 102, 114, 111, 122, 101, 110, 95, 105, 109, 112, 111, 114, 116, 108, 105, 98, 46, 77, 111, 100, 117, 108, 101, 83, 112, 101, 99, 46, 95, 95, 105, 110, 105, 116, 95, 95, 35, 111, 112, 97, 113, 117, 101, 6, 272, 8, 95, 95, 114, 101, 112, 114, 95, 95, 9, 44, 95, 102, 114, 111, 122, 101, 110, 95, 105, 109, 112, 111, 114, 116, 108, 105, 98, 46, 77, 111, 100, 117, 108, 101, 83, 112, 101, 99, 46, 95, 95, 114, 101, 112, 114, 95, 95, 35, 111, 112, 97, 113, 117, 101, 6, 273, 6, 95, 95, 101, 113, 95, 95, 9, 42, 95, 102, 114, 111, 122, 101, 110, 95, 105, 109, 112, 111, 114, 116, 108, 105, 98, 46, 77, 111, 100, 117, 108, 101, 83, 112, 101, 99, 46, 95, 95, 101, 113, 95, 95, 35, 111, 112, 97, 113, 117, 101, 6, 274, 6, 99, 97, 99, 104, 101, 100, 9, 42, 95, 102, 114, 111, 122, 101, 110, 95, 105, 109, 112, 111, 114, 116, 108, 105, 98, 46, 77, 111, 100, 117, 108, 101, 83, 112, 101, 99, 46, 99, 97, 99, 104, 101, 100, 35, 111, 112, 97, 113, 117, 101, 6, 275, 6, 112, 97, 114, 101, 110, 116, 9, 42, 95, 102, 114, 111, 122, 101, 110, 95, 105, 109, 112, 111, 114, 116, 108, 105, 98, 46, 77, 111, 100, 117, 108, 101, 83, 112, 101, 99, 46, 112, 97, 114, 101, 110, 116, 35, 111, 112, 97, 113, 117, 101, 6, 276, 12, 104, 97, 115, 95, 108, 111, 99, 97, 116, 105, 111, 110, 9, 48, 95, 102, 114, 111, 122, 101, 110, 95, 105, 109, 112, 111, 114, 116, 108, 105, 98, 46, 77, 111, 100, 117, 108, 101, 83, 112, 101, 99, 46, 104, 97, 115, 95, 108, 111, 99, 97, 116, 105, 111, 110, 35, 111, 112, 97, 113, 117, 101, 6, 277, 21, 95, 95, 115, 116, 97, 116, 105, 99, 95, 97, 116, 116, 114, 105, 98, 117, 116, 101, 115, 95, 95, 4, 0, 0, 34, 6, 279, 8, 95, 95, 100, 105, 99, 116, 95, 95, 4, 0, 0, 35, 6, 281, 11, 95, 95, 119, 101, 97, 107, 114, 101, 102, 95, 95, 4, 0, 0, 36, 6, 282, 8, 95, 95, 104, 97, 115, 104, 95, 95, 0]) 0, .bool true, .bool true, .str "" 283] 3), #[]⟩
noncomputable def o21 (P : Params) : Obj := ⟨.type "dict", none, (.dict #[ce P "__module__" 213 (.str "_frozen_importlib_external" 209), ce P "__firstlineno__" 214 (.int 1176 210), ce P "__doc__" 215 (.builtin "_frozen_importlib_external.FileLoader.__doc__:str#opaque"), ce P "__init__" 216 (.builtin "_frozen_importlib_external.FileLoader.__init__#opaque"), ce P "__eq__" 217 (.builtin "_frozen_importlib_external.FileLoader.__eq__#opaque"), ce P "__hash__" 218 (.builtin "_frozen_importlib_external.FileLoader.__hash__#opaque"), ce P "load_module" 219 (.builtin "_frozen_importlib_external.FileLoader.load_module#opaque"), ce P "get_filename" 220 (.builtin "_frozen_importlib_external.FileLoader.get_filename#opaque"), ce P "get_data" 221 (.builtin "_frozen_importlib_external.FileLoader.get_data#opaque"), ce P "get_resource_reader" 222 (.builtin "_frozen_importlib_external.FileLoader.get_resource_reader#opaque"), ce P "__static_attributes__" 223 (.ref 23), ce P "__dict__" 225 (.ref 24), ce P "__weakref__" 227 (.ref 25)] 13), #[]⟩
noncomputable def o22 (P : Params) : Obj := ⟨.type "type", none, (.cls ⟨"FileLoader", [.type "object"], [.ref 22, .type "object"], 21, "FileLoader", true, [], [.ref 27], false, none, false⟩), #[]⟩
noncomputable def o23 (P : Params) : Obj := ⟨.type "tuple", none, (.seq #[.str "name" 211, .str "path" 212] 0), #[]⟩
noncomputable def o24 (P : Params) : Obj := ⟨.type "getset_descriptor", none, (.fields #[.str "__dict__" 224, .ref 22, .builtin "function.__dict__", .builtin "function.__dict__#set"]), #[]⟩
noncomputable def o25 (P : Params) : Obj := ⟨.type "getset_descriptor", none, (.fields #[.str "__weakref__" 226, .ref 22, .builtin "ExceptionGroup.__weakref__", .none]), #[]⟩
noncomputable def o26 (P : Params) : Obj := ⟨.type "dict", none, (.dict #[ce P "__module__" 234 (.str "_frozen_importlib_external" 230), ce P "__firstlineno__" 235 (.int 1296 231), ce P "__doc__" 236 (.builtin "_frozen_importlib_external.ExtensionFileLoader.__doc__:str#opaque"), ce P "__init__" 237 (.builtin "_frozen_importlib_external.ExtensionFileLoader.__init__#opaque"), ce P "__eq__" 238 (.builtin "_frozen_importlib_external.ExtensionFileLoader.__eq__#opaque"), ce P "__hash__" 239 (.builtin "_frozen_importlib_external.ExtensionFileLoader.__hash__#opaque"), ce P "create_module" 240 (.builtin "_frozen_importlib_external.ExtensionFileLoader.create_module#opaque"), ce P "exec_module" 241 (.builtin "_frozen_importlib_external.ExtensionFileLoader.exec_module#opaque"), ce P "is_package" 242 (.builtin "_frozen_importlib_external.ExtensionFileLoader.is_package#opaque"), ce P "get_code" 243 (.builtin "_frozen_importlib_external.ExtensionFileLoader.get_code#opaque"), ce P "get_source" 244 (.builtin "_frozen_importlib_external.ExtensionFileLoader.get_source#opaque"), ce P "get_filename" 245 (.builtin "_frozen_importlib_external.ExtensionFileLoader.get_filename#opaque"), ce P "__static_attributes__" 246 (.ref 28)] 13), #[]⟩
noncomputable def o27 (P : Params) : Obj := ⟨.type "type", none, (.cls ⟨"ExtensionFileLoader", [.ref 22, .ref 16], [.ref 27, .ref 22, .ref 16, .type "object"], 26, "ExtensionFileLoader", true, [], [], false, none, false⟩), #[]⟩
noncomputable def o28 (P : Params) : Obj := ⟨.type "tuple", none, (.seq #[.str "name" 232, .str "path" 233] 0), #[]⟩
noncomputable def o29 (P : Params) : Obj := ⟨.ref 27, (some 14), .plain, #[]⟩
noncomputable def o30 (P : Params) : Obj := ⟨.type "list", none, (.seq #[] 0), #[]⟩
noncomputable def o31 (P : Params) : Obj := ⟨.type "dict", none, (.dict #[ce P "name" 249 (.str "math" 248), ce P "loader" 250 (.ref 29), ce P "origin" 251 (.str (PySem.Str.mk #[47, 110, 105, 120, 47, 115, 116, 111, 114, 101, 47, 119, 106, 49, 102, 53, 54, 113, 107, 121, 52, 112, 109, 106, 99, 55, 108, 48, 114, 54, 98, 54, 108, 55, 119, 104, 110, 110, 119, 55, 104, 112, 54, 45, 112, 121, 116, 104, 111, 110, 51, 45, 51, 46, 49, 51, 46, 49, 53, 47, 108, 105, 98, 47, 112, 121, 116, 104, 111, 110, 51, 46, 49, 51, 47, 108, 105, 98, 45, 100, 121, 110, 108, 111, 97, 100, 47, 109, 97, 116, 104, 46, 99, 112, 121, 116, 104, 111, 110, 45, 51, 49, 51, 45, 120, 56, 54, 95, 54, 52, 45, 108, 105, 110, 117, 120, 45, 103, 110, 117, 46, 115, 111]) 187), ce P "loader_state" 252 .none, ce P "submodule_search_locations" 253 .none, ce P "_uninitialized_submodules" 254 (.ref 30), ce P "_set_fileattr" 255 (.bool true), ce P "_cached" 256 .none, ce P "_initializing" 284 (.bool false)] 9), #[]⟩
noncomputable def o32 (P : Params) : Obj := ⟨.type "dict", none, (.dict #[ce P "__module__" 268 (.str "_frozen_importlib" 258), ce P "__firstlineno__" 269 (.int 562 259), ce P "__doc__" 270 (.builtin "_frozen_importlib.ModuleSpec.__doc__:str#opaque"), ce P "__init__" 271 (.builtin "_frozen_importlib.ModuleSpec.__init__#opaque"), ce P "__repr__" 272 (.builtin "_frozen_importlib.ModuleSpec.__repr__#opaque"), ce P "__eq__" 273 (.builtin "_frozen_importlib.ModuleSpec.__eq__#opaque"), ce P "cached" 274 (.builtin "_frozen_importlib.ModuleSpec.cached#opaque"), ce P "parent" 275 (.builtin "_frozen_importlib.ModuleSpec.parent#opaque"), ce P "has_location" 276 (.builtin "_frozen_importlib.ModuleSpec.has_location#opaque"), ce P "__static_attributes__" 277 (.ref 34), ce P "__dict__" 279 (.ref 35), ce P "__weakref__" 281 (.ref 36), ce P "__hash__" 282 .none] 13), #[]⟩
noncomputable def o33 (P : Params) : Obj := ⟨.type "type", none, (.cls ⟨"ModuleSpec", [.type "object"], [.ref 33, .type "object"], 32, "ModuleSpec", true, [], [], false, none, false⟩), #[]⟩
noncomputable def o34 (P : Params) : Obj := ⟨.type "tuple", none, (.seq #[.str "_cached" 260, .str "_set_fileattr" 261, .str "_uninitialized_submodules" 262, .str "loader" 263, .str "loader_state" 264, .str "name" 265, .str "origin" 266, .str "submodule_search_locations" 267] 0), #[]⟩
noncomputable def o35 (P : Params) : Obj := ⟨.type "getset_descriptor", none, (.fields #[.str "__dict__" 278, .ref 33, .builtin "function.__dict__", .builtin "function.__dict__#set"]), #[]⟩
noncomputable def o36 (P : Params) : Obj := ⟨.type "getset_descriptor", none, (.fields #[.str "__weakref__" 280, .ref 33, .builtin "ExceptionGroup.__weakref__", .none]), #[]⟩
noncomputable def o37 (P : Params) : Obj := ⟨.ref 33, (some 31), .plain, #[]⟩
noncomputable def o38 (P : Params) : Obj := ⟨.none, none, (.seq #[.int 12 0, .str (PySem.Str.mk #[6, 288, 8, 95, 95, 110, 97, 109, 101, 95, 95, 6, 287, 4, 109, 97, 116, 104, 6, 289, 7, 95, 95, 100, 111, 99, 95, 95, 9, 23, 109, 97, 116, 104, 46, 95, 95, 100, 111, 99, 95, 95, 58, 115, 116, 114, 35, 111, 112, 97, 113, 117, 101, 6, 291, 11, 95, 95, 112, 97, 99, 107, 97, 103, 101, 95, 95, 6, 290, 0, 6, 292, 10, 95, 95, 108, 111, 97, 100, 101, 114, 95, 95, 4, 0, 0, 29, 6, 293, 8, 95, 95, 115, 112, 101, 99, 95, 95, 4, 0, 0, 37, 6, 294, 4, 97, 99, 111, 115, 9, 9, 109, 97, 116, 104, 46, 97, 99, 111, 115, 6, 295, 5, 97, 99, 111, 115, 104, 9, 10, 109, 97, 116, 104, 46, 97, 99, 111, 115, 104, 6, 296, 4, 97, 115, 105, 110, 9, 9, 109, 97, 116, 104, 46, 97, 115, 105, 110, 6, 297, 5, 97, 115, 105, 110, 104, 9, 10, 109, 97, 116, 104, 46, 97, 115, 105, 110, 104, 6, 298, 4, 97, 116, 97, 110, 9, 9, 109, 97, 116, 104, 46, 97, 116, 97, 110, 6, 299, 5, 97, 116, 97, 110, 50, 9, 10, 109, 97, 116, 104, 46, 97, 116, 97, 110, 50, 6, 300, 5, 97, 116, 97, 110, 104, 9, 10, 109, 97, 116, 104, 46, 97, 116, 97, 110, 104, 6, 301, 4, 99, 98, 114, 116, 9, 9, 109, 97, 116, 104, 46, 99, 98, 114, 116, 6, 302, 4, 99, 101, 105, 108, 9, 9, 109, 97, 116, 104, 46, 99, 101, 105, 108, 6, 303, 8, 99, 111, 112, 121, 115, 105, 103, 110, 9, 13, 109, 97, 116, 104, 46, 99, 111, 112, 121, 115, 105, 103, 110, 6, 304, 3, 99, 111, 115, 9, 8, 109, 97, 116, 104, 46, 99, 111, 115, 6, 305, 4, 99, 111, 115, 104, 9, 9, 109, 97, 116, 104, 46, 99, 111, 115, 104, 6, 306, 7, 100, 101, 103, 114, 101, 101, 115, 9, 12, 109, 97, 116, 104, 46, 100, 101, 103, 114, 101, 101, 115, 6, 307, 4, 100, 105, 115, 116, 9, 9, 109, 97, 116, 104, 46, 100, 105, 115, 116, 6, 308, 3, 101, 114, 102, 9, 8, 109, 97, 116, 104, 46, 101, 114, 102, 6, 309, 4, 101, 114, 102, 99, 9, 9, 109, 97, 116, 104, 46, 101, 114, 102, 99, 6, 310, 3, 101, 120, 112, 9, 8, 109, 97, 116, 104, 46, 101, 120, 112, 6, 311, 4, 101, 120, 112, 50, 9, 9, 109, 97, 116, 104, 46, 101, 120, 112, 50, 6, 312, 5, 101, 120, 112, 109, 49, 9, 10, 109, 97, 116, 104, 46, 101, 120, 112, 109, 49, 6, 313, 4, 102, 97, 98, 115, 9, 9, 109, 97, 116, 104, 46, 102, 97, 98, 115, 6, 314, 9, 102, 97, 99, 116, 111, 114, 105, 97, 108, 9, 14, 109, 97, 116, 104, 46, 102, 97, 99, 116, 111, 114, 105, 97, 108, 6, 315, 5, 102, 108, 111, 111, 114, 9, 10, 109, 97, 116, 104, 46, 102, 108, 111, 111, 114, 6, 316, 3, 102, 109, 97, 9, 8, 109, 97, 116, 104, 46, 102, 109, 97, 6, 317, 4, 102, 109, 111, 100, 9, 9, 109, 97, 116, 104, 46, 102, 109, 111, 100, 6, 318, 5, 102, 114, 101, 120, 112, 9, 10, 109, 97, 116, 104, 46, 102, 114, 101, 120, 112, 6, 319, 4, 102, 115, 117, 109, 9, 9, 109, 97, 116, 104, 46, 102, 115, 117, 109, 6, 320, 5, 103, 97, 109, 109, 97, 9, 10, 109, 97, 116, 104, 46, 103, 97, 109, 109, 97, 6, 321, 3, 103, 99, 100, 9, 8, 109, 97, 116, 104, 46, 103, 99, 100, 6, 322, 5, 104, 121, 112, 111, 116, 9, 10, 109, 97, 116, 104, 46, 104, 121, 112, 111, 116, 6, 323, 7, 105, 115, 99, 108, 111, 115, 101, 9, 12, 109, 97, 116, 104, 46, 105, 115, 99, 108, 111, 115, 101, 6, 324, 8, 105, 115, 102, 105, 110, 105, 116, 101, 9, 13, 109, 97, 116, 104, 46, 105, 115, 102, 105, 110, 105, 116, 101, 6, 325, 5, 105, 115, 105, 110, 102, 9, 10, 109, 97, 116, 104, 46, 105, 115, 105, 110, 102, 6, 326, 5, 105, 115, 110, 97, 110, 9, 10, 109, 97, 116, 104, 46, 105, 115, 110, 97, 110, 6, 327, 5, 105, 115, 113, 114, 116, 9, 10, 109, 97, 116, 104, 46, 105, 115, 113, 114, 116, 6, 328, 3, 108, 99, 109, 9, 8, 109, 97, 116, 104, 46, 108, 99, 109, 6, 329, 5, 108, 100, 101, 120, 112, 9, 10, 109, 97, 116, 104, 46, 108, 100, 101, 120, 112, 6, 330, 6, 108, 103, 97, 109, 109, 97, 9, 11, 109, 97, 116, 104, 46, 108, 103, 97, 109, 109, 97, 6, 331, 3, 108, 111, 103, 9, 8, 109, 97, 116, 104, 46, 108, 111, 103, 6, 332, 5, 108, 111, 103, 49, 112, 9, 10, 109, 97, 116, 104, 46, 108, 111, 103, 49, 112, 6, 333, 5, 108, 111, 103, 49, 48, 9, 10, 109, 97, 116, 104, 46, 108, 111, 103, 49, 48, 6, 334, 4, 108, 111, 103, 50, 9, 9, 109, 97, 116, 104, 46, 108, 111, 103, 50, 6, 335, 4, 109, 111, 100, 102, 9, 9, 109, 97, 116, 104, 46, 109, 111, 100, 102, 6, 336, 3, 112, 111, 119, 9, 8, 109, 97, 116, 104, 46, 112, 111, 119, 6, 337, 7, 114, 97, 100, 105, 97, 110, 115, 9, 12, 109, 97, 116, 104, 46, 114, 97, 100, 105, 97, 110, 115, 6, 338, 9, 114, 101, 109, 97, 105, 110, 100, 101, 114, 9, 14, 109, 97, 116, 104, 46, 114, 101, 109, 97, 105, 110, 100, 101, 114, 6, 339, 3, 115, 105, 110, 9, 8, 109, 97, 116, 104, 46, 115, 105, 110, 6, 340, 4, 115, 105, 110, 104, 9, 9, 109, 97, 116, 104, 46, 115, 105, 110, 104, 6, 341, 4, 115, 113, 114, 116, 9, 9, 109, 97, 116, 104, 46, 115, 113, 114, 116, 6, 342, 3, 116, 97, 110, 9, 8, 109, 97, 116, 104, 46, 116, 97, 110, 6, 343, 4, 116, 97, 110, 104, 9, 9, 109, 97, 116, 104, 46, 116, 97, 110, 104, 6, 344, 7, 115, 117, 109, 112, 114, 111, 100, 9, 12, 109, 97, 116, 104, 46, 115, 117, 109, 112, 114, 111, 100, 6, 345, 5, 116, 114, 117, 110, 99, 9, 10, 109, 97, 116, 104, 46, 116, 114, 117, 110, 99, 6, 346, 4, 112, 114, 111, 100, 9, 9, 109, 97, 116, 104, 46, 112, 114, 111, 100, 6, 347, 4, 112, 101, 114, 109, 9, 9, 109, 97, 116, 104, 46, 112, 101, 114, 109, 6, 348, 4, 99, 111, 109, 98, 9, 9, 109, 97, 116, 104, 46, 99, 111, 109, 98, 6, 349, 9, 110, 101, 120, 116, 97, 102, 116, 101, 114, 9, 14, 109, 97, 116, 104, 46, 110, 101, 120, 116, 97, 102, 116, 101, 114, 6, 350, 3, 117, 108, 112, 9, 8, 109, 97, 116, 104, 46, 117, 108, 112, 6, 351, 8, 95, 95, 102, 105, 108, 101, 95, 95, 6, 187, 123, 47, 110, 105, 120, 47, 115, 116, 111, 114, 101, 47, 119, 106, 49, 102, 53, 54, 113, 107, 121, 52, 112, 109, 106, 99, 55, 108, 48, 114, 54, 98, 54, 108, 55, 119, 104, 110, 110, 119, 55, 104, 112, 54, 45, 112, 121, 116, 104, 111, 110, 51, 45, 51, 46, 49, 51, 46, 49, 53, 47, 108, 105, 98, 47, 112, 121, 116, 104, 111, 110, 51, 46, 49, 51, 47, 108, 105, 98, 45, 100, 121, 110, 108, 111, 97, 100, 47, 109, 97, 116, 104, 46, 99, 112, 121, 116, 104, 111, 110, 45, 51, 49, 51, 45, 120, 56, 54, 95, 54, 52, 45, 108, 105, 110, 117, 120, 45, 103, 110, 117, 46, 115, 111, 6, 353, 2, 112, 105, 5, 352, 4614256656552045848, 6, 355, 1, 101, 5, 354, 4613303445314885481, 6, 357, 3, 116, 97, 117, 5, 356, 4618760256179416344, 6, 359, 3, 105, 110, 102, 5, 358, 9218868437227405312, 6, 361, 3, 110, 97, 110, 5, 360, 9221120237041090560]) 0, .bool true, .bool false, .str "math" 363] 0), #[]⟩
noncomputable def Te (P : Params) : BT := (N (o0 P) (N (o1 P) (N (o3 P) (N (o7 P) (N (o15 P) (N (o31 P) L L) L) (N (o23 P) L L)) (N (o11 P) (N (o19 P) (N (o35 P) L L) L) (N (o27 P) L L))) (N (o5 P) (N (o9 P) (N (o17 P) (N (o33 P) L L) L) (N (o25 P) L L)) (N (o13 P) (N (o21 P) (N (o37 P) L L) L) (N (o29 P) L L)))) (N (o2 P) (N (o4 P) (N (o8 P) (N (o16 P) (N (o32 P) L L) L) (N (o24 P) L L)) (N (o12 P) (N (o20 P) (N (o36 P) L L) L) (N (o28 P) L L))) (N (o6 P) (N (o10 P) (N (o18 P) (N (o34 P) L L) L) (N (o26 P) L L)) (N (o14 P) (N (o22 P) (N (o38 P) L L) L) (N (o30 P) L L)))))
noncomputable def Se (w : World) (os : OsState) : SharedT := ⟨Te w.params, 39, {}, #[], {}, 374, os⟩
noncomputable def o0_1 (P : Params) : Obj := ⟨.type "dict", none, (.dict #[ce P "__name__" 1 (.str "builtins" 160), ce P "__doc__" 2 (.builtin "builtins.__doc__:str#opaque"), ce P "__package__" 3 (.builtin "builtins.__package__:str#opaque"), ce P "__loader__" 4 (.builtin "builtins.__loader__:shared#opaque"), ce P "__spec__" 5 (.builtin "builtins.__spec__#opaque"), ce P "__build_class__" 6 (.builtin "__build_class__"), ce P "__import__" 7 (.builtin "__import__"), ce P "abs" 8 (.builtin "abs"), ce P "all" 9 (.builtin "all"), ce P "any" 10 (.builtin "any"), ce P "ascii" 11 (.builtin "ascii"), ce P "bin" 12 (.builtin "bin"), ce P "breakpoint" 13 (.builtin "breakpoint"), ce P "callable" 14 (.builtin "callable"), ce P "chr" 15 (.builtin "chr"), ce P "compile" 16 (.builtin "compile"), ce P "delattr" 17 (.builtin "delattr"), ce P "dir" 18 (.builtin "dir"), ce P "divmod" 19 (.builtin "divmod"), ce P "eval" 20 (.builtin "eval"), ce P "exec" 21 (.builtin "exec"), ce P "format" 22 (.builtin "format"), ce P "getattr" 23 (.builtin "getattr"), ce P "globals" 24 (.builtin "globals"), ce P "hasattr" 25 (.builtin "hasattr"), ce P "hash" 26 (.builtin "hash"), ce P "hex" 27 (.builtin "hex"), ce P "id" 28 (.builtin "id"), ce P "input" 29 (.builtin "input"), ce P "isinstance" 30 (.builtin "isinstance"), ce P "issubclass" 31 (.builtin "issubclass"), ce P "iter" 32 (.builtin "iter"), ce P "aiter" 33 (.builtin "aiter"), ce P "len" 34 (.builtin "len"), ce P "locals" 35 (.builtin "locals"), ce P "max" 36 (.builtin "max"), ce P "min" 37 (.builtin "min"), ce P "next" 38 (.builtin "next"), ce P "anext" 39 (.builtin "anext"), ce P "oct" 40 (.builtin "oct"), ce P "ord" 41 (.builtin "ord"), ce P "pow" 42 (.builtin "pow"), ce P "print" 43 (.builtin "print"), ce P "repr" 44 (.builtin "repr"), ce P "round" 45 (.builtin "round"), ce P "setattr" 46 (.builtin "setattr"), ce P "sorted" 47 (.builtin "sorted"), ce P "sum" 48 (.builtin "sum"), ce P "vars" 49 (.builtin "vars"), ce P "None" 50 .none, ce P "Ellipsis" 51 (.ellipsis), ce P "NotImplemented" 52 (.notImplemented), ce P "False" 53 (.bool false), ce P "True" 54 (.bool true), ce P "bool" 55 (.type "bool"), ce P "memoryview" 56 (.type "memoryview"), ce P "bytearray" 57 (.type "bytearray"), ce P "bytes" 58 (.type "bytes"), ce P "classmethod" 59 (.type "classmethod"), ce P "complex" 60 (.type "complex"), ce P "dict" 61 (.type "dict"), ce P "enumerate" 62 (.type "enumerate"), ce P "filter" 63 (.type "filter"), ce P "float" 64 (.type "float"), ce P "frozenset" 65 (.type "frozenset"), ce P "property" 66 (.type "property"), ce P "int" 67 (.type "int"), ce P "list" 68 (.type "list"), ce P "map" 69 (.type "map"), ce P "object" 70 (.type "object"), ce P "range" 71 (.type "range"), ce P "reversed" 72 (.type "reversed"), ce P "set" 73 (.type "set"), ce P "slice" 74 (.type "slice"), ce P "staticmethod" 75 (.type "staticmethod"), ce P "str" 76 (.type "str"), ce P "super" 77 (.type "super"), ce P "tuple" 78 (.type "tuple"), ce P "type" 79 (.type "type"), ce P "zip" 80 (.type "zip"), ce P "__debug__" 81 (.bool true), ce P "BaseException" 82 (.type "BaseException"), ce P "BaseExceptionGroup" 83 (.type "BaseExceptionGroup"), ce P "Exception" 84 (.type "Exception"), ce P "GeneratorExit" 85 (.type "GeneratorExit"), ce P "KeyboardInterrupt" 86 (.type "KeyboardInterrupt"), ce P "SystemExit" 87 (.type "SystemExit"), ce P "ArithmeticError" 88 (.type "ArithmeticError"), ce P "AssertionError" 89 (.type "AssertionError"), ce P "AttributeError" 90 (.type "AttributeError"), ce P "BufferError" 91 (.type "BufferError"), ce P "EOFError" 92 (.type "EOFError"), ce P "ImportError" 93 (.type "ImportError"), ce P "LookupError" 94 (.type "LookupError"), ce P "MemoryError" 95 (.type "MemoryError"), ce P "NameError" 96 (.type "NameError"), ce P "OSError" 97 (.type "OSError"), ce P "ReferenceError" 98 (.type "ReferenceError"), ce P "RuntimeError" 99 (.type "RuntimeError"), ce P "StopAsyncIteration" 100 (.type "StopAsyncIteration"), ce P "StopIteration" 101 (.type "StopIteration"), ce P "SyntaxError" 102 (.type "SyntaxError"), ce P "SystemError" 103 (.type "SystemError"), ce P "TypeError" 104 (.type "TypeError"), ce P "ValueError" 105 (.type "ValueError"), ce P "Warning" 106 (.type "Warning"), ce P "FloatingPointError" 107 (.type "FloatingPointError"), ce P "OverflowError" 108 (.type "OverflowError"), ce P "ZeroDivisionError" 109 (.type "ZeroDivisionError"), ce P "BytesWarning" 110 (.type "BytesWarning"), ce P "DeprecationWarning" 111 (.type "DeprecationWarning"), ce P "EncodingWarning" 112 (.type "EncodingWarning"), ce P "FutureWarning" 113 (.type "FutureWarning"), ce P "ImportWarning" 114 (.type "ImportWarning"), ce P "PendingDeprecationWarning" 115 (.type "PendingDeprecationWarning"), ce P "ResourceWarning" 116 (.type "ResourceWarning"), ce P "RuntimeWarning" 117 (.type "RuntimeWarning"), ce P "SyntaxWarning" 118 (.type "SyntaxWarning"), ce P "UnicodeWarning" 119 (.type "UnicodeWarning"), ce P "UserWarning" 120 (.type "UserWarning"), ce P "BlockingIOError" 121 (.type "BlockingIOError"), ce P "ChildProcessError" 122 (.type "ChildProcessError"), ce P "ConnectionError" 123 (.type "ConnectionError"), ce P "FileExistsError" 124 (.type "FileExistsError"), ce P "FileNotFoundError" 125 (.type "FileNotFoundError"), ce P "InterruptedError" 126 (.type "InterruptedError"), ce P "IsADirectoryError" 127 (.type "IsADirectoryError"), ce P "NotADirectoryError" 128 (.type "NotADirectoryError"), ce P "PermissionError" 129 (.type "PermissionError"), ce P "ProcessLookupError" 130 (.type "ProcessLookupError"), ce P "TimeoutError" 131 (.type "TimeoutError"), ce P "IndentationError" 132 (.type "IndentationError"), ce P "_IncompleteInputError" 133 (.type "_IncompleteInputError"), ce P "IndexError" 134 (.type "IndexError"), ce P "KeyError" 135 (.type "KeyError"), ce P "ModuleNotFoundError" 136 (.type "ModuleNotFoundError"), ce P "NotImplementedError" 137 (.type "NotImplementedError"), ce P "PythonFinalizationError" 138 (.type "PythonFinalizationError"), ce P "RecursionError" 139 (.type "RecursionError"), ce P "UnboundLocalError" 140 (.type "UnboundLocalError"), ce P "UnicodeError" 141 (.type "UnicodeError"), ce P "BrokenPipeError" 142 (.type "BrokenPipeError"), ce P "ConnectionAbortedError" 143 (.type "ConnectionAbortedError"), ce P "ConnectionRefusedError" 144 (.type "ConnectionRefusedError"), ce P "ConnectionResetError" 145 (.type "ConnectionResetError"), ce P "TabError" 146 (.type "TabError"), ce P "UnicodeDecodeError" 147 (.type "UnicodeDecodeError"), ce P "UnicodeEncodeError" 148 (.type "UnicodeEncodeError"), ce P "UnicodeTranslateError" 149 (.type "UnicodeTranslateError"), ce P "ExceptionGroup" 150 (.type "ExceptionGroup"), ce P "EnvironmentError" 151 (.type "OSError"), ce P "IOError" 152 (.type "OSError"), ce P "open" 153 (.builtin "open"), ce P "quit" 154 (.builtin "builtins.quit#opaque"), ce P "exit" 155 (.builtin "builtins.exit#opaque"), ce P "copyright" 156 (.builtin "builtins.copyright#opaque"), ce P "credits" 157 (.builtin "builtins.credits#opaque"), ce P "license" 158 (.builtin "builtins.license#opaque"), ce P "help" 159 (.builtin "builtins.help#opaque")] 159), #[]⟩
noncomputable def o1_1 (P : Params) : Obj := ⟨.type "dict", none, (.dict #[ce P "builtins" 162 (.ref 4), ce P "__main__" 163 (.ref 5), ce P "math" 285 (.ref 13)] 3), #[]⟩
noncomputable def o2_1 (P : Params) : Obj := ⟨.none, none, (.dict #[ce P "import.loaded.math" 186 (.bool true), ce P (PySem.Str.mk #[99, 108, 97, 115, 115, 46, 95, 102, 114, 111, 122, 101, 110, 95, 105, 109, 112, 111, 114, 116, 108, 105, 98, 95, 101, 120, 116, 101, 114, 110, 97, 108, 46, 95, 76, 111, 97, 100, 101, 114, 66, 97, 115, 105, 99, 115]) 191 (.ref 16), ce P "watched.import" 207 (.ref 20), ce P (PySem.Str.mk #[99, 108, 97, 115, 115, 46, 95, 102, 114, 111, 122, 101, 110, 95, 105, 109, 112, 111, 114, 116, 108, 105, 98, 95, 101, 120, 116, 101, 114, 110, 97, 108, 46, 70, 105, 108, 101, 76, 111, 97, 100, 101, 114]) 208 (.ref 22), ce P (PySem.Str.mk #[99, 108, 97, 115, 115, 46, 95, 102, 114, 111, 122, 101, 110, 95, 105, 109, 112, 111, 114, 116, 108, 105, 98, 95, 101, 120, 116, 101, 114, 110, 97, 108, 46, 69, 120, 116, 101, 110, 115, 105, 111, 110, 70, 105, 108, 101, 76, 111, 97, 100, 101, 114]) 229 (.ref 27), ce P "class._frozen_importlib.ModuleSpec" 257 (.ref 33), ce P "sys.modules.booked-epoch" 286 (.int 3 0), ce P "import.later-laid.math" 362 (.bool true), ce P "watched.library" 364 (.ref 38), ce P "watched.library-objects" 0 (.str "\x0d" 0)] 10), #[]⟩
noncomputable def o3_1 (P : Params) : Obj := ⟨.type "dict", none, (.dict #[ce P "__name__" 165 (.str "__main__" 164), ce P "__doc__" 166 .none, ce P "__package__" 167 .none, ce P "__loader__" 168 (.builtin "__main__.__loader__#opaque"), ce P "__spec__" 169 .none, ce P "__annotations__" 170 (.ref 6), ce P "__builtins__" 171 (.ref 4), ce P "__file__" 173 (.str "/claim/cut.py" 172), ce P "__cached__" 174 .none, ce P "gcd" 370 (.builtin "math.gcd"), ce P "lcm" 373 (.builtin "math.lcm")] 11), #[]⟩
noncomputable def o4_1 (P : Params) : Obj := ⟨.type "module", (some 0), .plain, #[]⟩
noncomputable def o5_1 (P : Params) : Obj := ⟨.type "module", (some 3), .plain, #[]⟩
noncomputable def o7_1 (P : Params) : Obj := ⟨.type "tuple", none, (.seq #[] 0), #[]⟩
noncomputable def o9_1 (P : Params) : Obj := ⟨.type "code", none, (.fields #[.str "<module>" 176, .str "<module>" 177, .str "/claim/cut.py" 178, .int 1 0, .int 0 0, .int 0 0, .int 0 0, .int 0 0, .ref 7, .bool false, .int 175 0, .ref 8, .none, .none, .none, .none, .int 179 0, .int 1 0, .str "/claim/cut.py" 180]), #[]⟩
noncomputable def o10_1 (P : Params) : Obj := ⟨.type "frame", none, .plain, #[some (.ref 9), some (.ref 3), some (.ref 3), none, some (.str "__main__" 164), none, some (.ref 0)]⟩
noncomputable def o11_1 (P : Params) : Obj := ⟨.type "tuple", none, (.seq #[.str "gcd" 182, .str "lcm" 183] 0), #[]⟩
noncomputable def o12_1 (P : Params) : Obj := ⟨.type "dict", none, (.dict #[ce P "__name__" 288 (.str "math" 287), ce P "__doc__" 289 (.builtin "off-the-table:math.__doc__:shared#opaque"), ce P "__package__" 291 (.str "" 290), ce P "__loader__" 292 (.builtin "off-the-table:math.__loader__:shared#opaque"), ce P "__spec__" 293 (.builtin "off-the-table:math.__spec__:shared#opaque"), ce P "acos" 294 (.builtin "off-the-table:math.acos:shared#opaque"), ce P "acosh" 295 (.builtin "off-the-table:math.acosh:shared#opaque"), ce P "asin" 296 (.builtin "off-the-table:math.asin:shared#opaque"), ce P "asinh" 297 (.builtin "off-the-table:math.asinh:shared#opaque"), ce P "atan" 298 (.builtin "off-the-table:math.atan:shared#opaque"), ce P "atan2" 299 (.builtin "off-the-table:math.atan2:shared#opaque"), ce P "atanh" 300 (.builtin "off-the-table:math.atanh:shared#opaque"), ce P "cbrt" 301 (.builtin "off-the-table:math.cbrt:shared#opaque"), ce P "ceil" 302 (.builtin "math.ceil"), ce P "copysign" 303 (.builtin "math.copysign"), ce P "cos" 304 (.builtin "off-the-table:math.cos:shared#opaque"), ce P "cosh" 305 (.builtin "off-the-table:math.cosh:shared#opaque"), ce P "degrees" 306 (.builtin "math.degrees"), ce P "dist" 307 (.builtin "math.dist"), ce P "erf" 308 (.builtin "off-the-table:math.erf:shared#opaque"), ce P "erfc" 309 (.builtin "off-the-table:math.erfc:shared#opaque"), ce P "exp" 310 (.builtin "off-the-table:math.exp:shared#opaque"), ce P "exp2" 311 (.builtin "off-the-table:math.exp2:shared#opaque"), ce P "expm1" 312 (.builtin "off-the-table:math.expm1:shared#opaque"), ce P "fabs" 313 (.builtin "math.fabs"), ce P "factorial" 314 (.builtin "math.factorial"), ce P "floor" 315 (.builtin "math.floor"), ce P "fma" 316 (.builtin "math.fma"), ce P "fmod" 317 (.builtin "math.fmod"), ce P "frexp" 318 (.builtin "math.frexp"), ce P "fsum" 319 (.builtin "math.fsum"), ce P "gamma" 320 (.builtin "off-the-table:math.gamma:shared#opaque"), ce P "gcd" 321 (.builtin "math.gcd"), ce P "hypot" 322 (.builtin "math.hypot"), ce P "isclose" 323 (.builtin "math.isclose"), ce P "isfinite" 324 (.builtin "math.isfinite"), ce P "isinf" 325 (.builtin "math.isinf"), ce P "isnan" 326 (.builtin "math.isnan"), ce P "isqrt" 327 (.builtin "math.isqrt"), ce P "lcm" 328 (.builtin "math.lcm"), ce P "ldexp" 329 (.builtin "math.ldexp"), ce P "lgamma" 330 (.builtin "off-the-table:math.lgamma:shared#opaque"), ce P "log" 331 (.builtin "off-the-table:math.log:shared#opaque"), ce P "log1p" 332 (.builtin "off-the-table:math.log1p:shared#opaque"), ce P "log10" 333 (.builtin "off-the-table:math.log10:shared#opaque"), ce P "log2" 334 (.builtin "off-the-table:math.log2:shared#opaque"), ce P "modf" 335 (.builtin "math.modf"), ce P "pow" 336 (.builtin "off-the-table:math.pow:shared#opaque"), ce P "radians" 337 (.builtin "math.radians"), ce P "remainder" 338 (.builtin "math.remainder"), ce P "sin" 339 (.builtin "off-the-table:math.sin:shared#opaque"), ce P "sinh" 340 (.builtin "off-the-table:math.sinh:shared#opaque"), ce P "sqrt" 341 (.builtin "math.sqrt"), ce P "tan" 342 (.builtin "off-the-table:math.tan:shared#opaque"), ce P "tanh" 343 (.builtin "off-the-table:math.tanh:shared#opaque"), ce P "sumprod" 344 (.builtin "math.sumprod"), ce P "trunc" 345 (.builtin "math.trunc"), ce P "prod" 346 (.builtin "math.prod"), ce P "perm" 347 (.builtin "math.perm"), ce P "comb" 348 (.builtin "math.comb"), ce P "nextafter" 349 (.builtin "math.nextafter"), ce P "ulp" 350 (.builtin "math.ulp"), ce P "__file__" 351 (.str (PySem.Str.mk #[47, 110, 105, 120, 47, 115, 116, 111, 114, 101, 47, 119, 106, 49, 102, 53, 54, 113, 107, 121, 52, 112, 109, 106, 99, 55, 108, 48, 114, 54, 98, 54, 108, 55, 119, 104, 110, 110, 119, 55, 104, 112, 54, 45, 112, 121, 116, 104, 111, 110, 51, 45, 51, 46, 49, 51, 46, 49, 53, 47, 108, 105, 98, 47, 112, 121, 116, 104, 111, 110, 51, 46, 49, 51, 47, 108, 105, 98, 45, 100, 121, 110, 108, 111, 97, 100, 47, 109, 97, 116, 104, 46, 99, 112, 121, 116, 104, 111, 110, 45, 51, 49, 51, 45, 120, 56, 54, 95, 54, 52, 45, 108, 105, 110, 117, 120, 45, 103, 110, 117, 46, 115, 111]) 187), ce P "pi" 353 (.float 4614256656552045848 352), ce P "e" 355 (.float 4613303445314885481 354), ce P "tau" 357 (.float 4618760256179416344 356), ce P "inf" 359 (.float 9218868437227405312 358), ce P "nan" 361 (.float 9221120237041090560 360)] 68), #[]⟩
noncomputable def o13_1 (P : Params) : Obj := ⟨.type "module", (some 12), .plain, #[]⟩
noncomputable def o14_1 (P : Params) : Obj := ⟨.type "dict", none, (.dict #[ce P "name" 189 (.str "math" 188), ce P "path" 190 (.str (PySem.Str.mk #[47, 110, 105, 120, 47, 115, 116, 111, 114, 101, 47, 119, 106, 49, 102, 53, 54, 113, 107, 121, 52, 112, 109, 106, 99, 55, 108, 48, 114, 54, 98, 54, 108, 55, 119, 104, 110, 110, 119, 55, 104, 112, 54, 45, 112, 121, 116, 104, 111, 110, 51, 45, 51, 46, 49, 51, 46, 49, 53, 47, 108, 105, 98, 47, 112, 121, 116, 104, 111, 110, 51, 46, 49, 51, 47, 108, 105, 98, 45, 100, 121, 110, 108, 111, 97, 100, 47, 109, 97, 116, 104, 46, 99, 112, 121, 116, 104, 111, 110, 45, 51, 49, 51, 45, 120, 56, 54, 95, 54, 52, 45, 108, 105, 110, 117, 120, 45, 103, 110, 117, 46, 115, 111]) 187)] 2), #[]⟩
noncomputable def o15_1 (P : Params) : Obj := ⟨.type "dict", none, (.dict #[ce P "__module__" 194 (.str "_frozen_importlib_external" 192), ce P "__firstlineno__" 195 (.int 1001 193), ce P "__doc__" 196 (.builtin "_frozen_importlib_external._LoaderBasics.__doc__:str#opaque"), ce P "is_package" 197 (.builtin "_frozen_importlib_external._LoaderBasics.is_package#opaque"), ce P "create_module" 198 (.builtin "_frozen_importlib_external._LoaderBasics.create_module#opaque"), ce P "exec_module" 199 (.builtin "_frozen_importlib_external._LoaderBasics.exec_module#opaque"), ce P "load_module" 200 (.builtin "_frozen_importlib_external._LoaderBasics.load_module#opaque"), ce P "__static_attributes__" 201 (.ref 17), ce P "__dict__" 203 (.ref 18), ce P "__weakref__" 205 (.ref 19)] 10), #[]⟩
noncomputable def o16_1 (P : Params) : Obj := ⟨.type "type", none, (.cls ⟨"_LoaderBasics", [.type "object"], [.ref 16, .type "object"], 15, "_LoaderBasics", true, [], [.ref 27], false, none, false⟩), #[]⟩
noncomputable def o17_1 (P : Params) : Obj := ⟨.type "tuple", none, (.seq #[] 0), #[]⟩
noncomputable def o18_1 (P : Params) : Obj := ⟨.type "getset_descriptor", none, (.fields #[.str "__dict__" 202, .ref 16, .builtin "function.__dict__", .builtin "function.__dict__#set"]), #[]⟩
noncomputable def o19_1 (P : Params) : Obj := ⟨.type "getset_descriptor", none, (.fields #[.str "__weakref__" 204, .ref 16, .builtin "ExceptionGroup.__weakref__", .none]), #[]⟩
noncomputable def o20_1 (P : Params) : Obj := ⟨.none, none, (.seq #[.int 15 0, .str (PySem.Str.mk #[6, 194, 10, 95, 95, 109, 111, 100, 117, 108, 101, 95, 95, 6, 192, 26, 95, 102, 114, 111, 122, 101, 110, 95, 105, 109, 112, 111, 114, 116, 108, 105, 98, 95, 101, 120, 116, 101, 114, 110, 97, 108, 6, 195, 15, 95, 95, 102, 105, 114, 115, 116, 108, 105, 110, 101, 110, 111, 95, 95, 4, 193, 0, 1001, 6, 196, 7, 95, 95, 100, 111, 99, 95, 95, 9, 59, 95, 102, 114, 111, 122, 101, 110, 95, 105, 109, 112, 111, 114, 116, 108, 105, 98, 95, 101, 120, 116, 101, 114, 110, 97, 108, 46, 95, 76, 111, 97, 100, 101, 114, 66, 97, 115, 105, 99, 115, 46, 95, 95, 100, 111, 99, 95, 95, 58, 115, 116, 114, 35, 111, 112, 97, 113, 117, 101, 6, 197, 10, 105, 115, 95, 112, 97, 99, 107, 97, 103, 101, 9, 58, 95, 102, 114, 111, 122, 101, 110, 95, 105, 109, 112, 111, 114, 116, 108, 105, 98, 95, 101, 120, 116, 101, 114, 110, 97, 108, 46, 95, 76, 111, 97, 100, 101, 114, 66, 97, 115, 105, 99, 115, 46, 105, 115, 95, 112, 97, 99, 107, 97, 103, 101, 35, 111, 112, 97, 113, 117, 101, 6, 198, 13, 99, 114, 101, 97, 116, 101, 95, 109, 111, 100, 117, 108, 101, 9, 61, 95, 102, 114, 111, 122, 101, 110, 95, 105, 109, 112, 111, 114, 116, 108, 105, 98, 95, 101, 120, 116, 101, 114, 110, 97, 108, 46, 95, 76, 111, 97, 100, 101, 114, 66, 97, 115, 105, 99, 115, 46, 99, 114, 101, 97, 116, 101, 95, 109, 111, 100, 117, 108, 101, 35, 111, 112, 97, 113, 117, 101, 6, 199, 11, 101, 120, 101, 99, 95, 109, 111, 100, 117, 108, 101, 9, 59, 95, 102, 114, 111, 122, 101, 110, 95, 105, 109, 112, 111, 114, 116, 108, 105, 98, 95, 101, 120, 116, 101, 114, 110, 97, 108, 46, 95, 76, 111, 97, 100, 101, 114, 66, 97, 115, 105, 99, 115, 46, 101, 120, 101, 99, 95, 109, 111, 100, 117, 108, 101, 35, 111, 112, 97, 113, 117, 101, 6, 200, 11, 108, 111, 97, 100, 95, 109, 111, 100, 117, 108, 101, 9, 59, 95, 102, 114, 111, 122, 101, 110, 95, 105, 109, 112, 111, 114, 116, 108, 105, 98, 95, 101, 120, 116, 101, 114, 110, 97, 108, 46, 95, 76, 111, 97, 100, 101, 114, 66, 97, 115, 105, 99, 115, 46, 108, 111, 97, 100, 95, 109, 111, 100, 117, 108, 101, 35, 111, 112, 97, 113, 117, 101, 6, 201, 21, 95, 95, 115, 116, 97, 116, 105, 99, 95, 97, 116, 116, 114, 105, 98, 117, 116, 101, 115, 95, 95, 4, 0, 0, 17, 6, 203, 8, 95, 95, 100, 105, 99, 116, 95, 95, 4, 0, 0, 18, 6, 205, 11, 95, 95, 119, 101, 97, 107, 114, 101, 102, 95, 95, 4, 0, 0, 19]) 0, .bool true, .bool true, .str "" 206, .int 21 0, .str (PySem.Str.mk #[6, 213, 10, 95, 95, 109, 111, 100, 117, 108, 101, 95, 95, 6, 209, 26, 95, 102, 114, 111, 122, 101, 110, 95, 105, 109, 112, 111, 114, 116, 108, 105, 98, 95, 101, 120, 116, 101, 114, 110, 97, 108, 6, 214, 15, 95, 95, 102, 105, 114, 115, 116, 108, 105, 110, 101, 110, 111, 95, 95, 4, 210, 0, 1176, 6, 215, 7, 95, 95, 100, 111, 99, 95, 95, 9, 56, 95, 102, 114, 111, 122, 101, 110, 95, 105, 109, 112, 111, 114, 116, 108, 105, 98, 95, 101, 120, 116, 101, 114, 110, 97, 108, 46, 70, 105, 108, 101, 76, 111, 97, 100, 101, 114, 46, 95, 95, 100, 111, 99, 95, 95, 58, 115, 116, 114, 35, 111, 112, 97, 113, 117, 101, 6, 216, 8, 95, 95, 105, 110, 105, 116, 95, 95, 9, 53, 95, 102, 114, 111, 122, 101, 110, 95, 105, 109, 112, 111, 114, 116, 108, 105, 98, 95, 101, 120, 116, 101, 114, 110, 97, 108, 46, 70, 105, 108, 101, 76, 111, 97, 100, 101, 114, 46, 95, 95, 105, 110, 105, 116, 95, 95, 35, 111, 112, 97, 113, 117, 101, 6, 217, 6, 95, 95, 101, 113, 95, 95, 9, 51, 95, 102, 114, 111, 122, 101, 110, 95, 105, 109, 112, 111, 114, 116, 108, 105, 98, 95, 101, 120, 116, 101, 114, 110, 97, 108, 46, 70, 105, 108, 101, 76, 111, 97, 100, 101, 114, 46, 95, 95, 101, 113, 95, 95, 35, 111, 112, 97, 113, 117, 101, 6, 218, 8, 95, 95, 104, 97, 115, 104, 95, 95, 9, 53, 95, 102, 114, 111, 122, 101, 110, 95, 105, 109, 112, 111, 114, 116, 108, 105, 98, 95, 101, 120, 116, 101, 114, 110, 97, 108, 46, 70, 105, 108, 101, 76, 111, 97, 100, 101, 114, 46, 95, 95, 104, 97, 115, 104, 95, 95, 35, 111, 112, 97, 113, 117, 101, 6, 219, 11, 108, 111, 97, 100, 95, 109, 111, 100, 117, 108, 101, 9, 56, 95, 102, 114, 111, 122, 101, 110, 95, 105, 109, 112, 111, 114, 116, 108, 105, 98, 95, 101, 120, 116, 101, 114, 110, 97, 108, 46, 70, 105, 108, 101, 76, 111, 97, 100, 101, 114, 46, 108, 111, 97, 100, 95, 109, 111, 100, 117, 108, 101, 35, 111, 112, 97, 113, 117, 101, 6, 220, 12, 103, 101, 116, 95, 102, 105, 108, 101, 110, 97, 109, 101, 9, 57, 95, 102, 114, 111, 122, 101, 110, 95, 105, 109, 112, 111, 114, 116, 108, 105, 98, 95, 101, 120, 116, 101, 114, 110, 97, 108, 46, 70, 105, 108, 101, 76, 111, 97, 100, 101, 114, 46, 103, 101, 116, 95, 102, 105, 108, 101, 110, 97, 109, 101, 35, 111, 112, 97, 113, 117, 101, 6, 221, 8, 103, 101, 116, 95, 100, 97, 116, 97, 9, 53, 95, 102, 114, 111, 122, 101, 110, 95, 105, 109, 112, 111, 114, 116, 108, 105, 98, 95, 101, 120, 116, 101, 114, 110, 97, 108, 46, 70, 105, 108, 101, 76, 111, 97, 100, 101, 114, 46, 103, 101, 116, 95, 100, 97, 116, 97, 35, 111, 112, 97, 113, 117, 101, 6, 222, 19, 103, 101, 116, 95, 114, 101, 115, 111, 117, 114, 99, 101, 95, 114, 101, 97, 100, 101, 114, 9, 64, 95, 102, 114, 111, 122, 101, 110, 95, 105, 109, 112, 111, 114, 116, 108, 105, 98, 95, 101, 120, 116, 101, 114, 110, 97, 108, 46, 70, 105, 108, 101, 76, 111, 97, 100, 101, 114, 46, 103, 101, 116, 95, 114, 101, 115, 111, 117, 114, 99, 101, 95, 114, 101, 97, 100, 101, 114, 35, 111, 112, 97, 113, 117, 101, 6, 223, 21, 95, 95, 115, 116, 97, 116, 105, 99, 95, 97, 116, 116, 114, 105, 98, 117, 116, 101, 115, 95, 95, 4, 0, 0, 23, 6, 225, 8, 95, 95, 100, 105, 99, 116, 95, 95, 4, 0, 0, 24, 6, 227, 11, 95, 95, 119, 101, 97, 107, 114, 101, 102, 95, 95, 4, 0, 0, 25]) 0, .bool true, .bool true, .str "" 228, .int 26 0, .str (PySem.Str.mk #[6, 234, 10, 95, 95, 109, 111, 100, 117, 108, 101, 95, 95, 6, 230, 26, 95, 102, 114, 111, 122, 101, 110, 95, 105, 109, 112, 111, 114, 116, 108, 105, 98, 95, 101, 120, 116, 101, 114, 110, 97, 108, 6, 235, 15, 95, 95, 102, 105, 114, 115, 116, 108, 105, 110, 101, 110, 111, 95, 95, 4, 231, 0, 1296, 6, 236, 7, 95, 95, 100, 111, 99, 95, 95, 9, 65, 95, 102, 114, 111, 122, 101, 110, 95, 105, 109, 112, 111, 114, 116, 108, 105, 98, 95, 101, 120, 116, 101, 114, 110, 97, 108, 46, 69, 120, 116, 101, 110, 115, 105, 111, 110, 70, 105, 108, 101, 76, 111, 97, 100, 101, 114, 46, 95, 95, 100, 111, 99, 95, 95, 58, 115, 116, 114, 35, 111, 112, 97, 113, 117, 101, 6, 237, 8, 95, 95, 105, 110, 105, 116, 95, 95, 9, 62, 95, 102, 114, 111, 122, 101, 110, 95, 105, 109, 112, 111, 114, 116, 108, 105, 98, 95, 101, 120, 116, 101, 114, 110, 97, 108, 46, 69, 120, 116, 101, 110, 115, 105, 111, 110, 70, 105, 108, 101, 76, 111, 97, 100, 101, 114, 46, 95, 95, 105, 110, 105, 116, 95, 95, 35, 111, 112, 97, 113, 117, 101, 6, 238, 6, 95, 95, 101, 113, 95, 95, 9, 60, 95, 102, 114, 111, 122, 101, 110, 95, 105, 109, 112, 111, 114, 116, 108, 105, 98, 95, 101, 120, 116, 101, 114, 110, 97, 108, 46, 69, 120, 116, 101, 110, 115, 105, 111, 110, 70, 105, 108, 101, 76, 111, 97, 100, 101, 114, 46, 95, 95, 101, 113, 95, 95, 35, 111, 112, 97, 113, 117, 101, 6, 239, 8, 95, 95, 104, 97, 115, 104, 95, 95, 9, 62, 95, 102, 114, 111, 122, 101, 110, 95, 105, 109, 112, 111, 114, 116, 108, 105, 98, 95, 101, 120, 116, 101, 114, 110, 97, 108, 46, 69, 120, 116, 101, 110, 115, 105, 111, 110, 70, 105, 108, 101, 76, 111, 97, 100, 101, 114, 46, 95, 95, 104, 97, 115, 104, 95, 95, 35, 111, 112, 97, 113, 117, 101, 6, 240, 13, 99, 114, 101, 97, 116, 101, 95, 109, 111, 100, 117, 108, 101, 9, 67, 95, 102, 114, 111, 122, 101, 110, 95, 105, 109, 112, 111, 114, 116, 108, 105, 98, 95, 101, 120, 116, 101, 114, 110, 97, 108, 46, 69, 120, 116, 101, 110, 115, 105, 111, 110, 70, 105, 108, 101, 76, 111, 97, 100, 101, 114, 46, 99, 114, 101, 97, 116, 101, 95, 109, 111, 100, 117, 108, 101, 35, 111, 112, 97, 113, 117, 101, 6, 241, 11, 101, 120, 101, 99, 95, 109, 111, 100, 117, 108, 101, 9, 65, 95, 102, 114, 111, 122, 101, 110, 95, 105, 109, 112, 111, 114, 116, 108, 105, 98, 95, 101, 120, 116, 101, 114, 110, 97, 108, 46, 69, 120, 116, 101, 110, 115, 105, 111, 110, 70, 105, 108, 101, 76, 111, 97, 100, 101, 114, 46, 101, 120, 101, 99, 95, 109, 111, 100, 117, 108, 101, 35, 111, 112, 97, 113, 117, 101, 6, 242, 10, 105, 115, 95, 112, 97, 99, 107, 97, 103, 101, 9, 64, 95, 102, 114, 111, 122, 101, 110, 95, 105, 109, 112, 111, 114, 116, 108, 105, 98, 95, 101, 120, 116, 101, 114, 110, 97, 108, 46, 69, 120, 116, 101, 110, 115, 105, 111, 110, 70, 105, 108, 101, 76, 111, 97, 100, 101, 114, 46, 105, 115, 95, 112, 97, 99, 107, 97, 103, 101, 35, 111, 112, 97, 113, 117, 101, 6, 243, 8, 103, 101, 116, 95, 99, 111, 100, 101, 9, 62, 95, 102, 114, 111, 122, 101, 110, 95, 105, 109, 112, 111, 114, 116, 108, 105, 98, 95, 101, 120, 116, 101, 114, 110, 97, 108, 46, 69, 120, 116, 101, 110, 115, 105, 111, 110, 70, 105, 108, 101, 76, 111, 97, 100, 101, 114, 46, 103, 101, 116, 95, 99, 111, 100, 101, 35, 111, 112, 97, 113, 117, 101, 6, 244, 10, 103, 101, 116, 95, 115, 111, 117, 114, 99, 101, 9, 64, 95, 102, 114, 111, 122, 101, 110, 95, 105, 109, 112, 111, 114, 116, 108, 105, 98, 95, 101, 120, 116, 101, 114, 110, 97, 108, 46, 69, 120, 116, 101, 110, 115, 105, 111, 110, 70, 105, 108, 101, 76, 111, 97, 100, 101, 114, 46, 103, 101, 116, 95, 115, 111, 117, 114, 99, 101, 35, 111, 112, 97, 113, 117, 101, 6, 245, 12, 103, 101, 116, 95, 102, 105, 108, 101, 110, 97, 109, 101, 9, 66, 95, 102, 114, 111, 122, 101, 110, 95, 105, 109, 112, 111, 114, 116, 108, 105, 98, 95, 101, 120, 116, 101, 114, 110, 97, 108, 46, 69, 120, 116, 101, 110, 115, 105, 111, 110, 70, 105, 108, 101, 76, 111, 97, 100, 101, 114, 46, 103, 101, 116, 95, 102, 105, 108, 101, 110, 97, 109, 101, 35, 111, 112, 97, 113, 117, 101, 6, 246, 21, 95, 95, 115, 116, 97, 116, 105, 99, 95, 97, 116, 116, 114, 105, 98, 117, 116, 101, 115, 95, 95, 4, 0, 0, 28]) 0, .bool true, .bool true, .str "" 247, .int 32 0, .str (PySem.Str.mk #[6, 268, 10, 95, 95, 109, 111, 100, 117, 108, 101, 95, 95, 6, 258, 17, 95, 102, 114, 111, 122, 101, 110, 95, 105, 109, 112, 111, 114, 116, 108, 105, 98, 6, 269, 15, 95, 95, 102, 105, 114, 115, 116, 108, 105, 110, 101, 110, 111, 95, 95, 4, 259, 0, 562, 6, 270, 7, 95, 95, 100, 111, 99, 95, 95, 9, 47, 95, 102, 114, 111, 122, 101, 110, 95, 105, 109, 112, 111, 114, 116, 108, 105, 98, 46, 77, 111, 100, 117, 108, 101, 83, 112, 101, 99, 46, 95, 95, 100, 111, 99, 95, 95, 58, 115, 116, 114, 35, 111, 112, 97, 113, 117, 101, 6, 271, 8, 95, 95, 105, 110, 105, 116, 95, 95, 9, 44, 95, 102, 114, 111, 122, 101, 110, 95, 105, 109, 112, 111, 114, 116, 108, 105, 98, 46, 77, 111, 100, 117, 108, 101, 83, 112, 101, 99, 46, 95, 95, 105, 110, 105, 116, 95, 95, 35, 111, 112, 97, 113, 117, 101, 6, 272, 8, 95, 95, 114, 101, 112, 114, 95, 95, 9, 44, 95, 102, 114, 111, 122, 101, 110, 95, 105, 109, 112, 111, 114, 116, 108, 105, 98, 46, 77, 111, 100, 117, 108, 101, 83, 112, 101, 99, 46, 95, 95, 114, 101, 112, 114, 95, 95, 35, 111, 112, 97, 113, 117, 101, 6, 273, 6, 95, 95, 101, 113, 95, 95, 9, 42, 95, 102, 114, 111, 122, 101, 110, 95, 105, 109, 112, 111, 114, 116, 108, 105, 98, 46, 77, 111, 100, 117, 108, 101, 83, 112, 101, 99, 46, 95, 95, 101, 113, 95, 95, 35, 111, 112, 97, 113, 117, 101, 6, 274, 6, 99, 97, 99, 104, 101, 100, 9, 42, 95, 102, 114, 111, 122, 101, 110, 95, 105, 109, 112, 111, 114, 116, 108, 105, 98, 46, 77, 111, 100, 117, 108, 101, 83, 112, 101, 99, 46, 99, 97, 99, 104, 101, 100, 35, 111, 112, 97, 113, 117, 101, 6, 275, 6, 112, 97, 114, 101, 110, 116, 9, 42, 95, 102, 114, 111, 122, 101, 110, 95, 105, 109, 112, 111, 114, 116, 108, 105, 98, 46, 77, 111, 100, 117, 108, 101, 83, 112, 101, 99, 46, 112, 97, 114, 101, 110, 116, 35, 111, 112, 97, 113, 117, 101, 6, 276, 12, 104, 97, 115, 95, 108, 111, 99, 97, 116, 105, 111, 110, 9, 48, 95, 102, 114, 111, 122, 101, 110, 95, 105, 109, 112, 111, 114, 116, 108, 105, 98, 46, 77, 111, 100, 117, 108, 101, 83, 112, 101, 99, 46, 104, 97, 115, 95, 108, 111, 99, 97, 116, 105, 111, 110, 35, 111, 112, 97, 113, 117, 101, 6, 277, 21, 95, 95, 115, 116, 97, 116, 105, 99, 95, 97, 116, 116, 114, 105, 98, 117, 116, 101, 115, 95, 95, 4, 0, 0, 34, 6, 279, 8, 95, 95, 100, 105, 99, 116, 95, 95, 4, 0, 0, 35, 6, 281, 11, 95, 95, 119, 101, 97, 107, 114, 101, 102, 95, 95, 4, 0, 0, 36, 6, 282, 8, 95, 95, 104, 97, 115, 104, 95, 95, 0]) 0, .bool true, .bool true, .str "" 283] 3), #[]⟩
noncomputable def o21_1 (P : Params) : Obj := ⟨.type "dict", none, (.dict #[ce P "__module__" 213 (.str "_frozen_importlib_external" 209), ce P "__firstlineno__" 214 (.int 1176 210), ce P "__doc__" 215 (.builtin "_frozen_importlib_external.FileLoader.__doc__:str#opaque"), ce P "__init__" 216 (.builtin "_frozen_importlib_external.FileLoader.__init__#opaque"), ce P "__eq__" 217 (.builtin "_frozen_importlib_external.FileLoader.__eq__#opaque"), ce P "__hash__" 218 (.builtin "_frozen_importlib_external.FileLoader.__hash__#opaque"), ce P "load_module" 219 (.builtin "_frozen_importlib_external.FileLoader.load_module#opaque"), ce P "get_filename" 220 (.builtin "_frozen_importlib_external.FileLoader.get_filename#opaque"), ce P "get_data" 221 (.builtin "_frozen_importlib_external.FileLoader.get_data#opaque"), ce P "get_resource_reader" 222 (.builtin "_frozen_importlib_external.FileLoader.get_resource_reader#opaque"), ce P "__static_attributes__" 223 (.ref 23), ce P "__dict__" 225 (.ref 24), ce P "__weakref__" 227 (.ref 25)] 13), #[]⟩
noncomputable def o22_1 (P : Params) : Obj := ⟨.type "type", none, (.cls ⟨"FileLoader", [.type "object"], [.ref 22, .type "object"], 21, "FileLoader", true, [], [.ref 27], false, none, false⟩), #[]⟩
noncomputable def o23_1 (P : Params) : Obj := ⟨.type "tuple", none, (.seq #[.str "name" 211, .str "path" 212] 0), #[]⟩
noncomputable def o24_1 (P : Params) : Obj := ⟨.type "getset_descriptor", none, (.fields #[.str "__dict__" 224, .ref 22, .builtin "function.__dict__", .builtin "function.__dict__#set"]), #[]⟩
noncomputable def o25_1 (P : Params) : Obj := ⟨.type "getset_descriptor", none, (.fields #[.str "__weakref__" 226, .ref 22, .builtin "ExceptionGroup.__weakref__", .none]), #[]⟩
noncomputable def o26_1 (P : Params) : Obj := ⟨.type "dict", none, (.dict #[ce P "__module__" 234 (.str "_frozen_importlib_external" 230), ce P "__firstlineno__" 235 (.int 1296 231), ce P "__doc__" 236 (.builtin "_frozen_importlib_external.ExtensionFileLoader.__doc__:str#opaque"), ce P "__init__" 237 (.builtin "_frozen_importlib_external.ExtensionFileLoader.__init__#opaque"), ce P "__eq__" 238 (.builtin "_frozen_importlib_external.ExtensionFileLoader.__eq__#opaque"), ce P "__hash__" 239 (.builtin "_frozen_importlib_external.ExtensionFileLoader.__hash__#opaque"), ce P "create_module" 240 (.builtin "_frozen_importlib_external.ExtensionFileLoader.create_module#opaque"), ce P "exec_module" 241 (.builtin "_frozen_importlib_external.ExtensionFileLoader.exec_module#opaque"), ce P "is_package" 242 (.builtin "_frozen_importlib_external.ExtensionFileLoader.is_package#opaque"), ce P "get_code" 243 (.builtin "_frozen_importlib_external.ExtensionFileLoader.get_code#opaque"), ce P "get_source" 244 (.builtin "_frozen_importlib_external.ExtensionFileLoader.get_source#opaque"), ce P "get_filename" 245 (.builtin "_frozen_importlib_external.ExtensionFileLoader.get_filename#opaque"), ce P "__static_attributes__" 246 (.ref 28)] 13), #[]⟩
noncomputable def o27_1 (P : Params) : Obj := ⟨.type "type", none, (.cls ⟨"ExtensionFileLoader", [.ref 22, .ref 16], [.ref 27, .ref 22, .ref 16, .type "object"], 26, "ExtensionFileLoader", true, [], [], false, none, false⟩), #[]⟩
noncomputable def o28_1 (P : Params) : Obj := ⟨.type "tuple", none, (.seq #[.str "name" 232, .str "path" 233] 0), #[]⟩
noncomputable def o29_1 (P : Params) : Obj := ⟨.ref 27, (some 14), .plain, #[]⟩
noncomputable def o31_1 (P : Params) : Obj := ⟨.type "dict", none, (.dict #[ce P "name" 249 (.str "math" 248), ce P "loader" 250 (.ref 29), ce P "origin" 251 (.str (PySem.Str.mk #[47, 110, 105, 120, 47, 115, 116, 111, 114, 101, 47, 119, 106, 49, 102, 53, 54, 113, 107, 121, 52, 112, 109, 106, 99, 55, 108, 48, 114, 54, 98, 54, 108, 55, 119, 104, 110, 110, 119, 55, 104, 112, 54, 45, 112, 121, 116, 104, 111, 110, 51, 45, 51, 46, 49, 51, 46, 49, 53, 47, 108, 105, 98, 47, 112, 121, 116, 104, 111, 110, 51, 46, 49, 51, 47, 108, 105, 98, 45, 100, 121, 110, 108, 111, 97, 100, 47, 109, 97, 116, 104, 46, 99, 112, 121, 116, 104, 111, 110, 45, 51, 49, 51, 45, 120, 56, 54, 95, 54, 52, 45, 108, 105, 110, 117, 120, 45, 103, 110, 117, 46, 115, 111]) 187), ce P "loader_state" 252 .none, ce P "submodule_search_locations" 253 .none, ce P "_uninitialized_submodules" 254 (.ref 30), ce P "_set_fileattr" 255 (.bool true), ce P "_cached" 256 .none, ce P "_initializing" 284 (.bool false)] 9), #[]⟩
noncomputable def o32_1 (P : Params) : Obj := ⟨.type "dict", none, (.dict #[ce P "__module__" 268 (.str "_frozen_importlib" 258), ce P "__firstlineno__" 269 (.int 562 259), ce P "__doc__" 270 (.builtin "_frozen_importlib.ModuleSpec.__doc__:str#opaque"), ce P "__init__" 271 (.builtin "_frozen_importlib.ModuleSpec.__init__#opaque"), ce P "__repr__" 272 (.builtin "_frozen_importlib.ModuleSpec.__repr__#opaque"), ce P "__eq__" 273 (.builtin "_frozen_importlib.ModuleSpec.__eq__#opaque"), ce P "cached" 274 (.builtin "_frozen_importlib.ModuleSpec.cached#opaque"), ce P "parent" 275 (.builtin "_frozen_importlib.ModuleSpec.parent#opaque"), ce P "has_location" 276 (.builtin "_frozen_importlib.ModuleSpec.has_location#opaque"), ce P "__static_attributes__" 277 (.ref 34), ce P "__dict__" 279 (.ref 35), ce P "__weakref__" 281 (.ref 36), ce P "__hash__" 282 .none] 13), #[]⟩
noncomputable def o33_1 (P : Params) : Obj := ⟨.type "type", none, (.cls ⟨"ModuleSpec", [.type "object"], [.ref 33, .type "object"], 32, "ModuleSpec", true, [], [], false, none, false⟩), #[]⟩
noncomputable def o34_1 (P : Params) : Obj := ⟨.type "tuple", none, (.seq #[.str "_cached" 260, .str "_set_fileattr" 261, .str "_uninitialized_submodules" 262, .str "loader" 263, .str "loader_state" 264, .str "name" 265, .str "origin" 266, .str "submodule_search_locations" 267] 0), #[]⟩
noncomputable def o35_1 (P : Params) : Obj := ⟨.type "getset_descriptor", none, (.fields #[.str "__dict__" 278, .ref 33, .builtin "function.__dict__", .builtin "function.__dict__#set"]), #[]⟩
noncomputable def o36_1 (P : Params) : Obj := ⟨.type "getset_descriptor", none, (.fields #[.str "__weakref__" 280, .ref 33, .builtin "ExceptionGroup.__weakref__", .none]), #[]⟩
noncomputable def o37_1 (P : Params) : Obj := ⟨.ref 33, (some 31), .plain, #[]⟩
noncomputable def o38_1 (P : Params) : Obj := ⟨.none, none, (.seq #[.int 12 0, .str (PySem.Str.mk #[6, 288, 8, 95, 95, 110, 97, 109, 101, 95, 95, 6, 287, 4, 109, 97, 116, 104, 6, 289, 7, 95, 95, 100, 111, 99, 95, 95, 9, 23, 109, 97, 116, 104, 46, 95, 95, 100, 111, 99, 95, 95, 58, 115, 116, 114, 35, 111, 112, 97, 113, 117, 101, 6, 291, 11, 95, 95, 112, 97, 99, 107, 97, 103, 101, 95, 95, 6, 290, 0, 6, 292, 10, 95, 95, 108, 111, 97, 100, 101, 114, 95, 95, 4, 0, 0, 29, 6, 293, 8, 95, 95, 115, 112, 101, 99, 95, 95, 4, 0, 0, 37, 6, 294, 4, 97, 99, 111, 115, 9, 9, 109, 97, 116, 104, 46, 97, 99, 111, 115, 6, 295, 5, 97, 99, 111, 115, 104, 9, 10, 109, 97, 116, 104, 46, 97, 99, 111, 115, 104, 6, 296, 4, 97, 115, 105, 110, 9, 9, 109, 97, 116, 104, 46, 97, 115, 105, 110, 6, 297, 5, 97, 115, 105, 110, 104, 9, 10, 109, 97, 116, 104, 46, 97, 115, 105, 110, 104, 6, 298, 4, 97, 116, 97, 110, 9, 9, 109, 97, 116, 104, 46, 97, 116, 97, 110, 6, 299, 5, 97, 116, 97, 110, 50, 9, 10, 109, 97, 116, 104, 46, 97, 116, 97, 110, 50, 6, 300, 5, 97, 116, 97, 110, 104, 9, 10, 109, 97, 116, 104, 46, 97, 116, 97, 110, 104, 6, 301, 4, 99, 98, 114, 116, 9, 9, 109, 97, 116, 104, 46, 99, 98, 114, 116, 6, 302, 4, 99, 101, 105, 108, 9, 9, 109, 97, 116, 104, 46, 99, 101, 105, 108, 6, 303, 8, 99, 111, 112, 121, 115, 105, 103, 110, 9, 13, 109, 97, 116, 104, 46, 99, 111, 112, 121, 115, 105, 103, 110, 6, 304, 3, 99, 111, 115, 9, 8, 109, 97, 116, 104, 46, 99, 111, 115, 6, 305, 4, 99, 111, 115, 104, 9, 9, 109, 97, 116, 104, 46, 99, 111, 115, 104, 6, 306, 7, 100, 101, 103, 114, 101, 101, 115, 9, 12, 109, 97, 116, 104, 46, 100, 101, 103, 114, 101, 101, 115, 6, 307, 4, 100, 105, 115, 116, 9, 9, 109, 97, 116, 104, 46, 100, 105, 115, 116, 6, 308, 3, 101, 114, 102, 9, 8, 109, 97, 116, 104, 46, 101, 114, 102, 6, 309, 4, 101, 114, 102, 99, 9, 9, 109, 97, 116, 104, 46, 101, 114, 102, 99, 6, 310, 3, 101, 120, 112, 9, 8, 109, 97, 116, 104, 46, 101, 120, 112, 6, 311, 4, 101, 120, 112, 50, 9, 9, 109, 97, 116, 104, 46, 101, 120, 112, 50, 6, 312, 5, 101, 120, 112, 109, 49, 9, 10, 109, 97, 116, 104, 46, 101, 120, 112, 109, 49, 6, 313, 4, 102, 97, 98, 115, 9, 9, 109, 97, 116, 104, 46, 102, 97, 98, 115, 6, 314, 9, 102, 97, 99, 116, 111, 114, 105, 97, 108, 9, 14, 109, 97, 116, 104, 46, 102, 97, 99, 116, 111, 114, 105, 97, 108, 6, 315, 5, 102, 108, 111, 111, 114, 9, 10, 109, 97, 116, 104, 46, 102, 108, 111, 111, 114, 6, 316, 3, 102, 109, 97, 9, 8, 109, 97, 116, 104, 46, 102, 109, 97, 6, 317, 4, 102, 109, 111, 100, 9, 9, 109, 97, 116, 104, 46, 102, 109, 111, 100, 6, 318, 5, 102, 114, 101, 120, 112, 9, 10, 109, 97, 116, 104, 46, 102, 114, 101, 120, 112, 6, 319, 4, 102, 115, 117, 109, 9, 9, 109, 97, 116, 104, 46, 102, 115, 117, 109, 6, 320, 5, 103, 97, 109, 109, 97, 9, 10, 109, 97, 116, 104, 46, 103, 97, 109, 109, 97, 6, 321, 3, 103, 99, 100, 9, 8, 109, 97, 116, 104, 46, 103, 99, 100, 6, 322, 5, 104, 121, 112, 111, 116, 9, 10, 109, 97, 116, 104, 46, 104, 121, 112, 111, 116, 6, 323, 7, 105, 115, 99, 108, 111, 115, 101, 9, 12, 109, 97, 116, 104, 46, 105, 115, 99, 108, 111, 115, 101, 6, 324, 8, 105, 115, 102, 105, 110, 105, 116, 101, 9, 13, 109, 97, 116, 104, 46, 105, 115, 102, 105, 110, 105, 116, 101, 6, 325, 5, 105, 115, 105, 110, 102, 9, 10, 109, 97, 116, 104, 46, 105, 115, 105, 110, 102, 6, 326, 5, 105, 115, 110, 97, 110, 9, 10, 109, 97, 116, 104, 46, 105, 115, 110, 97, 110, 6, 327, 5, 105, 115, 113, 114, 116, 9, 10, 109, 97, 116, 104, 46, 105, 115, 113, 114, 116, 6, 328, 3, 108, 99, 109, 9, 8, 109, 97, 116, 104, 46, 108, 99, 109, 6, 329, 5, 108, 100, 101, 120, 112, 9, 10, 109, 97, 116, 104, 46, 108, 100, 101, 120, 112, 6, 330, 6, 108, 103, 97, 109, 109, 97, 9, 11, 109, 97, 116, 104, 46, 108, 103, 97, 109, 109, 97, 6, 331, 3, 108, 111, 103, 9, 8, 109, 97, 116, 104, 46, 108, 111, 103, 6, 332, 5, 108, 111, 103, 49, 112, 9, 10, 109, 97, 116, 104, 46, 108, 111, 103, 49, 112, 6, 333, 5, 108, 111, 103, 49, 48, 9, 10, 109, 97, 116, 104, 46, 108, 111, 103, 49, 48, 6, 334, 4, 108, 111, 103, 50, 9, 9, 109, 97, 116, 104, 46, 108, 111, 103, 50, 6, 335, 4, 109, 111, 100, 102, 9, 9, 109, 97, 116, 104, 46, 109, 111, 100, 102, 6, 336, 3, 112, 111, 119, 9, 8, 109, 97, 116, 104, 46, 112, 111, 119, 6, 337, 7, 114, 97, 100, 105, 97, 110, 115, 9, 12, 109, 97, 116, 104, 46, 114, 97, 100, 105, 97, 110, 115, 6, 338, 9, 114, 101, 109, 97, 105, 110, 100, 101, 114, 9, 14, 109, 97, 116, 104, 46, 114, 101, 109, 97, 105, 110, 100, 101, 114, 6, 339, 3, 115, 105, 110, 9, 8, 109, 97, 116, 104, 46, 115, 105, 110, 6, 340, 4, 115, 105, 110, 104, 9, 9, 109, 97, 116, 104, 46, 115, 105, 110, 104, 6, 341, 4, 115, 113, 114, 116, 9, 9, 109, 97, 116, 104, 46, 115, 113, 114, 116, 6, 342, 3, 116, 97, 110, 9, 8, 109, 97, 116, 104, 46, 116, 97, 110, 6, 343, 4, 116, 97, 110, 104, 9, 9, 109, 97, 116, 104, 46, 116, 97, 110, 104, 6, 344, 7, 115, 117, 109, 112, 114, 111, 100, 9, 12, 109, 97, 116, 104, 46, 115, 117, 109, 112, 114, 111, 100, 6, 345, 5, 116, 114, 117, 110, 99, 9, 10, 109, 97, 116, 104, 46, 116, 114, 117, 110, 99, 6, 346, 4, 112, 114, 111, 100, 9, 9, 109, 97, 116, 104, 46, 112, 114, 111, 100, 6, 347, 4, 112, 101, 114, 109, 9, 9, 109, 97, 116, 104, 46, 112, 101, 114, 109, 6, 348, 4, 99, 111, 109, 98, 9, 9, 109, 97, 116, 104, 46, 99, 111, 109, 98, 6, 349, 9, 110, 101, 120, 116, 97, 102, 116, 101, 114, 9, 14, 109, 97, 116, 104, 46, 110, 101, 120, 116, 97, 102, 116, 101, 114, 6, 350, 3, 117, 108, 112, 9, 8, 109, 97, 116, 104, 46, 117, 108, 112, 6, 351, 8, 95, 95, 102, 105, 108, 101, 95, 95, 6, 187, 123, 47, 110, 105, 120, 47, 115, 116, 111, 114, 101, 47, 119, 106, 49, 102, 53, 54, 113, 107, 121, 52, 112, 109, 106, 99, 55, 108, 48, 114, 54, 98, 54, 108, 55, 119, 104, 110, 110, 119, 55, 104, 112, 54, 45, 112, 121, 116, 104, 111, 110, 51, 45, 51, 46, 49, 51, 46, 49, 53, 47, 108, 105, 98, 47, 112, 121, 116, 104, 111, 110, 51, 46, 49, 51, 47, 108, 105, 98, 45, 100, 121, 110, 108, 111, 97, 100, 47, 109, 97, 116, 104, 46, 99, 112, 121, 116, 104, 111, 110, 45, 51, 49, 51, 45, 120, 56, 54, 95, 54, 52, 45, 108, 105, 110, 117, 120, 45, 103, 110, 117, 46, 115, 111, 6, 353, 2, 112, 105, 5, 352, 4614256656552045848, 6, 355, 1, 101, 5, 354, 4613303445314885481, 6, 357, 3, 116, 97, 117, 5, 356, 4618760256179416344, 6, 359, 3, 105, 110, 102, 5, 358, 9218868437227405312, 6, 361, 3, 110, 97, 110, 5, 360, 9221120237041090560]) 0, .bool true, .bool false, .str "math" 363] 0), #[]⟩
noncomputable def T0 (P : Params) : BT := (N (o0_1 P) (N (o1_1 P) (N (o3_1 P) (N (o7_1 P) (N (o15_1 P) (N (o31_1 P) L L) L) (N (o23_1 P) L L)) (N (o11_1 P) (N (o19_1 P) (N (o35_1 P) L L) L) (N (o27_1 P) L L))) (N (o5_1 P) (N (o9_1 P) (N (o17_1 P) (N (o33_1 P) L L) L) (N (o25_1 P) L L)) (N (o13_1 P) (N (o21_1 P) (N (o37_1 P) L L) L) (N (o29_1 P) L L)))) (N (o2_1 P) (N (o4_1 P) (N (o8 P) (N (o16_1 P) (N (o32_1 P) L L) L) (N (o24_1 P) L L)) (N (o12_1 P) (N (o20_1 P) (N (o36_1 P) L L) L) (N (o28_1 P) L L))) (N (o6 P) (N (o10_1 P) (N (o18_1 P) (N (o34_1 P) L L) L) (N (o26_1 P) L L)) (N (o14_1 P) (N (o22_1 P) (N (o38_1 P) L L) L) (N (o30 P) L L)))))
noncomputable def S0 (w : World) (os : OsState) : SharedT := ⟨T0 w.params, 39, {}, #[], {}, 374, os⟩
noncomputable def o39 (P : Params) : Obj := ⟨.type "tuple", none, (.seq #[] 0), #[]⟩
noncomputable def o40 (P : Params) : Obj := ⟨.none, none, (.fields #[]), #[]⟩
noncomputable def o41 (P : Params) : Obj := ⟨.type "code", none, (.fields #[.str "<module>" 375, .str "<module>" 376, .str "/claim/cut.py" 377, .int 1 0, .int 0 0, .int 0 0, .int 0 0, .int 0 0, .ref 39, .bool false, .int 374 0, .ref 40, .none, .none, .none, .none, .int 378 0, .int 1 0, .str "/claim/cut.py" 379]), #[]⟩
noncomputable def o42 (P : Params) : Obj := ⟨.type "frame", none, .plain, #[some (.ref 41), some (.ref 3), some (.ref 3), none, some (.str "__main__" 164), none, some (.ref 0)]⟩
noncomputable def Ta (P : Params) : BT := (N (o0_1 P) (N (o1_1 P) (N (o3_1 P) (N (o7_1 P) (N (o15_1 P) (N (o31_1 P) L L) L) (N (o23_1 P) (N (o39 P) L L) L)) (N (o11_1 P) (N (o19_1 P) (N (o35_1 P) L L) L) (N (o27_1 P) L L))) (N (o5_1 P) (N (o9_1 P) (N (o17_1 P) (N (o33_1 P) L L) L) (N (o25_1 P) (N (o41 P) L L) L)) (N (o13_1 P) (N (o21_1 P) (N (o37_1 P) L L) L) (N (o29_1 P) L L)))) (N (o2_1 P) (N (o4_1 P) (N (o8 P) (N (o16_1 P) (N (o32_1 P) L L) L) (N (o24_1 P) (N (o40 P) L L) L)) (N (o12_1 P) (N (o20_1 P) (N (o36_1 P) L L) L) (N (o28_1 P) L L))) (N (o6 P) (N (o10_1 P) (N (o18_1 P) (N (o34_1 P) L L) L) (N (o26_1 P) (N (o42 P) L L) L)) (N (o14_1 P) (N (o22_1 P) (N (o38_1 P) L L) L) (N (o30 P) L L)))))
noncomputable def Sa (w : World) (os : OsState) : SharedT := ⟨Ta w.params, 43, {}, #[], {}, 380, os⟩
noncomputable def Tb (P : Params) : BT := (N (o0_1 P) (N (o1_1 P) (N (o3_1 P) (N (o7_1 P) (N (o15_1 P) (N (o31_1 P) L L) L) (N (o23_1 P) (N (o39 P) L L) L)) (N (o11_1 P) (N (o19_1 P) (N (o35_1 P) L L) L) (N (o27_1 P) L L))) (N (o5_1 P) (N (o9_1 P) (N (o17_1 P) (N (o33_1 P) L L) L) (N (o25_1 P) (N (o41 P) L L) L)) (N (o13_1 P) (N (o21_1 P) (N (o37_1 P) L L) L) (N (o29_1 P) L L)))) (N (o2_1 P) (N (o4_1 P) (N (o8 P) (N (o16_1 P) (N (o32_1 P) L L) L) (N (o24_1 P) (N (o40 P) L L) L)) (N (o12_1 P) (N (o20_1 P) (N (o36_1 P) L L) L) (N (o28_1 P) L L))) (N (o6 P) (N (o10_1 P) (N (o18_1 P) (N (o34_1 P) L L) L) (N (o26_1 P) (N (o42 P) L L) L)) (N (o14_1 P) (N (o22_1 P) (N (o38_1 P) L L) L) (N (o30 P) L L)))))
noncomputable def Sb (w : World) (os : OsState) : SharedT := ⟨Tb w.params, 43, {}, #[], {}, 380, os⟩
noncomputable def o3_2 (P : Params) : Obj := ⟨.type "dict", none, (.dict #[ce P "__name__" 165 (.str "evertreads.errors" 436), ce P "__doc__" 166 .none, ce P "__package__" 167 .none, ce P "__loader__" 168 (.builtin "__main__.__loader__#opaque"), ce P "__spec__" 169 .none, ce P "__annotations__" 170 (.ref 6), ce P "__builtins__" 171 (.ref 4), ce P "__file__" 173 (.str "/claim/cut.py" 172), ce P "__cached__" 174 .none, ce P "gcd" 370 (.builtin "math.gcd"), ce P "lcm" 373 (.builtin "math.lcm"), ce P "_wall" 386 (.ref 49), ce P "MOST_ORDERS" 388 (.int 8 387), ce P "MOST_STEPS" 390 (.int 9 389), ce P "MOST_MOVE" 392 (.int 1000 391), ce P "GREATEST" 396 (.int 1000000000000000000000000000000 395), ce P "is_integer" 405 (.ref 56), ce P "is_within" 414 (.ref 63), ce P "is_pair" 421 (.ref 70), ce P "is_square" 428 (.ref 77), ce P "is_time" 435 (.ref 84), ce P "WrongValue" 462 (.ref 101), ce P "InvalidRow" 487 (.ref 121), ce P "InvalidSquare" 512 (.ref 140), ce P "InvalidWay" 537 (.ref 159), ce P "InvalidTime" 562 (.ref 178)] 26), #[]⟩
noncomputable def o40_1 (P : Params) : Obj := ⟨.none, none, (.fields #[.int 2 0, .int 0 0, .ref 48, .int 10 0, .int 0 0, .ref 55, .int 12 0, .int 0 0, .ref 62, .int 14 0, .int 0 0, .ref 69, .int 16 0, .int 0 0, .ref 76, .int 18 0, .int 0 0, .ref 83, .int 21 0, .int 0 0, .ref 90, .int 25 0, .int 0 0, .ref 110, .int 29 0, .int 0 0, .ref 129, .int 33 0, .int 0 0, .ref 148, .int 37 0, .int 0 0, .ref 167]), #[]⟩
noncomputable def o43 (P : Params) : Obj := ⟨.type "tuple", none, (.seq #[] 0), #[]⟩
noncomputable def o44 (P : Params) : Obj := ⟨.none, none, (.fields #[]), #[]⟩
noncomputable def o45 (P : Params) : Obj := ⟨.type "tuple", none, (.seq #[.str "k" 383] 0), #[]⟩
noncomputable def o46 (P : Params) : Obj := ⟨.type "tuple", none, (.seq #[] 0), #[]⟩
noncomputable def o47 (P : Params) : Obj := ⟨.none, none, (cf (top 1) "_wall" "_wall" 0 .none .none .none .none none .none .none 0), #[]⟩
noncomputable def o48 (P : Params) : Obj := ⟨.type "code", none, (.fields #[.str "_wall" 380, .str "_wall" 381, .str "/claim/cut.py" 382, .int 2 0, .int 1 0, .int 0 0, .int 0 0, .int 3 0, .ref 43, .bool true, .int 374 0, .ref 44, .none, .ref 45, .ref 46, .ref 47, .int 384 0, .int 2 0, .str "/claim/cut.py" 385]), #[]⟩
noncomputable def o49 (P : Params) : Obj := ⟨.type "function", none, (cf (top 1) "_wall" "_wall" 3 .none .none .none (.str "__main__" 164) none (.ref 48) .none 0), #[]⟩
noncomputable def o50 (P : Params) : Obj := ⟨.type "tuple", none, (.seq #[] 0), #[]⟩
noncomputable def o51 (P : Params) : Obj := ⟨.none, none, (.fields #[]), #[]⟩
noncomputable def o52 (P : Params) : Obj := ⟨.type "tuple", none, (.seq #[.str "value" 402] 0), #[]⟩
noncomputable def o53 (P : Params) : Obj := ⟨.type "tuple", none, (.seq #[] 0), #[]⟩
noncomputable def o54 (P : Params) : Obj := ⟨.none, none, (cf (top 7) "is_integer" "is_integer" 0 .none .none .none .none none .none .none 0), #[]⟩
noncomputable def o55 (P : Params) : Obj := ⟨.type "code", none, (.fields #[.str "is_integer" 399, .str "is_integer" 400, .str "/claim/cut.py" 401, .int 10 0, .int 1 0, .int 0 0, .int 0 0, .int 3 0, .ref 50, .bool true, .int 374 0, .ref 51, .none, .ref 52, .ref 53, .ref 54, .int 403 0, .int 10 0, .str "/claim/cut.py" 404]), #[]⟩
noncomputable def o56 (P : Params) : Obj := ⟨.type "function", none, (cf (top 7) "is_integer" "is_integer" 3 .none .none .none (.str "evertreads.checks" 397) none (.ref 55) .none 0), #[]⟩
noncomputable def o57 (P : Params) : Obj := ⟨.type "tuple", none, (.seq #[] 0), #[]⟩
noncomputable def o58 (P : Params) : Obj := ⟨.none, none, (.fields #[]), #[]⟩
noncomputable def o59 (P : Params) : Obj := ⟨.type "tuple", none, (.seq #[.str "value" 409, .str "least" 410, .str "most" 411] 0), #[]⟩
noncomputable def o60 (P : Params) : Obj := ⟨.type "tuple", none, (.seq #[] 0), #[]⟩
noncomputable def o61 (P : Params) : Obj := ⟨.none, none, (cf (top 8) "is_within" "is_within" 0 .none .none .none .none none .none .none 0), #[]⟩
noncomputable def o62 (P : Params) : Obj := ⟨.type "code", none, (.fields #[.str "is_within" 406, .str "is_within" 407, .str "/claim/cut.py" 408, .int 12 0, .int 3 0, .int 0 0, .int 0 0, .int 3 0, .ref 57, .bool true, .int 374 0, .ref 58, .none, .ref 59, .ref 60, .ref 61, .int 412 0, .int 12 0, .str "/claim/cut.py" 413]), #[]⟩
noncomputable def o63 (P : Params) : Obj := ⟨.type "function", none, (cf (top 8) "is_within" "is_within" 3 .none .none .none (.str "evertreads.checks" 397) none (.ref 62) .none 0), #[]⟩
noncomputable def o64 (P : Params) : Obj := ⟨.type "tuple", none, (.seq #[] 0), #[]⟩
noncomputable def o65 (P : Params) : Obj := ⟨.none, none, (.fields #[]), #[]⟩
noncomputable def o66 (P : Params) : Obj := ⟨.type "tuple", none, (.seq #[.str "value" 418] 0), #[]⟩
noncomputable def o67 (P : Params) : Obj := ⟨.type "tuple", none, (.seq #[] 0), #[]⟩
noncomputable def o68 (P : Params) : Obj := ⟨.none, none, (cf (top 9) "is_pair" "is_pair" 0 .none .none .none .none none .none .none 0), #[]⟩
noncomputable def o69 (P : Params) : Obj := ⟨.type "code", none, (.fields #[.str "is_pair" 415, .str "is_pair" 416, .str "/claim/cut.py" 417, .int 14 0, .int 1 0, .int 0 0, .int 0 0, .int 3 0, .ref 64, .bool true, .int 374 0, .ref 65, .none, .ref 66, .ref 67, .ref 68, .int 419 0, .int 14 0, .str "/claim/cut.py" 420]), #[]⟩
noncomputable def o70 (P : Params) : Obj := ⟨.type "function", none, (cf (top 9) "is_pair" "is_pair" 3 .none .none .none (.str "evertreads.checks" 397) none (.ref 69) .none 0), #[]⟩
noncomputable def o71 (P : Params) : Obj := ⟨.type "tuple", none, (.seq #[] 0), #[]⟩
noncomputable def o72 (P : Params) : Obj := ⟨.none, none, (.fields #[]), #[]⟩
noncomputable def o73 (P : Params) : Obj := ⟨.type "tuple", none, (.seq #[.str "value" 425] 0), #[]⟩
noncomputable def o74 (P : Params) : Obj := ⟨.type "tuple", none, (.seq #[] 0), #[]⟩
noncomputable def o75 (P : Params) : Obj := ⟨.none, none, (cf (top 10) "is_square" "is_square" 0 .none .none .none .none none .none .none 0), #[]⟩
noncomputable def o76 (P : Params) : Obj := ⟨.type "code", none, (.fields #[.str "is_square" 422, .str "is_square" 423, .str "/claim/cut.py" 424, .int 16 0, .int 1 0, .int 0 0, .int 0 0, .int 3 0, .ref 71, .bool true, .int 374 0, .ref 72, .none, .ref 73, .ref 74, .ref 75, .int 426 0, .int 16 0, .str "/claim/cut.py" 427]), #[]⟩
noncomputable def o77 (P : Params) : Obj := ⟨.type "function", none, (cf (top 10) "is_square" "is_square" 3 .none .none .none (.str "evertreads.checks" 397) none (.ref 76) .none 0), #[]⟩
noncomputable def o78 (P : Params) : Obj := ⟨.type "tuple", none, (.seq #[] 0), #[]⟩
noncomputable def o79 (P : Params) : Obj := ⟨.none, none, (.fields #[]), #[]⟩
noncomputable def o80 (P : Params) : Obj := ⟨.type "tuple", none, (.seq #[.str "value" 432] 0), #[]⟩
noncomputable def o81 (P : Params) : Obj := ⟨.type "tuple", none, (.seq #[] 0), #[]⟩
noncomputable def o82 (P : Params) : Obj := ⟨.none, none, (cf (top 11) "is_time" "is_time" 0 .none .none .none .none none .none .none 0), #[]⟩
noncomputable def o83 (P : Params) : Obj := ⟨.type "code", none, (.fields #[.str "is_time" 429, .str "is_time" 430, .str "/claim/cut.py" 431, .int 18 0, .int 1 0, .int 0 0, .int 0 0, .int 3 0, .ref 78, .bool true, .int 374 0, .ref 79, .none, .ref 80, .ref 81, .ref 82, .int 433 0, .int 18 0, .str "/claim/cut.py" 434]), #[]⟩
noncomputable def o84 (P : Params) : Obj := ⟨.type "function", none, (cf (top 11) "is_time" "is_time" 3 .none .none .none (.str "evertreads.checks" 397) none (.ref 83) .none 0), #[]⟩
noncomputable def o85 (P : Params) : Obj := ⟨.type "tuple", none, (.seq #[.type "ValueError"] 0), #[]⟩
noncomputable def o86 (P : Params) : Obj := ⟨.type "builtin_function_or_method", none, (.fields #[.builtin "type.__prepare__", .type "type"]), #[]⟩
noncomputable def o87 (P : Params) : Obj := ⟨.type "dict", none, (.dict #[ce P "__module__" 445 (.str "evertreads.errors" 436), ce P "__qualname__" 447 (.str "WrongValue" 446), ce P "__firstlineno__" 449 (.int 21 448), ce P "__init__" 456 (.ref 98), ce P "__static_attributes__" 457 (.ref 99)] 5), #[]⟩
noncomputable def o88 (P : Params) : Obj := ⟨.type "tuple", none, (.seq #[] 0), #[]⟩
noncomputable def o89 (P : Params) : Obj := ⟨.none, none, (.fields #[.int 23 0, .int 4 0, .ref 97]), #[]⟩
noncomputable def o90 (P : Params) : Obj := ⟨.type "code", none, (.fields #[.str "WrongValue" 440, .str "WrongValue" 441, .str "/claim/cut.py" 442, .int 21 0, .int 0 0, .int 0 0, .int 0 0, .int 0 0, .ref 88, .bool false, .int 374 0, .ref 89, .none, .none, .none, .none, .int 443 0, .int 21 0, .str "/claim/cut.py" 444]), #[]⟩
noncomputable def o91 (P : Params) : Obj := ⟨.type "frame", none, .plain, #[some (.ref 90), some (.ref 3), some (.ref 87), none, some (.str "evertreads.errors" 436), none, some (.ref 0)]⟩
noncomputable def o92 (P : Params) : Obj := ⟨.type "tuple", none, (.seq #[] 0), #[]⟩
noncomputable def o93 (P : Params) : Obj := ⟨.none, none, (.fields #[]), #[]⟩
noncomputable def o94 (P : Params) : Obj := ⟨.type "tuple", none, (.seq #[.str "self" 453] 0), #[]⟩
noncomputable def o95 (P : Params) : Obj := ⟨.type "tuple", none, (.seq #[] 0), #[]⟩
noncomputable def o96 (P : Params) : Obj := ⟨.none, none, (cf (inClass (top 13) 0) "__init__" "WrongValue.__init__" 0 .none .none .none .none none .none .none 0), #[]⟩
noncomputable def o97 (P : Params) : Obj := ⟨.type "code", none, (.fields #[.str "__init__" 450, .str "WrongValue.__init__" 451, .str "/claim/cut.py" 452, .int 23 0, .int 1 0, .int 0 0, .int 0 0, .int 3 0, .ref 92, .bool true, .int 374 0, .ref 93, .none, .ref 94, .ref 95, .ref 96, .int 454 0, .int 23 0, .str "/claim/cut.py" 455]), #[]⟩
noncomputable def o98 (P : Params) : Obj := ⟨.type "function", none, (cf (inClass (top 13) 0) "__init__" "WrongValue.__init__" 3 .none .none .none (.str "evertreads.errors" 436) none (.ref 97) .none 0), #[]⟩
noncomputable def o99 (P : Params) : Obj := ⟨.type "tuple", none, (.seq #[] 0), #[]⟩
noncomputable def o100 (P : Params) : Obj := ⟨.type "dict", none, (.dict #[ce P "__module__" 445 (.str "evertreads.errors" 436), ce P "__firstlineno__" 449 (.int 21 448), ce P "__init__" 456 (.ref 98), ce P "__static_attributes__" 457 (.ref 99), ce P "__weakref__" 459 (.ref 102), ce P "__doc__" 460 .none] 3), #[]⟩
noncomputable def o101 (P : Params) : Obj := ⟨.type "type", none, (.cls ⟨"WrongValue", [.type "ValueError"], [.ref 101, .type "ValueError", .type "Exception", .type "BaseException", .type "object"], 100, "WrongValue", true, [], [.ref 121, .ref 140, .ref 159, .ref 178], false, none, false⟩), #[some (.ref 85), none, some (.str "WrongValue" 438), some (.str "WrongValue" 446), some (.builtin "ValueError.__new__"), some (.bool true)]⟩
noncomputable def o102 (P : Params) : Obj := ⟨.type "getset_descriptor", none, (.fields #[.str "__weakref__" 458, .ref 101, .builtin "ExceptionGroup.__weakref__", .none]), #[]⟩
noncomputable def o103 (P : Params) : Obj := ⟨.type "super", none, (.fields #[.ref 101, .ref 101, .ref 101]), #[]⟩
noncomputable def o104 (P : Params) : Obj := ⟨.type "builtin_function_or_method", none, (.fields #[.builtin "object.__init_subclass__", .ref 101]), #[]⟩
noncomputable def o105 (P : Params) : Obj := ⟨.type "tuple", none, (.seq #[.ref 101] 0), #[]⟩
noncomputable def o106 (P : Params) : Obj := ⟨.type "builtin_function_or_method", none, (.fields #[.builtin "type.__prepare__", .type "type"]), #[]⟩
noncomputable def o107 (P : Params) : Obj := ⟨.type "dict", none, (.dict #[ce P "__module__" 470 (.str "evertreads.errors" 436), ce P "__qualname__" 472 (.str "InvalidRow" 471), ce P "__firstlineno__" 474 (.int 25 473), ce P "__init__" 482 (.ref 118), ce P "__static_attributes__" 484 (.ref 119)] 5), #[]⟩
noncomputable def o108 (P : Params) : Obj := ⟨.type "tuple", none, (.seq #[] 0), #[]⟩
noncomputable def o109 (P : Params) : Obj := ⟨.none, none, (.fields #[.int 27 0, .int 4 0, .ref 117]), #[]⟩
noncomputable def o110 (P : Params) : Obj := ⟨.type "code", none, (.fields #[.str "InvalidRow" 465, .str "InvalidRow" 466, .str "/claim/cut.py" 467, .int 25 0, .int 0 0, .int 0 0, .int 0 0, .int 0 0, .ref 108, .bool false, .int 374 0, .ref 109, .none, .none, .none, .none, .int 468 0, .int 25 0, .str "/claim/cut.py" 469]), #[]⟩
noncomputable def o111 (P : Params) : Obj := ⟨.type "frame", none, .plain, #[some (.ref 110), some (.ref 3), some (.ref 107), none, some (.str "evertreads.errors" 436), none, some (.ref 0)]⟩
noncomputable def o112 (P : Params) : Obj := ⟨.type "tuple", none, (.seq #[] 0), #[]⟩
noncomputable def o113 (P : Params) : Obj := ⟨.none, none, (.fields #[]), #[]⟩
noncomputable def o114 (P : Params) : Obj := ⟨.type "tuple", none, (.seq #[.str "self" 478, .str "given" 479] 0), #[]⟩
noncomputable def o115 (P : Params) : Obj := ⟨.type "tuple", none, (.seq #[] 0), #[]⟩
noncomputable def o116 (P : Params) : Obj := ⟨.none, none, (cf (inClass (top 14) 0) "__init__" "InvalidRow.__init__" 0 .none .none .none .none none .none .none 0), #[]⟩
noncomputable def o117 (P : Params) : Obj := ⟨.type "code", none, (.fields #[.str "__init__" 475, .str "InvalidRow.__init__" 476, .str "/claim/cut.py" 477, .int 27 0, .int 2 0, .int 0 0, .int 0 0, .int 3 0, .ref 112, .bool true, .int 374 0, .ref 113, .none, .ref 114, .ref 115, .ref 116, .int 480 0, .int 27 0, .str "/claim/cut.py" 481]), #[]⟩
noncomputable def o118 (P : Params) : Obj := ⟨.type "function", none, (cf (inClass (top 14) 0) "__init__" "InvalidRow.__init__" 3 .none .none .none (.str "evertreads.errors" 436) none (.ref 117) .none 0), #[]⟩
noncomputable def o119 (P : Params) : Obj := ⟨.type "tuple", none, (.seq #[.str "given" 483] 0), #[]⟩
noncomputable def o120 (P : Params) : Obj := ⟨.type "dict", none, (.dict #[ce P "__module__" 470 (.str "evertreads.errors" 436), ce P "__firstlineno__" 474 (.int 25 473), ce P "__init__" 482 (.ref 118), ce P "__static_attributes__" 484 (.ref 119), ce P "__doc__" 485 .none] 2), #[]⟩
noncomputable def o121 (P : Params) : Obj := ⟨.type "type", none, (.cls ⟨"InvalidRow", [.ref 101], [.ref 121, .ref 101, .type "ValueError", .type "Exception", .type "BaseException", .type "object"], 120, "InvalidRow", true, [], [], false, none, false⟩), #[some (.ref 105), none, some (.str "InvalidRow" 463), some (.str "InvalidRow" 471), some (.builtin "ValueError.__new__"), some (.bool true)]⟩
noncomputable def o122 (P : Params) : Obj := ⟨.type "super", none, (.fields #[.ref 121, .ref 121, .ref 121]), #[]⟩
noncomputable def o123 (P : Params) : Obj := ⟨.type "builtin_function_or_method", none, (.fields #[.builtin "object.__init_subclass__", .ref 121]), #[]⟩
noncomputable def o124 (P : Params) : Obj := ⟨.type "tuple", none, (.seq #[.ref 101] 0), #[]⟩
noncomputable def o125 (P : Params) : Obj := ⟨.type "builtin_function_or_method", none, (.fields #[.builtin "type.__prepare__", .type "type"]), #[]⟩
noncomputable def o126 (P : Params) : Obj := ⟨.type "dict", none, (.dict #[ce P "__module__" 495 (.str "evertreads.errors" 436), ce P "__qualname__" 497 (.str "InvalidSquare" 496), ce P "__firstlineno__" 499 (.int 29 498), ce P "__init__" 507 (.ref 137), ce P "__static_attributes__" 509 (.ref 138)] 5), #[]⟩
noncomputable def o127 (P : Params) : Obj := ⟨.type "tuple", none, (.seq #[] 0), #[]⟩
noncomputable def o128 (P : Params) : Obj := ⟨.none, none, (.fields #[.int 31 0, .int 4 0, .ref 136]), #[]⟩
noncomputable def o129 (P : Params) : Obj := ⟨.type "code", none, (.fields #[.str "InvalidSquare" 490, .str "InvalidSquare" 491, .str "/claim/cut.py" 492, .int 29 0, .int 0 0, .int 0 0, .int 0 0, .int 0 0, .ref 127, .bool false, .int 374 0, .ref 128, .none, .none, .none, .none, .int 493 0, .int 29 0, .str "/claim/cut.py" 494]), #[]⟩
noncomputable def o130 (P : Params) : Obj := ⟨.type "frame", none, .plain, #[some (.ref 129), some (.ref 3), some (.ref 126), none, some (.str "evertreads.errors" 436), none, some (.ref 0)]⟩
noncomputable def o131 (P : Params) : Obj := ⟨.type "tuple", none, (.seq #[] 0), #[]⟩
noncomputable def o132 (P : Params) : Obj := ⟨.none, none, (.fields #[]), #[]⟩
noncomputable def o133 (P : Params) : Obj := ⟨.type "tuple", none, (.seq #[.str "self" 503, .str "given" 504] 0), #[]⟩
noncomputable def o134 (P : Params) : Obj := ⟨.type "tuple", none, (.seq #[] 0), #[]⟩
noncomputable def o135 (P : Params) : Obj := ⟨.none, none, (cf (inClass (top 15) 0) "__init__" "InvalidSquare.__init__" 0 .none .none .none .none none .none .none 0), #[]⟩
noncomputable def o136 (P : Params) : Obj := ⟨.type "code", none, (.fields #[.str "__init__" 500, .str "InvalidSquare.__init__" 501, .str "/claim/cut.py" 502, .int 31 0, .int 2 0, .int 0 0, .int 0 0, .int 3 0, .ref 131, .bool true, .int 374 0, .ref 132, .none, .ref 133, .ref 134, .ref 135, .int 505 0, .int 31 0, .str "/claim/cut.py" 506]), #[]⟩
noncomputable def o137 (P : Params) : Obj := ⟨.type "function", none, (cf (inClass (top 15) 0) "__init__" "InvalidSquare.__init__" 3 .none .none .none (.str "evertreads.errors" 436) none (.ref 136) .none 0), #[]⟩
noncomputable def o138 (P : Params) : Obj := ⟨.type "tuple", none, (.seq #[.str "given" 508] 0), #[]⟩
noncomputable def o139 (P : Params) : Obj := ⟨.type "dict", none, (.dict #[ce P "__module__" 495 (.str "evertreads.errors" 436), ce P "__firstlineno__" 499 (.int 29 498), ce P "__init__" 507 (.ref 137), ce P "__static_attributes__" 509 (.ref 138), ce P "__doc__" 510 .none] 2), #[]⟩
noncomputable def o140 (P : Params) : Obj := ⟨.type "type", none, (.cls ⟨"InvalidSquare", [.ref 101], [.ref 140, .ref 101, .type "ValueError", .type "Exception", .type "BaseException", .type "object"], 139, "InvalidSquare", true, [], [], false, none, false⟩), #[some (.ref 124), none, some (.str "InvalidSquare" 488), some (.str "InvalidSquare" 496), some (.builtin "ValueError.__new__"), some (.bool true)]⟩
noncomputable def o141 (P : Params) : Obj := ⟨.type "super", none, (.fields #[.ref 140, .ref 140, .ref 140]), #[]⟩
noncomputable def o142 (P : Params) : Obj := ⟨.type "builtin_function_or_method", none, (.fields #[.builtin "object.__init_subclass__", .ref 140]), #[]⟩
noncomputable def o143 (P : Params) : Obj := ⟨.type "tuple", none, (.seq #[.ref 101] 0), #[]⟩
noncomputable def o144 (P : Params) : Obj := ⟨.type "builtin_function_or_method", none, (.fields #[.builtin "type.__prepare__", .type "type"]), #[]⟩
noncomputable def o145 (P : Params) : Obj := ⟨.type "dict", none, (.dict #[ce P "__module__" 520 (.str "evertreads.errors" 436), ce P "__qualname__" 522 (.str "InvalidWay" 521), ce P "__firstlineno__" 524 (.int 33 523), ce P "__init__" 532 (.ref 156), ce P "__static_attributes__" 534 (.ref 157)] 5), #[]⟩
noncomputable def o146 (P : Params) : Obj := ⟨.type "tuple", none, (.seq #[] 0), #[]⟩
noncomputable def o147 (P : Params) : Obj := ⟨.none, none, (.fields #[.int 35 0, .int 4 0, .ref 155]), #[]⟩
noncomputable def o148 (P : Params) : Obj := ⟨.type "code", none, (.fields #[.str "InvalidWay" 515, .str "InvalidWay" 516, .str "/claim/cut.py" 517, .int 33 0, .int 0 0, .int 0 0, .int 0 0, .int 0 0, .ref 146, .bool false, .int 374 0, .ref 147, .none, .none, .none, .none, .int 518 0, .int 33 0, .str "/claim/cut.py" 519]), #[]⟩
noncomputable def o149 (P : Params) : Obj := ⟨.type "frame", none, .plain, #[some (.ref 148), some (.ref 3), some (.ref 145), none, some (.str "evertreads.errors" 436), none, some (.ref 0)]⟩
noncomputable def o150 (P : Params) : Obj := ⟨.type "tuple", none, (.seq #[] 0), #[]⟩
noncomputable def o151 (P : Params) : Obj := ⟨.none, none, (.fields #[]), #[]⟩
noncomputable def o152 (P : Params) : Obj := ⟨.type "tuple", none, (.seq #[.str "self" 528, .str "given" 529] 0), #[]⟩
noncomputable def o153 (P : Params) : Obj := ⟨.type "tuple", none, (.seq #[] 0), #[]⟩
noncomputable def o154 (P : Params) : Obj := ⟨.none, none, (cf (inClass (top 16) 0) "__init__" "InvalidWay.__init__" 0 .none .none .none .none none .none .none 0), #[]⟩
noncomputable def o155 (P : Params) : Obj := ⟨.type "code", none, (.fields #[.str "__init__" 525, .str "InvalidWay.__init__" 526, .str "/claim/cut.py" 527, .int 35 0, .int 2 0, .int 0 0, .int 0 0, .int 3 0, .ref 150, .bool true, .int 374 0, .ref 151, .none, .ref 152, .ref 153, .ref 154, .int 530 0, .int 35 0, .str "/claim/cut.py" 531]), #[]⟩
noncomputable def o156 (P : Params) : Obj := ⟨.type "function", none, (cf (inClass (top 16) 0) "__init__" "InvalidWay.__init__" 3 .none .none .none (.str "evertreads.errors" 436) none (.ref 155) .none 0), #[]⟩
noncomputable def o157 (P : Params) : Obj := ⟨.type "tuple", none, (.seq #[.str "given" 533] 0), #[]⟩
noncomputable def o158 (P : Params) : Obj := ⟨.type "dict", none, (.dict #[ce P "__module__" 520 (.str "evertreads.errors" 436), ce P "__firstlineno__" 524 (.int 33 523), ce P "__init__" 532 (.ref 156), ce P "__static_attributes__" 534 (.ref 157), ce P "__doc__" 535 .none] 2), #[]⟩
noncomputable def o159 (P : Params) : Obj := ⟨.type "type", none, (.cls ⟨"InvalidWay", [.ref 101], [.ref 159, .ref 101, .type "ValueError", .type "Exception", .type "BaseException", .type "object"], 158, "InvalidWay", true, [], [], false, none, false⟩), #[some (.ref 143), none, some (.str "InvalidWay" 513), some (.str "InvalidWay" 521), some (.builtin "ValueError.__new__"), some (.bool true)]⟩
noncomputable def o160 (P : Params) : Obj := ⟨.type "super", none, (.fields #[.ref 159, .ref 159, .ref 159]), #[]⟩
noncomputable def o161 (P : Params) : Obj := ⟨.type "builtin_function_or_method", none, (.fields #[.builtin "object.__init_subclass__", .ref 159]), #[]⟩
noncomputable def o162 (P : Params) : Obj := ⟨.type "tuple", none, (.seq #[.ref 101] 0), #[]⟩
noncomputable def o163 (P : Params) : Obj := ⟨.type "builtin_function_or_method", none, (.fields #[.builtin "type.__prepare__", .type "type"]), #[]⟩
noncomputable def o164 (P : Params) : Obj := ⟨.type "dict", none, (.dict #[ce P "__module__" 545 (.str "evertreads.errors" 436), ce P "__qualname__" 547 (.str "InvalidTime" 546), ce P "__firstlineno__" 549 (.int 37 548), ce P "__init__" 557 (.ref 175), ce P "__static_attributes__" 559 (.ref 176)] 5), #[]⟩
noncomputable def o165 (P : Params) : Obj := ⟨.type "tuple", none, (.seq #[] 0), #[]⟩
noncomputable def o166 (P : Params) : Obj := ⟨.none, none, (.fields #[.int 39 0, .int 4 0, .ref 174]), #[]⟩
noncomputable def o167 (P : Params) : Obj := ⟨.type "code", none, (.fields #[.str "InvalidTime" 540, .str "InvalidTime" 541, .str "/claim/cut.py" 542, .int 37 0, .int 0 0, .int 0 0, .int 0 0, .int 0 0, .ref 165, .bool false, .int 374 0, .ref 166, .none, .none, .none, .none, .int 543 0, .int 37 0, .str "/claim/cut.py" 544]), #[]⟩
noncomputable def o168 (P : Params) : Obj := ⟨.type "frame", none, .plain, #[some (.ref 167), some (.ref 3), some (.ref 164), none, some (.str "evertreads.errors" 436), none, some (.ref 0)]⟩
noncomputable def o169 (P : Params) : Obj := ⟨.type "tuple", none, (.seq #[] 0), #[]⟩
noncomputable def o170 (P : Params) : Obj := ⟨.none, none, (.fields #[]), #[]⟩
noncomputable def o171 (P : Params) : Obj := ⟨.type "tuple", none, (.seq #[.str "self" 553, .str "given" 554] 0), #[]⟩
noncomputable def o172 (P : Params) : Obj := ⟨.type "tuple", none, (.seq #[] 0), #[]⟩
noncomputable def o173 (P : Params) : Obj := ⟨.none, none, (cf (inClass (top 17) 0) "__init__" "InvalidTime.__init__" 0 .none .none .none .none none .none .none 0), #[]⟩
noncomputable def o174 (P : Params) : Obj := ⟨.type "code", none, (.fields #[.str "__init__" 550, .str "InvalidTime.__init__" 551, .str "/claim/cut.py" 552, .int 39 0, .int 2 0, .int 0 0, .int 0 0, .int 3 0, .ref 169, .bool true, .int 374 0, .ref 170, .none, .ref 171, .ref 172, .ref 173, .int 555 0, .int 39 0, .str "/claim/cut.py" 556]), #[]⟩
noncomputable def o175 (P : Params) : Obj := ⟨.type "function", none, (cf (inClass (top 17) 0) "__init__" "InvalidTime.__init__" 3 .none .none .none (.str "evertreads.errors" 436) none (.ref 174) .none 0), #[]⟩
noncomputable def o176 (P : Params) : Obj := ⟨.type "tuple", none, (.seq #[.str "given" 558] 0), #[]⟩
noncomputable def o177 (P : Params) : Obj := ⟨.type "dict", none, (.dict #[ce P "__module__" 545 (.str "evertreads.errors" 436), ce P "__firstlineno__" 549 (.int 37 548), ce P "__init__" 557 (.ref 175), ce P "__static_attributes__" 559 (.ref 176), ce P "__doc__" 560 .none] 2), #[]⟩
noncomputable def o178 (P : Params) : Obj := ⟨.type "type", none, (.cls ⟨"InvalidTime", [.ref 101], [.ref 178, .ref 101, .type "ValueError", .type "Exception", .type "BaseException", .type "object"], 177, "InvalidTime", true, [], [], false, none, false⟩), #[some (.ref 162), none, some (.str "InvalidTime" 538), some (.str "InvalidTime" 546), some (.builtin "ValueError.__new__"), some (.bool true)]⟩
noncomputable def o179 (P : Params) : Obj := ⟨.type "super", none, (.fields #[.ref 178, .ref 178, .ref 178]), #[]⟩
noncomputable def o180 (P : Params) : Obj := ⟨.type "builtin_function_or_method", none, (.fields #[.builtin "object.__init_subclass__", .ref 178]), #[]⟩
noncomputable def T17 (P : Params) : BT := (N (o0_1 P) (N (o1_1 P) (N (o3_2 P) (N (o7_1 P) (N (o15_1 P) (N (o31_1 P) (N (o63 P) (N (o127 P) L L) L) (N (o95 P) (N (o159 P) L L) L)) (N (o47 P) (N (o79 P) (N (o143 P) L L) L) (N (o111 P) (N (o175 P) L L) L))) (N (o23_1 P) (N (o39 P) (N (o71 P) (N (o135 P) L L) L) (N (o103 P) (N (o167 P) L L) L)) (N (o55 P) (N (o87 P) (N (o151 P) L L) L) (N (o119 P) L L)))) (N (o11_1 P) (N (o19_1 P) (N (o35_1 P) (N (o67 P) (N (o131 P) L L) L) (N (o99 P) (N (o163 P) L L) L)) (N (o51 P) (N (o83 P) (N (o147 P) L L) L) (N (o115 P) (N (o179 P) L L) L))) (N (o27_1 P) (N (o43 P) (N (o75 P) (N (o139 P) L L) L) (N (o107 P) (N (o171 P) L L) L)) (N (o59 P) (N (o91 P) (N (o155 P) L L) L) (N (o123 P) L L))))) (N (o5_1 P) (N (o9_1 P) (N (o17_1 P) (N (o33_1 P) (N (o65 P) (N (o129 P) L L) L) (N (o97 P) (N (o161 P) L L) L)) (N (o49 P) (N (o81 P) (N (o145 P) L L) L) (N (o113 P) (N (o177 P) L L) L))) (N (o25_1 P) (N (o41 P) (N (o73 P) (N (o137 P) L L) L) (N (o105 P) (N (o169 P) L L) L)) (N (o57 P) (N (o89 P) (N (o153 P) L L) L) (N (o121 P) L L)))) (N (o13_1 P) (N (o21_1 P) (N (o37_1 P) (N (o69 P) (N (o133 P) L L) L) (N (o101 P) (N (o165 P) L L) L)) (N (o53 P) (N (o85 P) (N (o149 P) L L) L) (N (o117 P) L L))) (N (o29_1 P) (N (o45 P) (N (o77 P) (N (o141 P) L L) L) (N (o109 P) (N (o173 P) L L) L)) (N (o61 P) (N (o93 P) (N (o157 P) L L) L) (N (o125 P) L L)))))) (N (o2_1 P) (N (o4_1 P) (N (o8 P) (N (o16_1 P) (N (o32_1 P) (N (o64 P) (N (o128 P) L L) L) (N (o96 P) (N (o160 P) L L) L)) (N (o48 P) (N (o80 P) (N (o144 P) L L) L) (N (o112 P) (N (o176 P) L L) L))) (N (o24_1 P) (N (o40_1 P) (N (o72 P) (N (o136 P) L L) L) (N (o104 P) (N (o168 P) L L) L)) (N (o56 P) (N (o88 P) (N (o152 P) L L) L) (N (o120 P) L L)))) (N (o12_1 P) (N (o20_1 P) (N (o36_1 P) (N (o68 P) (N (o132 P) L L) L) (N (o100 P) (N (o164 P) L L) L)) (N (o52 P) (N (o84 P) (N (o148 P) L L) L) (N (o116 P) (N (o180 P) L L) L))) (N (o28_1 P) (N (o44 P) (N (o76 P) (N (o140 P) L L) L) (N (o108 P) (N (o172 P) L L) L)) (N (o60 P) (N (o92 P) (N (o156 P) L L) L) (N (o124 P) L L))))) (N (o6 P) (N (o10_1 P) (N (o18_1 P) (N (o34_1 P) (N (o66 P) (N (o130 P) L L) L) (N (o98 P) (N (o162 P) L L) L)) (N (o50 P) (N (o82 P) (N (o146 P) L L) L) (N (o114 P) (N (o178 P) L L) L))) (N (o26_1 P) (N (o42 P) (N (o74 P) (N (o138 P) L L) L) (N (o106 P) (N (o170 P) L L) L)) (N (o58 P) (N (o90 P) (N (o154 P) L L) L) (N (o122 P) L L)))) (N (o14_1 P) (N (o22_1 P) (N (o38_1 P) (N (o70 P) (N (o134 P) L L) L) (N (o102 P) (N (o166 P) L L) L)) (N (o54 P) (N (o86 P) (N (o150 P) L L) L) (N (o118 P) L L))) (N (o30 P) (N (o46 P) (N (o78 P) (N (o142 P) L L) L) (N (o110 P) (N (o174 P) L L) L)) (N (o62 P) (N (o94 P) (N (o158 P) L L) L) (N (o126 P) L L)))))))
noncomputable def S17 (w : World) (os : OsState) : SharedT := ⟨T17 w.params, 181, {}, #[], {}, 563, os⟩
noncomputable def o3_3 (P : Params) : Obj := ⟨.type "dict", none, (.dict #[ce P "__name__" 165 (.str "evertreads.sieves" 862), ce P "__doc__" 166 .none, ce P "__package__" 167 .none, ce P "__loader__" 168 (.builtin "__main__.__loader__#opaque"), ce P "__spec__" 169 .none, ce P "__annotations__" 170 (.ref 6), ce P "__builtins__" 171 (.ref 4), ce P "__file__" 173 (.str "/claim/cut.py" 172), ce P "__cached__" 174 .none, ce P "gcd" 370 (.builtin "math.gcd"), ce P "lcm" 373 (.builtin "math.lcm"), ce P "_wall" 386 (.ref 49), ce P "MOST_ORDERS" 388 (.int 8 387), ce P "MOST_STEPS" 390 (.int 9 389), ce P "MOST_MOVE" 392 (.int 1000 391), ce P "GREATEST" 396 (.int 1000000000000000000000000000000 395), ce P "is_integer" 405 (.ref 56), ce P "is_within" 414 (.ref 63), ce P "is_pair" 421 (.ref 70), ce P "is_square" 428 (.ref 77), ce P "is_time" 435 (.ref 84), ce P "WrongValue" 462 (.ref 101), ce P "InvalidRow" 487 (.ref 121), ce P "InvalidSquare" 512 (.ref 140), ce P "InvalidWay" 537 (.ref 159), ce P "InvalidTime" 562 (.ref 178), ce P "InvalidParts" 587 (.ref 197), ce P "lane_of" 602 (.ref 206), ce P "square_in" 611 (.ref 213), ce P "lanes_trodden" 617 (.ref 218), ce P "slope_of" 628 (.ref 225), ce P "line_through" 641 (.ref 232), ce P "square_on" 653 (.ref 239), ce P "crossing" 672 (.ref 246), ce P "place" 685 (.ref 253), ce P "primes_of" 696 (.ref 260), ce P "common_multiple" 705 (.ref 267), ce P "inverse" 718 (.ref 274), ce P "repeated" 730 (.ref 281), ce P "window" 741 (.ref 288), ce P "least" 751 (.ref 295), ce P "full" 758 (.ref 302), ce P "ones" 765 (.ref 309), ce P "places" 771 (.ref 314), ce P "raised" 777 (.ref 319), ce P "BOTH" 780 (.ref 322), ce P "EITHER" 781 (.ref 325), ce P "FIRST" 782 (.ref 328), ce P "ONE" 783 (.ref 331), ce P "NEVER" 785 (.ref 333), ce P "MOST_TABLED" 787 (.int 360 786), ce P "plain" 795 (.ref 340), ce P "holds" 809 (.ref 347), ce P "told" 826 (.ref 354), ce P "common_period" 832 (.ref 359), ce P "tabled" 840 (.ref 366), ce P "answers" 849 (.ref 373), ce P "layers" 855 (.ref 378), ce P "joined" 861 (.ref 383), ce P "MOST_BITS" 865 (.int 65536 864), ce P "seen_along" 871 (.ref 388), ce P "gathered" 877 (.ref 393), ce P "taken" 888 (.ref 400), ce P "loosened" 894 (.ref 405), ce P "deciding" 904 (.ref 412), ce P "primes_in" 910 (.ref 417), ce P "shared_prime" 916 (.ref 422), ce P "leave_some" 922 (.ref 427), ce P "parted" 928 (.ref 432), ce P "left_in_bits" 934 (.ref 437)] 70), #[]⟩
noncomputable def o40_2 (P : Params) : Obj := ⟨.none, none, (.fields #[.int 2 0, .int 0 0, .ref 48, .int 10 0, .int 0 0, .ref 55, .int 12 0, .int 0 0, .ref 62, .int 14 0, .int 0 0, .ref 69, .int 16 0, .int 0 0, .ref 76, .int 18 0, .int 0 0, .ref 83, .int 21 0, .int 0 0, .ref 90, .int 25 0, .int 0 0, .ref 110, .int 29 0, .int 0 0, .ref 129, .int 33 0, .int 0 0, .ref 148, .int 37 0, .int 0 0, .ref 167, .int 41 0, .int 0 0, .ref 186, .int 46 0, .int 0 0, .ref 205, .int 55 0, .int 0 0, .ref 212, .int 57 0, .int 0 0, .ref 217, .int 64 0, .int 0 0, .ref 224, .int 69 0, .int 0 0, .ref 231, .int 74 0, .int 0 0, .ref 238, .int 77 0, .int 0 0, .ref 245, .int 84 0, .int 0 0, .ref 252, .int 94 0, .int 0 0, .ref 259, .int 106 0, .int 0 0, .ref 266, .int 111 0, .int 0 0, .ref 273, .int 120 0, .int 0 0, .ref 280, .int 126 0, .int 0 0, .ref 287, .int 129 0, .int 0 0, .ref 294, .int 137 0, .int 0 0, .ref 301, .int 139 0, .int 0 0, .ref 308, .int 141 0, .int 0 0, .ref 313, .int 143 0, .int 0 0, .ref 318, .int 152 0, .int 0 0, .ref 339, .int 157 0, .int 0 0, .ref 346, .int 163 0, .int 0 0, .ref 353, .int 170 0, .int 0 0, .ref 358, .int 172 0, .int 0 0, .ref 365, .int 179 0, .int 0 0, .ref 372, .int 183 0, .int 0 0, .ref 377, .int 196 0, .int 0 0, .ref 382, .int 210 0, .int 0 0, .ref 387, .int 216 0, .int 0 0, .ref 392, .int 222 0, .int 0 0, .ref 399, .int 227 0, .int 0 0, .ref 404, .int 235 0, .int 0 0, .ref 411, .int 243 0, .int 0 0, .ref 416, .int 245 0, .int 0 0, .ref 421, .int 250 0, .int 0 0, .ref 426, .int 264 0, .int 0 0, .ref 431, .int 276 0, .int 0 0, .ref 436]), #[]⟩
noncomputable def o101_1 (P : Params) : Obj := ⟨.type "type", none, (.cls ⟨"WrongValue", [.type "ValueError"], [.ref 101, .type "ValueError", .type "Exception", .type "BaseException", .type "object"], 100, "WrongValue", true, [], [.ref 121, .ref 140, .ref 159, .ref 178, .ref 197], false, none, false⟩), #[some (.ref 85), none, some (.str "WrongValue" 438), some (.str "WrongValue" 446), some (.builtin "ValueError.__new__"), some (.bool true)]⟩
noncomputable def o181 (P : Params) : Obj := ⟨.type "tuple", none, (.seq #[.ref 101] 0), #[]⟩
noncomputable def o182 (P : Params) : Obj := ⟨.type "builtin_function_or_method", none, (.fields #[.builtin "type.__prepare__", .type "type"]), #[]⟩
noncomputable def o183 (P : Params) : Obj := ⟨.type "dict", none, (.dict #[ce P "__module__" 570 (.str "evertreads.errors" 436), ce P "__qualname__" 572 (.str "InvalidParts" 571), ce P "__firstlineno__" 574 (.int 41 573), ce P "__init__" 582 (.ref 194), ce P "__static_attributes__" 584 (.ref 195)] 5), #[]⟩
noncomputable def o184 (P : Params) : Obj := ⟨.type "tuple", none, (.seq #[] 0), #[]⟩
noncomputable def o185 (P : Params) : Obj := ⟨.none, none, (.fields #[.int 43 0, .int 4 0, .ref 193]), #[]⟩
noncomputable def o186 (P : Params) : Obj := ⟨.type "code", none, (.fields #[.str "InvalidParts" 565, .str "InvalidParts" 566, .str "/claim/cut.py" 567, .int 41 0, .int 0 0, .int 0 0, .int 0 0, .int 0 0, .ref 184, .bool false, .int 374 0, .ref 185, .none, .none, .none, .none, .int 568 0, .int 41 0, .str "/claim/cut.py" 569]), #[]⟩
noncomputable def o187 (P : Params) : Obj := ⟨.type "frame", none, .plain, #[some (.ref 186), some (.ref 3), some (.ref 183), none, some (.str "evertreads.errors" 436), none, some (.ref 0)]⟩
noncomputable def o188 (P : Params) : Obj := ⟨.type "tuple", none, (.seq #[] 0), #[]⟩
noncomputable def o189 (P : Params) : Obj := ⟨.none, none, (.fields #[]), #[]⟩
noncomputable def o190 (P : Params) : Obj := ⟨.type "tuple", none, (.seq #[.str "self" 578, .str "index" 579] 0), #[]⟩
noncomputable def o191 (P : Params) : Obj := ⟨.type "tuple", none, (.seq #[] 0), #[]⟩
noncomputable def o192 (P : Params) : Obj := ⟨.none, none, (cf (inClass (top 18) 0) "__init__" "InvalidParts.__init__" 0 .none .none .none .none none .none .none 0), #[]⟩
noncomputable def o193 (P : Params) : Obj := ⟨.type "code", none, (.fields #[.str "__init__" 575, .str "InvalidParts.__init__" 576, .str "/claim/cut.py" 577, .int 43 0, .int 2 0, .int 0 0, .int 0 0, .int 3 0, .ref 188, .bool true, .int 374 0, .ref 189, .none, .ref 190, .ref 191, .ref 192, .int 580 0, .int 43 0, .str "/claim/cut.py" 581]), #[]⟩
noncomputable def o194 (P : Params) : Obj := ⟨.type "function", none, (cf (inClass (top 18) 0) "__init__" "InvalidParts.__init__" 3 .none .none .none (.str "evertreads.errors" 436) none (.ref 193) .none 0), #[]⟩
noncomputable def o195 (P : Params) : Obj := ⟨.type "tuple", none, (.seq #[.str "index" 583] 0), #[]⟩
noncomputable def o196 (P : Params) : Obj := ⟨.type "dict", none, (.dict #[ce P "__module__" 570 (.str "evertreads.errors" 436), ce P "__firstlineno__" 574 (.int 41 573), ce P "__init__" 582 (.ref 194), ce P "__static_attributes__" 584 (.ref 195), ce P "__doc__" 585 .none] 2), #[]⟩
noncomputable def o197 (P : Params) : Obj := ⟨.type "type", none, (.cls ⟨"InvalidParts", [.ref 101], [.ref 197, .ref 101, .type "ValueError", .type "Exception", .type "BaseException", .type "object"], 196, "InvalidParts", true, [], [], false, none, false⟩), #[some (.ref 181), none, some (.str "InvalidParts" 563), some (.str "InvalidParts" 571), some (.builtin "ValueError.__new__"), some (.bool true)]⟩
noncomputable def o198 (P : Params) : Obj := ⟨.type "super", none, (.fields #[.ref 197, .ref 197, .ref 197]), #[]⟩
noncomputable def o199 (P : Params) : Obj := ⟨.type "builtin_function_or_method", none, (.fields #[.builtin "object.__init_subclass__", .ref 197]), #[]⟩
noncomputable def o200 (P : Params) : Obj := ⟨.type "tuple", none, (.seq #[] 0), #[]⟩
noncomputable def o201 (P : Params) : Obj := ⟨.none, none, (.fields #[]), #[]⟩
noncomputable def o202 (P : Params) : Obj := ⟨.type "tuple", none, (.seq #[.str "square" 593, .str "drift" 594, .str "x" 595, .str "y" 596, .str "dx" 597, .str "dy" 598, .str "place" 599] 0), #[]⟩
noncomputable def o203 (P : Params) : Obj := ⟨.type "tuple", none, (.seq #[] 0), #[]⟩
noncomputable def o204 (P : Params) : Obj := ⟨.none, none, (cf (top 20) "lane_of" "lane_of" 0 .none .none .none .none none .none .none 0), #[]⟩
noncomputable def o205 (P : Params) : Obj := ⟨.type "code", none, (.fields #[.str "lane_of" 590, .str "lane_of" 591, .str "/claim/cut.py" 592, .int 46 0, .int 2 0, .int 0 0, .int 0 0, .int 3 0, .ref 200, .bool true, .int 374 0, .ref 201, .none, .ref 202, .ref 203, .ref 204, .int 600 0, .int 46 0, .str "/claim/cut.py" 601]), #[]⟩
noncomputable def o206 (P : Params) : Obj := ⟨.type "function", none, (cf (top 20) "lane_of" "lane_of" 3 .none .none .none (.str "evertreads.lanes" 588) none (.ref 205) .none 0), #[]⟩
noncomputable def o207 (P : Params) : Obj := ⟨.type "tuple", none, (.seq #[] 0), #[]⟩
noncomputable def o208 (P : Params) : Obj := ⟨.none, none, (.fields #[]), #[]⟩
noncomputable def o209 (P : Params) : Obj := ⟨.type "tuple", none, (.seq #[.str "lane" 606, .str "place" 607, .str "drift" 608] 0), #[]⟩
noncomputable def o210 (P : Params) : Obj := ⟨.type "tuple", none, (.seq #[] 0), #[]⟩
noncomputable def o211 (P : Params) : Obj := ⟨.none, none, (cf (top 21) "square_in" "square_in" 0 .none .none .none .none none .none .none 0), #[]⟩
noncomputable def o212 (P : Params) : Obj := ⟨.type "code", none, (.fields #[.str "square_in" 603, .str "square_in" 604, .str "/claim/cut.py" 605, .int 55 0, .int 3 0, .int 0 0, .int 0 0, .int 3 0, .ref 207, .bool true, .int 374 0, .ref 208, .none, .ref 209, .ref 210, .ref 211, .int 609 0, .int 55 0, .str "/claim/cut.py" 610]), #[]⟩
noncomputable def o213 (P : Params) : Obj := ⟨.type "function", none, (cf (top 21) "square_in" "square_in" 3 .none .none .none (.str "evertreads.lanes" 588) none (.ref 212) .none 0), #[]⟩
noncomputable def o214 (P : Params) : Obj := ⟨.type "tuple", none, (.seq #[] 0), #[]⟩
noncomputable def o215 (P : Params) : Obj := ⟨.none, none, (.fields #[]), #[]⟩
noncomputable def o216 (P : Params) : Obj := ⟨.none, none, (cf (top 22) "lanes_trodden" "lanes_trodden" 0 .none .none .none .none none .none .none 0), #[]⟩
noncomputable def o217 (P : Params) : Obj := ⟨.type "code", none, (.fields #[.str "lanes_trodden" 612, .str "lanes_trodden" 613, .str "/claim/cut.py" 614, .int 57 0, .int 2 0, .int 0 0, .int 0 0, .int 3 0, .ref 214, .bool true, .int 374 0, .ref 215, .none, .none, .none, .ref 216, .int 615 0, .int 57 0, .str "/claim/cut.py" 616]), #[]⟩
noncomputable def o218 (P : Params) : Obj := ⟨.type "function", none, (cf (top 22) "lanes_trodden" "lanes_trodden" 3 .none .none .none (.str "evertreads.lanes" 588) none (.ref 217) .none 0), #[]⟩
noncomputable def o219 (P : Params) : Obj := ⟨.type "tuple", none, (.seq #[] 0), #[]⟩
noncomputable def o220 (P : Params) : Obj := ⟨.none, none, (.fields #[]), #[]⟩
noncomputable def o221 (P : Params) : Obj := ⟨.type "tuple", none, (.seq #[.str "dx" 623, .str "dy" 624, .str "many" 625] 0), #[]⟩
noncomputable def o222 (P : Params) : Obj := ⟨.type "tuple", none, (.seq #[] 0), #[]⟩
noncomputable def o223 (P : Params) : Obj := ⟨.none, none, (cf (top 24) "slope_of" "slope_of" 0 .none .none .none .none none .none .none 0), #[]⟩
noncomputable def o224 (P : Params) : Obj := ⟨.type "code", none, (.fields #[.str "slope_of" 620, .str "slope_of" 621, .str "/claim/cut.py" 622, .int 64 0, .int 2 0, .int 0 0, .int 0 0, .int 3 0, .ref 219, .bool true, .int 374 0, .ref 220, .none, .ref 221, .ref 222, .ref 223, .int 626 0, .int 64 0, .str "/claim/cut.py" 627]), #[]⟩
noncomputable def o225 (P : Params) : Obj := ⟨.type "function", none, (cf (top 24) "slope_of" "slope_of" 3 .none .none .none (.str "evertreads.lines" 618) none (.ref 224) .none 0), #[]⟩
noncomputable def o226 (P : Params) : Obj := ⟨.type "tuple", none, (.seq #[] 0), #[]⟩
noncomputable def o227 (P : Params) : Obj := ⟨.none, none, (.fields #[]), #[]⟩
noncomputable def o228 (P : Params) : Obj := ⟨.type "tuple", none, (.seq #[.str "square" 632, .str "slope" 633, .str "x" 634, .str "y" 635, .str "px" 636, .str "py" 637, .str "at" 638] 0), #[]⟩
noncomputable def o229 (P : Params) : Obj := ⟨.type "tuple", none, (.seq #[] 0), #[]⟩
noncomputable def o230 (P : Params) : Obj := ⟨.none, none, (cf (top 25) "line_through" "line_through" 0 .none .none .none .none none .none .none 0), #[]⟩
noncomputable def o231 (P : Params) : Obj := ⟨.type "code", none, (.fields #[.str "line_through" 629, .str "line_through" 630, .str "/claim/cut.py" 631, .int 69 0, .int 2 0, .int 0 0, .int 0 0, .int 3 0, .ref 226, .bool true, .int 374 0, .ref 227, .none, .ref 228, .ref 229, .ref 230, .int 639 0, .int 69 0, .str "/claim/cut.py" 640]), #[]⟩
noncomputable def o232 (P : Params) : Obj := ⟨.type "function", none, (cf (top 25) "line_through" "line_through" 3 .none .none .none (.str "evertreads.lines" 618) none (.ref 231) .none 0), #[]⟩
noncomputable def o233 (P : Params) : Obj := ⟨.type "tuple", none, (.seq #[] 0), #[]⟩
noncomputable def o234 (P : Params) : Obj := ⟨.none, none, (.fields #[]), #[]⟩
noncomputable def o235 (P : Params) : Obj := ⟨.type "tuple", none, (.seq #[.str "line" 645, .str "at" 646, .str "px" 647, .str "py" 648, .str "x" 649, .str "y" 650] 0), #[]⟩
noncomputable def o236 (P : Params) : Obj := ⟨.type "tuple", none, (.seq #[] 0), #[]⟩
noncomputable def o237 (P : Params) : Obj := ⟨.none, none, (cf (top 26) "square_on" "square_on" 0 .none .none .none .none none .none .none 0), #[]⟩
noncomputable def o238 (P : Params) : Obj := ⟨.type "code", none, (.fields #[.str "square_on" 642, .str "square_on" 643, .str "/claim/cut.py" 644, .int 74 0, .int 2 0, .int 0 0, .int 0 0, .int 3 0, .ref 233, .bool true, .int 374 0, .ref 234, .none, .ref 235, .ref 236, .ref 237, .int 651 0, .int 74 0, .str "/claim/cut.py" 652]), #[]⟩
noncomputable def o239 (P : Params) : Obj := ⟨.type "function", none, (cf (top 26) "square_on" "square_on" 3 .none .none .none (.str "evertreads.lines" 618) none (.ref 238) .none 0), #[]⟩
noncomputable def o240 (P : Params) : Obj := ⟨.type "tuple", none, (.seq #[] 0), #[]⟩
noncomputable def o241 (P : Params) : Obj := ⟨.none, none, (.fields #[]), #[]⟩
noncomputable def o242 (P : Params) : Obj := ⟨.type "tuple", none, (.seq #[.str "one" 657, .str "other" 658, .str "px" 659, .str "py" 660, .str "x" 661, .str "y" 662, .str "other_px" 663, .str "other_py" 664, .str "other_x" 665, .str "other_y" 666, .str "turn" 667, .str "at" 668, .str "rest" 669] 0), #[]⟩
noncomputable def o243 (P : Params) : Obj := ⟨.type "tuple", none, (.seq #[] 0), #[]⟩
noncomputable def o244 (P : Params) : Obj := ⟨.none, none, (cf (top 27) "crossing" "crossing" 0 .none .none .none .none none .none .none 0), #[]⟩
noncomputable def o245 (P : Params) : Obj := ⟨.type "code", none, (.fields #[.str "crossing" 654, .str "crossing" 655, .str "/claim/cut.py" 656, .int 77 0, .int 2 0, .int 0 0, .int 0 0, .int 3 0, .ref 240, .bool true, .int 374 0, .ref 241, .none, .ref 242, .ref 243, .ref 244, .int 670 0, .int 77 0, .str "/claim/cut.py" 671]), #[]⟩
noncomputable def o246 (P : Params) : Obj := ⟨.type "function", none, (cf (top 27) "crossing" "crossing" 3 .none .none .none (.str "evertreads.lines" 618) none (.ref 245) .none 0), #[]⟩
noncomputable def o247 (P : Params) : Obj := ⟨.type "tuple", none, (.seq #[] 0), #[]⟩
noncomputable def o248 (P : Params) : Obj := ⟨.none, none, (.fields #[]), #[]⟩
noncomputable def o249 (P : Params) : Obj := ⟨.type "tuple", none, (.seq #[.str "row" 678, .str "value" 679, .str "low" 680, .str "high" 681, .str "middle" 682] 0), #[]⟩
noncomputable def o250 (P : Params) : Obj := ⟨.type "tuple", none, (.seq #[] 0), #[]⟩
noncomputable def o251 (P : Params) : Obj := ⟨.none, none, (cf (top 29) "place" "place" 0 .none .none .none .none none .none .none 0), #[]⟩
noncomputable def o252 (P : Params) : Obj := ⟨.type "code", none, (.fields #[.str "place" 675, .str "place" 676, .str "/claim/cut.py" 677, .int 84 0, .int 2 0, .int 0 0, .int 0 0, .int 3 0, .ref 247, .bool true, .int 374 0, .ref 248, .none, .ref 249, .ref 250, .ref 251, .int 683 0, .int 84 0, .str "/claim/cut.py" 684]), #[]⟩
noncomputable def o253 (P : Params) : Obj := ⟨.type "function", none, (cf (top 29) "place" "place" 3 .none .none .none (.str "evertreads.rows" 673) none (.ref 252) .none 0), #[]⟩
noncomputable def o254 (P : Params) : Obj := ⟨.type "tuple", none, (.seq #[] 0), #[]⟩
noncomputable def o255 (P : Params) : Obj := ⟨.none, none, (.fields #[]), #[]⟩
noncomputable def o256 (P : Params) : Obj := ⟨.type "tuple", none, (.seq #[.str "number" 691, .str "primes" 692, .str "prime" 693] 0), #[]⟩
noncomputable def o257 (P : Params) : Obj := ⟨.type "tuple", none, (.seq #[] 0), #[]⟩
noncomputable def o258 (P : Params) : Obj := ⟨.none, none, (cf (top 31) "primes_of" "primes_of" 0 .none .none .none .none none .none .none 0), #[]⟩
noncomputable def o259 (P : Params) : Obj := ⟨.type "code", none, (.fields #[.str "primes_of" 688, .str "primes_of" 689, .str "/claim/cut.py" 690, .int 94 0, .int 1 0, .int 0 0, .int 0 0, .int 3 0, .ref 254, .bool true, .int 374 0, .ref 255, .none, .ref 256, .ref 257, .ref 258, .int 694 0, .int 94 0, .str "/claim/cut.py" 695]), #[]⟩
noncomputable def o260 (P : Params) : Obj := ⟨.type "function", none, (cf (top 31) "primes_of" "primes_of" 3 .none .none .none (.str "evertreads.patterns" 686) none (.ref 259) .none 0), #[]⟩
noncomputable def o261 (P : Params) : Obj := ⟨.type "tuple", none, (.seq #[] 0), #[]⟩
noncomputable def o262 (P : Params) : Obj := ⟨.none, none, (.fields #[]), #[]⟩
noncomputable def o263 (P : Params) : Obj := ⟨.type "tuple", none, (.seq #[.str "numbers" 700, .str "multiple" 701, .str "number" 702] 0), #[]⟩
noncomputable def o264 (P : Params) : Obj := ⟨.type "tuple", none, (.seq #[] 0), #[]⟩
noncomputable def o265 (P : Params) : Obj := ⟨.none, none, (cf (top 32) "common_multiple" "common_multiple" 0 .none .none .none .none none .none .none 0), #[]⟩
noncomputable def o266 (P : Params) : Obj := ⟨.type "code", none, (.fields #[.str "common_multiple" 697, .str "common_multiple" 698, .str "/claim/cut.py" 699, .int 106 0, .int 1 0, .int 0 0, .int 0 0, .int 3 0, .ref 261, .bool true, .int 374 0, .ref 262, .none, .ref 263, .ref 264, .ref 265, .int 703 0, .int 106 0, .str "/claim/cut.py" 704]), #[]⟩
noncomputable def o267 (P : Params) : Obj := ⟨.type "function", none, (cf (top 32) "common_multiple" "common_multiple" 3 .none .none .none (.str "evertreads.patterns" 686) none (.ref 266) .none 0), #[]⟩
noncomputable def o268 (P : Params) : Obj := ⟨.type "tuple", none, (.seq #[] 0), #[]⟩
noncomputable def o269 (P : Params) : Obj := ⟨.none, none, (.fields #[]), #[]⟩
noncomputable def o270 (P : Params) : Obj := ⟨.type "tuple", none, (.seq #[.str "number" 709, .str "modulus" 710, .str "ahead" 711, .str "behind" 712, .str "worth_ahead" 713, .str "worth_behind" 714, .str "many" 715] 0), #[]⟩
noncomputable def o271 (P : Params) : Obj := ⟨.type "tuple", none, (.seq #[] 0), #[]⟩
noncomputable def o272 (P : Params) : Obj := ⟨.none, none, (cf (top 33) "inverse" "inverse" 0 .none .none .none .none none .none .none 0), #[]⟩
noncomputable def o273 (P : Params) : Obj := ⟨.type "code", none, (.fields #[.str "inverse" 706, .str "inverse" 707, .str "/claim/cut.py" 708, .int 111 0, .int 2 0, .int 0 0, .int 0 0, .int 3 0, .ref 268, .bool true, .int 374 0, .ref 269, .none, .ref 270, .ref 271, .ref 272, .int 716 0, .int 111 0, .str "/claim/cut.py" 717]), #[]⟩
noncomputable def o274 (P : Params) : Obj := ⟨.type "function", none, (cf (top 33) "inverse" "inverse" 3 .none .none .none (.str "evertreads.patterns" 686) none (.ref 273) .none 0), #[]⟩
noncomputable def o275 (P : Params) : Obj := ⟨.type "tuple", none, (.seq #[] 0), #[]⟩
noncomputable def o276 (P : Params) : Obj := ⟨.none, none, (.fields #[]), #[]⟩
noncomputable def o277 (P : Params) : Obj := ⟨.type "tuple", none, (.seq #[.str "period" 724, .str "bits" 725, .str "length" 726, .str "known" 727] 0), #[]⟩
noncomputable def o278 (P : Params) : Obj := ⟨.type "tuple", none, (.seq #[] 0), #[]⟩
noncomputable def o279 (P : Params) : Obj := ⟨.none, none, (cf (top 35) "repeated" "repeated" 0 .none .none .none .none none .none .none 0), #[]⟩
noncomputable def o280 (P : Params) : Obj := ⟨.type "code", none, (.fields #[.str "repeated" 721, .str "repeated" 722, .str "/claim/cut.py" 723, .int 120 0, .int 3 0, .int 0 0, .int 0 0, .int 3 0, .ref 275, .bool true, .int 374 0, .ref 276, .none, .ref 277, .ref 278, .ref 279, .int 728 0, .int 120 0, .str "/claim/cut.py" 729]), #[]⟩
noncomputable def o281 (P : Params) : Obj := ⟨.type "function", none, (cf (top 35) "repeated" "repeated" 3 .none .none .none (.str "evertreads.bits" 719) none (.ref 280) .none 0), #[]⟩
noncomputable def o282 (P : Params) : Obj := ⟨.type "tuple", none, (.seq #[] 0), #[]⟩
noncomputable def o283 (P : Params) : Obj := ⟨.none, none, (.fields #[]), #[]⟩
noncomputable def o284 (P : Params) : Obj := ⟨.type "tuple", none, (.seq #[.str "period" 734, .str "bits" 735, .str "start" 736, .str "length" 737, .str "offset" 738] 0), #[]⟩
noncomputable def o285 (P : Params) : Obj := ⟨.type "tuple", none, (.seq #[] 0), #[]⟩
noncomputable def o286 (P : Params) : Obj := ⟨.none, none, (cf (top 36) "window" "window" 0 .none .none .none .none none .none .none 0), #[]⟩
noncomputable def o287 (P : Params) : Obj := ⟨.type "code", none, (.fields #[.str "window" 731, .str "window" 732, .str "/claim/cut.py" 733, .int 126 0, .int 4 0, .int 0 0, .int 0 0, .int 3 0, .ref 282, .bool true, .int 374 0, .ref 283, .none, .ref 284, .ref 285, .ref 286, .int 739 0, .int 126 0, .str "/claim/cut.py" 740]), #[]⟩
noncomputable def o288 (P : Params) : Obj := ⟨.type "function", none, (cf (top 36) "window" "window" 3 .none .none .none (.str "evertreads.bits" 719) none (.ref 287) .none 0), #[]⟩
noncomputable def o289 (P : Params) : Obj := ⟨.type "tuple", none, (.seq #[] 0), #[]⟩
noncomputable def o290 (P : Params) : Obj := ⟨.none, none, (.fields #[]), #[]⟩
noncomputable def o291 (P : Params) : Obj := ⟨.type "tuple", none, (.seq #[.str "period" 745, .str "bits" 746, .str "prime" 747, .str "part" 748] 0), #[]⟩
noncomputable def o292 (P : Params) : Obj := ⟨.type "tuple", none, (.seq #[] 0), #[]⟩
noncomputable def o293 (P : Params) : Obj := ⟨.none, none, (cf (top 37) "least" "least" 0 .none .none .none .none none .none .none 0), #[]⟩
noncomputable def o294 (P : Params) : Obj := ⟨.type "code", none, (.fields #[.str "least" 742, .str "least" 743, .str "/claim/cut.py" 744, .int 129 0, .int 2 0, .int 0 0, .int 0 0, .int 3 0, .ref 289, .bool true, .int 374 0, .ref 290, .none, .ref 291, .ref 292, .ref 293, .int 749 0, .int 129 0, .str "/claim/cut.py" 750]), #[]⟩
noncomputable def o295 (P : Params) : Obj := ⟨.type "function", none, (cf (top 37) "least" "least" 3 .none .none .none (.str "evertreads.bits" 719) none (.ref 294) .none 0), #[]⟩
noncomputable def o296 (P : Params) : Obj := ⟨.type "tuple", none, (.seq #[] 0), #[]⟩
noncomputable def o297 (P : Params) : Obj := ⟨.none, none, (.fields #[]), #[]⟩
noncomputable def o298 (P : Params) : Obj := ⟨.type "tuple", none, (.seq #[.str "length" 755] 0), #[]⟩
noncomputable def o299 (P : Params) : Obj := ⟨.type "tuple", none, (.seq #[] 0), #[]⟩
noncomputable def o300 (P : Params) : Obj := ⟨.none, none, (cf (top 38) "full" "full" 0 .none .none .none .none none .none .none 0), #[]⟩
noncomputable def o301 (P : Params) : Obj := ⟨.type "code", none, (.fields #[.str "full" 752, .str "full" 753, .str "/claim/cut.py" 754, .int 137 0, .int 1 0, .int 0 0, .int 0 0, .int 3 0, .ref 296, .bool true, .int 374 0, .ref 297, .none, .ref 298, .ref 299, .ref 300, .int 756 0, .int 137 0, .str "/claim/cut.py" 757]), #[]⟩
noncomputable def o302 (P : Params) : Obj := ⟨.type "function", none, (cf (top 38) "full" "full" 3 .none .none .none (.str "evertreads.bits" 719) none (.ref 301) .none 0), #[]⟩
noncomputable def o303 (P : Params) : Obj := ⟨.type "tuple", none, (.seq #[] 0), #[]⟩
noncomputable def o304 (P : Params) : Obj := ⟨.none, none, (.fields #[]), #[]⟩
noncomputable def o305 (P : Params) : Obj := ⟨.type "tuple", none, (.seq #[.str "bits" 762] 0), #[]⟩
noncomputable def o306 (P : Params) : Obj := ⟨.type "tuple", none, (.seq #[] 0), #[]⟩
noncomputable def o307 (P : Params) : Obj := ⟨.none, none, (cf (top 39) "ones" "ones" 0 .none .none .none .none none .none .none 0), #[]⟩
noncomputable def o308 (P : Params) : Obj := ⟨.type "code", none, (.fields #[.str "ones" 759, .str "ones" 760, .str "/claim/cut.py" 761, .int 139 0, .int 1 0, .int 0 0, .int 0 0, .int 3 0, .ref 303, .bool true, .int 374 0, .ref 304, .none, .ref 305, .ref 306, .ref 307, .int 763 0, .int 139 0, .str "/claim/cut.py" 764]), #[]⟩
noncomputable def o309 (P : Params) : Obj := ⟨.type "function", none, (cf (top 39) "ones" "ones" 3 .none .none .none (.str "evertreads.bits" 719) none (.ref 308) .none 0), #[]⟩
noncomputable def o310 (P : Params) : Obj := ⟨.type "tuple", none, (.seq #[] 0), #[]⟩
noncomputable def o311 (P : Params) : Obj := ⟨.none, none, (.fields #[]), #[]⟩
noncomputable def o312 (P : Params) : Obj := ⟨.none, none, (cf (top 40) "places" "places" 0 .none .none .none .none none .none .none 0), #[]⟩
noncomputable def o313 (P : Params) : Obj := ⟨.type "code", none, (.fields #[.str "places" 766, .str "places" 767, .str "/claim/cut.py" 768, .int 141 0, .int 1 0, .int 0 0, .int 0 0, .int 3 0, .ref 310, .bool true, .int 374 0, .ref 311, .none, .none, .none, .ref 312, .int 769 0, .int 141 0, .str "/claim/cut.py" 770]), #[]⟩
noncomputable def o314 (P : Params) : Obj := ⟨.type "function", none, (cf (top 40) "places" "places" 3 .none .none .none (.str "evertreads.bits" 719) none (.ref 313) .none 0), #[]⟩
noncomputable def o315 (P : Params) : Obj := ⟨.type "tuple", none, (.seq #[] 0), #[]⟩
noncomputable def o316 (P : Params) : Obj := ⟨.none, none, (.fields #[]), #[]⟩
noncomputable def o317 (P : Params) : Obj := ⟨.none, none, (cf (top 41) "raised" "raised" 0 .none .none .none .none none .none .none 0), #[]⟩
noncomputable def o318 (P : Params) : Obj := ⟨.type "code", none, (.fields #[.str "raised" 772, .str "raised" 773, .str "/claim/cut.py" 774, .int 143 0, .int 1 0, .int 0 0, .int 0 0, .int 3 0, .ref 315, .bool true, .int 374 0, .ref 316, .none, .none, .none, .ref 317, .int 775 0, .int 143 0, .str "/claim/cut.py" 776]), #[]⟩
noncomputable def o319 (P : Params) : Obj := ⟨.type "function", none, (cf (top 41) "raised" "raised" 3 .none .none .none (.str "evertreads.bits" 719) none (.ref 318) .none 0), #[]⟩
noncomputable def o320 (P : Params) : Obj := ⟨.type "tuple", none, (.seq #[.bool false, .bool false] 0), #[]⟩
noncomputable def o321 (P : Params) : Obj := ⟨.type "tuple", none, (.seq #[.bool false, .bool true] 0), #[]⟩
noncomputable def o322 (P : Params) : Obj := ⟨.type "tuple", none, (.seq #[.ref 320, .ref 321] 0), #[]⟩
noncomputable def o323 (P : Params) : Obj := ⟨.type "tuple", none, (.seq #[.bool false, .bool true] 0), #[]⟩
noncomputable def o324 (P : Params) : Obj := ⟨.type "tuple", none, (.seq #[.bool true, .bool true] 0), #[]⟩
noncomputable def o325 (P : Params) : Obj := ⟨.type "tuple", none, (.seq #[.ref 323, .ref 324] 0), #[]⟩
noncomputable def o326 (P : Params) : Obj := ⟨.type "tuple", none, (.seq #[.bool false, .bool false] 0), #[]⟩
noncomputable def o327 (P : Params) : Obj := ⟨.type "tuple", none, (.seq #[.bool true, .bool false] 0), #[]⟩
noncomputable def o328 (P : Params) : Obj := ⟨.type "tuple", none, (.seq #[.ref 326, .ref 327] 0), #[]⟩
noncomputable def o329 (P : Params) : Obj := ⟨.type "tuple", none, (.seq #[.bool false, .bool true] 0), #[]⟩
noncomputable def o330 (P : Params) : Obj := ⟨.type "tuple", none, (.seq #[.bool true, .bool false] 0), #[]⟩
noncomputable def o331 (P : Params) : Obj := ⟨.type "tuple", none, (.seq #[.ref 329, .ref 330] 0), #[]⟩
noncomputable def o332 (P : Params) : Obj := ⟨.type "tuple", none, (.seq #[] 0), #[]⟩
noncomputable def o333 (P : Params) : Obj := ⟨.type "tuple", none, (.seq #[.int 0 784, .ref 332] 0), #[]⟩
noncomputable def o334 (P : Params) : Obj := ⟨.type "tuple", none, (.seq #[] 0), #[]⟩
noncomputable def o335 (P : Params) : Obj := ⟨.none, none, (.fields #[]), #[]⟩
noncomputable def o336 (P : Params) : Obj := ⟨.type "tuple", none, (.seq #[.str "period" 791, .str "bits" 792] 0), #[]⟩
noncomputable def o337 (P : Params) : Obj := ⟨.type "tuple", none, (.seq #[] 0), #[]⟩
noncomputable def o338 (P : Params) : Obj := ⟨.none, none, (cf (top 49) "plain" "plain" 0 .none .none .none .none none .none .none 0), #[]⟩
noncomputable def o339 (P : Params) : Obj := ⟨.type "code", none, (.fields #[.str "plain" 788, .str "plain" 789, .str "/claim/cut.py" 790, .int 152 0, .int 2 0, .int 0 0, .int 0 0, .int 3 0, .ref 334, .bool true, .int 374 0, .ref 335, .none, .ref 336, .ref 337, .ref 338, .int 793 0, .int 152 0, .str "/claim/cut.py" 794]), #[]⟩
noncomputable def o340 (P : Params) : Obj := ⟨.type "function", none, (cf (top 49) "plain" "plain" 3 .none .none .none (.str "evertreads.rules" 778) none (.ref 339) .none 0), #[]⟩
noncomputable def o341 (P : Params) : Obj := ⟨.type "tuple", none, (.seq #[] 0), #[]⟩
noncomputable def o342 (P : Params) : Obj := ⟨.none, none, (.fields #[]), #[]⟩
noncomputable def o343 (P : Params) : Obj := ⟨.type "tuple", none, (.seq #[.str "rule" 799, .str "number" 800, .str "at" 801, .str "nodes" 802, .str "period" 803, .str "bits" 804, .str "low" 805, .str "high" 806] 0), #[]⟩
noncomputable def o344 (P : Params) : Obj := ⟨.type "tuple", none, (.seq #[] 0), #[]⟩
noncomputable def o345 (P : Params) : Obj := ⟨.none, none, (cf (top 50) "holds" "holds" 0 .none .none .none .none none .none .none 0), #[]⟩
noncomputable def o346 (P : Params) : Obj := ⟨.type "code", none, (.fields #[.str "holds" 796, .str "holds" 797, .str "/claim/cut.py" 798, .int 157 0, .int 2 0, .int 0 0, .int 0 0, .int 3 0, .ref 341, .bool true, .int 374 0, .ref 342, .none, .ref 343, .ref 344, .ref 345, .int 807 0, .int 157 0, .str "/claim/cut.py" 808]), #[]⟩
noncomputable def o347 (P : Params) : Obj := ⟨.type "function", none, (cf (top 50) "holds" "holds" 3 .none .none .none (.str "evertreads.rules" 778) none (.ref 346) .none 0), #[]⟩
noncomputable def o348 (P : Params) : Obj := ⟨.type "tuple", none, (.seq #[] 0), #[]⟩
noncomputable def o349 (P : Params) : Obj := ⟨.none, none, (.fields #[]), #[]⟩
noncomputable def o350 (P : Params) : Obj := ⟨.type "tuple", none, (.seq #[.str "rule" 813, .str "start" 814, .str "length" 815, .str "root" 816, .str "nodes" 817, .str "rows" 818, .str "period" 819, .str "bits" 820, .str "low" 821, .str "high" 822, .str "asked" 823] 0), #[]⟩
noncomputable def o351 (P : Params) : Obj := ⟨.type "tuple", none, (.seq #[] 0), #[]⟩
noncomputable def o352 (P : Params) : Obj := ⟨.none, none, (cf (top 51) "told" "told" 0 .none .none .none .none none .none .none 0), #[]⟩
noncomputable def o353 (P : Params) : Obj := ⟨.type "code", none, (.fields #[.str "told" 810, .str "told" 811, .str "/claim/cut.py" 812, .int 163 0, .int 3 0, .int 0 0, .int 0 0, .int 3 0, .ref 348, .bool true, .int 374 0, .ref 349, .none, .ref 350, .ref 351, .ref 352, .int 824 0, .int 163 0, .str "/claim/cut.py" 825]), #[]⟩
noncomputable def o354 (P : Params) : Obj := ⟨.type "function", none, (cf (top 51) "told" "told" 3 .none .none .none (.str "evertreads.rules" 778) none (.ref 353) .none 0), #[]⟩
noncomputable def o355 (P : Params) : Obj := ⟨.type "tuple", none, (.seq #[] 0), #[]⟩
noncomputable def o356 (P : Params) : Obj := ⟨.none, none, (.fields #[]), #[]⟩
noncomputable def o357 (P : Params) : Obj := ⟨.none, none, (cf (top 52) "common_period" "common_period" 0 .none .none .none .none none .none .none 0), #[]⟩
noncomputable def o358 (P : Params) : Obj := ⟨.type "code", none, (.fields #[.str "common_period" 827, .str "common_period" 828, .str "/claim/cut.py" 829, .int 170 0, .int 1 0, .int 0 0, .int 0 0, .int 3 0, .ref 355, .bool true, .int 374 0, .ref 356, .none, .none, .none, .ref 357, .int 830 0, .int 170 0, .str "/claim/cut.py" 831]), #[]⟩
noncomputable def o359 (P : Params) : Obj := ⟨.type "function", none, (cf (top 52) "common_period" "common_period" 3 .none .none .none (.str "evertreads.rules" 778) none (.ref 358) .none 0), #[]⟩
noncomputable def o360 (P : Params) : Obj := ⟨.type "tuple", none, (.seq #[] 0), #[]⟩
noncomputable def o361 (P : Params) : Obj := ⟨.none, none, (.fields #[]), #[]⟩
noncomputable def o362 (P : Params) : Obj := ⟨.type "tuple", none, (.seq #[.str "rule" 836, .str "length" 837] 0), #[]⟩
noncomputable def o363 (P : Params) : Obj := ⟨.type "tuple", none, (.seq #[] 0), #[]⟩
noncomputable def o364 (P : Params) : Obj := ⟨.none, none, (cf (top 53) "tabled" "tabled" 0 .none .none .none .none none .none .none 0), #[]⟩
noncomputable def o365 (P : Params) : Obj := ⟨.type "code", none, (.fields #[.str "tabled" 833, .str "tabled" 834, .str "/claim/cut.py" 835, .int 172 0, .int 1 0, .int 0 0, .int 0 0, .int 3 0, .ref 360, .bool true, .int 374 0, .ref 361, .none, .ref 362, .ref 363, .ref 364, .int 838 0, .int 172 0, .str "/claim/cut.py" 839]), #[]⟩
noncomputable def o366 (P : Params) : Obj := ⟨.type "function", none, (cf (top 53) "tabled" "tabled" 3 .none .none .none (.str "evertreads.rules" 778) none (.ref 365) .none 0), #[]⟩
noncomputable def o367 (P : Params) : Obj := ⟨.type "tuple", none, (.seq #[] 0), #[]⟩
noncomputable def o368 (P : Params) : Obj := ⟨.none, none, (.fields #[]), #[]⟩
noncomputable def o369 (P : Params) : Obj := ⟨.type "tuple", none, (.seq #[.str "nodes" 844, .str "at" 845, .str "question" 846] 0), #[]⟩
noncomputable def o370 (P : Params) : Obj := ⟨.type "tuple", none, (.seq #[] 0), #[]⟩
noncomputable def o371 (P : Params) : Obj := ⟨.none, none, (cf (top 54) "answers" "answers" 0 .none .none .none .none none .none .none 0), #[]⟩
noncomputable def o372 (P : Params) : Obj := ⟨.type "code", none, (.fields #[.str "answers" 841, .str "answers" 842, .str "/claim/cut.py" 843, .int 179 0, .int 3 0, .int 0 0, .int 0 0, .int 3 0, .ref 367, .bool true, .int 374 0, .ref 368, .none, .ref 369, .ref 370, .ref 371, .int 847 0, .int 179 0, .str "/claim/cut.py" 848]), #[]⟩
noncomputable def o373 (P : Params) : Obj := ⟨.type "function", none, (cf (top 54) "answers" "answers" 3 .none .none .none (.str "evertreads.rules" 778) none (.ref 372) .none 0), #[]⟩
noncomputable def o374 (P : Params) : Obj := ⟨.type "tuple", none, (.seq #[] 0), #[]⟩
noncomputable def o375 (P : Params) : Obj := ⟨.none, none, (.fields #[]), #[]⟩
noncomputable def o376 (P : Params) : Obj := ⟨.none, none, (cf (top 55) "layers" "layers" 0 .none .none .none .none none .none .none 0), #[]⟩
noncomputable def o377 (P : Params) : Obj := ⟨.type "code", none, (.fields #[.str "layers" 850, .str "layers" 851, .str "/claim/cut.py" 852, .int 183 0, .int 3 0, .int 0 0, .int 0 0, .int 3 0, .ref 374, .bool true, .int 374 0, .ref 375, .none, .none, .none, .ref 376, .int 853 0, .int 183 0, .str "/claim/cut.py" 854]), #[]⟩
noncomputable def o378 (P : Params) : Obj := ⟨.type "function", none, (cf (top 55) "layers" "layers" 3 .none .none .none (.str "evertreads.rules" 778) none (.ref 377) .none 0), #[]⟩
noncomputable def o379 (P : Params) : Obj := ⟨.type "tuple", none, (.seq #[] 0), #[]⟩
noncomputable def o380 (P : Params) : Obj := ⟨.none, none, (.fields #[]), #[]⟩
noncomputable def o381 (P : Params) : Obj := ⟨.none, none, (cf (top 56) "joined" "joined" 0 .none .none .none .none none .none .none 0), #[]⟩
noncomputable def o382 (P : Params) : Obj := ⟨.type "code", none, (.fields #[.str "joined" 856, .str "joined" 857, .str "/claim/cut.py" 858, .int 196 0, .int 3 0, .int 0 0, .int 0 0, .int 3 0, .ref 379, .bool true, .int 374 0, .ref 380, .none, .none, .none, .ref 381, .int 859 0, .int 196 0, .str "/claim/cut.py" 860]), #[]⟩
noncomputable def o383 (P : Params) : Obj := ⟨.type "function", none, (cf (top 56) "joined" "joined" 3 .none .none .none (.str "evertreads.rules" 778) none (.ref 382) .none 0), #[]⟩
noncomputable def o384 (P : Params) : Obj := ⟨.type "tuple", none, (.seq #[] 0), #[]⟩
noncomputable def o385 (P : Params) : Obj := ⟨.none, none, (.fields #[]), #[]⟩
noncomputable def o386 (P : Params) : Obj := ⟨.none, none, (cf (top 59) "seen_along" "seen_along" 0 .none .none .none .none none .none .none 0), #[]⟩
noncomputable def o387 (P : Params) : Obj := ⟨.type "code", none, (.fields #[.str "seen_along" 866, .str "seen_along" 867, .str "/claim/cut.py" 868, .int 210 0, .int 3 0, .int 0 0, .int 0 0, .int 3 0, .ref 384, .bool true, .int 374 0, .ref 385, .none, .none, .none, .ref 386, .int 869 0, .int 210 0, .str "/claim/cut.py" 870]), #[]⟩
noncomputable def o388 (P : Params) : Obj := ⟨.type "function", none, (cf (top 59) "seen_along" "seen_along" 3 .none .none .none (.str "evertreads.sieves" 862) none (.ref 387) .none 0), #[]⟩
noncomputable def o389 (P : Params) : Obj := ⟨.type "tuple", none, (.seq #[] 0), #[]⟩
noncomputable def o390 (P : Params) : Obj := ⟨.none, none, (.fields #[]), #[]⟩
noncomputable def o391 (P : Params) : Obj := ⟨.none, none, (cf (top 60) "gathered" "gathered" 0 .none .none .none .none none .none .none 0), #[]⟩
noncomputable def o392 (P : Params) : Obj := ⟨.type "code", none, (.fields #[.str "gathered" 872, .str "gathered" 873, .str "/claim/cut.py" 874, .int 216 0, .int 1 0, .int 0 0, .int 0 0, .int 3 0, .ref 389, .bool true, .int 374 0, .ref 390, .none, .none, .none, .ref 391, .int 875 0, .int 216 0, .str "/claim/cut.py" 876]), #[]⟩
noncomputable def o393 (P : Params) : Obj := ⟨.type "function", none, (cf (top 60) "gathered" "gathered" 3 .none .none .none (.str "evertreads.sieves" 862) none (.ref 392) .none 0), #[]⟩
noncomputable def o394 (P : Params) : Obj := ⟨.type "tuple", none, (.seq #[] 0), #[]⟩
noncomputable def o395 (P : Params) : Obj := ⟨.none, none, (.fields #[]), #[]⟩
noncomputable def o396 (P : Params) : Obj := ⟨.type "tuple", none, (.seq #[.str "patterns" 881, .str "length" 882, .str "row" 883, .str "period" 884, .str "marks" 885] 0), #[]⟩
noncomputable def o397 (P : Params) : Obj := ⟨.type "tuple", none, (.seq #[] 0), #[]⟩
noncomputable def o398 (P : Params) : Obj := ⟨.none, none, (cf (top 61) "taken" "taken" 0 .none .none .none .none none .none .none 0), #[]⟩
noncomputable def o399 (P : Params) : Obj := ⟨.type "code", none, (.fields #[.str "taken" 878, .str "taken" 879, .str "/claim/cut.py" 880, .int 222 0, .int 2 0, .int 0 0, .int 0 0, .int 3 0, .ref 394, .bool true, .int 374 0, .ref 395, .none, .ref 396, .ref 397, .ref 398, .int 886 0, .int 222 0, .str "/claim/cut.py" 887]), #[]⟩
noncomputable def o400 (P : Params) : Obj := ⟨.type "function", none, (cf (top 61) "taken" "taken" 3 .none .none .none (.str "evertreads.sieves" 862) none (.ref 399) .none 0), #[]⟩
noncomputable def o401 (P : Params) : Obj := ⟨.type "tuple", none, (.seq #[] 0), #[]⟩
noncomputable def o402 (P : Params) : Obj := ⟨.none, none, (.fields #[]), #[]⟩
noncomputable def o403 (P : Params) : Obj := ⟨.none, none, (cf (top 62) "loosened" "loosened" 0 .none .none .none .none none .none .none 0), #[]⟩
noncomputable def o404 (P : Params) : Obj := ⟨.type "code", none, (.fields #[.str "loosened" 889, .str "loosened" 890, .str "/claim/cut.py" 891, .int 227 0, .int 2 0, .int 0 0, .int 0 0, .int 3 0, .ref 401, .bool true, .int 374 0, .ref 402, .none, .none, .none, .ref 403, .int 892 0, .int 227 0, .str "/claim/cut.py" 893]), #[]⟩
noncomputable def o405 (P : Params) : Obj := ⟨.type "function", none, (cf (top 62) "loosened" "loosened" 3 .none .none .none (.str "evertreads.sieves" 862) none (.ref 404) .none 0), #[]⟩
noncomputable def o406 (P : Params) : Obj := ⟨.type "tuple", none, (.seq #[] 0), #[]⟩
noncomputable def o407 (P : Params) : Obj := ⟨.none, none, (.fields #[]), #[]⟩
noncomputable def o408 (P : Params) : Obj := ⟨.type "tuple", none, (.seq #[.str "patterns" 898, .str "before" 899, .str "primes" 900, .str "prime" 901] 0), #[]⟩
noncomputable def o409 (P : Params) : Obj := ⟨.type "tuple", none, (.seq #[] 0), #[]⟩
noncomputable def o410 (P : Params) : Obj := ⟨.none, none, (cf (top 63) "deciding" "deciding" 0 .none .none .none .none none .none .none 0), #[]⟩
noncomputable def o411 (P : Params) : Obj := ⟨.type "code", none, (.fields #[.str "deciding" 895, .str "deciding" 896, .str "/claim/cut.py" 897, .int 235 0, .int 1 0, .int 0 0, .int 0 0, .int 3 0, .ref 406, .bool true, .int 374 0, .ref 407, .none, .ref 408, .ref 409, .ref 410, .int 902 0, .int 235 0, .str "/claim/cut.py" 903]), #[]⟩
noncomputable def o412 (P : Params) : Obj := ⟨.type "function", none, (cf (top 63) "deciding" "deciding" 3 .none .none .none (.str "evertreads.sieves" 862) none (.ref 411) .none 0), #[]⟩
noncomputable def o413 (P : Params) : Obj := ⟨.type "tuple", none, (.seq #[] 0), #[]⟩
noncomputable def o414 (P : Params) : Obj := ⟨.none, none, (.fields #[]), #[]⟩
noncomputable def o415 (P : Params) : Obj := ⟨.none, none, (cf (top 64) "primes_in" "primes_in" 0 .none .none .none .none none .none .none 0), #[]⟩
noncomputable def o416 (P : Params) : Obj := ⟨.type "code", none, (.fields #[.str "primes_in" 905, .str "primes_in" 906, .str "/claim/cut.py" 907, .int 243 0, .int 1 0, .int 0 0, .int 0 0, .int 3 0, .ref 413, .bool true, .int 374 0, .ref 414, .none, .none, .none, .ref 415, .int 908 0, .int 243 0, .str "/claim/cut.py" 909]), #[]⟩
noncomputable def o417 (P : Params) : Obj := ⟨.type "function", none, (cf (top 64) "primes_in" "primes_in" 3 .none .none .none (.str "evertreads.sieves" 862) none (.ref 416) .none 0), #[]⟩
noncomputable def o418 (P : Params) : Obj := ⟨.type "tuple", none, (.seq #[] 0), #[]⟩
noncomputable def o419 (P : Params) : Obj := ⟨.none, none, (.fields #[]), #[]⟩
noncomputable def o420 (P : Params) : Obj := ⟨.none, none, (cf (top 65) "shared_prime" "shared_prime" 0 .none .none .none .none none .none .none 0), #[]⟩
noncomputable def o421 (P : Params) : Obj := ⟨.type "code", none, (.fields #[.str "shared_prime" 911, .str "shared_prime" 912, .str "/claim/cut.py" 913, .int 245 0, .int 1 0, .int 0 0, .int 0 0, .int 3 0, .ref 418, .bool true, .int 374 0, .ref 419, .none, .none, .none, .ref 420, .int 914 0, .int 245 0, .str "/claim/cut.py" 915]), #[]⟩
noncomputable def o422 (P : Params) : Obj := ⟨.type "function", none, (cf (top 65) "shared_prime" "shared_prime" 3 .none .none .none (.str "evertreads.sieves" 862) none (.ref 421) .none 0), #[]⟩
noncomputable def o423 (P : Params) : Obj := ⟨.type "tuple", none, (.seq #[] 0), #[]⟩
noncomputable def o424 (P : Params) : Obj := ⟨.none, none, (.fields #[]), #[]⟩
noncomputable def o425 (P : Params) : Obj := ⟨.none, none, (cf (top 66) "leave_some" "leave_some" 0 .none .none .none .none none .none .none 0), #[]⟩
noncomputable def o426 (P : Params) : Obj := ⟨.type "code", none, (.fields #[.str "leave_some" 917, .str "leave_some" 918, .str "/claim/cut.py" 919, .int 250 0, .int 1 0, .int 0 0, .int 0 0, .int 3 0, .ref 423, .bool true, .int 374 0, .ref 424, .none, .none, .none, .ref 425, .int 920 0, .int 250 0, .str "/claim/cut.py" 921]), #[]⟩
noncomputable def o427 (P : Params) : Obj := ⟨.type "function", none, (cf (top 66) "leave_some" "leave_some" 3 .none .none .none (.str "evertreads.sieves" 862) none (.ref 426) .none 0), #[]⟩
noncomputable def o428 (P : Params) : Obj := ⟨.type "tuple", none, (.seq #[] 0), #[]⟩
noncomputable def o429 (P : Params) : Obj := ⟨.none, none, (.fields #[]), #[]⟩
noncomputable def o430 (P : Params) : Obj := ⟨.none, none, (cf (top 67) "parted" "parted" 0 .none .none .none .none none .none .none 0), #[]⟩
noncomputable def o431 (P : Params) : Obj := ⟨.type "code", none, (.fields #[.str "parted" 923, .str "parted" 924, .str "/claim/cut.py" 925, .int 264 0, .int 2 0, .int 0 0, .int 0 0, .int 3 0, .ref 428, .bool true, .int 374 0, .ref 429, .none, .none, .none, .ref 430, .int 926 0, .int 264 0, .str "/claim/cut.py" 927]), #[]⟩
noncomputable def o432 (P : Params) : Obj := ⟨.type "function", none, (cf (top 67) "parted" "parted" 3 .none .none .none (.str "evertreads.sieves" 862) none (.ref 431) .none 0), #[]⟩
noncomputable def o433 (P : Params) : Obj := ⟨.type "tuple", none, (.seq #[] 0), #[]⟩
noncomputable def o434 (P : Params) : Obj := ⟨.none, none, (.fields #[]), #[]⟩
noncomputable def o435 (P : Params) : Obj := ⟨.none, none, (cf (top 68) "left_in_bits" "left_in_bits" 0 .none .none .none .none none .none .none 0), #[]⟩
noncomputable def o436 (P : Params) : Obj := ⟨.type "code", none, (.fields #[.str "left_in_bits" 929, .str "left_in_bits" 930, .str "/claim/cut.py" 931, .int 276 0, .int 2 0, .int 0 0, .int 0 0, .int 3 0, .ref 433, .bool true, .int 374 0, .ref 434, .none, .none, .none, .ref 435, .int 932 0, .int 276 0, .str "/claim/cut.py" 933]), #[]⟩
noncomputable def o437 (P : Params) : Obj := ⟨.type "function", none, (cf (top 68) "left_in_bits" "left_in_bits" 3 .none .none .none (.str "evertreads.sieves" 862) none (.ref 436) .none 0), #[]⟩
noncomputable def T68 (P : Params) : BT := (N (o0_1 P) (N (o1_1 P) (N (o3_3 P) (N (o7_1 P) (N (o15_1 P) (N (o31_1 P) (N (o63 P) (N (o127 P) (N (o255 P) L L) (N (o383 P) L L)) (N (o191 P) (N (o319 P) L L) L)) (N (o95 P) (N (o159 P) (N (o287 P) L L) (N (o415 P) L L)) (N (o223 P) (N (o351 P) L L) L))) (N (o47 P) (N (o79 P) (N (o143 P) (N (o271 P) L L) (N (o399 P) L L)) (N (o207 P) (N (o335 P) L L) L)) (N (o111 P) (N (o175 P) (N (o303 P) L L) (N (o431 P) L L)) (N (o239 P) (N (o367 P) L L) L)))) (N (o23_1 P) (N (o39 P) (N (o71 P) (N (o135 P) (N (o263 P) L L) (N (o391 P) L L)) (N (o199 P) (N (o327 P) L L) L)) (N (o103 P) (N (o167 P) (N (o295 P) L L) (N (o423 P) L L)) (N (o231 P) (N (o359 P) L L) L))) (N (o55 P) (N (o87 P) (N (o151 P) (N (o279 P) L L) (N (o407 P) L L)) (N (o215 P) (N (o343 P) L L) L)) (N (o119 P) (N (o183 P) (N (o311 P) L L) L) (N (o247 P) (N (o375 P) L L) L))))) (N (o11_1 P) (N (o19_1 P) (N (o35_1 P) (N (o67 P) (N (o131 P) (N (o259 P) L L) (N (o387 P) L L)) (N (o195 P) (N (o323 P) L L) L)) (N (o99 P) (N (o163 P) (N (o291 P) L L) (N (o419 P) L L)) (N (o227 P) (N (o355 P) L L) L))) (N (o51 P) (N (o83 P) (N (o147 P) (N (o275 P) L L) (N (o403 P) L L)) (N (o211 P) (N (o339 P) L L) L)) (N (o115 P) (N (o179 P) (N (o307 P) L L) (N (o435 P) L L)) (N (o243 P) (N (o371 P) L L) L)))) (N (o27_1 P) (N (o43 P) (N (o75 P) (N (o139 P) (N (o267 P) L L) (N (o395 P) L L)) (N (o203 P) (N (o331 P) L L) L)) (N (o107 P) (N (o171 P) (N (o299 P) L L) (N (o427 P) L L)) (N (o235 P) (N (o363 P) L L) L))) (N (o59 P) (N (o91 P) (N (o155 P) (N (o283 P) L L) (N (o411 P) L L)) (N (o219 P) (N (o347 P) L L) L)) (N (o123 P) (N (o187 P) (N (o315 P) L L) L) (N (o251 P) (N (o379 P) L L) L)))))) (N (o5_1 P) (N (o9_1 P) (N (o17_1 P) (N (o33_1 P) (N (o65 P) (N (o129 P) (N (o257 P) L L) (N (o385 P) L L)) (N (o193 P) (N (o321 P) L L) L)) (N (o97 P) (N (o161 P) (N (o289 P) L L) (N (o417 P) L L)) (N (o225 P) (N (o353 P) L L) L))) (N (o49 P) (N (o81 P) (N (o145 P) (N (o273 P) L L) (N (o401 P) L L)) (N (o209 P) (N (o337 P) L L) L)) (N (o113 P) (N (o177 P) (N (o305 P) L L) (N (o433 P) L L)) (N (o241 P) (N (o369 P) L L) L)))) (N (o25_1 P) (N (o41 P) (N (o73 P) (N (o137 P) (N (o265 P) L L) (N (o393 P) L L)) (N (o201 P) (N (o329 P) L L) L)) (N (o105 P) (N (o169 P) (N (o297 P) L L) (N (o425 P) L L)) (N (o233 P) (N (o361 P) L L) L))) (N (o57 P) (N (o89 P) (N (o153 P) (N (o281 P) L L) (N (o409 P) L L)) (N (o217 P) (N (o345 P) L L) L)) (N (o121 P) (N (o185 P) (N (o313 P) L L) L) (N (o249 P) (N (o377 P) L L) L))))) (N (o13_1 P) (N (o21_1 P) (N (o37_1 P) (N (o69 P) (N (o133 P) (N (o261 P) L L) (N (o389 P) L L)) (N (o197 P) (N (o325 P) L L) L)) (N (o101_1 P) (N (o165 P) (N (o293 P) L L) (N (o421 P) L L)) (N (o229 P) (N (o357 P) L L) L))) (N (o53 P) (N (o85 P) (N (o149 P) (N (o277 P) L L) (N (o405 P) L L)) (N (o213 P) (N (o341 P) L L) L)) (N (o117 P) (N (o181 P) (N (o309 P) L L) (N (o437 P) L L)) (N (o245 P) (N (o373 P) L L) L)))) (N (o29_1 P) (N (o45 P) (N (o77 P) (N (o141 P) (N (o269 P) L L) (N (o397 P) L L)) (N (o205 P) (N (o333 P) L L) L)) (N (o109 P) (N (o173 P) (N (o301 P) L L) (N (o429 P) L L)) (N (o237 P) (N (o365 P) L L) L))) (N (o61 P) (N (o93 P) (N (o157 P) (N (o285 P) L L) (N (o413 P) L L)) (N (o221 P) (N (o349 P) L L) L)) (N (o125 P) (N (o189 P) (N (o317 P) L L) L) (N (o253 P) (N (o381 P) L L) L))))))) (N (o2_1 P) (N (o4_1 P) (N (o8 P) (N (o16_1 P) (N (o32_1 P) (N (o64 P) (N (o128 P) (N (o256 P) L L) (N (o384 P) L L)) (N (o192 P) (N (o320 P) L L) L)) (N (o96 P) (N (o160 P) (N (o288 P) L L) (N (o416 P) L L)) (N (o224 P) (N (o352 P) L L) L))) (N (o48 P) (N (o80 P) (N (o144 P) (N (o272 P) L L) (N (o400 P) L L)) (N (o208 P) (N (o336 P) L L) L)) (N (o112 P) (N (o176 P) (N (o304 P) L L) (N (o432 P) L L)) (N (o240 P) (N (o368 P) L L) L)))) (N (o24_1 P) (N (o40_2 P) (N (o72 P) (N (o136 P) (N (o264 P) L L) (N (o392 P) L L)) (N (o200 P) (N (o328 P) L L) L)) (N (o104 P) (N (o168 P) (N (o296 P) L L) (N (o424 P) L L)) (N (o232 P) (N (o360 P) L L) L))) (N (o56 P) (N (o88 P) (N (o152 P) (N (o280 P) L L) (N (o408 P) L L)) (N (o216 P) (N (o344 P) L L) L)) (N (o120 P) (N (o184 P) (N (o312 P) L L) L) (N (o248 P) (N (o376 P) L L) L))))) (N (o12_1 P) (N (o20_1 P) (N (o36_1 P) (N (o68 P) (N (o132 P) (N (o260 P) L L) (N (o388 P) L L)) (N (o196 P) (N (o324 P) L L) L)) (N (o100 P) (N (o164 P) (N (o292 P) L L) (N (o420 P) L L)) (N (o228 P) (N (o356 P) L L) L))) (N (o52 P) (N (o84 P) (N (o148 P) (N (o276 P) L L) (N (o404 P) L L)) (N (o212 P) (N (o340 P) L L) L)) (N (o116 P) (N (o180 P) (N (o308 P) L L) (N (o436 P) L L)) (N (o244 P) (N (o372 P) L L) L)))) (N (o28_1 P) (N (o44 P) (N (o76 P) (N (o140 P) (N (o268 P) L L) (N (o396 P) L L)) (N (o204 P) (N (o332 P) L L) L)) (N (o108 P) (N (o172 P) (N (o300 P) L L) (N (o428 P) L L)) (N (o236 P) (N (o364 P) L L) L))) (N (o60 P) (N (o92 P) (N (o156 P) (N (o284 P) L L) (N (o412 P) L L)) (N (o220 P) (N (o348 P) L L) L)) (N (o124 P) (N (o188 P) (N (o316 P) L L) L) (N (o252 P) (N (o380 P) L L) L)))))) (N (o6 P) (N (o10_1 P) (N (o18_1 P) (N (o34_1 P) (N (o66 P) (N (o130 P) (N (o258 P) L L) (N (o386 P) L L)) (N (o194 P) (N (o322 P) L L) L)) (N (o98 P) (N (o162 P) (N (o290 P) L L) (N (o418 P) L L)) (N (o226 P) (N (o354 P) L L) L))) (N (o50 P) (N (o82 P) (N (o146 P) (N (o274 P) L L) (N (o402 P) L L)) (N (o210 P) (N (o338 P) L L) L)) (N (o114 P) (N (o178 P) (N (o306 P) L L) (N (o434 P) L L)) (N (o242 P) (N (o370 P) L L) L)))) (N (o26_1 P) (N (o42 P) (N (o74 P) (N (o138 P) (N (o266 P) L L) (N (o394 P) L L)) (N (o202 P) (N (o330 P) L L) L)) (N (o106 P) (N (o170 P) (N (o298 P) L L) (N (o426 P) L L)) (N (o234 P) (N (o362 P) L L) L))) (N (o58 P) (N (o90 P) (N (o154 P) (N (o282 P) L L) (N (o410 P) L L)) (N (o218 P) (N (o346 P) L L) L)) (N (o122 P) (N (o186 P) (N (o314 P) L L) L) (N (o250 P) (N (o378 P) L L) L))))) (N (o14_1 P) (N (o22_1 P) (N (o38_1 P) (N (o70 P) (N (o134 P) (N (o262 P) L L) (N (o390 P) L L)) (N (o198 P) (N (o326 P) L L) L)) (N (o102 P) (N (o166 P) (N (o294 P) L L) (N (o422 P) L L)) (N (o230 P) (N (o358 P) L L) L))) (N (o54 P) (N (o86 P) (N (o150 P) (N (o278 P) L L) (N (o406 P) L L)) (N (o214 P) (N (o342 P) L L) L)) (N (o118 P) (N (o182 P) (N (o310 P) L L) L) (N (o246 P) (N (o374 P) L L) L)))) (N (o30 P) (N (o46 P) (N (o78 P) (N (o142 P) (N (o270 P) L L) (N (o398 P) L L)) (N (o206 P) (N (o334 P) L L) L)) (N (o110 P) (N (o174 P) (N (o302 P) L L) (N (o430 P) L L)) (N (o238 P) (N (o366 P) L L) L))) (N (o62 P) (N (o94 P) (N (o158 P) (N (o286 P) L L) (N (o414 P) L L)) (N (o222 P) (N (o350 P) L L) L)) (N (o126 P) (N (o190 P) (N (o318 P) L L) L) (N (o254 P) (N (o382 P) L L) L))))))))
noncomputable def S68 (w : World) (os : OsState) : SharedT := ⟨T68 w.params, 438, {}, #[], {}, 935, os⟩
noncomputable def o3_4 (P : Params) : Obj := ⟨.type "dict", none, (.dict #[ce P "__name__" 165 (.str "evertreads.squares" 1208), ce P "__doc__" 166 .none, ce P "__package__" 167 .none, ce P "__loader__" 168 (.builtin "__main__.__loader__#opaque"), ce P "__spec__" 169 .none, ce P "__annotations__" 170 (.ref 6), ce P "__builtins__" 171 (.ref 4), ce P "__file__" 173 (.str "/claim/cut.py" 172), ce P "__cached__" 174 .none, ce P "gcd" 370 (.builtin "math.gcd"), ce P "lcm" 373 (.builtin "math.lcm"), ce P "_wall" 386 (.ref 49), ce P "MOST_ORDERS" 388 (.int 8 387), ce P "MOST_STEPS" 390 (.int 9 389), ce P "MOST_MOVE" 392 (.int 1000 391), ce P "GREATEST" 396 (.int 1000000000000000000000000000000 395), ce P "is_integer" 405 (.ref 56), ce P "is_within" 414 (.ref 63), ce P "is_pair" 421 (.ref 70), ce P "is_square" 428 (.ref 77), ce P "is_time" 435 (.ref 84), ce P "WrongValue" 462 (.ref 101), ce P "InvalidRow" 487 (.ref 121), ce P "InvalidSquare" 512 (.ref 140), ce P "InvalidWay" 537 (.ref 159), ce P "InvalidTime" 562 (.ref 178), ce P "InvalidParts" 587 (.ref 197), ce P "lane_of" 602 (.ref 206), ce P "square_in" 611 (.ref 213), ce P "lanes_trodden" 617 (.ref 218), ce P "slope_of" 628 (.ref 225), ce P "line_through" 641 (.ref 232), ce P "square_on" 653 (.ref 239), ce P "crossing" 672 (.ref 246), ce P "place" 685 (.ref 253), ce P "primes_of" 696 (.ref 260), ce P "common_multiple" 705 (.ref 267), ce P "inverse" 718 (.ref 274), ce P "repeated" 730 (.ref 281), ce P "window" 741 (.ref 288), ce P "least" 751 (.ref 295), ce P "full" 758 (.ref 302), ce P "ones" 765 (.ref 309), ce P "places" 771 (.ref 314), ce P "raised" 777 (.ref 319), ce P "BOTH" 780 (.ref 322), ce P "EITHER" 781 (.ref 325), ce P "FIRST" 782 (.ref 328), ce P "ONE" 783 (.ref 331), ce P "NEVER" 785 (.ref 333), ce P "MOST_TABLED" 787 (.int 360 786), ce P "plain" 795 (.ref 340), ce P "holds" 809 (.ref 347), ce P "told" 826 (.ref 354), ce P "common_period" 832 (.ref 359), ce P "tabled" 840 (.ref 366), ce P "answers" 849 (.ref 373), ce P "layers" 855 (.ref 378), ce P "joined" 861 (.ref 383), ce P "MOST_BITS" 865 (.int 65536 864), ce P "seen_along" 871 (.ref 388), ce P "gathered" 877 (.ref 393), ce P "taken" 888 (.ref 400), ce P "loosened" 894 (.ref 405), ce P "deciding" 904 (.ref 412), ce P "primes_in" 910 (.ref 417), ce P "shared_prime" 916 (.ref 422), ce P "leave_some" 922 (.ref 427), ce P "parted" 928 (.ref 432), ce P "left_in_bits" 934 (.ref 437), ce P "left_of" 940 (.ref 442), ce P "FEW_MARKS" 944 (.int 8 943), ce P "sides" 958 (.ref 449), ce P "meeting_point" 971 (.ref 456), ce P "followers" 977 (.ref 461), ce P "holds_any" 983 (.ref 466), ce P "cases" 1000 (.ref 473), ce P "seen_from" 1006 (.ref 478), ce P "many_in" 1021 (.ref 486), ce P "many_in_cases" 1035 (.ref 493), ce P "NOTHING" 1039 (.ref 498), ce P "MOST_WRITTEN" 1041 (.int 5040 1040), ce P "track_of" 1047 (.ref 503), ce P "rule_about" 1060 (.ref 510), ce P "simplified" 1066 (.ref 515), ce P "written_short" 1078 (.ref 522), ce P "rule_at" 1088 (.ref 529), ce P "on_track" 1096 (.ref 536), ce P "joined_tracks" 1102 (.ref 541), ce P "endless_track" 1110 (.ref 548), ce P "stretches" 1116 (.ref 553), ce P "many_on" 1122 (.ref 558), ce P "more_on" 1134 (.ref 565), ce P "laid" 1142 (.ref 570), ce P "slopes_of" 1148 (.ref 575), ce P "crossings" 1154 (.ref 580), ce P "tracks_over" 1160 (.ref 585), ce P "settled" 1166 (.ref 590), ce P "in_field" 1177 (.ref 597), ce P "joined_fields" 1183 (.ref 602), ce P "endless_field" 1189 (.ref 607), ce P "told_by_tracks" 1195 (.ref 612), ce P "many_in_field" 1201 (.ref 617), ce P "any_in_field" 1207 (.ref 622), ce P "MOST_PARTS" 1211 (.int 20 1210)] 105), #[]⟩
noncomputable def o40_3 (P : Params) : Obj := ⟨.none, none, (.fields #[.int 2 0, .int 0 0, .ref 48, .int 10 0, .int 0 0, .ref 55, .int 12 0, .int 0 0, .ref 62, .int 14 0, .int 0 0, .ref 69, .int 16 0, .int 0 0, .ref 76, .int 18 0, .int 0 0, .ref 83, .int 21 0, .int 0 0, .ref 90, .int 25 0, .int 0 0, .ref 110, .int 29 0, .int 0 0, .ref 129, .int 33 0, .int 0 0, .ref 148, .int 37 0, .int 0 0, .ref 167, .int 41 0, .int 0 0, .ref 186, .int 46 0, .int 0 0, .ref 205, .int 55 0, .int 0 0, .ref 212, .int 57 0, .int 0 0, .ref 217, .int 64 0, .int 0 0, .ref 224, .int 69 0, .int 0 0, .ref 231, .int 74 0, .int 0 0, .ref 238, .int 77 0, .int 0 0, .ref 245, .int 84 0, .int 0 0, .ref 252, .int 94 0, .int 0 0, .ref 259, .int 106 0, .int 0 0, .ref 266, .int 111 0, .int 0 0, .ref 273, .int 120 0, .int 0 0, .ref 280, .int 126 0, .int 0 0, .ref 287, .int 129 0, .int 0 0, .ref 294, .int 137 0, .int 0 0, .ref 301, .int 139 0, .int 0 0, .ref 308, .int 141 0, .int 0 0, .ref 313, .int 143 0, .int 0 0, .ref 318, .int 152 0, .int 0 0, .ref 339, .int 157 0, .int 0 0, .ref 346, .int 163 0, .int 0 0, .ref 353, .int 170 0, .int 0 0, .ref 358, .int 172 0, .int 0 0, .ref 365, .int 179 0, .int 0 0, .ref 372, .int 183 0, .int 0 0, .ref 377, .int 196 0, .int 0 0, .ref 382, .int 210 0, .int 0 0, .ref 387, .int 216 0, .int 0 0, .ref 392, .int 222 0, .int 0 0, .ref 399, .int 227 0, .int 0 0, .ref 404, .int 235 0, .int 0 0, .ref 411, .int 243 0, .int 0 0, .ref 416, .int 245 0, .int 0 0, .ref 421, .int 250 0, .int 0 0, .ref 426, .int 264 0, .int 0 0, .ref 431, .int 276 0, .int 0 0, .ref 436, .int 281 0, .int 0 0, .ref 441, .int 295 0, .int 0 0, .ref 448, .int 301 0, .int 0 0, .ref 455, .int 308 0, .int 0 0, .ref 460, .int 321 0, .int 0 0, .ref 465, .int 340 0, .int 0 0, .ref 472, .int 354 0, .int 0 0, .ref 477, .int 358 0, .int 0 0, .ref 485, .int 370 0, .int 0 0, .ref 492, .int 383 0, .int 0 0, .ref 502, .int 386 0, .int 0 0, .ref 509, .int 396 0, .int 0 0, .ref 514, .int 400 0, .int 0 0, .ref 521, .int 408 0, .int 0 0, .ref 528, .int 411 0, .int 0 0, .ref 535, .int 413 0, .int 0 0, .ref 540, .int 418 0, .int 0 0, .ref 547, .int 421 0, .int 0 0, .ref 552, .int 424 0, .int 0 0, .ref 557, .int 426 0, .int 0 0, .ref 564, .int 436 0, .int 0 0, .ref 569, .int 448 0, .int 0 0, .ref 574, .int 450 0, .int 0 0, .ref 579, .int 453 0, .int 0 0, .ref 584, .int 456 0, .int 0 0, .ref 589, .int 461 0, .int 0 0, .ref 596, .int 466 0, .int 0 0, .ref 601, .int 474 0, .int 0 0, .ref 606, .int 477 0, .int 0 0, .ref 611, .int 486 0, .int 0 0, .ref 616, .int 490 0, .int 0 0, .ref 621]), #[]⟩
noncomputable def o438 (P : Params) : Obj := ⟨.type "tuple", none, (.seq #[] 0), #[]⟩
noncomputable def o439 (P : Params) : Obj := ⟨.none, none, (.fields #[]), #[]⟩
noncomputable def o440 (P : Params) : Obj := ⟨.none, none, (cf (top 69) "left_of" "left_of" 0 .none .none .none .none none .none .none 0), #[]⟩
noncomputable def o441 (P : Params) : Obj := ⟨.type "code", none, (.fields #[.str "left_of" 935, .str "left_of" 936, .str "/claim/cut.py" 937, .int 281 0, .int 2 0, .int 0 0, .int 0 0, .int 3 0, .ref 438, .bool true, .int 374 0, .ref 439, .none, .none, .none, .ref 440, .int 938 0, .int 281 0, .str "/claim/cut.py" 939]), #[]⟩
noncomputable def o442 (P : Params) : Obj := ⟨.type "function", none, (cf (top 69) "left_of" "left_of" 3 .none .none .none (.str "evertreads.sieves" 862) none (.ref 441) .none 0), #[]⟩
noncomputable def o443 (P : Params) : Obj := ⟨.type "tuple", none, (.seq #[] 0), #[]⟩
noncomputable def o444 (P : Params) : Obj := ⟨.none, none, (.fields #[]), #[]⟩
noncomputable def o445 (P : Params) : Obj := ⟨.type "tuple", none, (.seq #[.str "rule" 948, .str "found" 949, .str "period" 950, .str "bits" 951, .str "low" 952, .str "high" 953, .str "marks" 954, .str "others" 955] 0), #[]⟩
noncomputable def o446 (P : Params) : Obj := ⟨.type "tuple", none, (.seq #[] 0), #[]⟩
noncomputable def o447 (P : Params) : Obj := ⟨.none, none, (cf (top 72) "sides" "sides" 0 .none .none .none .none none .none .none 0), #[]⟩
noncomputable def o448 (P : Params) : Obj := ⟨.type "code", none, (.fields #[.str "sides" 945, .str "sides" 946, .str "/claim/cut.py" 947, .int 295 0, .int 1 0, .int 0 0, .int 0 0, .int 3 0, .ref 443, .bool true, .int 374 0, .ref 444, .none, .ref 445, .ref 446, .ref 447, .int 956 0, .int 295 0, .str "/claim/cut.py" 957]), #[]⟩
noncomputable def o449 (P : Params) : Obj := ⟨.type "function", none, (cf (top 72) "sides" "sides" 3 .none .none .none (.str "evertreads.searches" 941) none (.ref 448) .none 0), #[]⟩
noncomputable def o450 (P : Params) : Obj := ⟨.type "tuple", none, (.seq #[] 0), #[]⟩
noncomputable def o451 (P : Params) : Obj := ⟨.none, none, (.fields #[]), #[]⟩
noncomputable def o452 (P : Params) : Obj := ⟨.type "tuple", none, (.seq #[.str "rest" 962, .str "step" 963, .str "mark" 964, .str "period" 965, .str "shared" 966, .str "stride" 967, .str "lift" 968] 0), #[]⟩
noncomputable def o453 (P : Params) : Obj := ⟨.type "tuple", none, (.seq #[] 0), #[]⟩
noncomputable def o454 (P : Params) : Obj := ⟨.none, none, (cf (top 73) "meeting_point" "meeting_point" 0 .none .none .none .none none .none .none 0), #[]⟩
noncomputable def o455 (P : Params) : Obj := ⟨.type "code", none, (.fields #[.str "meeting_point" 959, .str "meeting_point" 960, .str "/claim/cut.py" 961, .int 301 0, .int 4 0, .int 0 0, .int 0 0, .int 3 0, .ref 450, .bool true, .int 374 0, .ref 451, .none, .ref 452, .ref 453, .ref 454, .int 969 0, .int 301 0, .str "/claim/cut.py" 970]), #[]⟩
noncomputable def o456 (P : Params) : Obj := ⟨.type "function", none, (cf (top 73) "meeting_point" "meeting_point" 3 .none .none .none (.str "evertreads.searches" 941) none (.ref 455) .none 0), #[]⟩
noncomputable def o457 (P : Params) : Obj := ⟨.type "tuple", none, (.seq #[] 0), #[]⟩
noncomputable def o458 (P : Params) : Obj := ⟨.none, none, (.fields #[]), #[]⟩
noncomputable def o459 (P : Params) : Obj := ⟨.none, none, (cf (top 74) "followers" "followers" 0 .none .none .none .none none .none .none 0), #[]⟩
noncomputable def o460 (P : Params) : Obj := ⟨.type "code", none, (.fields #[.str "followers" 972, .str "followers" 973, .str "/claim/cut.py" 974, .int 308 0, .int 3 0, .int 0 0, .int 0 0, .int 3 0, .ref 457, .bool true, .int 374 0, .ref 458, .none, .none, .none, .ref 459, .int 975 0, .int 308 0, .str "/claim/cut.py" 976]), #[]⟩
noncomputable def o461 (P : Params) : Obj := ⟨.type "function", none, (cf (top 74) "followers" "followers" 3 .none .none .none (.str "evertreads.searches" 941) none (.ref 460) .none 0), #[]⟩
noncomputable def o462 (P : Params) : Obj := ⟨.type "tuple", none, (.seq #[] 0), #[]⟩
noncomputable def o463 (P : Params) : Obj := ⟨.none, none, (.fields #[]), #[]⟩
noncomputable def o464 (P : Params) : Obj := ⟨.none, none, (cf (top 75) "holds_any" "holds_any" 0 .none .none .none .none none .none .none 0), #[]⟩
noncomputable def o465 (P : Params) : Obj := ⟨.type "code", none, (.fields #[.str "holds_any" 978, .str "holds_any" 979, .str "/claim/cut.py" 980, .int 321 0, .int 1 0, .int 0 0, .int 0 0, .int 3 0, .ref 462, .bool true, .int 374 0, .ref 463, .none, .none, .none, .ref 464, .int 981 0, .int 321 0, .str "/claim/cut.py" 982]), #[]⟩
noncomputable def o466 (P : Params) : Obj := ⟨.type "function", none, (cf (top 75) "holds_any" "holds_any" 3 .none .none .none (.str "evertreads.searches" 941) none (.ref 465) .none 0), #[]⟩
noncomputable def o467 (P : Params) : Obj := ⟨.type "tuple", none, (.seq #[] 0), #[]⟩
noncomputable def o468 (P : Params) : Obj := ⟨.none, none, (.fields #[]), #[]⟩
noncomputable def o469 (P : Params) : Obj := ⟨.type "tuple", none, (.seq #[.str "rule" 987, .str "start" 988, .str "length" 989, .str "answers" 990, .str "waiting" 991, .str "found" 992, .str "place" 993, .str "at" 994, .str "rest" 995, .str "step" 996, .str "barred" 997] 0), #[]⟩
noncomputable def o470 (P : Params) : Obj := ⟨.type "tuple", none, (.seq #[] 0), #[]⟩
noncomputable def o471 (P : Params) : Obj := ⟨.none, none, (cf (top 76) "cases" "cases" 0 .none .none .none .none none .none .none 0), #[]⟩
noncomputable def o472 (P : Params) : Obj := ⟨.type "code", none, (.fields #[.str "cases" 984, .str "cases" 985, .str "/claim/cut.py" 986, .int 340 0, .int 3 0, .int 0 0, .int 0 0, .int 3 0, .ref 467, .bool true, .int 374 0, .ref 468, .none, .ref 469, .ref 470, .ref 471, .int 998 0, .int 340 0, .str "/claim/cut.py" 999]), #[]⟩
noncomputable def o473 (P : Params) : Obj := ⟨.type "function", none, (cf (top 76) "cases" "cases" 3 .none .none .none (.str "evertreads.searches" 941) none (.ref 472) .none 0), #[]⟩
noncomputable def o474 (P : Params) : Obj := ⟨.type "tuple", none, (.seq #[] 0), #[]⟩
noncomputable def o475 (P : Params) : Obj := ⟨.none, none, (.fields #[]), #[]⟩
noncomputable def o476 (P : Params) : Obj := ⟨.none, none, (cf (top 77) "seen_from" "seen_from" 0 .none .none .none .none none .none .none 0), #[]⟩
noncomputable def o477 (P : Params) : Obj := ⟨.type "code", none, (.fields #[.str "seen_from" 1001, .str "seen_from" 1002, .str "/claim/cut.py" 1003, .int 354 0, .int 3 0, .int 0 0, .int 0 0, .int 3 0, .ref 474, .bool true, .int 374 0, .ref 475, .none, .none, .none, .ref 476, .int 1004 0, .int 354 0, .str "/claim/cut.py" 1005]), #[]⟩
noncomputable def o478 (P : Params) : Obj := ⟨.type "function", none, (cf (top 77) "seen_from" "seen_from" 3 .none .none .none (.str "evertreads.searches" 941) none (.ref 477) .none 0), #[]⟩
noncomputable def o479 (P : Params) : Obj := ⟨.type "tuple", none, (.seq #[.none] 0), #[]⟩
noncomputable def o480 (P : Params) : Obj := ⟨.type "tuple", none, (.seq #[] 0), #[]⟩
noncomputable def o481 (P : Params) : Obj := ⟨.none, none, (.fields #[]), #[]⟩
noncomputable def o482 (P : Params) : Obj := ⟨.type "tuple", none, (.seq #[.str "rule" 1010, .str "start" 1011, .str "length" 1012, .str "most" 1013, .str "period" 1014, .str "written" 1015, .str "row" 1016, .str "rounds" 1017, .str "rest" 1018] 0), #[]⟩
noncomputable def o483 (P : Params) : Obj := ⟨.type "tuple", none, (.seq #[] 0), #[]⟩
noncomputable def o484 (P : Params) : Obj := ⟨.none, none, (cf (top 78) "many_in" "many_in" 0 .none .none .none .none none .none .none 0), #[]⟩
noncomputable def o485 (P : Params) : Obj := ⟨.type "code", none, (.fields #[.str "many_in" 1007, .str "many_in" 1008, .str "/claim/cut.py" 1009, .int 358 0, .int 4 0, .int 0 0, .int 0 0, .int 3 0, .ref 480, .bool true, .int 374 0, .ref 481, .none, .ref 482, .ref 483, .ref 484, .int 1019 0, .int 358 0, .str "/claim/cut.py" 1020]), #[]⟩
noncomputable def o486 (P : Params) : Obj := ⟨.type "function", none, (cf (top 78) "many_in" "many_in" 3 (.ref 479) .none .none (.str "evertreads.searches" 941) none (.ref 485) .none 0), #[]⟩
noncomputable def o487 (P : Params) : Obj := ⟨.type "tuple", none, (.seq #[] 0), #[]⟩
noncomputable def o488 (P : Params) : Obj := ⟨.none, none, (.fields #[]), #[]⟩
noncomputable def o489 (P : Params) : Obj := ⟨.type "tuple", none, (.seq #[.str "rule" 1025, .str "start" 1026, .str "length" 1027, .str "most" 1028, .str "found" 1029, .str "case" 1030, .str "many" 1031, .str "patterns" 1032] 0), #[]⟩
noncomputable def o490 (P : Params) : Obj := ⟨.type "tuple", none, (.seq #[] 0), #[]⟩
noncomputable def o491 (P : Params) : Obj := ⟨.none, none, (cf (top 79) "many_in_cases" "many_in_cases" 0 .none .none .none .none none .none .none 0), #[]⟩
noncomputable def o492 (P : Params) : Obj := ⟨.type "code", none, (.fields #[.str "many_in_cases" 1022, .str "many_in_cases" 1023, .str "/claim/cut.py" 1024, .int 370 0, .int 4 0, .int 0 0, .int 0 0, .int 3 0, .ref 487, .bool true, .int 374 0, .ref 488, .none, .ref 489, .ref 490, .ref 491, .int 1033 0, .int 370 0, .str "/claim/cut.py" 1034]), #[]⟩
noncomputable def o493 (P : Params) : Obj := ⟨.type "function", none, (cf (top 79) "many_in_cases" "many_in_cases" 3 .none .none .none (.str "evertreads.searches" 941) none (.ref 492) .none 0), #[]⟩
noncomputable def o494 (P : Params) : Obj := ⟨.type "tuple", none, (.seq #[] 0), #[]⟩
noncomputable def o495 (P : Params) : Obj := ⟨.type "tuple", none, (.seq #[] 0), #[]⟩
noncomputable def o496 (P : Params) : Obj := ⟨.type "tuple", none, (.seq #[.int 0 1038, .ref 495] 0), #[]⟩
noncomputable def o497 (P : Params) : Obj := ⟨.type "tuple", none, (.seq #[.ref 496] 0), #[]⟩
noncomputable def o498 (P : Params) : Obj := ⟨.type "tuple", none, (.seq #[.ref 494, .ref 497] 0), #[]⟩
noncomputable def o499 (P : Params) : Obj := ⟨.type "tuple", none, (.seq #[] 0), #[]⟩
noncomputable def o500 (P : Params) : Obj := ⟨.none, none, (.fields #[]), #[]⟩
noncomputable def o501 (P : Params) : Obj := ⟨.none, none, (cf (top 83) "track_of" "track_of" 0 .none .none .none .none none .none .none 0), #[]⟩
noncomputable def o502 (P : Params) : Obj := ⟨.type "code", none, (.fields #[.str "track_of" 1042, .str "track_of" 1043, .str "/claim/cut.py" 1044, .int 383 0, .int 1 0, .int 0 0, .int 0 0, .int 3 0, .ref 499, .bool true, .int 374 0, .ref 500, .none, .none, .none, .ref 501, .int 1045 0, .int 383 0, .str "/claim/cut.py" 1046]), #[]⟩
noncomputable def o503 (P : Params) : Obj := ⟨.type "function", none, (cf (top 83) "track_of" "track_of" 3 .none .none .none (.str "evertreads.tracks" 1036) none (.ref 502) .none 0), #[]⟩
noncomputable def o504 (P : Params) : Obj := ⟨.type "tuple", none, (.seq #[] 0), #[]⟩
noncomputable def o505 (P : Params) : Obj := ⟨.none, none, (.fields #[]), #[]⟩
noncomputable def o506 (P : Params) : Obj := ⟨.type "tuple", none, (.seq #[.str "rays" 1051, .str "number" 1052, .str "periods" 1053, .str "first" 1054, .str "step" 1055, .str "period" 1056, .str "rule" 1057] 0), #[]⟩
noncomputable def o507 (P : Params) : Obj := ⟨.type "tuple", none, (.seq #[] 0), #[]⟩
noncomputable def o508 (P : Params) : Obj := ⟨.none, none, (cf (top 84) "rule_about" "rule_about" 0 .none .none .none .none none .none .none 0), #[]⟩
noncomputable def o509 (P : Params) : Obj := ⟨.type "code", none, (.fields #[.str "rule_about" 1048, .str "rule_about" 1049, .str "/claim/cut.py" 1050, .int 386 0, .int 2 0, .int 0 0, .int 0 0, .int 3 0, .ref 504, .bool true, .int 374 0, .ref 505, .none, .ref 506, .ref 507, .ref 508, .int 1058 0, .int 386 0, .str "/claim/cut.py" 1059]), #[]⟩
noncomputable def o510 (P : Params) : Obj := ⟨.type "function", none, (cf (top 84) "rule_about" "rule_about" 3 .none .none .none (.str "evertreads.tracks" 1036) none (.ref 509) .none 0), #[]⟩
noncomputable def o511 (P : Params) : Obj := ⟨.type "tuple", none, (.seq #[] 0), #[]⟩
noncomputable def o512 (P : Params) : Obj := ⟨.none, none, (.fields #[]), #[]⟩
noncomputable def o513 (P : Params) : Obj := ⟨.none, none, (cf (top 85) "simplified" "simplified" 0 .none .none .none .none none .none .none 0), #[]⟩
noncomputable def o514 (P : Params) : Obj := ⟨.type "code", none, (.fields #[.str "simplified" 1061, .str "simplified" 1062, .str "/claim/cut.py" 1063, .int 396 0, .int 2 0, .int 0 0, .int 0 0, .int 3 0, .ref 511, .bool true, .int 374 0, .ref 512, .none, .none, .none, .ref 513, .int 1064 0, .int 396 0, .str "/claim/cut.py" 1065]), #[]⟩
noncomputable def o515 (P : Params) : Obj := ⟨.type "function", none, (cf (top 85) "simplified" "simplified" 3 .none .none .none (.str "evertreads.tracks" 1036) none (.ref 514) .none 0), #[]⟩
noncomputable def o516 (P : Params) : Obj := ⟨.type "tuple", none, (.seq #[] 0), #[]⟩
noncomputable def o517 (P : Params) : Obj := ⟨.none, none, (.fields #[]), #[]⟩
noncomputable def o518 (P : Params) : Obj := ⟨.type "tuple", none, (.seq #[.str "rule" 1070, .str "cuts" 1071, .str "at" 1072, .str "start" 1073, .str "length" 1074, .str "row" 1075] 0), #[]⟩
noncomputable def o519 (P : Params) : Obj := ⟨.type "tuple", none, (.seq #[] 0), #[]⟩
noncomputable def o520 (P : Params) : Obj := ⟨.none, none, (cf (top 86) "written_short" "written_short" 0 .none .none .none .none none .none .none 0), #[]⟩
noncomputable def o521 (P : Params) : Obj := ⟨.type "code", none, (.fields #[.str "written_short" 1067, .str "written_short" 1068, .str "/claim/cut.py" 1069, .int 400 0, .int 3 0, .int 0 0, .int 0 0, .int 3 0, .ref 516, .bool true, .int 374 0, .ref 517, .none, .ref 518, .ref 519, .ref 520, .int 1076 0, .int 400 0, .str "/claim/cut.py" 1077]), #[]⟩
noncomputable def o522 (P : Params) : Obj := ⟨.type "function", none, (cf (top 86) "written_short" "written_short" 3 .none .none .none (.str "evertreads.tracks" 1036) none (.ref 521) .none 0), #[]⟩
noncomputable def o523 (P : Params) : Obj := ⟨.type "tuple", none, (.seq #[] 0), #[]⟩
noncomputable def o524 (P : Params) : Obj := ⟨.none, none, (.fields #[]), #[]⟩
noncomputable def o525 (P : Params) : Obj := ⟨.type "tuple", none, (.seq #[.str "track" 1082, .str "number" 1083, .str "cuts" 1084, .str "rules" 1085] 0), #[]⟩
noncomputable def o526 (P : Params) : Obj := ⟨.type "tuple", none, (.seq #[] 0), #[]⟩
noncomputable def o527 (P : Params) : Obj := ⟨.none, none, (cf (top 87) "rule_at" "rule_at" 0 .none .none .none .none none .none .none 0), #[]⟩
noncomputable def o528 (P : Params) : Obj := ⟨.type "code", none, (.fields #[.str "rule_at" 1079, .str "rule_at" 1080, .str "/claim/cut.py" 1081, .int 408 0, .int 2 0, .int 0 0, .int 0 0, .int 3 0, .ref 523, .bool true, .int 374 0, .ref 524, .none, .ref 525, .ref 526, .ref 527, .int 1086 0, .int 408 0, .str "/claim/cut.py" 1087]), #[]⟩
noncomputable def o529 (P : Params) : Obj := ⟨.type "function", none, (cf (top 87) "rule_at" "rule_at" 3 .none .none .none (.str "evertreads.tracks" 1036) none (.ref 528) .none 0), #[]⟩
noncomputable def o530 (P : Params) : Obj := ⟨.type "tuple", none, (.seq #[] 0), #[]⟩
noncomputable def o531 (P : Params) : Obj := ⟨.none, none, (.fields #[]), #[]⟩
noncomputable def o532 (P : Params) : Obj := ⟨.type "tuple", none, (.seq #[.str "track" 1092, .str "number" 1093] 0), #[]⟩
noncomputable def o533 (P : Params) : Obj := ⟨.type "tuple", none, (.seq #[] 0), #[]⟩
noncomputable def o534 (P : Params) : Obj := ⟨.none, none, (cf (top 88) "on_track" "on_track" 0 .none .none .none .none none .none .none 0), #[]⟩
noncomputable def o535 (P : Params) : Obj := ⟨.type "code", none, (.fields #[.str "on_track" 1089, .str "on_track" 1090, .str "/claim/cut.py" 1091, .int 411 0, .int 2 0, .int 0 0, .int 0 0, .int 3 0, .ref 530, .bool true, .int 374 0, .ref 531, .none, .ref 532, .ref 533, .ref 534, .int 1094 0, .int 411 0, .str "/claim/cut.py" 1095]), #[]⟩
noncomputable def o536 (P : Params) : Obj := ⟨.type "function", none, (cf (top 88) "on_track" "on_track" 3 .none .none .none (.str "evertreads.tracks" 1036) none (.ref 535) .none 0), #[]⟩
noncomputable def o537 (P : Params) : Obj := ⟨.type "tuple", none, (.seq #[] 0), #[]⟩
noncomputable def o538 (P : Params) : Obj := ⟨.none, none, (.fields #[]), #[]⟩
noncomputable def o539 (P : Params) : Obj := ⟨.none, none, (cf (top 89) "joined_tracks" "joined_tracks" 0 .none .none .none .none none .none .none 0), #[]⟩
noncomputable def o540 (P : Params) : Obj := ⟨.type "code", none, (.fields #[.str "joined_tracks" 1097, .str "joined_tracks" 1098, .str "/claim/cut.py" 1099, .int 413 0, .int 3 0, .int 0 0, .int 0 0, .int 3 0, .ref 537, .bool true, .int 374 0, .ref 538, .none, .none, .none, .ref 539, .int 1100 0, .int 413 0, .str "/claim/cut.py" 1101]), #[]⟩
noncomputable def o541 (P : Params) : Obj := ⟨.type "function", none, (cf (top 89) "joined_tracks" "joined_tracks" 3 .none .none .none (.str "evertreads.tracks" 1036) none (.ref 540) .none 0), #[]⟩
noncomputable def o542 (P : Params) : Obj := ⟨.type "tuple", none, (.seq #[] 0), #[]⟩
noncomputable def o543 (P : Params) : Obj := ⟨.none, none, (.fields #[]), #[]⟩
noncomputable def o544 (P : Params) : Obj := ⟨.type "tuple", none, (.seq #[.str "track" 1106, .str "rules" 1107] 0), #[]⟩
noncomputable def o545 (P : Params) : Obj := ⟨.type "tuple", none, (.seq #[] 0), #[]⟩
noncomputable def o546 (P : Params) : Obj := ⟨.none, none, (cf (top 90) "endless_track" "endless_track" 0 .none .none .none .none none .none .none 0), #[]⟩
noncomputable def o547 (P : Params) : Obj := ⟨.type "code", none, (.fields #[.str "endless_track" 1103, .str "endless_track" 1104, .str "/claim/cut.py" 1105, .int 418 0, .int 1 0, .int 0 0, .int 0 0, .int 3 0, .ref 542, .bool true, .int 374 0, .ref 543, .none, .ref 544, .ref 545, .ref 546, .int 1108 0, .int 418 0, .str "/claim/cut.py" 1109]), #[]⟩
noncomputable def o548 (P : Params) : Obj := ⟨.type "function", none, (cf (top 90) "endless_track" "endless_track" 3 .none .none .none (.str "evertreads.tracks" 1036) none (.ref 547) .none 0), #[]⟩
noncomputable def o549 (P : Params) : Obj := ⟨.type "tuple", none, (.seq #[] 0), #[]⟩
noncomputable def o550 (P : Params) : Obj := ⟨.none, none, (.fields #[]), #[]⟩
noncomputable def o551 (P : Params) : Obj := ⟨.none, none, (cf (top 91) "stretches" "stretches" 0 .none .none .none .none none .none .none 0), #[]⟩
noncomputable def o552 (P : Params) : Obj := ⟨.type "code", none, (.fields #[.str "stretches" 1111, .str "stretches" 1112, .str "/claim/cut.py" 1113, .int 421 0, .int 1 0, .int 0 0, .int 0 0, .int 3 0, .ref 549, .bool true, .int 374 0, .ref 550, .none, .none, .none, .ref 551, .int 1114 0, .int 421 0, .str "/claim/cut.py" 1115]), #[]⟩
noncomputable def o553 (P : Params) : Obj := ⟨.type "function", none, (cf (top 91) "stretches" "stretches" 3 .none .none .none (.str "evertreads.tracks" 1036) none (.ref 552) .none 0), #[]⟩
noncomputable def o554 (P : Params) : Obj := ⟨.type "tuple", none, (.seq #[] 0), #[]⟩
noncomputable def o555 (P : Params) : Obj := ⟨.none, none, (.fields #[]), #[]⟩
noncomputable def o556 (P : Params) : Obj := ⟨.none, none, (cf (top 92) "many_on" "many_on" 0 .none .none .none .none none .none .none 0), #[]⟩
noncomputable def o557 (P : Params) : Obj := ⟨.type "code", none, (.fields #[.str "many_on" 1117, .str "many_on" 1118, .str "/claim/cut.py" 1119, .int 424 0, .int 1 0, .int 0 0, .int 0 0, .int 3 0, .ref 554, .bool true, .int 374 0, .ref 555, .none, .none, .none, .ref 556, .int 1120 0, .int 424 0, .str "/claim/cut.py" 1121]), #[]⟩
noncomputable def o558 (P : Params) : Obj := ⟨.type "function", none, (cf (top 92) "many_on" "many_on" 3 .none .none .none (.str "evertreads.tracks" 1036) none (.ref 557) .none 0), #[]⟩
noncomputable def o559 (P : Params) : Obj := ⟨.type "tuple", none, (.seq #[] 0), #[]⟩
noncomputable def o560 (P : Params) : Obj := ⟨.none, none, (.fields #[]), #[]⟩
noncomputable def o561 (P : Params) : Obj := ⟨.type "tuple", none, (.seq #[.str "track" 1126, .str "few" 1127, .str "found" 1128, .str "rule" 1129, .str "start" 1130, .str "length" 1131] 0), #[]⟩
noncomputable def o562 (P : Params) : Obj := ⟨.type "tuple", none, (.seq #[] 0), #[]⟩
noncomputable def o563 (P : Params) : Obj := ⟨.none, none, (cf (top 93) "more_on" "more_on" 0 .none .none .none .none none .none .none 0), #[]⟩
noncomputable def o564 (P : Params) : Obj := ⟨.type "code", none, (.fields #[.str "more_on" 1123, .str "more_on" 1124, .str "/claim/cut.py" 1125, .int 426 0, .int 2 0, .int 0 0, .int 0 0, .int 3 0, .ref 559, .bool true, .int 374 0, .ref 560, .none, .ref 561, .ref 562, .ref 563, .int 1132 0, .int 426 0, .str "/claim/cut.py" 1133]), #[]⟩
noncomputable def o565 (P : Params) : Obj := ⟨.type "function", none, (cf (top 93) "more_on" "more_on" 3 .none .none .none (.str "evertreads.tracks" 1036) none (.ref 564) .none 0), #[]⟩
noncomputable def o566 (P : Params) : Obj := ⟨.type "tuple", none, (.seq #[] 0), #[]⟩
noncomputable def o567 (P : Params) : Obj := ⟨.none, none, (.fields #[]), #[]⟩
noncomputable def o568 (P : Params) : Obj := ⟨.none, none, (cf (top 95) "laid" "laid" 0 .none .none .none .none none .none .none 0), #[]⟩
noncomputable def o569 (P : Params) : Obj := ⟨.type "code", none, (.fields #[.str "laid" 1137, .str "laid" 1138, .str "/claim/cut.py" 1139, .int 436 0, .int 2 0, .int 0 0, .int 0 0, .int 3 0, .ref 566, .bool true, .int 374 0, .ref 567, .none, .none, .none, .ref 568, .int 1140 0, .int 436 0, .str "/claim/cut.py" 1141]), #[]⟩
noncomputable def o570 (P : Params) : Obj := ⟨.type "function", none, (cf (top 95) "laid" "laid" 3 .none .none .none (.str "evertreads.fields" 1135) none (.ref 569) .none 0), #[]⟩
noncomputable def o571 (P : Params) : Obj := ⟨.type "tuple", none, (.seq #[] 0), #[]⟩
noncomputable def o572 (P : Params) : Obj := ⟨.none, none, (.fields #[]), #[]⟩
noncomputable def o573 (P : Params) : Obj := ⟨.none, none, (cf (top 96) "slopes_of" "slopes_of" 0 .none .none .none .none none .none .none 0), #[]⟩
noncomputable def o574 (P : Params) : Obj := ⟨.type "code", none, (.fields #[.str "slopes_of" 1143, .str "slopes_of" 1144, .str "/claim/cut.py" 1145, .int 448 0, .int 1 0, .int 0 0, .int 0 0, .int 3 0, .ref 571, .bool true, .int 374 0, .ref 572, .none, .none, .none, .ref 573, .int 1146 0, .int 448 0, .str "/claim/cut.py" 1147]), #[]⟩
noncomputable def o575 (P : Params) : Obj := ⟨.type "function", none, (cf (top 96) "slopes_of" "slopes_of" 3 .none .none .none (.str "evertreads.fields" 1135) none (.ref 574) .none 0), #[]⟩
noncomputable def o576 (P : Params) : Obj := ⟨.type "tuple", none, (.seq #[] 0), #[]⟩
noncomputable def o577 (P : Params) : Obj := ⟨.none, none, (.fields #[]), #[]⟩
noncomputable def o578 (P : Params) : Obj := ⟨.none, none, (cf (top 97) "crossings" "crossings" 0 .none .none .none .none none .none .none 0), #[]⟩
noncomputable def o579 (P : Params) : Obj := ⟨.type "code", none, (.fields #[.str "crossings" 1149, .str "crossings" 1150, .str "/claim/cut.py" 1151, .int 450 0, .int 2 0, .int 0 0, .int 0 0, .int 3 0, .ref 576, .bool true, .int 374 0, .ref 577, .none, .none, .none, .ref 578, .int 1152 0, .int 450 0, .str "/claim/cut.py" 1153]), #[]⟩
noncomputable def o580 (P : Params) : Obj := ⟨.type "function", none, (cf (top 97) "crossings" "crossings" 3 .none .none .none (.str "evertreads.fields" 1135) none (.ref 579) .none 0), #[]⟩
noncomputable def o581 (P : Params) : Obj := ⟨.type "tuple", none, (.seq #[] 0), #[]⟩
noncomputable def o582 (P : Params) : Obj := ⟨.none, none, (.fields #[]), #[]⟩
noncomputable def o583 (P : Params) : Obj := ⟨.none, none, (cf (top 98) "tracks_over" "tracks_over" 0 .none .none .none .none none .none .none 0), #[]⟩
noncomputable def o584 (P : Params) : Obj := ⟨.type "code", none, (.fields #[.str "tracks_over" 1155, .str "tracks_over" 1156, .str "/claim/cut.py" 1157, .int 453 0, .int 3 0, .int 0 0, .int 0 0, .int 3 0, .ref 581, .bool true, .int 374 0, .ref 582, .none, .none, .none, .ref 583, .int 1158 0, .int 453 0, .str "/claim/cut.py" 1159]), #[]⟩
noncomputable def o585 (P : Params) : Obj := ⟨.type "function", none, (cf (top 98) "tracks_over" "tracks_over" 3 .none .none .none (.str "evertreads.fields" 1135) none (.ref 584) .none 0), #[]⟩
noncomputable def o586 (P : Params) : Obj := ⟨.type "tuple", none, (.seq #[] 0), #[]⟩
noncomputable def o587 (P : Params) : Obj := ⟨.none, none, (.fields #[]), #[]⟩
noncomputable def o588 (P : Params) : Obj := ⟨.none, none, (cf (top 99) "settled" "settled" 0 .none .none .none .none none .none .none 0), #[]⟩
noncomputable def o589 (P : Params) : Obj := ⟨.type "code", none, (.fields #[.str "settled" 1161, .str "settled" 1162, .str "/claim/cut.py" 1163, .int 456 0, .int 2 0, .int 0 0, .int 0 0, .int 3 0, .ref 586, .bool true, .int 374 0, .ref 587, .none, .none, .none, .ref 588, .int 1164 0, .int 456 0, .str "/claim/cut.py" 1165]), #[]⟩
noncomputable def o590 (P : Params) : Obj := ⟨.type "function", none, (cf (top 99) "settled" "settled" 3 .none .none .none (.str "evertreads.fields" 1135) none (.ref 589) .none 0), #[]⟩
noncomputable def o591 (P : Params) : Obj := ⟨.type "tuple", none, (.seq #[] 0), #[]⟩
noncomputable def o592 (P : Params) : Obj := ⟨.none, none, (.fields #[]), #[]⟩
noncomputable def o593 (P : Params) : Obj := ⟨.type "tuple", none, (.seq #[.str "field" 1170, .str "square" 1171, .str "tracks" 1172, .str "spots" 1173, .str "slopes" 1174] 0), #[]⟩
noncomputable def o594 (P : Params) : Obj := ⟨.type "tuple", none, (.seq #[] 0), #[]⟩
noncomputable def o595 (P : Params) : Obj := ⟨.none, none, (cf (top 100) "in_field" "in_field" 0 .none .none .none .none none .none .none 0), #[]⟩
noncomputable def o596 (P : Params) : Obj := ⟨.type "code", none, (.fields #[.str "in_field" 1167, .str "in_field" 1168, .str "/claim/cut.py" 1169, .int 461 0, .int 2 0, .int 0 0, .int 0 0, .int 3 0, .ref 591, .bool true, .int 374 0, .ref 592, .none, .ref 593, .ref 594, .ref 595, .int 1175 0, .int 461 0, .str "/claim/cut.py" 1176]), #[]⟩
noncomputable def o597 (P : Params) : Obj := ⟨.type "function", none, (cf (top 100) "in_field" "in_field" 3 .none .none .none (.str "evertreads.fields" 1135) none (.ref 596) .none 0), #[]⟩
noncomputable def o598 (P : Params) : Obj := ⟨.type "tuple", none, (.seq #[] 0), #[]⟩
noncomputable def o599 (P : Params) : Obj := ⟨.none, none, (.fields #[]), #[]⟩
noncomputable def o600 (P : Params) : Obj := ⟨.none, none, (cf (top 101) "joined_fields" "joined_fields" 0 .none .none .none .none none .none .none 0), #[]⟩
noncomputable def o601 (P : Params) : Obj := ⟨.type "code", none, (.fields #[.str "joined_fields" 1178, .str "joined_fields" 1179, .str "/claim/cut.py" 1180, .int 466 0, .int 3 0, .int 0 0, .int 0 0, .int 3 0, .ref 598, .bool true, .int 374 0, .ref 599, .none, .none, .none, .ref 600, .int 1181 0, .int 466 0, .str "/claim/cut.py" 1182]), #[]⟩
noncomputable def o602 (P : Params) : Obj := ⟨.type "function", none, (cf (top 101) "joined_fields" "joined_fields" 3 .none .none .none (.str "evertreads.fields" 1135) none (.ref 601) .none 0), #[]⟩
noncomputable def o603 (P : Params) : Obj := ⟨.type "tuple", none, (.seq #[] 0), #[]⟩
noncomputable def o604 (P : Params) : Obj := ⟨.none, none, (.fields #[]), #[]⟩
noncomputable def o605 (P : Params) : Obj := ⟨.none, none, (cf (top 102) "endless_field" "endless_field" 0 .none .none .none .none none .none .none 0), #[]⟩
noncomputable def o606 (P : Params) : Obj := ⟨.type "code", none, (.fields #[.str "endless_field" 1184, .str "endless_field" 1185, .str "/claim/cut.py" 1186, .int 474 0, .int 1 0, .int 0 0, .int 0 0, .int 3 0, .ref 603, .bool true, .int 374 0, .ref 604, .none, .none, .none, .ref 605, .int 1187 0, .int 474 0, .str "/claim/cut.py" 1188]), #[]⟩
noncomputable def o607 (P : Params) : Obj := ⟨.type "function", none, (cf (top 102) "endless_field" "endless_field" 3 .none .none .none (.str "evertreads.fields" 1135) none (.ref 606) .none 0), #[]⟩
noncomputable def o608 (P : Params) : Obj := ⟨.type "tuple", none, (.seq #[] 0), #[]⟩
noncomputable def o609 (P : Params) : Obj := ⟨.none, none, (.fields #[]), #[]⟩
noncomputable def o610 (P : Params) : Obj := ⟨.none, none, (cf (top 103) "told_by_tracks" "told_by_tracks" 0 .none .none .none .none none .none .none 0), #[]⟩
noncomputable def o611 (P : Params) : Obj := ⟨.type "code", none, (.fields #[.str "told_by_tracks" 1190, .str "told_by_tracks" 1191, .str "/claim/cut.py" 1192, .int 477 0, .int 1 0, .int 0 0, .int 0 0, .int 3 0, .ref 608, .bool true, .int 374 0, .ref 609, .none, .none, .none, .ref 610, .int 1193 0, .int 477 0, .str "/claim/cut.py" 1194]), #[]⟩
noncomputable def o612 (P : Params) : Obj := ⟨.type "function", none, (cf (top 103) "told_by_tracks" "told_by_tracks" 3 .none .none .none (.str "evertreads.fields" 1135) none (.ref 611) .none 0), #[]⟩
noncomputable def o613 (P : Params) : Obj := ⟨.type "tuple", none, (.seq #[] 0), #[]⟩
noncomputable def o614 (P : Params) : Obj := ⟨.none, none, (.fields #[]), #[]⟩
noncomputable def o615 (P : Params) : Obj := ⟨.none, none, (cf (top 104) "many_in_field" "many_in_field" 0 .none .none .none .none none .none .none 0), #[]⟩
noncomputable def o616 (P : Params) : Obj := ⟨.type "code", none, (.fields #[.str "many_in_field" 1196, .str "many_in_field" 1197, .str "/claim/cut.py" 1198, .int 486 0, .int 1 0, .int 0 0, .int 0 0, .int 3 0, .ref 613, .bool true, .int 374 0, .ref 614, .none, .none, .none, .ref 615, .int 1199 0, .int 486 0, .str "/claim/cut.py" 1200]), #[]⟩
noncomputable def o617 (P : Params) : Obj := ⟨.type "function", none, (cf (top 104) "many_in_field" "many_in_field" 3 .none .none .none (.str "evertreads.fields" 1135) none (.ref 616) .none 0), #[]⟩
noncomputable def o618 (P : Params) : Obj := ⟨.type "tuple", none, (.seq #[] 0), #[]⟩
noncomputable def o619 (P : Params) : Obj := ⟨.none, none, (.fields #[]), #[]⟩
noncomputable def o620 (P : Params) : Obj := ⟨.none, none, (cf (top 105) "any_in_field" "any_in_field" 0 .none .none .none .none none .none .none 0), #[]⟩
noncomputable def o621 (P : Params) : Obj := ⟨.type "code", none, (.fields #[.str "any_in_field" 1202, .str "any_in_field" 1203, .str "/claim/cut.py" 1204, .int 490 0, .int 1 0, .int 0 0, .int 0 0, .int 3 0, .ref 618, .bool true, .int 374 0, .ref 619, .none, .none, .none, .ref 620, .int 1205 0, .int 490 0, .str "/claim/cut.py" 1206]), #[]⟩
noncomputable def o622 (P : Params) : Obj := ⟨.type "function", none, (cf (top 105) "any_in_field" "any_in_field" 3 .none .none .none (.str "evertreads.fields" 1135) none (.ref 621) .none 0), #[]⟩
noncomputable def T107 (P : Params) : BT := (N (o0_1 P) (N (o1_1 P) (N (o3_4 P) (N (o7_1 P) (N (o15_1 P) (N (o31_1 P) (N (o63 P) (N (o127 P) (N (o255 P) (N (o511 P) L L) L) (N (o383 P) L L)) (N (o191 P) (N (o319 P) (N (o575 P) L L) L) (N (o447 P) L L))) (N (o95 P) (N (o159 P) (N (o287 P) (N (o543 P) L L) L) (N (o415 P) L L)) (N (o223 P) (N (o351 P) (N (o607 P) L L) L) (N (o479 P) L L)))) (N (o47 P) (N (o79 P) (N (o143 P) (N (o271 P) (N (o527 P) L L) L) (N (o399 P) L L)) (N (o207 P) (N (o335 P) (N (o591 P) L L) L) (N (o463 P) L L))) (N (o111 P) (N (o175 P) (N (o303 P) (N (o559 P) L L) L) (N (o431 P) L L)) (N (o239 P) (N (o367 P) L L) (N (o495 P) L L))))) (N (o23_1 P) (N (o39 P) (N (o71 P) (N (o135 P) (N (o263 P) (N (o519 P) L L) L) (N (o391 P) L L)) (N (o199 P) (N (o327 P) (N (o583 P) L L) L) (N (o455 P) L L))) (N (o103 P) (N (o167 P) (N (o295 P) (N (o551 P) L L) L) (N (o423 P) L L)) (N (o231 P) (N (o359 P) (N (o615 P) L L) L) (N (o487 P) L L)))) (N (o55 P) (N (o87 P) (N (o151 P) (N (o279 P) (N (o535 P) L L) L) (N (o407 P) L L)) (N (o215 P) (N (o343 P) (N (o599 P) L L) L) (N (o471 P) L L))) (N (o119 P) (N (o183 P) (N (o311 P) (N (o567 P) L L) L) (N (o439 P) L L)) (N (o247 P) (N (o375 P) L L) (N (o503 P) L L)))))) (N (o11_1 P) (N (o19_1 P) (N (o35_1 P) (N (o67 P) (N (o131 P) (N (o259 P) (N (o515 P) L L) L) (N (o387 P) L L)) (N (o195 P) (N (o323 P) (N (o579 P) L L) L) (N (o451 P) L L))) (N (o99 P) (N (o163 P) (N (o291 P) (N (o547 P) L L) L) (N (o419 P) L L)) (N (o227 P) (N (o355 P) (N (o611 P) L L) L) (N (o483 P) L L)))) (N (o51 P) (N (o83 P) (N (o147 P) (N (o275 P) (N (o531 P) L L) L) (N (o403 P) L L)) (N (o211 P) (N (o339 P) (N (o595 P) L L) L) (N (o467 P) L L))) (N (o115 P) (N (o179 P) (N (o307 P) (N (o563 P) L L) L) (N (o435 P) L L)) (N (o243 P) (N (o371 P) L L) (N (o499 P) L L))))) (N (o27_1 P) (N (o43 P) (N (o75 P) (N (o139 P) (N (o267 P) (N (o523 P) L L) L) (N (o395 P) L L)) (N (o203 P) (N (o331 P) (N (o587 P) L L) L) (N (o459 P) L L))) (N (o107 P) (N (o171 P) (N (o299 P) (N (o555 P) L L) L) (N (o427 P) L L)) (N (o235 P) (N (o363 P) (N (o619 P) L L) L) (N (o491 P) L L)))) (N (o59 P) (N (o91 P) (N (o155 P) (N (o283 P) (N (o539 P) L L) L) (N (o411 P) L L)) (N (o219 P) (N (o347 P) (N (o603 P) L L) L) (N (o475 P) L L))) (N (o123 P) (N (o187 P) (N (o315 P) (N (o571 P) L L) L) (N (o443 P) L L)) (N (o251 P) (N (o379 P) L L) (N (o507 P) L L))))))) (N (o5_1 P) (N (o9_1 P) (N (o17_1 P) (N (o33_1 P) (N (o65 P) (N (o129 P) (N (o257 P) (N (o513 P) L L) L) (N (o385 P) L L)) (N (o193 P) (N (o321 P) (N (o577 P) L L) L) (N (o449 P) L L))) (N (o97 P) (N (o161 P) (N (o289 P) (N (o545 P) L L) L) (N (o417 P) L L)) (N (o225 P) (N (o353 P) (N (o609 P) L L) L) (N (o481 P) L L)))) (N (o49 P) (N (o81 P) (N (o145 P) (N (o273 P) (N (o529 P) L L) L) (N (o401 P) L L)) (N (o209 P) (N (o337 P) (N (o593 P) L L) L) (N (o465 P) L L))) (N (o113 P) (N (o177 P) (N (o305 P) (N (o561 P) L L) L) (N (o433 P) L L)) (N (o241 P) (N (o369 P) L L) (N (o497 P) L L))))) (N (o25_1 P) (N (o41 P) (N (o73 P) (N (o137 P) (N (o265 P) (N (o521 P) L L) L) (N (o393 P) L L)) (N (o201 P) (N (o329 P) (N (o585 P) L L) L) (N (o457 P) L L))) (N (o105 P) (N (o169 P) (N (o297 P) (N (o553 P) L L) L) (N (o425 P) L L)) (N (o233 P) (N (o361 P) (N (o617 P) L L) L) (N (o489 P) L L)))) (N (o57 P) (N (o89 P) (N (o153 P) (N (o281 P) (N (o537 P) L L) L) (N (o409 P) L L)) (N (o217 P) (N (o345 P) (N (o601 P) L L) L) (N (o473 P) L L))) (N (o121 P) (N (o185 P) (N (o313 P) (N (o569 P) L L) L) (N (o441 P) L L)) (N (o249 P) (N (o377 P) L L) (N (o505 P) L L)))))) (N (o13_1 P) (N (o21_1 P) (N (o37_1 P) (N (o69 P) (N (o133 P) (N (o261 P) (N (o517 P) L L) L) (N (o389 P) L L)) (N (o197 P) (N (o325 P) (N (o581 P) L L) L) (N (o453 P) L L))) (N (o101_1 P) (N (o165 P) (N (o293 P) (N (o549 P) L L) L) (N (o421 P) L L)) (N (o229 P) (N (o357 P) (N (o613 P) L L) L) (N (o485 P) L L)))) (N (o53 P) (N (o85 P) (N (o149 P) (N (o277 P) (N (o533 P) L L) L) (N (o405 P) L L)) (N (o213 P) (N (o341 P) (N (o597 P) L L) L) (N (o469 P) L L))) (N (o117 P) (N (o181 P) (N (o309 P) (N (o565 P) L L) L) (N (o437 P) L L)) (N (o245 P) (N (o373 P) L L) (N (o501 P) L L))))) (N (o29_1 P) (N (o45 P) (N (o77 P) (N (o141 P) (N (o269 P) (N (o525 P) L L) L) (N (o397 P) L L)) (N (o205 P) (N (o333 P) (N (o589 P) L L) L) (N (o461 P) L L))) (N (o109 P) (N (o173 P) (N (o301 P) (N (o557 P) L L) L) (N (o429 P) L L)) (N (o237 P) (N (o365 P) (N (o621 P) L L) L) (N (o493 P) L L)))) (N (o61 P) (N (o93 P) (N (o157 P) (N (o285 P) (N (o541 P) L L) L) (N (o413 P) L L)) (N (o221 P) (N (o349 P) (N (o605 P) L L) L) (N (o477 P) L L))) (N (o125 P) (N (o189 P) (N (o317 P) (N (o573 P) L L) L) (N (o445 P) L L)) (N (o253 P) (N (o381 P) L L) (N (o509 P) L L)))))))) (N (o2_1 P) (N (o4_1 P) (N (o8 P) (N (o16_1 P) (N (o32_1 P) (N (o64 P) (N (o128 P) (N (o256 P) (N (o512 P) L L) L) (N (o384 P) L L)) (N (o192 P) (N (o320 P) (N (o576 P) L L) L) (N (o448 P) L L))) (N (o96 P) (N (o160 P) (N (o288 P) (N (o544 P) L L) L) (N (o416 P) L L)) (N (o224 P) (N (o352 P) (N (o608 P) L L) L) (N (o480 P) L L)))) (N (o48 P) (N (o80 P) (N (o144 P) (N (o272 P) (N (o528 P) L L) L) (N (o400 P) L L)) (N (o208 P) (N (o336 P) (N (o592 P) L L) L) (N (o464 P) L L))) (N (o112 P) (N (o176 P) (N (o304 P) (N (o560 P) L L) L) (N (o432 P) L L)) (N (o240 P) (N (o368 P) L L) (N (o496 P) L L))))) (N (o24_1 P) (N (o40_3 P) (N (o72 P) (N (o136 P) (N (o264 P) (N (o520 P) L L) L) (N (o392 P) L L)) (N (o200 P) (N (o328 P) (N (o584 P) L L) L) (N (o456 P) L L))) (N (o104 P) (N (o168 P) (N (o296 P) (N (o552 P) L L) L) (N (o424 P) L L)) (N (o232 P) (N (o360 P) (N (o616 P) L L) L) (N (o488 P) L L)))) (N (o56 P) (N (o88 P) (N (o152 P) (N (o280 P) (N (o536 P) L L) L) (N (o408 P) L L)) (N (o216 P) (N (o344 P) (N (o600 P) L L) L) (N (o472 P) L L))) (N (o120 P) (N (o184 P) (N (o312 P) (N (o568 P) L L) L) (N (o440 P) L L)) (N (o248 P) (N (o376 P) L L) (N (o504 P) L L)))))) (N (o12_1 P) (N (o20_1 P) (N (o36_1 P) (N (o68 P) (N (o132 P) (N (o260 P) (N (o516 P) L L) L) (N (o388 P) L L)) (N (o196 P) (N (o324 P) (N (o580 P) L L) L) (N (o452 P) L L))) (N (o100 P) (N (o164 P) (N (o292 P) (N (o548 P) L L) L) (N (o420 P) L L)) (N (o228 P) (N (o356 P) (N (o612 P) L L) L) (N (o484 P) L L)))) (N (o52 P) (N (o84 P) (N (o148 P) (N (o276 P) (N (o532 P) L L) L) (N (o404 P) L L)) (N (o212 P) (N (o340 P) (N (o596 P) L L) L) (N (o468 P) L L))) (N (o116 P) (N (o180 P) (N (o308 P) (N (o564 P) L L) L) (N (o436 P) L L)) (N (o244 P) (N (o372 P) L L) (N (o500 P) L L))))) (N (o28_1 P) (N (o44 P) (N (o76 P) (N (o140 P) (N (o268 P) (N (o524 P) L L) L) (N (o396 P) L L)) (N (o204 P) (N (o332 P) (N (o588 P) L L) L) (N (o460 P) L L))) (N (o108 P) (N (o172 P) (N (o300 P) (N (o556 P) L L) L) (N (o428 P) L L)) (N (o236 P) (N (o364 P) (N (o620 P) L L) L) (N (o492 P) L L)))) (N (o60 P) (N (o92 P) (N (o156 P) (N (o284 P) (N (o540 P) L L) L) (N (o412 P) L L)) (N (o220 P) (N (o348 P) (N (o604 P) L L) L) (N (o476 P) L L))) (N (o124 P) (N (o188 P) (N (o316 P) (N (o572 P) L L) L) (N (o444 P) L L)) (N (o252 P) (N (o380 P) L L) (N (o508 P) L L))))))) (N (o6 P) (N (o10_1 P) (N (o18_1 P) (N (o34_1 P) (N (o66 P) (N (o130 P) (N (o258 P) (N (o514 P) L L) L) (N (o386 P) L L)) (N (o194 P) (N (o322 P) (N (o578 P) L L) L) (N (o450 P) L L))) (N (o98 P) (N (o162 P) (N (o290 P) (N (o546 P) L L) L) (N (o418 P) L L)) (N (o226 P) (N (o354 P) (N (o610 P) L L) L) (N (o482 P) L L)))) (N (o50 P) (N (o82 P) (N (o146 P) (N (o274 P) (N (o530 P) L L) L) (N (o402 P) L L)) (N (o210 P) (N (o338 P) (N (o594 P) L L) L) (N (o466 P) L L))) (N (o114 P) (N (o178 P) (N (o306 P) (N (o562 P) L L) L) (N (o434 P) L L)) (N (o242 P) (N (o370 P) L L) (N (o498 P) L L))))) (N (o26_1 P) (N (o42 P) (N (o74 P) (N (o138 P) (N (o266 P) (N (o522 P) L L) L) (N (o394 P) L L)) (N (o202 P) (N (o330 P) (N (o586 P) L L) L) (N (o458 P) L L))) (N (o106 P) (N (o170 P) (N (o298 P) (N (o554 P) L L) L) (N (o426 P) L L)) (N (o234 P) (N (o362 P) (N (o618 P) L L) L) (N (o490 P) L L)))) (N (o58 P) (N (o90 P) (N (o154 P) (N (o282 P) (N (o538 P) L L) L) (N (o410 P) L L)) (N (o218 P) (N (o346 P) (N (o602 P) L L) L) (N (o474 P) L L))) (N (o122 P) (N (o186 P) (N (o314 P) (N (o570 P) L L) L) (N (o442 P) L L)) (N (o250 P) (N (o378 P) L L) (N (o506 P) L L)))))) (N (o14_1 P) (N (o22_1 P) (N (o38_1 P) (N (o70 P) (N (o134 P) (N (o262 P) (N (o518 P) L L) L) (N (o390 P) L L)) (N (o198 P) (N (o326 P) (N (o582 P) L L) L) (N (o454 P) L L))) (N (o102 P) (N (o166 P) (N (o294 P) (N (o550 P) L L) L) (N (o422 P) L L)) (N (o230 P) (N (o358 P) (N (o614 P) L L) L) (N (o486 P) L L)))) (N (o54 P) (N (o86 P) (N (o150 P) (N (o278 P) (N (o534 P) L L) L) (N (o406 P) L L)) (N (o214 P) (N (o342 P) (N (o598 P) L L) L) (N (o470 P) L L))) (N (o118 P) (N (o182 P) (N (o310 P) (N (o566 P) L L) L) (N (o438 P) L L)) (N (o246 P) (N (o374 P) L L) (N (o502 P) L L))))) (N (o30 P) (N (o46 P) (N (o78 P) (N (o142 P) (N (o270 P) (N (o526 P) L L) L) (N (o398 P) L L)) (N (o206 P) (N (o334 P) (N (o590 P) L L) L) (N (o462 P) L L))) (N (o110 P) (N (o174 P) (N (o302 P) (N (o558 P) L L) L) (N (o430 P) L L)) (N (o238 P) (N (o366 P) (N (o622 P) L L) L) (N (o494 P) L L)))) (N (o62 P) (N (o94 P) (N (o158 P) (N (o286 P) (N (o542 P) L L) L) (N (o414 P) L L)) (N (o222 P) (N (o350 P) (N (o606 P) L L) L) (N (o478 P) L L))) (N (o126 P) (N (o190 P) (N (o318 P) (N (o574 P) L L) L) (N (o446 P) L L)) (N (o254 P) (N (o382 P) L L) (N (o510 P) L L)))))))))
noncomputable def S107 (w : World) (os : OsState) : SharedT := ⟨T107 w.params, 623, {}, #[], {}, 1212, os⟩
noncomputable def o3_5 (P : Params) : Obj := ⟨.type "dict", none, (.dict #[ce P "__name__" 165 (.str "evertreads.steps" 1334), ce P "__doc__" 166 .none, ce P "__package__" 167 .none, ce P "__loader__" 168 (.builtin "__main__.__loader__#opaque"), ce P "__spec__" 169 .none, ce P "__annotations__" 170 (.ref 6), ce P "__builtins__" 171 (.ref 4), ce P "__file__" 173 (.str "/claim/cut.py" 172), ce P "__cached__" 174 .none, ce P "gcd" 370 (.builtin "math.gcd"), ce P "lcm" 373 (.builtin "math.lcm"), ce P "_wall" 386 (.ref 49), ce P "MOST_ORDERS" 388 (.int 8 387), ce P "MOST_STEPS" 390 (.int 9 389), ce P "MOST_MOVE" 392 (.int 1000 391), ce P "GREATEST" 396 (.int 1000000000000000000000000000000 395), ce P "is_integer" 405 (.ref 56), ce P "is_within" 414 (.ref 63), ce P "is_pair" 421 (.ref 70), ce P "is_square" 428 (.ref 77), ce P "is_time" 435 (.ref 84), ce P "WrongValue" 462 (.ref 101), ce P "InvalidRow" 487 (.ref 121), ce P "InvalidSquare" 512 (.ref 140), ce P "InvalidWay" 537 (.ref 159), ce P "InvalidTime" 562 (.ref 178), ce P "InvalidParts" 587 (.ref 197), ce P "lane_of" 602 (.ref 206), ce P "square_in" 611 (.ref 213), ce P "lanes_trodden" 617 (.ref 218), ce P "slope_of" 628 (.ref 225), ce P "line_through" 641 (.ref 232), ce P "square_on" 653 (.ref 239), ce P "crossing" 672 (.ref 246), ce P "place" 685 (.ref 253), ce P "primes_of" 696 (.ref 260), ce P "common_multiple" 705 (.ref 267), ce P "inverse" 718 (.ref 274), ce P "repeated" 730 (.ref 281), ce P "window" 741 (.ref 288), ce P "least" 751 (.ref 295), ce P "full" 758 (.ref 302), ce P "ones" 765 (.ref 309), ce P "places" 771 (.ref 314), ce P "raised" 777 (.ref 319), ce P "BOTH" 780 (.ref 322), ce P "EITHER" 781 (.ref 325), ce P "FIRST" 782 (.ref 328), ce P "ONE" 783 (.ref 331), ce P "NEVER" 785 (.ref 333), ce P "MOST_TABLED" 787 (.int 360 786), ce P "plain" 795 (.ref 340), ce P "holds" 809 (.ref 347), ce P "told" 826 (.ref 354), ce P "common_period" 832 (.ref 359), ce P "tabled" 840 (.ref 366), ce P "answers" 849 (.ref 373), ce P "layers" 855 (.ref 378), ce P "joined" 861 (.ref 383), ce P "MOST_BITS" 865 (.int 65536 864), ce P "seen_along" 871 (.ref 388), ce P "gathered" 877 (.ref 393), ce P "taken" 888 (.ref 400), ce P "loosened" 894 (.ref 405), ce P "deciding" 904 (.ref 412), ce P "primes_in" 910 (.ref 417), ce P "shared_prime" 916 (.ref 422), ce P "leave_some" 922 (.ref 427), ce P "parted" 928 (.ref 432), ce P "left_in_bits" 934 (.ref 437), ce P "left_of" 940 (.ref 442), ce P "FEW_MARKS" 944 (.int 8 943), ce P "sides" 958 (.ref 449), ce P "meeting_point" 971 (.ref 456), ce P "followers" 977 (.ref 461), ce P "holds_any" 983 (.ref 466), ce P "cases" 1000 (.ref 473), ce P "seen_from" 1006 (.ref 478), ce P "many_in" 1021 (.ref 486), ce P "many_in_cases" 1035 (.ref 493), ce P "NOTHING" 1039 (.ref 498), ce P "MOST_WRITTEN" 1041 (.int 5040 1040), ce P "track_of" 1047 (.ref 503), ce P "rule_about" 1060 (.ref 510), ce P "simplified" 1066 (.ref 515), ce P "written_short" 1078 (.ref 522), ce P "rule_at" 1088 (.ref 529), ce P "on_track" 1096 (.ref 536), ce P "joined_tracks" 1102 (.ref 541), ce P "endless_track" 1110 (.ref 548), ce P "stretches" 1116 (.ref 553), ce P "many_on" 1122 (.ref 558), ce P "more_on" 1134 (.ref 565), ce P "laid" 1142 (.ref 570), ce P "slopes_of" 1148 (.ref 575), ce P "crossings" 1154 (.ref 580), ce P "tracks_over" 1160 (.ref 585), ce P "settled" 1166 (.ref 590), ce P "in_field" 1177 (.ref 597), ce P "joined_fields" 1183 (.ref 602), ce P "endless_field" 1189 (.ref 607), ce P "told_by_tracks" 1195 (.ref 612), ce P "many_in_field" 1201 (.ref 617), ce P "any_in_field" 1207 (.ref 622), ce P "MOST_PARTS" 1211 (.int 20 1210), ce P "Squares" 1311 (.ref 702), ce P "is_ray" 1317 (.ref 711), ce P "with_field" 1325 (.ref 718), ce P "of_parts" 1333 (.ref 725), ce P "WAYS" 1337 (.str "NESW" 1336)] 110), #[]⟩
noncomputable def o40_4 (P : Params) : Obj := ⟨.none, none, (.fields #[.int 2 0, .int 0 0, .ref 48, .int 10 0, .int 0 0, .ref 55, .int 12 0, .int 0 0, .ref 62, .int 14 0, .int 0 0, .ref 69, .int 16 0, .int 0 0, .ref 76, .int 18 0, .int 0 0, .ref 83, .int 21 0, .int 0 0, .ref 90, .int 25 0, .int 0 0, .ref 110, .int 29 0, .int 0 0, .ref 129, .int 33 0, .int 0 0, .ref 148, .int 37 0, .int 0 0, .ref 167, .int 41 0, .int 0 0, .ref 186, .int 46 0, .int 0 0, .ref 205, .int 55 0, .int 0 0, .ref 212, .int 57 0, .int 0 0, .ref 217, .int 64 0, .int 0 0, .ref 224, .int 69 0, .int 0 0, .ref 231, .int 74 0, .int 0 0, .ref 238, .int 77 0, .int 0 0, .ref 245, .int 84 0, .int 0 0, .ref 252, .int 94 0, .int 0 0, .ref 259, .int 106 0, .int 0 0, .ref 266, .int 111 0, .int 0 0, .ref 273, .int 120 0, .int 0 0, .ref 280, .int 126 0, .int 0 0, .ref 287, .int 129 0, .int 0 0, .ref 294, .int 137 0, .int 0 0, .ref 301, .int 139 0, .int 0 0, .ref 308, .int 141 0, .int 0 0, .ref 313, .int 143 0, .int 0 0, .ref 318, .int 152 0, .int 0 0, .ref 339, .int 157 0, .int 0 0, .ref 346, .int 163 0, .int 0 0, .ref 353, .int 170 0, .int 0 0, .ref 358, .int 172 0, .int 0 0, .ref 365, .int 179 0, .int 0 0, .ref 372, .int 183 0, .int 0 0, .ref 377, .int 196 0, .int 0 0, .ref 382, .int 210 0, .int 0 0, .ref 387, .int 216 0, .int 0 0, .ref 392, .int 222 0, .int 0 0, .ref 399, .int 227 0, .int 0 0, .ref 404, .int 235 0, .int 0 0, .ref 411, .int 243 0, .int 0 0, .ref 416, .int 245 0, .int 0 0, .ref 421, .int 250 0, .int 0 0, .ref 426, .int 264 0, .int 0 0, .ref 431, .int 276 0, .int 0 0, .ref 436, .int 281 0, .int 0 0, .ref 441, .int 295 0, .int 0 0, .ref 448, .int 301 0, .int 0 0, .ref 455, .int 308 0, .int 0 0, .ref 460, .int 321 0, .int 0 0, .ref 465, .int 340 0, .int 0 0, .ref 472, .int 354 0, .int 0 0, .ref 477, .int 358 0, .int 0 0, .ref 485, .int 370 0, .int 0 0, .ref 492, .int 383 0, .int 0 0, .ref 502, .int 386 0, .int 0 0, .ref 509, .int 396 0, .int 0 0, .ref 514, .int 400 0, .int 0 0, .ref 521, .int 408 0, .int 0 0, .ref 528, .int 411 0, .int 0 0, .ref 535, .int 413 0, .int 0 0, .ref 540, .int 418 0, .int 0 0, .ref 547, .int 421 0, .int 0 0, .ref 552, .int 424 0, .int 0 0, .ref 557, .int 426 0, .int 0 0, .ref 564, .int 436 0, .int 0 0, .ref 569, .int 448 0, .int 0 0, .ref 574, .int 450 0, .int 0 0, .ref 579, .int 453 0, .int 0 0, .ref 584, .int 456 0, .int 0 0, .ref 589, .int 461 0, .int 0 0, .ref 596, .int 466 0, .int 0 0, .ref 601, .int 474 0, .int 0 0, .ref 606, .int 477 0, .int 0 0, .ref 611, .int 486 0, .int 0 0, .ref 616, .int 490 0, .int 0 0, .ref 621, .int 498 0, .int 0 0, .ref 628, .int 537 0, .int 0 0, .ref 710, .int 543 0, .int 0 0, .ref 717, .int 547 0, .int 0 0, .ref 724]), #[]⟩
noncomputable def o623 (P : Params) : Obj := ⟨.type "tuple", none, (.seq #[] 0), #[]⟩
noncomputable def o624 (P : Params) : Obj := ⟨.type "builtin_function_or_method", none, (.fields #[.builtin "type.__prepare__", .type "type"]), #[]⟩
noncomputable def o625 (P : Params) : Obj := ⟨.type "dict", none, (.dict #[ce P "__module__" 1219 (.str "evertreads.squares" 1208), ce P "__qualname__" 1221 (.str "Squares" 1220), ce P "__firstlineno__" 1223 (.int 498 1222), ce P "__init__" 1229 (.ref 634), ce P "endless" 1237 (.ref 642), ce P "many" 1245 (.ref 650), ce P "near" 1254 (.ref 657), ce P "__contains__" 1262 (.ref 664), ce P "__and__" 1270 (.ref 671), ce P "__or__" 1278 (.ref 678), ce P "__sub__" 1286 (.ref 685), ce P "__eq__" 1294 (.ref 692), ce P "__bool__" 1301 (.ref 699), ce P "__static_attributes__" 1303 (.ref 700)] 14), #[]⟩
noncomputable def o626 (P : Params) : Obj := ⟨.type "tuple", none, (.seq #[] 0), #[]⟩
noncomputable def o627 (P : Params) : Obj := ⟨.none, none, (.fields #[.int 500 0, .int 4 0, .ref 633, .int 508 0, .int 4 0, .ref 640, .int 512 0, .int 4 0, .ref 648, .int 517 0, .int 4 0, .ref 656, .int 520 0, .int 4 0, .ref 663, .int 523 0, .int 4 0, .ref 670, .int 526 0, .int 4 0, .ref 677, .int 529 0, .int 4 0, .ref 684, .int 532 0, .int 4 0, .ref 691, .int 535 0, .int 4 0, .ref 698]), #[]⟩
noncomputable def o628 (P : Params) : Obj := ⟨.type "code", none, (.fields #[.str "Squares" 1214, .str "Squares" 1215, .str "/claim/cut.py" 1216, .int 498 0, .int 0 0, .int 0 0, .int 0 0, .int 0 0, .ref 626, .bool false, .int 374 0, .ref 627, .none, .none, .none, .none, .int 1217 0, .int 498 0, .str "/claim/cut.py" 1218]), #[]⟩
noncomputable def o629 (P : Params) : Obj := ⟨.type "frame", none, .plain, #[some (.ref 628), some (.ref 3), some (.ref 625), none, some (.str "evertreads.squares" 1208), none, some (.ref 0)]⟩
noncomputable def o630 (P : Params) : Obj := ⟨.type "tuple", none, (.seq #[] 0), #[]⟩
noncomputable def o631 (P : Params) : Obj := ⟨.none, none, (.fields #[]), #[]⟩
noncomputable def o632 (P : Params) : Obj := ⟨.none, none, (cf (inClass (top 108) 0) "__init__" "Squares.__init__" 0 .none .none .none .none none .none .none 0), #[]⟩
noncomputable def o633 (P : Params) : Obj := ⟨.type "code", none, (.fields #[.str "__init__" 1224, .str "Squares.__init__" 1225, .str "/claim/cut.py" 1226, .int 500 0, .int 1 0, .int 0 0, .int 0 0, .int 7 0, .ref 630, .bool true, .int 374 0, .ref 631, .none, .none, .none, .ref 632, .int 1227 0, .int 500 0, .str "/claim/cut.py" 1228]), #[]⟩
noncomputable def o634 (P : Params) : Obj := ⟨.type "function", none, (cf (inClass (top 108) 0) "__init__" "Squares.__init__" 3 .none .none .none (.str "evertreads.squares" 1208) none (.ref 633) .none 0), #[]⟩
noncomputable def o635 (P : Params) : Obj := ⟨.type "tuple", none, (.seq #[] 0), #[]⟩
noncomputable def o636 (P : Params) : Obj := ⟨.none, none, (.fields #[]), #[]⟩
noncomputable def o637 (P : Params) : Obj := ⟨.type "tuple", none, (.seq #[.str "self" 1233] 0), #[]⟩
noncomputable def o638 (P : Params) : Obj := ⟨.type "tuple", none, (.seq #[] 0), #[]⟩
noncomputable def o639 (P : Params) : Obj := ⟨.none, none, (cf (inClass (top 108) 1) "endless" "Squares.endless" 0 .none .none .none .none none .none .none 0), #[]⟩
noncomputable def o640 (P : Params) : Obj := ⟨.type "code", none, (.fields #[.str "endless" 1230, .str "Squares.endless" 1231, .str "/claim/cut.py" 1232, .int 507 0, .int 1 0, .int 0 0, .int 0 0, .int 3 0, .ref 635, .bool true, .int 374 0, .ref 636, .none, .ref 637, .ref 638, .ref 639, .int 1234 0, .int 507 0, .str "/claim/cut.py" 1235]), #[]⟩
noncomputable def o641 (P : Params) : Obj := ⟨.type "function", none, (cf (inClass (top 108) 1) "endless" "Squares.endless" 3 .none .none .none (.str "evertreads.squares" 1208) none (.ref 640) .none 0), #[]⟩
noncomputable def o642 (P : Params) : Obj := ⟨.type "property", none, (.fields #[.ref 641, .none, .none, .none, .str "endless" 1237, .bool false]), #[]⟩
noncomputable def o643 (P : Params) : Obj := ⟨.type "tuple", none, (.seq #[] 0), #[]⟩
noncomputable def o644 (P : Params) : Obj := ⟨.none, none, (.fields #[]), #[]⟩
noncomputable def o645 (P : Params) : Obj := ⟨.type "tuple", none, (.seq #[.str "self" 1241] 0), #[]⟩
noncomputable def o646 (P : Params) : Obj := ⟨.type "tuple", none, (.seq #[] 0), #[]⟩
noncomputable def o647 (P : Params) : Obj := ⟨.none, none, (cf (inClass (top 108) 2) "many" "Squares.many" 0 .none .none .none .none none .none .none 0), #[]⟩
noncomputable def o648 (P : Params) : Obj := ⟨.type "code", none, (.fields #[.str "many" 1238, .str "Squares.many" 1239, .str "/claim/cut.py" 1240, .int 511 0, .int 1 0, .int 0 0, .int 0 0, .int 3 0, .ref 643, .bool true, .int 374 0, .ref 644, .none, .ref 645, .ref 646, .ref 647, .int 1242 0, .int 511 0, .str "/claim/cut.py" 1243]), #[]⟩
noncomputable def o649 (P : Params) : Obj := ⟨.type "function", none, (cf (inClass (top 108) 2) "many" "Squares.many" 3 .none .none .none (.str "evertreads.squares" 1208) none (.ref 648) .none 0), #[]⟩
noncomputable def o650 (P : Params) : Obj := ⟨.type "property", none, (.fields #[.ref 649, .none, .none, .none, .str "many" 1245, .bool false]), #[]⟩
noncomputable def o651 (P : Params) : Obj := ⟨.type "tuple", none, (.seq #[] 0), #[]⟩
noncomputable def o652 (P : Params) : Obj := ⟨.none, none, (.fields #[]), #[]⟩
noncomputable def o653 (P : Params) : Obj := ⟨.type "tuple", none, (.seq #[.str "self" 1249, .str "square" 1250, .str "reach" 1251] 0), #[]⟩
noncomputable def o654 (P : Params) : Obj := ⟨.type "tuple", none, (.seq #[] 0), #[]⟩
noncomputable def o655 (P : Params) : Obj := ⟨.none, none, (cf (inClass (top 108) 3) "near" "Squares.near" 0 .none .none .none .none none .none .none 0), #[]⟩
noncomputable def o656 (P : Params) : Obj := ⟨.type "code", none, (.fields #[.str "near" 1246, .str "Squares.near" 1247, .str "/claim/cut.py" 1248, .int 517 0, .int 3 0, .int 0 0, .int 0 0, .int 3 0, .ref 651, .bool true, .int 374 0, .ref 652, .none, .ref 653, .ref 654, .ref 655, .int 1252 0, .int 517 0, .str "/claim/cut.py" 1253]), #[]⟩
noncomputable def o657 (P : Params) : Obj := ⟨.type "function", none, (cf (inClass (top 108) 3) "near" "Squares.near" 3 .none .none .none (.str "evertreads.squares" 1208) none (.ref 656) .none 0), #[]⟩
noncomputable def o658 (P : Params) : Obj := ⟨.type "tuple", none, (.seq #[] 0), #[]⟩
noncomputable def o659 (P : Params) : Obj := ⟨.none, none, (.fields #[]), #[]⟩
noncomputable def o660 (P : Params) : Obj := ⟨.type "tuple", none, (.seq #[.str "self" 1258, .str "square" 1259] 0), #[]⟩
noncomputable def o661 (P : Params) : Obj := ⟨.type "tuple", none, (.seq #[] 0), #[]⟩
noncomputable def o662 (P : Params) : Obj := ⟨.none, none, (cf (inClass (top 108) 4) "__contains__" "Squares.__contains__" 0 .none .none .none .none none .none .none 0), #[]⟩
noncomputable def o663 (P : Params) : Obj := ⟨.type "code", none, (.fields #[.str "__contains__" 1255, .str "Squares.__contains__" 1256, .str "/claim/cut.py" 1257, .int 520 0, .int 2 0, .int 0 0, .int 0 0, .int 3 0, .ref 658, .bool true, .int 374 0, .ref 659, .none, .ref 660, .ref 661, .ref 662, .int 1260 0, .int 520 0, .str "/claim/cut.py" 1261]), #[]⟩
noncomputable def o664 (P : Params) : Obj := ⟨.type "function", none, (cf (inClass (top 108) 4) "__contains__" "Squares.__contains__" 3 .none .none .none (.str "evertreads.squares" 1208) none (.ref 663) .none 0), #[]⟩
noncomputable def o665 (P : Params) : Obj := ⟨.type "tuple", none, (.seq #[] 0), #[]⟩
noncomputable def o666 (P : Params) : Obj := ⟨.none, none, (.fields #[]), #[]⟩
noncomputable def o667 (P : Params) : Obj := ⟨.type "tuple", none, (.seq #[.str "self" 1266, .str "other" 1267] 0), #[]⟩
noncomputable def o668 (P : Params) : Obj := ⟨.type "tuple", none, (.seq #[] 0), #[]⟩
noncomputable def o669 (P : Params) : Obj := ⟨.none, none, (cf (inClass (top 108) 5) "__and__" "Squares.__and__" 0 .none .none .none .none none .none .none 0), #[]⟩
noncomputable def o670 (P : Params) : Obj := ⟨.type "code", none, (.fields #[.str "__and__" 1263, .str "Squares.__and__" 1264, .str "/claim/cut.py" 1265, .int 523 0, .int 2 0, .int 0 0, .int 0 0, .int 3 0, .ref 665, .bool true, .int 374 0, .ref 666, .none, .ref 667, .ref 668, .ref 669, .int 1268 0, .int 523 0, .str "/claim/cut.py" 1269]), #[]⟩
noncomputable def o671 (P : Params) : Obj := ⟨.type "function", none, (cf (inClass (top 108) 5) "__and__" "Squares.__and__" 3 .none .none .none (.str "evertreads.squares" 1208) none (.ref 670) .none 0), #[]⟩
noncomputable def o672 (P : Params) : Obj := ⟨.type "tuple", none, (.seq #[] 0), #[]⟩
noncomputable def o673 (P : Params) : Obj := ⟨.none, none, (.fields #[]), #[]⟩
noncomputable def o674 (P : Params) : Obj := ⟨.type "tuple", none, (.seq #[.str "self" 1274, .str "other" 1275] 0), #[]⟩
noncomputable def o675 (P : Params) : Obj := ⟨.type "tuple", none, (.seq #[] 0), #[]⟩
noncomputable def o676 (P : Params) : Obj := ⟨.none, none, (cf (inClass (top 108) 6) "__or__" "Squares.__or__" 0 .none .none .none .none none .none .none 0), #[]⟩
noncomputable def o677 (P : Params) : Obj := ⟨.type "code", none, (.fields #[.str "__or__" 1271, .str "Squares.__or__" 1272, .str "/claim/cut.py" 1273, .int 526 0, .int 2 0, .int 0 0, .int 0 0, .int 3 0, .ref 672, .bool true, .int 374 0, .ref 673, .none, .ref 674, .ref 675, .ref 676, .int 1276 0, .int 526 0, .str "/claim/cut.py" 1277]), #[]⟩
noncomputable def o678 (P : Params) : Obj := ⟨.type "function", none, (cf (inClass (top 108) 6) "__or__" "Squares.__or__" 3 .none .none .none (.str "evertreads.squares" 1208) none (.ref 677) .none 0), #[]⟩
noncomputable def o679 (P : Params) : Obj := ⟨.type "tuple", none, (.seq #[] 0), #[]⟩
noncomputable def o680 (P : Params) : Obj := ⟨.none, none, (.fields #[]), #[]⟩
noncomputable def o681 (P : Params) : Obj := ⟨.type "tuple", none, (.seq #[.str "self" 1282, .str "other" 1283] 0), #[]⟩
noncomputable def o682 (P : Params) : Obj := ⟨.type "tuple", none, (.seq #[] 0), #[]⟩
noncomputable def o683 (P : Params) : Obj := ⟨.none, none, (cf (inClass (top 108) 7) "__sub__" "Squares.__sub__" 0 .none .none .none .none none .none .none 0), #[]⟩
noncomputable def o684 (P : Params) : Obj := ⟨.type "code", none, (.fields #[.str "__sub__" 1279, .str "Squares.__sub__" 1280, .str "/claim/cut.py" 1281, .int 529 0, .int 2 0, .int 0 0, .int 0 0, .int 3 0, .ref 679, .bool true, .int 374 0, .ref 680, .none, .ref 681, .ref 682, .ref 683, .int 1284 0, .int 529 0, .str "/claim/cut.py" 1285]), #[]⟩
noncomputable def o685 (P : Params) : Obj := ⟨.type "function", none, (cf (inClass (top 108) 7) "__sub__" "Squares.__sub__" 3 .none .none .none (.str "evertreads.squares" 1208) none (.ref 684) .none 0), #[]⟩
noncomputable def o686 (P : Params) : Obj := ⟨.type "tuple", none, (.seq #[] 0), #[]⟩
noncomputable def o687 (P : Params) : Obj := ⟨.none, none, (.fields #[]), #[]⟩
noncomputable def o688 (P : Params) : Obj := ⟨.type "tuple", none, (.seq #[.str "self" 1290, .str "other" 1291] 0), #[]⟩
noncomputable def o689 (P : Params) : Obj := ⟨.type "tuple", none, (.seq #[] 0), #[]⟩
noncomputable def o690 (P : Params) : Obj := ⟨.none, none, (cf (inClass (top 108) 8) "__eq__" "Squares.__eq__" 0 .none .none .none .none none .none .none 0), #[]⟩
noncomputable def o691 (P : Params) : Obj := ⟨.type "code", none, (.fields #[.str "__eq__" 1287, .str "Squares.__eq__" 1288, .str "/claim/cut.py" 1289, .int 532 0, .int 2 0, .int 0 0, .int 0 0, .int 3 0, .ref 686, .bool true, .int 374 0, .ref 687, .none, .ref 688, .ref 689, .ref 690, .int 1292 0, .int 532 0, .str "/claim/cut.py" 1293]), #[]⟩
noncomputable def o692 (P : Params) : Obj := ⟨.type "function", none, (cf (inClass (top 108) 8) "__eq__" "Squares.__eq__" 3 .none .none .none (.str "evertreads.squares" 1208) none (.ref 691) .none 0), #[]⟩
noncomputable def o693 (P : Params) : Obj := ⟨.type "tuple", none, (.seq #[] 0), #[]⟩
noncomputable def o694 (P : Params) : Obj := ⟨.none, none, (.fields #[]), #[]⟩
noncomputable def o695 (P : Params) : Obj := ⟨.type "tuple", none, (.seq #[.str "self" 1298] 0), #[]⟩
noncomputable def o696 (P : Params) : Obj := ⟨.type "tuple", none, (.seq #[] 0), #[]⟩
noncomputable def o697 (P : Params) : Obj := ⟨.none, none, (cf (inClass (top 108) 9) "__bool__" "Squares.__bool__" 0 .none .none .none .none none .none .none 0), #[]⟩
noncomputable def o698 (P : Params) : Obj := ⟨.type "code", none, (.fields #[.str "__bool__" 1295, .str "Squares.__bool__" 1296, .str "/claim/cut.py" 1297, .int 535 0, .int 1 0, .int 0 0, .int 0 0, .int 3 0, .ref 693, .bool true, .int 374 0, .ref 694, .none, .ref 695, .ref 696, .ref 697, .int 1299 0, .int 535 0, .str "/claim/cut.py" 1300]), #[]⟩
noncomputable def o699 (P : Params) : Obj := ⟨.type "function", none, (cf (inClass (top 108) 9) "__bool__" "Squares.__bool__" 3 .none .none .none (.str "evertreads.squares" 1208) none (.ref 698) .none 0), #[]⟩
noncomputable def o700 (P : Params) : Obj := ⟨.type "tuple", none, (.seq #[.str "_field" 1302] 0), #[]⟩
noncomputable def o701 (P : Params) : Obj := ⟨.type "dict", none, (.dict #[ce P "__module__" 1219 (.str "evertreads.squares" 1208), ce P "__firstlineno__" 1223 (.int 498 1222), ce P "__init__" 1229 (.ref 634), ce P "endless" 1237 (.ref 642), ce P "many" 1245 (.ref 650), ce P "near" 1254 (.ref 657), ce P "__contains__" 1262 (.ref 664), ce P "__and__" 1270 (.ref 671), ce P "__or__" 1278 (.ref 678), ce P "__sub__" 1286 (.ref 685), ce P "__eq__" 1294 (.ref 692), ce P "__bool__" 1301 (.ref 699), ce P "__static_attributes__" 1303 (.ref 700), ce P "__dict__" 1305 (.ref 703), ce P "__weakref__" 1307 (.ref 704), ce P "__doc__" 1308 .none, ce P "__hash__" 1309 .none] 5), #[]⟩
noncomputable def o702 (P : Params) : Obj := ⟨.type "type", none, (.cls ⟨"Squares", [.type "object"], [.ref 702, .type "object"], 701, "Squares", true, [], [], false, none, false⟩), #[none, none, some (.str "Squares" 1212), some (.str "Squares" 1220), some (.builtin "object.__new__"), some (.bool true)]⟩
noncomputable def o703 (P : Params) : Obj := ⟨.type "getset_descriptor", none, (.fields #[.str "__dict__" 1304, .ref 702, .builtin "function.__dict__", .builtin "function.__dict__#set"]), #[]⟩
noncomputable def o704 (P : Params) : Obj := ⟨.type "getset_descriptor", none, (.fields #[.str "__weakref__" 1306, .ref 702, .builtin "ExceptionGroup.__weakref__", .none]), #[]⟩
noncomputable def o705 (P : Params) : Obj := ⟨.type "super", none, (.fields #[.ref 702, .ref 702, .ref 702]), #[]⟩
noncomputable def o706 (P : Params) : Obj := ⟨.type "builtin_function_or_method", none, (.fields #[.builtin "object.__init_subclass__", .ref 702]), #[]⟩
noncomputable def o707 (P : Params) : Obj := ⟨.type "tuple", none, (.seq #[] 0), #[]⟩
noncomputable def o708 (P : Params) : Obj := ⟨.none, none, (.fields #[]), #[]⟩
noncomputable def o709 (P : Params) : Obj := ⟨.none, none, (cf (top 109) "is_ray" "is_ray" 0 .none .none .none .none none .none .none 0), #[]⟩
noncomputable def o710 (P : Params) : Obj := ⟨.type "code", none, (.fields #[.str "is_ray" 1312, .str "is_ray" 1313, .str "/claim/cut.py" 1314, .int 537 0, .int 1 0, .int 0 0, .int 0 0, .int 3 0, .ref 707, .bool true, .int 374 0, .ref 708, .none, .none, .none, .ref 709, .int 1315 0, .int 537 0, .str "/claim/cut.py" 1316]), #[]⟩
noncomputable def o711 (P : Params) : Obj := ⟨.type "function", none, (cf (top 109) "is_ray" "is_ray" 3 .none .none .none (.str "evertreads.squares" 1208) none (.ref 710) .none 0), #[]⟩
noncomputable def o712 (P : Params) : Obj := ⟨.type "tuple", none, (.seq #[] 0), #[]⟩
noncomputable def o713 (P : Params) : Obj := ⟨.none, none, (.fields #[]), #[]⟩
noncomputable def o714 (P : Params) : Obj := ⟨.type "tuple", none, (.seq #[.str "field" 1321, .str "made" 1322] 0), #[]⟩
noncomputable def o715 (P : Params) : Obj := ⟨.type "tuple", none, (.seq #[] 0), #[]⟩
noncomputable def o716 (P : Params) : Obj := ⟨.none, none, (cf (top 110) "with_field" "with_field" 0 .none .none .none .none none .none .none 0), #[]⟩
noncomputable def o717 (P : Params) : Obj := ⟨.type "code", none, (.fields #[.str "with_field" 1318, .str "with_field" 1319, .str "/claim/cut.py" 1320, .int 543 0, .int 1 0, .int 0 0, .int 0 0, .int 3 0, .ref 712, .bool true, .int 374 0, .ref 713, .none, .ref 714, .ref 715, .ref 716, .int 1323 0, .int 543 0, .str "/claim/cut.py" 1324]), #[]⟩
noncomputable def o718 (P : Params) : Obj := ⟨.type "function", none, (cf (top 110) "with_field" "with_field" 3 .none .none .none (.str "evertreads.squares" 1208) none (.ref 717) .none 0), #[]⟩
noncomputable def o719 (P : Params) : Obj := ⟨.type "tuple", none, (.seq #[] 0), #[]⟩
noncomputable def o720 (P : Params) : Obj := ⟨.none, none, (.fields #[]), #[]⟩
noncomputable def o721 (P : Params) : Obj := ⟨.type "tuple", none, (.seq #[.str "points" 1329, .str "rays" 1330] 0), #[]⟩
noncomputable def o722 (P : Params) : Obj := ⟨.type "tuple", none, (.seq #[] 0), #[]⟩
noncomputable def o723 (P : Params) : Obj := ⟨.none, none, (cf (top 111) "of_parts" "of_parts" 0 .none .none .none .none none .none .none 0), #[]⟩
noncomputable def o724 (P : Params) : Obj := ⟨.type "code", none, (.fields #[.str "of_parts" 1326, .str "of_parts" 1327, .str "/claim/cut.py" 1328, .int 547 0, .int 2 0, .int 0 0, .int 0 0, .int 3 0, .ref 719, .bool true, .int 374 0, .ref 720, .none, .ref 721, .ref 722, .ref 723, .int 1331 0, .int 547 0, .str "/claim/cut.py" 1332]), #[]⟩
noncomputable def o725 (P : Params) : Obj := ⟨.type "function", none, (cf (top 111) "of_parts" "of_parts" 3 .none .none .none (.str "evertreads.squares" 1208) none (.ref 724) .none 0), #[]⟩
noncomputable def T113 (P : Params) : BT := (N (o0_1 P) (N (o1_1 P) (N (o3_5 P) (N (o7_1 P) (N (o15_1 P) (N (o31_1 P) (N (o63 P) (N (o127 P) (N (o255 P) (N (o511 P) L L) L) (N (o383 P) (N (o639 P) L L) L)) (N (o191 P) (N (o319 P) (N (o575 P) L L) L) (N (o447 P) (N (o703 P) L L) L))) (N (o95 P) (N (o159 P) (N (o287 P) (N (o543 P) L L) L) (N (o415 P) (N (o671 P) L L) L)) (N (o223 P) (N (o351 P) (N (o607 P) L L) L) (N (o479 P) L L)))) (N (o47 P) (N (o79 P) (N (o143 P) (N (o271 P) (N (o527 P) L L) L) (N (o399 P) (N (o655 P) L L) L)) (N (o207 P) (N (o335 P) (N (o591 P) L L) L) (N (o463 P) (N (o719 P) L L) L))) (N (o111 P) (N (o175 P) (N (o303 P) (N (o559 P) L L) L) (N (o431 P) (N (o687 P) L L) L)) (N (o239 P) (N (o367 P) (N (o623 P) L L) L) (N (o495 P) L L))))) (N (o23_1 P) (N (o39 P) (N (o71 P) (N (o135 P) (N (o263 P) (N (o519 P) L L) L) (N (o391 P) (N (o647 P) L L) L)) (N (o199 P) (N (o327 P) (N (o583 P) L L) L) (N (o455 P) (N (o711 P) L L) L))) (N (o103 P) (N (o167 P) (N (o295 P) (N (o551 P) L L) L) (N (o423 P) (N (o679 P) L L) L)) (N (o231 P) (N (o359 P) (N (o615 P) L L) L) (N (o487 P) L L)))) (N (o55 P) (N (o87 P) (N (o151 P) (N (o279 P) (N (o535 P) L L) L) (N (o407 P) (N (o663 P) L L) L)) (N (o215 P) (N (o343 P) (N (o599 P) L L) L) (N (o471 P) L L))) (N (o119 P) (N (o183 P) (N (o311 P) (N (o567 P) L L) L) (N (o439 P) (N (o695 P) L L) L)) (N (o247 P) (N (o375 P) (N (o631 P) L L) L) (N (o503 P) L L)))))) (N (o11_1 P) (N (o19_1 P) (N (o35_1 P) (N (o67 P) (N (o131 P) (N (o259 P) (N (o515 P) L L) L) (N (o387 P) (N (o643 P) L L) L)) (N (o195 P) (N (o323 P) (N (o579 P) L L) L) (N (o451 P) (N (o707 P) L L) L))) (N (o99 P) (N (o163 P) (N (o291 P) (N (o547 P) L L) L) (N (o419 P) (N (o675 P) L L) L)) (N (o227 P) (N (o355 P) (N (o611 P) L L) L) (N (o483 P) L L)))) (N (o51 P) (N (o83 P) (N (o147 P) (N (o275 P) (N (o531 P) L L) L) (N (o403 P) (N (o659 P) L L) L)) (N (o211 P) (N (o339 P) (N (o595 P) L L) L) (N (o467 P) (N (o723 P) L L) L))) (N (o115 P) (N (o179 P) (N (o307 P) (N (o563 P) L L) L) (N (o435 P) (N (o691 P) L L) L)) (N (o243 P) (N (o371 P) (N (o627 P) L L) L) (N (o499 P) L L))))) (N (o27_1 P) (N (o43 P) (N (o75 P) (N (o139 P) (N (o267 P) (N (o523 P) L L) L) (N (o395 P) (N (o651 P) L L) L)) (N (o203 P) (N (o331 P) (N (o587 P) L L) L) (N (o459 P) (N (o715 P) L L) L))) (N (o107 P) (N (o171 P) (N (o299 P) (N (o555 P) L L) L) (N (o427 P) (N (o683 P) L L) L)) (N (o235 P) (N (o363 P) (N (o619 P) L L) L) (N (o491 P) L L)))) (N (o59 P) (N (o91 P) (N (o155 P) (N (o283 P) (N (o539 P) L L) L) (N (o411 P) (N (o667 P) L L) L)) (N (o219 P) (N (o347 P) (N (o603 P) L L) L) (N (o475 P) L L))) (N (o123 P) (N (o187 P) (N (o315 P) (N (o571 P) L L) L) (N (o443 P) (N (o699 P) L L) L)) (N (o251 P) (N (o379 P) (N (o635 P) L L) L) (N (o507 P) L L))))))) (N (o5_1 P) (N (o9_1 P) (N (o17_1 P) (N (o33_1 P) (N (o65 P) (N (o129 P) (N (o257 P) (N (o513 P) L L) L) (N (o385 P) (N (o641 P) L L) L)) (N (o193 P) (N (o321 P) (N (o577 P) L L) L) (N (o449 P) (N (o705 P) L L) L))) (N (o97 P) (N (o161 P) (N (o289 P) (N (o545 P) L L) L) (N (o417 P) (N (o673 P) L L) L)) (N (o225 P) (N (o353 P) (N (o609 P) L L) L) (N (o481 P) L L)))) (N (o49 P) (N (o81 P) (N (o145 P) (N (o273 P) (N (o529 P) L L) L) (N (o401 P) (N (o657 P) L L) L)) (N (o209 P) (N (o337 P) (N (o593 P) L L) L) (N (o465 P) (N (o721 P) L L) L))) (N (o113 P) (N (o177 P) (N (o305 P) (N (o561 P) L L) L) (N (o433 P) (N (o689 P) L L) L)) (N (o241 P) (N (o369 P) (N (o625 P) L L) L) (N (o497 P) L L))))) (N (o25_1 P) (N (o41 P) (N (o73 P) (N (o137 P) (N (o265 P) (N (o521 P) L L) L) (N (o393 P) (N (o649 P) L L) L)) (N (o201 P) (N (o329 P) (N (o585 P) L L) L) (N (o457 P) (N (o713 P) L L) L))) (N (o105 P) (N (o169 P) (N (o297 P) (N (o553 P) L L) L) (N (o425 P) (N (o681 P) L L) L)) (N (o233 P) (N (o361 P) (N (o617 P) L L) L) (N (o489 P) L L)))) (N (o57 P) (N (o89 P) (N (o153 P) (N (o281 P) (N (o537 P) L L) L) (N (o409 P) (N (o665 P) L L) L)) (N (o217 P) (N (o345 P) (N (o601 P) L L) L) (N (o473 P) L L))) (N (o121 P) (N (o185 P) (N (o313 P) (N (o569 P) L L) L) (N (o441 P) (N (o697 P) L L) L)) (N (o249 P) (N (o377 P) (N (o633 P) L L) L) (N (o505 P) L L)))))) (N (o13_1 P) (N (o21_1 P) (N (o37_1 P) (N (o69 P) (N (o133 P) (N (o261 P) (N (o517 P) L L) L) (N (o389 P) (N (o645 P) L L) L)) (N (o197 P) (N (o325 P) (N (o581 P) L L) L) (N (o453 P) (N (o709 P) L L) L))) (N (o101_1 P) (N (o165 P) (N (o293 P) (N (o549 P) L L) L) (N (o421 P) (N (o677 P) L L) L)) (N (o229 P) (N (o357 P) (N (o613 P) L L) L) (N (o485 P) L L)))) (N (o53 P) (N (o85 P) (N (o149 P) (N (o277 P) (N (o533 P) L L) L) (N (o405 P) (N (o661 P) L L) L)) (N (o213 P) (N (o341 P) (N (o597 P) L L) L) (N (o469 P) (N (o725 P) L L) L))) (N (o117 P) (N (o181 P) (N (o309 P) (N (o565 P) L L) L) (N (o437 P) (N (o693 P) L L) L)) (N (o245 P) (N (o373 P) (N (o629 P) L L) L) (N (o501 P) L L))))) (N (o29_1 P) (N (o45 P) (N (o77 P) (N (o141 P) (N (o269 P) (N (o525 P) L L) L) (N (o397 P) (N (o653 P) L L) L)) (N (o205 P) (N (o333 P) (N (o589 P) L L) L) (N (o461 P) (N (o717 P) L L) L))) (N (o109 P) (N (o173 P) (N (o301 P) (N (o557 P) L L) L) (N (o429 P) (N (o685 P) L L) L)) (N (o237 P) (N (o365 P) (N (o621 P) L L) L) (N (o493 P) L L)))) (N (o61 P) (N (o93 P) (N (o157 P) (N (o285 P) (N (o541 P) L L) L) (N (o413 P) (N (o669 P) L L) L)) (N (o221 P) (N (o349 P) (N (o605 P) L L) L) (N (o477 P) L L))) (N (o125 P) (N (o189 P) (N (o317 P) (N (o573 P) L L) L) (N (o445 P) (N (o701 P) L L) L)) (N (o253 P) (N (o381 P) (N (o637 P) L L) L) (N (o509 P) L L)))))))) (N (o2_1 P) (N (o4_1 P) (N (o8 P) (N (o16_1 P) (N (o32_1 P) (N (o64 P) (N (o128 P) (N (o256 P) (N (o512 P) L L) L) (N (o384 P) (N (o640 P) L L) L)) (N (o192 P) (N (o320 P) (N (o576 P) L L) L) (N (o448 P) (N (o704 P) L L) L))) (N (o96 P) (N (o160 P) (N (o288 P) (N (o544 P) L L) L) (N (o416 P) (N (o672 P) L L) L)) (N (o224 P) (N (o352 P) (N (o608 P) L L) L) (N (o480 P) L L)))) (N (o48 P) (N (o80 P) (N (o144 P) (N (o272 P) (N (o528 P) L L) L) (N (o400 P) (N (o656 P) L L) L)) (N (o208 P) (N (o336 P) (N (o592 P) L L) L) (N (o464 P) (N (o720 P) L L) L))) (N (o112 P) (N (o176 P) (N (o304 P) (N (o560 P) L L) L) (N (o432 P) (N (o688 P) L L) L)) (N (o240 P) (N (o368 P) (N (o624 P) L L) L) (N (o496 P) L L))))) (N (o24_1 P) (N (o40_4 P) (N (o72 P) (N (o136 P) (N (o264 P) (N (o520 P) L L) L) (N (o392 P) (N (o648 P) L L) L)) (N (o200 P) (N (o328 P) (N (o584 P) L L) L) (N (o456 P) (N (o712 P) L L) L))) (N (o104 P) (N (o168 P) (N (o296 P) (N (o552 P) L L) L) (N (o424 P) (N (o680 P) L L) L)) (N (o232 P) (N (o360 P) (N (o616 P) L L) L) (N (o488 P) L L)))) (N (o56 P) (N (o88 P) (N (o152 P) (N (o280 P) (N (o536 P) L L) L) (N (o408 P) (N (o664 P) L L) L)) (N (o216 P) (N (o344 P) (N (o600 P) L L) L) (N (o472 P) L L))) (N (o120 P) (N (o184 P) (N (o312 P) (N (o568 P) L L) L) (N (o440 P) (N (o696 P) L L) L)) (N (o248 P) (N (o376 P) (N (o632 P) L L) L) (N (o504 P) L L)))))) (N (o12_1 P) (N (o20_1 P) (N (o36_1 P) (N (o68 P) (N (o132 P) (N (o260 P) (N (o516 P) L L) L) (N (o388 P) (N (o644 P) L L) L)) (N (o196 P) (N (o324 P) (N (o580 P) L L) L) (N (o452 P) (N (o708 P) L L) L))) (N (o100 P) (N (o164 P) (N (o292 P) (N (o548 P) L L) L) (N (o420 P) (N (o676 P) L L) L)) (N (o228 P) (N (o356 P) (N (o612 P) L L) L) (N (o484 P) L L)))) (N (o52 P) (N (o84 P) (N (o148 P) (N (o276 P) (N (o532 P) L L) L) (N (o404 P) (N (o660 P) L L) L)) (N (o212 P) (N (o340 P) (N (o596 P) L L) L) (N (o468 P) (N (o724 P) L L) L))) (N (o116 P) (N (o180 P) (N (o308 P) (N (o564 P) L L) L) (N (o436 P) (N (o692 P) L L) L)) (N (o244 P) (N (o372 P) (N (o628 P) L L) L) (N (o500 P) L L))))) (N (o28_1 P) (N (o44 P) (N (o76 P) (N (o140 P) (N (o268 P) (N (o524 P) L L) L) (N (o396 P) (N (o652 P) L L) L)) (N (o204 P) (N (o332 P) (N (o588 P) L L) L) (N (o460 P) (N (o716 P) L L) L))) (N (o108 P) (N (o172 P) (N (o300 P) (N (o556 P) L L) L) (N (o428 P) (N (o684 P) L L) L)) (N (o236 P) (N (o364 P) (N (o620 P) L L) L) (N (o492 P) L L)))) (N (o60 P) (N (o92 P) (N (o156 P) (N (o284 P) (N (o540 P) L L) L) (N (o412 P) (N (o668 P) L L) L)) (N (o220 P) (N (o348 P) (N (o604 P) L L) L) (N (o476 P) L L))) (N (o124 P) (N (o188 P) (N (o316 P) (N (o572 P) L L) L) (N (o444 P) (N (o700 P) L L) L)) (N (o252 P) (N (o380 P) (N (o636 P) L L) L) (N (o508 P) L L))))))) (N (o6 P) (N (o10_1 P) (N (o18_1 P) (N (o34_1 P) (N (o66 P) (N (o130 P) (N (o258 P) (N (o514 P) L L) L) (N (o386 P) (N (o642 P) L L) L)) (N (o194 P) (N (o322 P) (N (o578 P) L L) L) (N (o450 P) (N (o706 P) L L) L))) (N (o98 P) (N (o162 P) (N (o290 P) (N (o546 P) L L) L) (N (o418 P) (N (o674 P) L L) L)) (N (o226 P) (N (o354 P) (N (o610 P) L L) L) (N (o482 P) L L)))) (N (o50 P) (N (o82 P) (N (o146 P) (N (o274 P) (N (o530 P) L L) L) (N (o402 P) (N (o658 P) L L) L)) (N (o210 P) (N (o338 P) (N (o594 P) L L) L) (N (o466 P) (N (o722 P) L L) L))) (N (o114 P) (N (o178 P) (N (o306 P) (N (o562 P) L L) L) (N (o434 P) (N (o690 P) L L) L)) (N (o242 P) (N (o370 P) (N (o626 P) L L) L) (N (o498 P) L L))))) (N (o26_1 P) (N (o42 P) (N (o74 P) (N (o138 P) (N (o266 P) (N (o522 P) L L) L) (N (o394 P) (N (o650 P) L L) L)) (N (o202 P) (N (o330 P) (N (o586 P) L L) L) (N (o458 P) (N (o714 P) L L) L))) (N (o106 P) (N (o170 P) (N (o298 P) (N (o554 P) L L) L) (N (o426 P) (N (o682 P) L L) L)) (N (o234 P) (N (o362 P) (N (o618 P) L L) L) (N (o490 P) L L)))) (N (o58 P) (N (o90 P) (N (o154 P) (N (o282 P) (N (o538 P) L L) L) (N (o410 P) (N (o666 P) L L) L)) (N (o218 P) (N (o346 P) (N (o602 P) L L) L) (N (o474 P) L L))) (N (o122 P) (N (o186 P) (N (o314 P) (N (o570 P) L L) L) (N (o442 P) (N (o698 P) L L) L)) (N (o250 P) (N (o378 P) (N (o634 P) L L) L) (N (o506 P) L L)))))) (N (o14_1 P) (N (o22_1 P) (N (o38_1 P) (N (o70 P) (N (o134 P) (N (o262 P) (N (o518 P) L L) L) (N (o390 P) (N (o646 P) L L) L)) (N (o198 P) (N (o326 P) (N (o582 P) L L) L) (N (o454 P) (N (o710 P) L L) L))) (N (o102 P) (N (o166 P) (N (o294 P) (N (o550 P) L L) L) (N (o422 P) (N (o678 P) L L) L)) (N (o230 P) (N (o358 P) (N (o614 P) L L) L) (N (o486 P) L L)))) (N (o54 P) (N (o86 P) (N (o150 P) (N (o278 P) (N (o534 P) L L) L) (N (o406 P) (N (o662 P) L L) L)) (N (o214 P) (N (o342 P) (N (o598 P) L L) L) (N (o470 P) L L))) (N (o118 P) (N (o182 P) (N (o310 P) (N (o566 P) L L) L) (N (o438 P) (N (o694 P) L L) L)) (N (o246 P) (N (o374 P) (N (o630 P) L L) L) (N (o502 P) L L))))) (N (o30 P) (N (o46 P) (N (o78 P) (N (o142 P) (N (o270 P) (N (o526 P) L L) L) (N (o398 P) (N (o654 P) L L) L)) (N (o206 P) (N (o334 P) (N (o590 P) L L) L) (N (o462 P) (N (o718 P) L L) L))) (N (o110 P) (N (o174 P) (N (o302 P) (N (o558 P) L L) L) (N (o430 P) (N (o686 P) L L) L)) (N (o238 P) (N (o366 P) (N (o622 P) L L) L) (N (o494 P) L L)))) (N (o62 P) (N (o94 P) (N (o158 P) (N (o286 P) (N (o542 P) L L) L) (N (o414 P) (N (o670 P) L L) L)) (N (o222 P) (N (o350 P) (N (o606 P) L L) L) (N (o478 P) L L))) (N (o126 P) (N (o190 P) (N (o318 P) (N (o574 P) L L) L) (N (o446 P) (N (o702 P) L L) L)) (N (o254 P) (N (o382 P) (N (o638 P) L L) L) (N (o510 P) L L)))))))))
noncomputable def S113 (w : World) (os : OsState) : SharedT := ⟨T113 w.params, 726, {}, #[], {}, 1338, os⟩
noncomputable def o3_6 (P : Params) : Obj := ⟨.type "dict", none, (.dict #[ce P "__name__" 165 (.str "evertreads.steps" 1334), ce P "__doc__" 166 .none, ce P "__package__" 167 .none, ce P "__loader__" 168 (.builtin "__main__.__loader__#opaque"), ce P "__spec__" 169 .none, ce P "__annotations__" 170 (.ref 6), ce P "__builtins__" 171 (.ref 4), ce P "__file__" 173 (.str "/claim/cut.py" 172), ce P "__cached__" 174 .none, ce P "gcd" 370 (.builtin "math.gcd"), ce P "lcm" 373 (.builtin "math.lcm"), ce P "_wall" 386 (.ref 49), ce P "MOST_ORDERS" 388 (.int 8 387), ce P "MOST_STEPS" 390 (.int 9 389), ce P "MOST_MOVE" 392 (.int 1000 391), ce P "GREATEST" 396 (.int 1000000000000000000000000000000 395), ce P "is_integer" 405 (.ref 56), ce P "is_within" 414 (.ref 63), ce P "is_pair" 421 (.ref 70), ce P "is_square" 428 (.ref 77), ce P "is_time" 435 (.ref 84), ce P "WrongValue" 462 (.ref 101), ce P "InvalidRow" 487 (.ref 121), ce P "InvalidSquare" 512 (.ref 140), ce P "InvalidWay" 537 (.ref 159), ce P "InvalidTime" 562 (.ref 178), ce P "InvalidParts" 587 (.ref 197), ce P "lane_of" 602 (.ref 206), ce P "square_in" 611 (.ref 213), ce P "lanes_trodden" 617 (.ref 218), ce P "slope_of" 628 (.ref 225), ce P "line_through" 641 (.ref 232), ce P "square_on" 653 (.ref 239), ce P "crossing" 672 (.ref 246), ce P "place" 685 (.ref 253), ce P "primes_of" 696 (.ref 260), ce P "common_multiple" 705 (.ref 267), ce P "inverse" 718 (.ref 274), ce P "repeated" 730 (.ref 281), ce P "window" 741 (.ref 288), ce P "least" 751 (.ref 295), ce P "full" 758 (.ref 302), ce P "ones" 765 (.ref 309), ce P "places" 771 (.ref 314), ce P "raised" 777 (.ref 319), ce P "BOTH" 780 (.ref 322), ce P "EITHER" 781 (.ref 325), ce P "FIRST" 782 (.ref 328), ce P "ONE" 783 (.ref 331), ce P "NEVER" 785 (.ref 333), ce P "MOST_TABLED" 787 (.int 360 786), ce P "plain" 795 (.ref 340), ce P "holds" 809 (.ref 347), ce P "told" 826 (.ref 354), ce P "common_period" 832 (.ref 359), ce P "tabled" 840 (.ref 366), ce P "answers" 849 (.ref 373), ce P "layers" 855 (.ref 378), ce P "joined" 861 (.ref 383), ce P "MOST_BITS" 865 (.int 65536 864), ce P "seen_along" 871 (.ref 388), ce P "gathered" 877 (.ref 393), ce P "taken" 888 (.ref 400), ce P "loosened" 894 (.ref 405), ce P "deciding" 904 (.ref 412), ce P "primes_in" 910 (.ref 417), ce P "shared_prime" 916 (.ref 422), ce P "leave_some" 922 (.ref 427), ce P "parted" 928 (.ref 432), ce P "left_in_bits" 934 (.ref 437), ce P "left_of" 940 (.ref 442), ce P "FEW_MARKS" 944 (.int 8 943), ce P "sides" 958 (.ref 449), ce P "meeting_point" 971 (.ref 456), ce P "followers" 977 (.ref 461), ce P "holds_any" 983 (.ref 466), ce P "cases" 1000 (.ref 473), ce P "seen_from" 1006 (.ref 478), ce P "many_in" 1021 (.ref 486), ce P "many_in_cases" 1035 (.ref 493), ce P "NOTHING" 1039 (.ref 498), ce P "MOST_WRITTEN" 1041 (.int 5040 1040), ce P "track_of" 1047 (.ref 503), ce P "rule_about" 1060 (.ref 510), ce P "simplified" 1066 (.ref 515), ce P "written_short" 1078 (.ref 522), ce P "rule_at" 1088 (.ref 529), ce P "on_track" 1096 (.ref 536), ce P "joined_tracks" 1102 (.ref 541), ce P "endless_track" 1110 (.ref 548), ce P "stretches" 1116 (.ref 553), ce P "many_on" 1122 (.ref 558), ce P "more_on" 1134 (.ref 565), ce P "laid" 1142 (.ref 570), ce P "slopes_of" 1148 (.ref 575), ce P "crossings" 1154 (.ref 580), ce P "tracks_over" 1160 (.ref 585), ce P "settled" 1166 (.ref 590), ce P "in_field" 1177 (.ref 597), ce P "joined_fields" 1183 (.ref 602), ce P "endless_field" 1189 (.ref 607), ce P "told_by_tracks" 1195 (.ref 612), ce P "many_in_field" 1201 (.ref 617), ce P "any_in_field" 1207 (.ref 622), ce P "MOST_PARTS" 1211 (.int 20 1210), ce P "Squares" 1311 (.ref 702), ce P "is_ray" 1317 (.ref 711), ce P "with_field" 1325 (.ref 718), ce P "of_parts" 1333 (.ref 725), ce P "WAYS" 1337 (.str "NESW" 1336), ce P "MOVES" 1356 (.ref 726), ce P "TURNS" 1366 (.ref 731)] 112), #[]⟩
noncomputable def o726 (P : Params) : Obj := ⟨.type "dict", none, (.dict #[ce P "N" 1338 (.ref 727), ce P "E" 1341 (.ref 728), ce P "S" 1344 (.ref 729), ce P "W" 1348 (.ref 730)] 4), #[]⟩
noncomputable def o727 (P : Params) : Obj := ⟨.type "tuple", none, (.seq #[.int 0 1339, .int 1 1340] 0), #[]⟩
noncomputable def o728 (P : Params) : Obj := ⟨.type "tuple", none, (.seq #[.int 1 1342, .int 0 1343] 0), #[]⟩
noncomputable def o729 (P : Params) : Obj := ⟨.type "tuple", none, (.seq #[.int 0 1345, .int (-1) 1347] 0), #[]⟩
noncomputable def o730 (P : Params) : Obj := ⟨.type "tuple", none, (.seq #[.int (-1) 1350, .int 0 1351] 0), #[]⟩
noncomputable def o731 (P : Params) : Obj := ⟨.type "dict", none, (.dict #[ce P "R" 1357 (.int 1 1358), ce P "B" 1359 (.int 2 1360), ce P "L" 1361 (.int 3 1362)] 3), #[]⟩
noncomputable def T115 (P : Params) : BT := (N (o0_1 P) (N (o1_1 P) (N (o3_6 P) (N (o7_1 P) (N (o15_1 P) (N (o31_1 P) (N (o63 P) (N (o127 P) (N (o255 P) (N (o511 P) L L) L) (N (o383 P) (N (o639 P) L L) L)) (N (o191 P) (N (o319 P) (N (o575 P) L L) L) (N (o447 P) (N (o703 P) L L) L))) (N (o95 P) (N (o159 P) (N (o287 P) (N (o543 P) L L) L) (N (o415 P) (N (o671 P) L L) L)) (N (o223 P) (N (o351 P) (N (o607 P) L L) L) (N (o479 P) L L)))) (N (o47 P) (N (o79 P) (N (o143 P) (N (o271 P) (N (o527 P) L L) L) (N (o399 P) (N (o655 P) L L) L)) (N (o207 P) (N (o335 P) (N (o591 P) L L) L) (N (o463 P) (N (o719 P) L L) L))) (N (o111 P) (N (o175 P) (N (o303 P) (N (o559 P) L L) L) (N (o431 P) (N (o687 P) L L) L)) (N (o239 P) (N (o367 P) (N (o623 P) L L) L) (N (o495 P) L L))))) (N (o23_1 P) (N (o39 P) (N (o71 P) (N (o135 P) (N (o263 P) (N (o519 P) L L) L) (N (o391 P) (N (o647 P) L L) L)) (N (o199 P) (N (o327 P) (N (o583 P) L L) L) (N (o455 P) (N (o711 P) L L) L))) (N (o103 P) (N (o167 P) (N (o295 P) (N (o551 P) L L) L) (N (o423 P) (N (o679 P) L L) L)) (N (o231 P) (N (o359 P) (N (o615 P) L L) L) (N (o487 P) L L)))) (N (o55 P) (N (o87 P) (N (o151 P) (N (o279 P) (N (o535 P) L L) L) (N (o407 P) (N (o663 P) L L) L)) (N (o215 P) (N (o343 P) (N (o599 P) L L) L) (N (o471 P) (N (o727 P) L L) L))) (N (o119 P) (N (o183 P) (N (o311 P) (N (o567 P) L L) L) (N (o439 P) (N (o695 P) L L) L)) (N (o247 P) (N (o375 P) (N (o631 P) L L) L) (N (o503 P) L L)))))) (N (o11_1 P) (N (o19_1 P) (N (o35_1 P) (N (o67 P) (N (o131 P) (N (o259 P) (N (o515 P) L L) L) (N (o387 P) (N (o643 P) L L) L)) (N (o195 P) (N (o323 P) (N (o579 P) L L) L) (N (o451 P) (N (o707 P) L L) L))) (N (o99 P) (N (o163 P) (N (o291 P) (N (o547 P) L L) L) (N (o419 P) (N (o675 P) L L) L)) (N (o227 P) (N (o355 P) (N (o611 P) L L) L) (N (o483 P) L L)))) (N (o51 P) (N (o83 P) (N (o147 P) (N (o275 P) (N (o531 P) L L) L) (N (o403 P) (N (o659 P) L L) L)) (N (o211 P) (N (o339 P) (N (o595 P) L L) L) (N (o467 P) (N (o723 P) L L) L))) (N (o115 P) (N (o179 P) (N (o307 P) (N (o563 P) L L) L) (N (o435 P) (N (o691 P) L L) L)) (N (o243 P) (N (o371 P) (N (o627 P) L L) L) (N (o499 P) L L))))) (N (o27_1 P) (N (o43 P) (N (o75 P) (N (o139 P) (N (o267 P) (N (o523 P) L L) L) (N (o395 P) (N (o651 P) L L) L)) (N (o203 P) (N (o331 P) (N (o587 P) L L) L) (N (o459 P) (N (o715 P) L L) L))) (N (o107 P) (N (o171 P) (N (o299 P) (N (o555 P) L L) L) (N (o427 P) (N (o683 P) L L) L)) (N (o235 P) (N (o363 P) (N (o619 P) L L) L) (N (o491 P) L L)))) (N (o59 P) (N (o91 P) (N (o155 P) (N (o283 P) (N (o539 P) L L) L) (N (o411 P) (N (o667 P) L L) L)) (N (o219 P) (N (o347 P) (N (o603 P) L L) L) (N (o475 P) (N (o731 P) L L) L))) (N (o123 P) (N (o187 P) (N (o315 P) (N (o571 P) L L) L) (N (o443 P) (N (o699 P) L L) L)) (N (o251 P) (N (o379 P) (N (o635 P) L L) L) (N (o507 P) L L))))))) (N (o5_1 P) (N (o9_1 P) (N (o17_1 P) (N (o33_1 P) (N (o65 P) (N (o129 P) (N (o257 P) (N (o513 P) L L) L) (N (o385 P) (N (o641 P) L L) L)) (N (o193 P) (N (o321 P) (N (o577 P) L L) L) (N (o449 P) (N (o705 P) L L) L))) (N (o97 P) (N (o161 P) (N (o289 P) (N (o545 P) L L) L) (N (o417 P) (N (o673 P) L L) L)) (N (o225 P) (N (o353 P) (N (o609 P) L L) L) (N (o481 P) L L)))) (N (o49 P) (N (o81 P) (N (o145 P) (N (o273 P) (N (o529 P) L L) L) (N (o401 P) (N (o657 P) L L) L)) (N (o209 P) (N (o337 P) (N (o593 P) L L) L) (N (o465 P) (N (o721 P) L L) L))) (N (o113 P) (N (o177 P) (N (o305 P) (N (o561 P) L L) L) (N (o433 P) (N (o689 P) L L) L)) (N (o241 P) (N (o369 P) (N (o625 P) L L) L) (N (o497 P) L L))))) (N (o25_1 P) (N (o41 P) (N (o73 P) (N (o137 P) (N (o265 P) (N (o521 P) L L) L) (N (o393 P) (N (o649 P) L L) L)) (N (o201 P) (N (o329 P) (N (o585 P) L L) L) (N (o457 P) (N (o713 P) L L) L))) (N (o105 P) (N (o169 P) (N (o297 P) (N (o553 P) L L) L) (N (o425 P) (N (o681 P) L L) L)) (N (o233 P) (N (o361 P) (N (o617 P) L L) L) (N (o489 P) L L)))) (N (o57 P) (N (o89 P) (N (o153 P) (N (o281 P) (N (o537 P) L L) L) (N (o409 P) (N (o665 P) L L) L)) (N (o217 P) (N (o345 P) (N (o601 P) L L) L) (N (o473 P) (N (o729 P) L L) L))) (N (o121 P) (N (o185 P) (N (o313 P) (N (o569 P) L L) L) (N (o441 P) (N (o697 P) L L) L)) (N (o249 P) (N (o377 P) (N (o633 P) L L) L) (N (o505 P) L L)))))) (N (o13_1 P) (N (o21_1 P) (N (o37_1 P) (N (o69 P) (N (o133 P) (N (o261 P) (N (o517 P) L L) L) (N (o389 P) (N (o645 P) L L) L)) (N (o197 P) (N (o325 P) (N (o581 P) L L) L) (N (o453 P) (N (o709 P) L L) L))) (N (o101_1 P) (N (o165 P) (N (o293 P) (N (o549 P) L L) L) (N (o421 P) (N (o677 P) L L) L)) (N (o229 P) (N (o357 P) (N (o613 P) L L) L) (N (o485 P) L L)))) (N (o53 P) (N (o85 P) (N (o149 P) (N (o277 P) (N (o533 P) L L) L) (N (o405 P) (N (o661 P) L L) L)) (N (o213 P) (N (o341 P) (N (o597 P) L L) L) (N (o469 P) (N (o725 P) L L) L))) (N (o117 P) (N (o181 P) (N (o309 P) (N (o565 P) L L) L) (N (o437 P) (N (o693 P) L L) L)) (N (o245 P) (N (o373 P) (N (o629 P) L L) L) (N (o501 P) L L))))) (N (o29_1 P) (N (o45 P) (N (o77 P) (N (o141 P) (N (o269 P) (N (o525 P) L L) L) (N (o397 P) (N (o653 P) L L) L)) (N (o205 P) (N (o333 P) (N (o589 P) L L) L) (N (o461 P) (N (o717 P) L L) L))) (N (o109 P) (N (o173 P) (N (o301 P) (N (o557 P) L L) L) (N (o429 P) (N (o685 P) L L) L)) (N (o237 P) (N (o365 P) (N (o621 P) L L) L) (N (o493 P) L L)))) (N (o61 P) (N (o93 P) (N (o157 P) (N (o285 P) (N (o541 P) L L) L) (N (o413 P) (N (o669 P) L L) L)) (N (o221 P) (N (o349 P) (N (o605 P) L L) L) (N (o477 P) L L))) (N (o125 P) (N (o189 P) (N (o317 P) (N (o573 P) L L) L) (N (o445 P) (N (o701 P) L L) L)) (N (o253 P) (N (o381 P) (N (o637 P) L L) L) (N (o509 P) L L)))))))) (N (o2_1 P) (N (o4_1 P) (N (o8 P) (N (o16_1 P) (N (o32_1 P) (N (o64 P) (N (o128 P) (N (o256 P) (N (o512 P) L L) L) (N (o384 P) (N (o640 P) L L) L)) (N (o192 P) (N (o320 P) (N (o576 P) L L) L) (N (o448 P) (N (o704 P) L L) L))) (N (o96 P) (N (o160 P) (N (o288 P) (N (o544 P) L L) L) (N (o416 P) (N (o672 P) L L) L)) (N (o224 P) (N (o352 P) (N (o608 P) L L) L) (N (o480 P) L L)))) (N (o48 P) (N (o80 P) (N (o144 P) (N (o272 P) (N (o528 P) L L) L) (N (o400 P) (N (o656 P) L L) L)) (N (o208 P) (N (o336 P) (N (o592 P) L L) L) (N (o464 P) (N (o720 P) L L) L))) (N (o112 P) (N (o176 P) (N (o304 P) (N (o560 P) L L) L) (N (o432 P) (N (o688 P) L L) L)) (N (o240 P) (N (o368 P) (N (o624 P) L L) L) (N (o496 P) L L))))) (N (o24_1 P) (N (o40_4 P) (N (o72 P) (N (o136 P) (N (o264 P) (N (o520 P) L L) L) (N (o392 P) (N (o648 P) L L) L)) (N (o200 P) (N (o328 P) (N (o584 P) L L) L) (N (o456 P) (N (o712 P) L L) L))) (N (o104 P) (N (o168 P) (N (o296 P) (N (o552 P) L L) L) (N (o424 P) (N (o680 P) L L) L)) (N (o232 P) (N (o360 P) (N (o616 P) L L) L) (N (o488 P) L L)))) (N (o56 P) (N (o88 P) (N (o152 P) (N (o280 P) (N (o536 P) L L) L) (N (o408 P) (N (o664 P) L L) L)) (N (o216 P) (N (o344 P) (N (o600 P) L L) L) (N (o472 P) (N (o728 P) L L) L))) (N (o120 P) (N (o184 P) (N (o312 P) (N (o568 P) L L) L) (N (o440 P) (N (o696 P) L L) L)) (N (o248 P) (N (o376 P) (N (o632 P) L L) L) (N (o504 P) L L)))))) (N (o12_1 P) (N (o20_1 P) (N (o36_1 P) (N (o68 P) (N (o132 P) (N (o260 P) (N (o516 P) L L) L) (N (o388 P) (N (o644 P) L L) L)) (N (o196 P) (N (o324 P) (N (o580 P) L L) L) (N (o452 P) (N (o708 P) L L) L))) (N (o100 P) (N (o164 P) (N (o292 P) (N (o548 P) L L) L) (N (o420 P) (N (o676 P) L L) L)) (N (o228 P) (N (o356 P) (N (o612 P) L L) L) (N (o484 P) L L)))) (N (o52 P) (N (o84 P) (N (o148 P) (N (o276 P) (N (o532 P) L L) L) (N (o404 P) (N (o660 P) L L) L)) (N (o212 P) (N (o340 P) (N (o596 P) L L) L) (N (o468 P) (N (o724 P) L L) L))) (N (o116 P) (N (o180 P) (N (o308 P) (N (o564 P) L L) L) (N (o436 P) (N (o692 P) L L) L)) (N (o244 P) (N (o372 P) (N (o628 P) L L) L) (N (o500 P) L L))))) (N (o28_1 P) (N (o44 P) (N (o76 P) (N (o140 P) (N (o268 P) (N (o524 P) L L) L) (N (o396 P) (N (o652 P) L L) L)) (N (o204 P) (N (o332 P) (N (o588 P) L L) L) (N (o460 P) (N (o716 P) L L) L))) (N (o108 P) (N (o172 P) (N (o300 P) (N (o556 P) L L) L) (N (o428 P) (N (o684 P) L L) L)) (N (o236 P) (N (o364 P) (N (o620 P) L L) L) (N (o492 P) L L)))) (N (o60 P) (N (o92 P) (N (o156 P) (N (o284 P) (N (o540 P) L L) L) (N (o412 P) (N (o668 P) L L) L)) (N (o220 P) (N (o348 P) (N (o604 P) L L) L) (N (o476 P) L L))) (N (o124 P) (N (o188 P) (N (o316 P) (N (o572 P) L L) L) (N (o444 P) (N (o700 P) L L) L)) (N (o252 P) (N (o380 P) (N (o636 P) L L) L) (N (o508 P) L L))))))) (N (o6 P) (N (o10_1 P) (N (o18_1 P) (N (o34_1 P) (N (o66 P) (N (o130 P) (N (o258 P) (N (o514 P) L L) L) (N (o386 P) (N (o642 P) L L) L)) (N (o194 P) (N (o322 P) (N (o578 P) L L) L) (N (o450 P) (N (o706 P) L L) L))) (N (o98 P) (N (o162 P) (N (o290 P) (N (o546 P) L L) L) (N (o418 P) (N (o674 P) L L) L)) (N (o226 P) (N (o354 P) (N (o610 P) L L) L) (N (o482 P) L L)))) (N (o50 P) (N (o82 P) (N (o146 P) (N (o274 P) (N (o530 P) L L) L) (N (o402 P) (N (o658 P) L L) L)) (N (o210 P) (N (o338 P) (N (o594 P) L L) L) (N (o466 P) (N (o722 P) L L) L))) (N (o114 P) (N (o178 P) (N (o306 P) (N (o562 P) L L) L) (N (o434 P) (N (o690 P) L L) L)) (N (o242 P) (N (o370 P) (N (o626 P) L L) L) (N (o498 P) L L))))) (N (o26_1 P) (N (o42 P) (N (o74 P) (N (o138 P) (N (o266 P) (N (o522 P) L L) L) (N (o394 P) (N (o650 P) L L) L)) (N (o202 P) (N (o330 P) (N (o586 P) L L) L) (N (o458 P) (N (o714 P) L L) L))) (N (o106 P) (N (o170 P) (N (o298 P) (N (o554 P) L L) L) (N (o426 P) (N (o682 P) L L) L)) (N (o234 P) (N (o362 P) (N (o618 P) L L) L) (N (o490 P) L L)))) (N (o58 P) (N (o90 P) (N (o154 P) (N (o282 P) (N (o538 P) L L) L) (N (o410 P) (N (o666 P) L L) L)) (N (o218 P) (N (o346 P) (N (o602 P) L L) L) (N (o474 P) (N (o730 P) L L) L))) (N (o122 P) (N (o186 P) (N (o314 P) (N (o570 P) L L) L) (N (o442 P) (N (o698 P) L L) L)) (N (o250 P) (N (o378 P) (N (o634 P) L L) L) (N (o506 P) L L)))))) (N (o14_1 P) (N (o22_1 P) (N (o38_1 P) (N (o70 P) (N (o134 P) (N (o262 P) (N (o518 P) L L) L) (N (o390 P) (N (o646 P) L L) L)) (N (o198 P) (N (o326 P) (N (o582 P) L L) L) (N (o454 P) (N (o710 P) L L) L))) (N (o102 P) (N (o166 P) (N (o294 P) (N (o550 P) L L) L) (N (o422 P) (N (o678 P) L L) L)) (N (o230 P) (N (o358 P) (N (o614 P) L L) L) (N (o486 P) L L)))) (N (o54 P) (N (o86 P) (N (o150 P) (N (o278 P) (N (o534 P) L L) L) (N (o406 P) (N (o662 P) L L) L)) (N (o214 P) (N (o342 P) (N (o598 P) L L) L) (N (o470 P) (N (o726 P) L L) L))) (N (o118 P) (N (o182 P) (N (o310 P) (N (o566 P) L L) L) (N (o438 P) (N (o694 P) L L) L)) (N (o246 P) (N (o374 P) (N (o630 P) L L) L) (N (o502 P) L L))))) (N (o30 P) (N (o46 P) (N (o78 P) (N (o142 P) (N (o270 P) (N (o526 P) L L) L) (N (o398 P) (N (o654 P) L L) L)) (N (o206 P) (N (o334 P) (N (o590 P) L L) L) (N (o462 P) (N (o718 P) L L) L))) (N (o110 P) (N (o174 P) (N (o302 P) (N (o558 P) L L) L) (N (o430 P) (N (o686 P) L L) L)) (N (o238 P) (N (o366 P) (N (o622 P) L L) L) (N (o494 P) L L)))) (N (o62 P) (N (o94 P) (N (o158 P) (N (o286 P) (N (o542 P) L L) L) (N (o414 P) (N (o670 P) L L) L)) (N (o222 P) (N (o350 P) (N (o606 P) L L) L) (N (o478 P) L L))) (N (o126 P) (N (o190 P) (N (o318 P) (N (o574 P) L L) L) (N (o446 P) (N (o702 P) L L) L)) (N (o254 P) (N (o382 P) (N (o638 P) L L) L) (N (o510 P) L L)))))))))
noncomputable def S115 (w : World) (os : OsState) : SharedT := ⟨T115 w.params, 732, {}, #[], {}, 1367, os⟩
noncomputable def o3_7 (P : Params) : Obj := ⟨.type "dict", none, (.dict #[ce P "__name__" 165 (.str (PySem.Str.mk #[108, 97, 119, 95, 101, 118, 101, 114, 116, 114, 101, 97, 100, 115, 95, 107, 49, 50, 95, 119, 104, 111, 108, 101, 95, 119, 97, 108, 107, 115, 95, 115, 116, 101, 112, 95, 98, 121, 95, 115, 116, 101, 112]) 1620), ce P "__doc__" 166 .none, ce P "__package__" 167 .none, ce P "__loader__" 168 (.builtin "__main__.__loader__#opaque"), ce P "__spec__" 169 .none, ce P "__annotations__" 170 (.ref 6), ce P "__builtins__" 171 (.ref 4), ce P "__file__" 173 (.str "/claim/cut.py" 172), ce P "__cached__" 174 .none, ce P "gcd" 370 (.builtin "math.gcd"), ce P "lcm" 373 (.builtin "math.lcm"), ce P "_wall" 386 (.ref 49), ce P "MOST_ORDERS" 388 (.int 8 387), ce P "MOST_STEPS" 390 (.int 9 389), ce P "MOST_MOVE" 392 (.int 1000 391), ce P "GREATEST" 396 (.int 1000000000000000000000000000000 395), ce P "is_integer" 405 (.ref 56), ce P "is_within" 414 (.ref 63), ce P "is_pair" 421 (.ref 70), ce P "is_square" 428 (.ref 77), ce P "is_time" 435 (.ref 84), ce P "WrongValue" 462 (.ref 101), ce P "InvalidRow" 487 (.ref 121), ce P "InvalidSquare" 512 (.ref 140), ce P "InvalidWay" 537 (.ref 159), ce P "InvalidTime" 562 (.ref 178), ce P "InvalidParts" 587 (.ref 197), ce P "lane_of" 602 (.ref 206), ce P "square_in" 611 (.ref 213), ce P "lanes_trodden" 617 (.ref 218), ce P "slope_of" 628 (.ref 225), ce P "line_through" 641 (.ref 232), ce P "square_on" 653 (.ref 239), ce P "crossing" 672 (.ref 246), ce P "place" 685 (.ref 253), ce P "primes_of" 696 (.ref 260), ce P "common_multiple" 705 (.ref 267), ce P "inverse" 718 (.ref 274), ce P "repeated" 730 (.ref 281), ce P "window" 741 (.ref 288), ce P "least" 751 (.ref 295), ce P "full" 758 (.ref 302), ce P "ones" 765 (.ref 309), ce P "places" 771 (.ref 314), ce P "raised" 777 (.ref 319), ce P "BOTH" 780 (.ref 322), ce P "EITHER" 781 (.ref 325), ce P "FIRST" 782 (.ref 328), ce P "ONE" 783 (.ref 331), ce P "NEVER" 785 (.ref 333), ce P "MOST_TABLED" 787 (.int 360 786), ce P "plain" 795 (.ref 340), ce P "holds" 809 (.ref 347), ce P "told" 826 (.ref 354), ce P "common_period" 832 (.ref 359), ce P "tabled" 840 (.ref 366), ce P "answers" 849 (.ref 373), ce P "layers" 855 (.ref 378), ce P "joined" 861 (.ref 383), ce P "MOST_BITS" 865 (.int 65536 864), ce P "seen_along" 871 (.ref 388), ce P "gathered" 877 (.ref 393), ce P "taken" 888 (.ref 400), ce P "loosened" 894 (.ref 405), ce P "deciding" 904 (.ref 412), ce P "primes_in" 910 (.ref 417), ce P "shared_prime" 916 (.ref 422), ce P "leave_some" 922 (.ref 427), ce P "parted" 928 (.ref 432), ce P "left_in_bits" 934 (.ref 437), ce P "left_of" 940 (.ref 442), ce P "FEW_MARKS" 944 (.int 8 943), ce P "sides" 958 (.ref 449), ce P "meeting_point" 971 (.ref 456), ce P "followers" 977 (.ref 461), ce P "holds_any" 983 (.ref 466), ce P "cases" 1000 (.ref 473), ce P "seen_from" 1006 (.ref 478), ce P "many_in" 1021 (.ref 486), ce P "many_in_cases" 1035 (.ref 493), ce P "NOTHING" 1039 (.ref 498), ce P "MOST_WRITTEN" 1041 (.int 5040 1040), ce P "track_of" 1047 (.ref 503), ce P "rule_about" 1060 (.ref 510), ce P "simplified" 1066 (.ref 515), ce P "written_short" 1078 (.ref 522), ce P "rule_at" 1088 (.ref 529), ce P "on_track" 1096 (.ref 536), ce P "joined_tracks" 1102 (.ref 541), ce P "endless_track" 1110 (.ref 548), ce P "stretches" 1116 (.ref 553), ce P "many_on" 1122 (.ref 558), ce P "more_on" 1134 (.ref 565), ce P "laid" 1142 (.ref 570), ce P "slopes_of" 1148 (.ref 575), ce P "crossings" 1154 (.ref 580), ce P "tracks_over" 1160 (.ref 585), ce P "settled" 1166 (.ref 590), ce P "in_field" 1177 (.ref 597), ce P "joined_fields" 1183 (.ref 602), ce P "endless_field" 1189 (.ref 607), ce P "told_by_tracks" 1195 (.ref 612), ce P "many_in_field" 1201 (.ref 617), ce P "any_in_field" 1207 (.ref 622), ce P "MOST_PARTS" 1211 (.int 20 1210), ce P "Squares" 1311 (.ref 702), ce P "is_ray" 1317 (.ref 711), ce P "with_field" 1325 (.ref 718), ce P "of_parts" 1333 (.ref 725), ce P "WAYS" 1337 (.str "NESW" 1336), ce P "MOVES" 1356 (.ref 726), ce P "TURNS" 1366 (.ref 731), ce P "is_row" 1372 (.ref 736), ce P "is_order" 1378 (.ref 741), ce P "is_way" 1385 (.ref 748), ce P "turned_way" 1393 (.ref 755), ce P "one_run" 1403 (.ref 762), ce P "ways_gone" 1416 (.ref 769), ce P "offsets_along" 1429 (.ref 776), ce P "Walker" 1595 (.ref 911), ce P "from_start" 1603 (.ref 922), ce P "square_at" 1613 (.ref 929), ce P "along_lanes" 1619 (.ref 934), ce P "_law_cup" 1631 (.ref 941), ce P "_law_sip" 1640 (.ref 948), ce P "_law_pick" 1648 (.ref 955)] 126), #[]⟩
noncomputable def o40_5 (P : Params) : Obj := ⟨.none, none, (.fields #[.int 2 0, .int 0 0, .ref 48, .int 10 0, .int 0 0, .ref 55, .int 12 0, .int 0 0, .ref 62, .int 14 0, .int 0 0, .ref 69, .int 16 0, .int 0 0, .ref 76, .int 18 0, .int 0 0, .ref 83, .int 21 0, .int 0 0, .ref 90, .int 25 0, .int 0 0, .ref 110, .int 29 0, .int 0 0, .ref 129, .int 33 0, .int 0 0, .ref 148, .int 37 0, .int 0 0, .ref 167, .int 41 0, .int 0 0, .ref 186, .int 46 0, .int 0 0, .ref 205, .int 55 0, .int 0 0, .ref 212, .int 57 0, .int 0 0, .ref 217, .int 64 0, .int 0 0, .ref 224, .int 69 0, .int 0 0, .ref 231, .int 74 0, .int 0 0, .ref 238, .int 77 0, .int 0 0, .ref 245, .int 84 0, .int 0 0, .ref 252, .int 94 0, .int 0 0, .ref 259, .int 106 0, .int 0 0, .ref 266, .int 111 0, .int 0 0, .ref 273, .int 120 0, .int 0 0, .ref 280, .int 126 0, .int 0 0, .ref 287, .int 129 0, .int 0 0, .ref 294, .int 137 0, .int 0 0, .ref 301, .int 139 0, .int 0 0, .ref 308, .int 141 0, .int 0 0, .ref 313, .int 143 0, .int 0 0, .ref 318, .int 152 0, .int 0 0, .ref 339, .int 157 0, .int 0 0, .ref 346, .int 163 0, .int 0 0, .ref 353, .int 170 0, .int 0 0, .ref 358, .int 172 0, .int 0 0, .ref 365, .int 179 0, .int 0 0, .ref 372, .int 183 0, .int 0 0, .ref 377, .int 196 0, .int 0 0, .ref 382, .int 210 0, .int 0 0, .ref 387, .int 216 0, .int 0 0, .ref 392, .int 222 0, .int 0 0, .ref 399, .int 227 0, .int 0 0, .ref 404, .int 235 0, .int 0 0, .ref 411, .int 243 0, .int 0 0, .ref 416, .int 245 0, .int 0 0, .ref 421, .int 250 0, .int 0 0, .ref 426, .int 264 0, .int 0 0, .ref 431, .int 276 0, .int 0 0, .ref 436, .int 281 0, .int 0 0, .ref 441, .int 295 0, .int 0 0, .ref 448, .int 301 0, .int 0 0, .ref 455, .int 308 0, .int 0 0, .ref 460, .int 321 0, .int 0 0, .ref 465, .int 340 0, .int 0 0, .ref 472, .int 354 0, .int 0 0, .ref 477, .int 358 0, .int 0 0, .ref 485, .int 370 0, .int 0 0, .ref 492, .int 383 0, .int 0 0, .ref 502, .int 386 0, .int 0 0, .ref 509, .int 396 0, .int 0 0, .ref 514, .int 400 0, .int 0 0, .ref 521, .int 408 0, .int 0 0, .ref 528, .int 411 0, .int 0 0, .ref 535, .int 413 0, .int 0 0, .ref 540, .int 418 0, .int 0 0, .ref 547, .int 421 0, .int 0 0, .ref 552, .int 424 0, .int 0 0, .ref 557, .int 426 0, .int 0 0, .ref 564, .int 436 0, .int 0 0, .ref 569, .int 448 0, .int 0 0, .ref 574, .int 450 0, .int 0 0, .ref 579, .int 453 0, .int 0 0, .ref 584, .int 456 0, .int 0 0, .ref 589, .int 461 0, .int 0 0, .ref 596, .int 466 0, .int 0 0, .ref 601, .int 474 0, .int 0 0, .ref 606, .int 477 0, .int 0 0, .ref 611, .int 486 0, .int 0 0, .ref 616, .int 490 0, .int 0 0, .ref 621, .int 498 0, .int 0 0, .ref 628, .int 537 0, .int 0 0, .ref 710, .int 543 0, .int 0 0, .ref 717, .int 547 0, .int 0 0, .ref 724, .int 553 0, .int 0 0, .ref 735, .int 560 0, .int 0 0, .ref 740, .int 562 0, .int 0 0, .ref 747, .int 564 0, .int 0 0, .ref 754, .int 566 0, .int 0 0, .ref 761, .int 574 0, .int 0 0, .ref 768, .int 584 0, .int 0 0, .ref 775, .int 593 0, .int 0 0, .ref 782, .int 670 0, .int 0 0, .ref 921, .int 672 0, .int 0 0, .ref 928, .int 675 0, .int 0 0, .ref 933, .int 685 0, .int 0 0, .ref 940, .int 690 0, .int 0 0, .ref 947, .int 696 0, .int 0 0, .ref 954]), #[]⟩
noncomputable def o732 (P : Params) : Obj := ⟨.type "tuple", none, (.seq #[] 0), #[]⟩
noncomputable def o733 (P : Params) : Obj := ⟨.none, none, (.fields #[]), #[]⟩
noncomputable def o734 (P : Params) : Obj := ⟨.none, none, (cf (top 116) "is_row" "is_row" 0 .none .none .none .none none .none .none 0), #[]⟩
noncomputable def o735 (P : Params) : Obj := ⟨.type "code", none, (.fields #[.str "is_row" 1367, .str "is_row" 1368, .str "/claim/cut.py" 1369, .int 553 0, .int 1 0, .int 0 0, .int 0 0, .int 3 0, .ref 732, .bool true, .int 374 0, .ref 733, .none, .none, .none, .ref 734, .int 1370 0, .int 553 0, .str "/claim/cut.py" 1371]), #[]⟩
noncomputable def o736 (P : Params) : Obj := ⟨.type "function", none, (cf (top 116) "is_row" "is_row" 3 .none .none .none (.str "evertreads.steps" 1334) none (.ref 735) .none 0), #[]⟩
noncomputable def o737 (P : Params) : Obj := ⟨.type "tuple", none, (.seq #[] 0), #[]⟩
noncomputable def o738 (P : Params) : Obj := ⟨.none, none, (.fields #[]), #[]⟩
noncomputable def o739 (P : Params) : Obj := ⟨.none, none, (cf (top 117) "is_order" "is_order" 0 .none .none .none .none none .none .none 0), #[]⟩
noncomputable def o740 (P : Params) : Obj := ⟨.type "code", none, (.fields #[.str "is_order" 1373, .str "is_order" 1374, .str "/claim/cut.py" 1375, .int 560 0, .int 1 0, .int 0 0, .int 0 0, .int 3 0, .ref 737, .bool true, .int 374 0, .ref 738, .none, .none, .none, .ref 739, .int 1376 0, .int 560 0, .str "/claim/cut.py" 1377]), #[]⟩
noncomputable def o741 (P : Params) : Obj := ⟨.type "function", none, (cf (top 117) "is_order" "is_order" 3 .none .none .none (.str "evertreads.steps" 1334) none (.ref 740) .none 0), #[]⟩
noncomputable def o742 (P : Params) : Obj := ⟨.type "tuple", none, (.seq #[] 0), #[]⟩
noncomputable def o743 (P : Params) : Obj := ⟨.none, none, (.fields #[]), #[]⟩
noncomputable def o744 (P : Params) : Obj := ⟨.type "tuple", none, (.seq #[.str "value" 1382] 0), #[]⟩
noncomputable def o745 (P : Params) : Obj := ⟨.type "tuple", none, (.seq #[] 0), #[]⟩
noncomputable def o746 (P : Params) : Obj := ⟨.none, none, (cf (top 118) "is_way" "is_way" 0 .none .none .none .none none .none .none 0), #[]⟩
noncomputable def o747 (P : Params) : Obj := ⟨.type "code", none, (.fields #[.str "is_way" 1379, .str "is_way" 1380, .str "/claim/cut.py" 1381, .int 562 0, .int 1 0, .int 0 0, .int 0 0, .int 3 0, .ref 742, .bool true, .int 374 0, .ref 743, .none, .ref 744, .ref 745, .ref 746, .int 1383 0, .int 562 0, .str "/claim/cut.py" 1384]), #[]⟩
noncomputable def o748 (P : Params) : Obj := ⟨.type "function", none, (cf (top 118) "is_way" "is_way" 3 .none .none .none (.str "evertreads.steps" 1334) none (.ref 747) .none 0), #[]⟩
noncomputable def o749 (P : Params) : Obj := ⟨.type "tuple", none, (.seq #[] 0), #[]⟩
noncomputable def o750 (P : Params) : Obj := ⟨.none, none, (.fields #[]), #[]⟩
noncomputable def o751 (P : Params) : Obj := ⟨.type "tuple", none, (.seq #[.str "way" 1389, .str "turns" 1390] 0), #[]⟩
noncomputable def o752 (P : Params) : Obj := ⟨.type "tuple", none, (.seq #[] 0), #[]⟩
noncomputable def o753 (P : Params) : Obj := ⟨.none, none, (cf (top 119) "turned_way" "turned_way" 0 .none .none .none .none none .none .none 0), #[]⟩
noncomputable def o754 (P : Params) : Obj := ⟨.type "code", none, (.fields #[.str "turned_way" 1386, .str "turned_way" 1387, .str "/claim/cut.py" 1388, .int 564 0, .int 2 0, .int 0 0, .int 0 0, .int 3 0, .ref 749, .bool true, .int 374 0, .ref 750, .none, .ref 751, .ref 752, .ref 753, .int 1391 0, .int 564 0, .str "/claim/cut.py" 1392]), #[]⟩
noncomputable def o755 (P : Params) : Obj := ⟨.type "function", none, (cf (top 119) "turned_way" "turned_way" 3 .none .none .none (.str "evertreads.steps" 1334) none (.ref 754) .none 0), #[]⟩
noncomputable def o756 (P : Params) : Obj := ⟨.type "tuple", none, (.seq #[] 0), #[]⟩
noncomputable def o757 (P : Params) : Obj := ⟨.none, none, (.fields #[]), #[]⟩
noncomputable def o758 (P : Params) : Obj := ⟨.type "tuple", none, (.seq #[.str "row" 1397, .str "way" 1398, .str "gone" 1399, .str "order" 1400] 0), #[]⟩
noncomputable def o759 (P : Params) : Obj := ⟨.type "tuple", none, (.seq #[] 0), #[]⟩
noncomputable def o760 (P : Params) : Obj := ⟨.none, none, (cf (top 120) "one_run" "one_run" 0 .none .none .none .none none .none .none 0), #[]⟩
noncomputable def o761 (P : Params) : Obj := ⟨.type "code", none, (.fields #[.str "one_run" 1394, .str "one_run" 1395, .str "/claim/cut.py" 1396, .int 566 0, .int 2 0, .int 0 0, .int 0 0, .int 3 0, .ref 756, .bool true, .int 374 0, .ref 757, .none, .ref 758, .ref 759, .ref 760, .int 1401 0, .int 566 0, .str "/claim/cut.py" 1402]), #[]⟩
noncomputable def o762 (P : Params) : Obj := ⟨.type "function", none, (cf (top 120) "one_run" "one_run" 3 .none .none .none (.str "evertreads.steps" 1334) none (.ref 761) .none 0), #[]⟩
noncomputable def o763 (P : Params) : Obj := ⟨.type "tuple", none, (.seq #[] 0), #[]⟩
noncomputable def o764 (P : Params) : Obj := ⟨.none, none, (.fields #[]), #[]⟩
noncomputable def o765 (P : Params) : Obj := ⟨.type "tuple", none, (.seq #[.str "row" 1407, .str "way" 1408, .str "gone" 1409, .str "now" 1410, .str "more" 1411, .str "many" 1412, .str "period" 1413] 0), #[]⟩
noncomputable def o766 (P : Params) : Obj := ⟨.type "tuple", none, (.seq #[] 0), #[]⟩
noncomputable def o767 (P : Params) : Obj := ⟨.none, none, (cf (top 121) "ways_gone" "ways_gone" 0 .none .none .none .none none .none .none 0), #[]⟩
noncomputable def o768 (P : Params) : Obj := ⟨.type "code", none, (.fields #[.str "ways_gone" 1404, .str "ways_gone" 1405, .str "/claim/cut.py" 1406, .int 574 0, .int 2 0, .int 0 0, .int 0 0, .int 3 0, .ref 763, .bool true, .int 374 0, .ref 764, .none, .ref 765, .ref 766, .ref 767, .int 1414 0, .int 574 0, .str "/claim/cut.py" 1415]), #[]⟩
noncomputable def o769 (P : Params) : Obj := ⟨.type "function", none, (cf (top 121) "ways_gone" "ways_gone" 3 .none .none .none (.str "evertreads.steps" 1334) none (.ref 768) .none 0), #[]⟩
noncomputable def o770 (P : Params) : Obj := ⟨.type "tuple", none, (.seq #[] 0), #[]⟩
noncomputable def o771 (P : Params) : Obj := ⟨.none, none, (.fields #[]), #[]⟩
noncomputable def o772 (P : Params) : Obj := ⟨.type "tuple", none, (.seq #[.str "ways" 1420, .str "x" 1421, .str "y" 1422, .str "offsets" 1423, .str "way" 1424, .str "dx" 1425, .str "dy" 1426] 0), #[]⟩
noncomputable def o773 (P : Params) : Obj := ⟨.type "tuple", none, (.seq #[] 0), #[]⟩
noncomputable def o774 (P : Params) : Obj := ⟨.none, none, (cf (top 122) "offsets_along" "offsets_along" 0 .none .none .none .none none .none .none 0), #[]⟩
noncomputable def o775 (P : Params) : Obj := ⟨.type "code", none, (.fields #[.str "offsets_along" 1417, .str "offsets_along" 1418, .str "/claim/cut.py" 1419, .int 584 0, .int 1 0, .int 0 0, .int 0 0, .int 3 0, .ref 770, .bool true, .int 374 0, .ref 771, .none, .ref 772, .ref 773, .ref 774, .int 1427 0, .int 584 0, .str "/claim/cut.py" 1428]), #[]⟩
noncomputable def o776 (P : Params) : Obj := ⟨.type "function", none, (cf (top 122) "offsets_along" "offsets_along" 3 .none .none .none (.str "evertreads.steps" 1334) none (.ref 775) .none 0), #[]⟩
noncomputable def o777 (P : Params) : Obj := ⟨.type "tuple", none, (.seq #[] 0), #[]⟩
noncomputable def o778 (P : Params) : Obj := ⟨.type "builtin_function_or_method", none, (.fields #[.builtin "type.__prepare__", .type "type"]), #[]⟩
noncomputable def o779 (P : Params) : Obj := ⟨.type "dict", none, (.dict #[ce P "__module__" 1439 (.str "evertreads.walkers" 1430), ce P "__qualname__" 1441 (.str "Walker" 1440), ce P "__firstlineno__" 1443 (.int 593 1442), ce P "__init__" 1457 (.ref 792), ce P "row" 1465 (.ref 800), ce P "start" 1473 (.ref 808), ce P "way" 1481 (.ref 816), ce P "period" 1489 (.ref 824), ce P "drift" 1497 (.ref 832), ce P "closed" 1505 (.ref 840), ce P "squares" 1511 (.ref 845), ce P "at" 1519 (.ref 852), ce P "goes" 1527 (.ref 859), ce P "times" 1535 (.ref 866), ce P "trodden" 1543 (.ref 873), ce P "moved" 1552 (.ref 880), ce P "turned" 1559 (.ref 887), ce P "mirrored" 1566 (.ref 894), ce P "__str__" 1573 (.ref 901), ce P "__repr__" 1580 (.ref 908), ce P "__static_attributes__" 1588 (.ref 909)] 21), #[]⟩
noncomputable def o780 (P : Params) : Obj := ⟨.type "tuple", none, (.seq #[] 0), #[]⟩
noncomputable def o781 (P : Params) : Obj := ⟨.none, none, (.fields #[.int 595 0, .int 4 0, .ref 791, .int 612 0, .int 4 0, .ref 798, .int 616 0, .int 4 0, .ref 806, .int 620 0, .int 4 0, .ref 814, .int 624 0, .int 4 0, .ref 822, .int 628 0, .int 4 0, .ref 830, .int 632 0, .int 4 0, .ref 838, .int 635 0, .int 4 0, .ref 844, .int 640 0, .int 4 0, .ref 851, .int 645 0, .int 4 0, .ref 858, .int 650 0, .int 4 0, .ref 865, .int 653 0, .int 4 0, .ref 872, .int 656 0, .int 4 0, .ref 879, .int 659 0, .int 4 0, .ref 886, .int 662 0, .int 4 0, .ref 893, .int 665 0, .int 4 0, .ref 900, .int 668 0, .int 4 0, .ref 907]), #[]⟩
noncomputable def o782 (P : Params) : Obj := ⟨.type "code", none, (.fields #[.str "Walker" 1434, .str "Walker" 1435, .str "/claim/cut.py" 1436, .int 593 0, .int 0 0, .int 0 0, .int 0 0, .int 0 0, .ref 780, .bool false, .int 374 0, .ref 781, .none, .none, .none, .none, .int 1437 0, .int 593 0, .str "/claim/cut.py" 1438]), #[]⟩
noncomputable def o783 (P : Params) : Obj := ⟨.type "frame", none, .plain, #[some (.ref 782), some (.ref 3), some (.ref 779), none, some (.str "evertreads.walkers" 1430), none, some (.ref 0)]⟩
noncomputable def o784 (P : Params) : Obj := ⟨.type "tuple", none, (.seq #[.int 0 1444, .int 0 1445] 0), #[]⟩
noncomputable def o785 (P : Params) : Obj := ⟨.type "tuple", none, (.seq #[.ref 784, .str "N" 1446] 0), #[]⟩
noncomputable def o786 (P : Params) : Obj := ⟨.type "tuple", none, (.seq #[] 0), #[]⟩
noncomputable def o787 (P : Params) : Obj := ⟨.none, none, (.fields #[]), #[]⟩
noncomputable def o788 (P : Params) : Obj := ⟨.type "tuple", none, (.seq #[.str "self" 1450, .str "row" 1451, .str "start" 1452, .str "way" 1453, .str "offsets" 1454] 0), #[]⟩
noncomputable def o789 (P : Params) : Obj := ⟨.type "tuple", none, (.seq #[] 0), #[]⟩
noncomputable def o790 (P : Params) : Obj := ⟨.none, none, (cf (inClass (top 124) 0) "__init__" "Walker.__init__" 0 .none .none .none .none none .none .none 0), #[]⟩
noncomputable def o791 (P : Params) : Obj := ⟨.type "code", none, (.fields #[.str "__init__" 1447, .str "Walker.__init__" 1448, .str "/claim/cut.py" 1449, .int 595 0, .int 4 0, .int 0 0, .int 0 0, .int 3 0, .ref 786, .bool true, .int 374 0, .ref 787, .none, .ref 788, .ref 789, .ref 790, .int 1455 0, .int 595 0, .str "/claim/cut.py" 1456]), #[]⟩
noncomputable def o792 (P : Params) : Obj := ⟨.type "function", none, (cf (inClass (top 124) 0) "__init__" "Walker.__init__" 3 (.ref 785) .none .none (.str "evertreads.walkers" 1430) none (.ref 791) .none 0), #[]⟩
noncomputable def o793 (P : Params) : Obj := ⟨.type "tuple", none, (.seq #[] 0), #[]⟩
noncomputable def o794 (P : Params) : Obj := ⟨.none, none, (.fields #[]), #[]⟩
noncomputable def o795 (P : Params) : Obj := ⟨.type "tuple", none, (.seq #[.str "self" 1461] 0), #[]⟩
noncomputable def o796 (P : Params) : Obj := ⟨.type "tuple", none, (.seq #[] 0), #[]⟩
noncomputable def o797 (P : Params) : Obj := ⟨.none, none, (cf (inClass (top 124) 1) "row" "Walker.row" 0 .none .none .none .none none .none .none 0), #[]⟩
noncomputable def o798 (P : Params) : Obj := ⟨.type "code", none, (.fields #[.str "row" 1458, .str "Walker.row" 1459, .str "/claim/cut.py" 1460, .int 611 0, .int 1 0, .int 0 0, .int 0 0, .int 3 0, .ref 793, .bool true, .int 374 0, .ref 794, .none, .ref 795, .ref 796, .ref 797, .int 1462 0, .int 611 0, .str "/claim/cut.py" 1463]), #[]⟩
noncomputable def o799 (P : Params) : Obj := ⟨.type "function", none, (cf (inClass (top 124) 1) "row" "Walker.row" 3 .none .none .none (.str "evertreads.walkers" 1430) none (.ref 798) .none 0), #[]⟩
noncomputable def o800 (P : Params) : Obj := ⟨.type "property", none, (.fields #[.ref 799, .none, .none, .none, .str "row" 1465, .bool false]), #[]⟩
noncomputable def o801 (P : Params) : Obj := ⟨.type "tuple", none, (.seq #[] 0), #[]⟩
noncomputable def o802 (P : Params) : Obj := ⟨.none, none, (.fields #[]), #[]⟩
noncomputable def o803 (P : Params) : Obj := ⟨.type "tuple", none, (.seq #[.str "self" 1469] 0), #[]⟩
noncomputable def o804 (P : Params) : Obj := ⟨.type "tuple", none, (.seq #[] 0), #[]⟩
noncomputable def o805 (P : Params) : Obj := ⟨.none, none, (cf (inClass (top 124) 2) "start" "Walker.start" 0 .none .none .none .none none .none .none 0), #[]⟩
noncomputable def o806 (P : Params) : Obj := ⟨.type "code", none, (.fields #[.str "start" 1466, .str "Walker.start" 1467, .str "/claim/cut.py" 1468, .int 615 0, .int 1 0, .int 0 0, .int 0 0, .int 3 0, .ref 801, .bool true, .int 374 0, .ref 802, .none, .ref 803, .ref 804, .ref 805, .int 1470 0, .int 615 0, .str "/claim/cut.py" 1471]), #[]⟩
noncomputable def o807 (P : Params) : Obj := ⟨.type "function", none, (cf (inClass (top 124) 2) "start" "Walker.start" 3 .none .none .none (.str "evertreads.walkers" 1430) none (.ref 806) .none 0), #[]⟩
noncomputable def o808 (P : Params) : Obj := ⟨.type "property", none, (.fields #[.ref 807, .none, .none, .none, .str "start" 1473, .bool false]), #[]⟩
noncomputable def o809 (P : Params) : Obj := ⟨.type "tuple", none, (.seq #[] 0), #[]⟩
noncomputable def o810 (P : Params) : Obj := ⟨.none, none, (.fields #[]), #[]⟩
noncomputable def o811 (P : Params) : Obj := ⟨.type "tuple", none, (.seq #[.str "self" 1477] 0), #[]⟩
noncomputable def o812 (P : Params) : Obj := ⟨.type "tuple", none, (.seq #[] 0), #[]⟩
noncomputable def o813 (P : Params) : Obj := ⟨.none, none, (cf (inClass (top 124) 3) "way" "Walker.way" 0 .none .none .none .none none .none .none 0), #[]⟩
noncomputable def o814 (P : Params) : Obj := ⟨.type "code", none, (.fields #[.str "way" 1474, .str "Walker.way" 1475, .str "/claim/cut.py" 1476, .int 619 0, .int 1 0, .int 0 0, .int 0 0, .int 3 0, .ref 809, .bool true, .int 374 0, .ref 810, .none, .ref 811, .ref 812, .ref 813, .int 1478 0, .int 619 0, .str "/claim/cut.py" 1479]), #[]⟩
noncomputable def o815 (P : Params) : Obj := ⟨.type "function", none, (cf (inClass (top 124) 3) "way" "Walker.way" 3 .none .none .none (.str "evertreads.walkers" 1430) none (.ref 814) .none 0), #[]⟩
noncomputable def o816 (P : Params) : Obj := ⟨.type "property", none, (.fields #[.ref 815, .none, .none, .none, .str "way" 1481, .bool false]), #[]⟩
noncomputable def o817 (P : Params) : Obj := ⟨.type "tuple", none, (.seq #[] 0), #[]⟩
noncomputable def o818 (P : Params) : Obj := ⟨.none, none, (.fields #[]), #[]⟩
noncomputable def o819 (P : Params) : Obj := ⟨.type "tuple", none, (.seq #[.str "self" 1485] 0), #[]⟩
noncomputable def o820 (P : Params) : Obj := ⟨.type "tuple", none, (.seq #[] 0), #[]⟩
noncomputable def o821 (P : Params) : Obj := ⟨.none, none, (cf (inClass (top 124) 4) "period" "Walker.period" 0 .none .none .none .none none .none .none 0), #[]⟩
noncomputable def o822 (P : Params) : Obj := ⟨.type "code", none, (.fields #[.str "period" 1482, .str "Walker.period" 1483, .str "/claim/cut.py" 1484, .int 623 0, .int 1 0, .int 0 0, .int 0 0, .int 3 0, .ref 817, .bool true, .int 374 0, .ref 818, .none, .ref 819, .ref 820, .ref 821, .int 1486 0, .int 623 0, .str "/claim/cut.py" 1487]), #[]⟩
noncomputable def o823 (P : Params) : Obj := ⟨.type "function", none, (cf (inClass (top 124) 4) "period" "Walker.period" 3 .none .none .none (.str "evertreads.walkers" 1430) none (.ref 822) .none 0), #[]⟩
noncomputable def o824 (P : Params) : Obj := ⟨.type "property", none, (.fields #[.ref 823, .none, .none, .none, .str "period" 1489, .bool false]), #[]⟩
noncomputable def o825 (P : Params) : Obj := ⟨.type "tuple", none, (.seq #[] 0), #[]⟩
noncomputable def o826 (P : Params) : Obj := ⟨.none, none, (.fields #[]), #[]⟩
noncomputable def o827 (P : Params) : Obj := ⟨.type "tuple", none, (.seq #[.str "self" 1493] 0), #[]⟩
noncomputable def o828 (P : Params) : Obj := ⟨.type "tuple", none, (.seq #[] 0), #[]⟩
noncomputable def o829 (P : Params) : Obj := ⟨.none, none, (cf (inClass (top 124) 5) "drift" "Walker.drift" 0 .none .none .none .none none .none .none 0), #[]⟩
noncomputable def o830 (P : Params) : Obj := ⟨.type "code", none, (.fields #[.str "drift" 1490, .str "Walker.drift" 1491, .str "/claim/cut.py" 1492, .int 627 0, .int 1 0, .int 0 0, .int 0 0, .int 3 0, .ref 825, .bool true, .int 374 0, .ref 826, .none, .ref 827, .ref 828, .ref 829, .int 1494 0, .int 627 0, .str "/claim/cut.py" 1495]), #[]⟩
noncomputable def o831 (P : Params) : Obj := ⟨.type "function", none, (cf (inClass (top 124) 5) "drift" "Walker.drift" 3 .none .none .none (.str "evertreads.walkers" 1430) none (.ref 830) .none 0), #[]⟩
noncomputable def o832 (P : Params) : Obj := ⟨.type "property", none, (.fields #[.ref 831, .none, .none, .none, .str "drift" 1497, .bool false]), #[]⟩
noncomputable def o833 (P : Params) : Obj := ⟨.type "tuple", none, (.seq #[] 0), #[]⟩
noncomputable def o834 (P : Params) : Obj := ⟨.none, none, (.fields #[]), #[]⟩
noncomputable def o835 (P : Params) : Obj := ⟨.type "tuple", none, (.seq #[.str "self" 1501] 0), #[]⟩
noncomputable def o836 (P : Params) : Obj := ⟨.type "tuple", none, (.seq #[] 0), #[]⟩
noncomputable def o837 (P : Params) : Obj := ⟨.none, none, (cf (inClass (top 124) 6) "closed" "Walker.closed" 0 .none .none .none .none none .none .none 0), #[]⟩
noncomputable def o838 (P : Params) : Obj := ⟨.type "code", none, (.fields #[.str "closed" 1498, .str "Walker.closed" 1499, .str "/claim/cut.py" 1500, .int 631 0, .int 1 0, .int 0 0, .int 0 0, .int 3 0, .ref 833, .bool true, .int 374 0, .ref 834, .none, .ref 835, .ref 836, .ref 837, .int 1502 0, .int 631 0, .str "/claim/cut.py" 1503]), #[]⟩
noncomputable def o839 (P : Params) : Obj := ⟨.type "function", none, (cf (inClass (top 124) 6) "closed" "Walker.closed" 3 .none .none .none (.str "evertreads.walkers" 1430) none (.ref 838) .none 0), #[]⟩
noncomputable def o840 (P : Params) : Obj := ⟨.type "property", none, (.fields #[.ref 839, .none, .none, .none, .str "closed" 1505, .bool false]), #[]⟩
noncomputable def o841 (P : Params) : Obj := ⟨.type "tuple", none, (.seq #[] 0), #[]⟩
noncomputable def o842 (P : Params) : Obj := ⟨.none, none, (.fields #[]), #[]⟩
noncomputable def o843 (P : Params) : Obj := ⟨.none, none, (cf (inClass (top 124) 7) "squares" "Walker.squares" 0 .none .none .none .none none .none .none 0), #[]⟩
noncomputable def o844 (P : Params) : Obj := ⟨.type "code", none, (.fields #[.str "squares" 1506, .str "Walker.squares" 1507, .str "/claim/cut.py" 1508, .int 635 0, .int 1 0, .int 0 0, .int 0 0, .int 3 0, .ref 841, .bool true, .int 374 0, .ref 842, .none, .none, .none, .ref 843, .int 1509 0, .int 635 0, .str "/claim/cut.py" 1510]), #[]⟩
noncomputable def o845 (P : Params) : Obj := ⟨.type "function", none, (cf (inClass (top 124) 7) "squares" "Walker.squares" 3 .none .none .none (.str "evertreads.walkers" 1430) none (.ref 844) .none 0), #[]⟩
noncomputable def o846 (P : Params) : Obj := ⟨.type "tuple", none, (.seq #[] 0), #[]⟩
noncomputable def o847 (P : Params) : Obj := ⟨.none, none, (.fields #[]), #[]⟩
noncomputable def o848 (P : Params) : Obj := ⟨.type "tuple", none, (.seq #[.str "self" 1515, .str "time" 1516] 0), #[]⟩
noncomputable def o849 (P : Params) : Obj := ⟨.type "tuple", none, (.seq #[] 0), #[]⟩
noncomputable def o850 (P : Params) : Obj := ⟨.none, none, (cf (inClass (top 124) 8) "at" "Walker.at" 0 .none .none .none .none none .none .none 0), #[]⟩
noncomputable def o851 (P : Params) : Obj := ⟨.type "code", none, (.fields #[.str "at" 1512, .str "Walker.at" 1513, .str "/claim/cut.py" 1514, .int 640 0, .int 2 0, .int 0 0, .int 0 0, .int 3 0, .ref 846, .bool true, .int 374 0, .ref 847, .none, .ref 848, .ref 849, .ref 850, .int 1517 0, .int 640 0, .str "/claim/cut.py" 1518]), #[]⟩
noncomputable def o852 (P : Params) : Obj := ⟨.type "function", none, (cf (inClass (top 124) 8) "at" "Walker.at" 3 .none .none .none (.str "evertreads.walkers" 1430) none (.ref 851) .none 0), #[]⟩
noncomputable def o853 (P : Params) : Obj := ⟨.type "tuple", none, (.seq #[] 0), #[]⟩
noncomputable def o854 (P : Params) : Obj := ⟨.none, none, (.fields #[]), #[]⟩
noncomputable def o855 (P : Params) : Obj := ⟨.type "tuple", none, (.seq #[.str "self" 1523, .str "time" 1524] 0), #[]⟩
noncomputable def o856 (P : Params) : Obj := ⟨.type "tuple", none, (.seq #[] 0), #[]⟩
noncomputable def o857 (P : Params) : Obj := ⟨.none, none, (cf (inClass (top 124) 9) "goes" "Walker.goes" 0 .none .none .none .none none .none .none 0), #[]⟩
noncomputable def o858 (P : Params) : Obj := ⟨.type "code", none, (.fields #[.str "goes" 1520, .str "Walker.goes" 1521, .str "/claim/cut.py" 1522, .int 645 0, .int 2 0, .int 0 0, .int 0 0, .int 3 0, .ref 853, .bool true, .int 374 0, .ref 854, .none, .ref 855, .ref 856, .ref 857, .int 1525 0, .int 645 0, .str "/claim/cut.py" 1526]), #[]⟩
noncomputable def o859 (P : Params) : Obj := ⟨.type "function", none, (cf (inClass (top 124) 9) "goes" "Walker.goes" 3 .none .none .none (.str "evertreads.walkers" 1430) none (.ref 858) .none 0), #[]⟩
noncomputable def o860 (P : Params) : Obj := ⟨.type "tuple", none, (.seq #[] 0), #[]⟩
noncomputable def o861 (P : Params) : Obj := ⟨.none, none, (.fields #[]), #[]⟩
noncomputable def o862 (P : Params) : Obj := ⟨.type "tuple", none, (.seq #[.str "self" 1531, .str "square" 1532] 0), #[]⟩
noncomputable def o863 (P : Params) : Obj := ⟨.type "tuple", none, (.seq #[] 0), #[]⟩
noncomputable def o864 (P : Params) : Obj := ⟨.none, none, (cf (inClass (top 124) 10) "times" "Walker.times" 0 .none .none .none .none none .none .none 0), #[]⟩
noncomputable def o865 (P : Params) : Obj := ⟨.type "code", none, (.fields #[.str "times" 1528, .str "Walker.times" 1529, .str "/claim/cut.py" 1530, .int 650 0, .int 2 0, .int 0 0, .int 0 0, .int 3 0, .ref 860, .bool true, .int 374 0, .ref 861, .none, .ref 862, .ref 863, .ref 864, .int 1533 0, .int 650 0, .str "/claim/cut.py" 1534]), #[]⟩
noncomputable def o866 (P : Params) : Obj := ⟨.type "function", none, (cf (inClass (top 124) 10) "times" "Walker.times" 3 .none .none .none (.str "evertreads.walkers" 1430) none (.ref 865) .none 0), #[]⟩
noncomputable def o867 (P : Params) : Obj := ⟨.type "tuple", none, (.seq #[] 0), #[]⟩
noncomputable def o868 (P : Params) : Obj := ⟨.none, none, (.fields #[]), #[]⟩
noncomputable def o869 (P : Params) : Obj := ⟨.type "tuple", none, (.seq #[.str "self" 1539, .str "count" 1540] 0), #[]⟩
noncomputable def o870 (P : Params) : Obj := ⟨.type "tuple", none, (.seq #[] 0), #[]⟩
noncomputable def o871 (P : Params) : Obj := ⟨.none, none, (cf (inClass (top 124) 11) "trodden" "Walker.trodden" 0 .none .none .none .none none .none .none 0), #[]⟩
noncomputable def o872 (P : Params) : Obj := ⟨.type "code", none, (.fields #[.str "trodden" 1536, .str "Walker.trodden" 1537, .str "/claim/cut.py" 1538, .int 653 0, .int 2 0, .int 0 0, .int 0 0, .int 3 0, .ref 867, .bool true, .int 374 0, .ref 868, .none, .ref 869, .ref 870, .ref 871, .int 1541 0, .int 653 0, .str "/claim/cut.py" 1542]), #[]⟩
noncomputable def o873 (P : Params) : Obj := ⟨.type "function", none, (cf (inClass (top 124) 11) "trodden" "Walker.trodden" 3 .none .none .none (.str "evertreads.walkers" 1430) none (.ref 872) .none 0), #[]⟩
noncomputable def o874 (P : Params) : Obj := ⟨.type "tuple", none, (.seq #[] 0), #[]⟩
noncomputable def o875 (P : Params) : Obj := ⟨.none, none, (.fields #[]), #[]⟩
noncomputable def o876 (P : Params) : Obj := ⟨.type "tuple", none, (.seq #[.str "self" 1547, .str "dx" 1548, .str "dy" 1549] 0), #[]⟩
noncomputable def o877 (P : Params) : Obj := ⟨.type "tuple", none, (.seq #[] 0), #[]⟩
noncomputable def o878 (P : Params) : Obj := ⟨.none, none, (cf (inClass (top 124) 12) "moved" "Walker.moved" 0 .none .none .none .none none .none .none 0), #[]⟩
noncomputable def o879 (P : Params) : Obj := ⟨.type "code", none, (.fields #[.str "moved" 1544, .str "Walker.moved" 1545, .str "/claim/cut.py" 1546, .int 656 0, .int 3 0, .int 0 0, .int 0 0, .int 3 0, .ref 874, .bool true, .int 374 0, .ref 875, .none, .ref 876, .ref 877, .ref 878, .int 1550 0, .int 656 0, .str "/claim/cut.py" 1551]), #[]⟩
noncomputable def o880 (P : Params) : Obj := ⟨.type "function", none, (cf (inClass (top 124) 12) "moved" "Walker.moved" 3 .none .none .none (.str "evertreads.walkers" 1430) none (.ref 879) .none 0), #[]⟩
noncomputable def o881 (P : Params) : Obj := ⟨.type "tuple", none, (.seq #[] 0), #[]⟩
noncomputable def o882 (P : Params) : Obj := ⟨.none, none, (.fields #[]), #[]⟩
noncomputable def o883 (P : Params) : Obj := ⟨.type "tuple", none, (.seq #[.str "self" 1556] 0), #[]⟩
noncomputable def o884 (P : Params) : Obj := ⟨.type "tuple", none, (.seq #[] 0), #[]⟩
noncomputable def o885 (P : Params) : Obj := ⟨.none, none, (cf (inClass (top 124) 13) "turned" "Walker.turned" 0 .none .none .none .none none .none .none 0), #[]⟩
noncomputable def o886 (P : Params) : Obj := ⟨.type "code", none, (.fields #[.str "turned" 1553, .str "Walker.turned" 1554, .str "/claim/cut.py" 1555, .int 659 0, .int 1 0, .int 0 0, .int 0 0, .int 3 0, .ref 881, .bool true, .int 374 0, .ref 882, .none, .ref 883, .ref 884, .ref 885, .int 1557 0, .int 659 0, .str "/claim/cut.py" 1558]), #[]⟩
noncomputable def o887 (P : Params) : Obj := ⟨.type "function", none, (cf (inClass (top 124) 13) "turned" "Walker.turned" 3 .none .none .none (.str "evertreads.walkers" 1430) none (.ref 886) .none 0), #[]⟩
noncomputable def o888 (P : Params) : Obj := ⟨.type "tuple", none, (.seq #[] 0), #[]⟩
noncomputable def o889 (P : Params) : Obj := ⟨.none, none, (.fields #[]), #[]⟩
noncomputable def o890 (P : Params) : Obj := ⟨.type "tuple", none, (.seq #[.str "self" 1563] 0), #[]⟩
noncomputable def o891 (P : Params) : Obj := ⟨.type "tuple", none, (.seq #[] 0), #[]⟩
noncomputable def o892 (P : Params) : Obj := ⟨.none, none, (cf (inClass (top 124) 14) "mirrored" "Walker.mirrored" 0 .none .none .none .none none .none .none 0), #[]⟩
noncomputable def o893 (P : Params) : Obj := ⟨.type "code", none, (.fields #[.str "mirrored" 1560, .str "Walker.mirrored" 1561, .str "/claim/cut.py" 1562, .int 662 0, .int 1 0, .int 0 0, .int 0 0, .int 3 0, .ref 888, .bool true, .int 374 0, .ref 889, .none, .ref 890, .ref 891, .ref 892, .int 1564 0, .int 662 0, .str "/claim/cut.py" 1565]), #[]⟩
noncomputable def o894 (P : Params) : Obj := ⟨.type "function", none, (cf (inClass (top 124) 14) "mirrored" "Walker.mirrored" 3 .none .none .none (.str "evertreads.walkers" 1430) none (.ref 893) .none 0), #[]⟩
noncomputable def o895 (P : Params) : Obj := ⟨.type "tuple", none, (.seq #[] 0), #[]⟩
noncomputable def o896 (P : Params) : Obj := ⟨.none, none, (.fields #[]), #[]⟩
noncomputable def o897 (P : Params) : Obj := ⟨.type "tuple", none, (.seq #[.str "self" 1570] 0), #[]⟩
noncomputable def o898 (P : Params) : Obj := ⟨.type "tuple", none, (.seq #[] 0), #[]⟩
noncomputable def o899 (P : Params) : Obj := ⟨.none, none, (cf (inClass (top 124) 15) "__str__" "Walker.__str__" 0 .none .none .none .none none .none .none 0), #[]⟩
noncomputable def o900 (P : Params) : Obj := ⟨.type "code", none, (.fields #[.str "__str__" 1567, .str "Walker.__str__" 1568, .str "/claim/cut.py" 1569, .int 665 0, .int 1 0, .int 0 0, .int 0 0, .int 3 0, .ref 895, .bool true, .int 374 0, .ref 896, .none, .ref 897, .ref 898, .ref 899, .int 1571 0, .int 665 0, .str "/claim/cut.py" 1572]), #[]⟩
noncomputable def o901 (P : Params) : Obj := ⟨.type "function", none, (cf (inClass (top 124) 15) "__str__" "Walker.__str__" 3 .none .none .none (.str "evertreads.walkers" 1430) none (.ref 900) .none 0), #[]⟩
noncomputable def o902 (P : Params) : Obj := ⟨.type "tuple", none, (.seq #[] 0), #[]⟩
noncomputable def o903 (P : Params) : Obj := ⟨.none, none, (.fields #[]), #[]⟩
noncomputable def o904 (P : Params) : Obj := ⟨.type "tuple", none, (.seq #[.str "self" 1577] 0), #[]⟩
noncomputable def o905 (P : Params) : Obj := ⟨.type "tuple", none, (.seq #[] 0), #[]⟩
noncomputable def o906 (P : Params) : Obj := ⟨.none, none, (cf (inClass (top 124) 16) "__repr__" "Walker.__repr__" 0 .none .none .none .none none .none .none 0), #[]⟩
noncomputable def o907 (P : Params) : Obj := ⟨.type "code", none, (.fields #[.str "__repr__" 1574, .str "Walker.__repr__" 1575, .str "/claim/cut.py" 1576, .int 668 0, .int 1 0, .int 0 0, .int 0 0, .int 3 0, .ref 902, .bool true, .int 374 0, .ref 903, .none, .ref 904, .ref 905, .ref 906, .int 1578 0, .int 668 0, .str "/claim/cut.py" 1579]), #[]⟩
noncomputable def o908 (P : Params) : Obj := ⟨.type "function", none, (cf (inClass (top 124) 16) "__repr__" "Walker.__repr__" 3 .none .none .none (.str "evertreads.walkers" 1430) none (.ref 907) .none 0), #[]⟩
noncomputable def o909 (P : Params) : Obj := ⟨.type "tuple", none, (.seq #[.str "_drift" 1581, .str "_lanes" 1582, .str "_offsets" 1583, .str "_row" 1584, .str "_start" 1585, .str "_way" 1586, .str "_ways" 1587] 0), #[]⟩
noncomputable def o910 (P : Params) : Obj := ⟨.type "dict", none, (.dict #[ce P "__module__" 1439 (.str "evertreads.walkers" 1430), ce P "__firstlineno__" 1443 (.int 593 1442), ce P "__init__" 1457 (.ref 792), ce P "row" 1465 (.ref 800), ce P "start" 1473 (.ref 808), ce P "way" 1481 (.ref 816), ce P "period" 1489 (.ref 824), ce P "drift" 1497 (.ref 832), ce P "closed" 1505 (.ref 840), ce P "squares" 1511 (.ref 845), ce P "at" 1519 (.ref 852), ce P "goes" 1527 (.ref 859), ce P "times" 1535 (.ref 866), ce P "trodden" 1543 (.ref 873), ce P "moved" 1552 (.ref 880), ce P "turned" 1559 (.ref 887), ce P "mirrored" 1566 (.ref 894), ce P "__str__" 1573 (.ref 901), ce P "__repr__" 1580 (.ref 908), ce P "__static_attributes__" 1588 (.ref 909), ce P "__dict__" 1590 (.ref 912), ce P "__weakref__" 1592 (.ref 913), ce P "__doc__" 1593 .none] 4), #[]⟩
noncomputable def o911 (P : Params) : Obj := ⟨.type "type", none, (.cls ⟨"Walker", [.type "object"], [.ref 911, .type "object"], 910, "Walker", true, [], [], false, none, false⟩), #[none, none, some (.str "Walker" 1432), some (.str "Walker" 1440), some (.builtin "object.__new__"), some (.bool true)]⟩
noncomputable def o912 (P : Params) : Obj := ⟨.type "getset_descriptor", none, (.fields #[.str "__dict__" 1589, .ref 911, .builtin "function.__dict__", .builtin "function.__dict__#set"]), #[]⟩
noncomputable def o913 (P : Params) : Obj := ⟨.type "getset_descriptor", none, (.fields #[.str "__weakref__" 1591, .ref 911, .builtin "ExceptionGroup.__weakref__", .none]), #[]⟩
noncomputable def o914 (P : Params) : Obj := ⟨.type "super", none, (.fields #[.ref 911, .ref 911, .ref 911]), #[]⟩
noncomputable def o915 (P : Params) : Obj := ⟨.type "builtin_function_or_method", none, (.fields #[.builtin "object.__init_subclass__", .ref 911]), #[]⟩
noncomputable def o916 (P : Params) : Obj := ⟨.type "tuple", none, (.seq #[] 0), #[]⟩
noncomputable def o917 (P : Params) : Obj := ⟨.none, none, (.fields #[]), #[]⟩
noncomputable def o918 (P : Params) : Obj := ⟨.type "tuple", none, (.seq #[.str "walker" 1599, .str "offset" 1600] 0), #[]⟩
noncomputable def o919 (P : Params) : Obj := ⟨.type "tuple", none, (.seq #[] 0), #[]⟩
noncomputable def o920 (P : Params) : Obj := ⟨.none, none, (cf (top 125) "from_start" "from_start" 0 .none .none .none .none none .none .none 0), #[]⟩
noncomputable def o921 (P : Params) : Obj := ⟨.type "code", none, (.fields #[.str "from_start" 1596, .str "from_start" 1597, .str "/claim/cut.py" 1598, .int 670 0, .int 2 0, .int 0 0, .int 0 0, .int 3 0, .ref 916, .bool true, .int 374 0, .ref 917, .none, .ref 918, .ref 919, .ref 920, .int 1601 0, .int 670 0, .str "/claim/cut.py" 1602]), #[]⟩
noncomputable def o922 (P : Params) : Obj := ⟨.type "function", none, (cf (top 125) "from_start" "from_start" 3 .none .none .none (.str "evertreads.walkers" 1430) none (.ref 921) .none 0), #[]⟩
noncomputable def o923 (P : Params) : Obj := ⟨.type "tuple", none, (.seq #[] 0), #[]⟩
noncomputable def o924 (P : Params) : Obj := ⟨.none, none, (.fields #[]), #[]⟩
noncomputable def o925 (P : Params) : Obj := ⟨.type "tuple", none, (.seq #[.str "walker" 1607, .str "time" 1608, .str "rounds" 1609, .str "rest" 1610] 0), #[]⟩
noncomputable def o926 (P : Params) : Obj := ⟨.type "tuple", none, (.seq #[] 0), #[]⟩
noncomputable def o927 (P : Params) : Obj := ⟨.none, none, (cf (top 126) "square_at" "square_at" 0 .none .none .none .none none .none .none 0), #[]⟩
noncomputable def o928 (P : Params) : Obj := ⟨.type "code", none, (.fields #[.str "square_at" 1604, .str "square_at" 1605, .str "/claim/cut.py" 1606, .int 672 0, .int 2 0, .int 0 0, .int 0 0, .int 3 0, .ref 923, .bool true, .int 374 0, .ref 924, .none, .ref 925, .ref 926, .ref 927, .int 1611 0, .int 672 0, .str "/claim/cut.py" 1612]), #[]⟩
noncomputable def o929 (P : Params) : Obj := ⟨.type "function", none, (cf (top 126) "square_at" "square_at" 3 .none .none .none (.str "evertreads.walkers" 1430) none (.ref 928) .none 0), #[]⟩
noncomputable def o930 (P : Params) : Obj := ⟨.type "tuple", none, (.seq #[] 0), #[]⟩
noncomputable def o931 (P : Params) : Obj := ⟨.none, none, (.fields #[]), #[]⟩
noncomputable def o932 (P : Params) : Obj := ⟨.none, none, (cf (top 127) "along_lanes" "along_lanes" 0 .none .none .none .none none .none .none 0), #[]⟩
noncomputable def o933 (P : Params) : Obj := ⟨.type "code", none, (.fields #[.str "along_lanes" 1614, .str "along_lanes" 1615, .str "/claim/cut.py" 1616, .int 675 0, .int 2 0, .int 0 0, .int 0 0, .int 3 0, .ref 930, .bool true, .int 374 0, .ref 931, .none, .none, .none, .ref 932, .int 1617 0, .int 675 0, .str "/claim/cut.py" 1618]), #[]⟩
noncomputable def o934 (P : Params) : Obj := ⟨.type "function", none, (cf (top 127) "along_lanes" "along_lanes" 3 .none .none .none (.str "evertreads.walkers" 1430) none (.ref 933) .none 0), #[]⟩
noncomputable def o935 (P : Params) : Obj := ⟨.type "tuple", none, (.seq #[] 0), #[]⟩
noncomputable def o936 (P : Params) : Obj := ⟨.none, none, (.fields #[]), #[]⟩
noncomputable def o937 (P : Params) : Obj := ⟨.type "tuple", none, (.seq #[.str "script" 1625, .str "spot" 1626, .str "cell" 1627, .str "one" 1628] 0), #[]⟩
noncomputable def o938 (P : Params) : Obj := ⟨.type "tuple", none, (.seq #[] 0), #[]⟩
noncomputable def o939 (P : Params) : Obj := ⟨.none, none, (cf (top 129) "_law_cup" "_law_cup" 0 .none .none .none .none none .none .none 0), #[]⟩
noncomputable def o940 (P : Params) : Obj := ⟨.type "code", none, (.fields #[.str "_law_cup" 1622, .str "_law_cup" 1623, .str "/claim/cut.py" 1624, .int 685 0, .int 2 0, .int 0 0, .int 0 0, .int 3 0, .ref 935, .bool true, .int 374 0, .ref 936, .none, .ref 937, .ref 938, .ref 939, .int 1629 0, .int 685 0, .str "/claim/cut.py" 1630]), #[]⟩
noncomputable def o941 (P : Params) : Obj := ⟨.type "function", none, (cf (top 129) "_law_cup" "_law_cup" 3 .none .none .none (.str (PySem.Str.mk #[108, 97, 119, 95, 101, 118, 101, 114, 116, 114, 101, 97, 100, 115, 95, 107, 49, 50, 95, 119, 104, 111, 108, 101, 95, 119, 97, 108, 107, 115, 95, 115, 116, 101, 112, 95, 98, 121, 95, 115, 116, 101, 112]) 1620) none (.ref 940) .none 0), #[]⟩
noncomputable def o942 (P : Params) : Obj := ⟨.type "tuple", none, (.seq #[] 0), #[]⟩
noncomputable def o943 (P : Params) : Obj := ⟨.none, none, (.fields #[]), #[]⟩
noncomputable def o944 (P : Params) : Obj := ⟨.type "tuple", none, (.seq #[.str "cup" 1635, .str "many" 1636, .str "part" 1637] 0), #[]⟩
noncomputable def o945 (P : Params) : Obj := ⟨.type "tuple", none, (.seq #[] 0), #[]⟩
noncomputable def o946 (P : Params) : Obj := ⟨.none, none, (cf (top 130) "_law_sip" "_law_sip" 0 .none .none .none .none none .none .none 0), #[]⟩
noncomputable def o947 (P : Params) : Obj := ⟨.type "code", none, (.fields #[.str "_law_sip" 1632, .str "_law_sip" 1633, .str "/claim/cut.py" 1634, .int 690 0, .int 2 0, .int 0 0, .int 0 0, .int 3 0, .ref 942, .bool true, .int 374 0, .ref 943, .none, .ref 944, .ref 945, .ref 946, .int 1638 0, .int 690 0, .str "/claim/cut.py" 1639]), #[]⟩
noncomputable def o948 (P : Params) : Obj := ⟨.type "function", none, (cf (top 130) "_law_sip" "_law_sip" 3 .none .none .none (.str (PySem.Str.mk #[108, 97, 119, 95, 101, 118, 101, 114, 116, 114, 101, 97, 100, 115, 95, 107, 49, 50, 95, 119, 104, 111, 108, 101, 95, 119, 97, 108, 107, 115, 95, 115, 116, 101, 112, 95, 98, 121, 95, 115, 116, 101, 112]) 1620) none (.ref 947) .none 0), #[]⟩
noncomputable def o949 (P : Params) : Obj := ⟨.type "tuple", none, (.seq #[] 0), #[]⟩
noncomputable def o950 (P : Params) : Obj := ⟨.none, none, (.fields #[]), #[]⟩
noncomputable def o951 (P : Params) : Obj := ⟨.type "tuple", none, (.seq #[.str "cup" 1644, .str "things" 1645] 0), #[]⟩
noncomputable def o952 (P : Params) : Obj := ⟨.type "tuple", none, (.seq #[] 0), #[]⟩
noncomputable def o953 (P : Params) : Obj := ⟨.none, none, (cf (top 131) "_law_pick" "_law_pick" 0 .none .none .none .none none .none .none 0), #[]⟩
noncomputable def o954 (P : Params) : Obj := ⟨.type "code", none, (.fields #[.str "_law_pick" 1641, .str "_law_pick" 1642, .str "/claim/cut.py" 1643, .int 696 0, .int 2 0, .int 0 0, .int 0 0, .int 3 0, .ref 949, .bool true, .int 374 0, .ref 950, .none, .ref 951, .ref 952, .ref 953, .int 1646 0, .int 696 0, .str "/claim/cut.py" 1647]), #[]⟩
noncomputable def o955 (P : Params) : Obj := ⟨.type "function", none, (cf (top 131) "_law_pick" "_law_pick" 3 .none .none .none (.str (PySem.Str.mk #[108, 97, 119, 95, 101, 118, 101, 114, 116, 114, 101, 97, 100, 115, 95, 107, 49, 50, 95, 119, 104, 111, 108, 101, 95, 119, 97, 108, 107, 115, 95, 115, 116, 101, 112, 95, 98, 121, 95, 115, 116, 101, 112]) 1620) none (.ref 954) .none 0), #[]⟩
noncomputable def T131 (P : Params) : BT := (N (o0_1 P) (N (o1_1 P) (N (o3_7 P) (N (o7_1 P) (N (o15_1 P) (N (o31_1 P) (N (o63 P) (N (o127 P) (N (o255 P) (N (o511 P) L L) (N (o767 P) L L)) (N (o383 P) (N (o639 P) L L) (N (o895 P) L L))) (N (o191 P) (N (o319 P) (N (o575 P) L L) (N (o831 P) L L)) (N (o447 P) (N (o703 P) L L) L))) (N (o95 P) (N (o159 P) (N (o287 P) (N (o543 P) L L) (N (o799 P) L L)) (N (o415 P) (N (o671 P) L L) (N (o927 P) L L))) (N (o223 P) (N (o351 P) (N (o607 P) L L) (N (o863 P) L L)) (N (o479 P) (N (o735 P) L L) L)))) (N (o47 P) (N (o79 P) (N (o143 P) (N (o271 P) (N (o527 P) L L) (N (o783 P) L L)) (N (o399 P) (N (o655 P) L L) (N (o911 P) L L))) (N (o207 P) (N (o335 P) (N (o591 P) L L) (N (o847 P) L L)) (N (o463 P) (N (o719 P) L L) L))) (N (o111 P) (N (o175 P) (N (o303 P) (N (o559 P) L L) (N (o815 P) L L)) (N (o431 P) (N (o687 P) L L) (N (o943 P) L L))) (N (o239 P) (N (o367 P) (N (o623 P) L L) (N (o879 P) L L)) (N (o495 P) (N (o751 P) L L) L))))) (N (o23_1 P) (N (o39 P) (N (o71 P) (N (o135 P) (N (o263 P) (N (o519 P) L L) (N (o775 P) L L)) (N (o391 P) (N (o647 P) L L) (N (o903 P) L L))) (N (o199 P) (N (o327 P) (N (o583 P) L L) (N (o839 P) L L)) (N (o455 P) (N (o711 P) L L) L))) (N (o103 P) (N (o167 P) (N (o295 P) (N (o551 P) L L) (N (o807 P) L L)) (N (o423 P) (N (o679 P) L L) (N (o935 P) L L))) (N (o231 P) (N (o359 P) (N (o615 P) L L) (N (o871 P) L L)) (N (o487 P) (N (o743 P) L L) L)))) (N (o55 P) (N (o87 P) (N (o151 P) (N (o279 P) (N (o535 P) L L) (N (o791 P) L L)) (N (o407 P) (N (o663 P) L L) (N (o919 P) L L))) (N (o215 P) (N (o343 P) (N (o599 P) L L) (N (o855 P) L L)) (N (o471 P) (N (o727 P) L L) L))) (N (o119 P) (N (o183 P) (N (o311 P) (N (o567 P) L L) (N (o823 P) L L)) (N (o439 P) (N (o695 P) L L) (N (o951 P) L L))) (N (o247 P) (N (o375 P) (N (o631 P) L L) (N (o887 P) L L)) (N (o503 P) (N (o759 P) L L) L)))))) (N (o11_1 P) (N (o19_1 P) (N (o35_1 P) (N (o67 P) (N (o131 P) (N (o259 P) (N (o515 P) L L) (N (o771 P) L L)) (N (o387 P) (N (o643 P) L L) (N (o899 P) L L))) (N (o195 P) (N (o323 P) (N (o579 P) L L) (N (o835 P) L L)) (N (o451 P) (N (o707 P) L L) L))) (N (o99 P) (N (o163 P) (N (o291 P) (N (o547 P) L L) (N (o803 P) L L)) (N (o419 P) (N (o675 P) L L) (N (o931 P) L L))) (N (o227 P) (N (o355 P) (N (o611 P) L L) (N (o867 P) L L)) (N (o483 P) (N (o739 P) L L) L)))) (N (o51 P) (N (o83 P) (N (o147 P) (N (o275 P) (N (o531 P) L L) (N (o787 P) L L)) (N (o403 P) (N (o659 P) L L) (N (o915 P) L L))) (N (o211 P) (N (o339 P) (N (o595 P) L L) (N (o851 P) L L)) (N (o467 P) (N (o723 P) L L) L))) (N (o115 P) (N (o179 P) (N (o307 P) (N (o563 P) L L) (N (o819 P) L L)) (N (o435 P) (N (o691 P) L L) (N (o947 P) L L))) (N (o243 P) (N (o371 P) (N (o627 P) L L) (N (o883 P) L L)) (N (o499 P) (N (o755 P) L L) L))))) (N (o27_1 P) (N (o43 P) (N (o75 P) (N (o139 P) (N (o267 P) (N (o523 P) L L) (N (o779 P) L L)) (N (o395 P) (N (o651 P) L L) (N (o907 P) L L))) (N (o203 P) (N (o331 P) (N (o587 P) L L) (N (o843 P) L L)) (N (o459 P) (N (o715 P) L L) L))) (N (o107 P) (N (o171 P) (N (o299 P) (N (o555 P) L L) (N (o811 P) L L)) (N (o427 P) (N (o683 P) L L) (N (o939 P) L L))) (N (o235 P) (N (o363 P) (N (o619 P) L L) (N (o875 P) L L)) (N (o491 P) (N (o747 P) L L) L)))) (N (o59 P) (N (o91 P) (N (o155 P) (N (o283 P) (N (o539 P) L L) (N (o795 P) L L)) (N (o411 P) (N (o667 P) L L) (N (o923 P) L L))) (N (o219 P) (N (o347 P) (N (o603 P) L L) (N (o859 P) L L)) (N (o475 P) (N (o731 P) L L) L))) (N (o123 P) (N (o187 P) (N (o315 P) (N (o571 P) L L) (N (o827 P) L L)) (N (o443 P) (N (o699 P) L L) (N (o955 P) L L))) (N (o251 P) (N (o379 P) (N (o635 P) L L) (N (o891 P) L L)) (N (o507 P) (N (o763 P) L L) L))))))) (N (o5_1 P) (N (o9_1 P) (N (o17_1 P) (N (o33_1 P) (N (o65 P) (N (o129 P) (N (o257 P) (N (o513 P) L L) (N (o769 P) L L)) (N (o385 P) (N (o641 P) L L) (N (o897 P) L L))) (N (o193 P) (N (o321 P) (N (o577 P) L L) (N (o833 P) L L)) (N (o449 P) (N (o705 P) L L) L))) (N (o97 P) (N (o161 P) (N (o289 P) (N (o545 P) L L) (N (o801 P) L L)) (N (o417 P) (N (o673 P) L L) (N (o929 P) L L))) (N (o225 P) (N (o353 P) (N (o609 P) L L) (N (o865 P) L L)) (N (o481 P) (N (o737 P) L L) L)))) (N (o49 P) (N (o81 P) (N (o145 P) (N (o273 P) (N (o529 P) L L) (N (o785 P) L L)) (N (o401 P) (N (o657 P) L L) (N (o913 P) L L))) (N (o209 P) (N (o337 P) (N (o593 P) L L) (N (o849 P) L L)) (N (o465 P) (N (o721 P) L L) L))) (N (o113 P) (N (o177 P) (N (o305 P) (N (o561 P) L L) (N (o817 P) L L)) (N (o433 P) (N (o689 P) L L) (N (o945 P) L L))) (N (o241 P) (N (o369 P) (N (o625 P) L L) (N (o881 P) L L)) (N (o497 P) (N (o753 P) L L) L))))) (N (o25_1 P) (N (o41 P) (N (o73 P) (N (o137 P) (N (o265 P) (N (o521 P) L L) (N (o777 P) L L)) (N (o393 P) (N (o649 P) L L) (N (o905 P) L L))) (N (o201 P) (N (o329 P) (N (o585 P) L L) (N (o841 P) L L)) (N (o457 P) (N (o713 P) L L) L))) (N (o105 P) (N (o169 P) (N (o297 P) (N (o553 P) L L) (N (o809 P) L L)) (N (o425 P) (N (o681 P) L L) (N (o937 P) L L))) (N (o233 P) (N (o361 P) (N (o617 P) L L) (N (o873 P) L L)) (N (o489 P) (N (o745 P) L L) L)))) (N (o57 P) (N (o89 P) (N (o153 P) (N (o281 P) (N (o537 P) L L) (N (o793 P) L L)) (N (o409 P) (N (o665 P) L L) (N (o921 P) L L))) (N (o217 P) (N (o345 P) (N (o601 P) L L) (N (o857 P) L L)) (N (o473 P) (N (o729 P) L L) L))) (N (o121 P) (N (o185 P) (N (o313 P) (N (o569 P) L L) (N (o825 P) L L)) (N (o441 P) (N (o697 P) L L) (N (o953 P) L L))) (N (o249 P) (N (o377 P) (N (o633 P) L L) (N (o889 P) L L)) (N (o505 P) (N (o761 P) L L) L)))))) (N (o13_1 P) (N (o21_1 P) (N (o37_1 P) (N (o69 P) (N (o133 P) (N (o261 P) (N (o517 P) L L) (N (o773 P) L L)) (N (o389 P) (N (o645 P) L L) (N (o901 P) L L))) (N (o197 P) (N (o325 P) (N (o581 P) L L) (N (o837 P) L L)) (N (o453 P) (N (o709 P) L L) L))) (N (o101_1 P) (N (o165 P) (N (o293 P) (N (o549 P) L L) (N (o805 P) L L)) (N (o421 P) (N (o677 P) L L) (N (o933 P) L L))) (N (o229 P) (N (o357 P) (N (o613 P) L L) (N (o869 P) L L)) (N (o485 P) (N (o741 P) L L) L)))) (N (o53 P) (N (o85 P) (N (o149 P) (N (o277 P) (N (o533 P) L L) (N (o789 P) L L)) (N (o405 P) (N (o661 P) L L) (N (o917 P) L L))) (N (o213 P) (N (o341 P) (N (o597 P) L L) (N (o853 P) L L)) (N (o469 P) (N (o725 P) L L) L))) (N (o117 P) (N (o181 P) (N (o309 P) (N (o565 P) L L) (N (o821 P) L L)) (N (o437 P) (N (o693 P) L L) (N (o949 P) L L))) (N (o245 P) (N (o373 P) (N (o629 P) L L) (N (o885 P) L L)) (N (o501 P) (N (o757 P) L L) L))))) (N (o29_1 P) (N (o45 P) (N (o77 P) (N (o141 P) (N (o269 P) (N (o525 P) L L) (N (o781 P) L L)) (N (o397 P) (N (o653 P) L L) (N (o909 P) L L))) (N (o205 P) (N (o333 P) (N (o589 P) L L) (N (o845 P) L L)) (N (o461 P) (N (o717 P) L L) L))) (N (o109 P) (N (o173 P) (N (o301 P) (N (o557 P) L L) (N (o813 P) L L)) (N (o429 P) (N (o685 P) L L) (N (o941 P) L L))) (N (o237 P) (N (o365 P) (N (o621 P) L L) (N (o877 P) L L)) (N (o493 P) (N (o749 P) L L) L)))) (N (o61 P) (N (o93 P) (N (o157 P) (N (o285 P) (N (o541 P) L L) (N (o797 P) L L)) (N (o413 P) (N (o669 P) L L) (N (o925 P) L L))) (N (o221 P) (N (o349 P) (N (o605 P) L L) (N (o861 P) L L)) (N (o477 P) (N (o733 P) L L) L))) (N (o125 P) (N (o189 P) (N (o317 P) (N (o573 P) L L) (N (o829 P) L L)) (N (o445 P) (N (o701 P) L L) L)) (N (o253 P) (N (o381 P) (N (o637 P) L L) (N (o893 P) L L)) (N (o509 P) (N (o765 P) L L) L)))))))) (N (o2_1 P) (N (o4_1 P) (N (o8 P) (N (o16_1 P) (N (o32_1 P) (N (o64 P) (N (o128 P) (N (o256 P) (N (o512 P) L L) (N (o768 P) L L)) (N (o384 P) (N (o640 P) L L) (N (o896 P) L L))) (N (o192 P) (N (o320 P) (N (o576 P) L L) (N (o832 P) L L)) (N (o448 P) (N (o704 P) L L) L))) (N (o96 P) (N (o160 P) (N (o288 P) (N (o544 P) L L) (N (o800 P) L L)) (N (o416 P) (N (o672 P) L L) (N (o928 P) L L))) (N (o224 P) (N (o352 P) (N (o608 P) L L) (N (o864 P) L L)) (N (o480 P) (N (o736 P) L L) L)))) (N (o48 P) (N (o80 P) (N (o144 P) (N (o272 P) (N (o528 P) L L) (N (o784 P) L L)) (N (o400 P) (N (o656 P) L L) (N (o912 P) L L))) (N (o208 P) (N (o336 P) (N (o592 P) L L) (N (o848 P) L L)) (N (o464 P) (N (o720 P) L L) L))) (N (o112 P) (N (o176 P) (N (o304 P) (N (o560 P) L L) (N (o816 P) L L)) (N (o432 P) (N (o688 P) L L) (N (o944 P) L L))) (N (o240 P) (N (o368 P) (N (o624 P) L L) (N (o880 P) L L)) (N (o496 P) (N (o752 P) L L) L))))) (N (o24_1 P) (N (o40_5 P) (N (o72 P) (N (o136 P) (N (o264 P) (N (o520 P) L L) (N (o776 P) L L)) (N (o392 P) (N (o648 P) L L) (N (o904 P) L L))) (N (o200 P) (N (o328 P) (N (o584 P) L L) (N (o840 P) L L)) (N (o456 P) (N (o712 P) L L) L))) (N (o104 P) (N (o168 P) (N (o296 P) (N (o552 P) L L) (N (o808 P) L L)) (N (o424 P) (N (o680 P) L L) (N (o936 P) L L))) (N (o232 P) (N (o360 P) (N (o616 P) L L) (N (o872 P) L L)) (N (o488 P) (N (o744 P) L L) L)))) (N (o56 P) (N (o88 P) (N (o152 P) (N (o280 P) (N (o536 P) L L) (N (o792 P) L L)) (N (o408 P) (N (o664 P) L L) (N (o920 P) L L))) (N (o216 P) (N (o344 P) (N (o600 P) L L) (N (o856 P) L L)) (N (o472 P) (N (o728 P) L L) L))) (N (o120 P) (N (o184 P) (N (o312 P) (N (o568 P) L L) (N (o824 P) L L)) (N (o440 P) (N (o696 P) L L) (N (o952 P) L L))) (N (o248 P) (N (o376 P) (N (o632 P) L L) (N (o888 P) L L)) (N (o504 P) (N (o760 P) L L) L)))))) (N (o12_1 P) (N (o20_1 P) (N (o36_1 P) (N (o68 P) (N (o132 P) (N (o260 P) (N (o516 P) L L) (N (o772 P) L L)) (N (o388 P) (N (o644 P) L L) (N (o900 P) L L))) (N (o196 P) (N (o324 P) (N (o580 P) L L) (N (o836 P) L L)) (N (o452 P) (N (o708 P) L L) L))) (N (o100 P) (N (o164 P) (N (o292 P) (N (o548 P) L L) (N (o804 P) L L)) (N (o420 P) (N (o676 P) L L) (N (o932 P) L L))) (N (o228 P) (N (o356 P) (N (o612 P) L L) (N (o868 P) L L)) (N (o484 P) (N (o740 P) L L) L)))) (N (o52 P) (N (o84 P) (N (o148 P) (N (o276 P) (N (o532 P) L L) (N (o788 P) L L)) (N (o404 P) (N (o660 P) L L) (N (o916 P) L L))) (N (o212 P) (N (o340 P) (N (o596 P) L L) (N (o852 P) L L)) (N (o468 P) (N (o724 P) L L) L))) (N (o116 P) (N (o180 P) (N (o308 P) (N (o564 P) L L) (N (o820 P) L L)) (N (o436 P) (N (o692 P) L L) (N (o948 P) L L))) (N (o244 P) (N (o372 P) (N (o628 P) L L) (N (o884 P) L L)) (N (o500 P) (N (o756 P) L L) L))))) (N (o28_1 P) (N (o44 P) (N (o76 P) (N (o140 P) (N (o268 P) (N (o524 P) L L) (N (o780 P) L L)) (N (o396 P) (N (o652 P) L L) (N (o908 P) L L))) (N (o204 P) (N (o332 P) (N (o588 P) L L) (N (o844 P) L L)) (N (o460 P) (N (o716 P) L L) L))) (N (o108 P) (N (o172 P) (N (o300 P) (N (o556 P) L L) (N (o812 P) L L)) (N (o428 P) (N (o684 P) L L) (N (o940 P) L L))) (N (o236 P) (N (o364 P) (N (o620 P) L L) (N (o876 P) L L)) (N (o492 P) (N (o748 P) L L) L)))) (N (o60 P) (N (o92 P) (N (o156 P) (N (o284 P) (N (o540 P) L L) (N (o796 P) L L)) (N (o412 P) (N (o668 P) L L) (N (o924 P) L L))) (N (o220 P) (N (o348 P) (N (o604 P) L L) (N (o860 P) L L)) (N (o476 P) (N (o732 P) L L) L))) (N (o124 P) (N (o188 P) (N (o316 P) (N (o572 P) L L) (N (o828 P) L L)) (N (o444 P) (N (o700 P) L L) L)) (N (o252 P) (N (o380 P) (N (o636 P) L L) (N (o892 P) L L)) (N (o508 P) (N (o764 P) L L) L))))))) (N (o6 P) (N (o10_1 P) (N (o18_1 P) (N (o34_1 P) (N (o66 P) (N (o130 P) (N (o258 P) (N (o514 P) L L) (N (o770 P) L L)) (N (o386 P) (N (o642 P) L L) (N (o898 P) L L))) (N (o194 P) (N (o322 P) (N (o578 P) L L) (N (o834 P) L L)) (N (o450 P) (N (o706 P) L L) L))) (N (o98 P) (N (o162 P) (N (o290 P) (N (o546 P) L L) (N (o802 P) L L)) (N (o418 P) (N (o674 P) L L) (N (o930 P) L L))) (N (o226 P) (N (o354 P) (N (o610 P) L L) (N (o866 P) L L)) (N (o482 P) (N (o738 P) L L) L)))) (N (o50 P) (N (o82 P) (N (o146 P) (N (o274 P) (N (o530 P) L L) (N (o786 P) L L)) (N (o402 P) (N (o658 P) L L) (N (o914 P) L L))) (N (o210 P) (N (o338 P) (N (o594 P) L L) (N (o850 P) L L)) (N (o466 P) (N (o722 P) L L) L))) (N (o114 P) (N (o178 P) (N (o306 P) (N (o562 P) L L) (N (o818 P) L L)) (N (o434 P) (N (o690 P) L L) (N (o946 P) L L))) (N (o242 P) (N (o370 P) (N (o626 P) L L) (N (o882 P) L L)) (N (o498 P) (N (o754 P) L L) L))))) (N (o26_1 P) (N (o42 P) (N (o74 P) (N (o138 P) (N (o266 P) (N (o522 P) L L) (N (o778 P) L L)) (N (o394 P) (N (o650 P) L L) (N (o906 P) L L))) (N (o202 P) (N (o330 P) (N (o586 P) L L) (N (o842 P) L L)) (N (o458 P) (N (o714 P) L L) L))) (N (o106 P) (N (o170 P) (N (o298 P) (N (o554 P) L L) (N (o810 P) L L)) (N (o426 P) (N (o682 P) L L) (N (o938 P) L L))) (N (o234 P) (N (o362 P) (N (o618 P) L L) (N (o874 P) L L)) (N (o490 P) (N (o746 P) L L) L)))) (N (o58 P) (N (o90 P) (N (o154 P) (N (o282 P) (N (o538 P) L L) (N (o794 P) L L)) (N (o410 P) (N (o666 P) L L) (N (o922 P) L L))) (N (o218 P) (N (o346 P) (N (o602 P) L L) (N (o858 P) L L)) (N (o474 P) (N (o730 P) L L) L))) (N (o122 P) (N (o186 P) (N (o314 P) (N (o570 P) L L) (N (o826 P) L L)) (N (o442 P) (N (o698 P) L L) (N (o954 P) L L))) (N (o250 P) (N (o378 P) (N (o634 P) L L) (N (o890 P) L L)) (N (o506 P) (N (o762 P) L L) L)))))) (N (o14_1 P) (N (o22_1 P) (N (o38_1 P) (N (o70 P) (N (o134 P) (N (o262 P) (N (o518 P) L L) (N (o774 P) L L)) (N (o390 P) (N (o646 P) L L) (N (o902 P) L L))) (N (o198 P) (N (o326 P) (N (o582 P) L L) (N (o838 P) L L)) (N (o454 P) (N (o710 P) L L) L))) (N (o102 P) (N (o166 P) (N (o294 P) (N (o550 P) L L) (N (o806 P) L L)) (N (o422 P) (N (o678 P) L L) (N (o934 P) L L))) (N (o230 P) (N (o358 P) (N (o614 P) L L) (N (o870 P) L L)) (N (o486 P) (N (o742 P) L L) L)))) (N (o54 P) (N (o86 P) (N (o150 P) (N (o278 P) (N (o534 P) L L) (N (o790 P) L L)) (N (o406 P) (N (o662 P) L L) (N (o918 P) L L))) (N (o214 P) (N (o342 P) (N (o598 P) L L) (N (o854 P) L L)) (N (o470 P) (N (o726 P) L L) L))) (N (o118 P) (N (o182 P) (N (o310 P) (N (o566 P) L L) (N (o822 P) L L)) (N (o438 P) (N (o694 P) L L) (N (o950 P) L L))) (N (o246 P) (N (o374 P) (N (o630 P) L L) (N (o886 P) L L)) (N (o502 P) (N (o758 P) L L) L))))) (N (o30 P) (N (o46 P) (N (o78 P) (N (o142 P) (N (o270 P) (N (o526 P) L L) (N (o782 P) L L)) (N (o398 P) (N (o654 P) L L) (N (o910 P) L L))) (N (o206 P) (N (o334 P) (N (o590 P) L L) (N (o846 P) L L)) (N (o462 P) (N (o718 P) L L) L))) (N (o110 P) (N (o174 P) (N (o302 P) (N (o558 P) L L) (N (o814 P) L L)) (N (o430 P) (N (o686 P) L L) (N (o942 P) L L))) (N (o238 P) (N (o366 P) (N (o622 P) L L) (N (o878 P) L L)) (N (o494 P) (N (o750 P) L L) L)))) (N (o62 P) (N (o94 P) (N (o158 P) (N (o286 P) (N (o542 P) L L) (N (o798 P) L L)) (N (o414 P) (N (o670 P) L L) (N (o926 P) L L))) (N (o222 P) (N (o350 P) (N (o606 P) L L) (N (o862 P) L L)) (N (o478 P) (N (o734 P) L L) L))) (N (o126 P) (N (o190 P) (N (o318 P) (N (o574 P) L L) (N (o830 P) L L)) (N (o446 P) (N (o702 P) L L) L)) (N (o254 P) (N (o382 P) (N (o638 P) L L) (N (o894 P) L L)) (N (o510 P) (N (o766 P) L L) L)))))))))
noncomputable def S131 (w : World) (os : OsState) : SharedT := ⟨T131 w.params, 956, {}, #[], {}, 1649, os⟩
noncomputable def o3_8 (P : Params) : Obj := ⟨.type "dict", none, (.dict #[ce P "__name__" 165 (.str (PySem.Str.mk #[108, 97, 119, 95, 101, 118, 101, 114, 116, 114, 101, 97, 100, 115, 95, 107, 49, 50, 95, 119, 104, 111, 108, 101, 95, 119, 97, 108, 107, 115, 95, 115, 116, 101, 112, 95, 98, 121, 95, 115, 116, 101, 112]) 1620), ce P "__doc__" 166 .none, ce P "__package__" 167 .none, ce P "__loader__" 168 (.builtin "__main__.__loader__#opaque"), ce P "__spec__" 169 .none, ce P "__annotations__" 170 (.ref 6), ce P "__builtins__" 171 (.ref 4), ce P "__file__" 173 (.str "/claim/cut.py" 172), ce P "__cached__" 174 .none, ce P "gcd" 370 (.builtin "math.gcd"), ce P "lcm" 373 (.builtin "math.lcm"), ce P "_wall" 386 (.ref 49), ce P "MOST_ORDERS" 388 (.int 8 387), ce P "MOST_STEPS" 390 (.int 9 389), ce P "MOST_MOVE" 392 (.int 1000 391), ce P "GREATEST" 396 (.int 1000000000000000000000000000000 395), ce P "is_integer" 405 (.ref 56), ce P "is_within" 414 (.ref 63), ce P "is_pair" 421 (.ref 70), ce P "is_square" 428 (.ref 77), ce P "is_time" 435 (.ref 84), ce P "WrongValue" 462 (.ref 101), ce P "InvalidRow" 487 (.ref 121), ce P "InvalidSquare" 512 (.ref 140), ce P "InvalidWay" 537 (.ref 159), ce P "InvalidTime" 562 (.ref 178), ce P "InvalidParts" 587 (.ref 197), ce P "lane_of" 602 (.ref 206), ce P "square_in" 611 (.ref 213), ce P "lanes_trodden" 617 (.ref 218), ce P "slope_of" 628 (.ref 225), ce P "line_through" 641 (.ref 232), ce P "square_on" 653 (.ref 239), ce P "crossing" 672 (.ref 246), ce P "place" 685 (.ref 253), ce P "primes_of" 696 (.ref 260), ce P "common_multiple" 705 (.ref 267), ce P "inverse" 718 (.ref 274), ce P "repeated" 730 (.ref 281), ce P "window" 741 (.ref 288), ce P "least" 751 (.ref 295), ce P "full" 758 (.ref 302), ce P "ones" 765 (.ref 309), ce P "places" 771 (.ref 314), ce P "raised" 777 (.ref 319), ce P "BOTH" 780 (.ref 322), ce P "EITHER" 781 (.ref 325), ce P "FIRST" 782 (.ref 328), ce P "ONE" 783 (.ref 331), ce P "NEVER" 785 (.ref 333), ce P "MOST_TABLED" 787 (.int 360 786), ce P "plain" 795 (.ref 340), ce P "holds" 809 (.ref 347), ce P "told" 826 (.ref 354), ce P "common_period" 832 (.ref 359), ce P "tabled" 840 (.ref 366), ce P "answers" 849 (.ref 373), ce P "layers" 855 (.ref 378), ce P "joined" 861 (.ref 383), ce P "MOST_BITS" 865 (.int 65536 864), ce P "seen_along" 871 (.ref 388), ce P "gathered" 877 (.ref 393), ce P "taken" 888 (.ref 400), ce P "loosened" 894 (.ref 405), ce P "deciding" 904 (.ref 412), ce P "primes_in" 910 (.ref 417), ce P "shared_prime" 916 (.ref 422), ce P "leave_some" 922 (.ref 427), ce P "parted" 928 (.ref 432), ce P "left_in_bits" 934 (.ref 437), ce P "left_of" 940 (.ref 442), ce P "FEW_MARKS" 944 (.int 8 943), ce P "sides" 958 (.ref 449), ce P "meeting_point" 971 (.ref 456), ce P "followers" 977 (.ref 461), ce P "holds_any" 983 (.ref 466), ce P "cases" 1000 (.ref 473), ce P "seen_from" 1006 (.ref 478), ce P "many_in" 1021 (.ref 486), ce P "many_in_cases" 1035 (.ref 493), ce P "NOTHING" 1039 (.ref 498), ce P "MOST_WRITTEN" 1041 (.int 5040 1040), ce P "track_of" 1047 (.ref 503), ce P "rule_about" 1060 (.ref 510), ce P "simplified" 1066 (.ref 515), ce P "written_short" 1078 (.ref 522), ce P "rule_at" 1088 (.ref 529), ce P "on_track" 1096 (.ref 536), ce P "joined_tracks" 1102 (.ref 541), ce P "endless_track" 1110 (.ref 548), ce P "stretches" 1116 (.ref 553), ce P "many_on" 1122 (.ref 558), ce P "more_on" 1134 (.ref 565), ce P "laid" 1142 (.ref 570), ce P "slopes_of" 1148 (.ref 575), ce P "crossings" 1154 (.ref 580), ce P "tracks_over" 1160 (.ref 585), ce P "settled" 1166 (.ref 590), ce P "in_field" 1177 (.ref 597), ce P "joined_fields" 1183 (.ref 602), ce P "endless_field" 1189 (.ref 607), ce P "told_by_tracks" 1195 (.ref 612), ce P "many_in_field" 1201 (.ref 617), ce P "any_in_field" 1207 (.ref 622), ce P "MOST_PARTS" 1211 (.int 20 1210), ce P "Squares" 1311 (.ref 702), ce P "is_ray" 1317 (.ref 711), ce P "with_field" 1325 (.ref 718), ce P "of_parts" 1333 (.ref 725), ce P "WAYS" 1337 (.str "NESW" 1336), ce P "MOVES" 1356 (.ref 726), ce P "TURNS" 1366 (.ref 731), ce P "is_row" 1372 (.ref 736), ce P "is_order" 1378 (.ref 741), ce P "is_way" 1385 (.ref 748), ce P "turned_way" 1393 (.ref 755), ce P "one_run" 1403 (.ref 762), ce P "ways_gone" 1416 (.ref 769), ce P "offsets_along" 1429 (.ref 776), ce P "Walker" 1595 (.ref 911), ce P "from_start" 1603 (.ref 922), ce P "square_at" 1613 (.ref 929), ce P "along_lanes" 1619 (.ref 934), ce P "_law_cup" 1631 (.ref 941), ce P "_law_sip" 1640 (.ref 948), ce P "_law_pick" 1648 (.ref 955), ce P "_law_row" 1654 (.ref 960), ce P "_law_start" 1662 (.ref 967), ce P "_law_steps" 1668 (.ref 972), ce P "_law_on" 1679 (.ref 979), ce P "_law_path" 1691 (.ref 986), ce P "_law_four" 1697 (.ref 991), ce P "_law_some" 1706 (.ref 998), ce P "_law_far" 1718 (.ref 1005), ce P "_law_right" 1737 (.ref 1012), ce P "law" 1743 (.ref 1017)] 136), #[]⟩
noncomputable def o40_6 (P : Params) : Obj := ⟨.none, none, (.fields #[.int 2 0, .int 0 0, .ref 48, .int 10 0, .int 0 0, .ref 55, .int 12 0, .int 0 0, .ref 62, .int 14 0, .int 0 0, .ref 69, .int 16 0, .int 0 0, .ref 76, .int 18 0, .int 0 0, .ref 83, .int 21 0, .int 0 0, .ref 90, .int 25 0, .int 0 0, .ref 110, .int 29 0, .int 0 0, .ref 129, .int 33 0, .int 0 0, .ref 148, .int 37 0, .int 0 0, .ref 167, .int 41 0, .int 0 0, .ref 186, .int 46 0, .int 0 0, .ref 205, .int 55 0, .int 0 0, .ref 212, .int 57 0, .int 0 0, .ref 217, .int 64 0, .int 0 0, .ref 224, .int 69 0, .int 0 0, .ref 231, .int 74 0, .int 0 0, .ref 238, .int 77 0, .int 0 0, .ref 245, .int 84 0, .int 0 0, .ref 252, .int 94 0, .int 0 0, .ref 259, .int 106 0, .int 0 0, .ref 266, .int 111 0, .int 0 0, .ref 273, .int 120 0, .int 0 0, .ref 280, .int 126 0, .int 0 0, .ref 287, .int 129 0, .int 0 0, .ref 294, .int 137 0, .int 0 0, .ref 301, .int 139 0, .int 0 0, .ref 308, .int 141 0, .int 0 0, .ref 313, .int 143 0, .int 0 0, .ref 318, .int 152 0, .int 0 0, .ref 339, .int 157 0, .int 0 0, .ref 346, .int 163 0, .int 0 0, .ref 353, .int 170 0, .int 0 0, .ref 358, .int 172 0, .int 0 0, .ref 365, .int 179 0, .int 0 0, .ref 372, .int 183 0, .int 0 0, .ref 377, .int 196 0, .int 0 0, .ref 382, .int 210 0, .int 0 0, .ref 387, .int 216 0, .int 0 0, .ref 392, .int 222 0, .int 0 0, .ref 399, .int 227 0, .int 0 0, .ref 404, .int 235 0, .int 0 0, .ref 411, .int 243 0, .int 0 0, .ref 416, .int 245 0, .int 0 0, .ref 421, .int 250 0, .int 0 0, .ref 426, .int 264 0, .int 0 0, .ref 431, .int 276 0, .int 0 0, .ref 436, .int 281 0, .int 0 0, .ref 441, .int 295 0, .int 0 0, .ref 448, .int 301 0, .int 0 0, .ref 455, .int 308 0, .int 0 0, .ref 460, .int 321 0, .int 0 0, .ref 465, .int 340 0, .int 0 0, .ref 472, .int 354 0, .int 0 0, .ref 477, .int 358 0, .int 0 0, .ref 485, .int 370 0, .int 0 0, .ref 492, .int 383 0, .int 0 0, .ref 502, .int 386 0, .int 0 0, .ref 509, .int 396 0, .int 0 0, .ref 514, .int 400 0, .int 0 0, .ref 521, .int 408 0, .int 0 0, .ref 528, .int 411 0, .int 0 0, .ref 535, .int 413 0, .int 0 0, .ref 540, .int 418 0, .int 0 0, .ref 547, .int 421 0, .int 0 0, .ref 552, .int 424 0, .int 0 0, .ref 557, .int 426 0, .int 0 0, .ref 564, .int 436 0, .int 0 0, .ref 569, .int 448 0, .int 0 0, .ref 574, .int 450 0, .int 0 0, .ref 579, .int 453 0, .int 0 0, .ref 584, .int 456 0, .int 0 0, .ref 589, .int 461 0, .int 0 0, .ref 596, .int 466 0, .int 0 0, .ref 601, .int 474 0, .int 0 0, .ref 606, .int 477 0, .int 0 0, .ref 611, .int 486 0, .int 0 0, .ref 616, .int 490 0, .int 0 0, .ref 621, .int 498 0, .int 0 0, .ref 628, .int 537 0, .int 0 0, .ref 710, .int 543 0, .int 0 0, .ref 717, .int 547 0, .int 0 0, .ref 724, .int 553 0, .int 0 0, .ref 735, .int 560 0, .int 0 0, .ref 740, .int 562 0, .int 0 0, .ref 747, .int 564 0, .int 0 0, .ref 754, .int 566 0, .int 0 0, .ref 761, .int 574 0, .int 0 0, .ref 768, .int 584 0, .int 0 0, .ref 775, .int 593 0, .int 0 0, .ref 782, .int 670 0, .int 0 0, .ref 921, .int 672 0, .int 0 0, .ref 928, .int 675 0, .int 0 0, .ref 933, .int 685 0, .int 0 0, .ref 940, .int 690 0, .int 0 0, .ref 947, .int 696 0, .int 0 0, .ref 954, .int 698 0, .int 0 0, .ref 959, .int 707 0, .int 0 0, .ref 966, .int 710 0, .int 0 0, .ref 971, .int 719 0, .int 0 0, .ref 978, .int 724 0, .int 0 0, .ref 985, .int 729 0, .int 0 0, .ref 990, .int 731 0, .int 0 0, .ref 997, .int 733 0, .int 0 0, .ref 1004, .int 737 0, .int 0 0, .ref 1011, .int 757 0, .int 0 0, .ref 1016]), #[]⟩
noncomputable def o956 (P : Params) : Obj := ⟨.type "tuple", none, (.seq #[] 0), #[]⟩
noncomputable def o957 (P : Params) : Obj := ⟨.none, none, (.fields #[]), #[]⟩
noncomputable def o958 (P : Params) : Obj := ⟨.none, none, (cf (top 132) "_law_row" "_law_row" 0 .none .none .none .none none .none .none 0), #[]⟩
noncomputable def o959 (P : Params) : Obj := ⟨.type "code", none, (.fields #[.str "_law_row" 1649, .str "_law_row" 1650, .str "/claim/cut.py" 1651, .int 698 0, .int 3 0, .int 0 0, .int 0 0, .int 3 0, .ref 956, .bool true, .int 374 0, .ref 957, .none, .none, .none, .ref 958, .int 1652 0, .int 698 0, .str "/claim/cut.py" 1653]), #[]⟩
noncomputable def o960 (P : Params) : Obj := ⟨.type "function", none, (cf (top 132) "_law_row" "_law_row" 3 .none .none .none (.str (PySem.Str.mk #[108, 97, 119, 95, 101, 118, 101, 114, 116, 114, 101, 97, 100, 115, 95, 107, 49, 50, 95, 119, 104, 111, 108, 101, 95, 119, 97, 108, 107, 115, 95, 115, 116, 101, 112, 95, 98, 121, 95, 115, 116, 101, 112]) 1620) none (.ref 959) .none 0), #[]⟩
noncomputable def o961 (P : Params) : Obj := ⟨.type "tuple", none, (.seq #[] 0), #[]⟩
noncomputable def o962 (P : Params) : Obj := ⟨.none, none, (.fields #[]), #[]⟩
noncomputable def o963 (P : Params) : Obj := ⟨.type "tuple", none, (.seq #[.str "cup" 1658, .str "far" 1659] 0), #[]⟩
noncomputable def o964 (P : Params) : Obj := ⟨.type "tuple", none, (.seq #[] 0), #[]⟩
noncomputable def o965 (P : Params) : Obj := ⟨.none, none, (cf (top 133) "_law_start" "_law_start" 0 .none .none .none .none none .none .none 0), #[]⟩
noncomputable def o966 (P : Params) : Obj := ⟨.type "code", none, (.fields #[.str "_law_start" 1655, .str "_law_start" 1656, .str "/claim/cut.py" 1657, .int 707 0, .int 1 0, .int 0 0, .int 0 0, .int 3 0, .ref 961, .bool true, .int 374 0, .ref 962, .none, .ref 963, .ref 964, .ref 965, .int 1660 0, .int 707 0, .str "/claim/cut.py" 1661]), #[]⟩
noncomputable def o967 (P : Params) : Obj := ⟨.type "function", none, (cf (top 133) "_law_start" "_law_start" 3 .none .none .none (.str (PySem.Str.mk #[108, 97, 119, 95, 101, 118, 101, 114, 116, 114, 101, 97, 100, 115, 95, 107, 49, 50, 95, 119, 104, 111, 108, 101, 95, 119, 97, 108, 107, 115, 95, 115, 116, 101, 112, 95, 98, 121, 95, 115, 116, 101, 112]) 1620) none (.ref 966) .none 0), #[]⟩
noncomputable def o968 (P : Params) : Obj := ⟨.type "tuple", none, (.seq #[] 0), #[]⟩
noncomputable def o969 (P : Params) : Obj := ⟨.none, none, (.fields #[]), #[]⟩
noncomputable def o970 (P : Params) : Obj := ⟨.none, none, (cf (top 134) "_law_steps" "_law_steps" 0 .none .none .none .none none .none .none 0), #[]⟩
noncomputable def o971 (P : Params) : Obj := ⟨.type "code", none, (.fields #[.str "_law_steps" 1663, .str "_law_steps" 1664, .str "/claim/cut.py" 1665, .int 710 0, .int 3 0, .int 0 0, .int 0 0, .int 3 0, .ref 968, .bool true, .int 374 0, .ref 969, .none, .none, .none, .ref 970, .int 1666 0, .int 710 0, .str "/claim/cut.py" 1667]), #[]⟩
noncomputable def o972 (P : Params) : Obj := ⟨.type "function", none, (cf (top 134) "_law_steps" "_law_steps" 3 .none .none .none (.str (PySem.Str.mk #[108, 97, 119, 95, 101, 118, 101, 114, 116, 114, 101, 97, 100, 115, 95, 107, 49, 50, 95, 119, 104, 111, 108, 101, 95, 119, 97, 108, 107, 115, 95, 115, 116, 101, 112, 95, 98, 121, 95, 115, 116, 101, 112]) 1620) none (.ref 971) .none 0), #[]⟩
noncomputable def o973 (P : Params) : Obj := ⟨.type "tuple", none, (.seq #[] 0), #[]⟩
noncomputable def o974 (P : Params) : Obj := ⟨.none, none, (.fields #[]), #[]⟩
noncomputable def o975 (P : Params) : Obj := ⟨.type "tuple", none, (.seq #[.str "spot" 1672, .str "side" 1673, .str "many" 1674, .str "x" 1675, .str "y" 1676] 0), #[]⟩
noncomputable def o976 (P : Params) : Obj := ⟨.type "tuple", none, (.seq #[] 0), #[]⟩
noncomputable def o977 (P : Params) : Obj := ⟨.none, none, (cf (top 135) "_law_on" "_law_on" 0 .none .none .none .none none .none .none 0), #[]⟩
noncomputable def o978 (P : Params) : Obj := ⟨.type "code", none, (.fields #[.str "_law_on" 1669, .str "_law_on" 1670, .str "/claim/cut.py" 1671, .int 719 0, .int 3 0, .int 0 0, .int 0 0, .int 3 0, .ref 973, .bool true, .int 374 0, .ref 974, .none, .ref 975, .ref 976, .ref 977, .int 1677 0, .int 719 0, .str "/claim/cut.py" 1678]), #[]⟩
noncomputable def o979 (P : Params) : Obj := ⟨.type "function", none, (cf (top 135) "_law_on" "_law_on" 3 .none .none .none (.str (PySem.Str.mk #[108, 97, 119, 95, 101, 118, 101, 114, 116, 114, 101, 97, 100, 115, 95, 107, 49, 50, 95, 119, 104, 111, 108, 101, 95, 119, 97, 108, 107, 115, 95, 115, 116, 101, 112, 95, 98, 121, 95, 115, 116, 101, 112]) 1620) none (.ref 978) .none 0), #[]⟩
noncomputable def o980 (P : Params) : Obj := ⟨.type "tuple", none, (.seq #[] 0), #[]⟩
noncomputable def o981 (P : Params) : Obj := ⟨.none, none, (.fields #[]), #[]⟩
noncomputable def o982 (P : Params) : Obj := ⟨.type "tuple", none, (.seq #[.str "orders" 1683, .str "begin" 1684, .str "side" 1685, .str "many" 1686, .str "found" 1687, .str "step" 1688] 0), #[]⟩
noncomputable def o983 (P : Params) : Obj := ⟨.type "tuple", none, (.seq #[] 0), #[]⟩
noncomputable def o984 (P : Params) : Obj := ⟨.none, none, (cf (top 136) "_law_path" "_law_path" 0 .none .none .none .none none .none .none 0), #[]⟩
noncomputable def o985 (P : Params) : Obj := ⟨.type "code", none, (.fields #[.str "_law_path" 1680, .str "_law_path" 1681, .str "/claim/cut.py" 1682, .int 724 0, .int 4 0, .int 0 0, .int 0 0, .int 3 0, .ref 980, .bool true, .int 374 0, .ref 981, .none, .ref 982, .ref 983, .ref 984, .int 1689 0, .int 724 0, .str "/claim/cut.py" 1690]), #[]⟩
noncomputable def o986 (P : Params) : Obj := ⟨.type "function", none, (cf (top 136) "_law_path" "_law_path" 3 .none .none .none (.str (PySem.Str.mk #[108, 97, 119, 95, 101, 118, 101, 114, 116, 114, 101, 97, 100, 115, 95, 107, 49, 50, 95, 119, 104, 111, 108, 101, 95, 119, 97, 108, 107, 115, 95, 115, 116, 101, 112, 95, 98, 121, 95, 115, 116, 101, 112]) 1620) none (.ref 985) .none 0), #[]⟩
noncomputable def o987 (P : Params) : Obj := ⟨.type "tuple", none, (.seq #[] 0), #[]⟩
noncomputable def o988 (P : Params) : Obj := ⟨.none, none, (.fields #[]), #[]⟩
noncomputable def o989 (P : Params) : Obj := ⟨.none, none, (cf (top 137) "_law_four" "_law_four" 0 .none .none .none .none none .none .none 0), #[]⟩
noncomputable def o990 (P : Params) : Obj := ⟨.type "code", none, (.fields #[.str "_law_four" 1692, .str "_law_four" 1693, .str "/claim/cut.py" 1694, .int 729 0, .int 1 0, .int 0 0, .int 0 0, .int 3 0, .ref 987, .bool true, .int 374 0, .ref 988, .none, .none, .none, .ref 989, .int 1695 0, .int 729 0, .str "/claim/cut.py" 1696]), #[]⟩
noncomputable def o991 (P : Params) : Obj := ⟨.type "function", none, (cf (top 137) "_law_four" "_law_four" 3 .none .none .none (.str (PySem.Str.mk #[108, 97, 119, 95, 101, 118, 101, 114, 116, 114, 101, 97, 100, 115, 95, 107, 49, 50, 95, 119, 104, 111, 108, 101, 95, 119, 97, 108, 107, 115, 95, 115, 116, 101, 112, 95, 98, 121, 95, 115, 116, 101, 112]) 1620) none (.ref 990) .none 0), #[]⟩
noncomputable def o992 (P : Params) : Obj := ⟨.type "tuple", none, (.seq #[] 0), #[]⟩
noncomputable def o993 (P : Params) : Obj := ⟨.none, none, (.fields #[]), #[]⟩
noncomputable def o994 (P : Params) : Obj := ⟨.type "tuple", none, (.seq #[.str "orders" 1701, .str "begin" 1702, .str "side" 1703] 0), #[]⟩
noncomputable def o995 (P : Params) : Obj := ⟨.type "tuple", none, (.seq #[] 0), #[]⟩
noncomputable def o996 (P : Params) : Obj := ⟨.none, none, (cf (top 138) "_law_some" "_law_some" 0 .none .none .none .none none .none .none 0), #[]⟩
noncomputable def o997 (P : Params) : Obj := ⟨.type "code", none, (.fields #[.str "_law_some" 1698, .str "_law_some" 1699, .str "/claim/cut.py" 1700, .int 731 0, .int 3 0, .int 0 0, .int 0 0, .int 3 0, .ref 992, .bool true, .int 374 0, .ref 993, .none, .ref 994, .ref 995, .ref 996, .int 1704 0, .int 731 0, .str "/claim/cut.py" 1705]), #[]⟩
noncomputable def o998 (P : Params) : Obj := ⟨.type "function", none, (cf (top 138) "_law_some" "_law_some" 3 .none .none .none (.str (PySem.Str.mk #[108, 97, 119, 95, 101, 118, 101, 114, 116, 114, 101, 97, 100, 115, 95, 107, 49, 50, 95, 119, 104, 111, 108, 101, 95, 119, 97, 108, 107, 115, 95, 115, 116, 101, 112, 95, 98, 121, 95, 115, 116, 101, 112]) 1620) none (.ref 997) .none 0), #[]⟩
noncomputable def o999 (P : Params) : Obj := ⟨.type "tuple", none, (.seq #[] 0), #[]⟩
noncomputable def o1000 (P : Params) : Obj := ⟨.none, none, (.fields #[]), #[]⟩
noncomputable def o1001 (P : Params) : Obj := ⟨.type "tuple", none, (.seq #[.str "some" 1710, .str "at" 1711, .str "runs" 1712, .str "rest" 1713, .str "x" 1714, .str "y" 1715] 0), #[]⟩
noncomputable def o1002 (P : Params) : Obj := ⟨.type "tuple", none, (.seq #[] 0), #[]⟩
noncomputable def o1003 (P : Params) : Obj := ⟨.none, none, (cf (top 139) "_law_far" "_law_far" 0 .none .none .none .none none .none .none 0), #[]⟩
noncomputable def o1004 (P : Params) : Obj := ⟨.type "code", none, (.fields #[.str "_law_far" 1707, .str "_law_far" 1708, .str "/claim/cut.py" 1709, .int 733 0, .int 2 0, .int 0 0, .int 0 0, .int 3 0, .ref 999, .bool true, .int 374 0, .ref 1000, .none, .ref 1001, .ref 1002, .ref 1003, .int 1716 0, .int 733 0, .str "/claim/cut.py" 1717]), #[]⟩
noncomputable def o1005 (P : Params) : Obj := ⟨.type "function", none, (cf (top 139) "_law_far" "_law_far" 3 .none .none .none (.str (PySem.Str.mk #[108, 97, 119, 95, 101, 118, 101, 114, 116, 114, 101, 97, 100, 115, 95, 107, 49, 50, 95, 119, 104, 111, 108, 101, 95, 119, 97, 108, 107, 115, 95, 115, 116, 101, 112, 95, 98, 121, 95, 115, 116, 101, 112]) 1620) none (.ref 1004) .none 0), #[]⟩
noncomputable def o1006 (P : Params) : Obj := ⟨.type "tuple", none, (.seq #[] 0), #[]⟩
noncomputable def o1007 (P : Params) : Obj := ⟨.none, none, (.fields #[]), #[]⟩
noncomputable def o1008 (P : Params) : Obj := ⟨.type "tuple", none, (.seq #[.str "cup" 1722, .str "turn" 1723, .str "orders" 1724, .str "begin" 1725, .str "side" 1726, .str "mine" 1727, .str "some" 1728, .str "sides_v" 1729, .str "size" 1730, .str "at" 1731, .str "again" 1732, .str "here" 1733, .str "side_here" 1734] 0), #[]⟩
noncomputable def o1009 (P : Params) : Obj := ⟨.type "tuple", none, (.seq #[] 0), #[]⟩
noncomputable def o1010 (P : Params) : Obj := ⟨.none, none, (cf (top 140) "_law_right" "_law_right" 0 .none .none .none .none none .none .none 0), #[]⟩
noncomputable def o1011 (P : Params) : Obj := ⟨.type "code", none, (.fields #[.str "_law_right" 1719, .str "_law_right" 1720, .str "/claim/cut.py" 1721, .int 737 0, .int 1 0, .int 0 0, .int 0 0, .int 3 0, .ref 1006, .bool true, .int 374 0, .ref 1007, .none, .ref 1008, .ref 1009, .ref 1010, .int 1735 0, .int 737 0, .str "/claim/cut.py" 1736]), #[]⟩
noncomputable def o1012 (P : Params) : Obj := ⟨.type "function", none, (cf (top 140) "_law_right" "_law_right" 3 .none .none .none (.str (PySem.Str.mk #[108, 97, 119, 95, 101, 118, 101, 114, 116, 114, 101, 97, 100, 115, 95, 107, 49, 50, 95, 119, 104, 111, 108, 101, 95, 119, 97, 108, 107, 115, 95, 115, 116, 101, 112, 95, 98, 121, 95, 115, 116, 101, 112]) 1620) none (.ref 1011) .none 0), #[]⟩
noncomputable def o1013 (P : Params) : Obj := ⟨.type "tuple", none, (.seq #[] 0), #[]⟩
noncomputable def o1014 (P : Params) : Obj := ⟨.none, none, (.fields #[]), #[]⟩
noncomputable def o1015 (P : Params) : Obj := ⟨.none, none, (cf (top 141) "law" "law" 0 .none .none .none .none none .none .none 0), #[]⟩
noncomputable def o1016 (P : Params) : Obj := ⟨.type "code", none, (.fields #[.str "law" 1738, .str "law" 1739, .str "/claim/cut.py" 1740, .int 757 0, .int 1 0, .int 0 0, .int 0 0, .int 3 0, .ref 1013, .bool true, .int 374 0, .ref 1014, .none, .none, .none, .ref 1015, .int 1741 0, .int 757 0, .str "/claim/cut.py" 1742]), #[]⟩
noncomputable def o1017 (P : Params) : Obj := ⟨.type "function", none, (cf (top 141) "law" "law" 3 .none .none .none (.str (PySem.Str.mk #[108, 97, 119, 95, 101, 118, 101, 114, 116, 114, 101, 97, 100, 115, 95, 107, 49, 50, 95, 119, 104, 111, 108, 101, 95, 119, 97, 108, 107, 115, 95, 115, 116, 101, 112, 95, 98, 121, 95, 115, 116, 101, 112]) 1620) none (.ref 1016) .none 0), #[]⟩
noncomputable def T141 (P : Params) : BT := (N (o0_1 P) (N (o1_1 P) (N (o3_8 P) (N (o7_1 P) (N (o15_1 P) (N (o31_1 P) (N (o63 P) (N (o127 P) (N (o255 P) (N (o511 P) L L) (N (o767 P) L L)) (N (o383 P) (N (o639 P) L L) (N (o895 P) L L))) (N (o191 P) (N (o319 P) (N (o575 P) L L) (N (o831 P) L L)) (N (o447 P) (N (o703 P) L L) (N (o959 P) L L)))) (N (o95 P) (N (o159 P) (N (o287 P) (N (o543 P) L L) (N (o799 P) L L)) (N (o415 P) (N (o671 P) L L) (N (o927 P) L L))) (N (o223 P) (N (o351 P) (N (o607 P) L L) (N (o863 P) L L)) (N (o479 P) (N (o735 P) L L) (N (o991 P) L L))))) (N (o47 P) (N (o79 P) (N (o143 P) (N (o271 P) (N (o527 P) L L) (N (o783 P) L L)) (N (o399 P) (N (o655 P) L L) (N (o911 P) L L))) (N (o207 P) (N (o335 P) (N (o591 P) L L) (N (o847 P) L L)) (N (o463 P) (N (o719 P) L L) (N (o975 P) L L)))) (N (o111 P) (N (o175 P) (N (o303 P) (N (o559 P) L L) (N (o815 P) L L)) (N (o431 P) (N (o687 P) L L) (N (o943 P) L L))) (N (o239 P) (N (o367 P) (N (o623 P) L L) (N (o879 P) L L)) (N (o495 P) (N (o751 P) L L) (N (o1007 P) L L)))))) (N (o23_1 P) (N (o39 P) (N (o71 P) (N (o135 P) (N (o263 P) (N (o519 P) L L) (N (o775 P) L L)) (N (o391 P) (N (o647 P) L L) (N (o903 P) L L))) (N (o199 P) (N (o327 P) (N (o583 P) L L) (N (o839 P) L L)) (N (o455 P) (N (o711 P) L L) (N (o967 P) L L)))) (N (o103 P) (N (o167 P) (N (o295 P) (N (o551 P) L L) (N (o807 P) L L)) (N (o423 P) (N (o679 P) L L) (N (o935 P) L L))) (N (o231 P) (N (o359 P) (N (o615 P) L L) (N (o871 P) L L)) (N (o487 P) (N (o743 P) L L) (N (o999 P) L L))))) (N (o55 P) (N (o87 P) (N (o151 P) (N (o279 P) (N (o535 P) L L) (N (o791 P) L L)) (N (o407 P) (N (o663 P) L L) (N (o919 P) L L))) (N (o215 P) (N (o343 P) (N (o599 P) L L) (N (o855 P) L L)) (N (o471 P) (N (o727 P) L L) (N (o983 P) L L)))) (N (o119 P) (N (o183 P) (N (o311 P) (N (o567 P) L L) (N (o823 P) L L)) (N (o439 P) (N (o695 P) L L) (N (o951 P) L L))) (N (o247 P) (N (o375 P) (N (o631 P) L L) (N (o887 P) L L)) (N (o503 P) (N (o759 P) L L) (N (o1015 P) L L))))))) (N (o11_1 P) (N (o19_1 P) (N (o35_1 P) (N (o67 P) (N (o131 P) (N (o259 P) (N (o515 P) L L) (N (o771 P) L L)) (N (o387 P) (N (o643 P) L L) (N (o899 P) L L))) (N (o195 P) (N (o323 P) (N (o579 P) L L) (N (o835 P) L L)) (N (o451 P) (N (o707 P) L L) (N (o963 P) L L)))) (N (o99 P) (N (o163 P) (N (o291 P) (N (o547 P) L L) (N (o803 P) L L)) (N (o419 P) (N (o675 P) L L) (N (o931 P) L L))) (N (o227 P) (N (o355 P) (N (o611 P) L L) (N (o867 P) L L)) (N (o483 P) (N (o739 P) L L) (N (o995 P) L L))))) (N (o51 P) (N (o83 P) (N (o147 P) (N (o275 P) (N (o531 P) L L) (N (o787 P) L L)) (N (o403 P) (N (o659 P) L L) (N (o915 P) L L))) (N (o211 P) (N (o339 P) (N (o595 P) L L) (N (o851 P) L L)) (N (o467 P) (N (o723 P) L L) (N (o979 P) L L)))) (N (o115 P) (N (o179 P) (N (o307 P) (N (o563 P) L L) (N (o819 P) L L)) (N (o435 P) (N (o691 P) L L) (N (o947 P) L L))) (N (o243 P) (N (o371 P) (N (o627 P) L L) (N (o883 P) L L)) (N (o499 P) (N (o755 P) L L) (N (o1011 P) L L)))))) (N (o27_1 P) (N (o43 P) (N (o75 P) (N (o139 P) (N (o267 P) (N (o523 P) L L) (N (o779 P) L L)) (N (o395 P) (N (o651 P) L L) (N (o907 P) L L))) (N (o203 P) (N (o331 P) (N (o587 P) L L) (N (o843 P) L L)) (N (o459 P) (N (o715 P) L L) (N (o971 P) L L)))) (N (o107 P) (N (o171 P) (N (o299 P) (N (o555 P) L L) (N (o811 P) L L)) (N (o427 P) (N (o683 P) L L) (N (o939 P) L L))) (N (o235 P) (N (o363 P) (N (o619 P) L L) (N (o875 P) L L)) (N (o491 P) (N (o747 P) L L) (N (o1003 P) L L))))) (N (o59 P) (N (o91 P) (N (o155 P) (N (o283 P) (N (o539 P) L L) (N (o795 P) L L)) (N (o411 P) (N (o667 P) L L) (N (o923 P) L L))) (N (o219 P) (N (o347 P) (N (o603 P) L L) (N (o859 P) L L)) (N (o475 P) (N (o731 P) L L) (N (o987 P) L L)))) (N (o123 P) (N (o187 P) (N (o315 P) (N (o571 P) L L) (N (o827 P) L L)) (N (o443 P) (N (o699 P) L L) (N (o955 P) L L))) (N (o251 P) (N (o379 P) (N (o635 P) L L) (N (o891 P) L L)) (N (o507 P) (N (o763 P) L L) L))))))) (N (o5_1 P) (N (o9_1 P) (N (o17_1 P) (N (o33_1 P) (N (o65 P) (N (o129 P) (N (o257 P) (N (o513 P) L L) (N (o769 P) L L)) (N (o385 P) (N (o641 P) L L) (N (o897 P) L L))) (N (o193 P) (N (o321 P) (N (o577 P) L L) (N (o833 P) L L)) (N (o449 P) (N (o705 P) L L) (N (o961 P) L L)))) (N (o97 P) (N (o161 P) (N (o289 P) (N (o545 P) L L) (N (o801 P) L L)) (N (o417 P) (N (o673 P) L L) (N (o929 P) L L))) (N (o225 P) (N (o353 P) (N (o609 P) L L) (N (o865 P) L L)) (N (o481 P) (N (o737 P) L L) (N (o993 P) L L))))) (N (o49 P) (N (o81 P) (N (o145 P) (N (o273 P) (N (o529 P) L L) (N (o785 P) L L)) (N (o401 P) (N (o657 P) L L) (N (o913 P) L L))) (N (o209 P) (N (o337 P) (N (o593 P) L L) (N (o849 P) L L)) (N (o465 P) (N (o721 P) L L) (N (o977 P) L L)))) (N (o113 P) (N (o177 P) (N (o305 P) (N (o561 P) L L) (N (o817 P) L L)) (N (o433 P) (N (o689 P) L L) (N (o945 P) L L))) (N (o241 P) (N (o369 P) (N (o625 P) L L) (N (o881 P) L L)) (N (o497 P) (N (o753 P) L L) (N (o1009 P) L L)))))) (N (o25_1 P) (N (o41 P) (N (o73 P) (N (o137 P) (N (o265 P) (N (o521 P) L L) (N (o777 P) L L)) (N (o393 P) (N (o649 P) L L) (N (o905 P) L L))) (N (o201 P) (N (o329 P) (N (o585 P) L L) (N (o841 P) L L)) (N (o457 P) (N (o713 P) L L) (N (o969 P) L L)))) (N (o105 P) (N (o169 P) (N (o297 P) (N (o553 P) L L) (N (o809 P) L L)) (N (o425 P) (N (o681 P) L L) (N (o937 P) L L))) (N (o233 P) (N (o361 P) (N (o617 P) L L) (N (o873 P) L L)) (N (o489 P) (N (o745 P) L L) (N (o1001 P) L L))))) (N (o57 P) (N (o89 P) (N (o153 P) (N (o281 P) (N (o537 P) L L) (N (o793 P) L L)) (N (o409 P) (N (o665 P) L L) (N (o921 P) L L))) (N (o217 P) (N (o345 P) (N (o601 P) L L) (N (o857 P) L L)) (N (o473 P) (N (o729 P) L L) (N (o985 P) L L)))) (N (o121 P) (N (o185 P) (N (o313 P) (N (o569 P) L L) (N (o825 P) L L)) (N (o441 P) (N (o697 P) L L) (N (o953 P) L L))) (N (o249 P) (N (o377 P) (N (o633 P) L L) (N (o889 P) L L)) (N (o505 P) (N (o761 P) L L) (N (o1017 P) L L))))))) (N (o13_1 P) (N (o21_1 P) (N (o37_1 P) (N (o69 P) (N (o133 P) (N (o261 P) (N (o517 P) L L) (N (o773 P) L L)) (N (o389 P) (N (o645 P) L L) (N (o901 P) L L))) (N (o197 P) (N (o325 P) (N (o581 P) L L) (N (o837 P) L L)) (N (o453 P) (N (o709 P) L L) (N (o965 P) L L)))) (N (o101_1 P) (N (o165 P) (N (o293 P) (N (o549 P) L L) (N (o805 P) L L)) (N (o421 P) (N (o677 P) L L) (N (o933 P) L L))) (N (o229 P) (N (o357 P) (N (o613 P) L L) (N (o869 P) L L)) (N (o485 P) (N (o741 P) L L) (N (o997 P) L L))))) (N (o53 P) (N (o85 P) (N (o149 P) (N (o277 P) (N (o533 P) L L) (N (o789 P) L L)) (N (o405 P) (N (o661 P) L L) (N (o917 P) L L))) (N (o213 P) (N (o341 P) (N (o597 P) L L) (N (o853 P) L L)) (N (o469 P) (N (o725 P) L L) (N (o981 P) L L)))) (N (o117 P) (N (o181 P) (N (o309 P) (N (o565 P) L L) (N (o821 P) L L)) (N (o437 P) (N (o693 P) L L) (N (o949 P) L L))) (N (o245 P) (N (o373 P) (N (o629 P) L L) (N (o885 P) L L)) (N (o501 P) (N (o757 P) L L) (N (o1013 P) L L)))))) (N (o29_1 P) (N (o45 P) (N (o77 P) (N (o141 P) (N (o269 P) (N (o525 P) L L) (N (o781 P) L L)) (N (o397 P) (N (o653 P) L L) (N (o909 P) L L))) (N (o205 P) (N (o333 P) (N (o589 P) L L) (N (o845 P) L L)) (N (o461 P) (N (o717 P) L L) (N (o973 P) L L)))) (N (o109 P) (N (o173 P) (N (o301 P) (N (o557 P) L L) (N (o813 P) L L)) (N (o429 P) (N (o685 P) L L) (N (o941 P) L L))) (N (o237 P) (N (o365 P) (N (o621 P) L L) (N (o877 P) L L)) (N (o493 P) (N (o749 P) L L) (N (o1005 P) L L))))) (N (o61 P) (N (o93 P) (N (o157 P) (N (o285 P) (N (o541 P) L L) (N (o797 P) L L)) (N (o413 P) (N (o669 P) L L) (N (o925 P) L L))) (N (o221 P) (N (o349 P) (N (o605 P) L L) (N (o861 P) L L)) (N (o477 P) (N (o733 P) L L) (N (o989 P) L L)))) (N (o125 P) (N (o189 P) (N (o317 P) (N (o573 P) L L) (N (o829 P) L L)) (N (o445 P) (N (o701 P) L L) (N (o957 P) L L))) (N (o253 P) (N (o381 P) (N (o637 P) L L) (N (o893 P) L L)) (N (o509 P) (N (o765 P) L L) L)))))))) (N (o2_1 P) (N (o4_1 P) (N (o8 P) (N (o16_1 P) (N (o32_1 P) (N (o64 P) (N (o128 P) (N (o256 P) (N (o512 P) L L) (N (o768 P) L L)) (N (o384 P) (N (o640 P) L L) (N (o896 P) L L))) (N (o192 P) (N (o320 P) (N (o576 P) L L) (N (o832 P) L L)) (N (o448 P) (N (o704 P) L L) (N (o960 P) L L)))) (N (o96 P) (N (o160 P) (N (o288 P) (N (o544 P) L L) (N (o800 P) L L)) (N (o416 P) (N (o672 P) L L) (N (o928 P) L L))) (N (o224 P) (N (o352 P) (N (o608 P) L L) (N (o864 P) L L)) (N (o480 P) (N (o736 P) L L) (N (o992 P) L L))))) (N (o48 P) (N (o80 P) (N (o144 P) (N (o272 P) (N (o528 P) L L) (N (o784 P) L L)) (N (o400 P) (N (o656 P) L L) (N (o912 P) L L))) (N (o208 P) (N (o336 P) (N (o592 P) L L) (N (o848 P) L L)) (N (o464 P) (N (o720 P) L L) (N (o976 P) L L)))) (N (o112 P) (N (o176 P) (N (o304 P) (N (o560 P) L L) (N (o816 P) L L)) (N (o432 P) (N (o688 P) L L) (N (o944 P) L L))) (N (o240 P) (N (o368 P) (N (o624 P) L L) (N (o880 P) L L)) (N (o496 P) (N (o752 P) L L) (N (o1008 P) L L)))))) (N (o24_1 P) (N (o40_6 P) (N (o72 P) (N (o136 P) (N (o264 P) (N (o520 P) L L) (N (o776 P) L L)) (N (o392 P) (N (o648 P) L L) (N (o904 P) L L))) (N (o200 P) (N (o328 P) (N (o584 P) L L) (N (o840 P) L L)) (N (o456 P) (N (o712 P) L L) (N (o968 P) L L)))) (N (o104 P) (N (o168 P) (N (o296 P) (N (o552 P) L L) (N (o808 P) L L)) (N (o424 P) (N (o680 P) L L) (N (o936 P) L L))) (N (o232 P) (N (o360 P) (N (o616 P) L L) (N (o872 P) L L)) (N (o488 P) (N (o744 P) L L) (N (o1000 P) L L))))) (N (o56 P) (N (o88 P) (N (o152 P) (N (o280 P) (N (o536 P) L L) (N (o792 P) L L)) (N (o408 P) (N (o664 P) L L) (N (o920 P) L L))) (N (o216 P) (N (o344 P) (N (o600 P) L L) (N (o856 P) L L)) (N (o472 P) (N (o728 P) L L) (N (o984 P) L L)))) (N (o120 P) (N (o184 P) (N (o312 P) (N (o568 P) L L) (N (o824 P) L L)) (N (o440 P) (N (o696 P) L L) (N (o952 P) L L))) (N (o248 P) (N (o376 P) (N (o632 P) L L) (N (o888 P) L L)) (N (o504 P) (N (o760 P) L L) (N (o1016 P) L L))))))) (N (o12_1 P) (N (o20_1 P) (N (o36_1 P) (N (o68 P) (N (o132 P) (N (o260 P) (N (o516 P) L L) (N (o772 P) L L)) (N (o388 P) (N (o644 P) L L) (N (o900 P) L L))) (N (o196 P) (N (o324 P) (N (o580 P) L L) (N (o836 P) L L)) (N (o452 P) (N (o708 P) L L) (N (o964 P) L L)))) (N (o100 P) (N (o164 P) (N (o292 P) (N (o548 P) L L) (N (o804 P) L L)) (N (o420 P) (N (o676 P) L L) (N (o932 P) L L))) (N (o228 P) (N (o356 P) (N (o612 P) L L) (N (o868 P) L L)) (N (o484 P) (N (o740 P) L L) (N (o996 P) L L))))) (N (o52 P) (N (o84 P) (N (o148 P) (N (o276 P) (N (o532 P) L L) (N (o788 P) L L)) (N (o404 P) (N (o660 P) L L) (N (o916 P) L L))) (N (o212 P) (N (o340 P) (N (o596 P) L L) (N (o852 P) L L)) (N (o468 P) (N (o724 P) L L) (N (o980 P) L L)))) (N (o116 P) (N (o180 P) (N (o308 P) (N (o564 P) L L) (N (o820 P) L L)) (N (o436 P) (N (o692 P) L L) (N (o948 P) L L))) (N (o244 P) (N (o372 P) (N (o628 P) L L) (N (o884 P) L L)) (N (o500 P) (N (o756 P) L L) (N (o1012 P) L L)))))) (N (o28_1 P) (N (o44 P) (N (o76 P) (N (o140 P) (N (o268 P) (N (o524 P) L L) (N (o780 P) L L)) (N (o396 P) (N (o652 P) L L) (N (o908 P) L L))) (N (o204 P) (N (o332 P) (N (o588 P) L L) (N (o844 P) L L)) (N (o460 P) (N (o716 P) L L) (N (o972 P) L L)))) (N (o108 P) (N (o172 P) (N (o300 P) (N (o556 P) L L) (N (o812 P) L L)) (N (o428 P) (N (o684 P) L L) (N (o940 P) L L))) (N (o236 P) (N (o364 P) (N (o620 P) L L) (N (o876 P) L L)) (N (o492 P) (N (o748 P) L L) (N (o1004 P) L L))))) (N (o60 P) (N (o92 P) (N (o156 P) (N (o284 P) (N (o540 P) L L) (N (o796 P) L L)) (N (o412 P) (N (o668 P) L L) (N (o924 P) L L))) (N (o220 P) (N (o348 P) (N (o604 P) L L) (N (o860 P) L L)) (N (o476 P) (N (o732 P) L L) (N (o988 P) L L)))) (N (o124 P) (N (o188 P) (N (o316 P) (N (o572 P) L L) (N (o828 P) L L)) (N (o444 P) (N (o700 P) L L) (N (o956 P) L L))) (N (o252 P) (N (o380 P) (N (o636 P) L L) (N (o892 P) L L)) (N (o508 P) (N (o764 P) L L) L))))))) (N (o6 P) (N (o10_1 P) (N (o18_1 P) (N (o34_1 P) (N (o66 P) (N (o130 P) (N (o258 P) (N (o514 P) L L) (N (o770 P) L L)) (N (o386 P) (N (o642 P) L L) (N (o898 P) L L))) (N (o194 P) (N (o322 P) (N (o578 P) L L) (N (o834 P) L L)) (N (o450 P) (N (o706 P) L L) (N (o962 P) L L)))) (N (o98 P) (N (o162 P) (N (o290 P) (N (o546 P) L L) (N (o802 P) L L)) (N (o418 P) (N (o674 P) L L) (N (o930 P) L L))) (N (o226 P) (N (o354 P) (N (o610 P) L L) (N (o866 P) L L)) (N (o482 P) (N (o738 P) L L) (N (o994 P) L L))))) (N (o50 P) (N (o82 P) (N (o146 P) (N (o274 P) (N (o530 P) L L) (N (o786 P) L L)) (N (o402 P) (N (o658 P) L L) (N (o914 P) L L))) (N (o210 P) (N (o338 P) (N (o594 P) L L) (N (o850 P) L L)) (N (o466 P) (N (o722 P) L L) (N (o978 P) L L)))) (N (o114 P) (N (o178 P) (N (o306 P) (N (o562 P) L L) (N (o818 P) L L)) (N (o434 P) (N (o690 P) L L) (N (o946 P) L L))) (N (o242 P) (N (o370 P) (N (o626 P) L L) (N (o882 P) L L)) (N (o498 P) (N (o754 P) L L) (N (o1010 P) L L)))))) (N (o26_1 P) (N (o42 P) (N (o74 P) (N (o138 P) (N (o266 P) (N (o522 P) L L) (N (o778 P) L L)) (N (o394 P) (N (o650 P) L L) (N (o906 P) L L))) (N (o202 P) (N (o330 P) (N (o586 P) L L) (N (o842 P) L L)) (N (o458 P) (N (o714 P) L L) (N (o970 P) L L)))) (N (o106 P) (N (o170 P) (N (o298 P) (N (o554 P) L L) (N (o810 P) L L)) (N (o426 P) (N (o682 P) L L) (N (o938 P) L L))) (N (o234 P) (N (o362 P) (N (o618 P) L L) (N (o874 P) L L)) (N (o490 P) (N (o746 P) L L) (N (o1002 P) L L))))) (N (o58 P) (N (o90 P) (N (o154 P) (N (o282 P) (N (o538 P) L L) (N (o794 P) L L)) (N (o410 P) (N (o666 P) L L) (N (o922 P) L L))) (N (o218 P) (N (o346 P) (N (o602 P) L L) (N (o858 P) L L)) (N (o474 P) (N (o730 P) L L) (N (o986 P) L L)))) (N (o122 P) (N (o186 P) (N (o314 P) (N (o570 P) L L) (N (o826 P) L L)) (N (o442 P) (N (o698 P) L L) (N (o954 P) L L))) (N (o250 P) (N (o378 P) (N (o634 P) L L) (N (o890 P) L L)) (N (o506 P) (N (o762 P) L L) L)))))) (N (o14_1 P) (N (o22_1 P) (N (o38_1 P) (N (o70 P) (N (o134 P) (N (o262 P) (N (o518 P) L L) (N (o774 P) L L)) (N (o390 P) (N (o646 P) L L) (N (o902 P) L L))) (N (o198 P) (N (o326 P) (N (o582 P) L L) (N (o838 P) L L)) (N (o454 P) (N (o710 P) L L) (N (o966 P) L L)))) (N (o102 P) (N (o166 P) (N (o294 P) (N (o550 P) L L) (N (o806 P) L L)) (N (o422 P) (N (o678 P) L L) (N (o934 P) L L))) (N (o230 P) (N (o358 P) (N (o614 P) L L) (N (o870 P) L L)) (N (o486 P) (N (o742 P) L L) (N (o998 P) L L))))) (N (o54 P) (N (o86 P) (N (o150 P) (N (o278 P) (N (o534 P) L L) (N (o790 P) L L)) (N (o406 P) (N (o662 P) L L) (N (o918 P) L L))) (N (o214 P) (N (o342 P) (N (o598 P) L L) (N (o854 P) L L)) (N (o470 P) (N (o726 P) L L) (N (o982 P) L L)))) (N (o118 P) (N (o182 P) (N (o310 P) (N (o566 P) L L) (N (o822 P) L L)) (N (o438 P) (N (o694 P) L L) (N (o950 P) L L))) (N (o246 P) (N (o374 P) (N (o630 P) L L) (N (o886 P) L L)) (N (o502 P) (N (o758 P) L L) (N (o1014 P) L L)))))) (N (o30 P) (N (o46 P) (N (o78 P) (N (o142 P) (N (o270 P) (N (o526 P) L L) (N (o782 P) L L)) (N (o398 P) (N (o654 P) L L) (N (o910 P) L L))) (N (o206 P) (N (o334 P) (N (o590 P) L L) (N (o846 P) L L)) (N (o462 P) (N (o718 P) L L) (N (o974 P) L L)))) (N (o110 P) (N (o174 P) (N (o302 P) (N (o558 P) L L) (N (o814 P) L L)) (N (o430 P) (N (o686 P) L L) (N (o942 P) L L))) (N (o238 P) (N (o366 P) (N (o622 P) L L) (N (o878 P) L L)) (N (o494 P) (N (o750 P) L L) (N (o1006 P) L L))))) (N (o62 P) (N (o94 P) (N (o158 P) (N (o286 P) (N (o542 P) L L) (N (o798 P) L L)) (N (o414 P) (N (o670 P) L L) (N (o926 P) L L))) (N (o222 P) (N (o350 P) (N (o606 P) L L) (N (o862 P) L L)) (N (o478 P) (N (o734 P) L L) (N (o990 P) L L)))) (N (o126 P) (N (o190 P) (N (o318 P) (N (o574 P) L L) (N (o830 P) L L)) (N (o446 P) (N (o702 P) L L) (N (o958 P) L L))) (N (o254 P) (N (o382 P) (N (o638 P) L L) (N (o894 P) L L)) (N (o510 P) (N (o766 P) L L) L)))))))))
noncomputable def S141 (w : World) (os : OsState) : SharedT := ⟨T141 w.params, 1018, {}, #[], {}, 1744, os⟩
noncomputable def cL : List Stmt := behindTheImports hrow.prog
noncomputable def cV : Env := { scope := hrow.prog.main.scope, locals := mainNs, globals := mainNs, cells := [], code := .ref 41, frame := some 42 }
noncomputable def cB : List Frame := [topFrame ⟨0, 0, 0, 0⟩]
noncomputable def cC : Code := .body cL cV
def segF (st : SharedT → Thread → Option (SharedT × Thread)) (n0 : Nat) (ann : Option Value) : Nat → SharedT → Thread → Option (Flow × SharedT × Code × Pos)
  | 0, _, _ => none
  | n + 1, s, t => match endAt 1 t with
    | some f => some (f, s, t.code, t.pos)
    | none => match stepOk n0 ann t with
      | true => (match st s t with
        | some (s', t') => HandSHeadRun.frS s' fun z => segF st n0 ann n z t'
        | none => none)
      | false => none
theorem segF_ok {tb : String → Option Builtin} {p : Program} {w : World} {n0 : Nat} {ann : Option Value} : ∀ {n : Nat} {s : SharedT} {t : Thread} {r : Flow × SharedT × Code × Pos}, segF (stepT (denote tb) p w) n0 ann n s t = some r → segRunT tb p w n0 ann 1 n s t = some r
  | 0, _, _, _, h => by cases h
  | n + 1, s, t, r, h => by
    unfold segF at h
    unfold segRunT
    cases he : endAt 1 t with
    | some x =>
      rw [he] at h
      exact h
    | none =>
      rw [he] at h
      cases hk : stepOk n0 ann t with
      | false =>
        rw [hk] at h
        cases h
      | true =>
        rw [hk] at h
        cases hs : stepT (denote tb) p w s t with
        | none =>
          rw [hs] at h
          cases h
        | some y =>
          obtain ⟨s2, t2⟩ := y
          rw [hs] at h
          have h2 : (HandSHeadRun.frS s2 fun z => segF (stepT (denote tb) p w) n0 ann n z t2) = some r := h
          rw [HandSHeadRun.frS_eq] at h2
          exact segF_ok h2
abbrev cAnn : Option Value := some (.ref 6)
noncomputable def cStep (w : World) : SharedT → Thread → Option (SharedT × Thread) := HandSHeadRun.stepQ (HandSHeadRun.denQ HandSHeadRun.tabQ) hrow.prog w
theorem cPiece {w : World} {n : Nat} {s s' : SharedT} {l : List Stmt} {pos p' : Pos} (h : segF (cStep w) 39 cAnn n s (piecesOf l cV cC pos cB) = some (.next, s', cC, p')) : segRun treeTable hrow.prog w 39 cAnn 1 n s.abs (piecesOf l cV cC pos cB) = some (.next, s'.abs, cC, p') := by
  refine segRun_of (segF_ok ?_)
  rw [HandSHeadRun.stepQ_eq, HandSHeadRun.denQ_eq, HandSHeadRun.tabQ_eq]
  exact h
theorem c_imp (w : World) : HandSHeadRun.impF (HandSHeadRun.stepQ (HandSHeadRun.denQ HandSHeadRun.tabQ) (opening hrow.prog) w) 1122 (HandSHeadRun.startT (opening hrow.prog)) (start (opening hrow.prog)).2 = some (Se w (start (opening hrow.prog)).1.os) := by kernel_rfl
theorem c_fence (w : World) : (fun os => (fenceModules? hrow.prog (Se w os).abs).map (fun s => (s.heap, s.gens, s.drawn, s.toks))) = fun os => some ((S0 w os).abs.heap, (S0 w os).abs.gens, (S0 w os).abs.drawn, (S0 w os).abs.toks) := by
  rw [HandSHeadRun.fenceQ_eq]
  kernel_rfl
theorem c_open (w : World) : (fencedOpening treeTable hrow.prog w 60000).map (fun s => (s.heap, s.gens, s.drawn, s.toks)) = some (absHeap (T0 w.params) 39 {}, #[], {}, 374) := open_cut (p := hrow.prog) (N := 60000) (M := 1122) (He := fun P => absHeap (Te P) 39 {}) (H₀ := fun P => absHeap (T0 P) 39 {}) (ge := #[]) (g₀ := #[]) (de := {}) (d₀ := {}) (ke := 374) (k₀ := 374) (fun w => by
    have e : HandSHeadRun.impF (stepT (denote treeTable) (opening hrow.prog) w) 1122 (HandSHeadRun.startT (opening hrow.prog)) (start (opening hrow.prog)).2 = some (Se w (start (opening hrow.prog)).1.os) := by
      rw [HandSHeadRun.stepQ_eq, HandSHeadRun.denQ_eq, HandSHeadRun.tabQ_eq]
      exact c_imp w
    have z := HandSHeadRun.impF_ok e
    rw [HandSHeadRun.startT_eq] at z
    exact z) (by decide +kernel) (fun w => c_fence w) w
theorem c_size (w : World) : ((absHeap (T0 w.params) 39 {}).isNs mainGlobals && (#[] : Array GenState).size == 0, (absHeap (T0 w.params) 39 {}).objs.size, (absHeap (T0 w.params) 39 {}).nsMap mainGlobals "__annotations__") = (true, 39, cAnn) := by kernel_rfl
theorem c_pre (w : World) (os : OsState) : topGo treeTable hrow.prog w 39 cAnn 12 (S0 w os).abs (topStub hrow.prog) = some ((Sa w os).abs, ⟨denote treeTable cC, cC, ⟨0, 0, 0, 0⟩, cB⟩) := by kernel_rfl
theorem c_block (w : World) (os : OsState) : segRun treeTable hrow.prog w 39 cAnn 1 1 (Sa w os).abs (blockOf cL cV cC ⟨0, 0, 0, 0⟩ cB) = some (.next, (Sb w os).abs, cC, ⟨0, 0, 0, 0⟩) := by kernel_rfl
theorem c_0 (w : World) (os : OsState) : segF (cStep w) 39 cAnn 1433 (Sb w os) (piecesOf ((cL.drop 0).take 17) cV cC ⟨0, 0, 0, 0⟩ cB) = some (.next, S17 w os, cC, ⟨37, 0, 40, 26⟩) := by kernel_rfl
theorem c_1 (w : World) (os : OsState) : segF (cStep w) 39 cAnn 1483 (S17 w os) (piecesOf ((cL.drop 17).take 51) cV cC ⟨37, 0, 40, 26⟩ cB) = some (.next, S68 w os, cC, ⟨276, 0, 280, 72⟩) := by kernel_rfl
theorem c_2 (w : World) (os : OsState) : segF (cStep w) 39 cAnn 989 (S68 w os) (piecesOf ((cL.drop 68).take 39) cV cC ⟨276, 0, 280, 72⟩ cB) = some (.next, S107 w os, cC, ⟨497, 0, 497, 10⟩) := by kernel_rfl
theorem c_3 (w : World) (os : OsState) : segF (cStep w) 39 cAnn 731 (S107 w os) (piecesOf ((cL.drop 107).take 6) cV cC ⟨497, 0, 497, 10⟩ cB) = some (.next, S113 w os, cC, ⟨550, 0, 550, 4⟩) := by kernel_rfl
theorem c_4f (w : World) (os : OsState) : segF (cStep (w.withFollow "special-get-raises" false)) 39 cAnn 148 (S113 (w.withFollow "special-get-raises" false) os) (piecesOf ((cL.drop 113).take 2) cV cC ⟨550, 0, 550, 4⟩ cB) = some (.next, S115 (w.withFollow "special-get-raises" false) os, cC, ⟨552, 0, 552, 5⟩) := by kernel_rfl
theorem c_4t (w : World) (os : OsState) : segF (cStep (w.withFollow "special-get-raises" true)) 39 cAnn 148 (S113 (w.withFollow "special-get-raises" true) os) (piecesOf ((cL.drop 113).take 2) cV cC ⟨550, 0, 550, 4⟩ cB) = some (.next, S115 (w.withFollow "special-get-raises" true) os, cC, ⟨552, 0, 552, 5⟩) := by kernel_rfl
theorem c_4 (w : World) (os : OsState) : segF (cStep w) 39 cAnn 148 (S113 w os) (piecesOf ((cL.drop 113).take 2) cV cC ⟨550, 0, 550, 4⟩ cB) = some (.next, S115 w os, cC, ⟨552, 0, 552, 5⟩) := byRow2 "special-get-raises" (P := fun w => segF (cStep w) 39 cAnn 148 (S113 w os) (piecesOf ((cL.drop 113).take 2) cV cC ⟨550, 0, 550, 4⟩ cB) = some (.next, S115 w os, cC, ⟨552, 0, 552, 5⟩)) (fun w => c_4f w os) (fun w => c_4t w os) w
theorem c_5 (w : World) (os : OsState) : segF (cStep w) 39 cAnn 1497 (S115 w os) (piecesOf ((cL.drop 115).take 16) cV cC ⟨552, 0, 552, 5⟩ cB) = some (.next, S131 w os, cC, ⟨696, 0, 697, 45⟩) := by kernel_rfl
theorem c_6 (w : World) (os : OsState) : segF (cStep w) 39 cAnn 308 (S131 w os) (piecesOf ((cL.drop 131).take 10) cV cC ⟨696, 0, 697, 45⟩ cB) = some (.next, S141 w os, cC, ⟨757, 0, 762, 99⟩) := by kernel_rfl
theorem c_end (w : World) (os : OsState) : topRun treeTable hrow.prog w 39 cAnn 2 (S141 w os).abs ⟨doneF .next, cC, ⟨757, 0, 762, 99⟩, cB⟩ = some (S141 w os).abs := by kernel_rfl
theorem c_list : cL = ((cL.drop 0).take 17) ++ (((cL.drop 17).take 51) ++ (((cL.drop 68).take 39) ++ (((cL.drop 107).take 6) ++ (((cL.drop 113).take 2) ++ (((cL.drop 115).take 16) ++ (((cL.drop 131).take 10) ++ [])))))) := by kernel_rfl
theorem c_rest (w : World) (os : OsState) : topRun treeTable hrow.prog w 39 cAnn (1433 + (1483 + (989 + (731 + (148 + (1497 + (308 + 2))))))) (Sb w os).abs (restOf cL cV cC ⟨0, 0, 0, 0⟩ cB) = some (S141 w os).abs := by
  rw [congrArg (fun l => restOf l cV cC ⟨0, 0, 0, 0⟩ cB) c_list]
  exact (piece_app (cPiece (c_0 w os)) (piece_app (cPiece (c_1 w os)) (piece_app (cPiece (c_2 w os)) (piece_app (cPiece (c_3 w os)) (piece_app (cPiece (c_4 w os)) (piece_app (cPiece (c_5 w os)) (piece_app (cPiece (c_6 w os)) (piece_nil (c_end w os)))))))))
theorem c_run (w : World) (os : OsState) : topRun treeTable hrow.prog w 39 cAnn (12 + (1 + (1433 + (1483 + (989 + (731 + (148 + (1497 + (308 + 2))))))))) (S0 w os).abs (topStub hrow.prog) = some (S141 w os).abs := go_top (c_pre w os) (piece_block (c_block w os) (c_rest w os))
def hlist : List Addr := [3, 55, 56, 62, 63, 69, 70, 76, 77, 83, 84, 205, 206, 212, 213, 217, 218, 726, 727, 728, 729, 730, 731, 735, 736, 740, 741, 747, 748, 754, 755, 761, 762, 768, 769, 775, 776, 784, 785, 791, 792, 806, 807, 808, 822, 823, 824, 830, 831, 832, 851, 852, 858, 859, 910, 911, 921, 922, 928, 929, 940, 941, 947, 948, 954, 955, 959, 960, 966, 967, 971, 972, 978, 979, 985, 986, 990, 991, 997, 998, 1004, 1005, 1011, 1012, 1016, 1017]
noncomputable def hget (w : World) (a : Addr) : Option Obj := HandSHeadRun.getT (S141 w (start hrow.prog).1.os) a
def hpart (g : Addr → Option Obj) : List Addr → Frag
  | [] => []
  | a :: r => match g a with
    | some z => (a, z) :: hpart g r
    | none => hpart g r
theorem hpart_at {g : Addr → Option Obj} {a : Addr} {z : Obj} : ∀ l : List Addr, (hpart g l).lookup a = some z → g a = some z
  | [], e => nomatch (show (none : Option Obj) = some z from e)
  | b :: r, e => by
    unfold hpart at e
    cases hb : g b with
    | none =>
      rw [hb] at e
      exact hpart_at r e
    | some y =>
      rw [hb] at e
      have e2 : (match a == b with | true => some y | false => (hpart g r).lookup a) = some z := e
      cases q : (a == b) with
      | true =>
        rw [q] at e2
        have eo : y = z := Option.some.inj e2
        rw [beq_iff_eq.mp q, hb, eo]
      | false =>
        rw [q] at e2
        exact hpart_at r e2
theorem hpart_eq {g g' : Addr → Option Obj} : ∀ {l : List Addr}, l.map g = l.map g' → hpart g l = hpart g' l
  | [], _ => rfl
  | a :: r, e => by
    rw [List.map_cons, List.map_cons] at e
    obtain ⟨e1, e2⟩ := List.cons.inj e
    unfold hpart
    rw [e1, hpart_eq e2]
noncomputable def hK (w : World) : Frag := hpart (hget w) hlist
noncomputable def hhook : Hook := ⟨List (Option Obj), fun s => hlist.map s.heap.get?, fun w => hlist.map (hget w), fun w h => (hK w).In h, fun w s e => by
  show (hpart (hget w) hlist).In s.heap
  rw [← hpart_eq e]
  exact fun a z q => hpart_at hlist q, fun w h h' x k a z q => k a z (x a z q)⟩
theorem l_one (w : World) (os : OsState) : (staticsOk (importedModules hrow.prog.main.body) (S0 w os).abs.heap (S141 w os).abs.heap && namesBound hrow.prog (S141 w os).abs.heap && gensDone (S141 w os).abs && laidKept (S0 w os).abs.heap (S141 w os).abs.heap) = true := by kernel_rfl
theorem l_two (w : World) (os : OsState) : HandSHeadRun.seenQ hview hnames (importedModules hrow.prog.main.body) (fun s => xlAt hview [] s && recOk hrow.toRowW.records s) (S141 w os).abs = openGood hview hnames := by kernel_rfl
theorem l_three (w : World) (os : OsState) : hhook.obs (S141 w os).abs = hhook.val w := List.map_congr_left fun a _ => (HandSHeadRun.getT_eq (S141 w os) a).symm
theorem hleft : LeftO hrow.prog hview hnames (fun s => xlAt hview [] s && recOk hrow.toRowW.records s) hhook.obs hhook.val 60000 true :=
  LeftO.of_pieces (H₀ := fun P => absHeap (T0 P) 39 {}) (H₁ := fun P => absHeap (T141 P) 1018 {}) (gs₀ := #[]) (gs₁ := #[]) (d₀ := {}) (d₁ := {}) (k₀ := 374) (k₁ := 1744) (m₀ := 39) (ann := cAnn) (M := (12 + (1 + (1433 + (1483 + (989 + (731 + (148 + (1497 + (308 + 2)))))))))) c_open c_size (fun w os => c_run w os) (by decide +kernel) fun w => funext fun os => Prod.ext (l_one w os) (Prod.ext (by
    have z := l_two w os
    rw [← HandSHeadRun.seenQ_eq] at z
    exact z) (l_three w os))
def hoC (K : Frag) (a : Addr) : Value := match K.lookup a with
  | some z => z.cls
  | none => .none
def hoD (K : Frag) (a : Addr) : Option Addr := match K.lookup a with
  | some z => z.dict
  | none => none
def hoS (K : Frag) (a : Addr) : Array (Option Value) := match K.lookup a with
  | some z => z.slots
  | none => #[]
def hfK (K : Frag) (a : Addr) : Value := match K.lookup a with
  | some ⟨_, _, .func f, _⟩ => f.kwdefaults
  | _ => .none
def hfDoc (K : Frag) (a : Addr) : Value := match K.lookup a with
  | some ⟨_, _, .func f, _⟩ => f.doc
  | _ => .none
def hfPm (K : Frag) (a : Addr) : Value := match K.lookup a with
  | some ⟨_, _, .func f, _⟩ => f.pyModule
  | _ => .none
def hfAn (K : Frag) (a : Addr) : Option Addr := match K.lookup a with
  | some ⟨_, _, .func f, _⟩ => f.annotations
  | _ => none
def hfCd (K : Frag) (a : Addr) : Value := match K.lookup a with
  | some ⟨_, _, .func f, _⟩ => f.code
  | _ => .none
def hfCt (K : Frag) (a : Addr) : Value := match K.lookup a with
  | some ⟨_, _, .func f, _⟩ => f.closureTuple
  | _ => .none
def hqN (K : Frag) (a : Addr) : Nat := match K.lookup a with
  | some ⟨_, _, .seq _ n, _⟩ => n
  | _ => 0
def htok : Value → Tok
  | .int _ t => t
  | .str _ t => t
  | _ => 0
def hqT (K : Frag) (a : Addr) (i : Nat) : Tok := match K.lookup a with
  | some ⟨_, _, .seq l _, _⟩ => htok (l.toList.getD i .none)
  | _ => 0
def hdE (K : Frag) (a : Addr) : Array DictEntry := match K.lookup a with
  | some ⟨_, _, .dict es _, _⟩ => es
  | _ => #[]
def hdN (K : Frag) (a : Addr) : Nat := match K.lookup a with
  | some ⟨_, _, .dict _ n, _⟩ => n
  | _ => 0
def hvT (K : Frag) (a : Addr) (x : Str) : Tok := match nsIn K a x with
  | some (some v) => htok v
  | _ => 0
def hrT (K : Frag) (a : Addr) : List Value := match recIn K a "property" with
  | some l => l.tail
  | none => []
def hkT (K : Frag) (a : Addr) (i : Nat) : Tok := match (hdE K a).toList[i]? with
  | some e => htok e.key
  | none => 0
def hkV (K : Frag) (a : Addr) (i : Nat) : Value := match (hdE K a).toList[i]? with
  | some e => e.val
  | none => .none
theorem hkeys {P : Params} : ∀ {l : List DictEntry} {m : List (Str × Tok × Value)}, l = m.map (fun q => ⟨PyData.keyHash P q.1, .str q.1 q.2.1, q.2.2⟩) → KeysLit P l
  | _, [], e => by
    rw [e]
    exact True.intro
  | _, q :: m, e => by
    rw [e]
    exact ⟨⟨_, _, rfl, rfl⟩, hkeys (l := m.map (fun q => ⟨PyData.keyHash P q.1, .str q.1 q.2.1, q.2.2⟩)) rfl⟩
open L2 Vd
abbrev HF0 (w : World) (K : Frag) : Prop := (PySem.W.nsIn K PySem.mainGlobals "is_integer" = some (some (.ref 56))) ∧
  (K.lookup 56 = some ⟨(hoC K 56), (hoD K 56), .func (PySem.W.fnOf "is_integer" "is_integer" (defArgs s_is_integer) (defBody s_is_integer) (defScope s_is_integer) .none (hfK K 56) (hfDoc K 56) (hfPm K 56) (hfAn K 56) (hfCd K 56) (hfCt K 56)), (hoS K 56)⟩) ∧
  (PySem.W.codeIn K (hfCd K 56) "is_integer" = true) ∧
  (PySem.W.keepIn K (.ref 56) = true) ∧
  (PySem.W.nsIn K PySem.mainGlobals "is_within" = some (some (.ref 63))) ∧
  (K.lookup 63 = some ⟨(hoC K 63), (hoD K 63), .func (PySem.W.fnOf "is_within" "is_within" (defArgs s_is_within) (defBody s_is_within) (defScope s_is_within) .none (hfK K 63) (hfDoc K 63) (hfPm K 63) (hfAn K 63) (hfCd K 63) (hfCt K 63)), (hoS K 63)⟩) ∧
  (PySem.W.codeIn K (hfCd K 63) "is_within" = true) ∧
  (PySem.W.keepIn K (.ref 63) = true) ∧
  (PySem.W.nsIn K PySem.mainGlobals "is_pair" = some (some (.ref 70))) ∧
  (K.lookup 70 = some ⟨(hoC K 70), (hoD K 70), .func (PySem.W.fnOf "is_pair" "is_pair" (defArgs s_is_pair) (defBody s_is_pair) (defScope s_is_pair) .none (hfK K 70) (hfDoc K 70) (hfPm K 70) (hfAn K 70) (hfCd K 70) (hfCt K 70)), (hoS K 70)⟩) ∧
  (PySem.W.codeIn K (hfCd K 70) "is_pair" = true) ∧
  (PySem.W.keepIn K (.ref 70) = true) ∧
  (PySem.W.nsIn K PySem.mainGlobals "is_square" = some (some (.ref 77))) ∧
  (K.lookup 77 = some ⟨(hoC K 77), (hoD K 77), .func (PySem.W.fnOf "is_square" "is_square" (defArgs s_is_square) (defBody s_is_square) (defScope s_is_square) .none (hfK K 77) (hfDoc K 77) (hfPm K 77) (hfAn K 77) (hfCd K 77) (hfCt K 77)), (hoS K 77)⟩) ∧
  (PySem.W.codeIn K (hfCd K 77) "is_square" = true) ∧
  (PySem.W.keepIn K (.ref 77) = true) ∧
  (PySem.W.nsIn K PySem.mainGlobals "is_time" = some (some (.ref 84))) ∧
  (K.lookup 84 = some ⟨(hoC K 84), (hoD K 84), .func (PySem.W.fnOf "is_time" "is_time" (defArgs s_is_time) (defBody s_is_time) (defScope s_is_time) .none (hfK K 84) (hfDoc K 84) (hfPm K 84) (hfAn K 84) (hfCd K 84) (hfCt K 84)), (hoS K 84)⟩) ∧
  (PySem.W.codeIn K (hfCd K 84) "is_time" = true) ∧
  (PySem.W.keepIn K (.ref 84) = true) ∧
  (PySem.W.nsIn K PySem.mainGlobals "is_order" = some (some (.ref 741))) ∧
  (K.lookup 741 = some ⟨(hoC K 741), (hoD K 741), .func (PySem.W.fnOf "is_order" "is_order" (defArgs s_is_order) (defBody s_is_order) (defScope s_is_order) .none (hfK K 741) (hfDoc K 741) (hfPm K 741) (hfAn K 741) (hfCd K 741) (hfCt K 741)), (hoS K 741)⟩) ∧
  (PySem.W.codeIn K (hfCd K 741) "is_order" = true) ∧
  (PySem.W.keepIn K (.ref 741) = true) ∧
  (PySem.W.nsIn K PySem.mainGlobals "is_row" = some (some (.ref 736))) ∧
  (K.lookup 736 = some ⟨(hoC K 736), (hoD K 736), .func (PySem.W.fnOf "is_row" "is_row" (defArgs s_is_row) (defBody s_is_row) (defScope s_is_row) .none (hfK K 736) (hfDoc K 736) (hfPm K 736) (hfAn K 736) (hfCd K 736) (hfCt K 736)), (hoS K 736)⟩) ∧
  (PySem.W.codeIn K (hfCd K 736) "is_row" = true) ∧
  (PySem.W.keepIn K (.ref 736) = true) ∧
  (PySem.W.nsIn K PySem.mainGlobals "is_way" = some (some (.ref 748))) ∧
  (K.lookup 748 = some ⟨(hoC K 748), (hoD K 748), .func (PySem.W.fnOf "is_way" "is_way" (defArgs s_is_way) (defBody s_is_way) (defScope s_is_way) .none (hfK K 748) (hfDoc K 748) (hfPm K 748) (hfAn K 748) (hfCd K 748) (hfCt K 748)), (hoS K 748)⟩)
abbrev HF1 (w : World) (K : Frag) : Prop := (PySem.W.codeIn K (hfCd K 748) "is_way" = true) ∧
  (PySem.W.keepIn K (.ref 748) = true) ∧
  (PySem.W.nsIn K PySem.mainGlobals "turned_way" = some (some (.ref 755))) ∧
  (K.lookup 755 = some ⟨(hoC K 755), (hoD K 755), .func (PySem.W.fnOf "turned_way" "turned_way" (defArgs s_turned_way) (defBody s_turned_way) (defScope s_turned_way) .none (hfK K 755) (hfDoc K 755) (hfPm K 755) (hfAn K 755) (hfCd K 755) (hfCt K 755)), (hoS K 755)⟩) ∧
  (PySem.W.codeIn K (hfCd K 755) "turned_way" = true) ∧
  (PySem.W.keepIn K (.ref 755) = true) ∧
  (PySem.W.nsIn K PySem.mainGlobals "one_run" = some (some (.ref 762))) ∧
  (K.lookup 762 = some ⟨(hoC K 762), (hoD K 762), .func (PySem.W.fnOf "one_run" "one_run" (defArgs s_one_run) (defBody s_one_run) (defScope s_one_run) .none (hfK K 762) (hfDoc K 762) (hfPm K 762) (hfAn K 762) (hfCd K 762) (hfCt K 762)), (hoS K 762)⟩) ∧
  (PySem.W.codeIn K (hfCd K 762) "one_run" = true) ∧
  (PySem.W.keepIn K (.ref 762) = true) ∧
  (PySem.W.nsIn K PySem.mainGlobals "ways_gone" = some (some (.ref 769))) ∧
  (K.lookup 769 = some ⟨(hoC K 769), (hoD K 769), .func (PySem.W.fnOf "ways_gone" "ways_gone" (defArgs s_ways_gone) (defBody s_ways_gone) (defScope s_ways_gone) .none (hfK K 769) (hfDoc K 769) (hfPm K 769) (hfAn K 769) (hfCd K 769) (hfCt K 769)), (hoS K 769)⟩) ∧
  (PySem.W.codeIn K (hfCd K 769) "ways_gone" = true) ∧
  (PySem.W.keepIn K (.ref 769) = true) ∧
  (PySem.W.nsIn K PySem.mainGlobals "offsets_along" = some (some (.ref 776))) ∧
  (K.lookup 776 = some ⟨(hoC K 776), (hoD K 776), .func (PySem.W.fnOf "offsets_along" "offsets_along" (defArgs s_offsets_along) (defBody s_offsets_along) (defScope s_offsets_along) .none (hfK K 776) (hfDoc K 776) (hfPm K 776) (hfAn K 776) (hfCd K 776) (hfCt K 776)), (hoS K 776)⟩) ∧
  (PySem.W.codeIn K (hfCd K 776) "offsets_along" = true) ∧
  (PySem.W.keepIn K (.ref 776) = true) ∧
  (PySem.W.nsIn K PySem.mainGlobals "lane_of" = some (some (.ref 206))) ∧
  (K.lookup 206 = some ⟨(hoC K 206), (hoD K 206), .func (PySem.W.fnOf "lane_of" "lane_of" (defArgs s_lane_of) (defBody s_lane_of) (defScope s_lane_of) .none (hfK K 206) (hfDoc K 206) (hfPm K 206) (hfAn K 206) (hfCd K 206) (hfCt K 206)), (hoS K 206)⟩) ∧
  (PySem.W.codeIn K (hfCd K 206) "lane_of" = true) ∧
  (PySem.W.keepIn K (.ref 206) = true) ∧
  (PySem.W.nsIn K PySem.mainGlobals "square_in" = some (some (.ref 213))) ∧
  (K.lookup 213 = some ⟨(hoC K 213), (hoD K 213), .func (PySem.W.fnOf "square_in" "square_in" (defArgs s_square_in) (defBody s_square_in) (defScope s_square_in) .none (hfK K 213) (hfDoc K 213) (hfPm K 213) (hfAn K 213) (hfCd K 213) (hfCt K 213)), (hoS K 213)⟩) ∧
  (PySem.W.codeIn K (hfCd K 213) "square_in" = true) ∧
  (PySem.W.keepIn K (.ref 213) = true) ∧
  (PySem.W.nsIn K PySem.mainGlobals "lanes_trodden" = some (some (.ref 218))) ∧
  (K.lookup 218 = some ⟨(hoC K 218), (hoD K 218), .func (PySem.W.fnOf "lanes_trodden" "lanes_trodden" (defArgs s_lanes_trodden) (defBody s_lanes_trodden) (defScope s_lanes_trodden) .none (hfK K 218) (hfDoc K 218) (hfPm K 218) (hfAn K 218) (hfCd K 218) (hfCt K 218)), (hoS K 218)⟩) ∧
  (PySem.W.codeIn K (hfCd K 218) "lanes_trodden" = true) ∧
  (PySem.W.keepIn K (.ref 218) = true)
abbrev HF2 (w : World) (K : Frag) : Prop := (PySem.W.nsIn K PySem.mainGlobals "from_start" = some (some (.ref 922))) ∧
  (K.lookup 922 = some ⟨(hoC K 922), (hoD K 922), .func (PySem.W.fnOf "from_start" "from_start" (defArgs s_from_start) (defBody s_from_start) (defScope s_from_start) .none (hfK K 922) (hfDoc K 922) (hfPm K 922) (hfAn K 922) (hfCd K 922) (hfCt K 922)), (hoS K 922)⟩) ∧
  (PySem.W.codeIn K (hfCd K 922) "from_start" = true) ∧
  (PySem.W.keepIn K (.ref 922) = true) ∧
  (PySem.W.nsIn K PySem.mainGlobals "square_at" = some (some (.ref 929))) ∧
  (K.lookup 929 = some ⟨(hoC K 929), (hoD K 929), .func (PySem.W.fnOf "square_at" "square_at" (defArgs s_square_at) (defBody s_square_at) (defScope s_square_at) .none (hfK K 929) (hfDoc K 929) (hfPm K 929) (hfAn K 929) (hfCd K 929) (hfCt K 929)), (hoS K 929)⟩) ∧
  (PySem.W.codeIn K (hfCd K 929) "square_at" = true) ∧
  (PySem.W.keepIn K (.ref 929) = true) ∧
  (PySem.W.nsIn K PySem.mainGlobals "_law_cup" = some (some (.ref 941))) ∧
  (K.lookup 941 = some ⟨(hoC K 941), (hoD K 941), .func (PySem.W.fnOf "_law_cup" "_law_cup" (defArgs s__law_cup) (defBody s__law_cup) (defScope s__law_cup) .none (hfK K 941) (hfDoc K 941) (hfPm K 941) (hfAn K 941) (hfCd K 941) (hfCt K 941)), (hoS K 941)⟩) ∧
  (PySem.W.codeIn K (hfCd K 941) "_law_cup" = true) ∧
  (PySem.W.keepIn K (.ref 941) = true) ∧
  (PySem.W.nsIn K PySem.mainGlobals "_law_sip" = some (some (.ref 948))) ∧
  (K.lookup 948 = some ⟨(hoC K 948), (hoD K 948), .func (PySem.W.fnOf "_law_sip" "_law_sip" (defArgs s__law_sip) (defBody s__law_sip) (defScope s__law_sip) .none (hfK K 948) (hfDoc K 948) (hfPm K 948) (hfAn K 948) (hfCd K 948) (hfCt K 948)), (hoS K 948)⟩) ∧
  (PySem.W.codeIn K (hfCd K 948) "_law_sip" = true) ∧
  (PySem.W.keepIn K (.ref 948) = true) ∧
  (PySem.W.nsIn K PySem.mainGlobals "_law_pick" = some (some (.ref 955))) ∧
  (K.lookup 955 = some ⟨(hoC K 955), (hoD K 955), .func (PySem.W.fnOf "_law_pick" "_law_pick" (defArgs s__law_pick) (defBody s__law_pick) (defScope s__law_pick) .none (hfK K 955) (hfDoc K 955) (hfPm K 955) (hfAn K 955) (hfCd K 955) (hfCt K 955)), (hoS K 955)⟩) ∧
  (PySem.W.codeIn K (hfCd K 955) "_law_pick" = true) ∧
  (PySem.W.keepIn K (.ref 955) = true) ∧
  (PySem.W.nsIn K PySem.mainGlobals "_law_row" = some (some (.ref 960))) ∧
  (K.lookup 960 = some ⟨(hoC K 960), (hoD K 960), .func (PySem.W.fnOf "_law_row" "_law_row" (defArgs s__law_row) (defBody s__law_row) (defScope s__law_row) .none (hfK K 960) (hfDoc K 960) (hfPm K 960) (hfAn K 960) (hfCd K 960) (hfCt K 960)), (hoS K 960)⟩) ∧
  (PySem.W.codeIn K (hfCd K 960) "_law_row" = true) ∧
  (PySem.W.keepIn K (.ref 960) = true) ∧
  (PySem.W.nsIn K PySem.mainGlobals "_law_start" = some (some (.ref 967))) ∧
  (K.lookup 967 = some ⟨(hoC K 967), (hoD K 967), .func (PySem.W.fnOf "_law_start" "_law_start" (defArgs s__law_start) (defBody s__law_start) (defScope s__law_start) .none (hfK K 967) (hfDoc K 967) (hfPm K 967) (hfAn K 967) (hfCd K 967) (hfCt K 967)), (hoS K 967)⟩) ∧
  (PySem.W.codeIn K (hfCd K 967) "_law_start" = true) ∧
  (PySem.W.keepIn K (.ref 967) = true) ∧
  (PySem.W.nsIn K PySem.mainGlobals "_law_steps" = some (some (.ref 972))) ∧
  (K.lookup 972 = some ⟨(hoC K 972), (hoD K 972), .func (PySem.W.fnOf "_law_steps" "_law_steps" (defArgs s__law_steps) (defBody s__law_steps) (defScope s__law_steps) .none (hfK K 972) (hfDoc K 972) (hfPm K 972) (hfAn K 972) (hfCd K 972) (hfCt K 972)), (hoS K 972)⟩)
abbrev HF3 (w : World) (K : Frag) : Prop := (PySem.W.codeIn K (hfCd K 972) "_law_steps" = true) ∧
  (PySem.W.keepIn K (.ref 972) = true) ∧
  (PySem.W.nsIn K PySem.mainGlobals "_law_on" = some (some (.ref 979))) ∧
  (K.lookup 979 = some ⟨(hoC K 979), (hoD K 979), .func (PySem.W.fnOf "_law_on" "_law_on" (defArgs s__law_on) (defBody s__law_on) (defScope s__law_on) .none (hfK K 979) (hfDoc K 979) (hfPm K 979) (hfAn K 979) (hfCd K 979) (hfCt K 979)), (hoS K 979)⟩) ∧
  (PySem.W.codeIn K (hfCd K 979) "_law_on" = true) ∧
  (PySem.W.keepIn K (.ref 979) = true) ∧
  (PySem.W.nsIn K PySem.mainGlobals "_law_path" = some (some (.ref 986))) ∧
  (K.lookup 986 = some ⟨(hoC K 986), (hoD K 986), .func (PySem.W.fnOf "_law_path" "_law_path" (defArgs s__law_path) (defBody s__law_path) (defScope s__law_path) .none (hfK K 986) (hfDoc K 986) (hfPm K 986) (hfAn K 986) (hfCd K 986) (hfCt K 986)), (hoS K 986)⟩) ∧
  (PySem.W.codeIn K (hfCd K 986) "_law_path" = true) ∧
  (PySem.W.keepIn K (.ref 986) = true) ∧
  (PySem.W.nsIn K PySem.mainGlobals "_law_four" = some (some (.ref 991))) ∧
  (K.lookup 991 = some ⟨(hoC K 991), (hoD K 991), .func (PySem.W.fnOf "_law_four" "_law_four" (defArgs s__law_four) (defBody s__law_four) (defScope s__law_four) .none (hfK K 991) (hfDoc K 991) (hfPm K 991) (hfAn K 991) (hfCd K 991) (hfCt K 991)), (hoS K 991)⟩) ∧
  (PySem.W.codeIn K (hfCd K 991) "_law_four" = true) ∧
  (PySem.W.keepIn K (.ref 991) = true) ∧
  (PySem.W.nsIn K PySem.mainGlobals "_law_some" = some (some (.ref 998))) ∧
  (K.lookup 998 = some ⟨(hoC K 998), (hoD K 998), .func (PySem.W.fnOf "_law_some" "_law_some" (defArgs s__law_some) (defBody s__law_some) (defScope s__law_some) .none (hfK K 998) (hfDoc K 998) (hfPm K 998) (hfAn K 998) (hfCd K 998) (hfCt K 998)), (hoS K 998)⟩) ∧
  (PySem.W.codeIn K (hfCd K 998) "_law_some" = true) ∧
  (PySem.W.keepIn K (.ref 998) = true) ∧
  (PySem.W.nsIn K PySem.mainGlobals "_law_far" = some (some (.ref 1005))) ∧
  (K.lookup 1005 = some ⟨(hoC K 1005), (hoD K 1005), .func (PySem.W.fnOf "_law_far" "_law_far" (defArgs s__law_far) (defBody s__law_far) (defScope s__law_far) .none (hfK K 1005) (hfDoc K 1005) (hfPm K 1005) (hfAn K 1005) (hfCd K 1005) (hfCt K 1005)), (hoS K 1005)⟩) ∧
  (PySem.W.codeIn K (hfCd K 1005) "_law_far" = true) ∧
  (PySem.W.keepIn K (.ref 1005) = true) ∧
  (PySem.W.nsIn K PySem.mainGlobals "_law_right" = some (some (.ref 1012))) ∧
  (K.lookup 1012 = some ⟨(hoC K 1012), (hoD K 1012), .func (PySem.W.fnOf "_law_right" "_law_right" (defArgs s__law_right) (defBody s__law_right) (defScope s__law_right) .none (hfK K 1012) (hfDoc K 1012) (hfPm K 1012) (hfAn K 1012) (hfCd K 1012) (hfCt K 1012)), (hoS K 1012)⟩) ∧
  (PySem.W.codeIn K (hfCd K 1012) "_law_right" = true) ∧
  (PySem.W.keepIn K (.ref 1012) = true) ∧
  (PySem.W.nsIn K PySem.mainGlobals "law" = some (some (.ref 1017))) ∧
  (K.lookup 1017 = some ⟨(hoC K 1017), (hoD K 1017), .func (PySem.W.fnOf "law" "law" (defArgs s_law) (defBody s_law) (defScope s_law) .none (hfK K 1017) (hfDoc K 1017) (hfPm K 1017) (hfAn K 1017) (hfCd K 1017) (hfCt K 1017)), (hoS K 1017)⟩) ∧
  (PySem.W.codeIn K (hfCd K 1017) "law" = true) ∧
  (PySem.W.keepIn K (.ref 1017) = true)
abbrev HF4 (w : World) (K : Frag) : Prop := (PySem.W.nsIn K PySem.mainGlobals "Walker" = some (some (.ref 911))) ∧
  (PySem.W.plainGet K 911 Str.empty = true) ∧
  (PySem.W.hasDictIn K 911 = true) ∧
  (PySem.W.plainOver K 911 = true) ∧
  (PySem.W.findIn K (.ref 911) "__setattr__" = some (some (.builtin "object.__setattr__"))) ∧
  (PySem.W.findIn K (.ref 911) "_row" = some none) ∧
  (PySem.W.findIn K (.ref 911) "_start" = some none) ∧
  (PySem.W.findIn K (.ref 911) "_way" = some none) ∧
  (PySem.W.findIn K (.ref 911) "_ways" = some none) ∧
  (PySem.W.findIn K (.ref 911) "_offsets" = some none) ∧
  (PySem.W.findIn K (.ref 911) "_drift" = some none) ∧
  (PySem.W.findIn K (.ref 911) "_lanes" = some none) ∧
  (PySem.W.makesIn K 911 = true) ∧
  (PySem.W.keepIn K (.ref 911) = true) ∧
  (PySem.W.findIn K (.ref 911) "__init__" = some (some (.ref 792))) ∧
  (K.lookup 792 = some ⟨(hoC K 792), (hoD K 792), .func (PySem.W.fnOf "__init__" "Walker.__init__" (defArgs s_Walker___init__) (defBody s_Walker___init__) (defScope s_Walker___init__) (.ref 785) (hfK K 792) (hfDoc K 792) (hfPm K 792) (hfAn K 792) (hfCd K 792) (hfCt K 792)), (hoS K 792)⟩) ∧
  (PySem.W.codeIn K (hfCd K 792) "Walker.__init__" = true) ∧
  (PySem.W.isFn K (.ref 792) = true) ∧
  (PySem.W.keepIn K (.ref 792) = true) ∧
  (K.lookup 785 = some ⟨.type "tuple", (hoD K 785), .seq #[.ref 784, .str "N" (hqT K 785 1)] (hqN K 785), (hoS K 785)⟩) ∧
  (K.lookup 784 = some ⟨.type "tuple", (hoD K 784), .seq #[.int 0 (hqT K 784 0), .int 0 (hqT K 784 1)] (hqN K 784), (hoS K 784)⟩) ∧
  (PySem.W.findIn K (.ref 911) "start" = some (some (.ref 808))) ∧
  (PySem.W.specialIn K (.ref 808) "__get__" = some (some (.builtin "property.__get__"))) ∧
  (PySem.W.takesIn K (.ref 808) = some true) ∧
  (PySem.W.recIn K 808 "property" = some (.ref 807 :: (hrT K 808))) ∧
  (K.lookup 807 = some ⟨(hoC K 807), (hoD K 807), .func (PySem.W.fnOf "start" "Walker.start" (defArgs s_Walker_start) (defBody s_Walker_start) (defScope s_Walker_start) .none (hfK K 807) (hfDoc K 807) (hfPm K 807) (hfAn K 807) (hfCd K 807) (hfCt K 807)), (hoS K 807)⟩) ∧
  (PySem.W.codeIn K (hfCd K 807) "Walker.start" = true) ∧
  (PySem.W.keepIn K (.ref 807) = true) ∧
  (PySem.W.findIn K (.ref 911) "period" = some (some (.ref 824))) ∧
  (PySem.W.specialIn K (.ref 824) "__get__" = some (some (.builtin "property.__get__")))
abbrev HF5 (w : World) (K : Frag) : Prop := (PySem.W.takesIn K (.ref 824) = some true) ∧
  (PySem.W.recIn K 824 "property" = some (.ref 823 :: (hrT K 824))) ∧
  (K.lookup 823 = some ⟨(hoC K 823), (hoD K 823), .func (PySem.W.fnOf "period" "Walker.period" (defArgs s_Walker_period) (defBody s_Walker_period) (defScope s_Walker_period) .none (hfK K 823) (hfDoc K 823) (hfPm K 823) (hfAn K 823) (hfCd K 823) (hfCt K 823)), (hoS K 823)⟩) ∧
  (PySem.W.codeIn K (hfCd K 823) "Walker.period" = true) ∧
  (PySem.W.keepIn K (.ref 823) = true) ∧
  (PySem.W.findIn K (.ref 911) "drift" = some (some (.ref 832))) ∧
  (PySem.W.specialIn K (.ref 832) "__get__" = some (some (.builtin "property.__get__"))) ∧
  (PySem.W.takesIn K (.ref 832) = some true) ∧
  (PySem.W.recIn K 832 "property" = some (.ref 831 :: (hrT K 832))) ∧
  (K.lookup 831 = some ⟨(hoC K 831), (hoD K 831), .func (PySem.W.fnOf "drift" "Walker.drift" (defArgs s_Walker_drift) (defBody s_Walker_drift) (defScope s_Walker_drift) .none (hfK K 831) (hfDoc K 831) (hfPm K 831) (hfAn K 831) (hfCd K 831) (hfCt K 831)), (hoS K 831)⟩) ∧
  (PySem.W.codeIn K (hfCd K 831) "Walker.drift" = true) ∧
  (PySem.W.keepIn K (.ref 831) = true) ∧
  (PySem.W.findIn K (.ref 911) "at" = some (some (.ref 852))) ∧
  (PySem.W.isFn K (.ref 852) = true) ∧
  (K.lookup 852 = some ⟨(hoC K 852), (hoD K 852), .func (PySem.W.fnOf "at" "Walker.at" (defArgs s_Walker_at) (defBody s_Walker_at) (defScope s_Walker_at) .none (hfK K 852) (hfDoc K 852) (hfPm K 852) (hfAn K 852) (hfCd K 852) (hfCt K 852)), (hoS K 852)⟩) ∧
  (PySem.W.codeIn K (hfCd K 852) "Walker.at" = true) ∧
  (PySem.W.keepIn K (.ref 852) = true) ∧
  (PySem.W.findIn K (.ref 911) "goes" = some (some (.ref 859))) ∧
  (PySem.W.isFn K (.ref 859) = true) ∧
  (K.lookup 859 = some ⟨(hoC K 859), (hoD K 859), .func (PySem.W.fnOf "goes" "Walker.goes" (defArgs s_Walker_goes) (defBody s_Walker_goes) (defScope s_Walker_goes) .none (hfK K 859) (hfDoc K 859) (hfPm K 859) (hfAn K 859) (hfCd K 859) (hfCt K 859)), (hoS K 859)⟩) ∧
  (PySem.W.codeIn K (hfCd K 859) "Walker.goes" = true) ∧
  (PySem.W.keepIn K (.ref 859) = true) ∧
  (PySem.W.nsIn K PySem.mainGlobals "TURNS" = some (some (.ref 731))) ∧
  (K.lookup 731 = some ⟨.type "dict", none, .dict (hdE K 731) (hdN K 731), #[]⟩) ∧
  ((hdE K 731).toList = ([("R", hkT K 731 0, hkV K 731 0), ("B", hkT K 731 1, hkV K 731 1), ("L", hkT K 731 2, hkV K 731 2)] : List (Str × Tok × Value)).map (fun q => (⟨PyData.keyHash w.params q.1, .str q.1 q.2.1, q.2.2⟩ : DictEntry))) ∧
  (PySem.W.nsIn K 731 "R" = some (some (.int 1 (hvT K 731 "R")))) ∧
  (PySem.W.nsIn K 731 "B" = some (some (.int 2 (hvT K 731 "B")))) ∧
  (PySem.W.nsIn K 731 "L" = some (some (.int 3 (hvT K 731 "L")))) ∧
  (PySem.W.nsIn K 731 "1" = some none) ∧
  (PySem.W.nsIn K 731 "2" = some none)
abbrev HF6 (w : World) (K : Frag) : Prop := (PySem.W.nsIn K 731 "3" = some none) ∧
  (PySem.W.nsIn K 731 "4" = some none) ∧
  (PySem.W.nsIn K 731 "5" = some none) ∧
  (PySem.W.nsIn K 731 "6" = some none) ∧
  (PySem.W.nsIn K 731 "7" = some none) ∧
  (PySem.W.nsIn K 731 "8" = some none) ∧
  (PySem.W.nsIn K 731 "9" = some none) ∧
  (PySem.W.nsIn K PySem.mainGlobals "MOVES" = some (some (.ref 726))) ∧
  (K.lookup 726 = some ⟨.type "dict", none, .dict (hdE K 726) (hdN K 726), #[]⟩) ∧
  ((hdE K 726).toList = ([("N", hkT K 726 0, hkV K 726 0), ("E", hkT K 726 1, hkV K 726 1), ("S", hkT K 726 2, hkV K 726 2), ("W", hkT K 726 3, hkV K 726 3)] : List (Str × Tok × Value)).map (fun q => (⟨PyData.keyHash w.params q.1, .str q.1 q.2.1, q.2.2⟩ : DictEntry))) ∧
  ((hdE K 726).toList.map keyS = (["N", "E", "S", "W"] : List Str)) ∧
  (PySem.W.nsIn K 726 "N" = some (some (.ref 727))) ∧
  (K.lookup 727 = some ⟨.type "tuple", (hoD K 727), .seq #[.int 0 (hqT K 727 0), .int 1 (hqT K 727 1)] (hqN K 727), (hoS K 727)⟩) ∧
  (PySem.W.nsIn K 726 "E" = some (some (.ref 728))) ∧
  (K.lookup 728 = some ⟨.type "tuple", (hoD K 728), .seq #[.int 1 (hqT K 728 0), .int 0 (hqT K 728 1)] (hqN K 728), (hoS K 728)⟩) ∧
  (PySem.W.nsIn K 726 "S" = some (some (.ref 729))) ∧
  (K.lookup 729 = some ⟨.type "tuple", (hoD K 729), .seq #[.int 0 (hqT K 729 0), .int (-1) (hqT K 729 1)] (hqN K 729), (hoS K 729)⟩) ∧
  (PySem.W.nsIn K 726 "W" = some (some (.ref 730))) ∧
  (K.lookup 730 = some ⟨.type "tuple", (hoD K 730), .seq #[.int (-1) (hqT K 730 0), .int 0 (hqT K 730 1)] (hqN K 730), (hoS K 730)⟩) ∧
  (PySem.W.nsIn K PySem.mainGlobals "WAYS" = some (some (.str "NESW" (hvT K 3 "WAYS")))) ∧
  (PySem.W.nsIn K PySem.mainGlobals "GREATEST" = some (some (.int 1000000000000000000000000000000 (hvT K 3 "GREATEST")))) ∧
  (PySem.W.nsIn K PySem.mainGlobals "MOST_ORDERS" = some (some (.int 8 (hvT K 3 "MOST_ORDERS")))) ∧
  (PySem.W.nsIn K PySem.mainGlobals "MOST_STEPS" = some (some (.int 9 (hvT K 3 "MOST_STEPS")))) ∧
  (PySem.W.nsIn K PySem.mainGlobals "isinstance" = some none) ∧
  (PySem.W.nsIn K PySem.mainGlobals "int" = some none) ∧
  (PySem.W.nsIn K PySem.mainGlobals "bool" = some none) ∧
  (PySem.W.nsIn K PySem.mainGlobals "len" = some none) ∧
  (PySem.W.nsIn K PySem.mainGlobals "tuple" = some none) ∧
  (PySem.W.nsIn K PySem.mainGlobals "str" = some none) ∧
  (PySem.W.nsIn K PySem.mainGlobals "list" = some none)
abbrev HF7 (w : World) (K : Frag) : Prop := (PySem.W.nsIn K PySem.mainGlobals "range" = some none) ∧
  (PySem.W.nsIn K PySem.mainGlobals "abs" = some none) ∧
  (PySem.W.nsIn K PySem.mainGlobals "all" = some none) ∧
  (PySem.W.nsIn K PySem.mainGlobals "any" = some none) ∧
  (PySem.W.nsIn K PySem.mainGlobals "divmod" = some none) ∧
  (PySem.W.nsIn K PySem.mainGlobals "enumerate" = some none) ∧
  (PySem.W.nsIn K PySem.mainGlobals "sorted" = some none) ∧
  (PySem.W.nsIn K PySem.mainGlobals "sum" = some none) ∧
  (PySem.W.nsIn K PySem.mainGlobals "min" = some none) ∧
  (PySem.W.nsIn K PySem.mainGlobals "max" = some none)
abbrev HF (w : World) (K : Frag) : Prop := HF0 w K ∧ HF1 w K ∧ HF2 w K ∧ HF3 w K ∧ HF4 w K ∧ HF5 w K ∧ HF6 w K ∧ HF7 w K
theorem hfacts0 (w : World) : HF0 w (hK w) := by
  refine ⟨?_, ?_, ?_, ?_, ?_, ?_, ?_, ?_, ?_, ?_, ?_, ?_, ?_, ?_, ?_, ?_, ?_, ?_, ?_, ?_, ?_, ?_, ?_, ?_, ?_, ?_, ?_, ?_, ?_, ?_⟩ <;> kernel_rfl
theorem hfacts1 (w : World) : HF1 w (hK w) := by
  refine ⟨?_, ?_, ?_, ?_, ?_, ?_, ?_, ?_, ?_, ?_, ?_, ?_, ?_, ?_, ?_, ?_, ?_, ?_, ?_, ?_, ?_, ?_, ?_, ?_, ?_, ?_, ?_, ?_, ?_, ?_⟩ <;> kernel_rfl
theorem hfacts2 (w : World) : HF2 w (hK w) := by
  refine ⟨?_, ?_, ?_, ?_, ?_, ?_, ?_, ?_, ?_, ?_, ?_, ?_, ?_, ?_, ?_, ?_, ?_, ?_, ?_, ?_, ?_, ?_, ?_, ?_, ?_, ?_, ?_, ?_, ?_, ?_⟩ <;> kernel_rfl
theorem hfacts3 (w : World) : HF3 w (hK w) := by
  refine ⟨?_, ?_, ?_, ?_, ?_, ?_, ?_, ?_, ?_, ?_, ?_, ?_, ?_, ?_, ?_, ?_, ?_, ?_, ?_, ?_, ?_, ?_, ?_, ?_, ?_, ?_, ?_, ?_, ?_, ?_⟩ <;> kernel_rfl
theorem hfacts4 (w : World) : HF4 w (hK w) := by
  refine ⟨?_, ?_, ?_, ?_, ?_, ?_, ?_, ?_, ?_, ?_, ?_, ?_, ?_, ?_, ?_, ?_, ?_, ?_, ?_, ?_, ?_, ?_, ?_, ?_, ?_, ?_, ?_, ?_, ?_, ?_⟩ <;> kernel_rfl
theorem hfacts5 (w : World) : HF5 w (hK w) := by
  refine ⟨?_, ?_, ?_, ?_, ?_, ?_, ?_, ?_, ?_, ?_, ?_, ?_, ?_, ?_, ?_, ?_, ?_, ?_, ?_, ?_, ?_, ?_, ?_, ?_, ?_, ?_, ?_, ?_, ?_, ?_⟩ <;> kernel_rfl
theorem hfacts6 (w : World) : HF6 w (hK w) := by
  refine ⟨?_, ?_, ?_, ?_, ?_, ?_, ?_, ?_, ?_, ?_, ?_, ?_, ?_, ?_, ?_, ?_, ?_, ?_, ?_, ?_, ?_, ?_, ?_, ?_, ?_, ?_, ?_, ?_, ?_, ?_⟩ <;> kernel_rfl
theorem hfacts7 (w : World) : HF7 w (hK w) := by
  refine ⟨?_, ?_, ?_, ?_, ?_, ?_, ?_, ?_, ?_, ?_⟩ <;> kernel_rfl
theorem hfacts (w : World) : HF w (hK w) := ⟨hfacts0 w, hfacts1 w, hfacts2 w, hfacts3 w, hfacts4 w, hfacts5 w, hfacts6 w, hfacts7 w⟩
end K2
set_option Elab.async false
set_option linter.all false
set_option maxRecDepth 100000
set_option maxHeartbeats 4000000
namespace Vd
open PySem L2
abbrev Ex := Evl.Ex
/-- plain data; rol: a list that is only read (the script); ins, exc: a frozen instance, a frozen exception; ob: a value of which nothing is said; tupF: a tuple that stands in the heap itself (a dict's key may be such); dtp: a dict whose keys are tuples -/
inductive D where
  | non | bl (b : Bool) | int (i : Int) | str (x : Str)
  | lst (l : List D) | rol (l : List D) | tup (l : List D) | dct (l : List (Key × D))
  | ins (C : Addr) (l : List (Str × D)) | exc (C : Addr) (l : List (Str × D)) | ob (v : V)
  | tupF (l : List D) | dtp (l : List (List Key × D))
mutual
inductive Rp (K : PySem.W.Frag) (F : Hp) : V → D → Prop
  | non : Rp K F .non .non
  | bl (b : Bool) : Rp K F (.bl b) (.bl b)
  | int (i : Int) : Rp K F (.int i) (.int i)
  | str (x : Str) : Rp K F (.str x) (.str x)
  | lst {a : Addr} {xs : List V} {l : List D} : F a = some (.lst xs) → Rps K F xs l → Rp K F (.ref a) (.lst l)
  | rol {a : Addr} {xs : List V} {l : List D} : SqL K F a xs → Rps K F xs l → Rp K F (.ref a) (.rol l)
  | tup {a : Addr} {xs : List V} {l : List D} : SqT K F a xs → Rps K F xs l → Rp K F (.ref a) (.tup l)
  | dct {a : Addr} {kvs : List (Key × V)} {l : List (Key × D)} : F a = some (.dK kvs) → Rpk K F kvs l → Rp K F (.ref a) (.dct l)
  | ins {a C dx : Addr} {fs : List (Str × V)} {l : List (Str × D)} : F a = some (.ins C dx fs) → Rpf K F fs l → Rp K F (.ref a) (.ins C l)
  | exc0 {a C : Addr} : F a = some (exo a C none) → Rp K F (.ref a) (.exc C [])
  | exc {a C dx : Addr} {fs : List (Str × V)} {l : List (Str × D)} : F a = some (exo a C (some dx)) → F dx = some (exd dx fs) → Rpf K F fs l → Rp K F (.ref a) (.exc C l)
  | ob (v : V) : Rp K F v (.ob v)
  | tupF {a : Addr} {xs : List V} {l : List D} : F a = some (.tup xs) → Rps K F xs l → Rp K F (.ref a) (.tupF l)
  | dtp {a : Addr} {o : Obj} {kvs : List (List Key × V)} {l : List (List Key × D)} : F a = some (.frz o (.dT kvs)) → Rpt K F kvs l → Rp K F (.ref a) (.dtp l)
inductive Rps (K : PySem.W.Frag) (F : Hp) : List V → List D → Prop
  | nil : Rps K F [] []
  | cons {v : V} {d : D} {vs : List V} {ds : List D} : Rp K F v d → Rps K F vs ds → Rps K F (v :: vs) (d :: ds)
inductive Rpk (K : PySem.W.Frag) (F : Hp) : List (Key × V) → List (Key × D) → Prop
  | nil : Rpk K F [] []
  | cons {k : Key} {v : V} {d : D} {vs : List (Key × V)} {ds : List (Key × D)} : Rp K F v d → Rpk K F vs ds → Rpk K F ((k, v) :: vs) ((k, d) :: ds)
inductive Rpt (K : PySem.W.Frag) (F : Hp) : List (List Key × V) → List (List Key × D) → Prop
  | nil : Rpt K F [] []
  | cons {k : List Key} {v : V} {d : D} {vs : List (List Key × V)} {ds : List (List Key × D)} : Rp K F v d → Rpt K F vs ds → Rpt K F ((k, v) :: vs) ((k, d) :: ds)
inductive Rpf (K : PySem.W.Frag) (F : Hp) : List (Str × V) → List (Str × D) → Prop
  | nil : Rpf K F [] []
  | cons {k : Str} {v : V} {d : D} {vs : List (Str × V)} {ds : List (Str × D)} : Rp K F v d → Rpf K F vs ds → Rpf K F ((k, v) :: vs) ((k, d) :: ds)
end
section
variable {K : PySem.W.Frag} {F F' : Hp}
mutual
theorem Rp.mono (e : Ex F F') : ∀ {v : V} {d : D}, Rp K F v d → Rp K F' v d
  | _, _, .non => .non
  | _, _, .bl b => .bl b
  | _, _, .int i => .int i
  | _, _, .str x => .str x
  | _, _, .lst h r => .lst (e _ _ h) (Rps.mono e r)
  | _, _, .rol h r => .rol (Evl.ex_l e h) (Rps.mono e r)
  | _, _, .exc0 h => .exc0 (e _ _ h)
  | _, _, .exc h1 h2 r => .exc (e _ _ h1) (e _ _ h2) (Rpf.mono e r)
  | _, _, .tup h r => .tup (Evl.ex_t e h) (Rps.mono e r)
  | _, _, .dct h r => .dct (e _ _ h) (Rpk.mono e r)
  | _, _, .ins h r => .ins (e _ _ h) (Rpf.mono e r)
  | _, _, .ob v => .ob v
  | _, _, .tupF h r => .tupF (e _ _ h) (Rps.mono e r)
  | _, _, .dtp h r => .dtp (e _ _ h) (Rpt.mono e r)
theorem Rps.mono (e : Ex F F') : ∀ {v : List V} {d : List D}, Rps K F v d → Rps K F' v d
  | _, _, .nil => .nil
  | _, _, .cons h r => .cons (Rp.mono e h) (Rps.mono e r)
theorem Rpk.mono (e : Ex F F') : ∀ {v : List (Key × V)} {d : List (Key × D)}, Rpk K F v d → Rpk K F' v d
  | _, _, .nil => .nil
  | _, _, .cons h r => .cons (Rp.mono e h) (Rpk.mono e r)
theorem Rpt.mono (e : Ex F F') : ∀ {v : List (List Key × V)} {d : List (List Key × D)}, Rpt K F v d → Rpt K F' v d
  | _, _, .nil => .nil
  | _, _, .cons h r => .cons (Rp.mono e h) (Rpt.mono e r)
theorem Rpf.mono (e : Ex F F') : ∀ {v : List (Str × V)} {d : List (Str × D)}, Rpf K F v d → Rpf K F' v d
  | _, _, .nil => .nil
  | _, _, .cons h r => .cons (Rp.mono e h) (Rpf.mono e r)
end
theorem Rps.length : ∀ {v : List V} {d : List D}, Rps K F v d → v.length = d.length
  | _, _, .nil => rfl
  | _, _, .cons _ r => by simp [Rps.length r]
theorem Rps.get : ∀ {v : List V} {d : List D} {i : Nat} {x : D}, Rps K F v d → d[i]? = some x → ∃ y, v[i]? = some y ∧ Rp K F y x
  | _, _, _, _, .nil, e => by simp at e
  | _, _, 0, _, .cons h _, e => by
    simp at e
    subst e
    exact ⟨_, rfl, h⟩
  | _, _, i + 1, _, .cons _ r, e => by
    simp only [List.getElem?_cons_succ] at e ⊢
    exact Rps.get r e
theorem Rps.get' : ∀ {v : List V} {d : List D} {i : Nat} {y : V}, Rps K F v d → v[i]? = some y → ∃ x, d[i]? = some x ∧ Rp K F y x
  | _, _, _, _, .nil, e => by simp at e
  | _, _, 0, _, .cons h _, e => by
    simp at e
    subst e
    exact ⟨_, rfl, h⟩
  | _, _, i + 1, _, .cons _ r, e => by
    simp only [List.getElem?_cons_succ] at e ⊢
    exact Rps.get' r e
theorem Rps.append : ∀ {v w : List V} {d e : List D}, Rps K F v d → Rps K F w e → Rps K F (v ++ w) (d ++ e)
  | _, _, _, _, .nil, s => s
  | _, _, _, _, .cons h r, s => .cons h (Rps.append r s)
theorem Rps.take : ∀ {v : List V} {d : List D} (n : Nat), Rps K F v d → Rps K F (v.take n) (d.take n)
  | _, _, 0, _ => .nil
  | _, _, _ + 1, .nil => .nil
  | _, _, n + 1, .cons h r => .cons h (Rps.take n r)
theorem Rps.drop : ∀ {v : List V} {d : List D} (n : Nat), Rps K F v d → Rps K F (v.drop n) (d.drop n)
  | _, _, 0, r => r
  | _, _, _ + 1, .nil => .nil
  | _, _, n + 1, .cons _ r => Rps.drop n r
theorem Rps.set {y : V} {x : D} (h : Rp K F y x) : ∀ {v : List V} {d : List D} (n : Nat), Rps K F v d → Rps K F (v.set n y) (d.set n x)
  | _, _, _, .nil => .nil
  | _, _, 0, .cons _ r => .cons h r
  | _, _, n + 1, .cons z r => .cons z (Rps.set h n r)
theorem Rps.ints : ∀ (l : List Int), Rps K F (l.map V.int) (l.map D.int)
  | [] => .nil
  | i :: l => .cons (.int i) (Rps.ints l)
theorem Rps.bls : ∀ {v : List V} {l : List Bool}, Rps K F v (l.map D.bl) → v = l.map V.bl
  | _, [], .nil => rfl
  | _, b :: l, .cons (.bl _) r => by rw [Rps.bls (l := l) r]; rfl
theorem Rps.intsV : ∀ {v : List V} {l : List Int}, Rps K F v (l.map D.int) → v = l.map V.int
  | _, [], .nil => rfl
  | _, b :: l, .cons (.int _) r => by rw [Rps.intsV (l := l) r]; rfl
theorem Rps.strsV : ∀ {v : List V} {l : List Str}, Rps K F v (l.map D.str) → v = l.map V.str
  | _, [], .nil => rfl
  | _, b :: l, .cons (.str _) r => by rw [Rps.strsV (l := l) r]; rfl
theorem Rpf.look : ∀ {v : List (Str × V)} {d : List (Str × D)} {f : Str} {x : D}, Rpf K F v d → d.lookup f = some x → ∃ y, v.lookup f = some y ∧ Rp K F y x
  | _, _, _, _, .nil, e => by cases e
  | _, _, f, x, .cons (k := k) (v := v) (d := d) h r, e => by
    by_cases q : f = k
    · subst q
      simp [List.lookup] at e ⊢
      subst e
      exact h
    · have q2 : (f == k) = false := by simpa using q
      simp [List.lookup, q2] at e ⊢
      exact Rpf.look r e
theorem look_cons {A : Type} (f k : Str) (x : A) (l : List (Str × A)) : ((k, x) :: l).lookup f = if f = k then some x else l.lookup f := by
  by_cases q : f = k
  · subst q
    simp [List.lookup]
  · have q2 : (f == k) = false := by simpa using q
    simp only [List.lookup, q2, if_neg q]
theorem Rpf.none : ∀ {v : List (Str × V)} {d : List (Str × D)} {f : Str}, Rpf K F v d → d.lookup f = Option.none → v.lookup f = Option.none
  | _, _, _, .nil, _ => rfl
  | _, _, f, .cons (k := k) (v := v) (d := d) h r, e => by
    rw [look_cons] at e ⊢
    by_cases q : f = k
    · rw [if_pos q] at e
      cases e
    · rw [if_neg q] at e ⊢
      exact Rpf.none r e
theorem Rpf.length : ∀ {v : List (Str × V)} {d : List (Str × D)}, Rpf K F v d → v.length = d.length
  | _, _, .nil => rfl
  | _, _, .cons _ r => by simp [Rpf.length r]
end
structure Sl (K : PySem.W.Frag) (F : Hp) (σ : L2.St) (env : List (Option D)) : Prop where
  len : σ.length = env.length
  at_ : ∀ (i : Nat) (d : D), env[i]? = some (some d) → ∃ v, σ[i]? = some (some v) ∧ Rp K F v d
section
variable {K : PySem.W.Frag} {F F' : Hp} {σ : L2.St} {env : List (Option D)}
theorem Sl.mono (e : Ex F F') (s : Sl K F σ env) : Sl K F' σ env := ⟨s.len, fun i d h => by
  obtain ⟨v, h1, h2⟩ := s.at_ i d h
  exact ⟨v, h1, h2.mono e⟩⟩
theorem Sl.set {v : V} {d : D} (s : Sl K F σ env) (r : Rp K F v d) (i : Nat) : Sl K F (σ.set i (some v)) (env.set i (some d)) := ⟨by rw [List.length_set, List.length_set, s.len], fun j e h => by
  rw [List.getElem?_set] at h ⊢
  by_cases q : i = j
  · subst q
    rw [if_pos rfl] at h ⊢
    by_cases l : i < env.length
    · rw [if_pos l] at h
      rw [if_pos (by rw [s.len]; exact l)]
      cases h
      exact ⟨v, rfl, r⟩
    · rw [if_neg l] at h
      cases h
  · rw [if_neg q] at h ⊢
    exact s.at_ j e h⟩
theorem Sl.unset (s : Sl K F σ env) (i : Nat) : Sl K F (σ.set i none) (env.set i none) := ⟨by rw [List.length_set, List.length_set, s.len], fun j e h => by
  rw [List.getElem?_set] at h ⊢
  by_cases q : i = j
  · subst q
    rw [if_pos rfl] at h
    by_cases l : i < env.length
    · rw [if_pos l] at h
      cases h
    · rw [if_neg l] at h
      cases h
  · rw [if_neg q] at h ⊢
    exact s.at_ j e h⟩
def wipeE (env : List (Option D)) : List Nat → List (Option D)
  | [] => env
  | v :: vs => (wipeE env vs).set v none
theorem Sl.wipe (s : Sl K F σ env) : ∀ vs : List Nat, Sl K F (L2.wipe σ vs) (wipeE env vs)
  | [] => s
  | v :: vs => (Sl.wipe s vs).unset v
theorem Sl.start {N : List Str} {vs : List V} {ds : List D} (r : Rps K F vs ds) : Sl K F (L2.start N vs) (ds.map some ++ List.replicate (N.length - ds.length) none) := by
  have e := r.length
  refine ⟨by simp [L2.start, e], fun i d h => ?_⟩
  unfold L2.start
  by_cases l : i < ds.length
  · rw [List.getElem?_append_left (by simpa using l)] at h
    rw [List.getElem?_append_left (by simpa [e] using l)]
    rw [List.getElem?_map] at h ⊢
    cases q : ds[i]? with
    | none =>
      rw [q] at h
      cases h
    | some x =>
      rw [q] at h
      cases h
      obtain ⟨y, h1, h2⟩ := r.get q
      exact ⟨y, by rw [h1]; rfl, h2⟩
  · rw [List.getElem?_append_right (by simpa using l)] at h
    rw [List.getElem?_replicate] at h
    split at h <;> cases h
/-- a slot's data may be told otherwise, or not at all -/
theorem Sl.weak {env' : List (Option D)} (s : Sl K F σ env) (l : env'.length = env.length) (h : ∀ (i : Nat) (d : D), env'[i]? = some (some d) → env[i]? = some (some d)) : Sl K F σ env' :=
  ⟨by rw [s.len, l], fun i d e => s.at_ i d (h i d e)⟩
end
inductive OD where
  | lst (l : List D) | dct (l : List (Key × D)) | ins (C : Addr) (l : List (Str × D)) | dtp (l : List (List Key × D))
abbrev Ow := Addr → Option OD
def ou (ow : Ow) (a : Addr) (o : OD) : Ow := fun b => if b = a then some o else ow b
theorem ou_same {ow : Ow} {a : Addr} {o : OD} : ou ow a o a = some o := by unfold ou; rw [if_pos rfl]
theorem ou_ne {ow : Ow} {a b : Addr} {o : OD} (h : b ≠ a) : ou ow a o b = ow b := by unfold ou; rw [if_neg h]
theorem ou_ou {ow : Ow} {a : Addr} {o u : OD} : ou (ou ow a o) a u = ou ow a u := by
  funext b; unfold ou; split <;> rfl
def OdOk (K : PySem.W.Frag) (F H : Hp) (a : Addr) : OD → Prop
  | .lst l => ∃ xs, H a = some (.lst xs) ∧ Rps K F xs l
  | .dct l => ∃ kvs, H a = some (.dK kvs) ∧ Rpk K F kvs l
  | .ins C l => ∃ dx fs, H a = some (.ins C dx fs) ∧ Rpf K F fs l
  | .dtp l => ∃ kvs, H a = some (.dT kvs) ∧ Rpt K F kvs l
theorem OdOk.there {K : PySem.W.Frag} {F H : Hp} {a : Addr} : ∀ {o : OD}, OdOk K F H a o → ∃ u, H a = some u
  | .lst _, ⟨_, h, _⟩ => ⟨_, h⟩
  | .dct _, ⟨_, h, _⟩ => ⟨_, h⟩
  | .ins _ _, ⟨_, _, h, _⟩ => ⟨_, h⟩
  | .dtp _, ⟨_, h, _⟩ => ⟨_, h⟩
theorem OdOk.stay {K : PySem.W.Frag} {F F' H H' : Hp} {a : Addr} (e : Ex F F') (h : H' a = H a) : ∀ {o : OD}, OdOk K F H a o → OdOk K F' H' a o
  | .lst _, ⟨xs, q, r⟩ => ⟨xs, h.trans q, r.mono e⟩
  | .dct _, ⟨xs, q, r⟩ => ⟨xs, h.trans q, r.mono e⟩
  | .ins _ _, ⟨dx, xs, q, r⟩ => ⟨dx, xs, h.trans q, r.mono e⟩
  | .dtp _, ⟨xs, q, r⟩ => ⟨xs, h.trans q, r.mono e⟩
structure Wo (K : PySem.W.Frag) (ow : Ow) (F H : Hp) : Prop where
  ex : Ex F H
  own : ∀ a o, ow a = some o → F a = none ∧ OdOk K F H a o
section
variable {K : PySem.W.Frag} {ow : Ow} {F H : Hp} {p : Addr} {o : HO}
theorem Wo.free (w : Wo K ow F H) (h : H p = none) : F p = none := Evl.fresh_back w.ex h
theorem Wo.ofree (w : Wo K ow F H) (h : H p = none) : ow p = none := by
  cases q : ow p with
  | none => rfl
  | some u =>
    obtain ⟨_, z, e⟩ := (w.own p u q).imp id OdOk.there
    rw [h] at e
    cases e
/-- a new object, frozen -/
theorem Wo.new (w : Wo K ow F H) (h : H p = none) : Wo K ow (upd F p o) (upd H p o) := by
  refine ⟨fun a u e => ?_, fun a u e => ?_⟩
  · by_cases q : a = p
    · subst q
      rw [upd_same] at e ⊢
      exact e
    · rw [upd_ne q] at e ⊢
      exact w.ex a u e
  · obtain ⟨h1, h2⟩ := w.own a u e
    have q : a ≠ p := by
      obtain ⟨z, hz⟩ := h2.there
      exact ne_of_none hz h
    refine ⟨by rw [upd_ne q]; exact h1, h2.stay (Evl.Ex.new (w.free h)) (upd_ne q)⟩
theorem Wo.exnew (w : Wo K ow F H) (h : H p = none) : Ex F (upd F p o) := Evl.Ex.new (w.free h)
/-- a new object, untracked by both: the heap alone grows -/
theorem Wo.grow (w : Wo K ow F H) (h : H p = none) : Wo K ow F (upd H p o) := by
  refine ⟨fun a u e => ?_, fun a u e => ?_⟩
  · rw [upd_ne (ne_of_none (w.ex a u e) h)]
    exact w.ex a u e
  · obtain ⟨h1, h2⟩ := w.own a u e
    obtain ⟨z, hz⟩ := h2.there
    exact ⟨h1, h2.stay (Evl.Ex.refl F) (upd_ne (ne_of_none hz h))⟩
/-- a new list, owned -/
theorem Wo.newL {xs : List V} {l : List D} (w : Wo K ow F H) (h : H p = none) (r : Rps K F xs l) : Wo K (ou ow p (.lst l)) F (upd H p (.lst xs)) := by
  refine ⟨(w.grow h).ex, fun a u e => ?_⟩
  by_cases q : a = p
  · subst q
    rw [ou_same] at e
    cases e
    exact ⟨w.free h, xs, upd_same, r⟩
  · rw [ou_ne q] at e
    exact (w.grow h).own a u e
/-- an owned list is changed -/
theorem Wo.setL {xs : List V} {l l0 : List D} (w : Wo K ow F H) (h : ow p = some (.lst l0)) (r : Rps K F xs l) : Wo K (ou ow p (.lst l)) F (upd H p (.lst xs)) := by
  obtain ⟨n, _⟩ := w.own p _ h
  refine ⟨fun a u e => ?_, fun a u e => ?_⟩
  · rw [upd_ne (ne_of_none e n)]
    exact w.ex a u e
  · by_cases q : a = p
    · subst q
      rw [ou_same] at e
      cases e
      exact ⟨n, xs, upd_same, r⟩
    · rw [ou_ne q] at e
      obtain ⟨h1, h2⟩ := w.own a u e
      exact ⟨h1, h2.stay (Evl.Ex.refl F) (upd_ne q)⟩
/-- a new dict with tuples as keys, owned -/
theorem Wo.newT {kvs : List (List Key × V)} {l : List (List Key × D)} (w : Wo K ow F H) (h : H p = none) (r : Rpt K F kvs l) : Wo K (ou ow p (.dtp l)) F (upd H p (.dT kvs)) := by
  refine ⟨(w.grow h).ex, fun a u e => ?_⟩
  by_cases q : a = p
  · subst q
    rw [ou_same] at e
    cases e
    exact ⟨w.free h, kvs, upd_same, r⟩
  · rw [ou_ne q] at e
    exact (w.grow h).own a u e
theorem Wo.setT {kvs : List (List Key × V)} {l l0 : List (List Key × D)} (w : Wo K ow F H) (h : ow p = some (.dtp l0)) (r : Rpt K F kvs l) : Wo K (ou ow p (.dtp l)) F (upd H p (.dT kvs)) := by
  obtain ⟨n, _⟩ := w.own p _ h
  refine ⟨fun a u e => ?_, fun a u e => ?_⟩
  · rw [upd_ne (ne_of_none e n)]
    exact w.ex a u e
  · by_cases q : a = p
    · subst q
      rw [ou_same] at e
      cases e
      exact ⟨n, kvs, upd_same, r⟩
    · rw [ou_ne q] at e
      obtain ⟨h1, h2⟩ := w.own a u e
      exact ⟨h1, h2.stay (Evl.Ex.refl F) (upd_ne q)⟩
theorem Wo.setI {C dx : Addr} {fs fs0 : List (Str × V)} {l l0 : List (Str × D)} (w : Wo K ow F H) (h : ow p = some (.ins C l0)) (r : Rpf K F fs l) : Wo K (ou ow p (.ins C l)) F (upd H p (.ins C dx fs)) := by
  obtain ⟨n, _⟩ := w.own p _ h
  refine ⟨fun a u e => ?_, fun a u e => ?_⟩
  · rw [upd_ne (ne_of_none e n)]
    exact w.ex a u e
  · by_cases q : a = p
    · subst q
      rw [ou_same] at e
      cases e
      exact ⟨n, dx, fs, upd_same, r⟩
    · rw [ou_ne q] at e
      obtain ⟨h1, h2⟩ := w.own a u e
      exact ⟨h1, h2.stay (Evl.Ex.refl F) (upd_ne q)⟩
/-- an owned thing is let freeze -/
theorem Wo.freeze {u : HO} (w : Wo K ow F H) (n : F p = none) (h : H p = some u) (hp : ow p = none) : Wo K ow (upd F p u) H := by
  refine ⟨fun a o e => ?_, fun a o e => ?_⟩
  · by_cases q : a = p
    · subst q
      rw [upd_same] at e
      cases e
      exact h
    · rw [upd_ne q] at e
      exact w.ex a o e
  · have q : a ≠ p := fun z => by
      subst z
      rw [hp] at e
      cases e
    obtain ⟨h1, h2⟩ := w.own a o e
    exact ⟨by rw [upd_ne q]; exact h1, h2.stay (Evl.Ex.new n) rfl⟩
theorem Wo.drop {ow' : Ow} (w : Wo K ow F H) (h : ∀ a o, ow' a = some o → ow a = some o) : Wo K ow' F H := ⟨w.ex, fun a o e => w.own a o (h a o e)⟩
end
end Vd
set_option Elab.async false
set_option linter.all false
set_option maxRecDepth 100000
set_option maxHeartbeats 4000000
namespace Vd
open PySem L2
def WpE (X : Cx) (e : Expr) : TE := fun σ H Q => ∀ pins s, Inv X pins σ H s → wpAny (model X.prog X.w) X.A (eval e X.env) (EP X pins σ Q) X.xe s
def WpT (X : Cx) (e : Expr) : TT := fun σ H Q => ∀ pins s, Inv X pins σ H s → wpAny (model X.prog X.w) X.A (isTrue e X.env (eval e X.env)) (TP X pins σ Q) X.xe s
def WpA (X : Cx) (es : List Expr) : TA := fun σ H Q => ∀ (pos : Pos) pins s, Inv X pins σ H s → wpAny (model X.prog X.w) X.A (spliced (backTo pos (starEach es X.env))) (AP X pins σ Q) X.xe s
def WpS (X : Cx) (ss : List Stmt) : TS := fun D σ H => ∀ pins s, Inv X pins σ H s → wpAny (model X.prog X.w) X.A (execs ss X.env) (SP X pins D) X.xe s
section
variable {X : Cx}
theorem pe_can {e : Expr} : PE X e (WpE X e) := ⟨fun pins s _ _ _ I h => h pins s I⟩
theorem pt_can {e : Expr} : PT X e (WpT X e) := ⟨fun pins s _ _ _ I h => h pins s I⟩
theorem pa_can {es : List Expr} : PA X es (WpA X es) := ⟨fun pos pins s _ _ _ I h => h pos pins s I⟩
theorem pss_can {ss : List Stmt} : PSs X ss (WpS X ss) := ⟨fun pins s _ _ _ I h => h pins s I⟩
theorem wpe {e : Expr} {t : TE} (p : PE X e t) {σ : L2.St} {H : Hp} {Q : VK} (h : t σ H Q) : WpE X e σ H Q := fun pins s I => p.run pins s σ H Q I h
theorem wpt {e : Expr} {t : TT} (p : PT X e t) {σ : L2.St} {H : Hp} {Q : Bool → Hp → Prop} (h : t σ H Q) : WpT X e σ H Q := fun pins s I => p.run pins s σ H Q I h
theorem wpa {es : List Expr} {t : TA} (p : PA X es t) {σ : L2.St} {H : Hp} {Q : List V → Hp → Prop} (h : t σ H Q) : WpA X es σ H Q := fun pos pins s I => p.run pos pins s σ H Q I h
theorem wps {ss : List Stmt} {t : TS} (p : PSs X ss t) {D : Ends} {σ : L2.St} {H : Hp} (h : t D σ H) : WpS X ss D σ H := fun pins s I => p.run pins s σ H D I h
end
def Post (K : PySem.W.Frag) (ow : Ow) (F : Hp) (d : D) (Q : VK) : Prop := ∀ F2 H2 v, Ex F F2 → Wo K ow F2 H2 → Rp K F2 v d → Q v H2
def PostB (K : PySem.W.Frag) (ow : Ow) (F : Hp) (b : Bool) (Q : Bool → Hp → Prop) : Prop := ∀ F2 H2, Ex F F2 → Wo K ow F2 H2 → Q b H2
def PostA (K : PySem.W.Frag) (ow : Ow) (F : Hp) (ds : List D) (Q : List V → Hp → Prop) : Prop := ∀ F2 H2 vs, Ex F F2 → Wo K ow F2 H2 → Rps K F2 vs ds → Q vs H2
theorem Post.ex {K : PySem.W.Frag} {ow : Ow} {F F' : Hp} {d : D} {Q : VK} (p : Post K ow F d Q) (e : Ex F F') : Post K ow F' d Q := fun F2 H2 v e2 w r => p F2 H2 v (e.trans e2) w r
/-- an expression comes to the data d; what is owned stays -/
structure Ve (X : Cx) (e : Expr) (env : List (Option D)) (ow : Ow) (d : D) : Prop where
  run : ∀ (σ : L2.St) (F H : Hp) (Q : VK), Sl X.K F σ env → Wo X.K ow F H → Post X.K ow F d Q → WpE X e σ H Q
instance (X : Cx) (e : Expr) (env : List (Option D)) (ow : Ow) (d : D) : CoeFun (Ve X e env ow d) (fun _ => ∀ (σ : L2.St) (F H : Hp) (Q : VK), Sl X.K F σ env → Wo X.K ow F H → Post X.K ow F d Q → WpE X e σ H Q) := ⟨fun h => h.run⟩
structure Vt (X : Cx) (e : Expr) (env : List (Option D)) (ow : Ow) (b : Bool) : Prop where
  run : ∀ (σ : L2.St) (F H : Hp) (Q : Bool → Hp → Prop), Sl X.K F σ env → Wo X.K ow F H → PostB X.K ow F b Q → WpT X e σ H Q
instance (X : Cx) (e : Expr) (env : List (Option D)) (ow : Ow) (b : Bool) : CoeFun (Vt X e env ow b) (fun _ => ∀ (σ : L2.St) (F H : Hp) (Q : Bool → Hp → Prop), Sl X.K F σ env → Wo X.K ow F H → PostB X.K ow F b Q → WpT X e σ H Q) := ⟨fun h => h.run⟩
structure Va (X : Cx) (es : List Expr) (env : List (Option D)) (ow : Ow) (ds : List D) : Prop where
  run : ∀ (σ : L2.St) (F H : Hp) (Q : List V → Hp → Prop), Sl X.K F σ env → Wo X.K ow F H → PostA X.K ow F ds Q → WpA X es σ H Q
instance (X : Cx) (es : List Expr) (env : List (Option D)) (ow : Ow) (ds : List D) : CoeFun (Va X es env ow ds) (fun _ => ∀ (σ : L2.St) (F H : Hp) (Q : List V → Hp → Prop), Sl X.K F σ env → Wo X.K ow F H → PostA X.K ow F ds Q → WpA X es σ H Q) := ⟨fun h => h.run⟩
/-- an expression that changes what is owned: P tells the data and what is owned behind it -/
structure Vm (X : Cx) (e : Expr) (env : List (Option D)) (ow : Ow) (P : D → Ow → Prop) : Prop where
  run : ∀ (σ : L2.St) (F H : Hp) (Q : VK), Sl X.K F σ env → Wo X.K ow F H → (∀ F2 H2 v d ow2, Ex F F2 → Wo X.K ow2 F2 H2 → Rp X.K F2 v d → P d ow2 → Q v H2) → WpE X e σ H Q
instance (X : Cx) (e : Expr) (env : List (Option D)) (ow : Ow) (P : D → Ow → Prop) : CoeFun (Vm X e env ow P) (fun _ => ∀ (σ : L2.St) (F H : Hp) (Q : VK), Sl X.K F σ env → Wo X.K ow F H → (∀ F2 H2 v d ow2, Ex F F2 → Wo X.K ow2 F2 H2 → Rp X.K F2 v d → P d ow2 → Q v H2) → WpE X e σ H Q) := ⟨fun h => h.run⟩
/-- a block: B the frozen part at the def's entry -/
structure Rn (X : Cx) (B : Hp) (ss : List Stmt) (Dn : Ends) (env : List (Option D)) (ow : Ow) : Prop where
  run : ∀ (σ : L2.St) (F H : Hp), Ex B F → Sl X.K F σ env → Wo X.K ow F H → WpS X ss Dn σ H
instance (X : Cx) (B : Hp) (ss : List Stmt) (Dn : Ends) (env : List (Option D)) (ow : Ow) : CoeFun (Rn X B ss Dn env ow) (fun _ => ∀ (σ : L2.St) (F H : Hp), Ex B F → Sl X.K F σ env → Wo X.K ow F H → WpS X ss Dn σ H) := ⟨fun h => h.run⟩
/-- two values, by an operation's reading -/
structure RD (K : PySem.W.Frag) (ow : Ow) (r : R2) (a b d : D) : Prop where
  run : ∀ (F H : Hp) (x y : V) (Q : VK), Wo K ow F H → Rp K F x a → Rp K F y b → Post K ow F d Q → r x y H Q
instance (K : PySem.W.Frag) (ow : Ow) (r : R2) (a b d : D) : CoeFun (RD K ow r a b d) (fun _ => ∀ (F H : Hp) (x y : V) (Q : VK), Wo K ow F H → Rp K F x a → Rp K F y b → Post K ow F d Q → r x y H Q) := ⟨fun h => h.run⟩
structure RU (K : PySem.W.Frag) (ow : Ow) (r : V → Hp → VK → Prop) (a d : D) : Prop where
  run : ∀ (F H : Hp) (x : V) (Q : VK), Wo K ow F H → Rp K F x a → Post K ow F d Q → r x H Q
instance (K : PySem.W.Frag) (ow : Ow) (r : V → Hp → VK → Prop) (a d : D) : CoeFun (RU K ow r a d) (fun _ => ∀ (F H : Hp) (x : V) (Q : VK), Wo K ow F H → Rp K F x a → Post K ow F d Q → r x H Q) := ⟨fun h => h.run⟩
structure RC (K : PySem.W.Frag) (ow : Ow) (r : List V → Hp → VK → Prop) (as : List D) (d : D) : Prop where
  run : ∀ (F H : Hp) (xs : List V) (Q : VK), Wo K ow F H → Rps K F xs as → Post K ow F d Q → r xs H Q
instance (K : PySem.W.Frag) (ow : Ow) (r : List V → Hp → VK → Prop) (as : List D) (d : D) : CoeFun (RC K ow r as d) (fun _ => ∀ (F H : Hp) (xs : List V) (Q : VK), Wo K ow F H → Rps K F xs as → Post K ow F d Q → r xs H Q) := ⟨fun h => h.run⟩
theorem Post.here {K : PySem.W.Frag} {ow : Ow} {F H : Hp} {d : D} {Q : VK} {v : V} (p : Post K ow F d Q) (w : Wo K ow F H) (r : Rp K F v d) : Q v H := p F H v (Evl.Ex.refl F) w r
/-- a new thing that is frozen at once -/
theorem Post.new {K : PySem.W.Frag} {ow : Ow} {F H : Hp} {d : D} {Q : VK} {p : Addr} {o : HO} (k : Post K ow F d Q) (w : Wo K ow F H) (hp : H p = none) (r : Rp K (upd F p o) (.ref p) d) : Q (.ref p) (upd H p o) := k _ _ _ (w.exnew hp) (w.new hp) r
section
variable {X : Cx} {env : List (Option D)} {ow : Ow} {a b c e : Expr} {es : List Expr} {d d1 d2 d3 : D} {ds : List D} {pos : Pos}
theorem ve_is (h : Ve X e env ow d) (q : d = d1) : Ve X e env ow d1 := q ▸ h
theorem ve_var {i : Nat} {x : Str} (he : env[i]? = some (some d)) (hN : X.N[i]? = some x) (hv : Vis X.env.scope x) (hd : (x == ("__debug__" : Str)) = false := by decide) (hc : (x == ("__classdict__" : Str)) = false := by decide) : Ve X (.Name x pos) env ow d := .mk fun σ F H Q s w k => by
  obtain ⟨v, h1, h2⟩ := s.at_ i d he
  exact wpe (pe_var hN hv hd hc) ⟨v, h1, k.here w h2⟩
theorem ve_int {i : Int} {j : Nat} : Ve X (.Constant (.int i) j pos) env ow (.int i) := .mk fun σ F H Q s w k => wpe pe_int (k.here w (.int i))
theorem ve_bl {b : Bool} {j : Nat} : Ve X (.Constant (.bool b) j pos) env ow (.bl b) := .mk fun σ F H Q s w k => wpe pe_bl (k.here w (.bl b))
theorem ve_non {j : Nat} : Ve X (.Constant .none j pos) env ow .non := .mk fun σ F H Q s w k => wpe pe_non (k.here w .non)
theorem ve_str {x : Str} {j : Nat} : Ve X (.Constant (.str x) j pos) env ow (.str x) := .mk fun σ F H Q s w k => wpe pe_str (k.here w (.str x))
/-- a constant of the module -/
theorem ve_glob {x : Str} {v : V} {u : Value} (hg : Gl X x) (hm : X.mg x = some u) (r : RelV v u) (hd : ∀ F, Rp X.K F v d) (hx : (x == ("__debug__" : Str)) = false := by decide) : Ve X (.Name x pos) env ow d := .mk fun σ F H Q s w k => wpe (pe_glob hg hm r hx) (k.here w (hd F))
theorem ve_op {op : Operator} {r : R2} (ho : OpR X (binaryOp op) r) (ha : Ve X a env ow d1) (hb : Ve X b env ow d2) (hr : RD X.K ow r d1 d2 d) : Ve X (.BinOp a op b pos) env ow d := .mk fun σ F H Q s w k =>
  wpe (pe_op ho pe_can pe_can) (ha σ F H _ s w fun F1 H1 x e1 w1 r1 => hb σ F1 H1 _ (s.mono e1) w1 fun F2 H2 y e2 w2 r2 => hr F2 H2 x y Q w2 (r1.mono e2) r2 (k.ex (e1.trans e2)))
theorem ve_un {op : UnaryOp} {r : V → Hp → VK → Prop} (ho : UnR X (unaryOp op) r) (ha : Ve X a env ow d1) (hr : RU X.K ow r d1 d) : Ve X (.UnaryOp op a pos) env ow d := .mk fun σ F H Q s w k =>
  wpe (pe_un ho pe_can) (ha σ F H _ s w fun F1 H1 x e1 w1 r1 => hr F1 H1 x Q w1 r1 (k.ex e1))
theorem ve_cmp {op : CmpOp} {r : R2} (ho : OpR X (compareOp op) r) (hm : behindInMarks op b = false) (ha : Ve X a env ow d1) (hb : Ve X b env ow d2) (hr : RD X.K ow r d1 d2 d) : Ve X (.Compare a [op] [b] pos) env ow d := .mk fun σ F H Q s w k =>
  wpe (pe_cmpR ho pe_can pe_can hm) (ha σ F H _ s w fun F1 H1 x e1 w1 r1 => hb σ F1 H1 _ (s.mono e1) w1 fun F2 H2 y e2 w2 r2 => hr F2 H2 x y Q w2 (r1.mono e2) r2 (k.ex (e1.trans e2)))
theorem ve_if {t : Bool} (hc : Vt X c env ow t) (h1 : t = true → Ve X a env ow d) (h2 : t = false → Ve X b env ow d) : Ve X (.IfExp c a b pos) env ow d := .mk fun σ F H Q s w k =>
  wpe (pe_ifExp pt_can pe_can pe_can) (hc σ F H _ s w fun F1 H1 e1 w1 => by
    cases t with
    | true =>
      show (if true = true then WpE X a σ H1 Q else WpE X b σ H1 Q)
      rw [if_pos rfl]
      exact h1 rfl σ F1 H1 Q (s.mono e1) w1 (k.ex e1)
    | false =>
      show (if false = true then WpE X a σ H1 Q else WpE X b σ H1 Q)
      rw [if_neg Bool.false_ne_true]
      exact h2 rfl σ F1 H1 Q (s.mono e1) w1 (k.ex e1))
theorem va_nil : Va X [] env ow [] := .mk fun σ F H Q s w k => wpa pa_nil (k F H [] (Evl.Ex.refl F) w .nil)
theorem va_cons (h : Ve X e env ow d) (hs : Va X es env ow ds) (hst : starEach (e :: es) X.env = (false, eval e X.env) :: starEach es X.env := by rfl) : Va X (e :: es) env ow (d :: ds) := .mk fun σ F H Q s w k =>
  wpa (pa_cons pe_can pa_can hst) (h σ F H _ s w fun F1 H1 x e1 w1 r1 => hs σ F1 H1 _ (s.mono e1) w1 fun F2 H2 xs e2 w2 r2 => k F2 H2 _ (e1.trans e2) w2 (.cons (r1.mono e2) r2))
theorem ve_lst (h : Va X es env ow ds) (hl : ds.length ≤ 100000) : Ve X (.List es pos) env ow (.lst ds) := .mk fun σ F H Q s w k =>
  wpe (pe_lst pa_can) (h σ F H _ s w fun F1 H1 xs e1 w1 r1 => ⟨Evl.sz_of (by rw [r1.length]; exact hl), fun p hp => (k.ex e1).new w1 hp (.lst upd_same (r1.mono (w1.exnew hp)))⟩)
theorem ve_tup {k0 : Nat} (h : Va X es env ow ds) (hl : ds.length ≤ 100000) : Ve X (.Tuple es k0 pos) env ow (.tup ds) := .mk fun σ F H Q s w k =>
  wpe (pe_tup pa_can) (h σ F H _ s w fun F1 H1 xs e1 w1 r1 => ⟨Evl.sz_of (by rw [r1.length]; exact hl), fun p hp => (k.ex e1).new w1 hp (.tup (SqT.of upd_same) (r1.mono (w1.exnew hp)))⟩)
theorem ve_cb {r : List V → Hp → VK → Prop} {id : String} {x : Str} {p : Pos} (hc : CallR X (.builtin id) r) (hg : Gl X x) (hm : X.mg x = none) (hv : bootBuiltins x = some (.builtin id)) (ha : Va X (e :: es) env ow ds) (hr : RC X.K ow r ds d) (hn : x ≠ "__name__" := by decide) (hdb : (x == ("__debug__" : Str)) = false := by decide)
    (he : starEach (e :: es) X.env = (false, eval e X.env) :: starEach es X.env := by rfl) (hpl : (backTo pos (starEach es X.env)).any (·.1) = false := by rfl) : Ve X (.Call (.Name x p) (e :: es) [] pos) env ow d := .mk fun σ F H Q s w k =>
  wpe (pe_callB hc hg hm hv pa_can hn hdb he hpl) (ha σ F H _ s w fun F1 H1 xs e1 w1 r1 => hr F1 H1 xs Q w1 r1 (k.ex e1))
theorem ve_ct {r : List V → Hp → VK → Prop} {id : String} {x : Str} {p : Pos} (hc : CallR X (.type id) r) (hg : Gl X x) (hm : X.mg x = none) (hv : bootBuiltins x = some (.type id)) (ha : Va X (e :: es) env ow ds) (hr : RC X.K ow r ds d) (hn : x ≠ "__name__" := by decide) (hdb : (x == ("__debug__" : Str)) = false := by decide)
    (he : starEach (e :: es) X.env = (false, eval e X.env) :: starEach es X.env := by rfl) (hpl : (backTo pos (starEach es X.env)).any (·.1) = false := by rfl) : Ve X (.Call (.Name x p) (e :: es) [] pos) env ow d := .mk fun σ F H Q s w k =>
  wpe (pe_callTy hc hg hm hv pa_can hn hdb he hpl) (ha σ F H _ s w fun F1 H1 xs e1 w1 r1 => hr F1 H1 xs Q w1 r1 (k.ex e1))
theorem ve_ix {r : R2} (hr0 : IxR X r) (hs : PlainIx b) (ha : Ve X a env ow d1) (hb : Ve X b env ow d2) (hr : RD X.K ow r d1 d2 d) : Ve X (.Subscript a b pos) env ow d := .mk fun σ F H Q s w k =>
  wpe (pe_ix hr0 pe_can pe_can hs) (ha σ F H _ s w fun F1 H1 x e1 w1 r1 => hb σ F1 H1 _ (s.mono e1) w1 fun F2 H2 y e2 w2 r2 => hr F2 H2 x y Q w2 (r1.mono e2) r2 (k.ex (e1.trans e2)))
theorem vt_val {t : Bool} (h : Ve X e env ow (.bl t)) (he : ∀ whole, isTrue e X.env whole = (do let v ← whole; standAt e.pos; holding [v] (truthy v)) := by intro _; rfl) : Vt X e env ow t := .mk fun σ F H Q s w k =>
  wpt (pt_val pe_can he) (h σ F H _ s w fun F1 H1 x e1 w1 r1 => by
    cases r1
    exact ⟨t, rfl, k F1 H1 e1 w1⟩)
theorem vt_cmp {op : CmpOp} {r : R2} {t : Bool} (ho : OpR X (compareOp op) r) (hm : behindInMarks op b = false) (ha : Ve X a env ow d1) (hb : Ve X b env ow d2) (hr : RD X.K ow r d1 d2 (.bl t)) : Vt X (.Compare a [op] [b] pos) env ow t := .mk fun σ F H Q s w k =>
  wpt (pt_cmpR ho pe_can pe_can hm) (ha σ F H _ s w fun F1 H1 x e1 w1 r1 => hb σ F1 H1 _ (s.mono e1) w1 fun F2 H2 y e2 w2 r2 => hr F2 H2 x y _ w2 (r1.mono e2) r2 fun F3 H3 v e3 w3 r3 => by
    cases r3
    exact ⟨t, rfl, k F3 H3 ((e1.trans e2).trans e3) w3⟩)
theorem vt_not {t : Bool} (h : Vt X e env ow t) : Vt X (.UnaryOp .Not e pos) env ow (!t) := .mk fun σ F H Q s w k =>
  wpt (pt_not pt_can) (h σ F H _ s w fun F1 H1 e1 w1 => k F1 H1 e1 w1)
theorem vt_is {t u : Bool} (h : Vt X e env ow t) (q : t = u) : Vt X e env ow u := q ▸ h
/-- a and b and .., a or b or ..: the test's own form -/
def Vw (X : Cx) (e : Expr) (env : List (Option D)) (ow : Ow) (b : Bool) : Prop := ∃ t, PW X e t ∧ ∀ (σ : L2.St) (F H : Hp) (Q : Bool → Hp → Prop), Sl X.K F σ env → Wo X.K ow F H → PostB X.K ow F b Q → t σ H Q
theorem vt_w {t : Bool} (h : Vw X e env ow t) : Vt X e env ow t := .mk fun σ F H Q s w k => by
  obtain ⟨u, p, q⟩ := h
  exact wpt p.pt (q σ F H Q s w k)
theorem vw_and1 {t : Bool} (h : Vt X a env ow t) : Vw X (.BoolOp .And [a] pos) env ow t := ⟨_, pw_and1 pt_can, h⟩
theorem vw_or1 {t : Bool} (h : Vt X a env ow t) : Vw X (.BoolOp .Or [a] pos) env ow t := ⟨_, pw_or1 pt_can, h⟩
theorem vw_and {t u : Bool} (h : Vt X a env ow t) (h2 : t = true → Vw X (.BoolOp .And (b :: es) pos) env ow u) (pw : ∃ tt, PW X (.BoolOp .And (b :: es) pos) tt) : Vw X (.BoolOp .And (a :: b :: es) pos) env ow (t && u) := by
  cases t with
  | true =>
    obtain ⟨tt, p, q⟩ := h2 rfl
    refine ⟨_, pw_and pt_can p, fun σ F H Q s w k => h σ F H _ s w fun F1 H1 e1 w1 => ?_⟩
    show (if true = true then tt σ H1 Q else Q false H1)
    rw [if_pos rfl]
    exact q σ F1 H1 Q (s.mono e1) w1 fun F2 H2 e2 w2 => k F2 H2 (e1.trans e2) w2
  | false =>
    obtain ⟨tt, p⟩ := pw
    refine ⟨_, pw_and pt_can p, fun σ F H Q s w k => h σ F H _ s w fun F1 H1 e1 w1 => ?_⟩
    show (if false = true then tt σ H1 Q else Q false H1)
    rw [if_neg Bool.false_ne_true]
    exact k F1 H1 e1 w1
theorem vw_or {t u : Bool} (h : Vt X a env ow t) (h2 : t = false → Vw X (.BoolOp .Or (b :: es) pos) env ow u) (pw : ∃ tt, PW X (.BoolOp .Or (b :: es) pos) tt) : Vw X (.BoolOp .Or (a :: b :: es) pos) env ow (t || u) := by
  cases t with
  | false =>
    obtain ⟨tt, p, q⟩ := h2 rfl
    refine ⟨_, pw_or pt_can p, fun σ F H Q s w k => h σ F H _ s w fun F1 H1 e1 w1 => ?_⟩
    show (if false = true then Q true H1 else tt σ H1 Q)
    rw [if_neg Bool.false_ne_true]
    exact q σ F1 H1 Q (s.mono e1) w1 fun F2 H2 e2 w2 => k F2 H2 (e1.trans e2) w2
  | true =>
    obtain ⟨tt, p⟩ := pw
    refine ⟨_, pw_or pt_can p, fun σ F H Q s w k => h σ F H _ s w fun F1 H1 e1 w1 => ?_⟩
    show (if true = true then Q true H1 else tt σ H1 Q)
    rw [if_pos rfl]
    exact k F1 H1 e1 w1
theorem pw_all_and : ∀ (es : List Expr) (a : Expr), ∃ tt, PW X (.BoolOp .And (a :: es) pos) tt
  | [], a => ⟨_, pw_and1 pt_can⟩
  | b :: es, a => by
    obtain ⟨tt, p⟩ := pw_all_and es b
    exact ⟨_, pw_and pt_can p⟩
theorem pw_all_or : ∀ (es : List Expr) (a : Expr), ∃ tt, PW X (.BoolOp .Or (a :: es) pos) tt
  | [], a => ⟨_, pw_or1 pt_can⟩
  | b :: es, a => by
    obtain ⟨tt, p⟩ := pw_all_or es b
    exact ⟨_, pw_or pt_can p⟩
theorem ve_and1 (h : Ve X a env ow d) : Ve X (.BoolOp .And [a] pos) env ow d := .mk fun σ F H Q s w k => wpe (pe_one pe_can) (h σ F H Q s w k)
theorem ve_or1 (h : Ve X a env ow d) : Ve X (.BoolOp .Or [a] pos) env ow d := .mk fun σ F H Q s w k => wpe (pe_one pe_can) (h σ F H Q s w k)
theorem ve_and {t u : Bool} (h : Ve X a env ow (.bl t)) (h2 : t = true → Ve X (.BoolOp .And (b :: es) pos) env ow (.bl u)) : Ve X (.BoolOp .And (a :: b :: es) pos) env ow (.bl (t && u)) := .mk fun σ F H Q s w k =>
  wpe (pe_and pe_can pe_can) (h σ F H _ s w fun F1 H1 x e1 w1 r1 => by
    cases r1
    refine ⟨t, rfl, ?_⟩
    cases t with
    | true =>
      rw [if_pos rfl]
      exact h2 rfl σ F1 H1 Q (s.mono e1) w1 (k.ex e1)
    | false =>
      rw [if_neg Bool.false_ne_true]
      exact (k.ex e1).here w1 (.bl false))
theorem ve_or {t u : Bool} (h : Ve X a env ow (.bl t)) (h2 : t = false → Ve X (.BoolOp .Or (b :: es) pos) env ow (.bl u)) : Ve X (.BoolOp .Or (a :: b :: es) pos) env ow (.bl (t || u)) := .mk fun σ F H Q s w k =>
  wpe (pe_or pe_can pe_can) (h σ F H _ s w fun F1 H1 x e1 w1 r1 => by
    cases r1
    refine ⟨t, rfl, ?_⟩
    cases t with
    | false =>
      rw [if_neg Bool.false_ne_true]
      exact h2 rfl σ F1 H1 Q (s.mono e1) w1 (k.ex e1)
    | true =>
      rw [if_pos rfl]
      exact (k.ex e1).here w1 (.bl true))
theorem ve_not {t : Bool} (h : Ve X a env ow (.bl t)) : Ve X (.UnaryOp .Not a pos) env ow (.bl (!t)) := .mk fun σ F H Q s w k =>
  wpe (pe_not pe_can) (h σ F H _ s w fun F1 H1 x e1 w1 r1 => by
    cases r1
    exact ⟨t, rfl, (k.ex e1).here w1 (.bl _)⟩)
end
section
variable {K : PySem.W.Frag} {ow : Ow}
theorem rd_I {g : Int → Int → V} {f : Int → Int → D} {i j : Int} (h : ∀ F, Rp K F (g i j) (f i j)) : RD K ow (rI0 g) (.int i) (.int j) (f i j) := .mk fun F H x y Q w r1 r2 k => by
  cases r1
  cases r2
  exact ⟨i, j, rfl, rfl, k.here w (h F)⟩
theorem rd_IC {C : Int → Int → Prop} {g : Int → Int → V} {f : Int → Int → D} {i j : Int} (hc : C i j) (h : ∀ F, Rp K F (g i j) (f i j)) : RD K ow (rI C g) (.int i) (.int j) (f i j) := .mk fun F H x y Q w r1 r2 k => by
  cases r1
  cases r2
  exact ⟨i, j, rfl, rfl, hc, k.here w (h F)⟩
theorem rd_add {i j : Int} : RD K ow (rI0 fun i j => .int (i + j)) (.int i) (.int j) (.int (i + j)) := rd_I (f := fun i j => .int (i + j)) fun _ => .int _
theorem rd_sub {i j : Int} : RD K ow (rI0 fun i j => .int (i - j)) (.int i) (.int j) (.int (i - j)) := rd_I (f := fun i j => .int (i - j)) fun _ => .int _
theorem rd_mulL {i j : Int} (h : -(2 ^ 64) < i ∧ i < 2 ^ 64) : RD K ow (rI CMul fun i j => .int (i * j)) (.int i) (.int j) (.int (i * j)) := rd_IC (f := fun i j => .int (i * j)) (.inl h) fun _ => .int _
theorem rd_mulR {i j : Int} (h : -(2 ^ 64) < j ∧ j < 2 ^ 64) : RD K ow (rI CMul fun i j => .int (i * j)) (.int i) (.int j) (.int (i * j)) := rd_IC (f := fun i j => .int (i * j)) (.inr h) fun _ => .int _
theorem rd_div {i j : Int} (h : CDiv i j) : RD K ow (rI CDiv fun i j => .int (i / j)) (.int i) (.int j) (.int (i / j)) := rd_IC (f := fun i j => .int (i / j)) h fun _ => .int _
theorem rd_mod {i j : Int} (h : 0 < j) : RD K ow (rI (fun _ j => 0 < j) fun i j => .int (i % j)) (.int i) (.int j) (.int (i % j)) := rd_IC (f := fun i j => .int (i % j)) h fun _ => .int _
theorem rd_pow {i j : Int} (h : CPow i j) : RD K ow (rI CPow fun i j => .int (i ^ j.toNat)) (.int i) (.int j) (.int (i ^ j.toNat)) := rd_IC (f := fun i j => .int (i ^ j.toNat)) h fun _ => .int _
theorem rd_lt {i j : Int} : RD K ow (rI0 fun i j => .bl (decide (i < j))) (.int i) (.int j) (.bl (decide (i < j))) := rd_I (f := fun i j => .bl (decide (i < j))) fun _ => .bl _
theorem rd_le {i j : Int} : RD K ow (rI0 fun i j => .bl (decide (i ≤ j))) (.int i) (.int j) (.bl (decide (i ≤ j))) := rd_I (f := fun i j => .bl (decide (i ≤ j))) fun _ => .bl _
theorem rd_gt {i j : Int} : RD K ow (rI0 fun i j => .bl (decide (j < i))) (.int i) (.int j) (.bl (decide (j < i))) := rd_I (f := fun i j => .bl (decide (j < i))) fun _ => .bl _
theorem rd_ge {i j : Int} : RD K ow (rI0 fun i j => .bl (decide (j ≤ i))) (.int i) (.int j) (.bl (decide (j ≤ i))) := rd_I (f := fun i j => .bl (decide (j ≤ i))) fun _ => .bl _
theorem rd_eqI {i j : Int} : RD K ow rEq (.int i) (.int j) (.bl (decide (i = j))) := .mk fun F H x y Q w r1 r2 k => by
  cases r1
  cases r2
  exact ⟨rfl, by have z := k.here w (.bl (decide (i = j))); simpa using z⟩
theorem rd_neI {i j : Int} : RD K ow rNe (.int i) (.int j) (.bl (!decide (i = j))) := .mk fun F H x y Q w r1 r2 k => by
  cases r1
  cases r2
  exact ⟨rfl, by have z := k.here w (.bl (!decide (i = j))); simpa using z⟩
theorem rd_eqS {i j : Str} : RD K ow rEq (.str i) (.str j) (.bl (decide (i = j))) := .mk fun F H x y Q w r1 r2 k => by
  cases r1
  cases r2
  exact ⟨rfl, by have z := k.here w (.bl (decide (i = j))); simpa using z⟩
theorem rd_neS {i j : Str} : RD K ow rNe (.str i) (.str j) (.bl (!decide (i = j))) := .mk fun F H x y Q w r1 r2 k => by
  cases r1
  cases r2
  exact ⟨rfl, by have z := k.here w (.bl (!decide (i = j))); simpa using z⟩
theorem rd_cat {l m : List D} (h : l.length + m.length ≤ 100000) : RD K ow rCat (.lst l) (.lst m) (.lst (l ++ m)) := .mk fun F H x y Q w r1 r2 k => by
  cases r1 with
  | lst h1 s1 =>
    cases r2 with
    | lst h2 s2 => exact ⟨_, _, _, _, rfl, rfl, w.ex _ _ h1, w.ex _ _ h2, Evl.sz_of (by rw [s1.length, s2.length]; exact h), fun p hp => k.new w hp (.lst upd_same ((s1.append s2).mono (w.exnew hp)))⟩
end
end Vd
set_option Elab.async false
set_option linter.all false
set_option maxRecDepth 100000
set_option maxHeartbeats 4000000
namespace Vd
open PySem L2
/-- J yields the data ds, one by one, over what F1 freezes -/
def Src (K : PySem.W.Frag) (J : It) (F1 : Hp) (ds : List D) : Prop := ∀ (F H : Hp) (ow : Ow) (i : Nat), Ex F1 F → Wo K ow F H → (ds.length ≤ i → J.stop i H) ∧ ∀ d, ds[i]? = some d → J.go i H ∧ ∀ x H', J.yld i H x H' → ∃ F', Ex F F' ∧ Wo K ow F' H' ∧ Rp K F' x d
structure Vi (X : Cx) (tg it : Expr) (env : List (Option D)) (ow : Ow) (ds : List D) : Prop where
  ex : ∃ wi, PI X tg it wi ∧ ∀ (σ : L2.St) (F H : Hp) (R : It → Hp → Prop), Sl X.K F σ env → Wo X.K ow F H → (∀ J F1 H1, Ex F F1 → Wo X.K ow F1 H1 → Src X.K J F1 ds → R J H1) → wi σ H R
section
variable {X : Cx} {env : List (Option D)} {ow : Ow} {a b c e tg it : Expr} {es : List Expr} {d d1 d2 d3 : D} {ds : List D} {pos : Pos}
theorem src_list {K : PySem.W.Frag} {F1 : Hp} {a : Addr} {xs : List V} (h : F1 a = some (.lst xs)) (r : Rps K F1 xs ds) : Src K (Itl K a) F1 ds := fun F H ow i e w => by
  have hq : SqL K H a xs := SqL.of (w.ex _ _ (e _ _ h))
  refine ⟨fun hl => ⟨xs, hq, by rw [r.length]; exact hl⟩, fun d hd => ?_⟩
  obtain ⟨y, h1, h2⟩ := r.get hd
  refine ⟨⟨xs, y, hq, h1⟩, fun x H' hy => ?_⟩
  obtain ⟨rfl, hy⟩ := hy
  have z := hy xs hq
  rw [h1] at z
  cases z
  exact ⟨F, Evl.Ex.refl F, w, h2.mono e⟩
theorem vi_list (h : Ve X it env ow (.lst ds)) : Vi X tg it env ow ds := ⟨_, pi_list pe_can, fun σ F H R s w k => h σ F H _ s w fun F1 H1 v e1 w1 r1 => by
  cases r1 with
  | lst h1 s1 => exact ⟨_, rfl, ⟨_, SqL.of (w1.ex _ _ h1)⟩, k _ F1 H1 e1 w1 (src_list h1 s1)⟩⟩
def rangeD (lo : Int) (n : Nat) : List D := (List.range n).map fun i => .int (lo + (i : Nat))
theorem rangeD_len (lo : Int) (n : Nat) : (rangeD lo n).length = n := by simp [rangeD]
theorem rangeD_get {lo : Int} {n i : Nat} {d : D} (h : (rangeD lo n)[i]? = some d) : i < n ∧ d = .int (lo + (i : Nat)) := by
  unfold rangeD at h
  rw [List.getElem?_map] at h
  by_cases q : i < n
  · rw [List.getElem?_range q] at h
    cases h
    exact ⟨q, rfl⟩
  · rw [List.getElem?_eq_none (by simpa using q)] at h
    cases h
theorem src_range {K : PySem.W.Frag} {F1 : Hp} {lo : Int} {n : Nat} : Src K (Itr lo n) F1 (rangeD lo n) := fun F H ow i e w => by
  refine ⟨fun hl => by rw [rangeD_len] at hl; exact hl, fun d hd => ?_⟩
  obtain ⟨hi, rfl⟩ := rangeD_get hd
  refine ⟨hi, fun x H' hy => ?_⟩
  obtain ⟨rfl, rfl⟩ := hy
  exact ⟨F, Evl.Ex.refl F, w, .int _⟩
theorem vi_range1 {p : Pos} {n : Int} (hg : Gl X "range") (hm : X.mg "range" = none) (h : Ve X a env ow (.int n)) (hn : -(2 ^ 62) ≤ n ∧ n < 2 ^ 62) (hs : starEach [a] X.env = [(false, eval a X.env)] := by rfl) : Vi X tg (.Call (.Name "range" p) [a] [] pos) env ow (rangeD 0 n.toNat) :=
  ⟨_, pi_range1 hg hm (pa_can) hs, fun σ F H R s w k => va_cons h va_nil hs σ F H _ s w fun F1 H1 vs e1 w1 r1 => by
    cases r1 with
    | cons r2 r3 =>
      cases r2
      cases r3
      exact ⟨n, rfl, hn.1, hn.2, k _ F1 H1 e1 w1 src_range⟩⟩
theorem vi_range2 {p : Pos} {m n : Int} (hg : Gl X "range") (hm : X.mg "range" = none) (h : Ve X a env ow (.int m)) (h2 : Ve X b env ow (.int n)) (hn : -(2 ^ 62) ≤ m ∧ m < 2 ^ 62 ∧ -(2 ^ 62) ≤ n ∧ n < 2 ^ 62) (hs : starEach [a, b] X.env = [(false, eval a X.env), (false, eval b X.env)] := by rfl)
    (hs2 : starEach [b] X.env = [(false, eval b X.env)] := by rfl) : Vi X tg (.Call (.Name "range" p) [a, b] [] pos) env ow (rangeD m (n - m).toNat) :=
  ⟨_, pi_range2 hg hm (pa_can) hs hs2, fun σ F H R s w k => va_cons h (va_cons h2 va_nil hs2) (by rw [hs, hs2]) σ F H _ s w fun F1 H1 vs e1 w1 r1 => by
    cases r1 with
    | cons r2 r3 =>
      cases r2
      cases r3 with
      | cons r4 r5 =>
        cases r4
        cases r5
        exact ⟨m, n, rfl, hn, k _ F1 H1 e1 w1 src_range⟩⟩
def enumD : Nat → List D → List D
  | _, [] => []
  | n, d :: ds => .tup [.int (n : Nat), d] :: enumD (n + 1) ds
theorem enumD_len : ∀ (n : Nat) (ds : List D), (enumD n ds).length = ds.length
  | _, [] => rfl
  | n, d :: ds => by simp [enumD, enumD_len (n + 1) ds]
theorem enumD_get : ∀ {n i : Nat} {ds : List D} {x : D}, (enumD n ds)[i]? = some x → ∃ d, ds[i]? = some d ∧ x = .tup [.int ((n + i : Nat)), d]
  | _, _, [], _, h => by simp [enumD] at h
  | n, 0, d :: ds, x, h => by
    simp [enumD] at h
    exact ⟨d, rfl, by rw [← h]; rfl⟩
  | n, i + 1, d :: ds, x, h => by
    simp only [enumD, List.getElem?_cons_succ] at h
    obtain ⟨y, h1, h2⟩ := enumD_get h
    refine ⟨y, by simpa using h1, ?_⟩
    rw [h2]
    have z : n + 1 + i = n + (i + 1) := by omega
    rw [z]
theorem src_enum {K : PySem.W.Frag} {F1 : Hp} {a : Addr} {xs : List V} (h : F1 a = some (.lst xs)) (r : Rps K F1 xs ds) : Src K (Ite K a) F1 (enumD 0 ds) := fun F H ow i e w => by
  have hq : SqL K H a xs := SqL.of (w.ex _ _ (e _ _ h))
  refine ⟨fun hl => ⟨xs, hq, by rw [enumD_len] at hl; rw [r.length]; exact hl⟩, fun d hd => ?_⟩
  obtain ⟨d', hd', rfl⟩ := enumD_get hd
  obtain ⟨y, h1, h2⟩ := r.get hd'
  refine ⟨⟨xs, y, hq, h1⟩, fun v H' hy => ?_⟩
  obtain ⟨T, x, rfl, hT, rfl, hy⟩ := hy
  have z := hy xs hq
  rw [h1] at z
  cases z
  refine ⟨_, w.exnew hT, w.new hT, .tup (SqT.of upd_same) (.cons ?_ (.cons ((h2.mono e).mono (w.exnew hT)) .nil))⟩
  rw [Nat.zero_add]
  exact .int _
theorem vi_enum {p tpos : Pos} {elts : List Expr} {kk : Nat} (hg : Gl X "enumerate") (hm : X.mg "enumerate" = none) (h : Ve X a env ow (.lst ds)) (hs : starEach [a] X.env = [(false, eval a X.env)] := by rfl) : Vi X (.Tuple elts kk tpos) (.Call (.Name "enumerate" p) [a] [] pos) env ow (enumD 0 ds) :=
  ⟨_, pi_enum hg hm pa_can hs, fun σ F H R s w k => va_cons h va_nil hs σ F H _ s w fun F1 H1 vs e1 w1 r1 => by
    cases r1 with
    | cons r2 r3 =>
      cases r3
      cases r2 with
      | lst h1 s1 => exact ⟨_, _, rfl, SqL.of (w1.ex _ _ h1), k _ F1 H1 e1 w1 (src_enum h1 s1)⟩⟩
end
def Gd (K : PySem.W.Frag) (ow : Ow) (g : TG) (d : D) (f : List (Option D) → List (Option D)) : Prop := ∀ (env : List (Option D)) (σ : L2.St) (F H : Hp) (x : V) (Q : L2.St → Hp → Prop), Sl K F σ env → Wo K ow F H → Rp K F x d → (∀ σ2, Sl K F σ2 (f env) → Q σ2 H) → g x σ H Q
theorem gd_name {K : PySem.W.Frag} {ow : Ow} {d : D} (i : Nat) : Gd K ow (gName i) d fun env => env.set i (some d) := fun env σ F H x Q s w r k => k _ (s.set r i)
theorem gd_two {K : PySem.W.Frag} {ow : Ow} {d1 d2 : D} (i j : Nat) : Gd K ow (gTup K 2 (gCons (gName i) (gCons (gName j) gNil))) (.tup [d1, d2]) fun env => (env.set i (some d1)).set j (some d2) := fun env σ F H x Q s w r k => by
  cases r with
  | tup h1 s1 =>
    cases s1 with
    | cons r1 s2 =>
      cases s2 with
      | cons r2 s3 =>
        cases s3
        exact ⟨_, _, rfl, Evl.ex_t w.ex h1, rfl, _, _, rfl, _, _, rfl, rfl, k _ ((s.set r1 i).set r2 j)⟩
section
variable {X : Cx} {B : Hp} {env : List (Option D)} {ow : Ow} {a b c e tg it : Expr} {es : List Expr} {d d1 d2 d3 : D} {ds : List D} {pos : Pos} {Dn : Ends} {rest s1 s2 : List Stmt}
/-- the end of an inner block -/
theorem rn_end (h : ∀ (σ : L2.St) (F H : Hp), Ex B F → Sl X.K F σ env → Wo X.K ow F H → Dn.nx σ H) : Rn X B [] Dn env ow := .mk fun σ F H eB s w => wps pss_nil (h σ F H eB s w)
def Then (X : Cx) (rest : List Stmt) (Dn : Ends) : Ends := { Dn with nx := WpS X rest Dn }
theorem rn_go (h : Rn X B rest Dn env ow) : Rn X B [] (Then X rest Dn) env ow := rn_end fun σ F H eB s w => h σ F H eB s w
theorem rn_one {st : Stmt} (p : ∃ t, PS X st t ∧ ∀ (σ : L2.St) (F H : Hp), Ex B F → Sl X.K F σ env → Wo X.K ow F H → t { Dn with nx := WpS X rest Dn } σ H) : Rn X B (st :: rest) Dn env ow := .mk fun σ F H eB s w => by
  obtain ⟨t, h, q⟩ := p
  exact wps (pss_cons h pss_can) (q σ F H eB s w)
theorem rn_set {x : Str} {p : Pos} {i : Nat} (hN : X.N.Nodup) (hi : X.N[i]? = some x) (hx : Loc X.env.scope x) (h : Ve X e env ow d) (k : ∀ B', Ex B B' → Rn X B' rest Dn (env.set i (some d)) ow) (hs : swapsWith e (some (.Name x p)) pos.line X.env = pure false := by rfl) (hf : X.fn x = true ∨ X.env.scope.names.lookup x = some .local := by first | exact .inl rfl | exact .inr rfl | assumption) :
    Rn X B (.Assign [.Name x p] e pos :: rest) Dn env ow := rn_one ⟨_, ps_set hN hi hx pe_can hs hf, fun σ F H eB s w => h σ F H _ s w fun F1 H1 v e1 w1 r1 => k F1 (eB.trans e1) _ F1 H1 (Evl.Ex.refl F1) ((s.mono e1).set r1 i) w1⟩
/-- the assignment of what changes the owned -/
theorem rn_setM {x : Str} {p : Pos} {i : Nat} {P : D → Ow → Prop} (hN : X.N.Nodup) (hi : X.N[i]? = some x) (hx : Loc X.env.scope x) (h : Vm X e env ow P) (k : ∀ B' d ow2, Ex B B' → P d ow2 → Rn X B' rest Dn (env.set i (some d)) ow2) (hs : swapsWith e (some (.Name x p)) pos.line X.env = pure false := by rfl) (hf : X.fn x = true ∨ X.env.scope.names.lookup x = some .local := by first | exact .inl rfl | exact .inr rfl | assumption) :
    Rn X B (.Assign [.Name x p] e pos :: rest) Dn env ow := rn_one ⟨_, ps_set hN hi hx pe_can hs hf, fun σ F H eB s w => h σ F H _ s w fun F1 H1 v d ow2 e1 w1 r1 hp => k F1 d ow2 (eB.trans e1) hp _ F1 H1 (Evl.Ex.refl F1) ((s.mono e1).set r1 i) w1⟩
/-- any other target -/
theorem rn_asg {g : TG} {f : List (Option D) → List (Option D)} (hg : PG X tg g) (h : Ve X e env ow d) (hgd : Gd X.K ow g d f) (k : ∀ B', Ex B B' → Rn X B' rest Dn (f env) ow) (hs : swapsWithSole [tg] e pos.line X.env = pure false := by rfl) (hw : swappedStores [tg] e X.env = pure none := by rfl)
    (h1 : (assignEach [tg] X.env).map (·.2) = [assign tg X.env] := by rfl) : Rn X B (.Assign [tg] e pos :: rest) Dn env ow := rn_one ⟨_, ps_asg pe_can hg hs hw h1, fun σ F H eB s w => h σ F H _ s w fun F1 H1 v e1 w1 r1 => hgd env σ F1 H1 v _ (s.mono e1) w1 r1 fun σ2 s2 => k F1 (eB.trans e1) _ F1 H1 (Evl.Ex.refl F1) s2 w1⟩
/-- a, b = x, y -/
theorem rn_par {x y : Str} {px py p1 p2 : Pos} {k1 k2 i j : Nat} (hc : X.calm = true) (hN : X.N.Nodup) (hi : X.N[i]? = some x) (hj : X.N[j]? = some y) (hij : i ≠ j) (hx : X.env.scope.names.lookup x = some .local) (hy : X.env.scope.names.lookup y = some .local)
    (h1 : Ve X a env ow d1) (h2 : Ve X b env ow d2) (k : ∀ B', Ex B B' → Rn X B' rest Dn ((env.set i (some d1)).set j (some d2)) ow)
    (hw : swappedStores [.Tuple [.Name x px, .Name y py] k1 p1] (.Tuple [a, b] k2 p2) X.env = pure (some [x, y])) (hst : starEach [a, b] X.env = [(false, eval a X.env), (false, eval b X.env)] := by rfl) (hst2 : starEach [b] X.env = [(false, eval b X.env)] := by rfl) (hps : ∃ t, PS X (.Assign [.Tuple [.Name x px, .Name y py] k1 p1] (.Tuple [a, b] k2 p2) pos) (tPar i j t) ∧ t = WpA X [a, b]) :
    Rn X B (.Assign [.Tuple [.Name x px, .Name y py] k1 p1] (.Tuple [a, b] k2 p2) pos :: rest) Dn env ow := rn_one (by
  obtain ⟨t, hp, rfl⟩ := hps
  refine ⟨_, hp, fun σ F H eB s w => va_cons h1 (va_cons h2 va_nil hst2) (by rw [hst, hst2]) σ F H _ s w fun F1 H1 vs e1 w1 r1 => ?_⟩
  cases r1 with
  | cons r2 r3 =>
    cases r3 with
    | cons r4 r5 =>
      cases r5
      exact ⟨_, _, rfl, k F1 (eB.trans e1) _ F1 H1 (Evl.Ex.refl F1) (((s.mono e1).set r2 i).set r4 j) w1⟩)
theorem rn_ret (h : Ve X e env ow d) (k : Post X.K ow B d Dn.rt) : Rn X B (.Return (some e) pos :: rest) Dn env ow := rn_one ⟨_, ps_ret pe_can, fun σ F H eB s w => h σ F H _ s w (k.ex eB)⟩
theorem rn_retM {P : D → Ow → Prop} (h : Vm X e env ow P) (k : ∀ d ow2, P d ow2 → Post X.K ow2 B d Dn.rt) : Rn X B (.Return (some e) pos :: rest) Dn env ow := rn_one ⟨_, ps_ret pe_can, fun σ F H eB s w => h σ F H _ s w fun F1 H1 v d ow2 e1 w1 r1 hp => k d ow2 hp F1 H1 v (eB.trans e1) w1 r1⟩
theorem rn_if {t : Bool} (h : Vt X c env ow t) (h1 : t = true → ∀ B', Ex B B' → Rn X B' s1 (Then X rest Dn) env ow) (h2 : t = false → ∀ B', Ex B B' → Rn X B' s2 (Then X rest Dn) env ow) : Rn X B (.If c s1 s2 pos :: rest) Dn env ow := rn_one ⟨_, ps_if pt_can pss_can pss_can, fun σ F H eB s w => h σ F H _ s w fun F1 H1 e1 w1 => by
  cases t with
  | true =>
    rw [if_pos rfl]
    exact h1 rfl F1 (eB.trans e1) σ F1 H1 (Evl.Ex.refl F1) (s.mono e1) w1
  | false =>
    rw [if_neg Bool.false_ne_true]
    exact h2 rfl F1 (eB.trans e1) σ F1 H1 (Evl.Ex.refl F1) (s.mono e1) w1⟩
/-- behind a turn -/
def Nx (K : PySem.W.Frag) (B : Hp) (I : List (Option D) → Ow → Prop) : L2.St → Hp → Prop := fun σ H => ∃ F env ow, Ex B F ∧ Sl K F σ env ∧ Wo K ow F H ∧ I env ow
def Turn (X : Cx) (B : Hp) (rest : List Stmt) (Dn : Ends) (I : List (Option D) → Ow → Prop) : Ends := { nx := Nx X.K B I, ct := Nx X.K B I, bk := WpS X rest Dn, rt := Dn.rt }
theorem rn_for {g : TG} {f : D → List (Option D) → List (Option D)} {body : List Stmt} (I : Nat → List (Option D) → Ow → Prop) (hp : PassesOwn (model X.prog X.w) X.A X.env X.xe) (hc : X.calm = true) (hi : Vi X tg it env ow ds) (hg : PG X tg g) (hgd : ∀ ow d, d ∈ ds → Gd X.K ow g d (f d)) (h0 : I 0 env ow)
    (hs : ∀ B' i d env' ow', Ex B B' → ds[i]? = some d → I i env' ow' → Rn X B' body (Turn X B' rest Dn (I (i + 1))) (f d env') ow') (hd : ∀ B' env' ow', Ex B B' → I ds.length env' ow' → Rn X B' rest Dn env' ow')
    (hfs : ∀ x, foldedSetIterable it X.env x = pure x := by intro _; rfl) : Rn X B (.For tg it body [] pos :: rest) Dn env ow := rn_one (by
  obtain ⟨wi, pi, hw⟩ := hi
  refine ⟨_, ps_for hp hc pi hg pss_can hfs, fun σ F H eB s w => hw σ F H _ s w fun J F1 H1 e1 w1 src => ?_⟩
  refine ⟨fun i m σ H => m = ds.length - i ∧ i ≤ ds.length ∧ Nx X.K F1 (I i) σ H, ⟨ds.length, by simp, Nat.zero_le _, F1, env, ow, Evl.Ex.refl F1, s.mono e1, w1, h0⟩, ?_⟩
  rintro i m σ' H' ⟨rfl, hi, F', env', ow', eF, s', w', hI⟩
  obtain ⟨stop, go⟩ := src F' H' ow' i eF w'
  by_cases hlt : i < ds.length
  · obtain ⟨hgo, hy⟩ := go ds[i] (by simp [hlt])
    refine .inr ⟨hgo, Nx X.K F1 (I (i + 1)), fun σ2 H2 q => ⟨ds.length - (i + 1), by omega, rfl, hlt, q⟩, fun x H2 hx => ?_⟩
    obtain ⟨F2, e2, w2, r2⟩ := hy x H2 hx
    refine hgd ow' ds[i] (List.getElem_mem hlt) env' σ' F2 H2 x _ (s'.mono e2) w2 r2 fun σ2 s2 => ?_
    exact hs F1 i ds[i] env' ow' (eB.trans e1) (by simp [hlt]) hI σ2 F2 H2 (eF.trans e2) s2 w2
  · have e : i = ds.length := by omega
    subst e
    exact .inl ⟨stop (Nat.le_refl _), hd F1 env' ow' (eB.trans e1) hI σ' F' H' eF s' w'⟩)
theorem rn_while {body : List Stmt} (I : Nat → List (Option D) → Ow → Prop) (hp : PassesOwn (model X.prog X.w) X.A X.env X.xe) (h0 : ∃ m, I m env ow)
    (hs : ∀ B' m env' ow', Ex B B' → I m env' ow' → ∃ t, Vt X c env' ow' t ∧ (t = true → ∀ B2, Ex B' B2 → Rn X B2 body (Turn X B' rest Dn fun env2 ow2 => ∃ m2, m2 < m ∧ I m2 env2 ow2) env' ow') ∧ (t = false → ∀ B2, Ex B' B2 → Rn X B2 rest Dn env' ow')) : Rn X B (.While c body [] pos :: rest) Dn env ow := rn_one (by
  refine ⟨_, ps_while hp pt_can pss_can, fun σ F H eB s w => ?_⟩
  obtain ⟨m0, h0⟩ := h0
  refine ⟨fun m σ H => Nx X.K F (I m) σ H, ⟨m0, F, env, ow, Evl.Ex.refl F, s, w, h0⟩, ?_⟩
  rintro m σ' H' ⟨F', env', ow', eF, s', w', hI⟩
  obtain ⟨t, ht, y1, y2⟩ := hs F m env' ow' eB hI
  refine ht σ' F' H' _ s' w' fun F2 H2 e2 w2 => ?_
  cases t with
  | true =>
    rw [if_pos rfl]
    refine ⟨Nx X.K F fun env2 ow2 => ∃ m2, m2 < m ∧ I m2 env2 ow2, fun σ2 H3 ⟨F3, env3, ow3, a1, a2, a3, m2, a4, a5⟩ => ⟨m2, a4, F3, env3, ow3, a1, a2, a3, a5⟩, ?_⟩
    exact y1 rfl F2 (eF.trans e2) σ' F2 H2 (Evl.Ex.refl F2) (s'.mono e2) w2
  | false =>
    rw [if_neg Bool.false_ne_true]
    exact y2 rfl F2 (eF.trans e2) σ' F2 H2 (Evl.Ex.refl F2) (s'.mono e2) w2)
/-- behind a turn of a while, whose base is an elder one -/
theorem rn_nextW {B2 : Hp} {I : List (Option D) → Ow → Prop} (h : I env ow) (e : Ex B B2) : Rn X B2 [] (Turn X B rest Dn I) env ow := rn_end fun σ F H eB s w => ⟨F, env, ow, e.trans eB, s, w, h⟩
end
end Vd
set_option Elab.async false
set_option linter.all false
set_option maxRecDepth 100000
set_option maxHeartbeats 4000000
namespace Vd
open PySem L2
section
variable {K : PySem.W.Frag} {ow : Ow} {F : Hp}
theorem Rps.atI {v : List V} {d : List D} {i : Int} {x : D} (r : Rps K F v d) (h : L2.atI d i = some x) : ∃ y, L2.atI v i = some y ∧ Rp K F y x := by
  unfold L2.atI at h ⊢
  rw [r.length]
  cases q : ixN d.length i with
  | none =>
    rw [q] at h
    cases h
  | some j =>
    rw [q] at h
    exact r.get h
theorem rd_ixL {l : List D} {i : Int} {d : D} (h : L2.atI l i = some d) : RD K ow (rIxL K) (.lst l) (.int i) d := .mk fun F H x y Q w r1 r2 k => by
  cases r2
  cases r1 with
  | lst h1 s1 =>
    obtain ⟨v, hv, rv⟩ := s1.atI h
    exact ⟨_, _, _, v, rfl, rfl, SqL.of (w.ex _ _ h1), hv, k.here w rv⟩
theorem rd_ixT {l : List D} {i : Int} {d : D} (h : L2.atI l i = some d) : RD K ow (rIxT K) (.tup l) (.int i) d := .mk fun F H x y Q w r1 r2 k => by
  cases r2
  cases r1 with
  | tup h1 s1 =>
    obtain ⟨v, hv, rv⟩ := s1.atI h
    exact ⟨_, _, _, v, rfl, rfl, Evl.ex_t w.ex h1, hv, k.here w rv⟩
theorem rd_ixS {z : Str} {i : Int} {c : Nat} (hl : z.length ≤ 100000) (h : L2.atI z.cps.toList i = some c) : RD K ow rIxS (.str z) (.int i) (.str ⟨#[c]⟩) := .mk fun F H x y Q w r1 r2 k => by
  cases r1
  cases r2
  exact ⟨_, _, c, rfl, rfl, Evl.sz_of hl, h, k.here w (.str _)⟩
/-- an owned list read -/
theorem rd_ixO {p : Addr} {l : List D} {i : Int} {d : D} (hp : ow p = some (.lst l)) (h : L2.atI l i = some d) : RD K ow (rIxL K) (.ob (.ref p)) (.int i) d := .mk fun F H x y Q w r1 r2 k => by
  cases r1
  cases r2
  obtain ⟨_, xs, h1, s1⟩ := w.own p _ hp
  obtain ⟨v, hv, rv⟩ := s1.atI h
  exact ⟨_, _, _, v, rfl, rfl, SqL.of h1, hv, k.here w rv⟩
theorem rc_lenL {l : List D} : RC K ow (fun xs H Q => ∃ p ys, xs = [.ref p] ∧ (SqL K H p ys ∨ SqT K H p ys) ∧ Q (.int ys.length) H) [.lst l] (.int (l.length : Nat)) := .mk fun F H xs Q w r k => by
  cases r with
  | cons r1 r2 =>
    cases r2
    cases r1 with
    | lst h1 s1 => exact ⟨_, _, rfl, .inl (SqL.of (w.ex _ _ h1)), by rw [s1.length]; exact k.here w (.int _)⟩
theorem rc_lenT {l : List D} : RC K ow (fun xs H Q => ∃ p ys, xs = [.ref p] ∧ (SqL K H p ys ∨ SqT K H p ys) ∧ Q (.int ys.length) H) [.tup l] (.int (l.length : Nat)) := .mk fun F H xs Q w r k => by
  cases r with
  | cons r1 r2 =>
    cases r2
    cases r1 with
    | tup h1 s1 => exact ⟨_, _, rfl, .inr (Evl.ex_t w.ex h1), by rw [s1.length]; exact k.here w (.int _)⟩
theorem rc_lenO {p : Addr} {l : List D} (hp : ow p = some (.lst l)) : RC K ow (fun xs H Q => ∃ p ys, xs = [.ref p] ∧ (SqL K H p ys ∨ SqT K H p ys) ∧ Q (.int ys.length) H) [.ob (.ref p)] (.int (l.length : Nat)) := .mk fun F H xs Q w r k => by
  cases r with
  | cons r1 r2 =>
    cases r2
    cases r1
    obtain ⟨_, ys, h1, s1⟩ := w.own p _ hp
    exact ⟨_, _, rfl, .inl (SqL.of h1), by rw [s1.length]; exact k.here w (.int _)⟩
theorem rc_int1 {i : Int} : RC K ow (fun xs H Q => (∃ i, xs = [.int i] ∧ Q (.int i) H) ∨ ∃ k, xs = [.bl k] ∧ Q (.int (if k then 1 else 0)) H) [.int i] (.int i) := .mk fun F H xs Q w r k => by
  cases r with
  | cons r1 r2 =>
    cases r2
    cases r1
    exact .inl ⟨i, rfl, k.here w (.int _)⟩
theorem rc_abs {i : Int} : RC K ow (fun xs H Q => ∃ i, xs = [.int i] ∧ Q (.int (if i < 0 then -i else i)) H) [.int i] (.int (if i < 0 then -i else i)) := .mk fun F H xs Q w r k => by
  cases r with
  | cons r1 r2 =>
    cases r2
    cases r1
    exact ⟨i, rfl, k.here w (.int _)⟩
theorem rc_max {i j : Int} : RC K ow (fun xs H Q => ∃ i j, xs = [.int i, .int j] ∧ Q (.int (if j > i then j else i)) H) [.int i, .int j] (.int (if j > i then j else i)) := .mk fun F H xs Q w r k => by
  cases r with
  | cons r1 r2 =>
    cases r1
    cases r2 with
    | cons r3 r4 =>
      cases r4
      cases r3
      exact ⟨i, j, rfl, k.here w (.int _)⟩
theorem rc_min {i j : Int} : RC K ow (fun xs H Q => ∃ i j, xs = [.int i, .int j] ∧ Q (.int (if j < i then j else i)) H) [.int i, .int j] (.int (if j < i then j else i)) := .mk fun F H xs Q w r k => by
  cases r with
  | cons r1 r2 =>
    cases r1
    cases r2 with
    | cons r3 r4 =>
      cases r4
      cases r3
      exact ⟨i, j, rfl, k.here w (.int _)⟩
theorem rc_divmod {i j : Int} (h : CDiv i j) : RC K ow (fun xs H Q => ∃ i j, xs = [.int i, .int j] ∧ CDiv i j ∧ ∀ p, H p = none → Q (.ref p) (upd H p (.tup [.int (i / j), .int (i % j)]))) [.int i, .int j] (.tup [.int (i / j), .int (i % j)]) := .mk fun F H xs Q w r k => by
  cases r with
  | cons r1 r2 =>
    cases r1
    cases r2 with
    | cons r3 r4 =>
      cases r4
      cases r3
      exact ⟨i, j, rfl, h, fun p hp => k.new w hp (.tup (SqT.of upd_same) (.cons (.int _) (.cons (.int _) .nil)))⟩
theorem rc_all {l : List Bool} : RC K ow (rAll K) [.lst (l.map D.bl)] (.bl (l.all id)) := .mk fun F H xs Q w r k => by
  cases r with
  | cons r1 r2 =>
    cases r2
    cases r1 with
    | lst h1 s1 => exact ⟨_, l, rfl, by rw [← s1.bls]; exact SqL.of (w.ex _ _ h1), k.here w (.bl _)⟩
theorem rc_any {l : List Bool} : RC K ow (rAny K) [.lst (l.map D.bl)] (.bl (l.any id)) := .mk fun F H xs Q w r k => by
  cases r with
  | cons r1 r2 =>
    cases r2
    cases r1 with
    | lst h1 s1 => exact ⟨_, l, rfl, by rw [← s1.bls]; exact SqL.of (w.ex _ _ h1), k.here w (.bl _)⟩
end
open PySem.Spec PyProof.Rows
/-- a wish for the texts of containers under way; the common one: none is -/
abbrev Gds := Option (List Code) → Prop
abbrev gd0 : Gds := fun g => g = some []
structure FnG (γ : Gds) (P : Program) (w : World) (K : PySem.W.Frag) (mg : Str → Option Value) (base : Heap) (CX : CXT) (k : Nat) (f : Addr) (fd : FuncData) (ps : List Str) (sp : Sp) : Prop where
  len : ∀ vs H Q E, sp vs H Q E → vs.length = ps.length
  run : ∀ (A : Around) (outer : List Env) (s : Shared) (H : Hp) (args : Args) (us : List Value) (vs : List V) (Q : VK) (E : XK), γ A.guards → Room k A → Env0 P w K mg base A outer s H → BindsTo s fd args (ps.zip us) → Vals vs us → sp vs H Q E →
    codeAny (model P w) A (.call (.ref f) args) (CR CX outer P w H s Q E) s
theorem FnG.of {P : Program} {w : World} {K : PySem.W.Frag} {mg : Str → Option Value} {base : Heap} {CX : CXT} {k : Nat} {f : Addr} {fd : FuncData} {ps : List Str} {sp : Sp} (h : FnOk P w K mg base CX k f fd ps sp) : FnG γ P w K mg base CX k f fd ps sp :=
  ⟨h.len, fun A outer s H args us vs Q E _ => h.run A outer s H args us vs Q E⟩
theorem FnG.mono {P : Program} {w : World} {K : PySem.W.Frag} {mg : Str → Option Value} {base : Heap} {CX : CXT} {j k : Nat} {f : Addr} {fd : FuncData} {ps : List Str} {sp : Sp} (h : FnG γ P w K mg base CX j f fd ps sp) (l : j ≤ k) : FnG γ P w K mg base CX k f fd ps sp :=
  ⟨h.len, fun A outer s H args us vs Q E hg hr => h.run A outer s H args us vs Q E hg (hr.mono l)⟩
/-- a def of the text by its body -/
theorem fnG_of {CX : CXT} {P : Program} {w : World} {K : PySem.W.Frag} {mg : Str → Option Value} {base : Heap} {k : Nat} {f : Addr} {x qual : Str} {st : Stmt} {fd : FuncData} {N ps : List Str} {sp : Sp} (Fn : Fun K x qual st f fd) (S : FnScope N ps (defScope st)) (len : ∀ vs H Q E, sp vs H Q E → vs.length = ps.length)
    (hbody : ∀ (cdv : Value) (A : Around) (outer : List Env) (s : Shared) (H : Hp) (vs : List V) (Q : VK) (E : XK), γ A.guards → Room k (A.deeper (envOfC qual (defScope st) s.heap.objs.size f cdv)) → sp vs H Q E →
      ∃ t, PSs (cxOf CX P w K mg base N qual (defScope st) f cdv A outer s H E) (defBody st) t ∧ t { nx := fun _ H' => Q .non H', rt := Q } (start N vs) H) : FnG γ P w K mg base CX (k + 1) f fd ps sp := by
  obtain ⟨oc, od, kV, doc, pm, an, cdv, ct, osl, rfl, lk, hcd⟩ := Fn.ex
  refine ⟨len, fun A outer s H args us vs Q E hgd hr e0 hb r hsp => ?_⟩
  have inK : K.In s.heap := e0.mod.kin.keeps fun b o e => (e0.bs b o e).1
  have lim : s.heap.NoLimit := e0.mod.nolimit.keeps fun b o e => (e0.bs b o e).1
  have kinds : ∀ y ∈ ps.zip us, (defScope st).names.lookup y.1 = some .local ∨ ((defScope st).names.lookup y.1 = some .cell ∧ ((cellsFrom (s.heap.objs.size + 1) (defScope st).names []).lookup y.1).isSome = true) := fun ⟨n, v⟩ hy => by
    rcases S.par n (List.of_mem_zip hy).1 with q | q
    · exact .inl q
    · refine .inr ⟨q, ?_⟩
      exact PySem.W.cellsFrom_some _ _ _ (.inl q)
  refine codeAny_call_function hr.depth (inK _ _ lk) rfl S.co S.gen rfl (PySem.W.codeRec_of inK hcd) (hb _ _ _ _ ?_)
  refine wpAny_newFunctionEnv_cells S.kind kinds fun env he s1 z => ?_
  subst he
  refine ⟨lim.keeps z.toInCall.keep, codeAny_func ?_⟩
  obtain ⟨t, ht, hq⟩ := hbody cdv A outer s H vs Q E hgd (hr.deeper _) hsp
  have I : Inv (cxOf CX P w K mg base N qual (defScope st) f cdv A outer s H E) [] (start N vs) H s1 := inv_start S hr.hd e0 (len _ _ _ _ hsp) r z
  refine wpAny_mono (ht.run [] s1 (start N vs) H _ I hq) (fun fl s' hs => ?_) fun e s' hs => hs
  cases fl with
  | ret u =>
    obtain ⟨v, σ', H', J, rv, q⟩ := hs
    exact ⟨v, H', J.os, J.bare, J.base, J.hok, rv, q⟩
  | next =>
    obtain ⟨σ', H', J, q⟩ := hs
    exact ⟨.non, H', J.os, J.bare, J.base, J.hok, rfl, q⟩
  | brk =>
    obtain ⟨_, _, _, q⟩ := hs
    exact q.elim
  | cont =>
    obtain ⟨_, _, _, q⟩ := hs
    exact q.elim
section
variable {X : Cx} {B : Hp} {env : List (Option D)} {ow : Ow} {a b c e o i tg it elt : Expr} {es : List Expr} {d d1 d2 d3 : D} {ds : List D} {pos : Pos} {Dn : Ends} {rest : List Stmt}
variable {CX : CXT} {k : Nat} {f : Addr} {fd : FuncData} {ps : List Str} {sp : Sp} {dvs : List V} {dv : List Value} {E : XK} {x : Str} {p : Pos}
theorem run_fnG {pins : List (Addr × Obj)} {σ : L2.St} {H : Hp} {s : Shared} {Q : VK} {us : List Value} {vs : List V} (Fn : FnG γ X.prog X.w X.K X.mg X.base CX k f fd ps sp) (hgd : γ X.A.guards) (hr : Room k X.A) (hb : Binds X.K fd ps dv) (hd : Vals dvs dv) (hx : Passes CX X E)
    (I : Inv X pins σ H s) (r : Vals vs us) (h : sp (vs ++ dvs) H Q E) : wpAny (model X.prog X.w) X.A (call (.ref f) us) (EP X pins σ Q) X.xe s := by
  have r2 : Vals (vs ++ dvs) (us ++ dv) := r.append hd
  have hl : (us ++ dv).length = ps.length := r2.length.symm.trans (Fn.len _ _ _ _ h)
  refine wpAny_call (codeAny_mono (Fn.run X.A X.stack s H ⟨us, []⟩ (us ++ dv) (vs ++ dvs) Q E hgd hr I.env0 (hb s us I.kIn hl) r2 h) fun r s' hq => ?_)
  match r, hq with
  | .error e, hq => exact hx pins σ H s e s' I hq
  | .ok (.ret u), hq => exact I.after hq
theorem pe_callG {es0 : List Expr} {t : TA} (Fn : FnG γ X.prog X.w X.K X.mg X.base CX k f fd ps sp) (hgd : γ X.A.guards) (hr : Room k X.A) (hg : Gl X x) (hm : X.mg x = some (.ref f)) (hk : PySem.W.keepIn X.K (.ref f) = true) (hb : Binds X.K fd ps dv) (hd : Vals dvs dv) (hx : Passes CX X E)
    (ha : PA X (e :: es0) t) (hdb : (x == ("__debug__" : Str)) = false := by decide) (he : starEach (e :: es0) X.env = (false, eval e X.env) :: starEach es0 X.env := by rfl) (hpl : (backTo pos (starEach es0 X.env)).any (·.1) = false := by rfl) :
    PE X (.Call (.Name x p) (e :: es0) [] pos) (tCall sp dvs E t) := by
  refine ⟨fun pins s σ H Q I h => ?_⟩
  refine wpAny_Call_Name_kw (ld_glob I hg hm ?_ hdb)
  refine PySem.W.callWith_K (h₀ := X.base) I.ok.mod.kin hk ?_ he hpl
  refine thn (ha.run pos pins s σ H _ I h) fun us s1 ⟨vs, H1, I1, r, q⟩ => ⟨I1.kIn, ?_⟩
  exact run_fnG Fn hgd hr hb hd hx I1 r q
theorem ve_call (Fn : FnG γ X.prog X.w X.K X.mg X.base CX k f fd ps sp) (hgd : γ X.A.guards) (hr : Room k X.A) (hg : Gl X x) (hm : X.mg x = some (.ref f)) (hk : PySem.W.keepIn X.K (.ref f) = true) (hb : Binds X.K fd ps dv) (hd : Vals dvs dv) (hx : Passes CX X E) (ha : Va X (e :: es) env ow ds)
    (hs : ∀ F H vs Q, Wo X.K ow F H → Rps X.K F vs ds → Post X.K ow F d Q → sp (vs ++ dvs) H Q E) (hdb : (x == ("__debug__" : Str)) = false := by decide) (he : starEach (e :: es) X.env = (false, eval e X.env) :: starEach es X.env := by rfl) (hpl : (backTo pos (starEach es X.env)).any (·.1) = false := by rfl) :
    Ve X (.Call (.Name x p) (e :: es) [] pos) env ow d := .mk fun σ F H Q s w k0 => wpe (pe_callG Fn hgd hr hg hm hk hb hd hx pa_can hdb he hpl) (ha σ F H _ s w fun F1 H1 vs e1 w1 r1 => hs F1 H1 vs Q w1 r1 (k0.ex e1))
theorem vm_call {P : D → Ow → Prop} (Fn : FnG γ X.prog X.w X.K X.mg X.base CX k f fd ps sp) (hgd : γ X.A.guards) (hr : Room k X.A) (hg : Gl X x) (hm : X.mg x = some (.ref f)) (hk : PySem.W.keepIn X.K (.ref f) = true) (hb : Binds X.K fd ps dv) (hd : Vals dvs dv) (hx : Passes CX X E) (ha : Va X (e :: es) env ow ds)
    (hs : ∀ F H vs Q, Wo X.K ow F H → Rps X.K F vs ds → (∀ F2 H2 v d ow2, Ex F F2 → Wo X.K ow2 F2 H2 → Rp X.K F2 v d → P d ow2 → Q v H2) → sp (vs ++ dvs) H Q E) (hdb : (x == ("__debug__" : Str)) = false := by decide) (he : starEach (e :: es) X.env = (false, eval e X.env) :: starEach es X.env := by rfl) (hpl : (backTo pos (starEach es X.env)).any (·.1) = false := by rfl) :
    Vm X (.Call (.Name x p) (e :: es) [] pos) env ow P := .mk fun σ F H Q s w k0 => wpe (pe_callG Fn hgd hr hg hm hk hb hd hx pa_can hdb he hpl) (ha σ F H _ s w fun F1 H1 vs e1 w1 r1 => hs F1 H1 vs Q w1 r1 fun F2 H2 v d ow2 e2 w2 r2 hp => k0 F2 H2 v d ow2 (e1.trans e2) w2 r2 hp)
theorem vm_of {P : D → Ow → Prop} (h : Ve X e env ow d) (hp : P d ow) : Vm X e env ow P := .mk fun σ F H Q s w k0 => h σ F H Q s w fun F2 H2 v e2 w2 r2 => k0 F2 H2 v d ow e2 w2 r2 hp
theorem Vm.imp {P P' : D → Ow → Prop} (h : Vm X e env ow P) (q : ∀ d ow2, P d ow2 → P' d ow2) : Vm X e env ow P' := .mk fun σ F H Q s w k0 => h σ F H Q s w fun F2 H2 v d ow2 e2 w2 r2 hp => k0 F2 H2 v d ow2 e2 w2 r2 (q d ow2 hp)
/-- an operation whose first part changes what is owned -/
theorem vm_op1 {P P' : D → Ow → Prop} {op : Operator} {r : R2} (ho : OpR X (binaryOp op) r) (ha : Vm X a env ow P) (h : ∀ d1 ow2, P d1 ow2 → ∃ d2 d, Ve X b env ow2 d2 ∧ RD X.K ow2 r d1 d2 d ∧ P' d ow2) : Vm X (.BinOp a op b pos) env ow P' := .mk fun σ F H Q s w k0 =>
  wpe (pe_op ho pe_can pe_can) (ha σ F H _ s w fun F1 H1 x d1 ow2 e1 w1 r1 hp => by
    obtain ⟨d2, d, hb, hr, hp'⟩ := h d1 ow2 hp
    exact hb σ F1 H1 _ (s.mono e1) w1 fun F2 H2 y e2 w2 r2 => hr F2 H2 x y Q w2 (r1.mono e2) r2 fun F3 H3 v e3 w3 r3 => k0 F3 H3 v d ow2 ((e1.trans e2).trans e3) w3 r3 hp')
theorem vm_op2 {P P' : D → Ow → Prop} {op : Operator} {r : R2} (ho : OpR X (binaryOp op) r) (ha : Ve X a env ow d1) (hb : Vm X b env ow P) (h : ∀ d2 ow2, P d2 ow2 → ∃ d, RD X.K ow2 r d1 d2 d ∧ P' d ow2) : Vm X (.BinOp a op b pos) env ow P' := .mk fun σ F H Q s w k0 =>
  wpe (pe_op ho pe_can pe_can) (ha σ F H _ s w fun F1 H1 x e1 w1 r1 => hb σ F1 H1 _ (s.mono e1) w1 fun F2 H2 y d2 ow2 e2 w2 r2 hp => by
    obtain ⟨d, hr, hp'⟩ := h d2 ow2 hp
    exact hr F2 H2 x y Q w2 (r1.mono e2) r2 fun F3 H3 v e3 w3 r3 => k0 F3 H3 v d ow2 ((e1.trans e2).trans e3) w3 r3 hp')
/-- x[..] where the index changes what is owned -/
theorem vm_ix2 {P P' : D → Ow → Prop} {r : R2} (hr0 : IxR X r) (hs : PlainIx b) (ha : Ve X a env ow d1) (hb : Vm X b env ow P) (h : ∀ d2 ow2, P d2 ow2 → ∃ d, RD X.K ow2 r d1 d2 d ∧ P' d ow2) : Vm X (.Subscript a b pos) env ow P' := .mk fun σ F H Q s w k0 =>
  wpe (pe_ix hr0 pe_can pe_can hs) (ha σ F H _ s w fun F1 H1 x e1 w1 r1 => hb σ F1 H1 _ (s.mono e1) w1 fun F2 H2 y d2 ow2 e2 w2 r2 hp => by
    obtain ⟨d, hr, hp'⟩ := h d2 ow2 hp
    exact hr F2 H2 x y Q w2 (r1.mono e2) r2 fun F3 H3 v e3 w3 r3 => k0 F3 H3 v d ow2 ((e1.trans e2).trans e3) w3 r3 hp')
def Sub (ow ow' : Ow) : Prop := ∀ a o, ow a = some o → ow' a = some o
theorem wipe_one {σ : L2.St} {j : Nat} {v : V} : L2.wipe ((L2.wipe σ [j]).set j (some v)) [j] = L2.wipe σ [j] := by
  show ((σ.set j none).set j (some v)).set j none = σ.set j none
  rw [List.set_set, List.set_set]
def Vts (X : Cx) (ifs : List Expr) (env : List (Option D)) (ow : Ow) (b : Bool) : Prop := ∃ t, PTs X ifs t ∧ ∀ (σ : L2.St) (F H : Hp) (Q : Bool → Hp → Prop), Sl X.K F σ env → Wo X.K ow F H → PostB X.K ow F b Q → t σ H Q
/-- the block's test, whatever block -/
def WpTs (X : Cx) (ifs : List Expr) : TT := fun σ H Q => ∀ pins s, Inv X pins σ H s → wpAny (model X.prog X.w) X.A (forIn ifs true fun c r => if r = true then do let ok ← isTrue c X.env (eval c X.env); pure (ForInStep.yield ok) else pure (ForInStep.yield r)) (TP X pins σ Q) X.xe s
theorem vts_nil : Vts X [] env ow true := ⟨_, pts_nil, fun σ F H Q s w k => k F H (Evl.Ex.refl F) w⟩
theorem vts_one {t : Bool} (h : Vt X c env ow t) : Vts X [c] env ow t := ⟨_, pts_one pt_can, h⟩
/-- [elt for name in it if ..]: f the data of what is kept -/
theorem ve_lc {ifs : List Expr} {scope : Scope} {j : Nat} {y : Str} {py : Pos} (kp : D → Bool) (f : D → D) (hc : X.calm = true) (hN : X.N.Nodup) (hi : Vi X (.Name y py) it env ow ds) (ok : BlkOk X.N X.env.scope scope [(y, j)]) (hl : ds.length ≤ 100000)
    (hg : ∀ (s : Shared) (H : Hp) (C : Addr) (cl : List (Str × Addr)) (fp : List Addr), PG (X.blk s H scope (compEnvC scope cl C X.env) fp) (.Name y py) (gName j))
    (ht : ∀ d ow', d ∈ ds → Sub ow ow' → ∀ (s : Shared) (H : Hp) (C : Addr) (cl : List (Str × Addr)) (fp : List Addr), Vts (X.blk s H scope (compEnvC scope cl C X.env) fp) ifs ((env.set j none).set j (some d)) ow' (kp d))
    (he : ∀ d ow', d ∈ ds → kp d = true → Sub ow ow' → ∀ (s : Shared) (H : Hp) (C : Addr) (cl : List (Str × Addr)) (fp : List Addr), Ve (X.blk s H scope (compEnvC scope cl C X.env) fp) elt ((env.set j none).set j (some d)) ow' (f d))
    (hsf : ∀ x, foldedSetIterable it X.env x = pure x := by intro _; rfl) : Ve X (.ListComp elt [⟨.Name y py, it, ifs, 0⟩] scope pos) env ow (.lst ((ds.filter kp).map f)) := .mk fun σ F H Q s w k0 => by
  obtain ⟨wi, pi, hw⟩ := hi
  refine wpe (pe_lc (own := [(y, j)]) (g := gName j) (tt := fun σ H Q => ∀ (s : Shared) (H0 : Hp) (C : Addr) (cl : List (Str × Addr)) (fp : List Addr), WpTs (X.blk s H0 scope (compEnvC scope cl C X.env) fp) ifs σ H Q)
    (te := fun σ H Q => ∀ (s : Shared) (H0 : Hp) (C : Addr) (cl : List (Str × Addr)) (fp : List Addr), WpE (X.blk s H0 scope (compEnvC scope cl C X.env) fp) elt σ H Q) hc hN pi ok hg
    (fun s0 H0 C cl fp => ⟨fun pins s σ H Q I h => h s0 H0 C cl fp pins s I⟩) (fun s0 H0 C cl fp => ⟨fun pins s σ H Q I h => h s0 H0 C cl fp pins s I⟩) hsf) ?_
  refine hw σ F H _ s w fun J F1 H1 e1 w1 src => ?_
  intro Dl hD
  refine ⟨fun i m H => m = ds.length - i ∧ i ≤ ds.length ∧ ∃ F2 xs, Ex F1 F2 ∧ Wo X.K ow F2 H ∧ F2 Dl = none ∧ ow Dl = none ∧ H Dl = some (.lst xs) ∧ Rps X.K F2 xs (((ds.take i).filter kp).map f), ⟨ds.length, by simp, Nat.zero_le _, F1, [], Evl.Ex.refl F1, w1.grow hD, w1.free hD, w1.ofree hD, upd_same, .nil⟩, ?_⟩
  rintro i m H2 ⟨rfl, hi, F2, xs, e2, w2, hF2, hoD, hH2, r2⟩
  obtain ⟨stop, go⟩ := src F2 H2 ow i e2 w2
  by_cases hlt : i < ds.length
  · have hdi : ds[i]? = some ds[i] := by simp [hlt]
    have htk : ds.take (i + 1) = ds.take i ++ [ds[i]] := by rw [List.take_add_one, hdi]; rfl
    obtain ⟨hgo, hy⟩ := go ds[i] hdi
    refine .inr ⟨hgo, fun H3 => ∃ F3 xs, Ex F1 F3 ∧ Wo X.K ow F3 H3 ∧ F3 Dl = none ∧ ow Dl = none ∧ H3 Dl = some (.lst xs) ∧ Rps X.K F3 xs (((ds.take (i + 1)).filter kp).map f), fun H3 q => ⟨ds.length - (i + 1), by omega, rfl, hlt, q⟩, fun x H3 hx => ?_⟩
    -- the new list's place is owned meanwhile
    have w2' : Wo X.K (ou ow Dl (.lst (((ds.take i).filter kp).map f))) F2 H2 := ⟨w2.ex, fun a o q => by
      by_cases z : a = Dl
      · subst z
        rw [ou_same] at q
        cases q
        exact ⟨hF2, xs, hH2, r2⟩
      · rw [ou_ne z] at q
        exact w2.own a o q⟩
    obtain ⟨stop', go'⟩ := src F2 H2 _ i e2 w2'
    obtain ⟨_, hy'⟩ := go' ds[i] hdi
    obtain ⟨F3, e3, w3', r3⟩ := hy' x H3 hx
    have sub : ∀ a o, ow a = some o → ou ow Dl (.lst (((ds.take i).filter kp).map f)) a = some o := fun a o q => by
      rw [ou_ne (fun z => by rw [z, hoD] at q; cases q)]
      exact q
    have sl : Sl X.K F3 ((L2.wipe σ [j]).set j (some x)) ((env.set j none).set j (some ds[i])) := (((s.mono (e1.trans (e2.trans e3))).unset j).set r3 j)
    refine ⟨wipe_one, fun s0 H0 C cl fp => ?_⟩
    have hmem : ds[i] ∈ ds := List.getElem_mem hlt
    obtain ⟨tt, ptt, qtt⟩ := ht ds[i] _ hmem sub s0 H0 C cl fp
    intro pins s' I
    refine ptt.run pins s' _ H3 _ I (qtt _ F3 H3 _ sl w3' fun F4 H4 e4 w4 => ?_)
    cases hk : kp ds[i] with
    | true =>
      rw [if_pos rfl]
      intro s1 H01 C1 cl1 fp1
      refine he ds[i] _ hmem hk sub s1 H01 C1 cl1 fp1 _ F4 H4 _ (sl.mono e4) w4 fun F5 H5 y e5 w5 r5 => ?_
      obtain ⟨n5, ys, h5, s5⟩ := w5.own Dl _ ou_same
      refine ⟨ys, h5, ?_, F5, ys ++ [y], e2.trans (e3.trans (e4.trans e5)), ?_, n5, hoD, upd_same, ?_⟩
      · have z := s5.length
        have y1 : (((ds.take i).filter kp).map f).length ≤ i := by
          rw [List.length_map]
          exact Nat.le_trans (List.length_filter_le _ _) (by rw [List.length_take]; omega)
        exact Evl.sz_lt (by omega)
      · exact (w5.setL ou_same (s5.append (.cons r5 .nil))).drop fun a o q => by
          rw [ou_ne (fun z => by rw [z, hoD] at q; cases q)]
          exact sub a o q
      · rw [htk, List.filter_append, List.map_append]
        have y2 : ([ds[i]].filter kp).map f = [f ds[i]] := by simp [hk]
        rw [y2]
        exact s5.append (.cons r5 .nil)
    | false =>
      rw [if_neg Bool.false_ne_true]
      obtain ⟨n5, ys, h5, s5⟩ := w4.own Dl _ ou_same
      refine ⟨F4, ys, e2.trans (e3.trans e4), w4.drop sub, n5, hoD, h5, ?_⟩
      rw [htk, List.filter_append, List.map_append]
      have y2 : ([ds[i]].filter kp).map f = [] := by simp [hk]
      rw [y2, List.append_nil]
      exact s5
  · have e : i = ds.length := by omega
    subst e
    refine .inl ⟨stop (Nat.le_refl _), ?_⟩
    rw [List.take_length] at r2
    exact k0 (upd F2 Dl (.lst xs)) H2 _ ((e1.trans e2).trans (Evl.Ex.new hF2)) (w2.freeze hF2 hH2 hoD) (.lst upd_same (r2.mono (Evl.Ex.new hF2)))
end
end Vd
set_option Elab.async false
set_option linter.all false
set_option maxRecDepth 100000
set_option maxHeartbeats 4000000
namespace Vd
open PySem L2
section
variable {X : Cx} {B : Hp} {env : List (Option D)} {ow : Ow} {a b c e o i tg it elt : Expr} {es : List Expr} {d d1 d2 d3 : D} {ds l : List D} {pos : Pos} {Dn : Ends} {rest : List Stmt}
theorem rn_newL {x : Str} {p lp : Pos} {j : Nat} (hN : X.N.Nodup) (hi : X.N[j]? = some x) (hx : Loc X.env.scope x) (h : Va X es env ow ds) (hl : ds.length ≤ 100000) (k : ∀ B' q, Ex B B' → ow q = none → Rn X B' rest Dn (env.set j (some (.ob (.ref q)))) (ou ow q (.lst ds)))
    (hs : swapsWith (.List es lp) (some (.Name x p)) pos.line X.env = pure false := by rfl) (hf : X.fn x = true ∨ X.env.scope.names.lookup x = some .local := by first | exact .inl rfl | exact .inr rfl | assumption) : Rn X B (.Assign [.Name x p] (.List es lp) pos :: rest) Dn env ow :=
  rn_one ⟨_, ps_set hN hi hx (pe_lst pa_can) hs hf, fun σ F H eB s w => h σ F H _ s w fun F1 H1 xs e1 w1 r1 => ⟨Evl.sz_of (by rw [r1.length]; exact hl), fun q hq => k F1 q (eB.trans e1) (w1.ofree hq) _ F1 _ (Evl.Ex.refl F1) ((s.mono e1).set (.ob _) j) (w1.newL hq r1)⟩⟩
theorem rn_app {q : Addr} {ap cp : Pos} (ho : Ve X o env ow (.ob (.ref q))) (hq : ow q = some (.lst l)) (he : Ve X e env ow d) (hl : l.length < 100000) (k : ∀ B', Ex B B' → Rn X B' rest Dn env (ou ow q (.lst (l ++ [d]))))
    (hbase : attributeBase o "append" X.env (eval o X.env) = eval o X.env := by rfl)
    (hfew : ((backTo cp (starEach [e] X.env)).all (fun x => !x.1) && (backToKw cp (keywordEach [] X.env)).all (fun x => x.1.isSome) && decide ([e].length + ([] : List Keyword).length + (if ([] : List Keyword).isEmpty then 0 else 1) < 30)) = true := by rfl)
    (hline : (ap.endLine == cp.line) = true := by rfl) (hst : starEach [e] X.env = (false, eval e X.env) :: starEach [] X.env := by rfl) (hpl : (backTo cp (starEach [] X.env)).any (·.1) = false := by rfl) (hs : swapsWith (.Call (.Attribute o "append" ap) [e] [] cp) none pos.line X.env = pure false := by rfl) :
    Rn X B (.Expr (.Call (.Attribute o "append" ap) [e] [] cp) pos :: rest) Dn env ow := rn_one ⟨_, ps_expr (pe_bm PySem.F.plainAttrs_list PySem.F.slot_list_append PySem.F.type_list_append mt_append pe_can (pa_cons pe_can pa_nil hst) hbase hfew hline hst hpl) hs, fun σ F H eB s w => ho σ F H _ s w fun F1 H1 v e1 w1 r1 => by
  cases r1
  obtain ⟨_, xs0, g0, _⟩ := w1.own q _ hq
  refine ⟨.inl ⟨rfl, _, SqL.of g0⟩, he σ F1 H1 _ (s.mono e1) w1 fun F2 H2 y e2 w2 r2 => ?_⟩
  obtain ⟨_, xs, g, sx⟩ := w2.own q _ hq
  exact ⟨q, xs, y, rfl, rfl, g, Evl.sz_lt (by rw [sx.length]; exact hl), k F2 (eB.trans (e1.trans e2)) σ F2 _ (Evl.Ex.refl F2) (s.mono (e1.trans e2)) (w2.setL hq (sx.append (.cons r2 .nil)))⟩⟩
def oz (ow : Ow) (a : Addr) : Ow := fun b => if b = a then none else ow b
theorem oz_same {a : Addr} : oz ow a a = none := by unfold oz; rw [if_pos rfl]
theorem oz_ne {a b : Addr} (h : b ≠ a) : oz ow a b = ow b := by unfold oz; rw [if_neg h]
/-- an owned list is let freeze -/
theorem rn_freeze {j : Nat} {q : Addr} (hj : env[j]? = some (some (.ob (.ref q)))) (hq : ow q = some (.lst l)) (k : ∀ B', Ex B B' → Rn X B' rest Dn (env.set j (some (.lst l))) (oz ow q)) : Rn X B rest Dn env ow := .mk fun σ F H eB s w => by
  obtain ⟨n, xs, g, sx⟩ := w.own q _ hq
  obtain ⟨v, h1, h2⟩ := s.at_ j _ hj
  cases h2
  have e1 : Ex F (upd F q (.lst xs)) := Evl.Ex.new n
  have w1 : Wo X.K (oz ow q) (upd F q (.lst xs)) H := (w.drop (ow' := oz ow q) fun a o h => by
    by_cases z : a = q
    · subst z
      rw [oz_same] at h
      cases h
    · rw [oz_ne z] at h
      exact h).freeze n g oz_same
  have s1 : Sl X.K (upd F q (.lst xs)) (σ.set j (some (.ref q))) (env.set j (some (.lst l))) := (s.mono e1).set (.lst upd_same (sx.mono e1)) j
  have z : σ.set j (some (.ref q)) = σ := by
    apply List.ext_getElem?
    intro m
    rw [List.getElem?_set]
    by_cases y : j = m
    · subst y
      rw [if_pos rfl, h1]
      have y2 : j < σ.length := (List.getElem?_eq_some_iff.mp h1).1
      rw [if_pos y2]
    · rw [if_neg y]
  rw [z] at s1
  exact k _ (eB.trans e1) σ _ H (Evl.Ex.refl _) s1 w1
theorem rn_seti {q : Addr} {n : Int} {j : Nat} {sp : Pos} (h : Ve X e env ow d) (ho : Ve X o env ow (.ob (.ref q))) (hi : Ve X i env ow (.int n)) (hq : ow q = some (.lst l)) (hj : ixN l.length n = some j) (k : ∀ B', Ex B B' → Rn X B' rest Dn env (ou ow q (.lst (l.set j d))))
    (hg : PG X (.Subscript o i sp) (gSub (WpE X o) (WpE X i) rSetL))
    (hs : swapsWithSole [.Subscript o i sp] e pos.line X.env = pure false := by rfl) (hw : swappedStores [.Subscript o i sp] e X.env = pure none := by rfl) (h1 : (assignEach [.Subscript o i sp] X.env).map (·.2) = [assign (.Subscript o i sp) X.env] := by rfl) :
    Rn X B (.Assign [.Subscript o i sp] e pos :: rest) Dn env ow := rn_one ⟨_, ps_asg pe_can hg hs hw h1, fun σ F H eB s w => h σ F H _ s w fun F1 H1 v e1 w1 r1 => ho σ F1 H1 _ (s.mono e1) w1 fun F2 H2 ov e2 w2 r2 => hi σ F2 H2 _ (s.mono (e1.trans e2)) w2 fun F3 H3 iv e3 w3 r3 => by
  cases r2
  cases r3
  obtain ⟨_, xs, g, sx⟩ := w3.own q _ hq
  exact ⟨q, xs, n, j, rfl, rfl, g, by rw [sx.length]; exact hj, k F3 (eB.trans (e1.trans (e2.trans e3))) σ F3 _ (Evl.Ex.refl F3) (s.mono (e1.trans (e2.trans e3))) (w3.setL hq (sx.set (r1.mono (e2.trans e3)) j))⟩⟩
/-- return [..]: the list is handed out as owned -/
theorem rn_retL {lp : Pos} (h : Va X es env ow ds) (hl : ds.length ≤ 100000) (k : ∀ F2 H2 q, Ex B F2 → ow q = none → Wo X.K (ou ow q (.lst ds)) F2 H2 → Dn.rt (.ref q) H2) : Rn X B (.Return (some (.List es lp)) pos :: rest) Dn env ow :=
  rn_one ⟨_, ps_ret (pe_lst pa_can), fun σ F H eB s w => h σ F H _ s w fun F1 H1 xs e1 w1 r1 => ⟨Evl.sz_of (by rw [r1.length]; exact hl), fun q hq => k F1 _ q (eB.trans e1) (w1.ofree hq) (w1.newL hq r1)⟩⟩
theorem rn_retS {ow0 : Ow} (h : Ve X e env ow d) (sub : Sub ow0 ow) (k : Post X.K ow0 B d Dn.rt) : Rn X B (.Return (some e) pos :: rest) Dn env ow := rn_ret h fun F2 H2 v e2 w2 r2 => k F2 H2 v e2 (w2.drop sub) r2
end
open PySem.Spec PyProof.Rows
section
variable {P : Program} {w : World} {K : PySem.W.Frag} {mg : Str → Option Value} {base : Heap}
def env0 (N : List Str) (ds : List D) : List (Option D) := ds.map some ++ List.replicate (N.length - ds.length) none
theorem okG {x qual : Str} {st : Stmt} {f : Addr} {fd : FuncData} {N ps : List Str} {k : Nat} {sp : Sp} (Fn : Fun K x qual st f fd) (S : FnScope N ps (defScope st)) (len : ∀ vs H Q E, sp vs H Q E → vs.length = ps.length)
    (body : ∀ (cdv : Value) (A : Around) (outer : List Env) (s : Shared) (H : Hp) (vs : List V) (Q : VK) (E : XK), γ A.guards → Room k (A.deeper (envOfC qual (defScope st) s.heap.objs.size f cdv)) → sp vs H Q E →
      ∃ B ow ds, Wo K ow B H ∧ Rps K B vs ds ∧ Rn (cxOf CX0 P w K mg base N qual (defScope st) f cdv A outer s H E).nox B (defBody st) { nx := fun _ H' => Q .non H', rt := Q } (env0 N ds) ow) : FnG γ P w K mg base CX0 (k + 1) f fd ps sp :=
  fnG_of Fn S len fun cdv A outer s H vs Q E hgd hr h => by
    obtain ⟨B, ow, ds, wo, r, q⟩ := body cdv A outer s H vs Q E hgd hr h
    exact ⟨_, pss_can.nox, q (start N vs) B H (Evl.Ex.refl B) (Sl.start r) wo⟩
/-- from data to data -/
def spR (K : PySem.W.Frag) (R : List D → D → Prop) : Sp := fun vs H Q _ => ∃ F ow ds d, Wo K ow F H ∧ Rps K F vs ds ∧ R ds d ∧ Post K ow F d Q
theorem okR {x qual : Str} {st : Stmt} {f : Addr} {fd : FuncData} {N ps : List Str} {k : Nat} {R : List D → D → Prop} (Fn : Fun K x qual st f fd) (S : FnScope N ps (defScope st)) (len : ∀ ds d, R ds d → ds.length = ps.length)
    (body : ∀ (cdv : Value) (A : Around) (outer : List Env) (s : Shared) (H B : Hp) (ow : Ow) (ds : List D) (d : D) (Q : VK) (E : XK), γ A.guards → Room k (A.deeper (envOfC qual (defScope st) s.heap.objs.size f cdv)) → R ds d → Post K ow B d Q →
      Rn (cxOf CX0 P w K mg base N qual (defScope st) f cdv A outer s H E).nox B (defBody st) { nx := fun _ H' => Q .non H', rt := Q } (env0 N ds) ow) : FnG γ P w K mg base CX0 (k + 1) f fd ps (spR K R) :=
  okG Fn S (fun vs H Q E ⟨F, ow, ds, d, wo, r, hR, _⟩ => by rw [r.length]; exact len ds d hR) fun cdv A outer s H vs Q E hgd hr ⟨F, ow, ds, d, wo, r, hR, k⟩ => ⟨F, ow, ds, wo, r, body cdv A outer s H F ow ds d Q E hgd hr hR k⟩
def CupO (ow : Ow) (c : Addr) : Prop := ∃ x y : Int, 0 ≤ x ∧ 0 ≤ y ∧ ow c = some (.lst [.int x, .int y])
def SameO (c : Addr) (ow ow' : Ow) : Prop := ∀ b o, b ≠ c → ow b = some o → ow' b = some o
theorem SameO.refl {c : Addr} {ow : Ow} : SameO c ow ow := fun _ _ _ h => h
theorem SameO.trans {c : Addr} {o1 o2 o3 : Ow} (a : SameO c o1 o2) (b : SameO c o2 o3) : SameO c o1 o3 := fun x o n h => b x o n (a x o n h)
def PostC (K : PySem.W.Frag) (ow : Ow) (c : Addr) (F : Hp) (R : D → Prop) (Q : VK) : Prop := ∀ F2 H2 ow2 v d, Ex F F2 → Wo K ow2 F2 H2 → SameO c ow ow2 → CupO ow2 c → Rp K F2 v d → R d → Q v H2
def spC (K : PySem.W.Frag) (G : List D → Prop) (R : List D → D → Prop) : Sp := fun vs H Q _ => ∃ F ow c ws ds, vs = .ref c :: ws ∧ Wo K ow F H ∧ CupO ow c ∧ Rps K F ws ds ∧ G ds ∧ PostC K ow c F (R ds) Q
theorem okC {x qual : Str} {st : Stmt} {f : Addr} {fd : FuncData} {N ps : List Str} {k : Nat} {G : List D → Prop} {R : List D → D → Prop} (Fn : Fun K x qual st f fd) (S : FnScope N ps (defScope st)) (len : ∀ ds, G ds → ds.length + 1 = ps.length)
    (body : ∀ (cdv : Value) (A : Around) (outer : List Env) (s : Shared) (H B : Hp) (ow : Ow) (c : Addr) (ds : List D) (Q : VK) (E : XK), γ A.guards → Room k (A.deeper (envOfC qual (defScope st) s.heap.objs.size f cdv)) → G ds → CupO ow c → PostC K ow c B (R ds) Q →
      Rn (cxOf CX0 P w K mg base N qual (defScope st) f cdv A outer s H E).nox B (defBody st) { nx := fun _ H' => Q .non H', rt := Q } (env0 N (.ob (.ref c) :: ds)) ow) : FnG γ P w K mg base CX0 (k + 1) f fd ps (spC K G R) :=
  okG Fn S (fun vs H Q E ⟨F, ow, c, ws, ds, e, wo, _, r, hG, _⟩ => by rw [e, List.length_cons, r.length]; exact len ds hG) fun cdv A outer s H vs Q E hgd hr ⟨F, ow, c, ws, ds, e, wo, hc, r, hG, k⟩ => by
    subst e
    exact ⟨F, ow, .ob (.ref c) :: ds, wo, .cons (.ob _) r, body cdv A outer s H F ow c ds Q E hgd hr hG hc k⟩
theorem rn_retC {X : Cx} {B B0 : Hp} {env : List (Option D)} {ow ow0 : Ow} {e : Expr} {d : D} {pos : Pos} {Dn : Ends} {rest : List Stmt} {c : Addr} {R : D → Prop} (h : Ve X e env ow d) (k : PostC X.K ow0 c B0 R Dn.rt) (eB : Ex B0 B) (hs : SameO c ow0 ow) (hc : CupO ow c) (hR : R d) :
    Rn X B (.Return (some e) pos :: rest) Dn env ow := rn_ret h fun F2 H2 v e2 w2 r2 => k F2 H2 ow v d (eB.trans e2) w2 hs hc r2 hR
/-- a draw -/
theorem vm_draw {X : Cx} {env : List (Option D)} {ow : Ow} {e : Expr} {es : List Expr} {ds : List D} {pos p : Pos} {x : Str} {f c : Addr} {fd : FuncData} {ps : List Str} {k : Nat} {G : List D → Prop} {R : List D → D → Prop} (Fn : FnG γ X.prog X.w X.K X.mg X.base CX0 k f fd ps (spC X.K G R)) (hgd : γ X.A.guards) (hr : Room k X.A) (hg : Gl X x) (hm : X.mg x = some (.ref f)) (hk : PySem.W.keepIn X.K (.ref f) = true) (hb : Binds X.K fd ps [])
    (ha : Va X (e :: es) env ow (.ob (.ref c) :: ds)) (hc : CupO ow c) (hG : G ds) (hdb : (x == ("__debug__" : Str)) = false := by decide) (he : starEach (e :: es) X.env = (false, eval e X.env) :: starEach es X.env := by rfl) (hpl : (backTo pos (starEach es X.env)).any (·.1) = false := by rfl) :
    Vm X (.Call (.Name x p) (e :: es) [] pos) env ow fun d ow2 => SameO c ow ow2 ∧ CupO ow2 c ∧ R ds d := vm_call Fn hgd hr hg hm hk hb .nil pass0 ha (fun F H vs Q w r k0 => by
  cases r with
  | cons r1 r2 =>
    cases r1
    rw [List.append_nil]
    exact ⟨F, ow, c, _, ds, rfl, w, hc, r2, hG, fun F2 H2 ow2 v d e2 w2 s2 c2 rv hR => k0 F2 H2 v d ow2 e2 w2 rv ⟨s2, c2, hR⟩⟩) hdb he hpl
end
end Vd
set_option Elab.async false
set_option linter.all false
set_option maxRecDepth 100000
set_option maxHeartbeats 4000000
namespace Vd
open PySem L2
section
variable {X : Cx} {B : Hp} {env : List (Option D)} {ow : Ow} {a b c e o i tg it elt : Expr} {es : List Expr} {d d1 d2 d3 : D} {ds l : List D} {pos : Pos} {Dn : Ends} {rest : List Stmt}
structure BinOk (X : Cx) (ow : Ow) (op : Operator) (d1 d2 d : D) : Prop where
  ex : ∃ r, OpR X (binaryOp op) r ∧ RD X.K ow r d1 d2 d
structure CmpOk (X : Cx) (ow : Ow) (op : CmpOp) (b : Expr) (d1 d2 d : D) : Prop where
  ex : ∃ r, OpR X (compareOp op) r ∧ behindInMarks op b = false ∧ RD X.K ow r d1 d2 d
structure IxOk (X : Cx) (ow : Ow) (d1 d2 d : D) : Prop where
  ex : ∃ r, IxR X r ∧ RD X.K ow r d1 d2 d
structure BiOk (X : Cx) (ow : Ow) (id : String) (ds : List D) (d : D) : Prop where
  ex : ∃ r, CallR X (.builtin id) r ∧ RC X.K ow r ds d
structure TyOk (X : Cx) (ow : Ow) (id : String) (ds : List D) (d : D) : Prop where
  ex : ∃ r, CallR X (.type id) r ∧ RC X.K ow r ds d
theorem ve_bin {op : Operator} (ha : Ve X a env ow d1) (hb : Ve X b env ow d2) (h : BinOk X ow op d1 d2 d) : Ve X (.BinOp a op b pos) env ow d := by
  obtain ⟨r, ho, hr⟩ := h
  exact ve_op ho ha hb hr
theorem ve_comp {op : CmpOp} (ha : Ve X a env ow d1) (hb : Ve X b env ow d2) (h : CmpOk X ow op b d1 d2 d) : Ve X (.Compare a [op] [b] pos) env ow d := by
  obtain ⟨r, ho, hm, hr⟩ := h
  exact ve_cmp ho hm ha hb hr
theorem vt_comp {op : CmpOp} {t : Bool} (ha : Ve X a env ow d1) (hb : Ve X b env ow d2) (h : CmpOk X ow op b d1 d2 (.bl t)) : Vt X (.Compare a [op] [b] pos) env ow t := by
  obtain ⟨r, ho, hm, hr⟩ := h
  exact vt_cmp ho hm ha hb hr
theorem ve_sub (ha : Ve X a env ow d1) (hb : Ve X b env ow d2) (hs : PlainIx b) (h : IxOk X ow d1 d2 d) : Ve X (.Subscript a b pos) env ow d := by
  obtain ⟨r, ho, hr⟩ := h
  exact ve_ix ho hs ha hb hr
/-- a built-in's call by its name: a function, or a type -/
theorem ve_bi {x : Str} {id : String} {p : Pos} (ha : Va X (e :: es) env ow ds) (hg : Gl X x) (hm : X.mg x = none) (hv : bootBuiltins x = some (.builtin id)) (h : BiOk X ow id ds d) (hn : x ≠ "__name__" := by decide) (hdb : (x == ("__debug__" : Str)) = false := by decide)
    (he : starEach (e :: es) X.env = (false, eval e X.env) :: starEach es X.env := by rfl) (hpl : (backTo pos (starEach es X.env)).any (·.1) = false := by rfl) : Ve X (.Call (.Name x p) (e :: es) [] pos) env ow d := by
  obtain ⟨r, ho, hr⟩ := h
  exact ve_cb ho hg hm hv ha hr hn hdb he hpl
theorem ve_ty {x : Str} {id : String} {p : Pos} (ha : Va X (e :: es) env ow ds) (hg : Gl X x) (hm : X.mg x = none) (hv : bootBuiltins x = some (.type id)) (h : TyOk X ow id ds d) (hn : x ≠ "__name__" := by decide) (hdb : (x == ("__debug__" : Str)) = false := by decide)
    (he : starEach (e :: es) X.env = (false, eval e X.env) :: starEach es X.env := by rfl) (hpl : (backTo pos (starEach es X.env)).any (·.1) = false := by rfl) : Ve X (.Call (.Name x p) (e :: es) [] pos) env ow d := by
  obtain ⟨r, ho, hr⟩ := h
  exact ve_ct ho hg hm hv ha hr hn hdb he hpl
theorem bo_add {i j : Int} : BinOk X ow .Add (.int i) (.int j) (.int (i + j)) := ⟨_, op_add, rd_add⟩
theorem bo_sub {i j : Int} : BinOk X ow .Sub (.int i) (.int j) (.int (i - j)) := ⟨_, op_sub, rd_sub⟩
theorem bo_mulL {i j : Int} (h : -(2 ^ 64) < i ∧ i < 2 ^ 64) : BinOk X ow .Mult (.int i) (.int j) (.int (i * j)) := ⟨_, op_mul, rd_mulL h⟩
theorem bo_mulR {i j : Int} (h : -(2 ^ 64) < j ∧ j < 2 ^ 64) : BinOk X ow .Mult (.int i) (.int j) (.int (i * j)) := ⟨_, op_mul, rd_mulR h⟩
theorem bo_div {i j : Int} (h : 0 < j) (h2 : j < 1073741824) : BinOk X ow .FloorDiv (.int i) (.int j) (.int (i / j)) := ⟨_, op_fdiv, rd_div ⟨h, h2⟩⟩
theorem bo_mod {i j : Int} (h : 0 < j) : BinOk X ow .Mod (.int i) (.int j) (.int (i % j)) := ⟨_, op_mod, rd_mod h⟩
theorem bo_pow {i j : Int} (h : 0 ≤ j) (h2 : j ≤ 1000000) (h3 : i.natAbs < 2 ^ 64) : BinOk X ow .Pow (.int i) (.int j) (.int (i ^ j.toNat)) := ⟨_, op_pow, rd_pow ⟨h, h2, h3⟩⟩
theorem bo_cat {l m : List D} (h : l.length + m.length ≤ 100000) : BinOk X ow .Add (.lst l) (.lst m) (.lst (l ++ m)) := ⟨_, op_cat, rd_cat h⟩
theorem co_lt {i j : Int} : CmpOk X ow .Lt b (.int i) (.int j) (.bl (decide (i < j))) := ⟨_, op_lt, nomark _, rd_lt⟩
theorem co_le {i j : Int} : CmpOk X ow .LtE b (.int i) (.int j) (.bl (decide (i ≤ j))) := ⟨_, op_le, nomark _, rd_le⟩
theorem co_gt {i j : Int} : CmpOk X ow .Gt b (.int i) (.int j) (.bl (decide (j < i))) := ⟨_, op_gt, nomark _, rd_gt⟩
theorem co_ge {i j : Int} : CmpOk X ow .GtE b (.int i) (.int j) (.bl (decide (j ≤ i))) := ⟨_, op_ge, nomark _, rd_ge⟩
theorem co_eqI {i j : Int} : CmpOk X ow .Eq b (.int i) (.int j) (.bl (decide (i = j))) := ⟨_, op_eq, nomark _, rd_eqI⟩
theorem co_neI {i j : Int} : CmpOk X ow .NotEq b (.int i) (.int j) (.bl (!decide (i = j))) := ⟨_, op_ne, nomark _, rd_neI⟩
theorem co_eqS {i j : Str} : CmpOk X ow .Eq b (.str i) (.str j) (.bl (decide (i = j))) := ⟨_, op_eq, nomark _, rd_eqS⟩
theorem co_neS {i j : Str} : CmpOk X ow .NotEq b (.str i) (.str j) (.bl (!decide (i = j))) := ⟨_, op_ne, nomark _, rd_neS⟩
theorem xo_own {q : Addr} {i : Int} (hq : ow q = some (.lst l)) (h : L2.atI l i = some d) : IxOk X ow (.ob (.ref q)) (.int i) d := ⟨_, ix_list, rd_ixO hq h⟩
theorem xo_lst {i : Int} (h : L2.atI l i = some d) : IxOk X ow (.lst l) (.int i) d := ⟨_, ix_list, rd_ixL h⟩
theorem xo_tup {i : Int} (h : L2.atI l i = some d) : IxOk X ow (.tup l) (.int i) d := ⟨_, ix_tup, rd_ixT h⟩
theorem xo_str {z : Str} {i : Int} {c : Nat} (hl : z.length ≤ 100000) (h : L2.atI z.cps.toList i = some c) : IxOk X ow (.str z) (.int i) (.str ⟨#[c]⟩) := ⟨_, ix_str, rd_ixS hl h⟩
theorem fo_abs {i : Int} : BiOk X ow "abs" [.int i] (.int (if i < 0 then -i else i)) := ⟨_, call_abs, rc_abs⟩
theorem fo_lenL : BiOk X ow "len" [.lst l] (.int (l.length : Nat)) := ⟨_, call_len_seq, rc_lenL⟩
theorem fo_lenT : BiOk X ow "len" [.tup l] (.int (l.length : Nat)) := ⟨_, call_len_seq, rc_lenT⟩
theorem fo_lenO {q : Addr} (hq : ow q = some (.lst l)) : BiOk X ow "len" [.ob (.ref q)] (.int (l.length : Nat)) := ⟨_, call_len_seq, rc_lenO hq⟩
theorem fo_divmod {i j : Int} (h : 0 < j) (h2 : j < 1073741824) : BiOk X ow "divmod" [.int i, .int j] (.tup [.int (i / j), .int (i % j)]) := ⟨_, call_divmod, rc_divmod ⟨h, h2⟩⟩
theorem fo_max {i j : Int} (hc : X.calm = true) : BiOk X ow "max" [.int i, .int j] (.int (if j > i then j else i)) := ⟨_, call_max2 hc, rc_max⟩
theorem fo_min {i j : Int} (hc : X.calm = true) : BiOk X ow "min" [.int i, .int j] (.int (if j < i then j else i)) := ⟨_, call_min2 hc, rc_min⟩
theorem to_int {i : Int} : TyOk X ow "int" [.int i] (.int i) := ⟨_, call_int1, rc_int1⟩
/-- cup[1], part = e: the pair's first into an owned list, the second into a slot -/
theorem rn_setiName {q : Addr} {n : Int} {j m kk : Nat} {x : Str} {sp np tp : Pos} {u v : D} (hc : X.calm = true) (h : Ve X e env ow (.tup [u, v])) (ho : Ve X o env ow (.ob (.ref q))) (hi : Ve X i env ow (.int n)) (hq : ow q = some (.lst l)) (hj : ixN l.length n = some j)
    (hN : X.N.Nodup) (hx : X.N[m]? = some x) (hl : Loc X.env.scope x) (k : ∀ B', Ex B B' → Rn X B' rest Dn (env.set m (some v)) (ou ow q (.lst (l.set j u))))
    (hs : swapsWithSole [.Tuple [.Subscript o i sp, .Name x np] kk tp] e pos.line X.env = pure false := by rfl) (hw : swappedStores [.Tuple [.Subscript o i sp, .Name x np] kk tp] e X.env = pure none := by rfl)
    (h1 : (assignEach [.Tuple [.Subscript o i sp, .Name x np] kk tp] X.env).map (·.2) = [assign (.Tuple [.Subscript o i sp, .Name x np] kk tp) X.env] := by rfl)
    (hg : PG X (.Tuple [.Subscript o i sp, .Name x np] kk tp) (gTup X.K 2 (gCons (gSub (WpE X o) (WpE X i) rSetL) (gCons (gName m) gNil)))) :
    Rn X B (.Assign [.Tuple [.Subscript o i sp, .Name x np] kk tp] e pos :: rest) Dn env ow := rn_one ⟨_, ps_asg pe_can hg hs hw h1, fun σ F H eB s w => h σ F H _ s w fun F1 H1 y e1 w1 r1 => by
  cases r1 with
  | tup g1 s1 =>
    cases s1 with
    | cons r2 s2 =>
      cases s2 with
      | cons r3 s3 =>
        cases s3
        refine ⟨_, _, rfl, Evl.ex_t w1.ex g1, rfl, _, _, rfl, ?_⟩
        refine ho σ F1 H1 _ (s.mono e1) w1 fun F2 H2 ov e2 w2 r4 => hi σ F2 H2 _ (s.mono (e1.trans e2)) w2 fun F3 H3 iv e3 w3 r5 => ?_
        cases r4
        cases r5
        obtain ⟨_, xs, g, sx⟩ := w3.own q _ hq
        exact ⟨q, xs, n, j, rfl, rfl, g, by rw [sx.length]; exact hj, _, _, rfl, rfl, k F3 (eB.trans (e1.trans (e2.trans e3))) _ F3 _ (Evl.Ex.refl F3) ((s.mono (e1.trans (e2.trans e3))).set (r3.mono (e2.trans e3)) m) (w3.setL hq (sx.set (r2.mono (e2.trans e3)) j))⟩⟩
end
end Vd
set_option Elab.async false
set_option linter.all false
set_option maxRecDepth 100000
set_option maxHeartbeats 4000000
namespace Xc
open PySem PySem.W PySem.HandSPX
section
variable {M : Model} {prog : Program} {w : World} {A : Around} {R : Result → Shared → Prop} {h : Heap} {g : Array GenState} {d : Drawn} {t : Nat} {os : OsState}
variable {nm q : Str} {C N : Addr} {bs bm bmB : List Value} {hdct : Bool} {sn : List Str} {sub : List Value} {ab : Bool} {col : Option Bool} {dd : Option Addr} {k0 k1 k2 k3 k5 : Option Value} {B newId initId : String}
variable {rest : List Value} {kw : List (Str × Value)}
local macro_rules | `(tactic| walk_at "xc step") => `(tactic| wp_step)
end
end Xc
set_option Elab.async false
set_option linter.all false
set_option maxRecDepth 100000
set_option maxHeartbeats 4000000
namespace Vd
open PySem L2
end Vd
set_option Elab.async false
set_option linter.all false
set_option maxRecDepth 100000
set_option maxHeartbeats 4000000
namespace Vd
open PySem L2
open PySem.Spec PyProof.Rows
mutual
def D.py : D → PyData
  | .non => .none
  | .bl b => .bool b
  | .int i => .int i
  | .str x => .str x
  | .lst l => .list (pyL l)
  | .rol l => .list (pyL l)
  | .tup l => .tuple (pyL l)
  | .dct _ => .none
  | .ins _ _ => .none
  | .exc _ _ => .none
  | .ob _ => .none
  | .tupF _ => .none
  | .dtp _ => .none
def pyL : List D → List PyData
  | [] => []
  | d :: l => d.py :: pyL l
end
mutual
def D.plain : D → Bool
  | .non => true
  | .bl _ => true
  | .int _ => true
  | .str _ => true
  | .lst l => plainL l
  | .rol l => plainL l
  | .tup l => plainL l
  | .dct _ => false
  | .ins _ _ => false
  | .exc _ _ => false
  | .ob _ => false
  | .tupF _ => false
  | .dtp _ => false
def plainL : List D → Bool
  | [] => true
  | d :: l => d.plain && plainL l
end
section
variable {K : PySem.W.Frag} {F H : Hp}
mutual
theorem Rp.dp (e : Ex F H) : ∀ {v : V} {d : D}, Rp K F v d → d.plain = true → Dp K H v d.py
  | _, _, .non, _ => .non
  | _, _, .bl b, _ => .bl b
  | _, _, .int i, _ => .int i
  | _, _, .str x, _ => .str x
  | _, _, .lst h r, p => .lst (SqL.of (e _ _ h)) (Rps.dp e r p)
  | _, _, .rol h r, p => .lst (Evl.ex_l e h) (Rps.dp e r p)
  | _, _, .tup h r, p => .tup (Evl.ex_t e h) (Rps.dp e r p)
  | _, _, .dct _ _, p => Bool.noConfusion (p : false = true)
  | _, _, .ins _ _, p => Bool.noConfusion (p : false = true)
  | _, _, .exc0 _, p => Bool.noConfusion (p : false = true)
  | _, _, .exc _ _ _, p => Bool.noConfusion (p : false = true)
  | _, _, .ob _, p => Bool.noConfusion (p : false = true)
  | _, _, .tupF _ _, p => Bool.noConfusion (p : false = true)
  | _, _, .dtp _ _, p => Bool.noConfusion (p : false = true)
theorem Rps.dp (e : Ex F H) : ∀ {v : List V} {d : List D}, Rps K F v d → plainL d = true → DpAll K H v (pyL d)
  | _, _, .nil, _ => .nil
  | _, _, .cons h r, p => by
    rw [plainL, Bool.and_eq_true] at p
    exact .cons (Rp.dp e h p.1) (Rps.dp e r p.2)
end
end
def D.eqOk (d : D) : Bool := d.plain && SeqAt.shaped d.py
section
variable {X : Cx} {B : Hp} {env : List (Option D)} {ow : Ow} {a b c e o i tg it elt : Expr} {es : List Expr} {d d1 d2 d3 : D} {ds l : List D} {pos : Pos} {Dn : Ends} {rest : List Stmt}
theorem co_neD (hu : X.A.units + 64 < cLine) (h1 : d1.eqOk = true) (h2 : d2.eqOk = true) : CmpOk X ow .NotEq b d1 d2 (.bl (!PyData.eqv d1.py d2.py)) := ⟨_, op_neD hu, nomark _, .mk fun F H x y Q w r1 r2 k => by
  unfold D.eqOk at h1 h2
  simp only [Bool.and_eq_true] at h1 h2
  exact ⟨_, _, r1.dp w.ex h1.1, r2.dp w.ex h2.1, h1.2, h2.2, k.here w (.bl _)⟩⟩
def Vp (X : Cx) (e : Option Expr) (env : List (Option D)) (ow : Ow) (v : Option Int) : Prop := ∃ t, PO X e t ∧ ∀ (σ : L2.St) (F H : Hp) (Q : Option Int → Hp → Prop), Sl X.K F σ env → Wo X.K ow F H → (∀ F2 H2, Ex F F2 → Wo X.K ow F2 H2 → Q v H2) → t σ H Q
theorem vp_none : Vp X none env ow none := ⟨_, po_none, fun σ F H Q s w k => k F H (Evl.Ex.refl F) w⟩
theorem vp_some {n : Int} (h : Ve X e env ow (.int n)) : Vp X (some e) env ow (some n) := ⟨_, po_some pe_can, fun σ F H Q s w k => h σ F H _ s w fun F1 H1 v e1 w1 r1 => by
  cases r1
  exact ⟨n, rfl, k F1 H1 e1 w1⟩⟩
def cutD (l : List D) (lo hi : Option Int) : List D := (l.drop (HT.sIx l.length 0 lo)).take (HT.sIx l.length l.length hi - HT.sIx l.length 0 lo)
theorem Rps.cut {K : PySem.W.Frag} {F : Hp} {xs : List V} (r : Rps K F xs l) (lo hi : Option Int) : Rps K F (cutV xs lo hi) (cutD l lo hi) := by
  unfold cutV cutD
  rw [r.length]
  exact (r.drop _).take _
theorem ve_sliceL {lo hi : Option Expr} {vlo vhi : Option Int} {p2 : Pos} (h : Ve X e env ow (.lst l)) (h1 : Vp X lo env ow vlo) (h2 : Vp X hi env ow vhi) : Ve X (.Subscript e (.Slice lo hi none p2) pos) env ow (.lst (cutD l vlo vhi)) := .mk fun σ F H Q s w k => by
  obtain ⟨t1, p1, q1⟩ := h1
  obtain ⟨t2, p2, q2⟩ := h2
  refine wpe (pe_slice sl_list pe_can p1 p2) (h σ F H _ s w fun F1 H1 v e1 w1 r1 => q1 σ F1 H1 _ (s.mono e1) w1 fun F2 H2 e2 w2 => q2 σ F2 H2 _ (s.mono (e1.trans e2)) w2 fun F3 H3 e3 w3 => ?_)
  cases r1 with
  | lst g s1 => exact ⟨_, _, rfl, SqL.of (w3.ex _ _ ((e2.trans e3) _ _ g)), fun p hp => (k.ex ((e1.trans e2).trans e3)).new w3 hp (.lst upd_same (((s1.cut vlo vhi).mono (e2.trans e3)).mono (w3.exnew hp)))⟩
theorem ve_sliceR {lo hi : Option Expr} {vlo vhi : Option Int} {p2 : Pos} (h : Ve X e env ow (.rol l)) (h1 : Vp X lo env ow vlo) (h2 : Vp X hi env ow vhi) : Ve X (.Subscript e (.Slice lo hi none p2) pos) env ow (.lst (cutD l vlo vhi)) := .mk fun σ F H Q s w k => by
  obtain ⟨t1, p1, q1⟩ := h1
  obtain ⟨t2, p2, q2⟩ := h2
  refine wpe (pe_slice sl_list pe_can p1 p2) (h σ F H _ s w fun F1 H1 v e1 w1 r1 => q1 σ F1 H1 _ (s.mono e1) w1 fun F2 H2 e2 w2 => q2 σ F2 H2 _ (s.mono (e1.trans e2)) w2 fun F3 H3 e3 w3 => ?_)
  cases r1 with
  | rol g s1 => exact ⟨_, _, rfl, Evl.ex_l w3.ex (Evl.ex_l (e2.trans e3) g), fun p hp => (k.ex ((e1.trans e2).trans e3)).new w3 hp (.lst upd_same (((s1.cut vlo vhi).mono (e2.trans e3)).mono (w3.exnew hp)))⟩
theorem xo_rol {i : Int} (h : L2.atI l i = some d) : IxOk X ow (.rol l) (.int i) d := ⟨_, ix_list, .mk fun F H x y Q w r1 r2 k => by
  cases r2
  cases r1 with
  | rol h1 s1 =>
    obtain ⟨v, hv, rv⟩ := s1.atI h
    exact ⟨_, _, _, v, rfl, rfl, Evl.ex_l w.ex h1, hv, k.here w rv⟩⟩
theorem fo_lenR : BiOk X ow "len" [.rol l] (.int (l.length : Nat)) := ⟨_, call_len_seq, .mk fun F H xs Q w r k => by
  cases r with
  | cons r1 r2 =>
    cases r2
    cases r1 with
    | rol h1 s1 => exact ⟨_, _, rfl, .inl (Evl.ex_l w.ex h1), by rw [s1.length]; exact k.here w (.int _)⟩⟩
theorem fo_all {bs : List Bool} (hc : X.calm = true) : BiOk X ow "all" [.lst (bs.map D.bl)] (.bl (bs.all id)) := ⟨_, cr_all hc, rc_all⟩
variable {C fI : Addr} {f : Str} {B0 newId initId : String} {bmB : List Value} {fd : FuncData}
end
section
variable {X : Cx} {B : Hp} {env : List (Option D)} {ow : Ow} {a b c e o i tg it elt : Expr} {es : List Expr} {d d1 d2 d3 : D} {ds l : List D} {pos : Pos} {Dn : Ends} {rest : List Stmt}
variable {C fI : Addr} {f : Str} {B0 newId initId : String} {bmB : List Value}
/-- a class, a built-in type as values -/
theorem ve_gobj {x : Str} {C : Addr} (hg : Gl X x) (hm : X.mg x = some (.ref C)) (hx : (x == ("__debug__" : Str)) = false := by decide) : Ve X (.Name x pos) env ow (.ob (.ref C)) := ve_glob (v := .ref C) hg hm rfl (fun _ => .ob _) hx
theorem ve_bty {x : Str} {n : String} (hg : Gl X x) (hm : X.mg x = none) (hv : bootBuiltins x = some (.type n)) (hn : x ≠ "__name__" := by decide) (hx : (x == ("__debug__" : Str)) = false := by decide) : Ve X (.Name x pos) env ow (.ob (.ty n)) := .mk fun σ F H Q s w k => wpe (pe_bltn (v := .ty n) hg hm hv rfl hn hx) (k.here w (.ob _))
end
end Vd
set_option Elab.async false
set_option linter.all false
set_option maxRecDepth 100000
set_option maxHeartbeats 4000000
namespace Vd
open PySem L2
open PySem.Spec PyProof.Rows
section
variable {P : Program} {w : World} {K : PySem.W.Frag} {mg mb : Str → Option Value} {k : Nat} {fa a : Addr} {fd : FuncData} {x : Str} {sp : Sp} {s1 : Shared} {vs : List Value} {ns : List Int}
theorem law_core {H : Hp} (KX : K.In s1.heap) (hns : s1.heap.Ns mainGlobals mg) (hb : s1.heap.Ns builtinsNs mb) (hbb : ∀ x : Str, x ≠ "__name__" → mb x = bootBuiltins x) (hlim : s1.heap.NoLimit) (hg : s1.gens = #[])
    (ha : s1.heap.get? a = some { cls := .type "list", data := .seq vs.toArray }) (hr : Room k callerA) (F : ∀ base : Heap, K.In base → base.Ns mainGlobals mg → FnG gd0 P w K mg base CX0 k fa fd [x] sp) (hbind : ∀ (s : Shared) (u : Value), BindsTo s fd ⟨[u], []⟩ [(x, u)])
    (hsp : sp [.ref a] H (fun v _ => v = .bl true) E0) (hO : Only H) (hok : HOk P w H s1.heap) (hA : ∀ b u, H b = some u → b = a) (hK : ∀ u, H a = some u → K.lookup a = none) :
    codeAny (model P w) callerA (.call (.ref fa) ⟨[.ref a], []⟩) (fun r s' => r = .ok (.ret (.bool true)) ∧ OldK s1.heap s'.heap ∧ s'.os = s1.os ∧ AllBare s'.gens) s1 := by
  -- what is no list of the script's kind is not tracked
  have notDict : ∀ {b : Addr} {o : Obj} {es : Array DictEntry} {ep : Nat}, s1.heap.get? b = some o → o.data = .dict es ep → H b = none := fun {b o es ep} e q => by
    cases z : H b with
    | none => rfl
    | some u =>
      obtain rfl := hA b u z
      rw [ha] at e
      cases e
      cases q
  have keepNs : ∀ {b : Addr} {m : Str → Option Value}, s1.heap.Ns b m → (hidT s1.heap H).Ns b m := fun {b m} h => by
    obtain ⟨o, es, ep, e, q, r⟩ := h
    exact ⟨o, es, ep, hidT_get e (notDict e q), q, r⟩
  have inB : K.In (hidT s1.heap H) := fun b o e => hidT_get (KX b o e) (by
    cases z : H b with
    | none => rfl
    | some u =>
      obtain rfl := hA b u z
      rw [hK u z] at e
      cases e)
  have M : Mod K mg (hidT s1.heap H) := by
    obtain ⟨mc, l1, l2⟩ := hlim
    exact ⟨inB, keepNs hns, ⟨mb, keepNs hb, hbb⟩, ⟨mc, keepNs l1, l2⟩⟩
  have env : Env0 P w K mg (hidT s1.heap H) callerA [] s1 H := by
    refine ⟨rfl, M, fun b o e => of_hidT e, ?_, trivial, fun b z => ?_, hok, .of_eq hg⟩
    · rw [hidT_size]
      exact Nat.le_refl _
    · exact absurd (show b ∈ ([] : List Addr) from z) List.not_mem_nil
  have run := (F _ inB (keepNs hns)).run callerA [] s1 H ⟨[.ref a], []⟩ [.ref a] [.ref a] _ _ rfl hr env (hbind s1 (.ref a)) (.cons rfl .nil) hsp
  refine codeAny_mono run fun r s' h => ?_
  match r, h with
  | .ok (.ret u), h =>
    obtain ⟨v, H', os, bare, un, hok', rv, q⟩ := h
    have q' : v = .bl true := q
    subst q'
    obtain rfl : u = Value.bool true := rv
    refine ⟨rfl, OldK.of_keep fun b o e => ?_, os, bare⟩
    cases z : H b with
    | none => exact un.keep b o e z (fun y => absurd (show b ∈ ([] : List Addr) from y) List.not_mem_nil) List.not_mem_nil
    | some u =>
      rcases hO b with y | ⟨ob, xs, y⟩
      · rw [z] at y
        cases y
      · obtain ⟨e1, _⟩ := hok b _ y
        obtain ⟨e2, _⟩ := hok' b _ (un.frzs b ob _ y)
        rw [e] at e1
        cases e1
        exact e2
  | .error e, h => exact h.elim
theorem law_callG (KX : K.In s1.heap) (hns : s1.heap.Ns mainGlobals mg) (hb : s1.heap.Ns builtinsNs mb) (hbb : ∀ x : Str, x ≠ "__name__" → mb x = bootBuiltins x) (hlim : s1.heap.NoLimit) (hg : s1.gens = #[])
    (ha : s1.heap.get? a = some { cls := .type "list", data := .seq vs.toArray }) (hi : IntsAre vs ns) (hl : ns.length ≤ sizeLine) (hr : Room k callerA) (F : ∀ base : Heap, K.In base → base.Ns mainGlobals mg → FnG gd0 P w K mg base CX0 k fa fd [x] sp) (hbind : ∀ (s : Shared) (u : Value), BindsTo s fd ⟨[u], []⟩ [(x, u)])
    (hsp : ∀ H : Hp, Only H → SqL K H a (ns.map V.int) → sp [.ref a] H (fun v _ => v = .bl true) E0) :
    codeAny (model P w) callerA (.call (.ref fa) ⟨[.ref a], []⟩) (fun r s' => r = .ok (.ret (.bool true)) ∧ OldK s1.heap s'.heap ∧ s'.os = s1.os ∧ AllBare s'.gens) s1 := by
  have rv := vals_ints hi
  have len := hi.length
  cases hk : K.lookup a with
  | some o =>
    have e := KX a o hk
    rw [ha] at e
    cases e
    have hS : SqL K (fun _ => none) a (ns.map V.int) := .inr ⟨_, vs.toArray, _, hk, rfl, rfl, rfl, by rw [List.size_toArray, len]; exact hl, by simpa using rv⟩
    refine law_core (H := fun _ => none) KX hns hb hbb hlim hg ha hr F hbind (hsp _ (fun _ => .inl rfl) hS) (fun _ => .inl rfl) (fun b u z => ?_) (fun b u z => ?_) (fun u z => ?_)
    · exact absurd (show (none : Option HO) = some u from z) (fun y => nomatch y)
    · exact absurd (show (none : Option HO) = some u from z) (fun y => nomatch y)
    · exact absurd (show (none : Option HO) = some u from z) (fun y => nomatch y)
  | none =>
    have at_ : (upd (fun _ => none) a (.frz { cls := .type "list", data := .seq vs.toArray } (.lst (ns.map V.int)))) a = some (.frz { cls := .type "list", data := .seq vs.toArray } (.lst (ns.map V.int))) := upd_same
    have off : ∀ b u, (upd (fun _ => none) a (.frz { cls := .type "list", data := .seq vs.toArray } (.lst (ns.map V.int)))) b = some u → b = a := fun b u z => by
      by_cases y : b = a
      · exact y
      · rw [upd_ne y] at z
        cases z
    have hO : Only (upd (fun _ => none) a (.frz { cls := .type "list", data := .seq vs.toArray } (.lst (ns.map V.int)))) := fun b => by
      by_cases y : b = a
      · subst y
        exact .inr ⟨_, _, at_⟩
      · exact .inl (upd_ne y)
    refine law_core KX hns hb hbb hlim hg ha hr F hbind (hsp _ hO (.inl (.inr ⟨_, at_⟩))) hO (fun b u z => ?_) off (fun u z => hk)
    obtain rfl := off b u z
    rw [at_] at z
    cases z
    exact ⟨ha, by rw [List.length_map]; exact hl, vs, _, rv, ha⟩
end
/-- what a law promises: handed a list of at most 63 integers, it gives True -/
def spLaw (K : PySem.W.Frag) : Sp := fun vs H Q _ => ∃ (F : Hp) (a : Addr) (ns : List Int), vs = [.ref a] ∧ Wo K (fun _ => none) F H ∧ SqL K F a (ns.map V.int) ∧ ns.length ≤ 63 ∧ ∀ H', Q (.bl true) H'
end Vd
set_option Elab.async false
set_option linter.all false
set_option maxRecDepth 100000
set_option maxHeartbeats 4000000
namespace Vd
open PySem L2
open PySem.Spec PyProof.Rows
section
variable {X : Cx} {B : Hp} {env : List (Option D)} {ow : Ow} {a b c e o i tg it elt : Expr} {es : List Expr} {d d1 d2 d3 : D} {ds l m : List D} {pos : Pos} {Dn : Ends} {rest : List Stmt}
/-- a comprehension without a test, its result told item by item -/
theorem ve_lcZ {scope : Scope} {j : Nat} {y : Str} {py : Pos} (res : List D) (hlen : res.length = ds.length) (hc : X.calm = true) (hN : X.N.Nodup) (hi : Vi X (.Name y py) it env ow ds) (ok : BlkOk X.N X.env.scope scope [(y, j)]) (hl : ds.length ≤ 100000)
    (hg : ∀ (s : Shared) (H : Hp) (C : Addr) (cl : List (Str × Addr)) (fp : List Addr), PG (X.blk s H scope (compEnvC scope cl C X.env) fp) (.Name y py) (gName j))
    (he : ∀ (n : Nat) (d r : D) (ow' : Ow), ds[n]? = some d → res[n]? = some r → Sub ow ow' → ∀ (s : Shared) (H : Hp) (C : Addr) (cl : List (Str × Addr)) (fp : List Addr), Ve (X.blk s H scope (compEnvC scope cl C X.env) fp) elt ((env.set j none).set j (some d)) ow' r)
    (hsf : ∀ x, foldedSetIterable it X.env x = pure x := by intro _; rfl) : Ve X (.ListComp elt [⟨.Name y py, it, [], 0⟩] scope pos) env ow (.lst res) := .mk fun σ F H Q s w k0 => by
  obtain ⟨wi, pi, hw⟩ := hi
  refine wpe (pe_lc (own := [(y, j)]) (g := gName j) (tt := tYes) (te := fun σ H Q => ∀ (s : Shared) (H0 : Hp) (C : Addr) (cl : List (Str × Addr)) (fp : List Addr), WpE (X.blk s H0 scope (compEnvC scope cl C X.env) fp) elt σ H Q) hc hN pi ok hg
    (fun s0 H0 C cl fp => pts_nil) (fun s0 H0 C cl fp => ⟨fun pins s σ H Q I h => h s0 H0 C cl fp pins s I⟩) hsf) ?_
  refine hw σ F H _ s w fun J F1 H1 e1 w1 src => ?_
  intro Dl hD
  refine ⟨fun i m H => m = ds.length - i ∧ i ≤ ds.length ∧ ∃ F2 xs, Ex F1 F2 ∧ Wo X.K ow F2 H ∧ F2 Dl = none ∧ ow Dl = none ∧ H Dl = some (.lst xs) ∧ Rps X.K F2 xs (res.take i), ⟨ds.length, by simp, Nat.zero_le _, F1, [], Evl.Ex.refl F1, w1.grow hD, w1.free hD, w1.ofree hD, upd_same, .nil⟩, ?_⟩
  rintro i m H2 ⟨rfl, hi, F2, xs, e2, w2, hF2, hoD, hH2, r2⟩
  by_cases hlt : i < ds.length
  · have hdi : ds[i]? = some ds[i] := by simp [hlt]
    have hlr : i < res.length := by rw [hlen]; exact hlt
    have hri : res[i]? = some res[i] := by simp [hlr]
    have htk : res.take (i + 1) = res.take i ++ [res[i]] := by rw [List.take_add_one, hri]; rfl
    have w2' : Wo X.K (ou ow Dl (.lst (res.take i))) F2 H2 := ⟨w2.ex, fun a o q => by
      by_cases z : a = Dl
      · subst z
        rw [ou_same] at q
        cases q
        exact ⟨hF2, xs, hH2, r2⟩
      · rw [ou_ne z] at q
        exact w2.own a o q⟩
    obtain ⟨stop', go'⟩ := src F2 H2 _ i e2 w2'
    obtain ⟨hgo, hy'⟩ := go' ds[i] hdi
    refine .inr ⟨hgo, fun H3 => ∃ F3 xs, Ex F1 F3 ∧ Wo X.K ow F3 H3 ∧ F3 Dl = none ∧ ow Dl = none ∧ H3 Dl = some (.lst xs) ∧ Rps X.K F3 xs (res.take (i + 1)), fun H3 q => ⟨ds.length - (i + 1), by omega, rfl, hlt, q⟩, fun x H3 hx => ?_⟩
    obtain ⟨F3, e3, w3', r3⟩ := hy' x H3 hx
    have sub : Sub ow (ou ow Dl (.lst (res.take i))) := fun a o q => by
      rw [ou_ne (fun z => by rw [z, hoD] at q; cases q)]
      exact q
    have sl : Sl X.K F3 ((L2.wipe σ [j]).set j (some x)) ((env.set j none).set j (some ds[i])) := (((s.mono (e1.trans (e2.trans e3))).unset j).set r3 j)
    refine ⟨wipe_one, ?_⟩
    unfold tYes
    simp only [if_true]
    intro s1 H01 C1 cl1 fp1
    refine he i ds[i] res[i] _ hdi hri sub s1 H01 C1 cl1 fp1 _ F3 H3 _ sl w3' fun F5 H5 y e5 w5 r5 => ?_
    obtain ⟨n5, ys, h5, s5⟩ := w5.own Dl _ ou_same
    refine ⟨ys, h5, ?_, F5, ys ++ [y], e2.trans (e3.trans e5), ?_, n5, hoD, upd_same, ?_⟩
    · have z := s5.length
      rw [List.length_take] at z
      exact Evl.sz_lt (by omega)
    · exact (w5.setL ou_same (s5.append (.cons r5 .nil))).drop fun a o q => by
        rw [ou_ne (fun z => by rw [z, hoD] at q; cases q)]
        exact sub a o q
    · rw [htk]
      exact s5.append (.cons r5 .nil)
  · have e : i = ds.length := by omega
    subst e
    obtain ⟨stop, _⟩ := src F2 H2 ow ds.length e2 w2
    refine .inl ⟨stop (Nat.le_refl _), ?_⟩
    rw [← hlen, List.take_length] at r2
    exact k0 (upd F2 Dl (.lst xs)) H2 _ ((e1.trans e2).trans (Evl.Ex.new hF2)) (w2.freeze hF2 hH2 hoD) (.lst upd_same (r2.mono (Evl.Ex.new hF2)))
mutual
theorem py_plain : ∀ d : D, d.plain = true → d.py.plain = true
  | .non, _ => rfl
  | .bl _, _ => rfl
  | .int _, _ => rfl
  | .str _, _ => rfl
  | .lst l, h => pyL_plain l h
  | .rol l, h => pyL_plain l h
  | .tup l, h => pyL_plain l h
theorem pyL_plain : ∀ l : List D, plainL l = true → PyData.plainAll (pyL l) = true
  | [], _ => rfl
  | d :: l, h => by
    rw [plainL, Bool.and_eq_true] at h
    show (d.py.plain && PyData.plainAll (pyL l)) = true
    rw [py_plain d h.1, pyL_plain l h.2]
    rfl
end
theorem eqv_self {d : D} (h : d.eqOk = true) : PyData.eqv d.py d.py = true := by
  unfold D.eqOk at h
  rw [Bool.and_eq_true] at h
  exact PySem.SeqAt.eqv_refl_plain _ (py_plain d h.1)
theorem co_neR (hu : X.A.units + 64 < cLine) (h : d.eqOk = true) : CmpOk X ow .NotEq b d d (.bl false) := by
  have z := co_neD (b := b) (ow := ow) hu h h
  rw [eqv_self h] at z
  exact z
theorem bo_to {op : Operator} (h : BinOk X ow op d1 d2 d) (q : d = d3) : BinOk X ow op d1 d2 d3 := q ▸ h
theorem co_to {op : CmpOp} (h : CmpOk X ow op b d1 d2 d) (q : d = d3) : CmpOk X ow op b d1 d2 d3 := q ▸ h
end
section
variable {K : PySem.W.Frag}
def spCup (K : PySem.W.Frag) : Sp := fun vs H Q _ => ∃ (F : Hp) (ow : Ow) (v : V) (ns : List Int) (n : Nat), vs = [v, .int n] ∧ Wo K ow F H ∧ Rp K F v (.rol (ns.map D.int)) ∧ ∀ F' H' q x y, Ex F F' → ow q = none → Wo K (ou ow q (.lst [.int x, .int y])) F' H' → 0 ≤ x → 0 ≤ y → Q (.ref q) H'
variable {X : Cx} {env : List (Option D)} {ow : Ow} {es1 : Expr} {e1 e2 : Expr} {pos pos2 p p2 : Pos} {x1 x2 : Str} {f1 f2 : Addr} {fd1 fd2 : FuncData} {ps1 ps2 : List Str} {k1 k2 : Nat} {ns : List Int} {n : Nat}
/-- right(cup(script, spot)) -/
theorem ve_right {G : List D → Prop} {R : List D → D → Prop} {d : D} (F2 : FnG γ X.prog X.w X.K X.mg X.base CX0 k2 f2 fd2 ps2 (spC X.K G R)) (F1 : FnG γ X.prog X.w X.K X.mg X.base CX0 k1 f1 fd1 ps1 (spCup X.K)) (hgd : γ X.A.guards) (hr1 : Room k1 X.A) (hr2 : Room k2 X.A) (hg1 : Gl X x1) (hg2 : Gl X x2) (hm1 : X.mg x1 = some (.ref f1)) (hm2 : X.mg x2 = some (.ref f2))
    (hk1 : PySem.W.keepIn X.K (.ref f1) = true) (hk2 : PySem.W.keepIn X.K (.ref f2) = true) (hb1 : Binds X.K fd1 ps1 []) (hb2 : Binds X.K fd2 ps2 []) (h1 : Ve X e1 env ow (.rol (ns.map D.int))) (h2 : Ve X e2 env ow (.int n)) (hG : G []) (hR : ∀ d', R [] d' → d' = d)
    (hd1 : (x1 == ("__debug__" : Str)) = false := by decide) (hd2 : (x2 == ("__debug__" : Str)) = false := by decide) (st1 : starEach (e1 :: [e2]) X.env = (false, eval e1 X.env) :: starEach [e2] X.env := by rfl) (st1' : starEach (e2 :: []) X.env = (false, eval e2 X.env) :: starEach [] X.env := by rfl)
    (pl1 : (backTo pos (starEach [e2] X.env)).any (·.1) = false := by rfl) (st2 : starEach (Expr.Call (.Name x1 p) [e1, e2] [] pos :: []) X.env = (false, eval (.Call (.Name x1 p) [e1, e2] [] pos) X.env) :: starEach [] X.env := by rfl) (pl2 : (backTo pos2 (starEach [] X.env)).any (·.1) = false := by rfl) :
    Ve X (.Call (.Name x2 p2) [.Call (.Name x1 p) [e1, e2] [] pos] [] pos2) env ow d := .mk fun σ F H Q s w k => by
  refine wpe (pe_callG F2 hgd hr2 hg2 hm2 hk2 hb2 .nil pass0 (pa_cons (pe_callG F1 hgd hr1 hg1 hm1 hk1 hb1 .nil pass0 (pa_cons pe_can (pa_cons pe_can pa_nil st1') st1) hd1 st1 pl1) pa_nil st2) hd2 st2 pl2) ?_
  refine h1 σ F H _ s w fun Fa Ha v e1 w1 r1 => h2 σ Fa Ha _ (s.mono e1) w1 fun Fb Hb u e2 w2 r2 => ?_
  cases r2
  refine ⟨Fb, ow, v, ns, n, rfl, w2, r1.mono e2, fun Fc Hc q x y e3 hq w3 hx hy => ?_⟩
  refine ⟨Fc, ou ow q (.lst [.int x, .int y]), q, [], [], rfl, w3, ⟨x, y, hx, hy, ou_same⟩, .nil, hG, fun Fd Hd ow2 z d' e4 w4 s4 c4 r4 hd => ?_⟩
  obtain rfl := hR d' hd
  refine k Fd Hd z (((e1.trans e2).trans e3).trans e4) (w4.drop fun b o hb => ?_) r4
  have hbq : b ≠ q := fun y => by
    rw [y, hq] at hb
    cases hb
  exact s4 b o hbq (by rw [ou_ne hbq]; exact hb)
end
end Vd
set_option Elab.async false
set_option linter.all false
set_option maxRecDepth 100000
set_option maxHeartbeats 4000000
namespace Vd
open PySem L2
open PySem.Spec PyProof.Rows
end Vd
set_option Elab.async false
set_option linter.all false
set_option maxRecDepth 100000
set_option maxHeartbeats 4000000
namespace Vd
open PySem L2
open PySem.Spec PyProof.Rows
def D.kind : D → Option String
  | .non => some "NoneType"
  | .bl _ => some "bool"
  | .int _ => some "int"
  | .str _ => some "str"
  | .lst _ => some "list"
  | .rol _ => some "list"
  | .tup _ => some "tuple"
  | .dct _ => some "dict"
  | .ins _ _ => none
  | .exc _ _ => none
  | .ob _ => none
  | .tupF _ => none
  | .dtp _ => none
theorem SqL.ty {K : PySem.W.Frag} {H : Hp} {a : Addr} {xs : List V} (h : SqL K H a xs) : TyX K H (.ref a) (.type "list") := by
  rcases h with (h | ⟨o, h⟩) | ⟨o, vs, n, h, c, _⟩
  · exact .base (.lst h)
  · exact .base (.frz h)
  · exact .kList h c
theorem SqT.ty {K : PySem.W.Frag} {H : Hp} {a : Addr} {xs : List V} (h : SqT K H a xs) : TyX K H (.ref a) (.type "tuple") := by
  rcases h with (h | ⟨o, h⟩) | ⟨o, vs, n, h, c, _⟩
  · exact .base (.tup h)
  · exact .fTuple h
  · exact .kTuple h c
theorem Rp.ty {K : PySem.W.Frag} {F H : Hp} {v : V} {d : D} {t : String} (r : Rp K F v d) (e : Ex F H) (h : d.kind = some t) : TyX K H v (.type t) := by
  cases r with
  | non => cases h; exact .base .non
  | bl b => cases h; exact .base (.bl b)
  | int i => cases h; exact .base (.int i)
  | str x => cases h; exact .base (.str x)
  | lst g _ => cases h; exact .base (.lst (e _ _ g))
  | rol g _ => cases h; exact SqL.ty (Evl.ex_l e g)
  | tup g _ => cases h; exact SqT.ty (Evl.ex_t e g)
  | dct g _ => cases h; exact .base (.dK (e _ _ g))
  | ins _ _ => cases h
  | exc0 _ => cases h
  | exc _ _ _ => cases h
  | ob _ => cases h
  | tupF _ _ => cases h
  | dtp _ _ => cases h
section
variable {X : Cx} {env : List (Option D)} {ow : Ow} {d : D} {t u : String} {b : Bool}
theorem fo_isT (hk : d.kind = some t) (h : kitB t u = some b) : BiOk X ow "isinstance" [d, .ob (.ty u)] (.bl b) := ⟨_, call_isi, .mk fun F H xs Q w r k => by
  cases r with
  | cons r1 r2 =>
    cases r2 with
    | cons r3 r4 =>
      cases r4
      cases r3
      exact ⟨_, .ty u, _, _, b, rfl, .ty u, r1.ty w.ex hk, kit_ty h, k.here w (.bl _)⟩⟩
end
/-- an integer of the document: an int other than True and False -/
def D.isInt : D → Bool
  | .int _ => true
  | _ => false
def D.anInt : D → Bool
  | .int _ => true
  | .bl _ => true
  | _ => false
def D.aBool : D → Bool
  | .bl _ => true
  | _ => false
theorem fo_isInt {X : Cx} {ow : Ow} : ∀ {d : D} (hk : d.kind.isSome = true), BiOk X ow "isinstance" [d, .ob (.ty "int")] (.bl d.anInt)
  | .non , _ => fo_isT (b := false) rfl (by decide +kernel)
  | .bl _, _ => fo_isT (b := true) rfl (by decide +kernel)
  | .int _, _ => fo_isT (b := true) rfl (by decide +kernel)
  | .str _, _ => fo_isT (b := false) rfl (by decide +kernel)
  | .lst _, _ => fo_isT (b := false) rfl (by decide +kernel)
  | .rol _, _ => fo_isT (b := false) rfl (by decide +kernel)
  | .tup _, _ => fo_isT (b := false) rfl (by decide +kernel)
  | .dct _, _ => fo_isT (b := false) rfl (by decide +kernel)
  | .ins _ _, hk => nomatch hk
  | .exc _ _, hk => nomatch hk
  | .ob _, hk => nomatch hk
  | .tupF _, hk => nomatch hk
  | .dtp _, hk => nomatch hk
theorem fo_isBool {X : Cx} {ow : Ow} : ∀ {d : D} (hk : d.kind.isSome = true), BiOk X ow "isinstance" [d, .ob (.ty "bool")] (.bl d.aBool)
  | .non , _ => fo_isT (b := false) rfl (by decide +kernel)
  | .bl _, _ => fo_isT (b := true) rfl (by decide +kernel)
  | .int _, _ => fo_isT (b := false) rfl (by decide +kernel)
  | .str _, _ => fo_isT (b := false) rfl (by decide +kernel)
  | .lst _, _ => fo_isT (b := false) rfl (by decide +kernel)
  | .rol _, _ => fo_isT (b := false) rfl (by decide +kernel)
  | .tup _, _ => fo_isT (b := false) rfl (by decide +kernel)
  | .dct _, _ => fo_isT (b := false) rfl (by decide +kernel)
  | .ins _ _, hk => nomatch hk
  | .exc _ _, hk => nomatch hk
  | .ob _, hk => nomatch hk
  | .tupF _, hk => nomatch hk
  | .dtp _, hk => nomatch hk
theorem fo_isTup {X : Cx} {ow : Ow} {l : List D} : BiOk X ow "isinstance" [.tup l, .ob (.ty "tuple")] (.bl true) := fo_isT rfl (by decide +kernel)
end Vd
set_option Elab.async false
set_option linter.all false
set_option maxRecDepth 100000
set_option maxHeartbeats 4000000
namespace Vd
open PySem L2
open PySem.Spec PyProof.Rows
theorem ve_chain {X : Cx} {env : List (Option D)} {ow : Ow} {a b c : Expr} {op op2 : CmpOp} {d1 d2 d3 d : D} {t : Bool} {pos : Pos} {r r2 : R2} (ho : OpR X (compareOp op) r) (ho2 : OpR X (compareOp op2) r2) (ha : Ve X a env ow d1) (hb : Ve X b env ow d2) (hr : RD X.K ow r d1 d2 (.bl t))
    (hf : t = false → d = .bl false) (hc : t = true → Ve X c env ow d3) (hr2 : t = true → RD X.K ow r2 d2 d3 d) (hm : lastMarks [op, op2] [b, c] = false := by rfl) : Ve X (.Compare a [op, op2] [b, c] pos) env ow d := .mk fun σ F H Q s w k =>
  wpe (pe_chain ho ho2 pe_can pe_can pe_can (hm := hm)) (ha σ F H _ s w fun F1 H1 x e1 w1 r1 => hb σ F1 H1 _ (s.mono e1) w1 fun F2 H2 y e2 w2 r2' => hr F2 H2 x y _ w2 (r1.mono e2) r2' fun F3 H3 z e3 w3 r3 => by
    cases r3
    refine ⟨t, rfl, ?_⟩
    cases t with
    | true =>
      rw [if_pos rfl]
      exact hc rfl σ F3 H3 _ (s.mono (e1.trans (e2.trans e3))) w3 fun F4 H4 u e4 w4 r4 => hr2 rfl F4 H4 y u Q w4 (r2'.mono (e3.trans e4)) r4 (k.ex (e1.trans (e2.trans (e3.trans e4))))
    | false =>
      rw [if_neg Bool.false_ne_true]
      obtain rfl := hf rfl
      exact k.ex (e1.trans (e2.trans e3)) |>.here w3 (.bl false))
theorem ve_between {X : Cx} {env : List (Option D)} {ow : Ow} {a b c : Expr} {lo i hi : Int} {pos : Pos} (ha : Ve X a env ow (.int lo)) (hb : Ve X b env ow (.int i)) (hc : Ve X c env ow (.int hi)) : Ve X (.Compare a [.LtE, .LtE] [b, c] pos) env ow (.bl (decide (lo ≤ i ∧ i ≤ hi))) :=
  ve_chain (t := decide (lo ≤ i)) op_le op_le ha hb rd_le (fun h => by
    have z := of_decide_eq_false h
    rw [decide_eq_false (fun y => z y.1)]) (fun _ => hc) (fun h => by
    have z := of_decide_eq_true h
    have e : decide (lo ≤ i ∧ i ≤ hi) = decide (i ≤ hi) := by simp [z]
    rw [e]
    exact rd_le) (nomark _)
end Vd
set_option Elab.async false
set_option linter.all false
set_option maxRecDepth 100000
set_option maxHeartbeats 4000000
namespace Vd
open PySem L2
open PySem.Spec PyProof.Rows
section
variable {X : Cx} {B : Hp} {env : List (Option D)} {ow : Ow} {a b c e o i : Expr} {es : List Expr} {d d1 d2 d3 : D} {ds l m : List D} {pos : Pos} {Dn : Ends} {rest : List Stmt}
theorem to_tupL : TyOk X ow "tuple" [.lst l] (.tup l) := ⟨_, call_tuple_of, .mk fun F H xs Q w r k => by
  cases r with
  | cons r1 r2 =>
    cases r2
    cases r1 with
    | lst g s1 => exact ⟨_, _, rfl, .inl ⟨SqL.of (w.ex _ _ g), fun p hp => k.new w hp (.tup (SqT.of upd_same) (s1.mono (w.exnew hp)))⟩⟩⟩
end
end Vd
set_option Elab.async false
set_option linter.all false
set_option maxRecDepth 100000
set_option maxHeartbeats 4000000
namespace Vd
open PySem L2
open PySem.Spec PyProof.Rows
end Vd
set_option Elab.async false
set_option linter.all false
set_option maxRecDepth 100000
set_option maxHeartbeats 4000000
namespace Vd
open PySem L2
open PySem.Spec PyProof.Rows
end Vd
set_option Elab.async false
set_option linter.all false
set_option maxRecDepth 100000
set_option maxHeartbeats 4000000
namespace Vd
open PySem L2
open PySem.Spec PyProof.Rows
section
variable {X : Cx} {env : List (Option D)} {ow : Ow} {o e : Expr} {es : List Expr} {d : D} {ds : List D} {pos apos : Pos} {C g p : Addr} {fl : List (Str × D)} {f m : Str} {fd : FuncData} {ps : List Str} {k : Nat} {R : List D → D → Prop}
theorem ve_at (c : Cls X.K C) (n : NoAttr X.K C f) (h : Ve X e env ow (.ins C fl)) (hl : fl.lookup f = some d) (hb : attributeBase e f X.env (eval e X.env) = eval e X.env := by rfl) : Ve X (.Attribute e f pos) env ow d := .mk fun σ F H Q s w k0 => wpe (pe_fld pe_can hb) (h σ F H _ s w fun F1 H1 v e1 w1 r1 => by
  cases r1 with
  | ins g1 r2 =>
    obtain ⟨y, hy, ry⟩ := r2.look hl
    exact ⟨_, _, _, _, y, rfl, w1.ex _ _ g1, c, n, hy, (k0.ex e1).here w1 ry⟩)
/-- a method, called with at least one argument -/
theorem pe_methG {sp : Sp} {te : TE} {ta : TA} {pl : Sem Bool} (he : PE X o te) (c : Cls X.K C) (hm : Meth X.K C m g) (F : FnG γ X.prog X.w X.K X.mg X.base CX0 k g fd ps sp) (hgd : γ X.A.guards) (hr : Room k X.A) (hb : Binds X.K fd ps []) (ha : PA X (e :: es) ta)
    (hst : starEach (e :: es) X.env = (false, eval e X.env) :: starEach es X.env := by rfl) (hpl : (backTo pos (starEach es X.env)).any (·.1) = false := by rfl)
    (ht : eval (.Call (.Attribute o m apos) (e :: es) [] pos) X.env = (do let ov ← eval o X.env; standAt apos.atName; let (fn, first) ← holding [ov] (getMethod ov m pl); callWith pos fn first (backTo pos (starEach (e :: es) X.env)) (backToKw pos (keywordEach [] X.env))) := by rfl) :
    PE X (.Call (.Attribute o m apos) (e :: es) [] pos) (tMeth C m sp [] E0 te ta) := by
  refine ⟨fun pins s σ H Q I h => PySem.W.methodCall_KW (pl := pl) (thn (he.run pins s σ H _ I h) fun u s1 ⟨x, H1, I1, rx, a, dx, fs, ex, ea, l, q⟩ => ?_) ht⟩
  subst ex
  obtain rfl : u = Value.ref a := rx
  refine getmeth_ok I1 ea c hm l (PySem.W.callWith_K (first := [.ref a]) (h₀ := X.base) I.ok.mod.kin hm.kp (thn (ha.run pos pins s1 σ H1 _ I1 q) fun us s2 ⟨vs, H2, I2, r, q2⟩ => ⟨I2.kIn, ?_⟩) hst hpl)
  exact run_fnG (us := .ref a :: us) (vs := .ref a :: vs) F hgd hr hb .nil pass0 I2 (.cons rfl r) q2
/-- o.m(e, ..) of a frozen object that has no field m -/
theorem ve_meth {pl : Sem Bool} (c : Cls X.K C) (hm : Meth X.K C m g) (F : FnG γ X.prog X.w X.K X.mg X.base CX0 k g fd ps (spR X.K R)) (hgd : γ X.A.guards) (hr : Room k X.A) (hb : Binds X.K fd ps []) (ho : Ve X o env ow (.ins C fl)) (hn : fl.lookup m = none) (ha : Va X (e :: es) env ow ds) (hR : R (.ins C fl :: ds) d)
    (hst : starEach (e :: es) X.env = (false, eval e X.env) :: starEach es X.env := by rfl) (hpl : (backTo pos (starEach es X.env)).any (·.1) = false := by rfl)
    (ht : eval (.Call (.Attribute o m apos) (e :: es) [] pos) X.env = (do let ov ← eval o X.env; standAt apos.atName; let (fn, first) ← holding [ov] (getMethod ov m pl); callWith pos fn first (backTo pos (starEach (e :: es) X.env)) (backToKw pos (keywordEach [] X.env))) := by rfl) :
    Ve X (.Call (.Attribute o m apos) (e :: es) [] pos) env ow d := .mk fun σ F0 H Q s w k0 => wpe (pe_methG pe_can c hm F hgd hr hb pa_can hst hpl ht) (ho σ F0 H _ s w fun F1 H1 v e1 w1 r1 => by
  have keep := r1
  cases r1 with
  | @ins a C2 dx fs l g1 r2 =>
    refine ⟨a, dx, fs, rfl, w1.ex _ _ g1, r2.none hn, ha σ F1 H1 _ (s.mono e1) w1 fun F2 H2 vs e2 w2 r3 => ?_⟩
    rw [List.append_nil]
    exact ⟨F2, ow, _, d, w2, .cons (keep.mono e2) r3, hR, k0.ex (e1.trans e2)⟩)
end
end Vd
set_option Elab.async false
set_option linter.all false
set_option maxRecDepth 100000
set_option maxHeartbeats 4000000
namespace Vd
open PySem L2
open PySem.Spec PyProof.Rows
section
variable {X : Cx} {env : List (Option D)} {ow : Ow} {o e : Expr} {d : D} {pos : Pos} {C g p a : Addr} {fl : List (Str × D)} {f : Str} {fd : FuncData} {ps : List Str} {k : Nat} {R : List D → D → Prop}
theorem getpropG {sp : Sp} {dx : Addr} {fs : List (Str × V)} {pins : List (Addr × Obj)} {σ : L2.St} {H : Hp} {s : Shared} {Q : VK} {b : Bool} {E2 : Value → Shared → Prop} (I : Inv X pins σ H s) (ea : H a = some (.ins C dx fs)) (c : Cls X.K C) (hp : PropOf X.K C f p g)
    (F : FnG γ X.prog X.w X.K X.mg X.base CX0 k g fd ps sp) (hgd : γ X.A.guards) (hr : Room (k + 1) X.A) (hb : Binds X.K fd ps []) (h : sp [.ref a] H Q E0) : wpAny (model X.prog X.w) X.A (getAttr (.ref a) f b) (EP X pins σ Q) E2 s := by
  obtain ⟨mA, O, _⟩ := ins_get I.hok ea
  obtain ⟨od, J, _⟩ := O.look
  obtain ⟨more, isP⟩ := hp.rec_
  have J1 := I.tok (s.toks + 1)
  have one : (([Value.ref a] : List Value) ++ []).length = ps.length := by
    rw [← F.len _ _ _ _ h]
    rfl
  have isC : (PySem.W.clsIn X.K C).isSome = true := by
    obtain ⟨cd, z, _⟩ := PySem.W.any_some c.hd
    rw [z]
    rfl
  have pg := PySem.W.plainGet_of (c.get f)
  refine PySem.W.get_bind I.kIn J pg.1 (PySem.W.findObj_data isC hp.at_ hp.get hp.tak) pg.2 (wpAny_call (PySem.W.prop_get (s := { s with toks := s.toks + 1 }) I.kIn isP ?_))
  have bnd := hb { s with toks := s.toks + 1 } [.ref a] J1.kIn one
  rw [List.append_nil] at bnd
  refine codeAny_mono (F.run X.A.in1 X.stack { s with toks := s.toks + 1 } H ⟨[.ref a], []⟩ [.ref a] [.ref a] Q E0 hgd hr.in1 J1.env0.in1 bnd (.cons rfl .nil) h) fun r s' hq => ?_
  match r, hq with
  | .error er, hq => exact False.elim hq
  | .ok (.ret u), hq =>
    obtain ⟨v, H', I3, rv, q3⟩ := J1.after hq
    show wpAny _ _ (handedOut u) _ _ _
    rw [PySem.W.handedOut_of (handed_of rv)]
    exact wpAny_pure ⟨v, H', I3, rv, q3⟩
  | .ok .next, hq => exact False.elim hq
  | .ok .brk, hq => exact False.elim hq
  | .ok .cont, hq => exact False.elim hq
theorem ve_prop (c : Cls X.K C) (hp : PropOf X.K C f p g) (F : FnG γ X.prog X.w X.K X.mg X.base CX0 k g fd ps (spR X.K R)) (hgd : γ X.A.guards) (hr : Room (k + 1) X.A) (hb : Binds X.K fd ps []) (h : Ve X e env ow (.ins C fl)) (hR : R [.ins C fl] d) (hab : attributeBase e f X.env (eval e X.env) = eval e X.env := by rfl) :
    Ve X (.Attribute e f pos) env ow d := .mk fun σ F0 H Q s w k0 => by
  have pe : PE X (.Attribute e f pos) (fun σ H Q => WpE X e σ H fun x H1 => ∃ a dx fs, x = .ref a ∧ H1 a = some (.ins C dx fs) ∧ spR X.K R [.ref a] H1 Q E0) := by
    refine ⟨fun pins s σ H Q I hh => attr_of hab (thn (pe_can.run pins s σ H _ I hh) fun u s1 ⟨x, H1, I1, rx, a, dx, fs, ex, ea, q⟩ => ?_)⟩
    subst ex
    obtain rfl : u = Value.ref a := rx
    exact getpropG I1 ea c hp F hgd hr hb q
  refine wpe pe (h σ F0 H _ s w fun F1 H1 v e1 w1 r1 => ?_)
  have keep := r1
  cases r1 with
  | @ins a C2 dx fs l g1 r2 => exact ⟨a, dx, fs, rfl, w1.ex _ _ g1, F1, ow, _, d, w1, .cons keep .nil, hR, k0.ex e1⟩
end
def putD (f : Str) (v : D) : List (Str × D) → List (Str × D)
  | [] => [(f, v)]
  | (g, x) :: r => if g = f then (g, v) :: r else (g, x) :: putD f v r
theorem Rpf.put {K : PySem.W.Frag} {F : Hp} {f : Str} {y : V} {d : D} (h : Rp K F y d) : ∀ {fs : List (Str × V)} {l : List (Str × D)}, Rpf K F fs l → Rpf K F (putF f y fs) (putD f d l)
  | [], [], .nil => .cons h .nil
  | (g, x) :: fs, (_, z) :: l, .cons r rs => by
    unfold putF putD
    by_cases q : g = f
    · rw [if_pos q, if_pos q]
      exact .cons h rs
    · rw [if_neg q, if_neg q]
      exact .cons r (Rpf.put h rs)
section
variable {X : Cx} {B : Hp} {env : List (Option D)} {ow : Ow} {o e : Expr} {d : D} {pos p2 : Pos} {C q : Addr} {fl : List (Str × D)} {f : Str} {Dn : Ends} {rest : List Stmt}
/-- o.f = e -/
theorem rn_fld (c : Cls X.K C) (n : NoAttr X.K C f) (h : Ve X e env ow d) (ho : Ve X o env ow (.ob (.ref q))) (hq : ow q = some (.ins C fl)) (hl : fl.length < 1000) (k : ∀ B', Ex B B' → Rn X B' rest Dn env (ou ow q (.ins C (putD f d fl))))
    (hs : swapsWith e (some (.Attribute o f p2)) pos.line X.env = pure false := by rfl) : Rn X B (.Assign [.Attribute o f p2] e pos :: rest) Dn env ow :=
  rn_one ⟨_, ps_fld pe_can pe_can hs, fun σ F H eB s w => h σ F H _ s w fun F1 H1 v e1 w1 r1 => ho σ F1 H1 _ (s.mono e1) w1 fun F2 H2 u e2 w2 r2 => by
    cases r2
    obtain ⟨_, dx, fs, hH, rf⟩ := w2.own q _ hq
    exact ⟨q, C, dx, fs, rfl, hH, c, n, by rw [rf.length]; exact hl, k F2 (eB.trans (e1.trans e2)) _ F2 _ (Evl.Ex.refl F2) (s.mono (e1.trans e2)) (w2.setI (fs0 := fs) hq (rf.put (r1.mono e2)))⟩⟩
end
end Vd
set_option Elab.async false
set_option linter.all false
set_option maxRecDepth 100000
set_option maxHeartbeats 4000000
namespace Vd
open PySem L2
open PySem.Spec PyProof.Rows
/-- t looks names up in the dict at D, one behind another, and goes on as r -/
def Asks {α : Type} (D : Addr) : List (Str × Value) → Sem α → Sem α → Prop
  | [], t, r => t = r
  | q :: l, t, r => ∃ (β γ : Type) (k1 : Option Value → Sem β) (k2 : β → Sem γ) (k3 : γ → Sem α) (a : β), t = ((nsGet D q.1 >>= k1) >>= k2) >>= k3 ∧ k1 (some q.2) = pure a ∧ Asks D l (k2 a >>= k3) r
theorem Asks.run {α : Type} {K : PySem.W.Frag} {M : Model} {h : Heap} {D : Addr} (X : K.In h) : ∀ {l : List (Str × Value)} {t r : Sem α}, (∀ q ∈ l, PySem.W.nsIn K D q.1 = some (some q.2)) → Asks D l t r →
    ∀ {A : Around} {Q : α → Shared → Prop} {E : Value → Shared → Prop} {s : Shared}, (∀ b o, h.get? b = some o → s.heap.get? b = some o) → wpAny M A r Q E s → wpAny M A t Q E s
  | [], t, r, _, e => fun _ q => by
    rw [show t = r from e]
    exact q
  | q :: l, t, r, hl, e => fun kp z => by
    obtain ⟨β, γ, k1, k2, k3, a, e1, e2, e3⟩ := e
    have look : PySem.W.Looks M h (nsGet D q.1 >>= k1) a := (PySem.W.looks_nsIn X (hl q (List.mem_cons_self ..))).andThen (PySem.W.Looks.of_pure e2)
    have rest := Asks.run X (fun p hp => hl p (List.mem_cons_of_mem _ hp)) e3 kp z
    rw [e1, bind_assoc]
    exact wpAny_bind (look _ _ _ _ kp rest)
/-- a promise of such an __init__: x the object, vs and zs what is passed by position and by the names ks -/
def InS (γ : Gds) (P : Program) (w : World) (K : PySem.W.Frag) (mg : Str → Option Value) (base : Heap) (k : Nat) (f : Addr) (ks : List Str) (sp : Addr → List V → List V → Hp → VK → Prop) : Prop :=
  ∀ (A : Around) (outer : List Env) (s : Shared) (H : Hp) (us ws : List Value) (vs zs : List V) (x : Addr) (Q : VK), γ A.guards → Room k A → Env0 P w K mg base A outer s H → Vals vs us → Vals zs ws → zs.length = ks.length → sp x vs zs H Q →
    codeAny (model P w) A (.call (.ref f) ⟨.ref x :: us, ks.zip ws⟩) (CR CX0 outer P w H s Q E0) s
/-- told by data: ds by position, kd by name, fl the fields of the object behind it -/
def spI (K : PySem.W.Frag) (C : Addr) (R : List D → List D → List (Str × D) → Prop) : Addr → List V → List V → Hp → VK → Prop := fun x vs zs H Q => ∃ F ow ds kd fl, Wo K (ou ow x (.ins C [])) F H ∧ Rps K F vs ds ∧ Rps K F zs kd ∧ R ds kd fl ∧ ds.length ≤ 100000 ∧ ∀ F2 H2, Ex F F2 → Wo K (ou ow x (.ins C fl)) F2 H2 → Q .non H2
end Vd
set_option Elab.async false
set_option linter.all false
set_option maxRecDepth 100000
set_option maxHeartbeats 4000000
namespace Vd
open PySem L2
open PySem.Spec PyProof.Rows
/-- values of keywords -/
def Vk (X : Cx) (kws : List Keyword) (env : List (Option D)) (ow : Ow) (kd : List D) : Prop := ∃ t, PK X kws t ∧ ∀ (σ : L2.St) (F H : Hp) (Q : List V → Hp → Prop), Sl X.K F σ env → Wo X.K ow F H → PostA X.K ow F kd Q → t σ H Q
section
variable {X : Cx} {env : List (Option D)} {ow : Ow} {e : Expr} {es : List Expr} {kws : List Keyword} {d : D} {ds kd : List D} {pos p kpos : Pos} {nm : Option Str} {C f : Addr} {k : Nat} {ks : List Str} {fl : List (Str × D)} {x : Str} {R : List D → List D → List (Str × D) → Prop}
theorem vk_nil : Vk X [] env ow [] := ⟨_, pk_nil, fun σ F H Q s w k => k F H [] (Evl.Ex.refl F) w .nil⟩
theorem vk_cons (h : Ve X e env ow d) (hs : Vk X kws env ow kd) : Vk X (⟨nm, e, kpos⟩ :: kws) env ow (d :: kd) := by
  obtain ⟨t, pt, q⟩ := hs
  refine ⟨_, pk_cons pe_can pt, fun σ F H Q s w k => h σ F H _ s w fun F1 H1 y e1 w1 r1 => q σ F1 H1 _ (s.mono e1) w1 fun F2 H2 ys e2 w2 r2 => k F2 H2 _ (e1.trans e2) w2 (.cons (r1.mono e2) r2)⟩
theorem run_mkS {pins : List (Addr × Obj)} {σ : L2.St} {H : Hp} {s : Shared} {Q : VK} {us ws : List Value} {vs zs : List V} (M : Mk X.K C f) (Fi : InS γ X.prog X.w X.K X.mg X.base k f ks (spI X.K C R)) (hgd : γ X.A.guards) (hr : Room (k + 1) X.A)
    (I : Inv X pins σ H s) (r : Vals vs us) (rz : Vals zs ws) (hl : zs.length = ks.length)
    (h : ∀ a dx, H a = none → H dx = none → dx ≠ a → spI X.K C R a vs zs (upd (upd H dx (.own a)) a (.ins C dx [])) (fun v H2 => v = .non ∧ Q (.ref a) H2)) :
    wpAny (model X.prog X.w) X.A (call (.ref C) us (ks.zip ws)) (EP X pins σ Q) X.xe s := by
  have hq := h (s.heap.objs.size + 1) s.heap.objs.size (I.hok.fresh (Nat.le_succ _)) (I.hok.fresh (Nat.le_refl _)) (Nat.ne_of_lt (Nat.lt_succ_self _))
  have J := Inv.made (C := C) I
  have run := Fi (X.A.under (.builtin "type.__call__" ⟨.ref C :: us, ks.zip ws⟩)) X.stack _ _ us ws vs zs (s.heap.objs.size + 1) _ (by exact hgd) (hr.make C us (ks.zip ws)) (J.env0.make C us (ks.zip ws)) r rz hl hq
  refine wpAny_call (make_map (f := f) I.kIn M.makes M.init (beq_iff_eq.mp M.fn) (codeAny_mono run fun r s' hq' => ?_))
  match r, hq' with
  | .error e, z => exact z.elim
  | .ok (.ret u), z =>
    obtain ⟨v, H', I3, rv, ev, q3⟩ := J.after z
    subst ev
    exact ⟨rv, ⟨V.ref (s.heap.objs.size + 1), H', I3, rfl, q3⟩⟩
  | .ok .next, z => exact False.elim z
  | .ok .brk, z => exact False.elim z
  | .ok .cont, z => exact False.elim z
/-- what the making comes to -/
theorem made {F2 H2 : Hp} {vs zs : List V} {Q : VK} (w2 : Wo X.K ow F2 H2) (r : Rps X.K F2 vs ds) (rz : Rps X.K F2 zs kd) (hR : R ds kd fl) (hz : ds.length ≤ 100000) (k0 : Post X.K ow F2 (.ins C fl) Q) (a dx : Addr) (ha : H2 a = none) (hd : H2 dx = none) (hne : dx ≠ a) :
    spI X.K C R a vs zs (upd (upd H2 dx (.own a)) a (.ins C dx [])) (fun v H3 => v = .non ∧ Q (.ref a) H3) := by
  have w3 := w2.new (o := .own a) hd
  have e3 := w2.exnew (o := .own a) hd
  have ha3 : upd H2 dx (.own a) a = none := by rw [upd_ne (Ne.symm hne)]; exact ha
  have oa : ow a = none := w2.ofree ha
  have w4 : Wo X.K (ou ow a (.ins C [])) (upd F2 dx (.own a)) (upd (upd H2 dx (.own a)) a (.ins C dx [])) := by
    have y := w3.grow (o := .ins C dx []) ha3
    refine ⟨y.ex, fun b o q => ?_⟩
    by_cases z : b = a
    · subst z
      rw [ou_same] at q
      cases q
      exact ⟨w3.free ha3, dx, [], upd_same, .nil⟩
    · rw [ou_ne z] at q
      exact y.own b o q
  refine ⟨_, ow, ds, kd, fl, w4, r.mono e3, rz.mono e3, hR, hz, fun F4 H4 e4 w5 => ⟨rfl, ?_⟩⟩
  obtain ⟨n, dx2, fs, g, sx⟩ := w5.own a _ ou_same
  have w6 : Wo X.K ow (upd F4 a (.ins C dx2 fs)) H4 := (w5.drop (ow' := ow) fun b o hb => by
    have z : b ≠ a := fun y => by rw [y, oa] at hb; cases hb
    rw [ou_ne z]
    exact hb).freeze n g oa
  have e5 : Ex F4 (upd F4 a (.ins C dx2 fs)) := Evl.Ex.new n
  exact k0 _ H4 _ (e3.trans (e4.trans e5)) w6 (.ins upd_same (sx.mono e5))
/-- C(e, .., k = v, ..) -/
theorem ve_mk (M : Mk X.K C f) (Fi : InS γ X.prog X.w X.K X.mg X.base k f ks (spI X.K C R)) (hgd : γ X.A.guards) (hr : Room (k + 1) X.A) (hg : Gl X x) (hm : X.mg x = some (.ref C)) (ha : Va X (e :: es) env ow ds) (hk : Vk X kws env ow kd) (hkl : kd.length = ks.length) (hz : ds.length ≤ 100000) (hR : R ds kd fl)
    (hall : (backToKw pos (keywordEach kws X.env)).all (·.1.isSome) = true := by rfl) (hks : (backToKw pos (keywordEach kws X.env)).filterMap (·.1) = ks := by rfl) (hdb : (x == ("__debug__" : Str)) = false := by decide)
    (he : starEach (e :: es) X.env = (false, eval e X.env) :: starEach es X.env := by rfl) (hpl : ((backTo pos (starEach (e :: es) X.env)).any (·.1) || (backToKw pos (keywordEach kws X.env)).any (·.1.isNone)) = false := by rfl) : Ve X (.Call (.Name x p) (e :: es) kws pos) env ow (.ins C fl) := .mk fun σ F H Q s w k0 => by
  obtain ⟨tk, pk, q⟩ := hk
  have pe : PE X (.Call (.Name x p) (e :: es) kws pos) (fun σ H Q => WpA X (e :: es) σ H fun vs H1 => tk σ H1 fun zs H2 => zs.length = ks.length ∧ ∀ a dx, H2 a = none → H2 dx = none → dx ≠ a → spI X.K C R a vs zs (upd (upd H2 dx (.own a)) a (.ins C dx [])) (fun v H3 => v = .non ∧ Q (.ref a) H3)) := by
    refine ⟨fun pins s σ H Q I h => wpAny_Call_Name_kw (ld_glob I hg hm (PySem.W.callWith_KW (h₀ := X.base) I.ok.mod.kin M.kp hall (thn (pa_can.run pos pins s σ H _ I h) fun us s1 ⟨vs, H1, I1, r, q1⟩ => ?_) hpl he) hdb)⟩
    refine thn (pk.run pos pins s1 σ H1 _ I1 q1) fun ws s2 ⟨zs, H2, I2, rz, l2, q2⟩ => ⟨I2.kIn, ?_⟩
    rw [hks]
    exact run_mkS M Fi hgd hr I2 r rz l2 q2
  refine wpe pe (ha σ F H _ s w fun F1 H1 vs e1 w1 r1 => q σ F1 H1 _ (s.mono e1) w1 fun F2 H2 zs e2 w2 rz => ⟨by rw [rz.length]; exact hkl, fun a dx ha2 hd hne => made w2 (r1.mono e2) rz hR hz (k0.ex (e1.trans e2)) a dx ha2 hd hne⟩)
end
end Vd
set_option Elab.async false
set_option linter.all false
set_option maxRecDepth 100000
set_option maxHeartbeats 4000000
namespace Vd
open PySem L2
open PySem.Spec PyProof.Rows
section
variable {X : Cx} {B : Hp} {env : List (Option D)} {ow : Ow} {a b tg : Expr} {es : List Expr} {d2 : D} {ds : List D} {pos : Pos} {Dn : Ends} {rest : List Stmt}
/-- for i in range(e), e a draw -/
theorem rn_forRM {g : TG} {f : D → List (Option D) → List (Option D)} {body : List Stmt} {p cp : Pos} {P : D → Ow → Prop} (I : Nat → Nat → List (Option D) → Ow → Prop) (hp : PassesOwn (model X.prog X.w) X.A X.env X.xe) (hc : X.calm = true) (hgR : Gl X "range") (hmR : X.mg "range" = none) (hi : Vm X a env ow P) (hP : ∀ d ow2, P d ow2 → ∃ n : Nat, d = .int (n : Int) ∧ n ≤ 100000 ∧ I n 0 env ow2)
    (hg : PG X tg g) (hgd : ∀ ow d, Gd X.K ow g d (f d)) (hs : ∀ n B' i env' ow', Ex B B' → i < n → I n i env' ow' → Rn X B' body (Turn X B' rest Dn (I n (i + 1))) (f (.int (i : Nat)) env') ow') (hd : ∀ n B' env' ow', Ex B B' → I n n env' ow' → Rn X B' rest Dn env' ow')
    (hst : starEach [a] X.env = [(false, eval a X.env)] := by rfl) (hfs : ∀ x, foldedSetIterable (.Call (.Name "range" p) [a] [] cp) X.env x = pure x := by intro _; rfl) : Rn X B (.For tg (.Call (.Name "range" p) [a] [] cp) body [] pos :: rest) Dn env ow := rn_one (by
  refine ⟨_, ps_for hp hc (pi_range1 hgR hmR (pa_cons pe_can pa_nil hst) hst) hg pss_can hfs, fun σ F H eB s w => hi σ F H _ s w fun F1 H1 v d ow2 e1 w1 r1 hPd => ?_⟩
  obtain ⟨n, rfl, hn, h0⟩ := hP d ow2 hPd
  cases r1
  have src : Src X.K (Itr 0 (n : Int).toNat) F1 (rangeD 0 (n : Int).toNat) := src_range
  rw [Int.toNat_natCast] at src
  refine ⟨(n : Int), rfl, by omega, by omega, ?_⟩
  rw [Int.toNat_natCast]
  refine ⟨fun i m σ H => m = n - i ∧ i ≤ n ∧ Nx X.K F1 (I n i) σ H, ⟨n, by simp, Nat.zero_le _, F1, env, ow2, Evl.Ex.refl F1, s.mono e1, w1, h0⟩, ?_⟩
  rintro i m σ' H' ⟨rfl, hi2, F', env', ow', eF, s', w', hI⟩
  obtain ⟨stop, go⟩ := src F' H' ow' i eF w'
  have len : (rangeD 0 n).length = n := rangeD_len 0 n
  by_cases hlt : i < n
  · have hdi : (rangeD 0 n)[i]? = some (.int (i : Nat)) := by simp [rangeD, hlt]
    obtain ⟨hgo, hy⟩ := go (.int (i : Nat)) hdi
    refine .inr ⟨hgo, Nx X.K F1 (I n (i + 1)), fun σ2 H2 q => ⟨n - (i + 1), by omega, rfl, hlt, q⟩, fun x H2 hx => ?_⟩
    obtain ⟨F2, e2, w2, r2⟩ := hy x H2 hx
    refine hgd ow' _ env' σ' F2 H2 x _ (s'.mono e2) w2 r2 fun σ2 s2 => ?_
    exact hs n F1 i env' ow' (eB.trans e1) hlt hI σ2 F2 H2 (eF.trans e2) s2 w2
  · have e : i = n := by omega
    subst e
    exact .inl ⟨stop (by rw [len]; exact Nat.le_refl _), hd i F1 env' ow' (eB.trans e1) hI σ' F' H' eF s' w'⟩)
end
end Vd
set_option Elab.async false
set_option linter.all false
set_option maxRecDepth 100000
set_option maxHeartbeats 4000000
namespace Vd
open PySem L2
open PySem.Spec PyProof.Rows
end Vd
set_option Elab.async false
set_option linter.all false
set_option maxRecDepth 100000
set_option maxHeartbeats 4000000
namespace Vd
open PySem L2
open PySem.Spec PyProof.Rows
end Vd
set_option Elab.async false
set_option linter.all false
set_option maxRecDepth 100000
set_option maxHeartbeats 4000000
namespace Vd
open PySem L2
open PySem.Spec PyProof.Rows
section
variable {X : Cx} {env : List (Option D)} {ow : Ow} {e v1 v2 : Expr} {es rest : List Expr} {d : D} {pos p : Pos} {y : Str} {ys : List Str}
theorem Rps.strs {K : PySem.W.Frag} {F : Hp} : ∀ l : List Str, Rps K F (l.map V.str) (l.map D.str)
  | [] => .nil
  | x :: l => .cons (.str x) (Rps.strs l)
/-- sep.join([..]) -/
theorem ve_join {o : Expr} {ap : Pos} {sep : Str} {l : List Str} (ho : Ve X o env ow (.str sep)) (h : Ve X e env ow (.lst (l.map D.str))) (hz : (l.map (·.length)).sum + l.length * sep.length ≤ 16777216) (hs : starEach [e] X.env = [(false, eval e X.env)] := by rfl) (hbase : attributeBase o "join" X.env (eval o X.env) = eval o X.env := by rfl) (hline : (ap.endLine == pos.line) = true := by rfl) : Ve X (.Call (.Attribute o "join" ap) [e] [] pos) env ow (.str (Txt.join sep l)) := .mk fun σ F H Q s w k0 => wpe (pe_join pe_can pe_can (hs := hs) (hbase := hbase) (hline := hline)) (ho σ F H _ s w fun F1 H1 x e1 w1 r1 => by
  cases r1
  refine ⟨⟨sep, rfl⟩, h σ F1 H1 _ (s.mono e1) w1 fun F2 H2 y e2 w2 r2 => ?_⟩
  cases r2 with
  | lst g r3 =>
    have z := r3.strsV
    subst z
    exact ⟨sep, _, l, rfl, rfl, .inl (SqL.of (w2.ex _ _ g)), hz, (k0.ex (e1.trans e2)).here w2 (.str _)⟩)
theorem to_strI {i : Int} (h : i.natAbs.log2 < 1920) : TyOk X ow "str" [.int i] (.str (toString i)) := ⟨_, call_str_int, .mk fun F H xs Q w r k => by
  cases r with
  | cons r1 r2 =>
    cases r2
    cases r1
    exact ⟨i, rfl, h, k.here w (.str _)⟩⟩
end
end Vd
set_option Elab.async false
set_option linter.all false
set_option maxRecDepth 100000
set_option maxHeartbeats 4000000
namespace Vd
open PySem L2
open PySem.Spec PyProof.Rows
end Vd
set_option Elab.async false
set_option linter.all false
set_option maxRecDepth 100000
set_option maxHeartbeats 4000000
namespace Vd
open PySem L2
open PySem.Spec PyProof.Rows
end Vd
set_option Elab.async false
set_option linter.all false
set_option maxRecDepth 100000
set_option maxHeartbeats 4000000
namespace Vd
open PySem L2
open PySem.Spec PyProof.Rows
end Vd
set_option Elab.async false
set_option linter.all false
set_option maxRecDepth 100000
set_option maxHeartbeats 4000000
namespace Vd
open PySem L2
open PySem.Spec PyProof.Rows GenW
end Vd
set_option Elab.async false
set_option linter.all false
set_option maxRecDepth 100000
set_option maxHeartbeats 4000000
namespace Vd
open PySem L2
open PySem.Spec PyProof.Rows GenW
end Vd
set_option Elab.async false
set_option linter.all false
set_option maxRecDepth 100000
set_option maxHeartbeats 4000000
namespace Vd
open PySem L2
open PySem.Spec PyProof.Rows
end Vd
set_option Elab.async false
set_option linter.all false
set_option maxRecDepth 100000
set_option maxHeartbeats 4000000
namespace Vd
open PySem L2
open PySem.Spec PyProof.Rows
theorem rps_range {K : PySem.W.Frag} {F : Hp} (lo : Int) : ∀ l : List Nat, Rps K F (l.map fun i => V.int (lo + (i : Nat))) (l.map fun i => D.int (lo + (i : Nat)))
  | [] => .nil
  | _ :: l => .cons (.int _) (rps_range lo l)
section
variable {X : Cx} {env : List (Option D)} {ow : Ow} {a b : Expr} {p p2 pos pos2 : Pos}
theorem ve_listR {n : Nat} (hc : X.calm = true) (hg : Gl X "list") (hm : X.mg "list" = none) (hgR : Gl X "range") (hmR : X.mg "range" = none) (h : Ve X a env ow (.int (n : Nat))) (hn : n ≤ 100000)
    (na : starEach [a] X.env = (false, eval a X.env) :: starEach [] X.env := by rfl) (ne : starEach [.Call (.Name "range" p2) [a] [] pos2] X.env = (false, eval (.Call (.Name "range" p2) [a] [] pos2) X.env) :: starEach [] X.env := by rfl) :
    Ve X (.Call (.Name "list" p) [.Call (.Name "range" p2) [a] [] pos2] [] pos) env ow (.lst (rangeD 0 n)) := .mk fun σ F H Q s w k0 => wpe (pe_listRg hc hg hm (prg_1 hgR hmR pe_can na) ne) (h σ F H _ s w fun F1 H1 v e1 w1 r1 => by
  cases r1
  refine ⟨(n : Int), rfl, RgOk.of_le (by omega) (by omega) (by omega) (by omega), fun q hq => (k0.ex e1).new w1 hq (.lst upd_same ?_)⟩
  have z : ((n : Int) - 0).toNat = n := by omega
  unfold rgV rangeD
  rw [z]
  exact rps_range 0 _)
end
end Vd
set_option Elab.async false
set_option linter.all false
set_option maxRecDepth 100000
set_option maxHeartbeats 4000000
namespace Vd
open PySem L2
open PySem.Spec PyProof.Rows
end Vd
set_option Elab.async false
set_option linter.all false
set_option maxRecDepth 100000
set_option maxHeartbeats 4000000
namespace Vd
open PySem L2
open PySem.Spec PyProof.Rows
end Vd
set_option Elab.async false
set_option linter.all false
set_option maxRecDepth 100000
set_option maxHeartbeats 4000000
namespace Vd
open PySem L2
open PySem.Spec PyProof.Rows
end Vd
set_option Elab.async false
set_option linter.all false
set_option maxRecDepth 100000
set_option maxHeartbeats 4000000
namespace Vd
open PySem L2
open PySem.Spec PyProof.Rows
end Vd
set_option Elab.async false
set_option linter.all false
set_option maxRecDepth 100000
set_option maxHeartbeats 4000000
namespace Vd
open PySem L2
open PySem.Spec PyProof.Rows
section
variable {K : PySem.W.Frag} {F : Hp}
def valD (l : List (Key × D)) (k : Key) : Option D := (l.find? fun kv => decide (kv.1 = k)).map (·.2)
theorem Rpk.len : ∀ {v : List (Key × V)} {d : List (Key × D)}, Rpk K F v d → v.length = d.length
  | [], [], .nil => rfl
  | _ :: _, _ :: _, .cons _ rs => by simp [Rpk.len rs]
theorem Rpk.keys : ∀ {v : List (Key × V)} {d : List (Key × D)}, Rpk K F v d → v.map (·.1) = d.map (·.1)
  | [], [], .nil => rfl
  | _ :: _, _ :: _, .cons _ rs => by simp [Rpk.keys rs]
theorem Rpk.val : ∀ {v : List (Key × V)} {d : List (Key × D)} (k : Key), Rpk K F v d → (valV v k = none ∧ valD d k = none) ∨ ∃ x y, valV v k = some x ∧ valD d k = some y ∧ Rp K F x y
  | [], [], _, .nil => .inl ⟨rfl, rfl⟩
  | (k1, x) :: v, (_, y) :: d, k, .cons r rs => by
    by_cases h : k1 = k
    · refine .inr ⟨x, y, ?_, ?_, r⟩ <;> simp [valV, valD, h]
    · rcases Rpk.val k rs with ⟨a, b⟩ | ⟨x2, y2, a, b, c⟩
      · refine .inl ⟨?_, ?_⟩
        · unfold valV at a ⊢
          rw [List.find?_cons_of_neg (by simp [h])]
          exact a
        · unfold valD at b ⊢
          rw [List.find?_cons_of_neg (by simp [h])]
          exact b
      · refine .inr ⟨x2, y2, ?_, ?_, c⟩
        · unfold valV at a ⊢
          rw [List.find?_cons_of_neg (by simp [h])]
          exact a
        · unfold valD at b ⊢
          rw [List.find?_cons_of_neg (by simp [h])]
          exact b
end
end Vd
set_option Elab.async false
set_option linter.all false
set_option maxRecDepth 100000
set_option maxHeartbeats 4000000
namespace Vd
open PySem L2
open PySem.Spec PyProof.Rows
end Vd
set_option Elab.async false
set_option linter.all false
set_option maxRecDepth 100000
set_option maxHeartbeats 4000000
namespace Vd
open PySem L2
open PySem.Spec PyProof.Rows
end Vd
set_option Elab.async false
set_option linter.all false
set_option maxRecDepth 100000
set_option maxHeartbeats 4000000
namespace Vd
open PySem L2
open PySem.Spec PyProof.Rows
theorem Rps.perm {K : PySem.W.Frag} {F : Hp} {xs ys : List V} (h : ys.Perm xs) : ∀ {ds : List D}, Rps K F xs ds → ∃ ds', ds'.Perm ds ∧ Rps K F ys ds' := by
  induction h with
  | nil =>
    intro ds r
    exact ⟨ds, List.Perm.refl _, r⟩
  | cons x _ ih =>
    intro ds r
    cases r with
    | cons r1 r2 =>
      obtain ⟨ds', p, q⟩ := ih r2
      exact ⟨_ :: ds', p.cons _, .cons r1 q⟩
  | swap x y l =>
    intro ds r
    cases r with
    | cons r1 r2 =>
      cases r2 with
      | cons r3 r4 => exact ⟨_, List.Perm.swap _ _ _, .cons r3 (.cons r1 r4)⟩
  | trans _ _ ih1 ih2 =>
    intro ds r
    obtain ⟨d1, p1, q1⟩ := ih2 r
    obtain ⟨d2, p2, q2⟩ := ih1 q1
    exact ⟨d2, p2.trans p1, q2⟩
end Vd
set_option Elab.async false
set_option linter.all false
set_option maxRecDepth 100000
set_option maxHeartbeats 4000000
namespace Vd
open PySem L2
open PySem.Spec PyProof.Rows
end Vd
set_option Elab.async false
set_option linter.all false
set_option maxRecDepth 100000
set_option maxHeartbeats 4000000
namespace Vd
open PySem L2
open PySem.Spec PyProof.Rows
end Vd
set_option Elab.async false
set_option linter.all false
set_option maxRecDepth 100000
set_option maxHeartbeats 4000000
namespace Vd
open PySem L2
open PySem.Spec PyProof.Rows
end Vd
set_option Elab.async false
set_option linter.all false
set_option maxRecDepth 100000
set_option maxHeartbeats 4000000
namespace Vd
open PySem L2
open PySem.Spec PyProof.Rows
section
variable {X : Cx} {ow : Ow} {k : Nat} {C f : Addr} {fd : FuncData} {ps : List Str} {R : List D → D → Prop}
/-- the items' texts -/
inductive Its (C : Addr) (R : List D → D → Prop) : List D → List Str → Prop
  | nil : Its C R [] []
  | cons {fl : List (Str × D)} {t : Str} {ds : List D} {ts : List Str} : R [.ins C fl] (.str t) → Its C R ds ts → Its C R (.ins C fl :: ds) (t :: ts)
theorem Its.len : ∀ {ds : List D} {ts : List Str}, Its C R ds ts → ts.length = ds.length
  | _, _, .nil => rfl
  | _, _, .cons _ r => by rw [List.length_cons, List.length_cons, r.len]
theorem Its.at_ : ∀ {ds : List D} {ts : List Str} {i : Nat} {d : D}, Its C R ds ts → ds[i]? = some d → ∃ fl t, d = .ins C fl ∧ ts[i]? = some t ∧ R [.ins C fl] (.str t)
  | _, _, _, _, .nil, h => by simp at h
  | _, _, 0, _, .cons h _, e => by
    simp at e
    subst e
    exact ⟨_, _, rfl, rfl, h⟩
  | _, _, i + 1, _, .cons _ r, e => by
    simp only [List.getElem?_cons_succ] at e ⊢
    exact r.at_ e
end
end Vd
set_option Elab.async false
set_option linter.all false
set_option maxRecDepth 100000
set_option maxHeartbeats 4000000
namespace Vd
open PySem L2
open PySem.Spec PyProof.Rows
open PySem.Sem (wp)
open PySem.Builtin PySem.Builtin.List
end Vd
set_option Elab.async false
set_option linter.all false
set_option maxRecDepth 100000
set_option maxHeartbeats 4000000
namespace Vd
open PySem L2
open PySem.Spec PyProof.Rows
/-- the text of these codes -/
def tx (l : List Nat) : Str := ⟨l.toArray⟩
theorem tx_cps (l : List Nat) : (tx l).cps.toList = l := by simp [tx]
theorem tx_len (l : List Nat) : (tx l).length = l.length := by show (tx l).cps.size = _; simp [tx]
theorem tx_inj {l m : List Nat} : tx l = tx m ↔ l = m := ⟨fun h => by rw [← tx_cps l, h, tx_cps], fun h => h ▸ rfl⟩
theorem tx_app (l m : List Nat) : tx l ++ tx m = tx (l ++ m) := by
  show (⟨l.toArray ++ m.toArray⟩ : Str) = ⟨(l ++ m).toArray⟩
  simp
theorem tx_of (z : Str) : tx z.cps.toList = z := by simp [tx]
section
variable {X : Cx} {B : Hp} {env : List (Option D)} {ow : Ow} {o e a b tg it : Expr} {d : D} {pos p ap : Pos}
/-- s.split(t) -/
theorem ve_split {x y : Str} (ho : Ve X o env ow (.str x)) (h : Ve X e env ow (.str y)) (hb : (y.length == 0) = false) (hz : x.length ≤ 90000)
    (hs : starEach [e] X.env = [(false, eval e X.env)] := by rfl) (hbase : attributeBase o "split" X.env (eval o X.env) = eval o X.env := by rfl) (hline : (ap.endLine == pos.line) = true := by rfl) :
    Ve X (.Call (.Attribute o "split" ap) [e] [] pos) env ow (.lst ((Txt.split x y).map D.str)) := .mk fun σ F H Q s w k => wpe (pe_split pe_can pe_can hs hbase hline) (ho σ F H _ s w fun F1 H1 v e1 w1 r1 => by
  cases r1
  refine ⟨⟨x, rfl⟩, h σ F1 H1 _ (s.mono e1) w1 fun F2 H2 u e2 w2 r2 => ?_⟩
  cases r2
  exact ⟨x, y, rfl, rfl, hb, Evl.sz_of (by omega), fun q hq => (k.ex (e1.trans e2)).new w2 hq (.lst upd_same (Rps.strs _))⟩)
/-- s.index(t), t in s -/
theorem ve_sindex {x y : Str} {i : Nat} {rest : List Nat} (ho : Ve X o env ow (.str x)) (h : Ve X e env ow (.str y)) (hi : Builtin.Str.occurrences x y 0 x.length 1 = i :: rest)
    (hs : starEach [e] X.env = [(false, eval e X.env)] := by rfl) (hbase : attributeBase o "index" X.env (eval o X.env) = eval o X.env := by rfl) (hline : (ap.endLine == pos.line) = true := by rfl) :
    Ve X (.Call (.Attribute o "index" ap) [e] [] pos) env ow (.int (i : Nat)) := .mk fun σ F H Q s w k => wpe (pe_m1 PySem.F.slot_str_index PySem.F.type_str_index mt_sindex pe_can pe_can hs hbase hline) (ho σ F H _ s w fun F1 H1 v e1 w1 r1 => by
  cases r1
  refine ⟨⟨x, rfl⟩, h σ F1 H1 _ (s.mono e1) w1 fun F2 H2 u e2 w2 r2 => ?_⟩
  cases r2
  exact ⟨x, y, i, rest, rfl, rfl, hi, (k.ex (e1.trans e2)).here w2 (.int _)⟩)
theorem bo_catS {x y : Str} (h : x.length + y.length ≤ 100000) : BinOk X ow .Add (.str x) (.str y) (.str (x ++ y)) := ⟨_, op_add_str, .mk fun F H v u Q w r1 r2 k => by
  cases r1
  cases r2
  exact ⟨x, y, rfl, rfl, Evl.sz_of h, k.here w (.str _)⟩⟩
theorem bo_catX {l m : List Nat} (h : l.length + m.length ≤ 100000) : BinOk X ow .Add (.str (tx l)) (.str (tx m)) (.str (tx (l ++ m))) := bo_to (bo_catS (by rw [tx_len, tx_len]; exact h)) (by rw [tx_app])
/-- s * n -/
theorem op_mulS : OpR X (binaryOp .Mult) (fun x y H Q => ∃ z n, x = .str z ∧ y = .int n ∧ PySem.MulOk z n ∧ Q (.str (Txt.mul z n)) H) := by
  intro pins s σ H x y v u Q I rx ry h
  obtain ⟨z, n, rfl, rfl, hm, q⟩ := h
  obtain ⟨t, rfl⟩ := rx
  obtain ⟨t2, rfl⟩ := ry
  exact PySem.SB.mul hm fun t' k => ⟨.str _, H, I.tok k, ⟨t', rfl⟩, q⟩
theorem foldl_app (a : Array Nat) : ∀ (n : Nat) (acc : Array Nat), ((List.replicate n a).foldl (· ++ ·) acc).toList = acc.toList ++ (List.replicate n a.toList).flatten
  | 0, acc => by simp
  | n + 1, acc => by
    rw [List.replicate_succ, List.foldl_cons, foldl_app a n, List.replicate_succ, List.flatten_cons, Array.toList_append, List.append_assoc]
theorem mul_tx (l : List Nat) (n : Nat) : Txt.mul (tx l) (n : Int) = tx (List.replicate n l).flatten := by
  unfold Txt.mul
  by_cases h0 : (n : Int) < 1
  · rw [if_pos h0]
    obtain rfl : n = 0 := by omega
    rfl
  · rw [if_neg h0]
    by_cases h1 : ((n : Int) == 1 || (tx l).length == 0) = true
    · rw [if_pos h1, tx_inj]
      rcases (Bool.or_eq_true _ _).mp h1 with h | h
      · obtain rfl : n = 1 := by have := eq_of_beq h; omega
        simp
      · have z := eq_of_beq h
        rw [tx_len] at z
        rw [List.eq_nil_of_length_eq_zero z]
        clear h0 h1 h z
        induction n with
        | zero => rfl
        | succ n ih => rw [List.replicate_succ, List.flatten_cons, ← ih]; rfl
    · rw [if_neg h1, Int.toNat_natCast]
      have z := foldl_app (tx l).cps n #[]
      rw [tx_cps] at z
      rw [← tx_of ⟨(List.replicate n (tx l).cps).foldl (· ++ ·) #[]⟩]
      show tx ((List.replicate n (tx l).cps).foldl (· ++ ·) #[]).toList = _
      rw [z]
      simp
theorem mulOk {l : List Nat} {n : Nat} (h : l.length * n ≤ 100000) (hn : n ≤ 100000) : PySem.MulOk (tx l) (n : Int) := by
  refine ⟨by simp; omega, fun _ _ => ?_, fun _ _ => ?_⟩
  · rw [tx_len]
    by_cases z : n = 0
    · subst z
      rename_i h1 _
      exact absurd (by decide : ((0 : Nat) : Int) < 1) h1
    · have y : (l.length : Int) ≤ 100000 := by
        have : l.length ≤ l.length * n := Nat.le_mul_of_pos_right _ (by omega)
        omega
      have x : (100000 : Int) ≤ (2 ^ 63 - 1) / (n : Int) := by
        apply (Int.le_ediv_iff_mul_le (by omega)).mpr
        omega
      omega
  · rw [tx_len, Int.toNat_natCast]
    unfold PySem.Builtin.Str.tooLong
    have z := Evl.sz_of h
    simp only [decide_eq_false_iff_not, gt_iff_lt, Nat.not_lt]
    exact z
theorem bo_mulX {l : List Nat} {n : Nat} (h : l.length * n ≤ 100000) (hn : n ≤ 100000) : BinOk X ow .Mult (.str (tx l)) (.int (n : Nat)) (.str (tx (List.replicate n l).flatten)) := ⟨_, op_mulS, .mk fun F H v u Q w r1 r2 k => by
  cases r1
  cases r2
  exact ⟨tx l, n, rfl, rfl, mulOk h hn, by rw [mul_tx]; exact k.here w (.str _)⟩⟩
/-- c in s, c a single sign -/
theorem co_inC {c : Nat} {z : Str} (hm : behindInMarks .In b = false) : CmpOk X ow .In b (.str (tx [c])) (.str z) (.bl (decide (c ∈ z.cps.toList))) := ⟨_, op_in_sign, hm, .mk fun F H v u Q w r1 r2 k => by
  cases r1
  cases r2
  exact ⟨c, z, rfl, rfl, k.here w (.bl _)⟩⟩
/-- int(s) -/
theorem to_intS {z : Str} {n : Int} (h : PySem.intText? z = some n) (hz : z.length ≤ 640) : TyOk X ow "int" [.str z] (.int n) := ⟨_, call_int_str, .mk fun F H xs Q w r k => by
  cases r with
  | cons r1 r2 =>
    cases r2
    cases r1
    exact ⟨z, n, rfl, h, hz, k.here w (.int _)⟩⟩
theorem fo_lenS {z : Str} (hz : z.length ≤ 100000) : BiOk X ow "len" [.str z] (.int (z.length : Nat)) := ⟨_, call_len_str, .mk fun F H xs Q w r k => by
  cases r with
  | cons r1 r2 =>
    cases r2
    cases r1
    exact ⟨z, rfl, Evl.sz_of hz, k.here w (.int _)⟩⟩
/-- s[lo:hi] -/
theorem ve_sliceS {lo hi : Option Expr} {vlo vhi : Option Int} {p2 : Pos} {z : Str} (h : Ve X e env ow (.str z)) (h1 : Vp X lo env ow vlo) (h2 : Vp X hi env ow vhi) (hz : z.length ≤ 100000) : Ve X (.Subscript e (.Slice lo hi none p2) pos) env ow (.str (cutS z vlo vhi)) := .mk fun σ F H Q s w k => by
  obtain ⟨t1, p1, q1⟩ := h1
  obtain ⟨t2, p2, q2⟩ := h2
  refine wpe (pe_slice sl_str pe_can p1 p2) (h σ F H _ s w fun F1 H1 v e1 w1 r1 => q1 σ F1 H1 _ (s.mono e1) w1 fun F2 H2 e2 w2 => q2 σ F2 H2 _ (s.mono (e1.trans e2)) w2 fun F3 H3 e3 w3 => ?_)
  cases r1
  exact ⟨z, rfl, Evl.sz_of hz, (k.ex (e1.trans (e2.trans e3))).here w3 (.str _)⟩
/-- for c in s -/
theorem vi_str {l : List Nat} (h : Ve X it env ow (.str (tx l))) : Vi X tg it env ow (l.map fun c => .str (tx [c])) := ⟨_, pi_str pe_can, fun σ F H R s w k => h σ F H _ s w fun F1 H1 v e1 w1 r1 => by
  cases r1
  refine ⟨tx l, rfl, k _ F1 H1 e1 w1 fun F2 H2 ow2 i e2 w2 => ⟨fun hl => by rw [List.length_map] at hl; exact (by show (tx l).cps.size ≤ i; simpa [tx] using hl), fun d hd => ?_⟩⟩
  obtain ⟨c, hc, rfl⟩ : ∃ c, l[i]? = some c ∧ d = .str (tx [c]) := by
    rw [List.getElem?_map] at hd
    cases q : l[i]? with
    | none => rw [q] at hd; cases hd
    | some c => rw [q] at hd; exact ⟨c, rfl, (Option.some.inj hd).symm⟩
  refine ⟨by show i < (tx l).cps.size; simpa [tx] using (List.getElem?_eq_some_iff.mp hc).1, fun x H' hy => ?_⟩
  obtain ⟨rfl, c2, hc2, rfl⟩ := hy
  have z : l[i]? = some c2 := by simpa [tx] using hc2
  rw [hc] at z
  cases z
  exact ⟨F2, Evl.Ex.refl F2, w2, .str _⟩⟩
theorem co_inKd {q : Addr} {es : Array DictEntry} {n : Nat} {z : Str} {r : Option Value} (hm : behindInMarks .In b = false) (T : KDict X.K X.w q es n) (h : PySem.W.nsIn X.K q z = some r) : CmpOk X ow .In b (.str z) (.ob (.ref q)) (.bl r.isSome) := ⟨_, op_in_kd T, hm, .mk fun F H v u Q w r1 r2 k => by
  cases r1
  cases r2
  exact ⟨z, r, rfl, rfl, h, k.here w (.bl _)⟩⟩
theorem co_notInKd {q : Addr} {es : Array DictEntry} {n : Nat} {z : Str} {r : Option Value} (hm : behindInMarks .NotIn b = false) (T : KDict X.K X.w q es n) (h : PySem.W.nsIn X.K q z = some r) : CmpOk X ow .NotIn b (.str z) (.ob (.ref q)) (.bl (!r.isSome)) := ⟨_, op_notIn_kd T, hm, .mk fun F H v u Q w r1 r2 k => by
  cases r1
  cases r2
  exact ⟨z, r, rfl, rfl, h, k.here w (.bl _)⟩⟩
theorem xo_kd {q : Addr} {z : Str} {v : V} (T : KDct X.K X.w q z v) (h : ∀ F, Rp X.K F v d) : IxOk X ow (.ob (.ref q)) (.str z) d := ⟨_, ix_kdict, .mk fun F H v u Q w r1 r2 k => by
  cases r1
  cases r2
  exact ⟨q, z, _, rfl, rfl, T, k.here w (h F)⟩⟩
end
end Vd
set_option Elab.async false
set_option linter.all false
set_option maxRecDepth 100000
set_option maxHeartbeats 4000000
namespace Vd
open PySem L2
open PySem.Spec PyProof.Rows
section
variable {X : Cx} {pins : List (Addr × Obj)} {σ : L2.St} {H : Hp} {s : Shared} {kvs : List (List Key × V)} {k : List Key} {a b : Addr} {v : V}
/-- what stands behind a store -/
theorem dt_stored {h' : Heap} {tk : Nat} {r : Value} {xs : List (List Key × Addr × Value)} (I : Inv X pins σ H s) (e : H a = some (.dT kvs)) (eb : H b = some (.tup (k.map kV))) (hl : kvs.length < sizeLine) (low : (a == sysModules) = false)
    (rel : KT H kvs xs) (rv : RelV v r) (dd : h'.DictOfH (tupleKind (mixKind X.prog X.w)) a (storedH xs k b r)) (same : Heap.SameBut a s.heap h') : Inv X pins σ (upd H a (.dT (putK kvs k v))) { s with heap := h', toks := tk } := by
  have most : (putK kvs k v).length ≤ sizeLine := by have := length_putK kvs k v; omega
  obtain ⟨q, es, ep, hq, c1, c2, c3, _, c4⟩ := dd
  refine d_write I (by rw [e]; exact True.intro) same ⟨q, hq⟩ ⟨most, low, _, (rel.put k eb rv).keeps fun c ys hc => ?_, q, es, ep, hq, c1, c2, c3, c4⟩
  have ne : c ≠ a := fun z => by
    rw [z, e] at hc
    cases hc
  rw [upd_ne ne]
  exact hc
/-- the store of a comprehension -/
theorem dt_set {r : Value} {E : Value → Shared → Prop} {Q : Unit → Shared → Prop} (I : Inv X pins σ H s) (hu : X.A.units + 1 < cLine) (e : H a = some (.dT kvs)) (eb : H b = some (.tup (k.map kV))) (hl : kvs.length < sizeLine) (rv : RelV v r)
    (go : ∀ s', Inv X pins σ (upd H a (.dT (putK kvs k v))) s' → Q () s') : wpAny (model X.prog X.w) X.A (dictSet a (.ref b) r) Q E s := by
  obtain ⟨z, low, xs, rel, dd⟩ := dt_of I.hok e
  have xz : xs.length ≤ sizeLine := by rw [← Paired.length rel]; exact z
  have hroom : (tupleKind (mixKind X.prog X.w)).room X.A := by show X.A.units < cLine; omega
  unfold dictSet
  refine wpAny_holding (wpAny_bind ((tupleKind (mixKind X.prog X.w)).pyHash hroom (key_of I.hok eb) ?_))
  exact wpAny_dictSetHashed_heap (s := { s with toks := s.toks + (tupleKind (mixKind X.prog X.w)).draws k }) hroom (key_of I.hok eb) dd (fun h' dd' same => go _ (dt_stored (I.tok _) e eb hl low rel rv dd' same)) xz
/-- d.setdefault(t, x), t a tuple -/
def tSetdT (td ty tx : TE) : TE := fun σ H Q => td σ H fun x H1 => ∃ a kvs0, x = .ref a ∧ H1 a = some (.dT kvs0) ∧ ty σ H1 fun y H2 => tx σ H2 fun z H3 => ∃ (kvs : List (List Key × V)) (k : List Key) (b : Addr), H3 a = some (.dT kvs) ∧ y = .ref b ∧ H3 b = some (.tup (k.map kV)) ∧ kvs.length < sizeLine ∧
  (∀ v, valV kvs k = some v → Q v H3) ∧ (valV kvs k = none → Q z (upd H3 a (.dT (putK kvs k z))))
theorem pe_setdT {o e f : Expr} {td ty tx : TE} {apos cpos : Pos} (hu : X.A.units + 3 < cLine) (ho : PE X o td) (he : PE X e ty) (hf : PE X f tx) (m : M2 X o "setdefault" apos e f cpos) : PE X (.Call (.Attribute o "setdefault" apos) [e, f] [] cpos) (tSetdT td ty tx) := by
  refine ⟨fun pins s σ H Q I h => wpAny_Call_method m.base m.few m.line PySem.F.plainAttrs_dict PySem.F.slot_dict_setdefault PySem.F.type_dict_setdefault (thn (ho.run pins s σ H _ I h) fun u s1 ⟨x, H1, I1, rx, a, kvs0, ex, e0, q1⟩ => ?_)⟩
  subst ex
  obtain rfl : u = Value.ref a := rx
  obtain ⟨_, _, xs0, _, dd0⟩ := dt_of I1.hok e0
  refine ⟨dd0.typeIs, fun c hc => ?_, ?_⟩
  · cases hc
    obtain ⟨ob, _, _, g1, g2, _⟩ := dd0
    exact ⟨ob, g1, g2.2.1⟩
  rw [m.trees]
  refine Calls.callWith_builtin rfl (Calls.evalArgs_plain (Calls.spliced_cons (thn (he.run pins s1 σ H1 _ I1 q1) fun kv s2 ⟨y, H2, I2, ry, q2⟩ =>
    Calls.spliced_cons (thn (hf.run pins s2 σ H2 _ I2 q2) fun dv s3 ⟨z, H3, I3, rz, kvs, k, b, ea, ey, eb, hl, there, new⟩ => Calls.spliced_nil ?_))))
  subst ey
  obtain rfl : kv = Value.ref b := ry
  obtain ⟨zz, low, xs, rel, dd⟩ := dt_of I3.hok ea
  have xz : xs.length ≤ sizeLine := by rw [← Paired.length rel]; exact zz
  have val := rel.val k
  refine call_setdefault_heap (tupleKind_room_in1 (by omega)) (key_of I3.hok eb) low dd (fun p hp => ?_) (fun hn h' dd' same => ?_) xz
  · cases hv : valV kvs k with
    | none =>
      rw [hv, hp] at val
      exact val.elim
    | some v =>
      rw [hv, hp] at val
      exact ⟨v, H3, I3.tok _, val, there v hv⟩
  · refine ⟨z, _, dt_stored I3 ea eb hl low rel rz dd' same, rz, new ?_⟩
    cases hv : valV kvs k with
    | none => rfl
    | some v =>
      rw [hv, hn] at val
      exact val.elim
end
end Vd
set_option Elab.async false
set_option linter.all false
set_option maxRecDepth 100000
set_option maxHeartbeats 4000000
namespace Vd
open PySem L2
open PySem.Spec PyProof.Rows
section
variable {X : Cx}
/-- one turn: the key and its value are stored -/
def turnT (D : Addr) (g : TG) (tk tv : TE) (vs : List Nat) (σ : L2.St) (x : V) (H : Hp) (Nx : Hp → Prop) : Prop :=
  g x (L2.wipe σ vs) H fun σ2 H2 => L2.wipe σ2 vs = L2.wipe σ vs ∧ tk σ2 H2 fun y H3 => tv σ2 H3 fun z H4 => ∃ (kvs : List (List Key × V)) (k : List Key) (b : Addr), y = .ref b ∧ H4 b = some (.tup (k.map kV)) ∧ H4 D = some (.dT kvs) ∧ kvs.length < sizeLine ∧ Nx (upd H4 D (.dT (putK kvs k z)))
/-- W i m: what holds ahead of turn i, m growing less -/
def tDcT (wi : TI) (g : TG) (tk tv : TE) (vs : List Nat) : TE := fun σ H Q => wi σ H fun J H1 => ∀ D, H1 D = none → ∃ W : Nat → Nat → Hp → Prop, (∃ m, W 0 m (upd H1 D (.dT []))) ∧ ∀ i m H2, W i m H2 →
  (J.stop i H2 ∧ Q (.ref D) H2) ∨ (J.go i H2 ∧ ∃ Nx : Hp → Prop, (∀ H', Nx H' → ∃ m', m' < m ∧ W (i + 1) m' H') ∧ ∀ x H', J.yld i H2 x H' → turnT D g tk tv vs σ x H' Nx)
theorem pe_dcT {kx vx tg iter : Expr} {scope : Scope} {own : List (Str × Nat)} {pos : Pos} {wi : TI} {g : TG} {tk tv : TE} (hu : X.A.units + 1 < cLine) (hc : X.calm = true) (hN : X.N.Nodup) (hi : PI X tg iter wi) (ok : BlkOk X.N X.env.scope scope own)
    (hg : ∀ (s : Shared) (H : Hp) (C : Addr) (cl : List (Str × Addr)) (fp : List Addr), PG (X.blk s H scope (compEnvC scope cl C X.env) fp) tg g)
    (hk : ∀ (s : Shared) (H : Hp) (C : Addr) (cl : List (Str × Addr)) (fp : List Addr), PE (X.blk s H scope (compEnvC scope cl C X.env) fp) kx tk)
    (hv : ∀ (s : Shared) (H : Hp) (C : Addr) (cl : List (Str × Addr)) (fp : List Addr), PE (X.blk s H scope (compEnvC scope cl C X.env) fp) vx tv) (hs : ∀ x, foldedSetIterable iter X.env x = pure x := by intro _; rfl) :
    PE X (.DictComp kx vx [⟨tg, iter, [], 0⟩] scope pos) (tDcT wi g tk tv (own.map (·.2))) := by
  refine ⟨fun pins s σ H Q I h => ?_⟩
  rw [arm_eval_DictComp]
  have frees : ∀ y ∈ scope.names, y.2 = .free → ∃ c, X.env.cells.lookup y.1 = some c := fun y hy e => (ok.free y hy e).elim (fun z => I.ok.has _ (.inl z)) fun z => I.ok.has _ (.inr z)
  refine wpAny_comprehension_free (use := none) rfl hs (closure_ok frees) ok.kind (fun y hy e => by rw [ok.uniq y hy, e]) (thn (hi.run pins s σ H _ I h) fun xv sa ha => thn ha fun itv sb hb => ?_)
  obtain ⟨it, fp, tn, J, H1, rfl, Ib, T, stb, fb, q⟩ := hb
  refine wpAny_newObj_type (newEnv_comp ?_)
  -- the new dict, at the heap's end
  obtain ⟨D, hD⟩ : ∃ D, D = sb.heap.objs.size := ⟨_, rfl⟩
  have Dn : H1 D = none := Ib.hok.fresh (Nat.le_of_eq hD.symm)
  obtain ⟨W, ⟨m0, w0⟩, turn⟩ := q D Dn
  obtain ⟨sc, hsc⟩ : ∃ sc : Shared, sc = { sb with heap := sb.heap.push { cls := .type "dict", data := .dict #[] } } := ⟨_, rfl⟩
  obtain ⟨Hc, hHc⟩ : ∃ Hc, Hc = upd H1 D (.dT []) := ⟨_, rfl⟩
  have heapc : sc.heap = sb.heap.push { cls := .type "dict", data := .dict #[] } := by rw [hsc]
  have keepc : ∀ b o, sb.heap.get? b = some o → sc.heap.get? b = some o := fun b o e => by rw [heapc]; exact Heap.get?_push_of_some _ e
  have Ic : Inv X pins σ Hc sc := by
    rw [hHc, hsc]
    refine Ib.laid (t' := sb.toks) (fun b o e => Heap.get?_push_of_some _ e) (Nat.le_of_eq hD.symm) ?_
    rw [hD]
    exact dt_empty sb.heap Ib.big
  have old : ∀ b ∈ fp, b < sb.heap.objs.size := fun b hb => let ⟨_, e, _⟩ := T.obj _ _ stb b hb; Heap.lt_size e
  have fc : ∀ b ∈ fp, FpOk X pins Hc b ∧ b < sc.heap.objs.size := fun b hb => by
    have lt := old b hb
    have ne : b ≠ D := by rw [hD]; exact Nat.ne_of_lt lt
    refine ⟨⟨by rw [hHc, upd_ne ne]; exact (fb b hb).1, (fb b hb).2⟩, ?_⟩
    rw [heapc, Heap.size_push]
    exact Nat.lt_succ_of_lt lt
  have stc : tn 0 sc.heap := T.keep _ _ _ stb fun b _ o e => keepc b o e
  have Id := block_start Ic ok hN fc
  obtain ⟨ce, hce⟩ : ∃ ce, ce = compEnvC scope (cellsFrom (sc.heap.objs.size + 1) scope.names (cloFrom X.env.cells scope.names [])) sc.heap.objs.size X.env := ⟨_, rfl⟩
  have G := hg sc Hc sc.heap.objs.size (cellsFrom (sc.heap.objs.size + 1) scope.names (cloFrom X.env.cells scope.names [])) fp
  have KK := hk sc Hc sc.heap.objs.size (cellsFrom (sc.heap.objs.size + 1) scope.names (cloFrom X.env.cells scope.names [])) fp
  have VV := hv sc Hc sc.heap.objs.size (cellsFrom (sc.heap.objs.size + 1) scope.names (cloFrom X.env.cells scope.names [])) fp
  rw [← hce] at G KK VV Id
  have cl : ce.locals = sc.heap.objs.size := by rw [hce]; rfl
  obtain ⟨sd, hsd⟩ : ∃ sd : Shared, sd = { sc with heap := pushCells (sc.heap.push { cls := .type "dict", data := .dict #[] }) scope.names } := ⟨_, rfl⟩
  rw [← hsd] at Id
  have std : tn 0 sd.heap := T.keep _ _ _ stc fun b _ o e => by
    rw [hsd]
    exact pushCells_keeps _ _ _ _ (Heap.get?_push_of_some _ e)
  have nof : ∀ b ∈ fp, Hc b = none := fun b hb => (fc b hb).1.1
  have fine : ∀ {σ' : L2.St} {H' : Hp} {s' : Shared}, Inv (X.blk sc Hc scope ce fp) [] σ' H' s' → (∀ b ∈ fp, H' b = none) → ∀ b ∈ fp, FpOk (X.blk sc Hc scope ce fp) [] H' b := fun {σ' H' s'} I' no b hb =>
    ⟨no b hb, (I'.ok.exf b hb).1, I'.ok.exfs b hb, .inl hb, (I'.ok.exf b hb).2, fun p hp => nomatch hp⟩
  have loop : codeAny (model X.prog X.w) X.A (.compLoop (.DictComp kx vx [⟨tg, iter, [], 0⟩] scope pos) 0 (.ref it) (.ref D) ce) (compPost (model X.prog X.w) X.A X.xe none (EP X pins σ Q) (.ref D) sc.heap.objs.size) sd := by
    refine compLoop_anyD (fun n s' => ∃ i H', Inv (X.blk sc Hc scope ce fp) [] (L2.wipe σ (own.map (·.2))) H' s' ∧ tn i s'.heap ∧ (∀ b ∈ fp, H' b = none) ∧ W i n H') ?step m0 ⟨0, Hc, Id, std, nof, by rw [hHc]; exact w0⟩
    rintro n se ⟨i, He, Ie, ste, noe, we⟩
    rcases turn i n He we with ⟨stop, fin⟩ | ⟨go, Nx, less, each⟩
    · refine thnF (T.done (X.blk sc Hc scope ce fp) rfl rfl rfl hc i [] se _ He (fun _ _ => False) Ie (fine Ie noe) ste stop) fun r sf ⟨hr, If⟩ => ?_
      subst hr
      have Iout : Inv X pins σ He sf := Ic.call' (ch := fp) If.os If.base If.hok If.bare fun b hb => let ⟨_, a1, _, a2, a3, a4⟩ := (fc b hb).1; ⟨a2, a1, a3, a4⟩
      have frameFree : He sc.heap.objs.size = none := by rw [← cl]; exact If.free
      obtain ⟨m, hm, _⟩ := If.loc
      have hm2 : sf.heap.Ns sc.heap.objs.size m := by rw [← cl]; exact hm
      obtain ⟨f0, f1, _, f3, f4, f5⟩ := Ic.fpOk (Nat.le_refl _) frameFree
      exact ⟨m, hm2, fun h2 same => ⟨.ref D, He, Iout.turned (t' := sf.toks) (fun b o hb e => (same.2 b hb).trans e) f0 f1 f3 f4 f5, rfl, fin⟩⟩
    · refine thnF (T.item (X.blk sc Hc scope ce fp) rfl rfl rfl hc i [] se _ He (fun _ _ => False) Ie (fine Ie noe) ste go) fun r sf ⟨u, hr, hf⟩ => ?_
      subst hr
      refine thnF hf fun _ sg ⟨x, Hg, Ig, rx, yx, stg, nog⟩ => ?_
      refine thnF (G.run _ sg _ Hg x u _ (Ig.pinned (fine Ig nog) (T.obj _ _ stg)) rx (each x Hg yx)) fun _ sh ⟨σh, Hh, Ih, hw, qh⟩ => ?_
      refine wpAny_pure ?_
      rw [if_pos rfl]
      refine thnF (KK.run _ sh σh Hh _ Ih qh) fun kv si ⟨y, Hi, Ii, ry, qi⟩ => ?_
      refine thnF (VV.run _ si σh Hi _ Ii qi) fun vv sj ⟨z, Hj, Ij, rz, kvs, k, b, ey, eb, eD, hl, nx⟩ => ?_
      subst ey
      obtain rfl : kv = Value.ref b := ry
      refine dt_set (X := X.blk sc Hc scope ce fp) Ij hu eD eb hl rz fun sk Ik => ?_
      obtain ⟨m', lt, wk⟩ := less _ nx
      have still : ∀ b ∈ fp, ∀ o, sg.heap.get? b = some o → sk.heap.get? b = some o ∧ upd Hj D (.dT (putK kvs k z)) b = none := fun b hb o e =>
        let w := Ik.pin (b, o) (List.mem_append_right _ (List.mem_append_right _ (mem_pinsAt hb e)))
        ⟨w.1, w.2.1⟩
      have lens : (L2.wipe σ (own.map (·.2))).length = σh.length := by rw [← hw, wipe_length]
      refine ⟨m', lt, i + 1, _, (Ik.unpinned (pins := [])).weak lens (fun j v e => ?_), T.keep _ _ _ stg fun b hb o e => (still b hb o e).1, fun b hb => ?_, wk⟩
      · rw [← hw] at e
        exact (wipe_some e).1
      · obtain ⟨o, e, _⟩ := T.obj _ _ stg b hb
        exact (still b hb o e).2
  rw [hce, hsd, hsc, hD] at loop
  exact codeAny_compStart_dict loop (T.self X.A 0 _ _ _ (by rw [hsd, hsc] at std; exact std) loop)
end
end Vd
set_option Elab.async false
set_option linter.all false
set_option maxRecDepth 100000
set_option maxHeartbeats 4000000
namespace Vd
open PySem L2
open PySem.Spec PyProof.Rows
def kD : Key → D
  | .inl i => .int i
  | .inr x => .str x
section
variable {K : PySem.W.Frag} {F : Hp}
theorem Rps.keys : ∀ {xs : List V} {k : List Key}, Rps K F xs (k.map kD) → xs = k.map kV
  | _, [], .nil => rfl
  | _, .inl i :: k, .cons h r => by
    cases h
    rw [Rps.keys r]
    rfl
  | _, .inr x :: k, .cons h r => by
    cases h
    rw [Rps.keys r]
    rfl
theorem Rps.ofKeys : ∀ k : List Key, Rps K F (k.map kV) (k.map kD)
  | [] => .nil
  | .inl i :: k => .cons (.int i) (Rps.ofKeys k)
  | .inr x :: k => .cons (.str x) (Rps.ofKeys k)
def valT (l : List (List Key × D)) (k : List Key) : Option D := (l.find? fun p => decide (p.1 = k)).map (·.2)
theorem valT_cons (q : List Key) (d : D) (l : List (List Key × D)) (k : List Key) : valT ((q, d) :: l) k = if q = k then some d else valT l k := by
  unfold valT
  rw [List.find?_cons]
  by_cases h : q = k <;> simp [h]
theorem valV_cons (q : List Key) (d : V) (l : List (List Key × V)) (k : List Key) : valV ((q, d) :: l) k = if q = k then some d else valV l k := by
  unfold valV
  rw [List.find?_cons]
  by_cases h : q = k <;> simp [h]
theorem Rpt.val {k : List Key} : ∀ {xs : List (List Key × V)} {l : List (List Key × D)}, Rpt K F xs l → (∀ d, valT l k = some d → ∃ v, valV xs k = some v ∧ Rp K F v d) ∧ (valT l k = none → valV xs k = none)
  | _, _, .nil => ⟨(fun d h => by cases h), fun _ => rfl⟩
  | _, _, .cons (k := q) h r => by
    obtain ⟨r1, r2⟩ := r.val (k := k)
    rw [valT_cons, valV_cons]
    by_cases z : q = k
    · simp only [if_pos z]
      refine ⟨fun d e => ?_, fun e => by cases e⟩
      cases e
      exact ⟨_, rfl, h⟩
    · simp only [if_neg z]
      exact ⟨r1, r2⟩
theorem Rpt.length : ∀ {xs : List (List Key × V)} {l : List (List Key × D)}, Rpt K F xs l → xs.length = l.length
  | _, _, .nil => rfl
  | _, _, .cons _ r => by simp [r.length]
theorem Rpt.get {i : Nat} {k : List Key} {v : V} : ∀ {xs : List (List Key × V)} {l : List (List Key × D)}, Rpt K F xs l → xs[i]? = some (k, v) → ∃ d, l[i]? = some (k, d) ∧ Rp K F v d := by
  induction i with
  | zero =>
    intro xs l r e
    cases r with
    | nil => simp at e
    | cons h _ =>
      simp at e
      obtain ⟨rfl, rfl⟩ := e
      exact ⟨_, rfl, h⟩
  | succ i ih =>
    intro xs l r e
    cases r with
    | nil => simp at e
    | cons _ r =>
      simp only [List.getElem?_cons_succ] at e ⊢
      exact ih r e
theorem Rpt.keys : ∀ {xs : List (List Key × V)} {l : List (List Key × D)}, Rpt K F xs l → xs.map (·.1) = l.map (·.1)
  | _, _, .nil => rfl
  | _, _, .cons _ r => by rw [List.map_cons, List.map_cons, r.keys]
theorem Rpt.snoc {k : List Key} {v : V} {d : D} (h : Rp K F v d) : ∀ {xs : List (List Key × V)} {l : List (List Key × D)}, Rpt K F xs l → Rpt K F (xs ++ [(k, v)]) (l ++ [(k, d)])
  | _, _, .nil => .cons h .nil
  | _, _, .cons g r => .cons g (r.snoc h)
theorem put_new {A : Type} [DecidableEq A] (l : List (A × V)) (k : A) (v : V) (h : k ∉ l.map (·.1)) : putK l k v = l ++ [(k, v)] := by
  unfold putK
  rw [if_neg]
  intro z
  obtain ⟨p, hp, e⟩ := List.any_eq_true.mp z
  exact h (List.mem_map.mpr ⟨p, hp, of_decide_eq_true e⟩)
theorem valV_new : ∀ {l : List (List Key × V)} {k : List Key}, valV l k = none → k ∉ l.map (·.1)
  | [], _, _ => by simp
  | (q, d) :: l, k, h => by
    rw [valV_cons] at h
    by_cases z : q = k
    · rw [if_pos z] at h
      cases h
    · rw [if_neg z] at h
      simp only [List.map_cons, List.mem_cons, not_or]
      exact ⟨fun e => z e.symm, valV_new h⟩
end
section
variable {X : Cx} {B : Hp} {env : List (Option D)} {ow : Ow} {o e i it kx vx : Expr} {es : List Expr} {d : D} {ds : List D} {pos ap cp : Pos} {Dn : Ends} {rest ss : List Stmt}
theorem wps_lock {σ : L2.St} {H : Hp} {a : Addr} {u : HO} (h : H a = some u) (mu : Mut (some u)) (q : ∀ od, WpS X ss Dn σ (upd H a (.frz od u))) : WpS X ss Dn σ H := fun pins s I => by
  obtain ⟨od, J⟩ := I.lock h mu
  exact q od pins s J
theorem wpe_lock {σ : L2.St} {H : Hp} {Q : VK} (q : WpE X e σ H fun v H' => ∃ a u, v = .ref a ∧ H' a = some u ∧ Mut (some u) ∧ ∀ od, Q v (upd H' a (.frz od u))) : WpE X e σ H Q := fun pins s I =>
  wpAny_mono (q pins s I) (fun u s' hs => by
    obtain ⟨v, H', J, r, a, u, e, g, mu, q⟩ := hs
    obtain ⟨od, J2⟩ := J.lock g mu
    exact ⟨v, _, J2, r, q od⟩) fun _ _ z => z
/-- an owned dict is locked and frozen -/
theorem lock_wo {F H : Hp} {a : Addr} {m : List (List Key × D)} {K : PySem.W.Frag} (w : Wo K ow F H) (ha : ow a = some (.dtp m)) : ∃ kvs, H a = some (.dT kvs) ∧ Rpt K F kvs m ∧ F a = none ∧ ∀ od, Ex F (upd F a (.frz od (.dT kvs))) ∧ Wo K (oz ow a) (upd F a (.frz od (.dT kvs))) (upd H a (.frz od (.dT kvs))) := by
  obtain ⟨n, kvs, g, r⟩ := w.own a _ ha
  refine ⟨kvs, g, r, n, fun od => ⟨Evl.Ex.new n, fun b u hb => ?_, fun b u hb => ?_⟩⟩
  · by_cases z : b = a
    · subst z
      rw [upd_same] at hb ⊢
      exact hb
    · rw [upd_ne z] at hb ⊢
      exact w.ex b u hb
  · have z : b ≠ a := fun y => by
      rw [y, oz_same] at hb
      cases hb
    rw [oz_ne z] at hb
    obtain ⟨h1, h2⟩ := w.own b u hb
    exact ⟨by rw [upd_ne z]; exact h1, h2.stay (Evl.Ex.new n) (upd_ne z)⟩
theorem rn_freezeT {j : Nat} {a : Addr} {m : List (List Key × D)} (hj : env[j]? = some (some (.ob (.ref a)))) (ha : ow a = some (.dtp m)) (k : ∀ B', Ex B B' → Rn X B' rest Dn (env.set j (some (.dtp m))) (oz ow a)) : Rn X B rest Dn env ow := .mk fun σ F H eB s w => by
  obtain ⟨kvs, g, r, n, z⟩ := lock_wo w ha
  refine wps_lock g trivial fun od => ?_
  obtain ⟨e1, w1⟩ := z od
  obtain ⟨v, h1, h2⟩ := s.at_ j _ hj
  cases h2
  have s1 : Sl X.K (upd F a (.frz od (.dT kvs))) (σ.set j (some (.ref a))) (env.set j (some (.dtp m))) := (s.mono e1).set (.dtp upd_same (r.mono e1)) j
  have y : σ.set j (some (.ref a)) = σ := by
    apply List.ext_getElem?
    intro q
    rw [List.getElem?_set]
    by_cases c : j = q
    · subst c
      rw [if_pos rfl, h1, if_pos (List.getElem?_eq_some_iff.mp h1).1]
    · rw [if_neg c]
  rw [y] at s1
  exact k _ (eB.trans e1) σ _ _ (Evl.Ex.refl _) s1 w1
theorem ve_tupF {k0 : Nat} (h : Va X es env ow ds) (hl : ds.length ≤ 100000) : Ve X (.Tuple es k0 pos) env ow (.tupF ds) := .mk fun σ F H Q s w k =>
  wpe (pe_tup pa_can) (h σ F H _ s w fun F1 H1 xs e1 w1 r1 => ⟨Evl.sz_of (by rw [r1.length]; exact hl), fun p hp => (k.ex e1).new w1 hp (.tupF upd_same (r1.mono (w1.exnew hp)))⟩)
/-- name = {}: a dict for tuples -/
theorem rn_newT {x : Str} {p lp : Pos} {j : Nat} (hN : X.N.Nodup) (hi : X.N[j]? = some x) (hx : Loc X.env.scope x) (k : ∀ B' q, Ex B B' → ow q = none → Rn X B' rest Dn (env.set j (some (.ob (.ref q)))) (ou ow q (.dtp [])))
    (hs : swapsWith (.Dict [] [] lp) (some (.Name x p)) pos.line X.env = pure false := by rfl) (hf : X.fn x = true ∨ X.env.scope.names.lookup x = some .local := by first | exact .inl rfl | exact .inr rfl | assumption) : Rn X B (.Assign [.Name x p] (.Dict [] [] lp) pos :: rest) Dn env ow :=
  rn_one ⟨_, ps_set hN hi hx pe_dnewT hs hf, fun σ F H eB s w q hq => k F q eB (w.ofree hq) _ F _ (Evl.Ex.refl F) (s.set (.ob _) j) (w.newT hq .nil)⟩
/-- d[t] -/
theorem ve_getT {m : List (List Key × D)} {k : List Key} (hu : X.A.units + 1 < cLine) (ho : Ve X o env ow (.dtp m)) (hi : Ve X i env ow (.tupF (k.map kD))) (hv : valT m k = some d) (hs : NoSl i := by intro _ _; rfl) : Ve X (.Subscript o i pos) env ow d := .mk fun σ F H Q s w k0 =>
  wpe (pe_dget hu pe_can pe_can hs) (ho σ F H _ s w fun F1 H1 x e1 w1 r1 => hi σ F1 H1 _ (s.mono e1) w1 fun F2 H2 y e2 w2 r2 => by
    have r1' := r1.mono e2
    cases r1' with
    | @dtp a oo kvs _ g r =>
      cases r2 with
      | tupF g2 rk =>
        have z := rk.keys
        subst z
        obtain ⟨v, hv2, rv⟩ := (r.val (k := k)).1 d hv
        exact ⟨a, v, rfl, .inr ⟨kvs, k, _, .inr ⟨oo, w2.ex _ _ g⟩, rfl, w2.ex _ _ g2, hv2.symm⟩, (k0.ex (e1.trans e2)).here w2 rv⟩)
/-- for t in d -/
theorem vi_keysT {tg : Expr} {m : List (List Key × D)} (h : Ve X it env ow (.dtp m)) : Vi X tg it env ow (m.map fun p => .tupF (p.1.map kD)) := ⟨_, pi_keys pe_can, fun σ F H R s w k => h σ F H _ s w fun F1 H1 v e1 w1 r1 => by
  cases r1 with
  | @dtp a oo kvs _ g r =>
    refine ⟨a, oo, rfl, .inr ⟨kvs, w1.ex _ _ g, k _ F1 H1 e1 w1 fun F2 H2 ow2 n e2 w2 => ⟨fun hl => ?_, fun d hd => ?_⟩⟩⟩
    · rw [List.length_map, ← r.length] at hl
      exact ⟨w2.ex _ _ (e2 _ _ g), hl⟩
    · obtain ⟨p, hp, rfl⟩ : ∃ p, m[n]? = some p ∧ d = .tupF (p.1.map kD) := by
        rw [List.getElem?_map] at hd
        cases q : m[n]? with
        | none => rw [q] at hd; cases hd
        | some p => rw [q] at hd; exact ⟨p, rfl, (Option.some.inj hd).symm⟩
      have nl : n < kvs.length := by rw [r.length]; exact (List.getElem?_eq_some_iff.mp hp).1
      refine ⟨⟨w2.ex _ _ (e2 _ _ g), nl⟩, fun x H' hy => ?_⟩
      obtain ⟨rfl, k2, v2, q, hk, rfl, hq⟩ := hy
      obtain ⟨d2, hd2, _⟩ := r.get hk
      rw [hp] at hd2
      cases hd2
      -- the key's tuple is known to the heap, and now to the frozen part
      have noq : ow2 q = none := by
        cases z : ow2 q with
        | none => rfl
        | some u =>
          obtain ⟨_, ok⟩ := w2.own q u z
          cases u with
          | lst l => obtain ⟨_, y, _⟩ := ok; rw [hq] at y; cases y
          | dct l => obtain ⟨_, y, _⟩ := ok; rw [hq] at y; cases y
          | ins C l => obtain ⟨_, _, y, _⟩ := ok; rw [hq] at y; cases y
          | dtp l => obtain ⟨_, y, _⟩ := ok; rw [hq] at y; cases y
      cases z : F2 q with
      | some u =>
        have y := w2.ex _ _ z
        rw [hq] at y
        cases y
        exact ⟨F2, Evl.Ex.refl F2, w2, .tupF z (Rps.ofKeys _)⟩
      | none => exact ⟨upd F2 q (.tup (k2.map kV)), Evl.Ex.new z, w2.freeze z hq noq, .tupF upd_same (Rps.ofKeys _)⟩⟩
end
end Vd
set_option Elab.async false
set_option linter.all false
set_option maxRecDepth 100000
set_option maxHeartbeats 4000000
namespace Vd
open PySem L2
open PySem.Spec PyProof.Rows
section
variable {X : Cx} {B : Hp} {env : List (Option D)} {ow : Ow} {o e i it kx vx : Expr} {es : List Expr} {d : D} {ds : List D} {pos ap cp lp : Pos} {Dn : Ends} {rest : List Stmt}
/-- what d.setdefault(t, []) comes to -/
def PSetd (ow : Ow) (a : Addr) (m : List (List Key × D)) (k : List Key) (d : D) (ow2 : Ow) : Prop := (valT m k = some d ∧ ow2 = ow) ∨ (valT m k = none ∧ ∃ q, d = .ob (.ref q) ∧ ow q = none ∧ q ≠ a ∧ ow2 = ou (ou ow q (.lst [])) a (.dtp (m ++ [(k, .ob (.ref q))])))
theorem vm_setdT {a : Addr} {m : List (List Key × D)} {k : List Key} (hu : X.A.units + 3 < cLine) (ho : Ve X o env ow (.ob (.ref a))) (ha : ow a = some (.dtp m)) (he : Ve X e env ow (.tupF (k.map kD))) (hl : m.length < 100000) (mm : M2 X o "setdefault" ap e (.List [] lp) cp) :
    Vm X (.Call (.Attribute o "setdefault" ap) [e, .List [] lp] [] cp) env ow (PSetd ow a m k) := .mk fun σ F H Q s w k0 => wpe (pe_setdT hu pe_can pe_can (pe_lst pa_nil) mm) (ho σ F H _ s w fun F1 H1 x e1 w1 r1 => by
  cases r1
  obtain ⟨_, kv0, g0, _⟩ := w1.own a _ ha
  refine ⟨a, kv0, rfl, g0, he σ F1 H1 _ (s.mono e1) w1 fun F2 H2 y e2 w2 r2 => ⟨Nat.zero_le _, fun p hp => ?_⟩⟩
  cases r2 with
  | @tupF b xs l g2 rk =>
  have z := rk.keys
  subst z
  obtain ⟨na, kvs, ga, ra⟩ := w2.own a _ ha
  have pa : a ≠ p := fun z => by rw [z, hp] at ga; cases ga
  have pb : b ≠ p := fun z => by
    have y := w2.ex _ _ g2
    rw [z, hp] at y
    cases y
  have w3 := w2.newL hp (.nil : Rps X.K F2 [] [])
  have op : ow p = none := w2.ofree hp
  refine ⟨kvs, k, b, by rw [upd_ne pa]; exact ga, rfl, by rw [upd_ne pb]; exact w2.ex _ _ g2, Evl.sz_lt (by rw [ra.length]; exact hl), fun v hv => ?_, fun hv => ?_⟩
  · cases q : valT m k with
    | none =>
      rw [(ra.val (k := k)).2 q] at hv
      cases hv
    | some d =>
      obtain ⟨v2, hv2, rv⟩ := (ra.val (k := k)).1 d q
      rw [hv] at hv2
      cases hv2
      exact k0 F2 _ v d ow (e1.trans e2) (w3.drop fun c u hc => by
        rw [ou_ne (fun z => by rw [z, op] at hc; cases hc)]
        exact hc) rv (.inl ⟨q, rfl⟩)
  · have q : valT m k = none := by
      cases q : valT m k with
      | none => rfl
      | some d =>
        obtain ⟨v2, hv2, _⟩ := (ra.val (k := k)).1 d q
        rw [hv] at hv2
        cases hv2
    rw [put_new _ _ _ (valV_new hv)]
    have oa : ou ow p (.lst []) a = some (.dtp m) := by rw [ou_ne pa]; exact ha
    exact k0 F2 _ _ _ _ (e1.trans e2) (w3.setT oa (ra.snoc (.ob (.ref p)))) (.ob _) (.inr ⟨q, p, rfl, op, fun z => pa z.symm, rfl⟩))
/-- o.append(e), o what changes the owned -/
theorem rn_appM {P : D → Ow → Prop} (ho : Vm X o env ow P) (h : ∀ d ow2, P d ow2 → ∃ q l de, d = .ob (.ref q) ∧ ow2 q = some (.lst l) ∧ l.length < 100000 ∧ Ve X e env ow2 de ∧ ∀ B', Ex B B' → Rn X B' rest Dn env (ou ow2 q (.lst (l ++ [de]))))
    (hbase : attributeBase o "append" X.env (eval o X.env) = eval o X.env := by rfl)
    (hfew : ((backTo cp (starEach [e] X.env)).all (fun x => !x.1) && (backToKw cp (keywordEach [] X.env)).all (fun x => x.1.isSome) && decide ([e].length + ([] : List Keyword).length + (if ([] : List Keyword).isEmpty then 0 else 1) < 30)) = true := by rfl)
    (hline : (ap.endLine == cp.line) = true := by rfl) (hst : starEach [e] X.env = (false, eval e X.env) :: starEach [] X.env := by rfl) (hpl : (backTo cp (starEach [] X.env)).any (·.1) = false := by rfl) (hs : swapsWith (.Call (.Attribute o "append" ap) [e] [] cp) none pos.line X.env = pure false := by rfl) :
    Rn X B (.Expr (.Call (.Attribute o "append" ap) [e] [] cp) pos :: rest) Dn env ow := rn_one ⟨_, ps_expr (pe_bm PySem.F.plainAttrs_list PySem.F.slot_list_append PySem.F.type_list_append mt_append pe_can (pa_cons pe_can pa_nil hst) hbase hfew hline hst hpl) hs, fun σ F H eB s w => ho σ F H _ s w fun F1 H1 v d ow2 e1 w1 r1 hp => by
  obtain ⟨q, l, de, rfl, hq, hl, he, go⟩ := h d ow2 hp
  cases r1
  obtain ⟨_, xs0, g0, _⟩ := w1.own q _ hq
  refine ⟨.inl ⟨rfl, _, SqL.of g0⟩, he σ F1 H1 _ (s.mono e1) w1 fun F2 H2 y e2 w2 r2 => ?_⟩
  obtain ⟨_, xs, g, sx⟩ := w2.own q _ hq
  exact ⟨q, xs, y, rfl, rfl, g, Evl.sz_lt (by rw [sx.length]; exact hl), go F2 (eB.trans (e1.trans e2)) σ F2 _ (Evl.Ex.refl F2) (s.mono (e1.trans e2)) (w2.setL hq (sx.append (.cons r2 .nil)))⟩⟩
/-- {kx: vx for name in it}, the keys tuples, no two alike -/
theorem ve_dcT {scope : Scope} {j : Nat} {y : Str} {py : Pos} (kf : D → List Key) (vf : D → D) (hu : X.A.units + 1 < cLine) (hc : X.calm = true) (hN : X.N.Nodup) (hi : Vi X (.Name y py) it env ow ds) (ok : BlkOk X.N X.env.scope scope [(y, j)]) (hl : ds.length ≤ 100000) (nd : (ds.map kf).Nodup)
    (hg : ∀ (s : Shared) (H : Hp) (C : Addr) (cl : List (Str × Addr)) (fp : List Addr), PG (X.blk s H scope (compEnvC scope cl C X.env) fp) (.Name y py) (gName j))
    (hk : ∀ d ow', d ∈ ds → Sub ow ow' → ∀ (s : Shared) (H : Hp) (C : Addr) (cl : List (Str × Addr)) (fp : List Addr), Ve (X.blk s H scope (compEnvC scope cl C X.env) fp) kx ((env.set j none).set j (some d)) ow' (.tupF ((kf d).map kD)))
    (hv : ∀ d ow', d ∈ ds → Sub ow ow' → ∀ (s : Shared) (H : Hp) (C : Addr) (cl : List (Str × Addr)) (fp : List Addr), Ve (X.blk s H scope (compEnvC scope cl C X.env) fp) vx ((env.set j none).set j (some d)) ow' (vf d))
    (hsf : ∀ x, foldedSetIterable it X.env x = pure x := by intro _; rfl) : Ve X (.DictComp kx vx [⟨.Name y py, it, [], 0⟩] scope pos) env ow (.dtp (ds.map fun d => (kf d, vf d))) := .mk fun σ F H Q s w k0 => by
  obtain ⟨wi, pi, hw⟩ := hi
  refine wpe_lock (wpe (pe_dcT (own := [(y, j)]) (g := gName j) (tk := fun σ H Q => ∀ (s : Shared) (H0 : Hp) (C : Addr) (cl : List (Str × Addr)) (fp : List Addr), WpE (X.blk s H0 scope (compEnvC scope cl C X.env) fp) kx σ H Q)
    (tv := fun σ H Q => ∀ (s : Shared) (H0 : Hp) (C : Addr) (cl : List (Str × Addr)) (fp : List Addr), WpE (X.blk s H0 scope (compEnvC scope cl C X.env) fp) vx σ H Q) hu hc hN pi ok hg
    (fun s0 H0 C cl fp => ⟨fun pins s σ H Q I h => h s0 H0 C cl fp pins s I⟩) (fun s0 H0 C cl fp => ⟨fun pins s σ H Q I h => h s0 H0 C cl fp pins s I⟩) hsf) ?_)
  refine hw σ F H _ s w fun J F1 H1 e1 w1 src => ?_
  intro Dl hD
  refine ⟨fun n m H => m = ds.length - n ∧ n ≤ ds.length ∧ ∃ F2 kvs, Ex F1 F2 ∧ Wo X.K ow F2 H ∧ F2 Dl = none ∧ ow Dl = none ∧ H Dl = some (.dT kvs) ∧ Rpt X.K F2 kvs ((ds.take n).map fun d => (kf d, vf d)), ⟨ds.length, by simp, Nat.zero_le _, F1, [], Evl.Ex.refl F1, w1.grow hD, w1.free hD, w1.ofree hD, upd_same, .nil⟩, ?_⟩
  rintro n m H2 ⟨rfl, hn, F2, kvs, e2, w2, hF2, hoD, hH2, r2⟩
  -- the new dict's place is owned meanwhile
  have w2' : Wo X.K (ou ow Dl (.dtp ((ds.take n).map fun d => (kf d, vf d)))) F2 H2 := ⟨w2.ex, fun a u q => by
    by_cases z : a = Dl
    · subst z
      rw [ou_same] at q
      cases q
      exact ⟨hF2, kvs, hH2, r2⟩
    · rw [ou_ne z] at q
      exact w2.own a u q⟩
  have sub : Sub ow (ou ow Dl (.dtp ((ds.take n).map fun d => (kf d, vf d)))) := fun a u q => by
    rw [ou_ne (fun z => by rw [z, hoD] at q; cases q)]
    exact q
  obtain ⟨stop, go⟩ := src F2 H2 _ n e2 w2'
  by_cases hlt : n < ds.length
  · have hdi : ds[n]? = some ds[n] := by simp [hlt]
    have htk : ds.take (n + 1) = ds.take n ++ [ds[n]] := by rw [List.take_add_one, hdi]; rfl
    obtain ⟨hgo, hy⟩ := go ds[n] hdi
    refine .inr ⟨hgo, fun H3 => ∃ F3 kvs, Ex F1 F3 ∧ Wo X.K ow F3 H3 ∧ F3 Dl = none ∧ ow Dl = none ∧ H3 Dl = some (.dT kvs) ∧ Rpt X.K F3 kvs ((ds.take (n + 1)).map fun d => (kf d, vf d)), fun H3 q => ⟨ds.length - (n + 1), by omega, rfl, hlt, q⟩, fun x H3 hx => ?_⟩
    obtain ⟨F3, e3, w3, r3⟩ := hy x H3 hx
    have sl : Sl X.K F3 ((L2.wipe σ [j]).set j (some x)) ((env.set j none).set j (some ds[n])) := (((s.mono (e1.trans (e2.trans e3))).unset j).set r3 j)
    have hmem : ds[n] ∈ ds := List.getElem_mem hlt
    refine ⟨wipe_one, fun s0 H0 C cl fp => hk ds[n] _ hmem sub s0 H0 C cl fp _ F3 H3 _ sl w3 fun F4 H4 ky e4 w4 rk => ?_⟩
    intro s1 H01 C1 cl1 fp1
    refine hv ds[n] _ hmem sub s1 H01 C1 cl1 fp1 _ F4 H4 _ (sl.mono e4) w4 fun F5 H5 z e5 w5 rz => ?_
    cases rk with
    | @tupF b xs l g4 rks =>
    have zk := rks.keys
    subst zk
    obtain ⟨n5, kv5, h5, s5⟩ := w5.own Dl _ ou_same
    have len5 : kv5.length = n := by
      rw [s5.length, List.length_map, List.length_take]
      omega
    have fresh : kf ds[n] ∉ kv5.map (·.1) := by
      rw [s5.keys, List.map_map]
      intro hm
      obtain ⟨c, hc1, hc2⟩ := List.mem_map.mp hm
      obtain ⟨m2, hm2, hc3⟩ := List.getElem_of_mem hc1
      rw [List.length_take] at hm2
      rw [List.getElem_take] at hc3
      have e : (ds.map kf)[m2]'(by rw [List.length_map]; omega) = (ds.map kf)[n]'(by rw [List.length_map]; exact hlt) := by
        rw [List.getElem_map, List.getElem_map, hc3]
        exact hc2
      have := (List.getElem_inj nd).mp e
      omega
    refine ⟨kv5, kf ds[n], b, rfl, w5.ex _ _ (e5 _ _ g4), h5, Evl.sz_lt (by omega), F5, _, e2.trans (e3.trans (e4.trans e5)), ?_, n5, hoD, upd_same, ?_⟩
    · rw [put_new _ _ _ fresh]
      exact (w5.setT ou_same (s5.snoc rz)).drop fun a u q => by
        rw [ou_ne (fun z => by rw [z, hoD] at q; cases q)]
        exact sub a u q
    · rw [put_new _ _ _ fresh, htk, List.map_append]
      exact s5.snoc rz
  · have e : n = ds.length := by omega
    subst e
    refine .inl ⟨stop (Nat.le_refl _), Dl, .dT kvs, rfl, hH2, trivial, fun od => ?_⟩
    obtain ⟨kv3, g3, r3, n3, zz⟩ := lock_wo w2' ou_same
    rw [hH2] at g3
    cases g3
    obtain ⟨ex, w4⟩ := zz od
    rw [List.take_length] at r3
    refine k0 _ _ _ (e1.trans (e2.trans ex)) (w4.drop fun a u q => ?_) (.dtp upd_same (r3.mono ex))
    have na : a ≠ Dl := fun z => by rw [z, hoD] at q; cases q
    rw [oz_ne na, ou_ne na]
    exact q
end
def pF (p : Int × Int) : D := .tupF [.int p.1, .int p.2]
def leP (p q : Int × Int) : Prop := p.1 < q.1 ∨ (p.1 = q.1 ∧ p.2 ≤ q.2)
/-- the pair that stands at a place -/
def pairAt (H : Hp) : V → Int × Int
  | .ref t => match H t with
    | some (.tup [.int i, .int j]) => (i, j)
    | _ => (0, 0)
  | _ => (0, 0)
theorem sort_run {X : Cx} {ow : Ow} {F H : Hp} {a : Addr} {xs : List V} {l S : List (Int × Int)} {Q : VK} (w : Wo X.K ow F H) (ha : SqL X.K H a xs) (r : Rps X.K F xs (l.map pF)) (hp : S.Perm l) (hs : S.Pairwise leP) (k : Post X.K ow F (.lst (S.map pF)) Q) : rSortedPO X.K [.ref a] H Q := by
  have at_ : ∀ {ys : List V} {l2 : List (Int × Int)}, Rps X.K F ys (l2.map pF) → ys.map (pairAt H) = l2 := by
    intro ys
    induction ys with
    | nil =>
      intro l2 r2
      cases l2 with
      | nil => rfl
      | cons q l2 => cases r2
    | cons y ys ih =>
      intro l2 r2
      cases l2 with
      | nil => cases r2
      | cons q l2 =>
        cases r2 with
        | cons r3 r4 =>
          cases r3 with
          | @tupF t zs _ g rz =>
            have e := Rps.intsV (l := [q.1, q.2]) rz
            subst e
            rw [List.map_cons, ih r4]
            have z : H t = some (.tup [.int q.1, .int q.2]) := w.ex _ _ g
            show (match H t with | some (.tup [.int i, .int j]) => (i, j) | _ => (0, 0)) :: l2 = _
            rw [z]
  refine ⟨a, xs, pairAt H, rfl, ha, fun x hx => ?_, fun ys p hsr hst hn => ?_⟩
  · obtain ⟨i, hi⟩ := List.getElem?_of_mem hx
    obtain ⟨d, hd, rd⟩ := r.get' hi
    obtain ⟨q, hq, rfl⟩ := List.mem_map.mp (List.mem_of_getElem? hd)
    cases rd with
    | @tupF t zs _ g rz =>
      have e := Rps.intsV (l := [q.1, q.2]) rz
      subst e
      have z : H t = some (.tup [.int q.1, .int q.2]) := w.ex _ _ g
      have y : pairAt H (.ref t) = q := by
        show (match H t with | some (.tup [.int i, .int j]) => (i, j) | _ => (0, 0)) = _
        rw [z]
      exact ⟨t, rfl, by rw [y]; exact z⟩
  · obtain ⟨ds', pd, rd⟩ := Rps.perm hst.perm r
    obtain ⟨l2, rfl⟩ : ∃ l2 : List (Int × Int), ds' = l2.map pF := by
      have all : ∀ d ∈ ds', ∃ q, d = pF q := fun d hd => by
        obtain ⟨q, _, e⟩ := List.mem_map.mp (pd.mem_iff.mp hd)
        exact ⟨q, e.symm⟩
      clear pd rd
      induction ds' with
      | nil => exact ⟨[], rfl⟩
      | cons d ds' ih =>
        obtain ⟨q, rfl⟩ := all d (List.mem_cons_self ..)
        obtain ⟨l2, e⟩ := ih fun d hd => all d (List.mem_cons_of_mem _ hd)
        exact ⟨q :: l2, by rw [e]; rfl⟩
    have e1 := at_ rd
    have e2 := at_ r
    have pl : l2.Perm l := by
      rw [← e1, ← e2]
      exact hst.perm.map _
    have sl : l2.Pairwise leP := by
      rw [← e1, List.pairwise_map]
      refine hsr.imp fun {x y} h => ?_
      have z := SrtO.lexB_no.mp h
      unfold leP
      omega
    obtain rfl : l2 = S := List.Perm.eq_of_pairwise (le := leP) (fun p q _ _ h1 h2 => by
      unfold leP at h1 h2
      exact Prod.ext (by omega) (by omega)) sl hs (pl.trans hp.symm)
    exact k.new w hn (.lst upd_same (rd.mono (w.exnew hn)))
section
variable {X : Cx} {ow : Ow}
/-- of an owned list -/
theorem fo_sortPO {q : Addr} {l S : List (Int × Int)} (hq : ow q = some (.lst (l.map pF))) (hp : S.Perm l) (hs : S.Pairwise leP) : BiOk X ow "sorted" [.ob (.ref q)] (.lst (S.map pF)) := ⟨_, cr_sortedPO, .mk fun F H xs Q w r k => by
  cases r with
  | cons r1 r2 =>
    cases r2
    cases r1
    obtain ⟨_, ys, g, sx⟩ := w.own q _ hq
    exact sort_run w (SqL.of g) sx hp hs k⟩
end
end Vd
set_option Elab.async false
set_option linter.all false
set_option maxRecDepth 100000
set_option maxHeartbeats 4000000
namespace Vd
open PySem L2
open PySem.Spec PyProof.Rows
theorem lit_pairs {prog : Program} {w : World} : ∀ {l : List DictEntry}, PySem.W.KeysLit w.params l → PySem.Pairs (knd := PySem.strKind prog w) l (l.map fun e => (keyS e, e.val))
  | [], _ => .nil
  | e :: l, ⟨⟨x, t, h, _⟩, r⟩ => by
    refine .cons ?_ rfl (lit_pairs r)
    show (PySem.strKind prog w).is (keyS e) e.key = true
    unfold keyS
    rw [h]
    exact PySem.strKind_is prog w x t
section
variable {X : Cx} {ow : Ow} {a b : Expr} {d : D} {pos : Pos}
theorem call_listKd {q : Addr} {es : Array DictEntry} {n : Nat} {ks : List Str} (hc : X.calm = true) (T : KDict X.K X.w q es n) (hks : es.toList.map keyS = ks) (nd : ks.Nodup) (hz : ks.length ≤ 1000) :
    CallR X (.type "list") (fun xs H Q => xs = [.ref q] ∧ ∀ p, H p = none → Q (.ref p) (upd H p (.lst (ks.map V.str)))) := by
  intro pins s σ H xs us Q I r h
  obtain ⟨rfl, k0⟩ := h
  obtain rfl := Vals.ref1 r
  have here : s.heap.DictAt (PySem.strKind X.prog X.w) q (es.toList.map fun e => (keyS e, e.val)) n := by
    refine ⟨_, es, I.kIn _ _ T.at_, ⟨rfl, rfl, rfl⟩, rfl, fun e he => ?_, lit_pairs T.lit, ?_⟩
    · obtain ⟨x, t, e1, e2⟩ := T.lit.all e (Array.mem_toList_iff.mpr he)
      exact ⟨x, by rw [e1]; exact PySem.strKind_is X.prog X.w x t, e2⟩
    · rw [List.map_map]
      show (es.toList.map keyS).Nodup
      rw [hks]
      exact nd
  have len : (es.toList.map fun e => (keyS e, e.val)).length = ks.length := by rw [← hks, List.length_map, List.length_map]
  refine PySem.W.kdl_call (PySem.W.kdl_dict (knd := PySem.strKind X.prog X.w) (kvs := es.toList.map fun e => (keyS e, e.val)) (ep := n) T.low) (I.ok.hd hc) here (by rw [len]; exact Evl.sz_of (by omega)) fun h' tk acc c keep there items => ?_
  have vals : ∀ {us : List Value} {ss : List Str}, us.length = ss.length → (∀ (j : Nat) (v : Value), us[j]? = some v → ∃ x, ss[j]? = some x ∧ Value.isStrOf x v = true) → Vals (ss.map V.str) us := by
    intro us
    induction us with
    | nil =>
      intro ss e _
      cases ss with
      | nil => exact .nil
      | cons _ _ => cases e
    | cons u us ih =>
      intro ss e h
      cases ss with
      | nil => cases e
      | cons x ss =>
        obtain ⟨y, e1, e2⟩ := h 0 u rfl
        cases e1
        obtain ⟨t, rfl⟩ := Value.isStrOf_shape e2
        exact .cons ⟨t, rfl⟩ (ih (by simpa using e) fun j v hj => h (j + 1) v hj)
  have hv : Vals (ks.map V.str) acc.toList := by
    refine vals (by rw [Array.length_toList, items.1, len]) fun j v hj => ?_
    obtain ⟨x, u, e1, e2⟩ := items.2 j v (by rw [← Array.getElem?_toList]; exact hj)
    refine ⟨x, ?_, e2⟩
    rw [← hks]
    rw [List.getElem?_map] at e1 ⊢
    cases z : es.toList[j]? with
    | none => rw [z] at e1; cases e1
    | some e =>
      rw [z] at e1
      have y := Option.some.inj e1
      exact congrArg some (congrArg Prod.fst y)
  exact ⟨.ref s.heap.objs.size, upd H s.heap.objs.size (.lst (ks.map V.str)), I.laid (t' := tk) keep (Nat.le_refl _) ⟨by rw [List.length_map]; exact Evl.sz_of (by omega), acc.toList, c, hv, by rw [Array.toArray_toList]; exact there⟩, rfl, k0 _ (I.hok.fresh (Nat.le_refl _))⟩
theorem to_listKd {q : Addr} {es : Array DictEntry} {n : Nat} {ks : List Str} (hc : X.calm = true) (T : KDict X.K X.w q es n) (hks : es.toList.map keyS = ks) (nd : ks.Nodup) (hz : ks.length ≤ 1000) : TyOk X ow "list" [.ob (.ref q)] (.lst (ks.map D.str)) := ⟨_, call_listKd hc T hks nd hz, .mk fun F H xs Q w r k => by
  cases r with
  | cons r1 r2 =>
    cases r2
    cases r1
    exact ⟨rfl, fun p hp => k.new w hp (.lst upd_same (Rps.strs _))⟩⟩
/-- x // n, n not 0 and small -/
theorem bo_fdiv {i j : Int} (h : j ≠ 0) (h2 : j.natAbs < 1073741824) : BinOk X ow .FloorDiv (.int i) (.int j) (.int (i.fdiv j)) := ⟨_, op_fdivN, .mk fun F H x y Q w r1 r2 k => by
  cases r1
  cases r2
  exact ⟨i, j, rfl, rfl, ⟨h, h2⟩, k.here w (.int _)⟩⟩
end
end Vd
set_option Elab.async false
set_option linter.all false
set_option maxRecDepth 100000
set_option maxHeartbeats 4000000
namespace Vd
open PySem L2
open PySem.Spec PyProof.Rows
/-- the module's def x keeps the promise sp -/
def Df (γ : Gds) (P : Program) (w : World) (K : PySem.W.Frag) (mg : Str → Option Value) (base : Heap) (k : Nat) (x : Str) (ps : List Str) (sp : Sp) : Prop := ∃ f fd, FnG γ P w K mg base CX0 k f fd ps sp ∧ mg x = some (.ref f) ∧ PySem.W.keepIn K (.ref f) = true ∧ Binds K fd ps []
theorem Df.mono {γ : Gds} {P : Program} {w : World} {K : PySem.W.Frag} {mg : Str → Option Value} {base : Heap} {j k : Nat} {x : Str} {ps : List Str} {sp : Sp} (h : Df γ P w K mg base j x ps sp) (l : j ≤ k) : Df γ P w K mg base k x ps sp := by
  obtain ⟨f, fd, a, b, c, d⟩ := h
  exact ⟨f, fd, a.mono l, b, c, d⟩
section
variable {γ : Gds} {X : Cx} {env : List (Option D)} {ow : Ow} {e : Expr} {es : List Expr} {d : D} {ds : List D} {pos p : Pos} {k : Nat} {x : Str} {ps : List Str} {G : List D → Prop} {R : List D → D → Prop}
theorem ve_D (h : Df γ X.prog X.w X.K X.mg X.base k x ps (spR X.K R)) (hgd : γ X.A.guards) (hr : Room k X.A) (hg : Gl X x) (ha : Va X (e :: es) env ow ds) (hR : R ds d)
    (hdb : (x == ("__debug__" : Str)) = false := by decide) (he : starEach (e :: es) X.env = (false, eval e X.env) :: starEach es X.env := by rfl) (hpl : (backTo pos (starEach es X.env)).any (·.1) = false := by rfl) : Ve X (.Call (.Name x p) (e :: es) [] pos) env ow d := by
  obtain ⟨f, fd, Fn, hm, hk, hb⟩ := h
  exact ve_call Fn hgd hr hg hm hk hb .nil pass0 ha (fun F H vs Q w r k0 => by
    rw [List.append_nil]
    exact ⟨F, ow, ds, d, w, r, hR, k0⟩) hdb he hpl
theorem vm_DC {c : Addr} (h : Df γ X.prog X.w X.K X.mg X.base k x ps (spC X.K G R)) (hgd : γ X.A.guards) (hr : Room k X.A) (hg : Gl X x) (ha : Va X (e :: es) env ow (.ob (.ref c) :: ds)) (hc : CupO ow c) (hG : G ds)
    (hdb : (x == ("__debug__" : Str)) = false := by decide) (he : starEach (e :: es) X.env = (false, eval e X.env) :: starEach es X.env := by rfl) (hpl : (backTo pos (starEach es X.env)).any (·.1) = false := by rfl) : Vm X (.Call (.Name x p) (e :: es) [] pos) env ow fun d ow2 => SameO c ow ow2 ∧ CupO ow2 c ∧ R ds d := by
  obtain ⟨f, fd, Fn, hm, hk, hb⟩ := h
  exact vm_draw Fn hgd hr hg hm hk hb ha hc hG hdb he hpl
theorem inV_strs {z : Str} : ∀ l : List Str, inV (.str z) (l.map V.str) = decide (z ∈ l)
  | [] => rfl
  | y :: l => by
    have ih := inV_strs (z := z) l
    unfold inV at ih ⊢
    rw [List.map_cons, List.any_cons, ih]
    have e : eqV (.str y) (.str z) = decide (z = y) := by
      show (y == z) = _
      by_cases h : z = y
      · subst h; simp
      · have h2 : ¬ y = z := fun q => h q.symm
        simp [h, h2]
    rw [e]
    by_cases h : z = y
    · simp [h]
    · simp [h]
theorem flat_strs : ∀ l : List Str, (l.map V.str).all flatV = true
  | [] => rfl
  | y :: l => by rw [List.map_cons, List.all_cons, flat_strs l]; rfl
theorem co_inSL {b : Expr} {z : Str} {l : List Str} (hm : behindInMarks .In b = false) : CmpOk X ow .In b (.str z) (.lst (l.map D.str)) (.bl (decide (z ∈ l))) := ⟨_, op_in_seq, hm, .mk fun F H x y Q w r1 r2 k => by
  cases r1
  cases r2 with
  | lst g s1 =>
    have e := Rps.strsV s1
    subst e
    refine ⟨_, _, rfl, .inl (SqL.of (w.ex _ _ g)), rfl, flat_strs l, ?_⟩
    rw [if_neg Bool.false_ne_true, inV_strs]
    exact k.here w (.bl _)⟩
end
end Vd
set_option Elab.async false
set_option linter.all false
namespace Wk
/-- an order: a turn by so many quarters to the right, or so many steps -/
inductive Od where
  | t (k : Nat) | g (n : Nat)
def Od.ok : Od → Prop
  | .t k => 1 ≤ k ∧ k ≤ 3
  | .g n => 1 ≤ n ∧ n ≤ 9
def Od.isGo : Od → Bool
  | .t _ => false
  | .g _ => true
/-- the ways of one run, from the way w on -/
def run : List Od → Nat → List Nat
  | [], _ => []
  | .t k :: l, w => run l ((w + k) % 4)
  | .g n :: l, w => List.replicate n w ++ run l w
/-- the way behind it -/
def fin : List Od → Nat → Nat
  | [], w => w
  | .t k :: l, w => fin l ((w + k) % 4)
  | .g _ :: l, w => fin l w
def tot : List Od → Nat
  | [] => 0
  | .t k :: l => k + tot l
  | .g _ :: l => tot l
def stp : List Od → Nat
  | [] => 0
  | .t _ :: l => stp l
  | .g n :: l => n + stp l
def runs (l : List Od) : Nat → Nat → List Nat
  | 0, _ => []
  | n + 1, w => run l w ++ runs l n (fin l w)
def fins (l : List Od) : Nat → Nat → Nat
  | 0, w => w
  | n + 1, w => fins l n (fin l w)
variable {l : List Od} {w : Nat}
theorem run_len : ∀ (l : List Od) (w : Nat), (run l w).length = stp l
  | [], _ => rfl
  | .t _ :: l, w => run_len l _
  | .g n :: l, w => by
    show (List.replicate n w ++ run l w).length = n + stp l
    rw [List.length_append, List.length_replicate, run_len l w]
theorem runs_len (l : List Od) : ∀ (n w : Nat), (runs l n w).length = n * stp l
  | 0, _ => by rw [Nat.zero_mul]; rfl
  | n + 1, w => by
    show (run l w ++ runs l n (fin l w)).length = _
    rw [List.length_append, run_len, runs_len l n, Nat.succ_mul, Nat.add_comm]
theorem runs_add (l : List Od) : ∀ (m n w : Nat), runs l (m + n) w = runs l m w ++ runs l n (fins l m w)
  | 0, n, w => by rw [Nat.zero_add]; rfl
  | m + 1, n, w => by
    rw [Nat.add_right_comm]
    show run l w ++ runs l (m + n) (fin l w) = (run l w ++ runs l m (fin l w)) ++ _
    rw [runs_add l m n, List.append_assoc]
    rfl
theorem fins_add (l : List Od) : ∀ (m n w : Nat), fins l (m + n) w = fins l n (fins l m w)
  | 0, n, w => by rw [Nat.zero_add]; rfl
  | m + 1, n, w => by
    rw [Nat.add_right_comm]
    exact fins_add l m n (fin l w)
theorem fin_eq : ∀ (l : List Od) (w : Nat), w < 4 → fin l w = (w + tot l) % 4
  | [], w, h => (Nat.mod_eq_of_lt h).symm
  | .t k :: l, w, h => by
    show fin l ((w + k) % 4) = (w + (k + tot l)) % 4
    rw [fin_eq l _ (Nat.mod_lt _ (by decide))]
    omega
  | .g _ :: l, w, h => fin_eq l w h
theorem fin_lt (h : w < 4) : fin l w < 4 := by
  rw [fin_eq l w h]
  exact Nat.mod_lt _ (by decide)
theorem fins_lt (l : List Od) : ∀ (n w : Nat), w < 4 → fins l n w < 4
  | 0, _, h => h
  | n + 1, _, h => fins_lt l n _ (fin_lt h)
theorem fins_eq (l : List Od) : ∀ (n w : Nat), w < 4 → fins l n w = (w + n * tot l) % 4
  | 0, w, h => by rw [Nat.zero_mul]; exact (Nat.mod_eq_of_lt h).symm
  | n + 1, w, h => by
    show fins l n (fin l w) = _
    rw [fins_eq l n _ (fin_lt h), fin_eq l w h, Nat.succ_mul]
    omega
theorem fins_four (l : List Od) (h : w < 4) : fins l 4 w = w := by
  rw [fins_eq l 4 w h]
  omega
theorem run_lt : ∀ (l : List Od) (w : Nat), w < 4 → ∀ a ∈ run l w, a < 4
  | [], _, _, a, h => by cases h
  | .t k :: l, w, _, a, h => run_lt l _ (Nat.mod_lt _ (by decide)) a h
  | .g n :: l, w, hw, a, h => by
    rcases List.mem_append.mp (show a ∈ List.replicate n w ++ run l w from h) with z | z
    · rw [List.eq_of_mem_replicate z]; exact hw
    · exact run_lt l w hw a z
theorem runs_lt (l : List Od) : ∀ (n w : Nat), w < 4 → ∀ a ∈ runs l n w, a < 4
  | 0, _, _, a, h => by cases h
  | n + 1, w, hw, a, h => by
    rcases List.mem_append.mp (show a ∈ run l w ++ runs l n (fin l w) from h) with z | z
    · exact run_lt l w hw a z
    · exact runs_lt l n _ (fin_lt hw) a z
/-- the way at the time t -/
def way (l : List Od) (w t : Nat) : Nat := ((runs l (t + 1) w)[t]?).getD 0
theorem long (h : 0 < stp l) (t w : Nat) : t < (runs l (t + 1) w).length := by
  rw [runs_len, Nat.succ_mul]
  have : t ≤ t * stp l := Nat.le_mul_of_pos_right _ h
  omega
theorem way_some (h : 0 < stp l) (t w : Nat) : (runs l (t + 1) w)[t]? = some (way l w t) := by
  unfold way
  rw [List.getElem?_eq_getElem (long h t w)]
  rfl
theorem runs_at (h : 0 < stp l) {n t : Nat} (w : Nat) (ht : t < n * stp l) : (runs l n w)[t]? = some (way l w t) := by
  rw [← way_some h]
  have lt := long h t w
  by_cases c : n ≤ t + 1
  · obtain ⟨k, hk⟩ := Nat.exists_eq_add_of_le c
    rw [hk, runs_add, List.getElem?_append_left (by rw [runs_len]; exact ht)]
  · obtain ⟨k, hk⟩ := Nat.exists_eq_add_of_le (Nat.le_of_not_le c)
    rw [hk, runs_add, List.getElem?_append_left lt]
theorem runs_map (h : 0 < stp l) (n w : Nat) : runs l n w = (List.range (n * stp l)).map (way l w) := by
  apply List.ext_getElem?
  intro i
  by_cases c : i < n * stp l
  · rw [runs_at h w c, List.getElem?_map, List.getElem?_range c]
    rfl
  · rw [List.getElem?_eq_none (by rw [runs_len]; omega), List.getElem?_eq_none (by rw [List.length_map, List.length_range]; omega)]
theorem way_lt (h : 0 < stp l) (hw : w < 4) (t : Nat) : way l w t < 4 := runs_lt l (t + 1) w hw _ (List.mem_of_getElem? (way_some h t w))
/-- so many runs as lead back to the way are a period -/
theorem way_per (h : 0 < stp l) {n : Nat} (hn : fins l n w = w) : ∀ t, way l w (t + n * stp l) = way l w t := fun t => by
  have z := runs_at h (n := n + (t + 1)) (t := t + n * stp l) w (by
    have : t ≤ t * stp l := Nat.le_mul_of_pos_right _ h
    rw [Nat.add_mul, Nat.succ_mul]
    omega)
  rw [runs_add, hn, List.getElem?_append_right (by rw [runs_len]; omega), runs_len, Nat.add_sub_cancel, way_some h] at z
  exact (Option.some.inj z).symm
structure IsPer (f : Nat → Nat) (p : Nat) : Prop where
  pos : 0 < p
  per : ∀ t, f (t + p) = f t
  least : ∀ m, 0 < m → (∀ t, f (t + m) = f t) → p ≤ m
theorem per_mul {f : Nat → Nat} {p : Nat} (h : ∀ t, f (t + p) = f t) : ∀ k t, f (t + p * k) = f t
  | 0, t => by rw [Nat.mul_zero]; rfl
  | k + 1, t => by rw [Nat.mul_succ, ← Nat.add_assoc, h, per_mul h k]
theorem per_mod {f : Nat → Nat} {p : Nat} (h : ∀ t, f (t + p) = f t) (t : Nat) : f t = f (t % p) := by
  have z := per_mul h (t / p) (t % p)
  rw [Nat.mod_add_div] at z
  exact z
theorem per_sub {f : Nat → Nat} {m n : Nat} (a : ∀ t, f (t + m) = f t) (b : ∀ t, f (t + n) = f t) (h : n ≤ m) : ∀ t, f (t + (m - n)) = f t := fun t => by
  have z := b (t + (m - n))
  rw [show t + (m - n) + n = t + m by omega] at z
  rw [← z, a]
theorem IsPer.dvd {f : Nat → Nat} {p m : Nat} (h : IsPer f p) (hm : ∀ t, f (t + m) = f t) : p ∣ m := by
  apply Nat.dvd_of_mod_eq_zero
  apply Classical.byContradiction
  intro ne
  have e : m % p = m - p * (m / p) := by
    have := Nat.div_add_mod m p
    omega
  have pm : ∀ t, f (t + m % p) = f t := by
    rw [e]
    exact per_sub hm (fun t => per_mul h.per (m / p) t) (Nat.mul_div_le m p)
  have := h.least (m % p) (by omega) pm
  have := Nat.mod_lt m h.pos
  omega
theorem per_ex (f : Nat → Nat) : ∀ n, 0 < n → (∀ t, f (t + n) = f t) → ∃ p, IsPer f p ∧ p ≤ n := fun n => by
  induction n using Nat.strongRecOn with
  | ind n ih =>
    intro h0 h
    by_cases c : ∃ m, 0 < m ∧ m < n ∧ ∀ t, f (t + m) = f t
    · obtain ⟨m, a, b, z⟩ := c
      obtain ⟨p, hp, hl⟩ := ih m b a z
      exact ⟨p, hp, by omega⟩
    · refine ⟨n, ⟨h0, h, fun m hm z => ?_⟩, Nat.le_refl _⟩
      apply Classical.byContradiction
      intro q
      exact c ⟨m, hm, by omega, z⟩
theorem IsPer.uniq {f : Nat → Nat} {p q : Nat} (a : IsPer f p) (b : IsPer f q) : p = q := Nat.le_antisymm (a.least q b.pos b.per) (b.least p a.pos a.per)
def mx : Nat → Int
  | 1 => 1
  | 3 => -1
  | _ => 0
def my : Nat → Int
  | 0 => 1
  | 2 => -1
  | _ => 0
def px (f : Nat → Nat) : Nat → Int
  | 0 => 0
  | t + 1 => px f t + mx (f t)
def py (f : Nat → Nat) : Nat → Int
  | 0 => 0
  | t + 1 => py f t + my (f t)
theorem mx_le (a : Nat) : -1 ≤ mx a ∧ mx a ≤ 1 := by
  unfold mx
  split <;> omega
theorem my_le (a : Nat) : -1 ≤ my a ∧ my a ≤ 1 := by
  unfold my
  split <;> omega
theorem px_le (f : Nat → Nat) : ∀ t : Nat, -(t : Int) ≤ px f t ∧ px f t ≤ t
  | 0 => ⟨by simp [px], by simp [px]⟩
  | t + 1 => by
    have a := px_le f t
    have b := mx_le (f t)
    show -((t + 1 : Nat) : Int) ≤ px f t + mx (f t) ∧ px f t + mx (f t) ≤ _
    omega
theorem py_le (f : Nat → Nat) : ∀ t : Nat, -(t : Int) ≤ py f t ∧ py f t ≤ t
  | 0 => ⟨by simp [py], by simp [py]⟩
  | t + 1 => by
    have a := py_le f t
    have b := my_le (f t)
    show -((t + 1 : Nat) : Int) ≤ py f t + my (f t) ∧ py f t + my (f t) ≤ _
    omega
theorem px_step {f : Nat → Nat} {p : Nat} (h : ∀ t, f (t + p) = f t) : ∀ t, px f (t + p) = px f p + px f t
  | 0 => by rw [Nat.zero_add]; simp [px]
  | t + 1 => by
    rw [Nat.add_right_comm]
    show px f (t + p) + mx (f (t + p)) = px f p + (px f t + mx (f t))
    rw [px_step h t, h t]
    omega
theorem py_step {f : Nat → Nat} {p : Nat} (h : ∀ t, f (t + p) = f t) : ∀ t, py f (t + p) = py f p + py f t
  | 0 => by rw [Nat.zero_add]; simp [py]
  | t + 1 => by
    rw [Nat.add_right_comm]
    show py f (t + p) + my (f (t + p)) = py f p + (py f t + my (f t))
    rw [py_step h t, h t]
    omega
theorem px_mul {f : Nat → Nat} {p : Nat} (h : ∀ t, f (t + p) = f t) (r : Nat) : ∀ k : Nat, px f (r + p * k) = px f r + (k : Int) * px f p
  | 0 => by simp
  | k + 1 => by
    rw [Nat.mul_succ, ← Nat.add_assoc, px_step h, px_mul h r k, Int.natCast_succ, Int.add_mul]
    omega
theorem py_mul {f : Nat → Nat} {p : Nat} (h : ∀ t, f (t + p) = f t) (r : Nat) : ∀ k : Nat, py f (r + p * k) = py f r + (k : Int) * py f p
  | 0 => by simp
  | k + 1 => by
    rw [Nat.mul_succ, ← Nat.add_assoc, py_step h, py_mul h r k, Int.natCast_succ, Int.add_mul]
    omega
theorem px_div {f : Nat → Nat} {p : Nat} (h : ∀ t, f (t + p) = f t) (t : Nat) : px f t = px f (t % p) + ((t / p : Nat) : Int) * px f p := by
  rw [← px_mul h, Nat.mod_add_div]
theorem py_div {f : Nat → Nat} {p : Nat} (h : ∀ t, f (t + p) = f t) (t : Nat) : py f t = py f (t % p) + ((t / p : Nat) : Int) * py f p := by
  rw [← py_mul h, Nat.mod_add_div]
theorem stp_pos : ∀ {l : List Od}, (∀ o ∈ l, o.ok) → l.any Od.isGo = true → 0 < stp l
  | [], _, h => by cases h
  | .t k :: l, ok, h => stp_pos (l := l) (fun o ho => ok o (List.mem_cons_of_mem _ ho)) h
  | .g n :: l, ok, _ => by
    have z : 1 ≤ n ∧ n ≤ 9 := ok (.g n) (List.mem_cons_self ..)
    show 0 < n + stp l
    omega
theorem stp_le : ∀ {l : List Od}, (∀ o ∈ l, o.ok) → stp l ≤ 9 * l.length
  | [], _ => Nat.le_refl _
  | .t k :: l, ok => by
    have z := stp_le (l := l) fun o ho => ok o (List.mem_cons_of_mem _ ho)
    show stp l ≤ 9 * (l.length + 1)
    omega
  | .g n :: l, ok => by
    have y : 1 ≤ n ∧ n ≤ 9 := ok (.g n) (List.mem_cons_self ..)
    have z := stp_le (l := l) fun o ho => ok o (List.mem_cons_of_mem _ ho)
    show n + stp l ≤ 9 * (l.length + 1)
    omega
/-- a row of orders as it is passed -/
structure Row (l : List Od) : Prop where
  ok : ∀ o ∈ l, o.ok
  go : l.any Od.isGo = true
  le : l.length ≤ 8
theorem Row.pos (r : Row l) : 0 < stp l := stp_pos r.ok r.go
theorem Row.stp (r : Row l) : stp l ≤ 72 := by
  have := stp_le r.ok
  have := r.le
  omega
theorem Row.ne (r : Row l) : l ≠ [] := fun e => by
  have z := r.go
  rw [e] at z
  cases z
theorem Row.per (r : Row l) (hw : w < 4) : ∃ p, IsPer (way l w) p ∧ p ≤ 288 := by
  obtain ⟨p, hp, hl⟩ := per_ex (way l w) (4 * Wk.stp l) (by have := r.pos; omega) (way_per r.pos (fins_four l hw))
  exact ⟨p, hp, by have := r.stp; omega⟩
end Wk
set_option Elab.async false
set_option linter.all false
namespace Per
def P (f : Nat → Bool) (m : Nat) : Prop := ∀ x, f (x + m) = f x
variable {f : Nat → Bool} {m n : Nat}
theorem P.zero (f : Nat → Bool) : P f 0 := fun x => rfl
theorem P.add (a : P f m) (b : P f n) : P f (m + n) := fun x => by rw [← Nat.add_assoc, b, a]
theorem P.mul (a : P f m) : ∀ k : Nat, P f (k * m)
  | 0 => by rw [Nat.zero_mul]; exact P.zero f
  | k + 1 => by rw [Nat.succ_mul]; exact (P.mul a k).add a
theorem P.dvd (a : P f m) (h : m ∣ n) : P f n := by
  obtain ⟨k, rfl⟩ := h
  rw [Nat.mul_comm]
  exact a.mul k
theorem P.sub (a : P f m) (b : P f n) (h : n ≤ m) : P f (m - n) := fun x => by
  have z := b (x + (m - n))
  have e : x + (m - n) + n = x + m := by omega
  rw [e] at z
  rw [← z, a]
theorem P.mod (a : P f m) (b : P f n) : P f (m % n) := by
  have e : m % n = m - n * (m / n) := by
    have := Nat.div_add_mod m n
    omega
  rw [e]
  exact a.sub (b.dvd (Nat.dvd_mul_right _ _)) (Nat.mul_div_le m n)
theorem P.gcd (a : P f m) (b : P f n) : P f (Nat.gcd m n) := by
  induction m, n using Nat.gcd.induction with
  | H0 n => rw [Nat.gcd_zero_left]; exact b
  | H1 m n hm ih => rw [Nat.gcd_rec]; exact ih (b.mod a) a
def Prm (p : Nat) : Prop := 2 ≤ p ∧ ∀ d, d ∣ p → d = 1 ∨ d = p
theorem prm_ex (n : Nat) : 2 ≤ n → ∃ p, Prm p ∧ p ∣ n := by
  induction n using Nat.strongRecOn with
  | ind n ih =>
    intro h
    by_cases hp : Prm n
    · exact ⟨n, hp, Nat.dvd_refl n⟩
    · have : ∃ d, d ∣ n ∧ d ≠ 1 ∧ d ≠ n := by
        apply Classical.byContradiction
        intro no
        apply hp
        refine ⟨h, fun d hd => ?_⟩
        apply Classical.byContradiction
        intro q
        exact no ⟨d, hd, fun z => q (.inl z), fun z => q (.inr z)⟩
      obtain ⟨d, hd, h1, h2⟩ := this
      have pos : 0 < d := Nat.pos_of_dvd_of_pos hd (by omega)
      have le := Nat.le_of_dvd (by omega) hd
      obtain ⟨p, hp, hpd⟩ := ih d (by omega) (by omega)
      exact ⟨p, hp, Nat.dvd_trans hpd hd⟩
/-- a period that no prime makes shorter divides every period -/
theorem least (hn : 0 < n) (h : P f n) (irr : ∀ p, Prm p → p ∣ n → ¬ P f (n / p)) (hm : P f m) : n ∣ m := by
  have hg := hm.gcd h
  obtain ⟨k, hk⟩ := Nat.gcd_dvd_right m n
  by_cases k1 : k = 1
  · rw [k1, Nat.mul_one] at hk
    rw [hk]
    exact Nat.gcd_dvd_left m n
  · have k0 : k ≠ 0 := by
      intro z
      rw [z, Nat.mul_zero] at hk
      omega
    obtain ⟨p, hp, q, hq⟩ := prm_ex k (by omega)
    have pp : 0 < p := by have := hp.1; omega
    have e : n = p * (Nat.gcd m n * q) := by
      rw [hq] at hk
      rw [Nat.mul_left_comm]
      exact hk
    have e2 : n / p = Nat.gcd m n * q := by
      conv => lhs; rw [e]
      exact Nat.mul_div_cancel_left _ pp
    refine absurd ?_ (irr p hp ⟨_, e⟩)
    rw [e2]
    exact hg.dvd (Nat.dvd_mul_right _ _)
def Asc (l : List Nat) : Prop := l.Pairwise (· < ·)
theorem asc_ext : ∀ {l k : List Nat}, Asc l → Asc k → (∀ x, x ∈ l ↔ x ∈ k) → l = k
  | [], [], _, _, _ => rfl
  | [], b :: k, _, _, h => absurd ((h b).mpr (List.mem_cons_self ..)) (by simp)
  | a :: l, [], _, _, h => absurd ((h a).mp (List.mem_cons_self ..)) (by simp)
  | a :: l, b :: k, hl, hk, h => by
    have hl1 := List.pairwise_cons.mp hl
    have hk1 := List.pairwise_cons.mp hk
    have e : a = b := by
      rcases List.mem_cons.mp ((h a).mp (List.mem_cons_self ..)) with z | z
      · exact z
      · rcases List.mem_cons.mp ((h b).mpr (List.mem_cons_self ..)) with y | y
        · exact y.symm
        · have z1 := hk1.1 a z
          have z2 := hl1.1 b y
          omega
    subst e
    rw [asc_ext hl1.2 hk1.2 fun x => ?_]
    constructor
    · intro hx
      rcases List.mem_cons.mp ((h x).mp (List.mem_cons_of_mem _ hx)) with z | z
      · have := hl1.1 x hx
        omega
      · exact z
    · intro hx
      rcases List.mem_cons.mp ((h x).mpr (List.mem_cons_of_mem _ hx)) with z | z
      · have := hk1.1 x hx
        omega
      · exact z
/-- so many copies of a list, each one moved by s from the one ahead -/
def blk (B : List Nat) (s : Nat) : Nat → List Nat
  | 0 => []
  | k + 1 => B ++ (blk B s k).map (· + s)
theorem blk_len {B : List Nat} {s : Nat} : ∀ k : Nat, (blk B s k).length = k * B.length
  | 0 => by simp [blk]
  | k + 1 => by rw [blk, List.length_append, List.length_map, blk_len k, Nat.succ_mul]; omega
theorem mem_blk {B : List Nat} {s x : Nat} (hs : 0 < s) (hB : ∀ b ∈ B, b < s) : ∀ k : Nat, x ∈ blk B s k ↔ x < k * s ∧ x % s ∈ B
  | 0 => by simp [blk]
  | k + 1 => by
    rw [blk, List.mem_append, List.mem_map, Nat.succ_mul]
    constructor
    · rintro (h | ⟨y, hy, rfl⟩)
      · have := hB x h
        exact ⟨by omega, by rw [Nat.mod_eq_of_lt this]; exact h⟩
      · obtain ⟨z1, z2⟩ := (mem_blk hs hB k).mp hy
        exact ⟨by omega, by rw [Nat.add_mod_right]; exact z2⟩
    · rintro ⟨h1, h2⟩
      by_cases q : x < s
      · left
        rw [Nat.mod_eq_of_lt q] at h2
        exact h2
      · right
        refine ⟨x - s, (mem_blk hs hB k).mpr ⟨by omega, ?_⟩, by omega⟩
        have e : x = (x - s) + s := by omega
        rw [e, Nat.add_mod_right] at h2
        exact h2
theorem asc_blk {B : List Nat} {s : Nat} (hs : 0 < s) (hB : ∀ b ∈ B, b < s) (a : Asc B) : ∀ k : Nat, Asc (blk B s k)
  | 0 => List.Pairwise.nil
  | k + 1 => by
    rw [blk]
    refine List.pairwise_append.mpr ⟨a, ?_, ?_⟩
    · rw [List.pairwise_map]
      exact (asc_blk hs hB a k).imp fun h => by omega
    · intro x hx y hy
      obtain ⟨z, _, rfl⟩ := List.mem_map.mp hy
      have := hB x hx
      omega
theorem blk_snoc {B : List Nat} {s : Nat} : ∀ k : Nat, blk B s (k + 1) = blk B s k ++ B.map (· + k * s)
  | 0 => by simp [blk]
  | k + 1 => by
    show B ++ (blk B s (k + 1)).map (· + s) = (B ++ (blk B s k).map (· + s)) ++ B.map (· + (k + 1) * s)
    rw [blk_snoc k, List.map_append, List.map_map, ← List.append_assoc]
    congr 1
    apply List.map_congr_left
    intro x _
    show x + k * s + s = x + (k + 1) * s
    rw [Nat.succ_mul]
    omega
/-- what the program asks of the marks: c of them in each of k parts of s -/
def Rep (M : List Nat) (k s c : Nat) : Prop := c * k = M.length ∧ M.drop c = (M.take (M.length - c)).map (· + s)
def fn (n : Nat) (M : List Nat) : Nat → Bool := fun x => decide (x % n ∈ M)
theorem fn_mem {n x : Nat} {M : List Nat} : fn n M x = true ↔ x % n ∈ M := by simp [fn]
theorem fn_P {n : Nat} {M : List Nat} : P (fn n M) n := fun x => by simp [fn]
section
variable {M : List Nat} {k s c : Nat}
theorem P_rep (hs : 0 < s) (hk : 0 < k) (a : Asc M) (hM : ∀ x ∈ M, x < k * s) (h : P (fn (k * s) M) s) : Rep M k s (M.length / k) := by
  have hB : ∀ b ∈ M.filter (· < s), b < s := fun b hb => by simpa using (List.mem_filter.mp hb).2
  have hsk : s ≤ k * s := Nat.le_mul_of_pos_left s hk
  have low : ∀ x, fn (k * s) M x = fn (k * s) M (x % s) := fun x => by
    have z := h.mul (x / s) (x % s)
    have y : x % s + x / s * s = x := by
      have := Nat.div_add_mod x s
      rw [Nat.mul_comm] at this
      omega
    rw [y] at z
    exact z
  have e : M = blk (M.filter (· < s)) s k := by
    refine asc_ext a (asc_blk hs hB (a.filter _) k) fun x => ?_
    rw [mem_blk hs hB, List.mem_filter]
    constructor
    · intro hx
      have lt := hM x hx
      have f1 : fn (k * s) M x = true := fn_mem.mpr (by rw [Nat.mod_eq_of_lt lt]; exact hx)
      rw [low x] at f1
      have f2 := fn_mem.mp f1
      have l2 : x % s < s := Nat.mod_lt _ hs
      rw [Nat.mod_eq_of_lt (Nat.lt_of_lt_of_le l2 hsk)] at f2
      exact ⟨lt, f2, by simpa using l2⟩
    · rintro ⟨lt, hx, _⟩
      have l2 : x % s < s := Nat.mod_lt _ hs
      have f1 : fn (k * s) M (x % s) = true := fn_mem.mpr (by rw [Nat.mod_eq_of_lt (Nat.lt_of_lt_of_le l2 hsk)]; exact hx)
      rw [← low x] at f1
      have f2 := fn_mem.mp f1
      rw [Nat.mod_eq_of_lt lt] at f2
      exact f2
  have len : M.length = k * (M.filter (· < s)).length := by
    conv => lhs; rw [e]
    exact blk_len k
  have q : M.length / k = (M.filter (· < s)).length := by
    rw [len]
    exact Nat.mul_div_cancel_left _ hk
  rw [q]
  refine ⟨by rw [len, Nat.mul_comm], ?_⟩
  obtain ⟨B, hBd⟩ : ∃ B, B = M.filter (· < s) := ⟨_, rfl⟩
  rw [← hBd] at e len ⊢
  obtain ⟨j, rfl⟩ : ∃ j, k = j + 1 := ⟨k - 1, by omega⟩
  have d1 : M.drop B.length = (blk B s j).map (· + s) := by
    rw [e, blk, List.drop_left]
  have d2 : M.take (M.length - B.length) = blk B s j := by
    have l2 : M.length - B.length = (blk B s j).length := by
      rw [len, blk_len, Nat.succ_mul]
      omega
    rw [l2, e, blk_snoc, List.take_left]
  rw [d1, d2]
end
/-- the pattern is told by its set -/
theorem marks_uniq {n : Nat} {M N : List Nat} (hM : Asc M) (hN : Asc N) (lM : ∀ x ∈ M, x < n) (lN : ∀ x ∈ N, x < n) (h : fn n M = fn n N) : M = N := by
  refine asc_ext hM hN fun x => ?_
  constructor
  · intro hx
    have z : fn n M x = true := fn_mem.mpr (by rw [Nat.mod_eq_of_lt (lM x hx)]; exact hx)
    rw [h] at z
    have y := fn_mem.mp z
    rw [Nat.mod_eq_of_lt (lM x hx)] at y
    exact y
  · intro hx
    have z : fn n N x = true := fn_mem.mpr (by rw [Nat.mod_eq_of_lt (lN x hx)]; exact hx)
    rw [← h] at z
    have y := fn_mem.mp z
    rw [Nat.mod_eq_of_lt (lN x hx)] at y
    exact y
/-- a pattern: a length and ascending remainders by it -/
structure Pat (n : Nat) (M : List Nat) : Prop where
  pos : 0 < n
  asc : Asc M
  lt : ∀ x ∈ M, x < n
/-- the same set by the least period -/
structure Lst (n : Nat) (M : List Nat) (n' : Nat) (M' : List Nat) : Prop where
  pat : Pat n' M'
  eq : fn n' M' = fn n M
  min : ∀ m, 0 < m → P (fn n M) m → n' ≤ m
theorem Lst.uniq {n : Nat} {M : List Nat} {a b : Nat} {A B : List Nat} (h1 : Lst n M a A) (h2 : Lst n M b B) : a = b ∧ A = B := by
  have pa : P (fn n M) a := by rw [← h1.eq]; exact fn_P
  have pb : P (fn n M) b := by rw [← h2.eq]; exact fn_P
  have z1 := h1.min b h2.pat.pos pb
  have z2 := h2.min a h1.pat.pos pa
  have e : a = b := by omega
  subst e
  exact ⟨rfl, marks_uniq h1.pat.asc h2.pat.asc h1.pat.lt h2.pat.lt (h1.eq.trans h2.eq.symm)⟩
theorem Pat.stop {n k : Nat} {M : List Nat} (p : Pat n M) (hk : 0 < k) (d : k ∣ n) (h : ¬ Rep M k (n / k) (M.length / k)) : ¬ P (fn n M) (n / k) := fun q => by
  have e : k * (n / k) = n := Nat.mul_div_cancel' d
  have hs : 0 < n / k := Nat.div_pos (Nat.le_of_dvd p.pos d) hk
  refine h (P_rep hs hk p.asc (fun x hx => by rw [e]; exact p.lt x hx) ?_)
  rw [e]
  exact q
end Per
set_option Elab.async false
set_option linter.all false
set_option maxRecDepth 100000
set_option maxHeartbeats 4000000
namespace Vd
open PySem L2
open PySem.Spec PyProof.Rows
section
variable {X : Cx} {B : Hp} {env : List (Option D)} {ow : Ow} {e : Expr} {d1 d2 d : D} {pos : Pos} {Dn : Ends} {rest : List Stmt}
theorem pg_two {x y : Str} {p1 p2 tp : Pos} {kk i j : Nat} (hc : X.calm = true) (hN : X.N.Nodup) (hi : X.N[i]? = some x) (hj : X.N[j]? = some y) (hx : Loc X.env.scope x) (hy : Loc X.env.scope y)
    (fx : X.fn x = true ∨ X.env.scope.names.lookup x = some .local := by first | exact .inl rfl | exact .inr rfl) (fy : X.fn y = true ∨ X.env.scope.names.lookup y = some .local := by first | exact .inl rfl | exact .inr rfl) :
    PG X (.Tuple [.Name x p1, .Name y p2] kk tp) (gTup X.K 2 (gCons (gName i) (gCons (gName j) gNil))) := pg_tup hc (pgs_cons (pg_name hN hi hx (hf := fx)) (pgs_cons (pg_name hN hj hy (hf := fy)) pgs_nil))
/-- a, b = e -/
theorem rn_two {x y : Str} {p1 p2 tp : Pos} {kk : Nat} (i j : Nat) (hc : X.calm = true) (hN : X.N.Nodup) (hi : X.N[i]? = some x) (hj : X.N[j]? = some y) (hx : Loc X.env.scope x) (hy : Loc X.env.scope y) (h : Ve X e env ow (.tup [d1, d2])) (k : ∀ B', Ex B B' → Rn X B' rest Dn ((env.set i (some d1)).set j (some d2)) ow)
    (fx : X.fn x = true ∨ X.env.scope.names.lookup x = some .local := by first | exact .inl rfl | exact .inr rfl) (fy : X.fn y = true ∨ X.env.scope.names.lookup y = some .local := by first | exact .inl rfl | exact .inr rfl)
    (hs : swapsWithSole [.Tuple [.Name x p1, .Name y p2] kk tp] e pos.line X.env = pure false := by rfl) (hw : swappedStores [.Tuple [.Name x p1, .Name y p2] kk tp] e X.env = pure none := by rfl)
    (h1 : (assignEach [.Tuple [.Name x p1, .Name y p2] kk tp] X.env).map (·.2) = [assign (.Tuple [.Name x p1, .Name y p2] kk tp) X.env] := by rfl) : Rn X B (.Assign [.Tuple [.Name x p1, .Name y p2] kk tp] e pos :: rest) Dn env ow :=
  rn_asg (pg_two hc hN hi hj hx hy fx fy) h (gd_two i j) k hs hw h1
end
end Vd
set_option Elab.async false
set_option linter.all false
set_option maxRecDepth 100000
set_option maxHeartbeats 4000000
namespace Vd
open PySem L2
open PySem.Spec PyProof.Rows
section
variable {X : Cx} {env : List (Option D)} {ow : Ow} {e : Expr} {d : D} {pos : Pos} {C q : Addr} {fl : List (Str × D)} {f : Str}
/-- o.f of an owned object -/
theorem ve_atO (c : Cls X.K C) (n : NoAttr X.K C f) (h : Ve X e env ow (.ob (.ref q))) (hq : ow q = some (.ins C fl)) (hl : fl.lookup f = some d) (hb : attributeBase e f X.env (eval e X.env) = eval e X.env := by rfl) : Ve X (.Attribute e f pos) env ow d := .mk fun σ F H Q s w k0 => wpe (pe_fld pe_can hb) (h σ F H _ s w fun F1 H1 v e1 w1 r1 => by
  cases r1
  obtain ⟨_, dx, fs, g1, r2⟩ := w1.own q _ hq
  obtain ⟨y, hy, ry⟩ := r2.look hl
  exact ⟨_, _, _, _, y, rfl, g1, c, n, hy, (k0.ex e1).here w1 ry⟩)
end
section
variable {γ : Gds} {P : Program} {w : World} {K : PySem.W.Frag} {mg : Str → Option Value} {base : Heap} {k n : Nat} {f C : Addr} {fd : FuncData} {x qual : Str} {st : Stmt} {N ps ks : List Str} {dvs : List V} {kws : List (Str × V)}
/-- a def with defaults, by its body -/
theorem fnG_ofD {CX : CXT} {sp : Sp} (Fn : FunD K x qual (defArgs st) (defBody st) (defScope st) dvs kws f fd) (S : FnScope N ps (defScope st)) (len : ∀ vs H Q E, sp vs H Q E → vs.length = ps.length)
    (hbody : ∀ (cdv : Value) (A : Around) (outer : List Env) (s : Shared) (H : Hp) (vs : List V) (Q : VK) (E : XK), γ A.guards → Room k (A.deeper (envOfC qual (defScope st) s.heap.objs.size f cdv)) → sp vs H Q E →
      ∃ t, PSs (cxOf CX P w K mg base N qual (defScope st) f cdv A outer s H E) (defBody st) t ∧ t { nx := fun _ H' => Q .non H', rt := Q } (start N vs) H) : FnG γ P w K mg base CX (k + 1) f fd ps sp := by
  obtain ⟨oc, od, dV, kV, doc, pm, an, cdv, ct, osl, rfl, lk, hcd, _, _⟩ := Fn.ex
  refine ⟨len, fun A outer s H args us vs Q E hgd hr e0 hb r hsp => ?_⟩
  have inK : K.In s.heap := e0.mod.kin.keeps fun b o e => (e0.bs b o e).1
  have kinds : ∀ y ∈ ps.zip us, (defScope st).names.lookup y.1 = some .local ∨ ((defScope st).names.lookup y.1 = some .cell ∧ ((cellsFrom (s.heap.objs.size + 1) (defScope st).names []).lookup y.1).isSome = true) := fun ⟨nm, v⟩ hy => by
    rcases S.par nm (List.of_mem_zip hy).1 with q | q
    · exact .inl q
    · exact .inr ⟨q, PySem.W.cellsFrom_some _ _ _ (.inl q)⟩
  refine codeAny_call_function hr.depth (inK _ _ lk) rfl S.co S.gen rfl (PySem.W.codeRec_of inK hcd) (hb _ _ _ _ ?_)
  refine wpAny_newFunctionEnv_cells S.kind kinds fun env he s1 z => ?_
  subst he
  refine ⟨(e0.mod.nolimit.keeps fun b o e => (e0.bs b o e).1).keeps z.toInCall.keep, codeAny_func ?_⟩
  obtain ⟨t, ht, hq⟩ := hbody cdv A outer s H vs Q E hgd (hr.deeper _) hsp
  refine wpAny_mono (ht.run [] s1 (start N vs) H _ (inv_start S hr.hd e0 (len _ _ _ _ hsp) r z) hq) (fun fl s' hs => ?_) fun e s' hs => hs
  match fl, hs with
  | .ret u, ⟨v, σ', H', J, rv, q⟩ => exact ⟨v, H', J.os, J.bare, J.base, J.hok, rv, q⟩
  | .next, ⟨σ', H', J, q⟩ => exact ⟨.non, H', J.os, J.bare, J.base, J.hok, rfl, q⟩
  | .brk, ⟨_, _, _, q⟩ => exact q.elim
  | .cont, ⟨_, _, _, q⟩ => exact q.elim
/-- the promise of an __init__: the object, owned and bare, then data -/
def spIn (K : PySem.W.Frag) (C : Addr) (R : List D → List (Str × D) → Prop) : Sp := fun vs H Q _ => ∃ x ws F ow ds fl, vs = .ref x :: ws ∧ Wo K (ou ow x (.ins C [])) F H ∧ Rps K F ws ds ∧ R ds fl ∧ ∀ F2 H2, Ex F F2 → Wo K (ou ow x (.ins C fl)) F2 H2 → Q .non H2
theorem okIn {R : List D → List (Str × D) → Prop} (Fn : FunD K x qual (defArgs st) (defBody st) (defScope st) dvs kws f fd) (S : FnScope N ps (defScope st)) (len : ∀ ds fl, R ds fl → ds.length + 1 = ps.length)
    (body : ∀ (cdv : Value) (A : Around) (outer : List Env) (s : Shared) (H B : Hp) (ow : Ow) (x : Addr) (ds : List D) (fl : List (Str × D)) (Q : VK) (E : XK), γ A.guards → Room k (A.deeper (envOfC qual (defScope st) s.heap.objs.size f cdv)) → R ds fl → (∀ F2 H2, Ex B F2 → Wo K (ou ow x (.ins C fl)) F2 H2 → Q .non H2) →
      Rn (cxOf CX0 P w K mg base N qual (defScope st) f cdv A outer s H E).nox B (defBody st) { nx := fun _ H' => Q .non H', rt := Q } (env0 N (.ob (.ref x) :: ds)) (ou ow x (.ins C []))) : FnG γ P w K mg base CX0 (k + 1) f fd ps (spIn K C R) :=
  fnG_ofD Fn S (fun vs H Q E ⟨x, ws, F, ow, ds, fl, e, _, r, hR, _⟩ => by rw [e, List.length_cons, r.length]; exact len ds fl hR) fun cdv A outer s H vs Q E hgd hr ⟨x, ws, F, ow, ds, fl, e, wo, r, hR, kQ⟩ => by
    subst e
    exact ⟨_, pss_can.nox, (body cdv A outer s H F ow x ds fl Q E hgd hr hR kQ) (start N _) F H (Evl.Ex.refl F) (Sl.start (.cons (.ob _) r)) wo⟩
/-- the same as a promise by position and by keyword: the defaults dvs fill up -/
theorem inS_of {R : List D → List (Str × D) → Prop} {T : Addr} {oT : Obj} {its : List Value} {nT : Nat} {dd : List D} (F : FnG γ P w K mg base CX0 k f fd ps (spIn K C R)) (g : {α : Type} → List α → List α → List α → List α)
    (lT : K.lookup T = some oT) (dT : oT.data = .seq its.toArray nT) (rT : Vals dvs its) (rD : ∀ F, Rps K F dvs dd)
    (gr : ∀ {vs ds zs : List V} {us ts ws : List Value}, Vals vs us → Vals ds ts → Vals zs ws → Vals (g vs ds zs) (g us ts ws)) (gd : ∀ {F : Hp} {vs ds zs : List V} {us ts ws : List D}, Rps K F vs us → Rps K F ds ts → Rps K F zs ws → Rps K F (g vs ds zs) (g us ts ws))
    (hb : ∀ (x : Value) (us ws : List Value), us.length = n → ws.length = ks.length → ∃ kk, bindArgs fd ⟨x :: us, ks.zip ws⟩ = seqItems? (.ref T) >>= kk ∧ kk (some its.toArray) = pure (ps.zip (x :: g us its ws))) :
    InS γ P w K mg base k f ks (spI K C fun ds kd fl => ds.length = n ∧ R (g ds dd kd) fl) := by
  intro A outer s H us ws vs zs x Q hgd hr e0 r rz hl hsp
  obtain ⟨F1, ow, ds, kd, fl, wo, rds, rkd, ⟨hn, hR⟩, _, kQ⟩ := hsp
  have KX : K.In s.heap := e0.mod.kin.keeps fun b o e => (e0.bs b o e).1
  have l1 : us.length = n := by rw [← r.length, rds.length, hn]
  have l2 : ws.length = ks.length := by rw [← rz.length]; exact hl
  obtain ⟨kk, e1, e2⟩ := hb (.ref x) us ws l1 l2
  exact F.run A outer s H ⟨.ref x :: us, ks.zip ws⟩ (.ref x :: g us its ws) (.ref x :: g vs dvs zs) Q E0 hgd hr e0 (BindsTo.of_looks fun M => by rw [e1]; exact looks_items KX lT dT (.of_pure e2)) (.cons rfl (gr r rT rz)) ⟨x, _, F1, ow, _, fl, rfl, wo, gd rds (rD F1) rkd, hR, kQ⟩
end
end Vd
set_option Elab.async false
set_option linter.all false
set_option maxRecDepth 100000
set_option maxHeartbeats 4000000
namespace Vd
open PySem L2
open PySem.Spec PyProof.Rows
def Pf (γ : Gds) (P : Program) (w : World) (K : PySem.W.Frag) (mg : Str → Option Value) (base : Heap) (C : Addr) (k : Nat) (x : Str) (R : List D → D → Prop) : Prop := ∃ p g fd, PropOf K C x p g ∧ FnG γ P w K mg base CX0 k g fd ["self"] (spR K R) ∧ Binds K fd ["self"] []
section
variable {γ : Gds} {X : Cx} {env : List (Option D)} {ow : Ow} {e o : Expr} {es : List Expr} {d : D} {ds : List D} {pos apos : Pos} {k : Nat} {x : Str} {ps : List Str} {R : List D → D → Prop} {C : Addr} {fl : List (Str × D)}
theorem ve_P (c : Cls X.K C) (h : Pf γ X.prog X.w X.K X.mg X.base C k x R) (hgd : γ X.A.guards) (hr : Room (k + 1) X.A) (he : Ve X e env ow (.ins C fl)) (hR : R [.ins C fl] d) (hab : attributeBase e x X.env (eval e X.env) = eval e X.env := by rfl) : Ve X (.Attribute e x pos) env ow d := by
  obtain ⟨p, g, fd, hp, F, hb⟩ := h
  exact ve_prop c hp F hgd hr hb he hR hab
end
end Vd
set_option Elab.async false
set_option linter.all false
set_option maxRecDepth 100000
set_option maxHeartbeats 4000000
namespace Vd
open PySem L2
open PySem.Spec PyProof.Rows
section
variable {γ : Gds} {X : Cx} {B : Hp} {env : List (Option D)} {ow : Ow} {a b c e o i : Expr} {es : List Expr} {d d1 d2 : D} {ds : List D} {pos : Pos} {rest : List Stmt} {Dn : Ends} {P P' : D → Ow → Prop}
theorem vm_one {op : BoolOp} (h : Vm X a env ow P) : Vm X (.BoolOp op [a] pos) env ow P := .mk fun σ F H Q s w k => wpe (pe_one pe_can) (h σ F H Q s w k)
theorem vm_or {t : Bool} (h : Ve X a env ow (.bl t)) (h1 : t = true → P (.bl true) ow) (h2 : t = false → Vm X (.BoolOp .Or (b :: es) pos) env ow P) : Vm X (.BoolOp .Or (a :: b :: es) pos) env ow P := .mk fun σ F H Q s w k =>
  wpe (pe_or pe_can pe_can) (h σ F H _ s w fun F1 H1 x e1 w1 r1 => by
    cases r1
    refine ⟨t, rfl, ?_⟩
    cases t with
    | false =>
      rw [if_neg Bool.false_ne_true]
      exact h2 rfl σ F1 H1 Q (s.mono e1) w1 fun F2 H2 v d ow2 e2 => k F2 H2 v d ow2 (e1.trans e2)
    | true =>
      rw [if_pos rfl]
      exact k F1 H1 _ _ _ e1 w1 (.bl true) (h1 rfl))
theorem vm_and {t : Bool} (h : Ve X a env ow (.bl t)) (h1 : t = false → P (.bl false) ow) (h2 : t = true → Vm X (.BoolOp .And (b :: es) pos) env ow P) : Vm X (.BoolOp .And (a :: b :: es) pos) env ow P := .mk fun σ F H Q s w k =>
  wpe (pe_and pe_can pe_can) (h σ F H _ s w fun F1 H1 x e1 w1 r1 => by
    cases r1
    refine ⟨t, rfl, ?_⟩
    cases t with
    | true =>
      rw [if_pos rfl]
      exact h2 rfl σ F1 H1 Q (s.mono e1) w1 fun F2 H2 v d ow2 e2 => k F2 H2 v d ow2 (e1.trans e2)
    | false =>
      rw [if_neg Bool.false_ne_true]
      exact k F1 H1 _ _ _ e1 w1 (.bl false) (h1 rfl))
theorem vm_if {t : Bool} (hc : Vt X c env ow t) (h1 : t = true → Vm X a env ow P) (h2 : t = false → Vm X b env ow P) : Vm X (.IfExp c a b pos) env ow P := .mk fun σ F H Q s w k =>
  wpe (pe_ifExp pt_can pe_can pe_can) (hc σ F H _ s w fun F1 H1 e1 w1 => by
    cases t with
    | true =>
      show (if true = true then WpE X a σ H1 Q else WpE X b σ H1 Q)
      rw [if_pos rfl]
      exact h1 rfl σ F1 H1 Q (s.mono e1) w1 fun F2 H2 v d ow2 e2 => k F2 H2 v d ow2 (e1.trans e2)
    | false =>
      show (if false = true then WpE X a σ H1 Q else WpE X b σ H1 Q)
      rw [if_neg Bool.false_ne_true]
      exact h2 rfl σ F1 H1 Q (s.mono e1) w1 fun F2 H2 v d ow2 e2 => k F2 H2 v d ow2 (e1.trans e2))
/-- a drawn number == a number -/
theorem vm_eqI (ha : Vm X a env ow P) (h : ∀ d1 ow2, P d1 ow2 → ∃ i j : Int, d1 = .int i ∧ Ve X b env ow2 (.int j) ∧ P' (.bl (decide (i = j))) ow2) : Vm X (.Compare a [.Eq] [b] pos) env ow P' := .mk fun σ F H Q s w k0 =>
  wpe (pe_cmpR op_eq pe_can pe_can (nomark _)) (ha σ F H _ s w fun F1 H1 x d1 ow2 e1 w1 r1 hp => by
    obtain ⟨i, j, rfl, hb, hp'⟩ := h d1 ow2 hp
    exact hb σ F1 H1 _ (s.mono e1) w1 fun F2 H2 y e2 w2 r2 => rd_eqI F2 H2 x y Q w2 (r1.mono e2) r2 fun F3 H3 v e3 w3 r3 => k0 F3 H3 v _ ow2 ((e1.trans e2).trans e3) w3 r3 hp')
/-- str(a drawn number) -/
theorem vm_strI {x : Str} {p : Pos} (h : Vm X e env ow P) (hg : Gl X x) (hm : X.mg x = none) (hv : bootBuiltins x = some (.type "str")) (hP : ∀ d ow2, P d ow2 → ∃ i : Int, d = .int i ∧ i.natAbs.log2 < 1920 ∧ P' (.str (toString i)) ow2) (hn : x ≠ "__name__" := by decide) (hdb : (x == ("__debug__" : Str)) = false := by decide)
    (he : starEach [e] X.env = (false, eval e X.env) :: starEach [] X.env := by rfl) (hpl : (backTo pos (starEach [] X.env)).any (·.1) = false := by rfl) : Vm X (.Call (.Name x p) [e] [] pos) env ow P' := .mk fun σ F H Q s w k0 =>
  wpe (pe_callTy call_str_int hg hm hv (pa_cons pe_can pa_nil he) hn hdb he hpl) (h σ F H _ s w fun F1 H1 v d ow2 e1 w1 r1 hp => by
    obtain ⟨i, rfl, hl, hp'⟩ := hP d ow2 hp
    cases r1
    exact ⟨i, rfl, hl, k0 F1 H1 _ _ ow2 e1 w1 (.str _) hp'⟩)
/-- o.append(e), e what draws -/
theorem rn_appV {l0 : List D} {q : Addr} {ap cp : Pos} (ho : Ve X o env ow (.ob (.ref q))) (hq : ow q = some (.lst l0)) (he : Vm X e env ow P) (h : ∀ d ow2, P d ow2 → ∃ l, ow2 q = some (.lst l) ∧ l.length < 100000 ∧ ∀ B', Ex B B' → Rn X B' rest Dn env (ou ow2 q (.lst (l ++ [d]))))
    (hbase : attributeBase o "append" X.env (eval o X.env) = eval o X.env := by rfl)
    (hfew : ((backTo cp (starEach [e] X.env)).all (fun x => !x.1) && (backToKw cp (keywordEach [] X.env)).all (fun x => x.1.isSome) && decide ([e].length + ([] : List Keyword).length + (if ([] : List Keyword).isEmpty then 0 else 1) < 30)) = true := by rfl)
    (hline : (ap.endLine == cp.line) = true := by rfl) (hst : starEach [e] X.env = (false, eval e X.env) :: starEach [] X.env := by rfl) (hpl : (backTo cp (starEach [] X.env)).any (·.1) = false := by rfl) (hs : swapsWith (.Call (.Attribute o "append" ap) [e] [] cp) none pos.line X.env = pure false := by rfl) :
    Rn X B (.Expr (.Call (.Attribute o "append" ap) [e] [] cp) pos :: rest) Dn env ow := rn_one ⟨_, ps_expr (pe_bm PySem.F.plainAttrs_list PySem.F.slot_list_append PySem.F.type_list_append mt_append pe_can (pa_cons pe_can pa_nil hst) hbase hfew hline hst hpl) hs, fun σ F H eB s w => ho σ F H _ s w fun F1 H1 v e1 w1 r1 => by
  cases r1
  obtain ⟨_, xs0, g0, _⟩ := w1.own q _ hq
  refine ⟨.inl ⟨rfl, _, SqL.of g0⟩, he σ F1 H1 _ (s.mono e1) w1 fun F2 H2 y d ow2 e2 w2 r2 hp => ?_⟩
  obtain ⟨l, hq2, hl, go⟩ := h d ow2 hp
  obtain ⟨_, xs, g, sx⟩ := w2.own q _ hq2
  exact ⟨q, xs, y, rfl, rfl, g, Evl.sz_lt (by rw [sx.length]; exact hl), go F2 (eB.trans (e1.trans e2)) σ F2 _ (Evl.Ex.refl F2) (s.mono (e1.trans e2)) (w2.setL hq2 (sx.append (.cons r2 .nil)))⟩⟩
/-- o[i] = e, both drawn -/
theorem rn_setiM {P2 : D → D → Ow → Prop} {q : Addr} {sp : Pos} (h : Vm X e env ow P) (ho : ∀ ow2, Ve X o env ow2 (.ob (.ref q))) (hi : ∀ d ow2, P d ow2 → Vm X i env ow2 (P2 d)) (k : ∀ d di ow3, P2 d di ow3 → ∃ n l j, di = .int n ∧ ow3 q = some (.lst l) ∧ ixN l.length n = some j ∧ ∀ B', Ex B B' → Rn X B' rest Dn env (ou ow3 q (.lst (l.set j d))))
    (hg : PG X (.Subscript o i sp) (gSub (WpE X o) (WpE X i) rSetL))
    (hs : swapsWithSole [.Subscript o i sp] e pos.line X.env = pure false := by rfl) (hw : swappedStores [.Subscript o i sp] e X.env = pure none := by rfl) (h1 : (assignEach [.Subscript o i sp] X.env).map (·.2) = [assign (.Subscript o i sp) X.env] := by rfl) :
    Rn X B (.Assign [.Subscript o i sp] e pos :: rest) Dn env ow := rn_one ⟨_, ps_asg pe_can hg hs hw h1, fun σ F H eB s w => h σ F H _ s w fun F1 H1 v d ow2 e1 w1 r1 hp => ho ow2 σ F1 H1 _ (s.mono e1) w1 fun F2 H2 ov e2 w2 r2 => hi d ow2 hp σ F2 H2 _ (s.mono (e1.trans e2)) w2 fun F3 H3 iv di ow3 e3 w3 r3 hp3 => by
  obtain ⟨n, l, j, rfl, hq, hj, go⟩ := k d di ow3 hp3
  cases r2
  cases r3
  obtain ⟨_, xs, g, sx⟩ := w3.own q _ hq
  exact ⟨q, xs, n, j, rfl, rfl, g, by rw [sx.length]; exact hj, go F3 (eB.trans (e1.trans (e2.trans e3))) σ F3 _ (Evl.Ex.refl F3) (s.mono (e1.trans (e2.trans e3))) (w3.setL hq (sx.set (r1.mono (e2.trans e3)) j))⟩⟩
end
section
variable {γ : Gds} {X : Cx} {env : List (Option D)} {ow : Ow} {e o : Expr} {es : List Expr} {d d1 : D} {ds : List D} {pos apos kpos : Pos} {C g : Addr} {fl : List (Str × D)} {m kn : Str} {fd : FuncData} {ps : List Str} {k : Nat} {R : List D → D → Prop}
/-- o.m(k = e) -/
theorem pe_methK {sp : Sp} {te : TE} {tk : TA} {pl : Sem Bool} (he : PE X o te) (c : Cls X.K C) (hm : Meth X.K C m g) (F : FnG γ X.prog X.w X.K X.mg X.base CX0 k g fd ps sp) (hgd : γ X.A.guards) (hr : Room k X.A) (hb : ∀ (s : Shared) (x : Addr) (u : Value), X.K.In s.heap → BindsTo s fd ⟨[.ref x], [(kn, u)]⟩ (ps.zip [.ref x, u])) (hk : PK X [⟨some kn, e, kpos⟩] tk)
    (hall : (backToKw pos (keywordEach [⟨some kn, e, kpos⟩] X.env)).all (·.1.isSome) = true := by rfl) (hks : (backToKw pos (keywordEach [⟨some kn, e, kpos⟩] X.env)).filterMap (·.1) = [kn] := by rfl)
    (hpl : ((backTo pos (starEach [] X.env)).any (·.1) || (backToKw pos (keywordEach [⟨some kn, e, kpos⟩] X.env)).any (·.1.isNone)) = false := by rfl)
    (ht : eval (.Call (.Attribute o m apos) [] [⟨some kn, e, kpos⟩] pos) X.env = (do let ov ← eval o X.env; standAt apos.atName; let (fn, first) ← holding [ov] (getMethod ov m pl); callWith pos fn first (backTo pos (starEach [] X.env)) (backToKw pos (keywordEach [⟨some kn, e, kpos⟩] X.env))) := by rfl) :
    PE X (.Call (.Attribute o m apos) [] [⟨some kn, e, kpos⟩] pos) (fun σ H Q => te σ H fun x H1 => ∃ a dx fs, x = .ref a ∧ H1 a = some (.ins C dx fs) ∧ fs.lookup m = none ∧ tk σ H1 fun vs H2 => vs.length = 1 ∧ sp (x :: vs) H2 Q E0) := by
  refine ⟨fun pins s σ H Q I h => PySem.W.methodCall_KW (pl := pl) (thn (he.run pins s σ H _ I h) fun u s1 ⟨x, H1, I1, rx, a, dx, fs, ex, ea, l, q⟩ => ?_) ht⟩
  subst ex
  obtain rfl : u = Value.ref a := rx
  refine getmeth_ok I1 ea c hm l (PySem.W.callWith_KW0 (first := [.ref a]) (h₀ := X.base) I.ok.mod.kin hm.kp hall (thn (hk.run pos pins s1 σ H1 _ I1 q) fun us s2 ⟨vs, H2, I2, r, hv, q2⟩ => ⟨I2.kIn, ?_⟩) hpl)
  rw [hks]
  obtain ⟨v, rfl⟩ : ∃ v, vs = [v] := by
    match vs, hv with
    | [v], _ => exact ⟨v, rfl⟩
  obtain ⟨u, rfl, r1⟩ := vals1 r
  refine wpAny_call (codeAny_mono (F.run X.A X.stack s2 H2 ⟨[.ref a], [(kn, u)]⟩ [.ref a, u] [.ref a, v] Q E0 hgd hr I2.env0 (hb s2 a u I2.kIn) (.cons rfl (.cons r1 .nil)) q2) fun r s' hq => ?_)
  match r, hq with
  | .error e, hq => exact pass0 pins σ H2 s2 e s' I2 hq
  | .ok (.ret u), hq => exact I2.after hq
theorem ve_methK {pl : Sem Bool} (c : Cls X.K C) (hm : Meth X.K C m g) (F : FnG γ X.prog X.w X.K X.mg X.base CX0 k g fd ps (spR X.K R)) (hgd : γ X.A.guards) (hr : Room k X.A) (hb : ∀ (s : Shared) (x : Addr) (u : Value), X.K.In s.heap → BindsTo s fd ⟨[.ref x], [(kn, u)]⟩ (ps.zip [.ref x, u])) (ho : Ve X o env ow (.ins C fl)) (hn : fl.lookup m = none) (hk : Vk X [⟨some kn, e, kpos⟩] env ow [d1]) (hR : R [.ins C fl, d1] d)
    (hall : (backToKw pos (keywordEach [⟨some kn, e, kpos⟩] X.env)).all (·.1.isSome) = true := by rfl) (hks : (backToKw pos (keywordEach [⟨some kn, e, kpos⟩] X.env)).filterMap (·.1) = [kn] := by rfl)
    (hpl : ((backTo pos (starEach [] X.env)).any (·.1) || (backToKw pos (keywordEach [⟨some kn, e, kpos⟩] X.env)).any (·.1.isNone)) = false := by rfl)
    (ht : eval (.Call (.Attribute o m apos) [] [⟨some kn, e, kpos⟩] pos) X.env = (do let ov ← eval o X.env; standAt apos.atName; let (fn, first) ← holding [ov] (getMethod ov m pl); callWith pos fn first (backTo pos (starEach [] X.env)) (backToKw pos (keywordEach [⟨some kn, e, kpos⟩] X.env))) := by rfl) :
    Ve X (.Call (.Attribute o m apos) [] [⟨some kn, e, kpos⟩] pos) env ow d := .mk fun σ F0 H Q s w k0 => by
  obtain ⟨tk, pk, qk⟩ := hk
  refine wpe (pe_methK pe_can c hm F hgd hr hb pk hall hks hpl ht) (ho σ F0 H _ s w fun F1 H1 v e1 w1 r1 => ?_)
  have keep := r1
  cases r1 with
  | @ins a C2 dx fs l g1 r2 =>
    refine ⟨a, dx, fs, rfl, w1.ex _ _ g1, r2.none hn, qk σ F1 H1 _ (s.mono e1) w1 fun F2 H2 vs e2 w2 r3 => ?_⟩
    exact ⟨by rw [r3.length]; rfl, F2, ow, _, d, w2, .cons (keep.mono e2) r3, hR, k0.ex (e1.trans e2)⟩
end
end Vd
set_option Elab.async false
set_option linter.all false
set_option maxRecDepth 100000
set_option maxHeartbeats 4000000
namespace Vd
open PySem L2
open PySem.Spec PyProof.Rows
def SrcO (K : PySem.W.Frag) (J : It) (F1 : Hp) (ow0 : Ow) (ds : List D) : Prop := ∀ (F H : Hp) (ow : Ow) (i : Nat), Sub ow0 ow → Ex F1 F → Wo K ow F H → (ds.length ≤ i → J.stop i H) ∧ ∀ d, ds[i]? = some d → J.go i H ∧ ∀ x H', J.yld i H x H' → ∃ F', Ex F F' ∧ Wo K ow F' H' ∧ Rp K F' x d
def ViO (X : Cx) (tg it : Expr) (env : List (Option D)) (ow : Ow) (ds : List D) : Prop := ∃ wi, PI X tg it wi ∧ ∀ (σ : L2.St) (F H : Hp) (R : It → Hp → Prop), Sl X.K F σ env → Wo X.K ow F H → (∀ J F1 H1, Ex F F1 → Wo X.K ow F1 H1 → SrcO X.K J F1 ow ds → R J H1) → wi σ H R
section
variable {X : Cx} {env : List (Option D)} {ow : Ow} {a b c e o i tg it elt : Expr} {es : List Expr} {d d1 d2 d3 : D} {ds : List D} {pos : Pos}
theorem viO_list {q : Addr} (h : Ve X it env ow (.ob (.ref q))) (hq : ow q = some (.lst ds)) : ViO X tg it env ow ds := ⟨_, pi_list pe_can, fun σ F H R s w k => h σ F H _ s w fun F1 H1 v e1 w1 r1 => by
  cases r1
  obtain ⟨_, xs0, g0, s0⟩ := w1.own q _ hq
  refine ⟨_, rfl, ⟨_, SqL.of g0⟩, k _ F1 H1 e1 w1 fun F H ow' i sub e w => ?_⟩
  obtain ⟨_, xs, g, sx⟩ := w.own q _ (sub _ _ hq)
  have hQ : SqL X.K H q xs := SqL.of g
  refine ⟨fun hl => ⟨xs, hQ, by rw [sx.length]; exact hl⟩, fun d hd => ?_⟩
  obtain ⟨y, h1, h2⟩ := sx.get hd
  refine ⟨⟨xs, y, hQ, h1⟩, fun x H' hy => ?_⟩
  obtain ⟨rfl, hy⟩ := hy
  have z := hy xs hQ
  rw [h1] at z
  cases z
  exact ⟨F, Evl.Ex.refl F, w, h2⟩⟩
/-- [elt for name in it if ..], it an owned list -/
theorem ve_lcO {ifs : List Expr} {scope : Scope} {j : Nat} {y : Str} {py : Pos} (kp : D → Bool) (f : D → D) (hc : X.calm = true) (hN : X.N.Nodup) (hi : ViO X (.Name y py) it env ow ds) (ok : BlkOk X.N X.env.scope scope [(y, j)]) (hl : ds.length ≤ 100000)
    (hg : ∀ (s : Shared) (H : Hp) (C : Addr) (cl : List (Str × Addr)) (fp : List Addr), PG (X.blk s H scope (compEnvC scope cl C X.env) fp) (.Name y py) (gName j))
    (ht : ∀ d ow', d ∈ ds → Sub ow ow' → ∀ (s : Shared) (H : Hp) (C : Addr) (cl : List (Str × Addr)) (fp : List Addr), Vts (X.blk s H scope (compEnvC scope cl C X.env) fp) ifs ((env.set j none).set j (some d)) ow' (kp d))
    (he : ∀ d ow', d ∈ ds → kp d = true → Sub ow ow' → ∀ (s : Shared) (H : Hp) (C : Addr) (cl : List (Str × Addr)) (fp : List Addr), Ve (X.blk s H scope (compEnvC scope cl C X.env) fp) elt ((env.set j none).set j (some d)) ow' (f d))
    (hsf : ∀ x, foldedSetIterable it X.env x = pure x := by intro _; rfl) : Ve X (.ListComp elt [⟨.Name y py, it, ifs, 0⟩] scope pos) env ow (.lst ((ds.filter kp).map f)) := .mk fun σ F H Q s w k0 => by
  obtain ⟨wi, pi, hw⟩ := hi
  refine wpe (pe_lc (own := [(y, j)]) (g := gName j) (tt := fun σ H Q => ∀ (s : Shared) (H0 : Hp) (C : Addr) (cl : List (Str × Addr)) (fp : List Addr), WpTs (X.blk s H0 scope (compEnvC scope cl C X.env) fp) ifs σ H Q)
    (te := fun σ H Q => ∀ (s : Shared) (H0 : Hp) (C : Addr) (cl : List (Str × Addr)) (fp : List Addr), WpE (X.blk s H0 scope (compEnvC scope cl C X.env) fp) elt σ H Q) hc hN pi ok hg
    (fun s0 H0 C cl fp => ⟨fun pins s σ H Q I h => h s0 H0 C cl fp pins s I⟩) (fun s0 H0 C cl fp => ⟨fun pins s σ H Q I h => h s0 H0 C cl fp pins s I⟩) hsf) ?_
  refine hw σ F H _ s w fun J F1 H1 e1 w1 src => ?_
  intro Dl hD
  refine ⟨fun i m H => m = ds.length - i ∧ i ≤ ds.length ∧ ∃ F2 xs, Ex F1 F2 ∧ Wo X.K ow F2 H ∧ F2 Dl = none ∧ ow Dl = none ∧ H Dl = some (.lst xs) ∧ Rps X.K F2 xs (((ds.take i).filter kp).map f), ⟨ds.length, by simp, Nat.zero_le _, F1, [], Evl.Ex.refl F1, w1.grow hD, w1.free hD, w1.ofree hD, upd_same, .nil⟩, ?_⟩
  rintro i m H2 ⟨rfl, hi, F2, xs, e2, w2, hF2, hoD, hH2, r2⟩
  obtain ⟨stop, go⟩ := src F2 H2 ow i (fun _ _ h => h) e2 w2
  by_cases hlt : i < ds.length
  · have hdi : ds[i]? = some ds[i] := by simp [hlt]
    have htk : ds.take (i + 1) = ds.take i ++ [ds[i]] := by rw [List.take_add_one, hdi]; rfl
    obtain ⟨hgo, hy⟩ := go ds[i] hdi
    refine .inr ⟨hgo, fun H3 => ∃ F3 xs, Ex F1 F3 ∧ Wo X.K ow F3 H3 ∧ F3 Dl = none ∧ ow Dl = none ∧ H3 Dl = some (.lst xs) ∧ Rps X.K F3 xs (((ds.take (i + 1)).filter kp).map f), fun H3 q => ⟨ds.length - (i + 1), by omega, rfl, hlt, q⟩, fun x H3 hx => ?_⟩
    -- the new list's place is owned meanwhile
    have w2' : Wo X.K (ou ow Dl (.lst (((ds.take i).filter kp).map f))) F2 H2 := ⟨w2.ex, fun a o q => by
      by_cases z : a = Dl
      · subst z
        rw [ou_same] at q
        cases q
        exact ⟨hF2, xs, hH2, r2⟩
      · rw [ou_ne z] at q
        exact w2.own a o q⟩
    have sub : ∀ a o, ow a = some o → ou ow Dl (.lst (((ds.take i).filter kp).map f)) a = some o := fun a o q => by
      rw [ou_ne (fun z => by rw [z, hoD] at q; cases q)]
      exact q
    obtain ⟨stop', go'⟩ := src F2 H2 _ i sub e2 w2'
    obtain ⟨_, hy'⟩ := go' ds[i] hdi
    obtain ⟨F3, e3, w3', r3⟩ := hy' x H3 hx
    have sl : Sl X.K F3 ((L2.wipe σ [j]).set j (some x)) ((env.set j none).set j (some ds[i])) := (((s.mono (e1.trans (e2.trans e3))).unset j).set r3 j)
    refine ⟨wipe_one, fun s0 H0 C cl fp => ?_⟩
    have hmem : ds[i] ∈ ds := List.getElem_mem hlt
    obtain ⟨tt, ptt, qtt⟩ := ht ds[i] _ hmem sub s0 H0 C cl fp
    intro pins s' I
    refine ptt.run pins s' _ H3 _ I (qtt _ F3 H3 _ sl w3' fun F4 H4 e4 w4 => ?_)
    cases hk : kp ds[i] with
    | true =>
      rw [if_pos rfl]
      intro s1 H01 C1 cl1 fp1
      refine he ds[i] _ hmem hk sub s1 H01 C1 cl1 fp1 _ F4 H4 _ (sl.mono e4) w4 fun F5 H5 y e5 w5 r5 => ?_
      obtain ⟨n5, ys, h5, s5⟩ := w5.own Dl _ ou_same
      refine ⟨ys, h5, ?_, F5, ys ++ [y], e2.trans (e3.trans (e4.trans e5)), ?_, n5, hoD, upd_same, ?_⟩
      · have z := s5.length
        have y1 : (((ds.take i).filter kp).map f).length ≤ i := by
          rw [List.length_map]
          exact Nat.le_trans (List.length_filter_le _ _) (by rw [List.length_take]; omega)
        exact Evl.sz_lt (by omega)
      · exact (w5.setL ou_same (s5.append (.cons r5 .nil))).drop fun a o q => by
          rw [ou_ne (fun z => by rw [z, hoD] at q; cases q)]
          exact sub a o q
      · rw [htk, List.filter_append, List.map_append]
        have y2 : ([ds[i]].filter kp).map f = [f ds[i]] := by simp [hk]
        rw [y2]
        exact s5.append (.cons r5 .nil)
    | false =>
      rw [if_neg Bool.false_ne_true]
      obtain ⟨n5, ys, h5, s5⟩ := w4.own Dl _ ou_same
      refine ⟨F4, ys, e2.trans (e3.trans e4), w4.drop sub, n5, hoD, h5, ?_⟩
      rw [htk, List.filter_append, List.map_append]
      have y2 : ([ds[i]].filter kp).map f = [] := by simp [hk]
      rw [y2, List.append_nil]
      exact s5
  · have e : i = ds.length := by omega
    subst e
    refine .inl ⟨stop (Nat.le_refl _), ?_⟩
    rw [List.take_length] at r2
    exact k0 (upd F2 Dl (.lst xs)) H2 _ ((e1.trans e2).trans (Evl.Ex.new hF2)) (w2.freeze hF2 hH2 hoD) (.lst upd_same (r2.mono (Evl.Ex.new hF2)))
end
end Vd
set_option Elab.async false
set_option linter.all false
set_option maxRecDepth 100000
set_option maxHeartbeats 4000000
namespace Vd
open PySem L2
open PySem.Spec PyProof.Rows
section
variable {X : Cx} {env : List (Option D)} {ow : Ow} {a b : Expr} {pos : Pos} {P : D → Ow → Prop} {P2 : D → D → Ow → Prop}
theorem vm_tup2 {k0 : Nat} (ha : Vm X a env ow P) (hb : ∀ d1 ow2, P d1 ow2 → Vm X b env ow2 (P2 d1))
    (hst : starEach [a, b] X.env = (false, eval a X.env) :: starEach [b] X.env := by rfl) (hst2 : starEach [b] X.env = (false, eval b X.env) :: starEach [] X.env := by rfl) :
    Vm X (.Tuple [a, b] k0 pos) env ow fun d ow2 => ∃ d1 d2, d = .tup [d1, d2] ∧ P2 d1 d2 ow2 := .mk fun σ F H Q s w k =>
  wpe (pe_tup (pa_cons pe_can (pa_cons pe_can pa_nil hst2) hst)) (ha σ F H _ s w fun F1 H1 v d1 ow1 e1 w1 r1 hp => hb d1 ow1 hp σ F1 H1 _ (s.mono e1) w1 fun F2 H2 u d2 ow2 e2 w2 r2 hp2 =>
    ⟨Evl.sz_of (by show 2 ≤ 100000; decide), fun p hp0 => k _ _ _ (.tup [d1, d2]) ow2 ((e1.trans e2).trans (w2.exnew hp0)) (w2.new hp0) (.tup (SqT.of upd_same) (.cons ((r1.mono e2).mono (w2.exnew hp0)) (.cons (r2.mono (w2.exnew hp0)) .nil))) ⟨d1, d2, rfl, hp2⟩⟩)
end
end Vd
set_option Elab.async false
set_option linter.all false
set_option maxRecDepth 100000
set_option maxHeartbeats 4000000
namespace Vd
open PySem L2
open PySem.Spec PyProof.Rows
section
variable {X : Cx} {B : Hp} {env : List (Option D)} {ow : Ow} {a b c : Expr} {pos : Pos} {Dn : Ends} {rest : List Stmt}
theorem rn_par3M {x y z : Str} {px py pz p1 p2 : Pos} {k1 k2 i j l : Nat} {P1 : D → Ow → Prop} {P2 : D → D → Ow → Prop} {P3 : D → D → D → Ow → Prop} (hc : X.calm = true) (hN : X.N.Nodup) (hi : X.N[i]? = some x) (hj : X.N[j]? = some y) (hl : X.N[l]? = some z) (hij : i ≠ j) (hil : i ≠ l) (hjl : j ≠ l) (hx : X.env.scope.names.lookup x = some .local) (hy : X.env.scope.names.lookup y = some .local) (hz : X.env.scope.names.lookup z = some .local)
    (h1 : Vm X a env ow P1) (h2 : ∀ d1 ow2, P1 d1 ow2 → Vm X b env ow2 (P2 d1)) (h3 : ∀ d1 d2 ow3, P2 d1 d2 ow3 → Vm X c env ow3 (P3 d1 d2)) (k : ∀ B' d1 d2 d3 ow4, Ex B B' → P3 d1 d2 d3 ow4 → Rn X B' rest Dn (((env.set i (some d1)).set j (some d2)).set l (some d3)) ow4)
    (hw : swappedStores [.Tuple [.Name x px, .Name y py, .Name z pz] k1 p1] (.Tuple [a, b, c] k2 p2) X.env = pure (some [x, y, z])) (hst : starEach [a, b, c] X.env = (false, eval a X.env) :: starEach [b, c] X.env := by rfl) (hst2 : starEach [b, c] X.env = (false, eval b X.env) :: starEach [c] X.env := by rfl) (hst3 : starEach [c] X.env = (false, eval c X.env) :: starEach [] X.env := by rfl)
    (hs : swapsWithSole [.Tuple [.Name x px, .Name y py, .Name z pz] k1 p1] (.Tuple [a, b, c] k2 p2) pos.line X.env = pure false := by rfl) :
    Rn X B (.Assign [.Tuple [.Name x px, .Name y py, .Name z pz] k1 p1] (.Tuple [a, b, c] k2 p2) pos :: rest) Dn env ow := rn_one ⟨_, ps_par3 hc hN hi hj hl hij hil hjl hx hy hz (pa_cons pe_can (pa_cons pe_can (pa_cons pe_can pa_nil hst3) hst2) hst) hw hs, fun σ F H eB s w =>
  h1 σ F H _ s w fun F1 H1 v1 d1 ow1 e1 w1 r1 q1 => h2 d1 ow1 q1 σ F1 H1 _ (s.mono e1) w1 fun F2 H2 v2 d2 ow2 e2 w2 r2 q2 => h3 d1 d2 ow2 q2 σ F2 H2 _ (s.mono (e1.trans e2)) w2 fun F3 H3 v3 d3 ow3 e3 w3 r3 q3 => ⟨_, _, _, rfl, k F3 d1 d2 d3 ow3 (eB.trans (e1.trans (e2.trans e3))) q3 _ F3 H3 (Evl.Ex.refl F3) ((((s.mono (e1.trans (e2.trans e3))).set (r1.mono (e2.trans e3)) i).set (r2.mono e3) j).set r3 l) w3⟩⟩
theorem vm_op3 {P P' : D → Ow → Prop} {P2 : D → D → Ow → Prop} {op : Operator} {r : R2} (ho : OpR X (binaryOp op) r) (ha : Vm X a env ow P) (hb : ∀ d1 ow2, P d1 ow2 → Vm X b env ow2 (P2 d1)) (h : ∀ d1 d2 ow2, P2 d1 d2 ow2 → ∃ d, RD X.K ow2 r d1 d2 d ∧ P' d ow2) : Vm X (.BinOp a op b pos) env ow P' := .mk fun σ F H Q s w k0 =>
  wpe (pe_op ho pe_can pe_can) (ha σ F H _ s w fun F1 H1 x d1 ow1 e1 w1 r1 hp => hb d1 ow1 hp σ F1 H1 _ (s.mono e1) w1 fun F2 H2 y d2 ow2 e2 w2 r2 hp2 => by
    obtain ⟨d, hr, hp'⟩ := h d1 d2 ow2 hp2
    exact hr F2 H2 x y Q w2 (r1.mono e2) r2 fun F3 H3 v e3 w3 r3 => k0 F3 H3 v d ow2 ((e1.trans e2).trans e3) w3 r3 hp')
end
/-- a method that is called by position and by name -/
def Mk1 (γ : Gds) (P : Program) (w : World) (K : PySem.W.Frag) (mg : Str → Option Value) (base : Heap) (C : Addr) (k : Nat) (x kn : Str) (R : List D → D → Prop) : Prop := ∃ g fd, Meth K C x g ∧ FnG γ P w K mg base CX0 k g fd ["self", kn] (spR K R) ∧ Binds K fd ["self", kn] [] ∧ ∀ (s : Shared) (a : Addr) (u : Value), K.In s.heap → BindsTo s fd ⟨[.ref a], [(kn, u)]⟩ ((["self", kn] : List Str).zip [.ref a, u])
section
variable {γ : Gds} {X : Cx} {env : List (Option D)} {ow : Ow} {e o : Expr} {es : List Expr} {d d1 : D} {ds : List D} {pos apos kpos : Pos} {C : Addr} {fl : List (Str × D)} {m kn : Str} {k : Nat} {R : List D → D → Prop}
theorem ve_M1 {pl : Sem Bool} (c : Cls X.K C) (h : Mk1 γ X.prog X.w X.K X.mg X.base C k m kn R) (hgd : γ X.A.guards) (hr : Room k X.A) (ho : Ve X o env ow (.ins C fl)) (hn : fl.lookup m = none) (ha : Va X (e :: es) env ow ds) (hR : R (.ins C fl :: ds) d)
    (hst : starEach (e :: es) X.env = (false, eval e X.env) :: starEach es X.env := by rfl) (hpl : (backTo pos (starEach es X.env)).any (·.1) = false := by rfl)
    (ht : eval (.Call (.Attribute o m apos) (e :: es) [] pos) X.env = (do let ov ← eval o X.env; standAt apos.atName; let (fn, first) ← holding [ov] (getMethod ov m pl); callWith pos fn first (backTo pos (starEach (e :: es) X.env)) (backToKw pos (keywordEach [] X.env))) := by rfl) :
    Ve X (.Call (.Attribute o m apos) (e :: es) [] pos) env ow d := by
  obtain ⟨g, fd, hm, F, hb, _⟩ := h
  exact ve_meth c hm F hgd hr hb ho hn ha hR hst hpl ht
theorem ve_M1K {pl : Sem Bool} (c : Cls X.K C) (h : Mk1 γ X.prog X.w X.K X.mg X.base C k m kn R) (hgd : γ X.A.guards) (hr : Room k X.A) (ho : Ve X o env ow (.ins C fl)) (hn : fl.lookup m = none) (he : Ve X e env ow d1) (hR : R [.ins C fl, d1] d)
    (hall : (backToKw pos (keywordEach [⟨some kn, e, kpos⟩] X.env)).all (·.1.isSome) = true := by rfl) (hks : (backToKw pos (keywordEach [⟨some kn, e, kpos⟩] X.env)).filterMap (·.1) = [kn] := by rfl)
    (hpl : ((backTo pos (starEach [] X.env)).any (·.1) || (backToKw pos (keywordEach [⟨some kn, e, kpos⟩] X.env)).any (·.1.isNone)) = false := by rfl)
    (ht : eval (.Call (.Attribute o m apos) [] [⟨some kn, e, kpos⟩] pos) X.env = (do let ov ← eval o X.env; standAt apos.atName; let (fn, first) ← holding [ov] (getMethod ov m pl); callWith pos fn first (backTo pos (starEach [] X.env)) (backToKw pos (keywordEach [⟨some kn, e, kpos⟩] X.env))) := by rfl) :
    Ve X (.Call (.Attribute o m apos) [] [⟨some kn, e, kpos⟩] pos) env ow d := by
  obtain ⟨g, fd, hm, F, _, hb⟩ := h
  exact ve_methK c hm F hgd hr hb ho hn (vk_cons he vk_nil) hR hall hks hpl ht
end
end Vd
namespace K2
open PySem L2 Vd
open PySem.Spec PyProof.Rows
local macro_rules | `(tactic| walk_at "vis") => `(tactic| first | exact Or.inl rfl | exact Or.inr (Or.inl rfl) | exact Or.inr (Or.inr rfl))
local macro_rules | `(tactic| walk_at "none") => `(tactic| first | assumption)
local macro_rules | `(tactic| walk_at "num") => `(tactic| first | decide | omega)
local macro_rules | `(tactic| walk_at "vr") => `(tactic| first
  | exact bo_add | exact bo_sub | exact bo_mulR (by decide) | exact bo_mulL (by decide) | exact bo_mod (by walk_at "num") | exact bo_div (by walk_at "num") (by walk_at "num") | exact bo_pow (by decide) (by decide) (by decide) | exact bo_cat (by walk_at "num") | exact bo_mulR (by omega) | exact bo_mulL (by omega))
local macro_rules | `(tactic| walk_at "vq") => `(tactic| first
  | exact co_lt | exact co_le | exact co_gt | exact co_ge | exact co_eqI | exact co_neI | exact co_eqS | exact co_neS)
local macro_rules | `(tactic| walk_at "vx") => `(tactic| first
  | exact xo_own (by assumption) rfl | exact xo_lst rfl | exact xo_tup rfl)
local macro_rules | `(tactic| walk_at "vf") => `(tactic| first
  | exact fo_abs | exact fo_lenL | exact fo_lenT | exact fo_lenO (by assumption) | exact fo_divmod (by walk_at "num") (by walk_at "num") | exact fo_max rfl | exact fo_min rfl)
local macro_rules | `(tactic| walk_at "vn") => `(tactic| first
  | exact ve_var (i := 0) rfl rfl (by walk_at "vis") | exact ve_var (i := 1) rfl rfl (by walk_at "vis") | exact ve_var (i := 2) rfl rfl (by walk_at "vis") | exact ve_var (i := 3) rfl rfl (by walk_at "vis") | exact ve_var (i := 4) rfl rfl (by walk_at "vis") | exact ve_var (i := 5) rfl rfl (by walk_at "vis") | exact ve_var (i := 6) rfl rfl (by walk_at "vis") | exact ve_var (i := 7) rfl rfl (by walk_at "vis"))
local macro_rules | `(tactic| walk_at "vd") => `(tactic| first
  | exact ve_int | exact ve_bl | exact ve_non | exact ve_str
  | (refine' ve_bin ?ha ?hb ?hr; (case ha => walk_at "vd"); (case hb => walk_at "vd"); (case hr => walk_at "vr"))
  | (refine' ve_sub ?ha ?hb (fun _ _ => rfl) ?hr; (case ha => walk_at "vd"); (case hb => walk_at "vd"); (case hr => walk_at "vx"))
  | (refine' ve_ty (id := "int") ?ha rfl ?hm boot_int ?hr; (case ha => walk_at "va"); (case hm => walk_at "none"); (case hr => exact to_int))
  | (refine' ve_bi ?ha rfl ?hm ?hv ?hr; (case hv => first | exact boot_abs | exact boot_len | exact boot_divmod | exact boot_max | exact boot_min); (case ha => walk_at "va"); (case hm => walk_at "none"); (case hr => walk_at "vf"))
  | (refine' ve_tup ?ha ?hl; (case ha => walk_at "va"); (case hl => walk_at "num"))
  | (refine' ve_lst ?ha ?hl; (case ha => walk_at "va"); (case hl => walk_at "num"))
  | (refine' ve_comp ?ha ?hb ?hr; (case ha => walk_at "vd"); (case hb => walk_at "vd"); (case hr => walk_at "vq"))
  | walk_at "vn")
local macro_rules | `(tactic| walk_at "va") => `(tactic| first | exact va_nil | (refine' va_cons ?ha ?hb; (case ha => walk_at "vd"); (case hb => walk_at "va")))
local macro_rules | `(tactic| walk_at "vt") => `(tactic| first
  | (refine' vt_comp ?ha ?hb ?hr; (case ha => walk_at "vd"); (case hb => walk_at "vd"); (case hr => walk_at "vq"))
  | (refine' vt_val ?hv; case hv => walk_at "vd"))
section
theorem scSip : FnScope ["cup", "many", "part"] ["cup", "many"] (defScope s__law_sip) := ⟨rfl, rfl, rfl, by decide +kernel, rfl, by decide +kernel, by decide +kernel⟩
section
variable {P : Program} {w : World} {K : PySem.W.Frag} {mg : Str → Option Value} {base : Heap}
def GSip (ds : List D) : Prop := ∃ m : Int, ds = [.int m] ∧ 0 < m ∧ m < 1073741824
def RSip (ds : List D) (d : D) : Prop := ∃ m r : Int, ds = [.int m] ∧ d = .int r ∧ 0 ≤ r ∧ r < m
theorem ok_sip {f : Addr} {fd : FuncData} (Fn : Fun K "_law_sip" "_law_sip" s__law_sip f fd) (mI : mg "int" = none) (mD : mg "divmod" = none) : FnG γ P w K mg base CX0 1 f fd ["cup", "many"] (spC K GSip RSip) := by
  refine okC Fn scSip (fun ds ⟨m, e, _⟩ => by rw [e]; rfl) fun cdv A outer s H B ow c ds Q E hgd hr hG hc k => ?_
  obtain ⟨m, rfl, hm0, hm1⟩ := hG
  obtain ⟨x, y, hx, hy, hco⟩ := hc
  refine' rn_seti (q := c) (n := 0) (j := 0) ?h ?ho ?hi hco rfl ?k (pg_sub pe_can pe_can set_list)
  case h => walk_at "vd"
  case ho => walk_at "vd"
  case hi => walk_at "vd"
  case k =>
  intro B' e1
  have ho2 : ou ow c (.lst ([D.int x, .int y].set 0 (.int ((x * 48271 + 11) % 2147483629)))) c = some (.lst [.int ((x * 48271 + 11) % 2147483629), .int y]) := ou_same
  refine' rn_if (t := decide (0 < y)) ?h ?h1 ?h2
  case h => walk_at "vt"
  case h1 =>
    intro ht B2 e2
    have hy0 : 0 < y := of_decide_eq_true ht
    refine' rn_setiName (q := c) (n := 1) (j := 1) (m := 2) rfl ?h ?ho ?hi ho2 rfl scSip.nd rfl (.inl rfl) ?k rfl rfl rfl (pg_tup rfl (pgs_cons (pg_sub pe_can pe_can set_list) (pgs_cons (pg_name scSip.nd rfl (.inl rfl)) pgs_nil)))
    case h => walk_at "vd"
    case ho => walk_at "vd"
    case hi => walk_at "vd"
    case k =>
    intro B3 e3
    refine rn_retC (ow0 := ow) (d := .int (y % m)) ?_ k (e1.trans (e2.trans e3)) ?_ ?_ ⟨m, _, rfl, rfl, Int.emod_nonneg _ (by omega), Int.emod_lt_of_pos _ hm0⟩
    · walk_at "vd"
    · intro b o n e
      rw [ou_ne n, ou_ne n]
      exact e
    · exact ⟨_, _, Int.emod_nonneg _ (by omega), Int.ediv_nonneg hy (by omega), ou_same⟩
  case h2 =>
    intro ht B2 e2
    refine rn_go ?_
    refine rn_retC (ow0 := ow) (d := .int (((x * 48271 + 11) % 2147483629 / 1021) % m)) ?_ k (e1.trans e2) ?_ ?_ ⟨m, _, rfl, rfl, Int.emod_nonneg _ (by omega), Int.emod_lt_of_pos _ hm0⟩
    · walk_at "vd"
    · intro b o n e
      rw [ou_ne n]
      exact e
    · exact ⟨_, _, Int.emod_nonneg _ (by omega), hy, ou_same⟩
theorem scCup : FnScope ["script", "spot", "cell", "one"] ["script", "spot"] (defScope s__law_cup) := ⟨rfl, rfl, rfl, by decide +kernel, rfl, by decide +kernel, by decide +kernel⟩
theorem cut_ints (ns : List Int) (lo hi : Option Int) : ∃ L : List Int, Vd.cutD (ns.map D.int) lo hi = L.map D.int := by
  unfold Vd.cutD
  exact ⟨((ns.drop (HT.sIx (ns.map D.int).length 0 lo)).take (HT.sIx (ns.map D.int).length (ns.map D.int).length hi - HT.sIx (ns.map D.int).length 0 lo)), by rw [List.map_take, List.map_drop]⟩
theorem atI_nat {α : Type} {xs : List α} {n : Nat} (h : n < xs.length) : L2.atI xs (n : Int) = some xs[n] := by
  unfold L2.atI L2.ixN
  rw [if_pos (by omega), if_pos (by omega)]
  simp [h]
theorem atI_map {ns : List Int} {n : Nat} (h : n < ns.length) : L2.atI (ns.map D.int) (n : Int) = some (.int ns[n]) := by
  rw [atI_nat (by rw [List.length_map]; exact h)]
  simp
theorem ok_cup {f : Addr} {fd : FuncData} (Fn : Fun K "_law_cup" "_law_cup" s__law_cup f fd) (mI : mg "int" = none) (mA : mg "abs" = none) (mL : mg "len" = none) : FnG γ P w K mg base CX0 1 f fd ["script", "spot"] (spCup K) := by
  refine okG Fn scCup (fun vs H Q E ⟨F, ow, v, ns, n, e, _⟩ => by rw [e]; rfl) fun cdv A outer s H vs Q E hgd hr ⟨F, ow, v, ns, n, e, wo, rv, k⟩ => ?_
  subst e
  refine ⟨F, ow, [.rol (ns.map D.int), .int n], wo, .cons rv (.cons (.int _) .nil), ?_⟩
  have hlen : ((ns.map D.int).length : Int) = ns.length := by rw [List.length_map]
  obtain ⟨L, hL⟩ := cut_ints ns none (some 2)
  obtain ⟨c0, hc0⟩ : ∃ c0 : Int, c0 = if h : n < ns.length then ns[n] else 7919 * n + 104729 := ⟨_, rfl⟩
  obtain ⟨L0, hL0⟩ : ∃ L0 : List Int, L0 = if n < ns.length then [] else L := ⟨_, rfl⟩
  refine' rn_set (i := 2) (d := .int c0) scCup.nd rfl (.inl rfl) ?h ?k
  case h =>
    refine' ve_if (t := decide ((n : Int) < ((ns.map D.int).length : Nat))) ?c ?a ?b
    case c =>
      refine' vt_comp ?ha ?hb co_lt
      case ha => walk_at "vd"
      case hb =>
        refine' ve_bi ?ha rfl ?hm ?hv ?hr
        case hv => exact boot_len
        case ha => walk_at "va"
        case hm => walk_at "none"
        case hr => exact fo_lenR
    case a =>
      intro t
      have h : n < ns.length := by
        have z := of_decide_eq_true t
        rw [hlen] at z
        omega
      rw [dif_pos h] at hc0
      subst hc0
      refine' ve_sub ?ha ?hb (fun _ _ => rfl) ?hr
      case ha => walk_at "vd"
      case hb => walk_at "vd"
      case hr => exact xo_rol (atI_map h)
    case b =>
      intro t
      have h : ¬ n < ns.length := by
        have z := of_decide_eq_false t
        rw [hlen] at z
        omega
      rw [dif_neg h] at hc0
      subst hc0
      walk_at "vd"
  case k =>
  intro B1 e1
  refine' rn_for (ds := L0.map D.int) (g := gName 3) (f := fun d env => env.set 3 (some d)) (fun i env ow' => ow' = ow ∧ ∃ (c : Int) (o : Option D), env = [some (.rol (ns.map D.int)), some (.int n), some (.int c), o]) PassesOwn.never rfl ?hi (pg_name scCup.nd rfl (.inl rfl)) (fun ow d _ => gd_name 3) ⟨rfl, c0, none, rfl⟩ ?hs ?hd
  case hi =>
    refine vi_list ?_
    refine' ve_if (t := decide (((ns.map D.int).length : Nat) ≤ (n : Int))) ?c ?a ?b
    case c =>
      refine' vt_comp ?ha ?hb co_ge
      case ha => walk_at "vd"
      case hb =>
        refine' ve_bi ?ha rfl ?hm ?hv ?hr
        case hv => exact boot_len
        case ha => walk_at "va"
        case hm => walk_at "none"
        case hr => exact fo_lenR
    case a =>
      intro t
      have h : ¬ n < ns.length := by
        have z := of_decide_eq_true t
        rw [hlen] at z
        omega
      rw [if_neg h] at hL0
      rw [hL0, ← hL]
      exact ve_sliceR (ve_var (i := 0) rfl rfl (by walk_at "vis")) vp_none (vp_some ve_int)
    case b =>
      intro t
      have h : n < ns.length := by
        have z := of_decide_eq_false t
        rw [hlen] at z
        omega
      rw [if_pos h] at hL0
      rw [hL0]
      exact ve_lst va_nil (Nat.zero_le _)
  case hs =>
    rintro B2 i d env' ow' e2 hd ⟨rfl, c, o, rfl⟩
    obtain ⟨j, hj⟩ : ∃ j : Int, d = .int j := by
      rw [List.getElem?_map] at hd
      cases q : L0[i]? with
      | none => rw [q] at hd; cases hd
      | some j => rw [q] at hd; cases hd; exact ⟨j, rfl⟩
    subst hj
    refine' rn_set (i := 2) (d := .int ((c * 31 + j) % 1000000007)) scCup.nd rfl (.inl rfl) ?h ?k
    case h => walk_at "vd"
    case k =>
      intro B3 e3
      refine rn_nextW ?_ e3
      exact ⟨rfl, _, some (.int j), rfl⟩
  case hd =>
    rintro B2 env' ow' e2 ⟨rfl, c, o, rfl⟩
    refine' rn_retL (ds := [.int ((c * 4099 + 271 * n + 17) % 2147483629), .int (if decide (c < 0) || decide ((10 : Int) ^ (18 : Int).toNat ≤ c) then (if c < 0 then -c else c) else 0)]) ?h ?hl ?k
    case h =>
      refine' va_cons ?ha (va_cons ?hb va_nil)
      case ha => walk_at "vd"
      case hb =>
        refine' ve_if (t := decide (c < 0) || decide ((10 : Int) ^ (18 : Int).toNat ≤ c)) ?c ?a ?b
        case c =>
          refine vt_w (vw_or ?_ (fun _ => vw_or1 ?_) (pw_all_or _ _))
          · walk_at "vt"
          · walk_at "vt"
        case a =>
          intro t
          rw [if_pos t]
          walk_at "vd"
        case b =>
          intro t
          rw [if_neg (by rw [t]; exact Bool.false_ne_true)]
          walk_at "vd"
    case hl => show 2 ≤ 100000; decide
    case k =>
      intro F2 H2 q e3 hq w2
      refine k F2 H2 q _ _ (e1.trans (e2.trans e3)) hq w2 (Int.emod_nonneg _ (by omega)) ?_
      split <;> (try split) <;> omega
theorem scPick : FnScope ["cup", "things"] ["cup", "things"] (defScope s__law_pick) := ⟨rfl, rfl, rfl, by decide +kernel, rfl, by decide +kernel, by decide +kernel⟩
def GPick (ds : List D) : Prop := ∃ l : List D, ds = [.lst l] ∧ 0 < l.length ∧ l.length < 1073741824
def RPick (ds : List D) (d : D) : Prop := ∃ l : List D, ds = [.lst l] ∧ d ∈ l
theorem ok_pick {f f1 : Addr} {fd fd1 : FuncData} (Fn : Fun K "_law_pick" "_law_pick" s__law_pick f fd) (F1 : FnG γ P w K mg base CX0 1 f1 fd1 ["cup", "many"] (spC K GSip RSip)) (m1 : mg "_law_sip" = some (.ref f1)) (k1 : PySem.W.keepIn K (.ref f1) = true) (b1 : Binds K fd1 ["cup", "many"] []) (mL : mg "len" = none) :
    FnG γ P w K mg base CX0 2 f fd ["cup", "things"] (spC K GPick RPick) := by
  refine okC Fn scPick (fun ds ⟨m, e, _⟩ => by rw [e]; rfl) fun cdv A outer s H B ow c ds Q E hgd hr hG hc k => ?_
  obtain ⟨l, rfl, h0, h1⟩ := hG
  refine rn_retM (P := fun d ow2 => SameO c ow ow2 ∧ CupO ow2 c ∧ d ∈ l) ?_ (fun d ow2 ⟨a, b, e⟩ F2 H2 v e2 w2 r2 => k F2 H2 ow2 v d e2 w2 a b r2 ⟨l, rfl, e⟩)
  refine' vm_ix2 (d1 := .lst l) ix_list (fun _ _ => rfl) ?ha (vm_draw F1 hgd hr rfl m1 k1 b1 ?hb hc ?hG) ?hk
  case ha => walk_at "vd"
  case hb => exact va_cons (ve_var (i := 0) rfl rfl (by walk_at "vis")) (va_cons (by refine' ve_bi ?ha rfl ?hm ?hv ?hr; (case hv => exact boot_len); (case ha => walk_at "va"); (case hm => walk_at "none"); (case hr => exact fo_lenL)) va_nil)
  case hG => exact ⟨_, rfl, by omega, by omega⟩
  case hk =>
    rintro d2 ow2 ⟨s2, c2, m, r, e, rfl, r0, r1⟩
    cases e
    have hr : r.toNat < l.length := by omega
    have er : r = (r.toNat : Int) := by omega
    have at_ : L2.atI l r = some l[r.toNat] := (congrArg (L2.atI l) er).trans (atI_nat hr)
    exact ⟨l[r.toNat], rd_ixL at_, s2, c2, List.getElem_mem hr⟩
end
end
section
section
variable {X : Cx} {env : List (Option D)} {ow : Ow} {i k : Nat} {x f : Str} {e : Expr} {es : List Expr} {d : D} {ds : List D} {pos p kp : Pos}
theorem ve_R {fa : Addr} {fd : FuncData} {ps : List Str} {R : List D → D → Prop} (Fn : FnG γ X.prog X.w X.K X.mg X.base CX0 k fa fd ps (spR X.K R)) (hgd : γ X.A.guards) (hr : Room k X.A) (hg : Gl X x) (hm : X.mg x = some (.ref fa)) (hk : PySem.W.keepIn X.K (.ref fa) = true) (hb : Binds X.K fd ps []) (ha : Va X (e :: es) env ow ds) (hR : R ds d)
    (hdb : (x == ("__debug__" : Str)) = false := by decide) (he : starEach (e :: es) X.env = (false, eval e X.env) :: starEach es X.env := by rfl) (hpl : (backTo pos (starEach es X.env)).any (·.1) = false := by rfl) : Ve X (.Call (.Name x p) (e :: es) [] pos) env ow d :=
  ve_call Fn hgd hr hg hm hk hb .nil pass0 ha (fun F H vs Q w r k0 => by
    rw [List.append_nil]
    exact ⟨F, ow, ds, d, w, r, hR, k0⟩) hdb he hpl
end
abbrev sIsI : Stmt := s_is_integer
theorem scIsI : FnScope ["value"] ["value"] (defScope sIsI) := ⟨rfl, rfl, rfl, by decide +kernel, rfl, by decide +kernel, by decide +kernel⟩
def RIsI (ds : List D) (d : D) : Prop := ∃ v : D, ds = [v] ∧ v.kind.isSome = true ∧ d = .bl v.isInt
abbrev sIsW : Stmt := s_is_within
theorem scIsW : FnScope ["value", "least", "most"] ["value", "least", "most"] (defScope sIsW) := ⟨rfl, rfl, rfl, by decide +kernel, rfl, by decide +kernel, by decide +kernel⟩
def D.within (a b : Int) : D → Bool
  | .int i => decide (a ≤ i ∧ i ≤ b)
  | _ => false
def RIsW (ds : List D) (d : D) : Prop := ∃ (v : D) (a b : Int), ds = [v, .int a, .int b] ∧ v.kind.isSome = true ∧ d = .bl (D.within a b v)
section
variable {P : Program} {w : World} {K : PySem.W.Frag} {mg : Str → Option Value} {base : Heap}
theorem ok_isI {f : Addr} {fd : FuncData} (Fn : Fun K "is_integer" "is_integer" sIsI f fd) (mI : mg "isinstance" = none) (m1 : mg "int" = none) (m2 : mg "bool" = none) : FnG γ P w K mg base CX0 1 f fd ["value"] (spR K RIsI) := by
  refine okR Fn scIsI (fun ds d ⟨v, e, _⟩ => by rw [e]; rfl) fun cdv A outer s H B ow ds d Q E hgd hr hR k => ?_
  obtain ⟨v, rfl, hk, rfl⟩ := hR
  refine rn_ret (ve_is (ve_and (t := v.anInt) (u := !v.aBool) ?_ (fun _ => ve_and1 (ve_not ?_))) (by cases v <;> rfl)) k
  · exact ve_bi (va_cons (ve_var (i := 0) rfl rfl (by walk_at "vis")) (va_cons (ve_bty rfl m1 boot_int) va_nil)) rfl mI boot_isinstance (fo_isInt hk)
  · exact ve_bi (va_cons (ve_var (i := 0) rfl rfl (by walk_at "vis")) (va_cons (ve_bty rfl m2 boot_bool) va_nil)) rfl mI boot_isinstance (fo_isBool hk)
theorem ok_isW {f f1 : Addr} {fd fd1 : FuncData} (Fn : Fun K "is_within" "is_within" sIsW f fd) (F1 : FnG γ P w K mg base CX0 1 f1 fd1 ["value"] (spR K RIsI)) (m1 : mg "is_integer" = some (.ref f1)) (k1 : PySem.W.keepIn K (.ref f1) = true) (b1 : Binds K fd1 ["value"] []) : FnG γ P w K mg base CX0 2 f fd ["value", "least", "most"] (spR K RIsW) := by
  refine okR Fn scIsW (fun ds d ⟨v, a, b, e, _⟩ => by rw [e]; rfl) fun cdv A outer s H B ow ds d Q E hgd hr hR k => ?_
  obtain ⟨v, a, b, rfl, hk, rfl⟩ := hR
  refine rn_ret (ve_is (ve_and (t := v.isInt) (u := D.within a b v) ?_ (fun h => ve_and1 ?_)) (by cases v <;> rfl)) k
  · exact ve_R F1 hgd hr rfl m1 k1 b1 (va_cons (ve_var (i := 0) rfl rfl (by walk_at "vis")) va_nil) ⟨v, rfl, hk, rfl⟩
  · cases v with
    | int i => exact ve_between (ve_var (i := 1) rfl rfl (by walk_at "vis")) (ve_var (i := 0) rfl rfl (by walk_at "vis")) (ve_var (i := 2) rfl rfl (by walk_at "vis"))
    | _ => cases h
end
def AscI (l : List Int) : Prop := l.Pairwise (· < ·)
theorem AscI.lt {l : List Int} (a : AscI l) {i j : Nat} (hi : i < l.length) (hj : j < l.length) (h : i < j) : l[i] < l[j] := List.pairwise_iff_getElem.mp a i j hi hj h
end
section
open Wk
abbrev sq (x y : Int) : D := .tup [.int x, .int y]
def absI (i : Int) : Int := if i < 0 then -i else i
def GR : Int := 1000000000000000000000000000000
/-- the codes of an order, of a way -/
def oc : Od → Nat
  | .t 1 => 82
  | .t 2 => 66
  | .t _ => 76
  | .g n => 48 + n
def wc : Nat → Nat
  | 0 => 78
  | 1 => 69
  | 2 => 83
  | _ => 87
/-- the codes of a row -/
def rowC : List Od → List Nat
  | [] => []
  | [o] => [oc o]
  | o :: r => oc o :: 32 :: rowC r
/-- what the module's tables must say -/
structure Tbl (K : PySem.W.Frag) (w : World) (mg : Str → Option Value) : Prop where
  turns : ∃ q es n t1 t2 t3, mg "TURNS" = some (.ref q) ∧ KDict K w q es n ∧ PySem.W.nsIn K q (tx [82]) = some (some (.int 1 t1)) ∧ PySem.W.nsIn K q (tx [66]) = some (some (.int 2 t2)) ∧ PySem.W.nsIn K q (tx [76]) = some (some (.int 3 t3)) ∧ ∀ n, 1 ≤ n → n ≤ 9 → PySem.W.nsIn K q (tx [48 + n]) = some none
  moves : ∃ q es n, mg "MOVES" = some (.ref q) ∧ KDict K w q es n ∧ es.toList.map keyS = [tx [78], tx [69], tx [83], tx [87]] ∧ ∀ a, a < 4 → ∃ u, PySem.W.nsIn K q (tx [wc a]) = some (some (.ref u)) ∧ ∀ F, Rp K F (.ref u) (sq (mx a) (my a))
  ways : ∃ t, mg "WAYS" = some (.str (tx [78, 69, 83, 87]) t)
  great : ∃ t, mg "GREATEST" = some (.int GR t)
  orders : ∃ t, mg "MOST_ORDERS" = some (.int 8 t)
  steps : ∃ t, mg "MOST_STEPS" = some (.int 9 t)
/-- the built-ins' names are free -/
structure Free (mg : Str → Option Value) : Prop where
  isinstance : mg "isinstance" = none
  int : mg "int" = none
  bool : mg "bool" = none
  len : mg "len" = none
  tuple : mg "tuple" = none
  str : mg "str" = none
  list : mg "list" = none
  range : mg "range" = none
  abs : mg "abs" = none
  all : mg "all" = none
  any : mg "any" = none
  divmod : mg "divmod" = none
  enumerate : mg "enumerate" = none
  sorted : mg "sorted" = none
section
variable {γ : Gds} {P : Program} {w : World} {K : PySem.W.Frag} {mg : Str → Option Value} {base : Heap} {f : Addr} {fd : FuncData}
theorem scPair : FnScope ["value"] ["value"] (defScope s_is_pair) := ⟨rfl, rfl, rfl, by decide +kernel, rfl, by decide +kernel, by decide +kernel⟩
def RPair (ds : List D) (d : D) : Prop := ∃ x y, ds = [sq x y] ∧ d = .bl true
theorem ok_isPair (Fn : Fun K "is_pair" "is_pair" s_is_pair f fd) (N : Free mg) (I : Df γ P w K mg base 1 "is_integer" ["value"] (spR K RIsI)) : FnG γ P w K mg base CX0 2 f fd ["value"] (spR K RPair) := by
  refine okR Fn scPair (fun ds d ⟨x, y, e, _⟩ => by rw [e]; rfl) fun cdv A outer s H B ow ds d Q E hgd hr hR k => ?_
  obtain ⟨x, y, rfl, rfl⟩ := hR
  refine rn_ret (ve_is (ve_and (t := true) (u := true) ?h1 (fun _ => ve_and (t := true) (u := true) ?h2 (fun _ => ve_and (t := true) (u := true) ?h3 (fun _ => ve_and1 ?h4)))) rfl) k
  case h1 => exact ve_bi (va_cons (ve_var (d := sq x y) (i := 0) rfl rfl (by walk_at "vis")) (va_cons (ve_bty rfl N.tuple boot_tuple) va_nil)) rfl N.isinstance boot_isinstance fo_isTup
  case h2 => exact ve_comp (ve_bi (va_cons (ve_var (d := sq x y) (i := 0) rfl rfl (by walk_at "vis")) va_nil) rfl N.len boot_len fo_lenT) ve_int (co_to co_eqI (by simp))
  case h3 => exact ve_D I hgd hr rfl (va_cons (ve_sub (ve_var (d := sq x y) (i := 0) rfl rfl (by walk_at "vis")) ve_int (fun _ _ => rfl) (xo_tup rfl)) va_nil) ⟨.int x, rfl, rfl, rfl⟩
  case h4 => exact ve_D I hgd hr rfl (va_cons (ve_sub (ve_var (d := sq x y) (i := 0) rfl rfl (by walk_at "vis")) ve_int (fun _ _ => rfl) (xo_tup rfl)) va_nil) ⟨.int y, rfl, rfl, rfl⟩
theorem scSq : FnScope ["value"] ["value"] (defScope s_is_square) := ⟨rfl, rfl, rfl, by decide +kernel, rfl, by decide +kernel, by decide +kernel⟩
def RSq (ds : List D) (d : D) : Prop := ∃ x y, ds = [sq x y] ∧ d = .bl (decide (absI x ≤ GR) && decide (absI y ≤ GR))
theorem ok_isSquare (Fn : Fun K "is_square" "is_square" s_is_square f fd) (N : Free mg) (T : Tbl K w mg) (I : Df γ P w K mg base 2 "is_pair" ["value"] (spR K RPair)) : FnG γ P w K mg base CX0 3 f fd ["value"] (spR K RSq) := by
  refine okR Fn scSq (fun ds d ⟨x, y, e, _⟩ => by rw [e]; rfl) fun cdv A outer s H B ow ds d Q E hgd hr hR k => ?_
  obtain ⟨x, y, rfl, rfl⟩ := hR
  obtain ⟨tk, mG⟩ := T.great
  refine rn_ret (ve_is (ve_and (t := true) (u := decide (absI x ≤ GR) && decide (absI y ≤ GR)) ?h1 (fun _ => ve_and ?h2 (fun _ => ve_and1 ?h3))) (by simp)) k
  case h1 => exact ve_D I hgd hr rfl (va_cons (ve_var (d := sq x y) (i := 0) rfl rfl (by walk_at "vis")) va_nil) ⟨x, y, rfl, rfl⟩
  case h2 => exact ve_comp (ve_bi (va_cons (ve_sub (ve_var (d := sq x y) (i := 0) rfl rfl (by walk_at "vis")) ve_int (fun _ _ => rfl) (xo_tup rfl)) va_nil) rfl N.abs boot_abs fo_abs) (ve_glob (v := .int GR) rfl mG ⟨_, rfl⟩ (fun F => .int GR)) (co_to co_le rfl)
  case h3 => exact ve_comp (ve_bi (va_cons (ve_sub (ve_var (d := sq x y) (i := 0) rfl rfl (by walk_at "vis")) ve_int (fun _ _ => rfl) (xo_tup rfl)) va_nil) rfl N.abs boot_abs fo_abs) (ve_glob (v := .int GR) rfl mG ⟨_, rfl⟩ (fun F => .int GR)) (co_to co_le rfl)
theorem scTime : FnScope ["value"] ["value"] (defScope s_is_time) := ⟨rfl, rfl, rfl, by decide +kernel, rfl, by decide +kernel, by decide +kernel⟩
def RTime (ds : List D) (d : D) : Prop := ∃ v : D, ds = [v] ∧ v.kind.isSome = true ∧ d = .bl (D.within 0 GR v)
theorem ok_isTime (Fn : Fun K "is_time" "is_time" s_is_time f fd) (T : Tbl K w mg) (I : Df γ P w K mg base 2 "is_within" ["value", "least", "most"] (spR K RIsW)) : FnG γ P w K mg base CX0 3 f fd ["value"] (spR K RTime) := by
  refine okR Fn scTime (fun ds d ⟨v, e, _⟩ => by rw [e]; rfl) fun cdv A outer s H B ow ds d Q E hgd hr hR k => ?_
  obtain ⟨v, rfl, hk, rfl⟩ := hR
  obtain ⟨tk, mG⟩ := T.great
  exact rn_ret (ve_D I hgd hr rfl (va_cons (ve_var (d := v) (i := 0) rfl rfl (by walk_at "vis")) (va_cons ve_int (va_cons (ve_glob (v := .int GR) rfl mG ⟨_, rfl⟩ (fun F => .int GR)) va_nil))) ⟨v, 0, GR, rfl, hk, rfl⟩) k
end
end
section
open Wk TL
theorem tl_tx (l : List Nat) : tl (tx l) = l := tx_cps l
theorem sp_eq : (" " : Str) = tx [32] := by decide +kernel
theorem joinL_row : ∀ l : List Od, joinL [32] ((l.map fun o => tx [oc o]).map tl) = rowC l
  | [] => rfl
  | [o] => by show tl (tx [oc o]) = _; rw [tl_tx]; rfl
  | o :: p :: r => by
    have ih := joinL_row (p :: r)
    show tl (tx [oc o]) ++ ([32] ++ joinL [32] (((p :: r).map fun o => tx [oc o]).map tl)) = _
    rw [ih, tl_tx]
    rfl
theorem join_row (l : List Od) : Txt.join (" " : Str) (l.map fun o => tx [oc o]) = tx (rowC l) := by
  apply ext_tl
  rw [join_eq, tl_join, tl_tx, sp_eq, tl_tx, joinL_row]
theorem oc_ne {o : Od} (h : o.ok) : oc o ≠ 32 ∧ oc o < 100 := by
  cases o with
  | t k =>
    obtain ⟨h1, h2⟩ := (h : 1 ≤ k ∧ k ≤ 3)
    match k, h1, h2 with
    | 1, _, _ => decide
    | 2, _, _ => decide
    | 3, _, _ => decide
  | g n =>
    have z : 1 ≤ n ∧ n ≤ 9 := h
    show 48 + n ≠ 32 ∧ 48 + n < 100
    omega
theorem split_row {l : List Od} (hne : l ≠ []) (ok : ∀ o ∈ l, o.ok) : Txt.split (tx (rowC l)) (" " : Str) = l.map fun o => tx [oc o] := by
  rw [← join_row]
  refine split_join (s := 32) (S := []) (by rw [sp_eq, tl_tx]) (by decide +kernel) (fun e => hne (List.map_eq_nil_iff.mp e)) fun p hp => ?_
  obtain ⟨o, ho, rfl⟩ := List.mem_map.mp hp
  rw [tl_tx]
  intro z
  exact (oc_ne (ok o ho)).1 (List.mem_singleton.mp z).symm
theorem rowC_len : ∀ l : List Od, (rowC l).length ≤ 2 * l.length
  | [] => Nat.le_refl _
  | [o] => by simp [rowC]
  | o :: p :: r => by
    have ih := rowC_len (p :: r)
    show (rowC (p :: r)).length + 1 + 1 ≤ _
    simp only [List.length_cons] at ih ⊢
    omega
theorem num_tx {n : Nat} (h : n < 10) : ((toString (n : Int) : String) : Str) = tx [48 + n] := ext_tl (by rw [tl_tx]; exact (tl_num n).trans (numL_lt h))
section
variable {γ : Gds} {P : Program} {w : World} {K : PySem.W.Frag} {mg : Str → Option Value} {base : Heap} {f : Addr} {fd : FuncData}
/-- whether a text is a turn -/
theorem turn_in {X : Cx} {ow : Ow} {b : Expr} {o : Od} {q : Addr} {es : Array DictEntry} {n : Nat} {t1 t2 t3 : Tok} (ho : o.ok) (hm : behindInMarks .In b = false) (T : KDict X.K X.w q es n)
    (h1 : PySem.W.nsIn X.K q (tx [82]) = some (some (.int 1 t1))) (h2 : PySem.W.nsIn X.K q (tx [66]) = some (some (.int 2 t2))) (h3 : PySem.W.nsIn X.K q (tx [76]) = some (some (.int 3 t3))) (h4 : ∀ n, 1 ≤ n → n ≤ 9 → PySem.W.nsIn X.K q (tx [48 + n]) = some none) :
    CmpOk X ow .In b (.str (tx [oc o])) (.ob (.ref q)) (.bl (!o.isGo)) := by
  cases o with
  | t k =>
    obtain ⟨a1, a2⟩ := (ho : 1 ≤ k ∧ k ≤ 3)
    match k, a1, a2 with
    | 1, _, _ => exact co_to (co_inKd hm T h1) rfl
    | 2, _, _ => exact co_to (co_inKd hm T h2) rfl
    | 3, _, _ => exact co_to (co_inKd hm T h3) rfl
  | g m =>
    obtain ⟨a1, a2⟩ := (ho : 1 ≤ m ∧ m ≤ 9)
    exact co_to (co_inKd hm T (h4 m a1 a2)) rfl
theorem turn_notin {X : Cx} {ow : Ow} {b : Expr} {o : Od} {q : Addr} {es : Array DictEntry} {n : Nat} {t1 t2 t3 : Tok} (ho : o.ok) (hm : behindInMarks .NotIn b = false) (T : KDict X.K X.w q es n)
    (h1 : PySem.W.nsIn X.K q (tx [82]) = some (some (.int 1 t1))) (h2 : PySem.W.nsIn X.K q (tx [66]) = some (some (.int 2 t2))) (h3 : PySem.W.nsIn X.K q (tx [76]) = some (some (.int 3 t3))) (h4 : ∀ n, 1 ≤ n → n ≤ 9 → PySem.W.nsIn X.K q (tx [48 + n]) = some none) :
    CmpOk X ow .NotIn b (.str (tx [oc o])) (.ob (.ref q)) (.bl o.isGo) := by
  cases o with
  | t k =>
    obtain ⟨a1, a2⟩ := (ho : 1 ≤ k ∧ k ≤ 3)
    match k, a1, a2 with
    | 1, _, _ => exact co_to (co_notInKd hm T h1) rfl
    | 2, _, _ => exact co_to (co_notInKd hm T h2) rfl
    | 3, _, _ => exact co_to (co_notInKd hm T h3) rfl
  | g m =>
    obtain ⟨a1, a2⟩ := (ho : 1 ≤ m ∧ m ≤ 9)
    exact co_to (co_notInKd hm T (h4 m a1 a2)) rfl
/-- TURNS[text] -/
theorem turn_at {X : Cx} {ow : Ow} {k : Nat} {q : Addr} {es : Array DictEntry} {n : Nat} {t1 t2 t3 : Tok} (a1 : 1 ≤ k) (a2 : k ≤ 3) (T : KDict X.K X.w q es n)
    (h1 : PySem.W.nsIn X.K q (tx [82]) = some (some (.int 1 t1))) (h2 : PySem.W.nsIn X.K q (tx [66]) = some (some (.int 2 t2))) (h3 : PySem.W.nsIn X.K q (tx [76]) = some (some (.int 3 t3))) : IxOk X ow (.ob (.ref q)) (.str (tx [oc (.t k)])) (.int (k : Nat)) := by
  match k, a1, a2 with
  | 1, _, _ => exact xo_kd (v := .int 1) ⟨es, n, _, T.at_, T.lit, h1, ⟨_, rfl⟩⟩ fun F => .int 1
  | 2, _, _ => exact xo_kd (v := .int 2) ⟨es, n, _, T.at_, T.lit, h2, ⟨_, rfl⟩⟩ fun F => .int 2
  | 3, _, _ => exact xo_kd (v := .int 3) ⟨es, n, _, T.at_, T.lit, h3, ⟨_, rfl⟩⟩ fun F => .int 3
theorem scOrd : FnScope ["text", "many"] ["text"] (defScope s_is_order) := ⟨rfl, rfl, rfl, by decide +kernel, rfl, by decide +kernel, by decide +kernel⟩
def ROrd (ds : List D) (d : D) : Prop := ∃ o : Od, ds = [.str (tx [oc o])] ∧ o.ok ∧ d = .bl true
def digs : List Str := (List.range 9).map fun i => tx [49 + i]
theorem ok_isOrder (Fn : Fun K "is_order" "is_order" s_is_order f fd) (N : Free mg) (T : Tbl K w mg) : FnG γ P w K mg base CX0 1 f fd ["text"] (spR K ROrd) := by
  refine okR Fn scOrd (fun ds d ⟨o, e, _⟩ => by rw [e]; rfl) fun cdv A outer s H B ow ds d Q E hgd hr hR k => ?_
  obtain ⟨o, rfl, ho, rfl⟩ := hR
  obtain ⟨q, es, n, t1, t2, t3, mT, kd, h1, h2, h3, h4⟩ := T.turns
  obtain ⟨ts, mS⟩ := T.steps
  refine rn_ret (ve_is (ve_or (t := !o.isGo) (u := true) ?h1 (fun z => ve_or1 ?h2)) (by simp)) k
  case h1 => exact ve_comp (ve_var (d := .str (tx [oc o])) (i := 0) rfl rfl (by walk_at "vis")) (ve_gobj rfl mT) (turn_in ho rfl kd h1 h2 h3 h4)
  case h2 =>
    cases o with
    | t k => cases z
    | g m =>
      obtain ⟨a1, a2⟩ := (ho : 1 ≤ m ∧ m ≤ 9)
      refine ve_comp (ve_var (d := .str (tx [oc (.g m)])) (i := 0) rfl rfl (by walk_at "vis")) (d2 := .lst (digs.map D.str)) ?_ (co_to (co_inSL rfl) ?_)
      · refine ve_is (ve_lc (j := 1) (fun _ => true) (fun d => match d with | .int i => .str ((toString i : String) : Str) | _ => .non) (ds := rangeD 1 ((9 + 1 : Int) - 1).toNat) rfl scOrd.nd ?hi (blkOk_by (N := ["text", "many"]) (sc := defScope s_is_order) (by decide +kernel)) (by rw [rangeD_len]; decide) (fun _ _ _ _ _ => pg_name scOrd.nd rfl (.inl rfl)) (fun d ow' _ _ s0 H0 C0 cl fp => vts_nil) ?he) ?eq
        case hi => exact vi_range2 rfl N.range ve_int (ve_bin (ve_glob (v := .int 9) rfl mS ⟨_, rfl⟩ (fun F => .int 9)) ve_int bo_add) (by decide)
        case he =>
          intro d ow' hd _ _ s0 H0 C0 cl fp
          obtain ⟨i, hi⟩ := List.mem_iff_getElem?.mp hd
          obtain ⟨hlt, rfl⟩ := rangeD_get hi
          exact ve_ty (id := "str") (va_cons (ve_var (d := .int (1 + (i : Nat))) (i := 1) rfl rfl (by walk_at "vis")) va_nil) rfl N.str boot_str (to_strI (by
            have : (1 + (i : Int)).natAbs < 10 := by omega
            have y := Nat.log2_lt (n := (1 + (i : Int)).natAbs) (k := 4) (by omega)
            have := y.mpr (by omega)
            omega))
        case eq =>
          rw [List.filter_eq_self.mpr (fun _ _ => rfl)]
          unfold digs rangeD
          rw [List.map_map, List.map_map]
          congr 1
      · have y : tx [oc (.g m)] ∈ digs := List.mem_map.mpr ⟨m - 1, List.mem_range.mpr (by omega), by
          show tx [49 + (m - 1)] = tx [48 + m]
          rw [show 49 + (m - 1) = 48 + m by omega]⟩
        simp [y]
theorem fo_any {X : Cx} {ow : Ow} {bs : List Bool} (hc : X.calm = true) : BiOk X ow "any" [.lst (bs.map D.bl)] (.bl (bs.any id)) := ⟨_, cr_any hc, rc_any⟩
theorem scRow : FnScope ["value", "orders", "order"] ["value"] (defScope s_is_row) := ⟨rfl, rfl, rfl, by decide +kernel, rfl, by decide +kernel, by decide +kernel⟩
def RRow (ds : List D) (d : D) : Prop := ∃ l : List Od, ds = [.str (tx (rowC l))] ∧ Row l ∧ d = .bl true
def wsD (l : List Od) : List D := l.map fun o => .str (tx [oc o])
theorem wsD_eq (l : List Od) : (l.map fun o => tx [oc o]).map D.str = wsD l := by
  rw [List.map_map]
  rfl
theorem ve_words {X : Cx} {env : List (Option D)} {ow : Ow} {o e : Expr} {ap pos : Pos} {l : List Od} (r : Row l) (ho : Ve X o env ow (.str (tx (rowC l)))) (h : Ve X e env ow (.str (" " : Str)))
    (hs : starEach [e] X.env = [(false, eval e X.env)] := by rfl) (hbase : attributeBase o "split" X.env (eval o X.env) = eval o X.env := by rfl) (hline : (ap.endLine == pos.line) = true := by rfl) :
    Ve X (.Call (.Attribute o "split" ap) [e] [] pos) env ow (.lst (wsD l)) := ve_is (ve_split ho h rfl (by rw [tx_len]; have := rowC_len l; have := r.le; omega) hs hbase hline) (by rw [split_row r.ne r.ok, wsD_eq])
theorem ok_isRow (Fn : Fun K "is_row" "is_row" s_is_row f fd) (N : Free mg) (T : Tbl K w mg) (O : Df γ P w K mg base 1 "is_order" ["text"] (spR K ROrd)) : FnG γ P w K mg base CX0 2 f fd ["value"] (spR K RRow) := by
  refine okR Fn scRow (fun ds d ⟨l, e, _⟩ => by rw [e]; rfl) fun cdv A outer s H B ow ds d Q E hgd hr hR k => ?_
  obtain ⟨l, rfl, rl, rfl⟩ := hR
  obtain ⟨q, es, n, t1, t2, t3, mT, kd, h1, h2, h3, h4⟩ := T.turns
  obtain ⟨tm, mM⟩ := T.orders
  refine' rn_if (t := false) ?c1 (fun z => nomatch z) ?c2
  case c1 => exact vt_is (vt_not (t := true) (vt_val (ve_is (ve_bi (va_cons (ve_var (d := .str (tx (rowC l))) (i := 0) rfl rfl (by walk_at "vis")) (va_cons (ve_bty rfl N.str boot_str) va_nil)) rfl N.isinstance boot_isinstance (fo_isT (b := true) rfl (by decide +kernel))) rfl))) rfl
  case c2 =>
  intro _ B1 e1
  refine rn_go ?_
  refine' rn_set (i := 1) (d := .lst (wsD l)) scRow.nd rfl (by first | exact .inl rfl | exact .inr rfl) ?s1 ?s2
  case s1 => exact ve_words rl (ve_var (d := .str (tx (rowC l))) (i := 0) rfl rfl (by walk_at "vis")) ve_str
  case s2 =>
  intro B2 e2
  have len : (wsD l).length = l.length := by unfold wsD; rw [List.length_map]
  have le := rl.le
  refine' rn_if (t := false) ?d1 (fun z => nomatch z) ?d2
  case d1 =>
    refine vt_is (vt_w (vw_or (t := false) (u := false) ?o1 (fun _ => vw_or1 ?o2) (pw_all_or _ _))) rfl
    case o1 => exact vt_is (vt_comp (ve_bi (va_cons (ve_var (d := .lst (wsD l)) (i := 1) rfl rfl (by walk_at "vis")) va_nil) rfl N.len boot_len fo_lenL) (ve_glob (v := .int 8) rfl mM ⟨_, rfl⟩ (fun F => .int 8)) co_gt) (by rw [len]; exact decide_eq_false (by omega))
    case o2 =>
      refine vt_is (vt_not (t := true) (vt_val (ve_is (ve_bi (va_cons ?al va_nil) rfl N.all boot_all (fo_all (bs := List.replicate l.length true) rfl)) (by simp)))) rfl
      case al =>
        refine ve_is (ve_lc (j := 2) (fun _ => true) (fun _ => .bl true) (ds := wsD l) rfl scRow.nd (vi_list (ve_var (i := 1) rfl rfl (by walk_at "vis"))) (blkOk_by (N := ["value", "orders", "order"]) (sc := defScope s_is_row) (by decide +kernel)) (by rw [len]; omega) (fun _ _ _ _ _ => pg_name scRow.nd rfl (.inl rfl)) (fun d ow' _ _ s0 H0 C0 cl fp => vts_nil) ?he) ?eq
        case he =>
          intro d ow' hd _ _ s0 H0 C0 cl fp
          obtain ⟨o, ho, rfl⟩ := List.mem_map.mp hd
          exact ve_D O hgd hr rfl (va_cons (ve_var (d := .str (tx [oc o])) (i := 2) rfl rfl (by walk_at "vis")) va_nil) ⟨o, rfl, rl.ok o ho, rfl⟩
        case eq =>
          rw [List.filter_eq_self.mpr (fun _ _ => rfl), List.map_replicate]
          congr 1
          rw [← len]
          exact List.map_const'  ..
  case d2 =>
  intro _ B3 e3
  refine rn_go ?_
  refine rn_ret (ve_is (ve_bi (va_cons ?an va_nil) rfl N.any boot_any (fo_any (bs := l.map Od.isGo) rfl)) (by rw [List.any_map]; exact congrArg D.bl rl.go)) (k.ex (e1.trans (e2.trans e3)))
  case an =>
    refine ve_is (ve_lcZ (j := 2) (ds := wsD l) ((l.map Od.isGo).map D.bl) (by rw [len, List.length_map, List.length_map]) rfl scRow.nd (vi_list (ve_var (i := 1) rfl rfl (by walk_at "vis"))) (blkOk_by (N := ["value", "orders", "order"]) (sc := defScope s_is_row) (by decide +kernel)) (by rw [len]; omega) (fun _ _ _ _ _ => pg_name scRow.nd rfl (.inl rfl)) ?he) rfl
    case he =>
      intro i d r ow' hd hr' sub s0 H0 C0 cl fp
      unfold wsD at hd
      rw [List.getElem?_map] at hd hr'
      rw [List.getElem?_map] at hr'
      cases z : l[i]? with
      | none => rw [z] at hd; cases hd
      | some o =>
        rw [z] at hd hr'
        obtain rfl := Option.some.inj hd
        obtain rfl := Option.some.inj hr'
        exact ve_comp (ve_var (d := .str (tx [oc o])) (i := 2) rfl rfl (by walk_at "vis")) (ve_gobj rfl mT) (turn_notin (rl.ok o (List.mem_of_getElem? z)) rfl kd h1 h2 h3 h4)
end
end
section
open Wk TL
abbrev wD (a : Nat) : D := .str (tx [wc a])
def wsT (l : List Nat) : Str := tx (l.map wc)
theorem wc_inj {a b : Nat} (ha : a < 4) (hb : b < 4) (h : wc a = wc b) : a = b := by
  match a, ha, b, hb with
  | 0, _, 0, _ => rfl
  | 1, _, 1, _ => rfl
  | 2, _, 2, _ => rfl
  | 3, _, 3, _ => rfl
  | 0, _, 1, _ => cases h
  | 0, _, 2, _ => cases h
  | 0, _, 3, _ => cases h
  | 1, _, 0, _ => cases h
  | 1, _, 2, _ => cases h
  | 1, _, 3, _ => cases h
  | 2, _, 0, _ => cases h
  | 2, _, 1, _ => cases h
  | 2, _, 3, _ => cases h
  | 3, _, 0, _ => cases h
  | 3, _, 1, _ => cases h
  | 3, _, 2, _ => cases h
theorem run_app : ∀ (l m : List Od) (w : Nat), run (l ++ m) w = run l w ++ run m (fin l w)
  | [], _, _ => rfl
  | .t k :: l, m, w => run_app l m _
  | .g n :: l, m, w => by
    show List.replicate n w ++ run (l ++ m) w = (List.replicate n w ++ run l w) ++ run m (fin l w)
    rw [run_app l m w, List.append_assoc]
theorem fin_app : ∀ (l m : List Od) (w : Nat), fin (l ++ m) w = fin m (fin l w)
  | [], _, _ => rfl
  | .t k :: l, m, w => fin_app l m _
  | .g n :: l, m, w => fin_app l m w
section
variable {γ : Gds} {P : Program} {w : World} {K : PySem.W.Frag} {mg : Str → Option Value} {base : Heap} {f : Addr} {fd : FuncData}
theorem scWay : FnScope ["value"] ["value"] (defScope s_is_way) := ⟨rfl, rfl, rfl, by decide +kernel, rfl, by decide +kernel, by decide +kernel⟩
def RWay (ds : List D) (d : D) : Prop := ∃ a, ds = [wD a] ∧ a < 4 ∧ d = .bl true
theorem ok_isWay (Fn : Fun K "is_way" "is_way" s_is_way f fd) (N : Free mg) (T : Tbl K w mg) : FnG γ P w K mg base CX0 1 f fd ["value"] (spR K RWay) := by
  refine okR Fn scWay (fun ds d ⟨a, e, _⟩ => by rw [e]; rfl) fun cdv A outer s H B ow ds d Q E hgd hr hR k => ?_
  obtain ⟨a, rfl, ha, rfl⟩ := hR
  obtain ⟨q, es, n, mM, kd, hks, _⟩ := T.moves
  refine rn_ret (ve_is (ve_and (t := true) (u := true) ?h1 (fun _ => ve_and1 ?h2)) rfl) k
  case h1 => exact ve_bi (va_cons (ve_var (d := wD a) (i := 0) rfl rfl (by walk_at "vis")) (va_cons (ve_bty rfl N.str boot_str) va_nil)) rfl N.isinstance boot_isinstance (fo_isT (b := true) rfl (by decide +kernel))
  case h2 =>
    refine ve_comp (ve_var (d := wD a) (i := 0) rfl rfl (by walk_at "vis")) (ve_ty (id := "list") (va_cons (ve_gobj rfl mM) va_nil) rfl N.list boot_list (to_listKd rfl kd hks (by decide) (by decide))) (co_to (co_inSL rfl) ?_)
    congr 1
    match a, ha with
    | 0, _ => decide
    | 1, _ => decide
    | 2, _ => decide
    | 3, _ => decide
theorem scTurn : FnScope ["way", "turns"] ["way", "turns"] (defScope s_turned_way) := ⟨rfl, rfl, rfl, by decide +kernel, rfl, by decide +kernel, by decide +kernel⟩
def RTurn (ds : List D) (d : D) : Prop := ∃ a k : Nat, ds = [wD a, .int (k : Nat)] ∧ a < 4 ∧ d = wD ((a + k) % 4)
def nesw : Str := tx [78, 69, 83, 87]
theorem occ_way {a : Nat} (ha : a < 4) : Builtin.Str.occurrences nesw (tx [wc a]) 0 nesw.length 1 = a :: [] := by
  match a, ha with
  | 0, _ => decide +kernel
  | 1, _ => decide +kernel
  | 2, _ => decide +kernel
  | 3, _ => decide +kernel
theorem at_way {a : Nat} (ha : a < 4) : L2.atI nesw.cps.toList (a : Int) = some (wc a) := by
  match a, ha with
  | 0, _ => rfl
  | 1, _ => rfl
  | 2, _ => rfl
  | 3, _ => rfl
theorem ok_turned (Fn : Fun K "turned_way" "turned_way" s_turned_way f fd) (N : Free mg) (T : Tbl K w mg) : FnG γ P w K mg base CX0 1 f fd ["way", "turns"] (spR K RTurn) := by
  refine okR Fn scTurn (fun ds d ⟨a, k, e, _⟩ => by rw [e]; rfl) fun cdv A outer s H B ow ds d Q E hgd hr hR kQ => ?_
  obtain ⟨a, k, rfl, ha, rfl⟩ := hR
  obtain ⟨tk, mW⟩ := T.ways
  have W : ∀ {pos}, Ve (cxOf CX0 P w K mg base ["way", "turns"] "turned_way" (defScope s_turned_way) f cdv A outer s H E).nox (.Name "WAYS" pos) (env0 ["way", "turns"] [wD a, .int (k : Nat)]) ow (.str nesw) := fun {pos} => ve_glob (v := .str nesw) rfl mW ⟨_, rfl⟩ (fun F => .str _)
  refine rn_ret (ve_sub W (ve_is (ve_bin (ve_bin (ve_sindex W (ve_var (d := wD a) (i := 0) rfl rfl (by walk_at "vis")) (occ_way ha)) (ve_var (d := .int (k : Nat)) (i := 1) rfl rfl (by walk_at "vis")) bo_add) (ve_bi (va_cons W va_nil) rfl N.len boot_len (fo_lenS (by decide))) (bo_mod (by decide))) (d1 := .int (((a + k) % 4 : Nat) : Int)) rfl) (fun _ _ => rfl) (xo_str (by decide) (at_way (Nat.mod_lt _ (by decide))))) kQ
theorem int_digit {n : Nat} (h1 : 1 ≤ n) (h2 : n ≤ 9) : PySem.intText? (tx [48 + n]) = some (n : Int) := by
  match n, h1, h2 with
  | 1, _, _ => decide +kernel
  | 2, _, _ => decide +kernel
  | 3, _, _ => decide +kernel
  | 4, _, _ => decide +kernel
  | 5, _, _ => decide +kernel
  | 6, _, _ => decide +kernel
  | 7, _, _ => decide +kernel
  | 8, _, _ => decide +kernel
  | 9, _, _ => decide +kernel
theorem scRun : FnScope ["row", "way", "gone", "order"] ["row", "way"] (defScope s_one_run) := ⟨rfl, rfl, rfl, by decide +kernel, rfl, by decide +kernel, by decide +kernel⟩
def RRun (ds : List D) (d : D) : Prop := ∃ (l : List Od) (a : Nat), ds = [.str (tx (rowC l)), wD a] ∧ Row l ∧ a < 4 ∧ d = .tup [.str (wsT (run l a)), wD (fin l a)]
theorem ok_oneRun (Fn : Fun K "one_run" "one_run" s_one_run f fd) (N : Free mg) (T : Tbl K w mg) (U : Df γ P w K mg base 1 "turned_way" ["way", "turns"] (spR K RTurn)) : FnG γ P w K mg base CX0 2 f fd ["row", "way"] (spR K RRun) := by
  refine okR Fn scRun (fun ds d ⟨l, a, e, _⟩ => by rw [e]; rfl) fun cdv A outer s H B ow ds d Q E hgd hr hR kQ => ?_
  obtain ⟨l, a, rfl, rl, ha, rfl⟩ := hR
  obtain ⟨q, es, n, t1, t2, t3, mT, kd, h1, h2, h3, h4⟩ := T.turns
  refine' rn_set (i := 2) (d := .str (wsT [])) scRun.nd rfl (by first | exact .inl rfl | exact .inr rfl) (ve_is ve_str rfl) ?k
  case k =>
  intro B1 e1
  refine' rn_for (ds := wsD l) (g := gName 3) (f := fun d env => env.set 3 (some d)) (fun i env ow' => ow = ow' ∧ ∃ z : Option D, env = [some (.str (tx (rowC l))), some (wD (fin (l.take i) a)), some (.str (wsT (run (l.take i) a))), z]) PassesOwn.never rfl ?hi (pg_name scRun.nd rfl (.inl rfl)) (fun ow d _ => gd_name 3) ⟨rfl, none, rfl⟩ ?hs ?hd
  case hi => exact vi_list (ve_words rl (ve_var (d := .str (tx (rowC l))) (i := 0) rfl rfl (by walk_at "vis")) ve_str)
  case hd =>
    rintro B2 env' ow' e2 ⟨rfl, z, rfl⟩
    have e : l.take (wsD l).length = l := List.take_of_length_le (by unfold wsD; rw [List.length_map]; exact Nat.le_refl _)
    rw [e]
    exact rn_ret (ve_tup (va_cons (ve_var (d := .str (wsT (run l a))) (i := 2) rfl rfl (by walk_at "vis")) (va_cons (ve_var (d := wD (fin l a)) (i := 1) rfl rfl (by walk_at "vis")) va_nil)) (by show 2 ≤ 100000; decide)) (kQ.ex (e1.trans e2))
  case hs =>
    rintro B2 i d env' ow' e2 hd ⟨rfl, z, rfl⟩
    unfold wsD at hd
    rw [List.getElem?_map] at hd
    cases y : l[i]? with
    | none => rw [y] at hd; cases hd
    | some o =>
      rw [y] at hd
      obtain rfl := Option.some.inj hd
      have ho := rl.ok o (List.mem_of_getElem? y)
      have tk : l.take (i + 1) = l.take i ++ [o] := by rw [List.take_add_one, y]; rfl
      have fl : fin (l.take i) a < 4 := fin_lt ha
      have lenr : (run (l.take i) a).length ≤ 72 := by
        have z1 : l = l.take i ++ l.drop i := (List.take_append_drop i l).symm
        have z2 : (run l a).length ≤ 72 := by rw [run_len]; exact rl.stp
        rw [z1, run_app, List.length_append] at z2
        omega
      refine' rn_if (t := !o.isGo) ?c ?c1 ?c2
      case c => exact vt_comp (ve_var (d := .str (tx [oc o])) (i := 3) rfl rfl (by walk_at "vis")) (ve_gobj rfl mT) (turn_in ho rfl kd h1 h2 h3 h4)
      case c1 =>
        intro t B3 e3
        cases o with
        | g m => cases t
        | t k =>
          obtain ⟨a1, a2⟩ := (ho : 1 ≤ k ∧ k ≤ 3)
          refine' rn_set (i := 1) (d := wD ((fin (l.take i) a + k) % 4)) scRun.nd rfl (by first | exact .inl rfl | exact .inr rfl) ?u ?k
          case u => exact ve_D U hgd hr rfl (va_cons (ve_var (d := wD (fin (l.take i) a)) (i := 1) rfl rfl (by walk_at "vis")) (va_cons (ve_sub (ve_gobj rfl mT) (ve_var (d := .str (tx [oc (.t k)])) (i := 3) rfl rfl (by walk_at "vis")) (fun _ _ => rfl) (turn_at a1 a2 kd h1 h2 h3)) va_nil)) ⟨_, k, rfl, fl, rfl⟩
          case k =>
          intro B4 e4
          refine rn_go ?_
          refine rn_nextW ⟨rfl, some (.str (tx [oc (.t k)])), ?_⟩ (e3.trans e4)
          rw [tk, run_app, fin_app]
          show _ = [some (.str (tx (rowC l))), some (wD ((fin (l.take i) a + k) % 4)), some (.str (wsT (run (l.take i) a ++ []))), some (.str (tx [oc (.t k)]))]
          rw [List.append_nil]
          rfl
      case c2 =>
        intro t B3 e3
        cases o with
        | t k => cases t
        | g m =>
          obtain ⟨a1, a2⟩ := (ho : 1 ≤ m ∧ m ≤ 9)
          refine' rn_set (i := 2) (d := .str (wsT (run (l.take i) a ++ List.replicate m (fin (l.take i) a)))) scRun.nd rfl (by first | exact .inl rfl | exact .inr rfl) ?u ?k
          case u =>
            refine ve_is (ve_bin (ve_var (d := .str (wsT (run (l.take i) a))) (i := 2) rfl rfl (by walk_at "vis")) (ve_bin (ve_var (d := wD (fin (l.take i) a)) (i := 1) rfl rfl (by walk_at "vis")) (ve_ty (id := "int") (va_cons (ve_var (d := .str (tx [oc (.g m)])) (i := 3) rfl rfl (by walk_at "vis")) va_nil) rfl N.int boot_int (to_intS (int_digit a1 a2) (by rw [tx_len]; show 1 ≤ 640; decide))) (bo_mulX (by simp; omega) (by omega))) (bo_catX ?_)) ?_
            · rw [List.length_map, List.length_flatten]
              simp
              omega
            · show D.str (tx ((run (l.take i) a).map wc ++ (List.replicate m [wc (fin (l.take i) a)]).flatten)) = D.str (tx ((run (l.take i) a ++ List.replicate m (fin (l.take i) a)).map wc))
              rw [List.map_append, List.map_replicate]
              have z : ∀ (n c : Nat), (List.replicate n [c]).flatten = List.replicate n c := fun n c => by
                induction n with
                | zero => rfl
                | succ n ih => rw [List.replicate_succ, List.flatten_cons, ih, List.replicate_succ]; rfl
              rw [z]
          case k =>
          intro B4 e4
          refine rn_go ?_
          refine rn_nextW ⟨rfl, some (.str (tx [oc (.g m)])), ?_⟩ (e3.trans e4)
          rw [tk, run_app, fin_app]
          show _ = [some (.str (tx (rowC l))), some (wD (fin (l.take i) a)), some (.str (wsT (run (l.take i) a ++ (List.replicate m (fin (l.take i) a) ++ [])))), some (.str (tx [oc (.g m)]))]
          rw [List.append_nil]
          rfl
end
end
section
open Wk TL
theorem scLRow : FnScope ["cup", "most", "longest", "found", "turn", "kind", "is_turn", "word"] ["cup", "most", "longest"] (defScope s__law_row) := ⟨rfl, rfl, rfl, by decide +kernel, rfl, by decide +kernel, by decide +kernel⟩
def GLRow (ds : List D) : Prop := ∃ m n : Int, ds = [.int m, .int n] ∧ 1 ≤ m ∧ m ≤ 8 ∧ 1 ≤ n ∧ n ≤ 9
def RLRow2 (ds : List D) (d : D) : Prop := ∃ (l : List Od) (m n : Int), ds = [.int m, .int n] ∧ d = .str (tx (rowC l)) ∧ Row l ∧ (l.length : Int) ≤ m
def RLRow (_ : List D) (d : D) : Prop := ∃ l : List Od, d = .str (tx (rowC l)) ∧ Row l
def rlb : Str := ("RLB" : Str)
/-- whether a datum is a turn's text -/
def isT : D → Bool
  | .str z => decide (z.cps.toList.headD 0 ∈ rlb.cps.toList)
  | _ => false
theorem isT_oc {o : Od} (h : o.ok) : decide (oc o ∈ rlb.cps.toList) = !o.isGo := by
  cases o with
  | t k =>
    obtain ⟨h1, h2⟩ := (h : 1 ≤ k ∧ k ≤ 3)
    match k, h1, h2 with
    | 1, _, _ => decide +kernel
    | 2, _, _ => decide +kernel
    | 3, _, _ => decide +kernel
  | g n =>
    obtain ⟨h1, h2⟩ := (h : 1 ≤ n ∧ n ≤ 9)
    show decide (48 + n ∈ rlb.cps.toList) = false
    have e : rlb.cps.toList = [82, 76, 66] := by decide +kernel
    rw [e]
    simp
    omega
theorem isT_d {o : Od} (h : o.ok) : isT (.str (tx [oc o])) = !o.isGo := by
  show decide ((tx [oc o]).cps.toList.headD 0 ∈ rlb.cps.toList) = _
  rw [tx_cps]
  exact isT_oc h
theorem log_small {i : Int} (h1 : 0 ≤ i) (h2 : i ≤ 10) : i.natAbs.log2 < 1920 := by
  have : i.natAbs.log2 ≤ i.natAbs := Nat.log2_le_self _
  omega
theorem not_all {l : List Od} (h : l.all (fun o => !o.isGo) = false) : l.any Od.isGo = true := by
  induction l with
  | nil => cases h
  | cons o l ih =>
    rw [List.all_cons] at h
    rw [List.any_cons]
    cases q : o.isGo with
    | true => rfl
    | false =>
      rw [q] at h
      simpa using ih (by simpa using h)
theorem set_any {l : List Od} {j : Nat} {o : Od} (hj : j < l.length) (ho : o.isGo = true) : (l.set j o).any Od.isGo = true := by
  rw [List.any_eq_true]
  exact ⟨o, List.mem_iff_getElem.mpr ⟨j, by rw [List.length_set]; exact hj, by rw [List.getElem_set_self]⟩, ho⟩
theorem join_small {l : List Od} (h : l.length ≤ 8) : ((l.map fun o => tx [oc o]).map (·.length)).sum + (l.map fun o => tx [oc o]).length * (" " : Str).length ≤ 16777216 := by
  have e : ((l.map fun o => tx [oc o]).map (·.length)).sum = l.length := by
    rw [List.map_map]
    clear h
    induction l with
    | nil => rfl
    | cons o l ih =>
      rw [List.map_cons, List.sum_cons, ih, List.length_cons]
      show (tx [oc o]).length + l.length = _
      rw [tx_len]
      simp
      omega
  have e2 : (" " : Str).length = 1 := by decide +kernel
  rw [e, e2, List.length_map]
  omega
section
variable {γ : Gds} {P : Program} {w : World} {K : PySem.W.Frag} {mg : Str → Option Value} {base : Heap} {f C : Addr} {fd : FuncData}
theorem ok_lrow2 (Fn : Fun K "_law_row" "_law_row" s__law_row f fd) (N : Free mg) (S : Df γ P w K mg base 1 "_law_sip" ["cup", "many"] (spC K GSip RSip)) : FnG γ P w K mg base CX0 2 f fd ["cup", "most", "longest"] (spC K GLRow RLRow2) := by
  refine okC Fn scLRow (fun ds ⟨m, n, e, _⟩ => by rw [e]; rfl) fun cdv A outer s H B ow c ds Q E hgd hr hG hc kQ => ?_
  obtain ⟨mo, lo, rfl, m1, m8, l1, l9⟩ := hG
  refine' rn_newL (j := 3) (ds := []) scLRow.nd rfl (.inl rfl) va_nil (Nat.zero_le _) fun B1 q e1 hq => ?_
  have cq : c ≠ q := fun z => by
    obtain ⟨x, y, _, _, h⟩ := hc
    rw [z, hq] at h
    cases h
  have hc1 : CupO (ou ow q (.lst [])) c := by
    obtain ⟨x, y, hx, hy, h⟩ := hc
    exact ⟨x, y, hx, hy, by rw [ou_ne cq]; exact h⟩
  have cup_ou : ∀ {o2 : Ow} {u : OD}, CupO o2 c → CupO (ou o2 q u) c := fun {o2 u} h => by
    obtain ⟨x, y, hx, hy, h⟩ := h
    exact ⟨x, y, hx, hy, by rw [ou_ne cq]; exact h⟩
  -- a step drawn
  refine' rn_forRM (g := gName 4) (f := fun d env => env.set 4 (some d)) (P := fun d ow2 => SameO c (ou ow q (.lst [])) ow2 ∧ CupO ow2 c ∧ ∃ r : Int, d = .int (1 + r) ∧ 0 ≤ r ∧ r < mo)
    (fun n i env ow' => 1 ≤ n ∧ n ≤ 8 ∧ (n : Int) ≤ mo ∧ ∃ (l : List Od) (z4 z5 z6 : Option D), env = [some (.ob (.ref c)), some (.int mo), some (.int lo), some (.ob (.ref q)), z4, z5, z6, none] ∧ ow' q = some (.lst (wsD l)) ∧ (∀ b o, b ≠ c → b ≠ q → ow b = some o → ow' b = some o) ∧ CupO ow' c ∧ l.length = i ∧ ∀ o ∈ l, o.ok)
    PassesOwn.never rfl ?hgR N.range ?hi ?hP ?hgt (fun ow d => gd_name 4) ?hs ?hd ?hst
  case hgR => rfl
  case hgt => exact pg_name scLRow.nd rfl (.inl rfl)
  case hst => rfl
  case hi =>
    refine vm_op2 (d1 := .int 1) op_add ve_int (vm_DC S hgd (hr.mono (by decide)) rfl (va_cons (ve_var (i := 0) rfl rfl (by walk_at "vis")) (va_cons (ve_var (d := .int mo) (i := 1) rfl rfl (by walk_at "vis")) va_nil)) hc1 ⟨mo, rfl, by omega, by omega⟩) ?_
    rintro d2 ow2 ⟨s2, c2, m, r, e, rfl, r0, r1⟩
    cases e
    exact ⟨_, rd_add, s2, c2, r, rfl, r0, r1⟩
  case hP =>
    rintro d ow2 ⟨s2, c2, r, rfl, r0, r1⟩
    exact ⟨(1 + r).toNat, by congr 1; omega, by omega, by omega, by omega, by omega, [], none, none, none, rfl, s2 q _ (Ne.symm cq) ou_same, fun b o n1 n2 h => s2 b o n1 (by rw [ou_ne n2]; exact h), c2, rfl, fun x hx => by simp at hx⟩
  case hs =>
    rintro n B2 i env' ow' e2 hin ⟨n1, n8, nm, l, z4, z5, z6, rfl, hq2, same, c2, len, okl⟩
    refine' rn_setM (i := 5) (P := fun d ow2 => SameO c ow' ow2 ∧ CupO ow2 c ∧ ∃ r : Int, d = .int r ∧ 0 ≤ r ∧ r < 6) scLRow.nd rfl (.inl rfl) ?a1 ?a2
    case a1 =>
      refine Vm.imp (vm_DC S hgd (hr.mono (by decide)) rfl (va_cons (ve_var (i := 0) rfl rfl (by walk_at "vis")) (va_cons ve_int va_nil)) c2 ⟨6, rfl, by decide, by decide⟩) ?_
      rintro d ow2 ⟨s3, c3, m, r, e, rfl, r0, r1⟩
      cases e
      exact ⟨s3, c3, r, rfl, r0, r1⟩
    case a2 =>
    rintro B3 d ow3 e3 ⟨s3, c3, k, rfl, k0, k6⟩
    refine' rn_setM (i := 6) (P := fun d ow2 => SameO c ow3 ow2 ∧ CupO ow2 c ∧ ∃ t : Bool, d = .bl t ∧ (t = true → k < 3)) scLRow.nd rfl (.inl rfl) ?b1 ?b2
    case b1 =>
      refine vm_or (t := decide (k < 2)) (ve_comp (ve_var (d := .int k) (i := 5) rfl rfl (by walk_at "vis")) ve_int co_lt) (fun t => ⟨.refl, c3, true, rfl, fun _ => by have := of_decide_eq_true t; omega⟩) fun t => vm_one ?_
      refine vm_and (t := decide (k = 2)) (ve_comp (ve_var (d := .int k) (i := 5) rfl rfl (by walk_at "vis")) ve_int co_eqI) (fun t => ⟨.refl, c3, false, rfl, fun z => nomatch z⟩) fun t => vm_one ?_
      refine vm_eqI (vm_DC S hgd (hr.mono (by decide)) rfl (va_cons (ve_var (i := 0) rfl rfl (by walk_at "vis")) (va_cons ve_int va_nil)) c3 ⟨3, rfl, by decide, by decide⟩) ?_
      rintro d ow2 ⟨s4, c4, m, r, e, rfl, r0, r1⟩
      exact ⟨r, 0, rfl, ve_int, s4, c4, _, rfl, fun _ => by have := of_decide_eq_true t; omega⟩
    case b2 =>
    rintro B4 d ow4 e4 ⟨s4, c4, t, rfl, ht⟩
    have hq4 : ow4 q = some (.lst (wsD l)) := s4 q _ (Ne.symm cq) (s3 q _ (Ne.symm cq) hq2)
    refine' rn_appV (q := q) (P := fun d ow2 => SameO c ow4 ow2 ∧ CupO ow2 c ∧ ∃ o : Od, o.ok ∧ d = .str (tx [oc o])) (ve_var (i := 3) rfl rfl (by walk_at "vis")) hq4 ?c1 ?c2
    case c1 =>
      refine vm_if (t := t) (vt_val (ve_var (d := .bl t) (i := 6) rfl rfl (by walk_at "vis"))) (fun tt => ?_) (fun tt => ?_)
      · have k3 := ht tt
        obtain ⟨o, ok, h1⟩ : ∃ o : Od, o.ok ∧ L2.atI rlb.cps.toList k = some (oc o) := by
          have kk : k = 0 ∨ k = 1 ∨ k = 2 := by omega
          rcases kk with rfl | rfl | rfl
          · exact ⟨.t 1, ⟨by decide, by decide⟩, by decide +kernel⟩
          · exact ⟨.t 3, ⟨by decide, by decide⟩, by decide +kernel⟩
          · exact ⟨.t 2, ⟨by decide, by decide⟩, by decide +kernel⟩
        exact vm_of (ve_sub ve_str (ve_var (d := .int k) (i := 5) rfl rfl (by walk_at "vis")) (fun _ _ => rfl) (xo_str (z := rlb) (c := oc o) (by decide +kernel) h1)) ⟨.refl, c4, o, ok, rfl⟩
      · refine vm_strI (P := fun d ow2 => SameO c ow4 ow2 ∧ CupO ow2 c ∧ ∃ r : Int, d = .int (1 + r) ∧ 0 ≤ r ∧ r < lo) ?d1 rfl N.str boot_str ?d2
        case d1 =>
          refine vm_op2 (d1 := .int 1) op_add ve_int (vm_DC S hgd (hr.mono (by decide)) rfl (va_cons (ve_var (i := 0) rfl rfl (by walk_at "vis")) (va_cons (ve_var (d := .int lo) (i := 2) rfl rfl (by walk_at "vis")) va_nil)) c4 ⟨lo, rfl, by omega, by omega⟩) ?_
          rintro d2 ow2 ⟨s2, c2, m, r, e, rfl, r0, r1⟩
          cases e
          exact ⟨_, rd_add, s2, c2, r, rfl, r0, r1⟩
        case d2 =>
          rintro d ow2 ⟨s5, c5, r, rfl, r0, r1⟩
          refine ⟨_, rfl, log_small (by omega) (by omega), s5, c5, .g (1 + r).toNat, ⟨by omega, by omega⟩, ?_⟩
          have y : (1 + r : Int) = (((1 + r).toNat : Nat) : Int) := by omega
          show D.str _ = D.str (tx [48 + (1 + r).toNat])
          rw [← num_tx (n := (1 + r).toNat) (by omega), ← y]
    case c2 =>
    rintro d ow5 ⟨s5, c5, o, oko, rfl⟩
    refine ⟨wsD l, s5 q _ (Ne.symm cq) hq4, by unfold wsD; rw [List.length_map]; omega, fun B5 e5 => rn_nextW ?_ (e3.trans (e4.trans e5))⟩
    refine ⟨n1, n8, nm, l ++ [o], _, _, _, rfl, ?_, fun b u nb1 nb2 h => ?_, cup_ou c5, by rw [List.length_append, len]; rfl, fun x hx => ?_⟩
    · rw [ou_same]
      unfold wsD
      rw [List.map_append]
      rfl
    · rw [ou_ne nb2]
      exact s5 b u nb1 (s4 b u nb1 (s3 b u nb1 (same b u nb1 nb2 h)))
    · rcases List.mem_append.mp hx with h | h
      · exact okl x h
      · rw [List.mem_singleton] at h
        rw [h]
        exact oko
  case hd =>
    rintro n B2 env' ow' e2 ⟨n1, n8, nm, l, z4, z5, z6, rfl, hq2, same, c2, len, okl⟩
    have len2 : (wsD l).length = l.length := by unfold wsD; rw [List.length_map]
    refine' rn_if (t := l.all fun o => !o.isGo) ?t1 ?t2 ?t3
    case t1 =>
      refine vt_val (ve_is (ve_bi (ds := [.lst ((l.map fun o => !o.isGo).map D.bl)]) (va_cons (ve_is (ve_lcO (j := 7) (fun _ => true) (fun d => .bl (isT d)) rfl scLRow.nd (viO_list (ve_var (d := .ob (.ref q)) (i := 3) rfl rfl (by walk_at "vis")) hq2) (blkOk_by (N := ["cup", "most", "longest", "found", "turn", "kind", "is_turn", "word"]) (sc := defScope s__law_row) (by decide +kernel)) (by omega) (fun _ _ _ _ _ => pg_name scLRow.nd rfl (.inl rfl)) (fun d ow' _ _ s0 H0 C0 cl fp => vts_nil) ?el) ?q) va_nil) rfl N.all boot_all (fo_all rfl)) (by rw [List.all_map]; rfl))
      case el =>
        intro d ow2 hd _ _ s0 H0 C0 cl fp
        obtain ⟨o, ho, rfl⟩ := List.mem_map.mp hd
        rw [isT_d (okl o ho), ← isT_oc (okl o ho)]
        exact ve_comp (ve_var (d := .str (tx [oc o])) (i := 7) rfl rfl (by walk_at "vis")) ve_str (co_inC rfl)
      case q =>
        rw [List.filter_eq_self.mpr (fun _ _ => rfl)]
        unfold wsD
        rw [List.map_map, List.map_map]
        congr 1
        exact List.map_congr_left fun o ho => congrArg D.bl (isT_d (okl o ho))
    case t2 =>
      intro _ B3 e3
      refine' rn_setiM (q := q) (P := fun d ow2 => SameO c ow' ow2 ∧ CupO ow2 c ∧ ∃ o : Od, o.ok ∧ o.isGo = true ∧ d = .str (tx [oc o])) (P2 := fun d di ow2 => SameO c ow' ow2 ∧ CupO ow2 c ∧ (∃ o : Od, o.ok ∧ o.isGo = true ∧ d = .str (tx [oc o])) ∧ ∃ r : Int, di = .int r ∧ 0 ≤ r ∧ r < (l.length : Int)) ?f1 (fun ow2 => ve_var (i := 3) rfl rfl (by walk_at "vis")) ?f2 ?f3 (pg_sub pe_can pe_can set_list)
      case f1 =>
        refine vm_strI (P := fun d ow2 => SameO c ow' ow2 ∧ CupO ow2 c ∧ ∃ r : Int, d = .int (1 + r) ∧ 0 ≤ r ∧ r < lo) ?d1 rfl N.str boot_str ?d2
        case d1 =>
          refine vm_op2 (d1 := .int 1) op_add ve_int (vm_DC S hgd (hr.mono (by decide)) rfl (va_cons (ve_var (i := 0) rfl rfl (by walk_at "vis")) (va_cons (ve_var (d := .int lo) (i := 2) rfl rfl (by walk_at "vis")) va_nil)) c2 ⟨lo, rfl, by omega, by omega⟩) ?_
          rintro d2 ow2 ⟨s2, c2, m, r, e, rfl, r0, r1⟩
          cases e
          exact ⟨_, rd_add, s2, c2, r, rfl, r0, r1⟩
        case d2 =>
          rintro d ow2 ⟨s5, c5, r, rfl, r0, r1⟩
          refine ⟨_, rfl, log_small (by omega) (by omega), s5, c5, .g (1 + r).toNat, ⟨by omega, by omega⟩, rfl, ?_⟩
          have y : (1 + r : Int) = (((1 + r).toNat : Nat) : Int) := by omega
          show D.str _ = D.str (tx [48 + (1 + r).toNat])
          rw [← num_tx (n := (1 + r).toNat) (by omega), ← y]
      case f2 =>
        rintro d ow2 ⟨s3, c3, ho⟩
        have hq3 : ow2 q = some (.lst (wsD l)) := s3 q _ (Ne.symm cq) hq2
        refine Vm.imp (vm_DC S hgd (hr.mono (by decide)) rfl (va_cons (ve_var (i := 0) rfl rfl (by walk_at "vis")) (va_cons (ve_bi (va_cons (ve_var (d := .ob (.ref q)) (i := 3) rfl rfl (by walk_at "vis")) va_nil) rfl N.len boot_len (fo_lenO hq3)) va_nil)) c3 ⟨_, rfl, by omega, by omega⟩) ?_
        rintro d3 ow3 ⟨s4, c4, m, r, e, rfl, r0, r1⟩
        cases e
        exact ⟨s3.trans s4, c4, ho, r, rfl, r0, by omega⟩
      case f3 =>
        rintro d di ow3 ⟨s3, c3, ⟨o, oko, go, rfl⟩, r, rfl, r0, r1⟩
        have hq3 : ow3 q = some (.lst (wsD l)) := s3 q _ (Ne.symm cq) hq2
        have hj : r.toNat < l.length := by omega
        refine ⟨r, wsD l, r.toNat, rfl, hq3, by unfold ixN; rw [if_pos (by omega), if_pos (by rw [len2]; omega)], fun B4 e4 => rn_go ?_⟩
        refine' rn_freeze (j := 3) (q := q) (l := wsD (l.set r.toNat o)) rfl (by rw [ou_same]; unfold wsD; rw [List.map_set]) fun B5 e5 => ?_
        have ok2 : ∀ x ∈ l.set r.toNat o, x.ok := fun x hx => by
          rcases List.mem_or_eq_of_mem_set hx with h | h
          · exact okl x h
          · rw [h]; exact oko
        refine rn_retC (ow0 := ow) (d := .str (Txt.join (" " : Str) ((l.set r.toNat o).map fun o => tx [oc o]))) (ve_join ve_str (ve_is (ve_var (d := .lst (wsD (l.set r.toNat o))) (i := 3) rfl rfl (by walk_at "vis")) (by rw [wsD_eq])) ?z1) kQ (e1.trans (e2.trans (e3.trans (e4.trans e5)))) (fun b u nb h => ?z2) ?z3 ⟨l.set r.toNat o, mo, lo, rfl, by rw [join_row], ⟨ok2, set_any hj go, by rw [List.length_set]; omega⟩, by rw [List.length_set]; omega⟩
        case z1 => exact join_small (by simp; omega)
        case z2 =>
          have nq : b ≠ q := fun z => by rw [z, hq] at h; cases h
          rw [oz_ne nq, ou_ne nq]
          exact s3 b u nb (same b u nb nq h)
        case z3 =>
          obtain ⟨x, y, hx, hy, h⟩ := c3
          exact ⟨x, y, hx, hy, by rw [oz_ne cq, ou_ne cq]; exact h⟩
    case t3 =>
      intro tf B3 e3
      refine rn_go ?_
      refine' rn_freeze (j := 3) (q := q) (l := wsD l) rfl hq2 fun B5 e5 => ?_
      refine rn_retC (ow0 := ow) (d := .str (Txt.join (" " : Str) (l.map fun o => tx [oc o]))) (ve_join ve_str (ve_is (ve_var (d := .lst (wsD l)) (i := 3) rfl rfl (by walk_at "vis")) (by rw [wsD_eq])) ?z1) kQ (e1.trans (e2.trans (e3.trans e5))) (fun b u nb h => ?z2) ?z3 ⟨l, mo, lo, rfl, by rw [join_row], ⟨okl, not_all tf, by omega⟩, by omega⟩
      case z1 => exact join_small (by omega)
      case z2 =>
        have nq : b ≠ q := fun z => by rw [z, hq] at h; cases h
        rw [oz_ne nq]
        exact same b u nb nq h
      case z3 =>
        obtain ⟨x, y, hx, hy, h⟩ := c2
        exact ⟨x, y, hx, hy, by rw [oz_ne cq]; exact h⟩
theorem spC_weak {k : Nat} {ps : List Str} {G : List D → Prop} {R R' : List D → D → Prop} (h : FnG γ P w K mg base CX0 k f fd ps (spC K G R)) (q : ∀ ds d, R ds d → R' ds d) : FnG γ P w K mg base CX0 k f fd ps (spC K G R') :=
  ⟨fun vs H Q E ⟨F, ow, c, ws, ds, e, wo, hc, r, hG, k0⟩ => h.len vs H Q E ⟨F, ow, c, ws, ds, e, wo, hc, r, hG, fun F2 H2 ow2 v d e2 w2 s2 c2 r2 hR => k0 F2 H2 ow2 v d e2 w2 s2 c2 r2 (q ds d hR)⟩,
   fun A outer s H args us vs Q E hg hr e0 hb r0 ⟨F, ow, c, ws, ds, e, wo, hc, r, hG, k0⟩ => h.run A outer s H args us vs Q E hg hr e0 hb r0 ⟨F, ow, c, ws, ds, e, wo, hc, r, hG, fun F2 H2 ow2 v d e2 w2 s2 c2 r2 hR => k0 F2 H2 ow2 v d e2 w2 s2 c2 r2 (q ds d hR)⟩⟩
theorem ok_lrow (Fn : Fun K "_law_row" "_law_row" s__law_row f fd) (N : Free mg) (S : Df γ P w K mg base 1 "_law_sip" ["cup", "many"] (spC K GSip RSip)) : FnG γ P w K mg base CX0 2 f fd ["cup", "most", "longest"] (spC K GLRow RLRow) := spC_weak (ok_lrow2 Fn N S) fun ds d ⟨l, _, _, _, e, r, _⟩ => ⟨l, e, r⟩
end
end
section
open Wk TL
theorem cutS_to {l : List Nat} {n : Nat} (h : n ≤ l.length) : cutS (tx l) none (some (n : Int)) = tx (l.take n) := by
  unfold cutS
  rw [tx_cps, tx_len, HT.sIx_nat, HT.sIx_none, Nat.min_eq_left h, List.drop_zero, Nat.sub_zero]
  rfl
theorem rep_range (g : Nat → Nat) (p : Nat) (hp : 0 < p) : ∀ k : Nat, (List.replicate k ((List.range p).map g)).flatten = (List.range (k * p)).map fun i => g (i % p)
  | 0 => by rw [Nat.zero_mul]; rfl
  | k + 1 => by
    have e : (List.replicate (k + 1) ((List.range p).map g)).flatten = (List.replicate k ((List.range p).map g)).flatten ++ (List.range p).map g := by
      rw [List.replicate_succ', List.flatten_append, List.flatten_singleton]
    rw [e, rep_range g p hp k, Nat.succ_mul, List.range_add, List.map_append, List.map_map]
    congr 1
    apply List.map_congr_left
    intro i hi
    have lt := List.mem_range.mp hi
    show g i = g ((k * p + i) % p)
    rw [Nat.add_comm, Nat.add_mul_mod_self_right, Nat.mod_eq_of_lt lt]
theorem rep_iff {f : Nat → Nat} {p M : Nat} (hp : 0 < p) (dv : p ∣ M) (hf : ∀ t, f t < 4) (hM : ∀ t, f (t + M) = f t) (h0 : 0 < M) :
    ((List.replicate (M / p) ((List.range p).map fun t => wc (f t))).flatten = (List.range M).map fun t => wc (f t)) ↔ ∀ t, f (t + p) = f t := by
  rw [rep_range _ p hp, Nat.div_mul_cancel dv]
  constructor
  · intro h t
    have at_ : ∀ i, i < M → f i = f (i % p) := fun i hi => by
      have z := congrArg (fun l : List Nat => l[i]?) h
      simp only [List.getElem?_map, List.getElem?_range hi, Option.map_some] at z
      exact (wc_inj (hf _) (hf _) (Option.some.inj z)).symm
    have all : ∀ x, f x = f (x % p) := fun x => by
      rw [per_mod hM x, at_ _ (Nat.mod_lt _ h0), Nat.mod_mod_of_dvd x dv]
    rw [all (t + p), Nat.add_mod_right, ← all t]
  · intro h
    apply List.map_congr_left
    intro i _
    show wc (f (i % p)) = wc (f i)
    rw [per_mod h i]
theorem int_dvd {a b : Nat} : ((a : Int) % (b : Int) = 0) ↔ b ∣ a := by
  have e : (a : Int) % (b : Int) = ((a % b : Nat) : Int) := rfl
  rw [e]
  exact ⟨fun h => Nat.dvd_of_mod_eq_zero (by omega), fun h => by have := Nat.mod_eq_zero_of_dvd h; omega⟩
theorem wsT_len (l : List Nat) : (wsT l).length = l.length := by
  unfold wsT
  rw [tx_len, List.length_map]
section
variable {γ : Gds} {P : Program} {w : World} {K : PySem.W.Frag} {mg : Str → Option Value} {base : Heap} {f : Addr} {fd : FuncData}
theorem scGone : FnScope ["row", "way", "gone", "now", "more", "many", "period"] ["row", "way"] (defScope s_ways_gone) := ⟨rfl, rfl, rfl, by decide +kernel, rfl, by decide +kernel, by decide +kernel⟩
def RGone (ds : List D) (d : D) : Prop := ∃ (l : List Od) (a p : Nat), ds = [.str (tx (rowC l)), wD a] ∧ Row l ∧ a < 4 ∧ IsPer (way l a) p ∧ d = .str (wsT ((List.range p).map (way l a)))
theorem ok_gone (Fn : Fun K "ways_gone" "ways_gone" s_ways_gone f fd) (N : Free mg) (U : Df γ P w K mg base 2 "one_run" ["row", "way"] (spR K RRun)) : FnG γ P w K mg base CX0 3 f fd ["row", "way"] (spR K RGone) := by
  refine okR Fn scGone (fun ds d ⟨l, a, p, e, _⟩ => by rw [e]; rfl) fun cdv A outer s H B ow ds d Q E hgd hr hR kQ => ?_
  obtain ⟨l, a, p0, rfl, rl, ha, ip, rfl⟩ := hR
  have pos := rl.pos
  have s72 := rl.stp
  have ip0 := ip.pos
  refine' rn_two (d1 := .str (wsT (runs l 1 a))) (d2 := wD (fins l 1 a)) 2 3 rfl scGone.nd rfl rfl (.inl rfl) (.inl rfl) ?s1 ?s2
  case s1 =>
    refine ve_is (ve_D U hgd hr rfl (va_cons (ve_var (d := .str (tx (rowC l))) (i := 0) rfl rfl (by walk_at "vis")) (va_cons (ve_var (d := wD a) (i := 1) rfl rfl (by walk_at "vis")) va_nil)) ⟨l, a, rfl, rl, ha, rfl⟩) ?_
    show D.tup [.str (wsT (run l a)), wD (fin l a)] = D.tup [.str (wsT (run l a ++ [])), wD (fin l a)]
    rw [List.append_nil]
  case s2 =>
  intro B1 e1
  refine' rn_while (fun m env ow' => ow = ow' ∧ ∃ (n : Nat) (z : Option D), 1 ≤ n ∧ n ≤ 4 ∧ m = 4 - n ∧ env = [some (.str (tx (rowC l))), some (wD a), some (.str (wsT (runs l n a))), some (wD (fins l n a)), z, none, none]) PassesOwn.never ⟨3, rfl, 1, none, Nat.le_refl _, by decide, rfl, rfl⟩ ?hs
  case hs =>
    rintro B2 m env' ow' e2 ⟨rfl, n, z, n1, n4, rfl, rfl⟩
    have fl : fins l n a < 4 := fins_lt l n a ha
    refine ⟨!decide (tx [wc (fins l n a)] = tx [wc a]), ?_, fun t B3 e3 => ?_, fun t B3 e3 => ?_⟩
    · exact vt_comp (ve_var (d := wD (fins l n a)) (i := 3) rfl rfl (by walk_at "vis")) (ve_var (d := wD a) (i := 1) rfl rfl (by walk_at "vis")) co_neS
    · have n3 : n < 4 := by
        apply Classical.byContradiction
        intro q
        obtain rfl : n = 4 := by omega
        rw [fins_four l ha] at t
        simp at t
      refine' rn_two (d1 := .str (wsT (run l (fins l n a)))) (d2 := wD (fin l (fins l n a))) 4 3 rfl scGone.nd rfl rfl (.inl rfl) (.inl rfl) ?s1 ?s2
      case s1 => exact ve_D U hgd hr rfl (va_cons (ve_var (d := .str (tx (rowC l))) (i := 0) rfl rfl (by walk_at "vis")) (va_cons (ve_var (d := wD (fins l n a)) (i := 3) rfl rfl (by walk_at "vis")) va_nil)) ⟨l, _, rfl, rl, fl, rfl⟩
      case s2 =>
      intro B4 e4
      have one : runs l (n + 1) a = runs l n a ++ run l (fins l n a) := by
        rw [runs_add]
        show _ = _
        congr 1
        show run l (fins l n a) ++ [] = _
        rw [List.append_nil]
      have onef : fins l (n + 1) a = fin l (fins l n a) := fins_add l n 1 a
      have bound : n * stp l ≤ 4 * 72 := Nat.mul_le_mul n4 s72
      refine' rn_set (i := 2) (d := .str (wsT (runs l (n + 1) a))) scGone.nd rfl (by first | exact .inl rfl | exact .inr rfl) ?u ?k
      case u =>
        refine ve_is (ve_bin (ve_var (d := .str (wsT (runs l n a))) (i := 2) rfl rfl (by walk_at "vis")) (ve_var (d := .str (wsT (run l (fins l n a)))) (i := 4) rfl rfl (by walk_at "vis")) (bo_catX ?_)) ?_
        · rw [List.length_map, List.length_map, runs_len, run_len]
          omega
        · rw [one]
          unfold wsT
          rw [List.map_append]
      case k =>
      intro B5 e5
      refine rn_nextW ?_ (e3.trans (e4.trans e5))
      refine ⟨4 - (n + 1), by omega, rfl, n + 1, some (.str (wsT (run l (fins l n a)))), by omega, by omega, rfl, ?_⟩
      rw [onef]
      rfl
    · have back : fins l n a = a := by
        have y : tx [wc (fins l n a)] = tx [wc a] := by
          simpa using t
        exact wc_inj fl ha (List.cons.inj (tx_inj.mp y)).1
      obtain ⟨M, hM⟩ : ∃ M, M = n * stp l := ⟨_, rfl⟩
      have perM : ∀ t, way l a (t + M) = way l a t := by rw [hM]; exact way_per pos back
      have M0 : 0 < M := by rw [hM]; exact Nat.mul_pos (by omega) pos
      have Mle : M ≤ 288 := by
        have : n * stp l ≤ 4 * 72 := Nat.mul_le_mul n4 s72
        omega
      have rm : runs l n a = (List.range M).map (way l a) := by rw [hM]; exact runs_map pos n a
      have wl : ∀ t, way l a t < 4 := way_lt pos ha
      have pM : p0 ∣ M := ip.dvd perM
      have p0M : p0 ≤ M := Nat.le_of_dvd M0 pM
      have cod : wsT ((List.range M).map (way l a)) = tx ((List.range M).map fun t => wc (way l a t)) := by
        unfold wsT
        rw [List.map_map]
        rfl
      rw [rm, back]
      have glen : (wsT ((List.range M).map (way l a))).length = M := by rw [wsT_len, List.length_map, List.length_range]
      refine' rn_set (i := 5) (d := .int (M : Nat)) scGone.nd rfl (by first | exact .inl rfl | exact .inr rfl) ?u ?k
      case u => exact ve_is (ve_bi (va_cons (ve_var (d := .str (wsT ((List.range M).map (way l a)))) (i := 2) rfl rfl (by walk_at "vis")) va_nil) rfl N.len boot_len (fo_lenS (by rw [glen]; omega))) (by rw [glen])
      case k =>
      intro B4 e4
      have cut : ∀ r : Nat, r ≤ M → ∀ {env : List (Option D)} {e e2 : Expr} {pos p2 : Pos} {X : Cx} {ow : Ow}, Ve X e env ow (.str (wsT ((List.range M).map (way l a)))) → Ve X e2 env ow (.int (r : Nat)) → Ve X (.Subscript e (.Slice none (some e2) none p2) pos) env ow (.str (tx ((List.range r).map fun t => wc (way l a t)))) := fun r hr2 {env e e2 pos p2 X ow} h1 h2 => ve_is (ve_sliceS h1 vp_none (vp_some h2) (by rw [glen]; omega)) (by
        rw [cod, cutS_to (by rw [List.length_map, List.length_range]; exact hr2), ← List.map_take, List.take_range, Nat.min_eq_left hr2])
      refine' rn_for (ds := rangeD 1 ((M : Int) - 1).toNat) (g := gName 6) (f := fun d env => env.set 6 (some d)) (fun i env ow' => ow = ow' ∧ (∀ m, 1 ≤ m → m ≤ i → m ∣ M → ¬ ∀ t, way l a (t + m) = way l a t) ∧ ∃ y : Option D, env = [some (.str (tx (rowC l))), some (wD a), some (.str (wsT ((List.range M).map (way l a)))), some (wD a), z, some (.int (M : Nat)), y]) PassesOwn.never rfl ?hi (pg_name scGone.nd rfl (.inl rfl)) (fun ow d _ => gd_name 6) ⟨rfl, fun m h1 h2 => by omega, none, rfl⟩ ?hs2 ?hd
      case hi => exact vi_range2 rfl N.range ve_int (ve_var (d := .int (M : Nat)) (i := 5) rfl rfl (by walk_at "vis")) (by omega)
      case hd =>
        rintro B5 env2 ow2 e5 ⟨rfl, no, y, rfl⟩
        rw [rangeD_len] at no
        obtain rfl : p0 = M := by
          apply Classical.byContradiction
          intro ne
          exact no p0 (by omega) (by omega) pM ip.per
        exact rn_ret (ve_var (d := .str (wsT ((List.range p0).map (way l a)))) (i := 2) rfl rfl (by walk_at "vis")) (kQ.ex (e1.trans (e2.trans (e3.trans (e4.trans e5)))))
      case hs2 =>
        rintro B5 i d env2 ow2 e5 hd ⟨rfl, no, y, rfl⟩
        obtain ⟨hi, rfl⟩ := rangeD_get hd
        have er : (1 : Int) + (i : Int) = ((i + 1 : Nat) : Int) := by omega
        rw [er]
        have lt : i + 1 < M := by omega
        obtain ⟨bb, hbb⟩ : ∃ bb : Bool, bb = true ↔ (i + 1 ∣ M ∧ ∀ t, way l a (t + (i + 1)) = way l a t) := by
          by_cases q : i + 1 ∣ M ∧ ∀ t, way l a (t + (i + 1)) = way l a t
          · exact ⟨true, fun _ => q, fun _ => rfl⟩
          · exact ⟨false, fun h => Bool.noConfusion h, fun h => absurd h q⟩
        refine' rn_if (t := decide ((M : Int) % ((i + 1 : Nat) : Int) = 0) && bb) ?c ?c1 ?c2
        case c =>
          refine vt_w (vw_and ?a1 (fun q => vw_and1 ?a2) (pw_all_and _ _))
          case a1 => exact vt_comp (ve_bin (ve_var (d := .int (M : Nat)) (i := 5) rfl rfl (by walk_at "vis")) (ve_var (d := .int ((i + 1 : Nat) : Int)) (i := 6) rfl rfl (by walk_at "vis")) (bo_mod (by omega))) ve_int co_eqI
          case a2 =>
            have dv : i + 1 ∣ M := int_dvd.mp (of_decide_eq_true q)
            refine vt_is (vt_comp (ve_bin (cut (i + 1) (by omega) (ve_var (i := 2) rfl rfl (by walk_at "vis")) (ve_var (d := .int ((i + 1 : Nat) : Int)) (i := 6) rfl rfl (by walk_at "vis"))) (ve_is (ve_bin (ve_var (d := .int (M : Nat)) (i := 5) rfl rfl (by walk_at "vis")) (ve_var (d := .int ((i + 1 : Nat) : Int)) (i := 6) rfl rfl (by walk_at "vis")) (bo_div (by omega) (by omega))) (d1 := .int ((M / (i + 1) : Nat) : Int)) rfl) (bo_mulX ?b1 ?b2)) (ve_is (ve_var (d := .str (wsT ((List.range M).map (way l a)))) (i := 2) rfl rfl (by walk_at "vis")) (by rw [cod])) co_eqS) ?b3
            case b1 =>
              rw [List.length_map, List.length_range, Nat.mul_div_cancel' dv]
              omega
            case b2 =>
              have := Nat.div_le_self M (i + 1)
              omega
            case b3 =>
              apply Bool.eq_iff_iff.mpr
              rw [decide_eq_true_iff, tx_inj, rep_iff (Nat.succ_pos i) dv wl perM M0, hbb]
              exact ⟨fun h => ⟨dv, h⟩, fun h => h.2⟩
        case c1 =>
          intro t B6 e6
          obtain ⟨dv, pr⟩ := hbb.mp ((Bool.and_eq_true _ _).mp t).2
          obtain rfl : p0 = i + 1 := by
            have le := ip.least (i + 1) (Nat.succ_pos i) pr
            apply Classical.byContradiction
            intro ne
            exact no p0 (by omega) (by omega) pM ip.per
          exact rn_ret (ve_is (cut (i + 1) (by omega) (ve_var (i := 2) rfl rfl (by walk_at "vis")) (ve_var (d := .int ((i + 1 : Nat) : Int)) (i := 6) rfl rfl (by walk_at "vis"))) (by unfold wsT; rw [List.map_map]; rfl)) (kQ.ex (e1.trans (e2.trans (e3.trans (e4.trans (e5.trans e6))))))
        case c2 =>
          intro t B6 e6
          refine rn_go ?_
          refine rn_nextW ⟨rfl, fun m h1 h2 dv pr => ?_, _, rfl⟩ e6
          by_cases q : m = i + 1
          · subst q
            have z : ((M : Int) % ((i + 1 : Nat) : Int) = 0) := int_dvd.mpr dv
            rw [decide_eq_true z, Bool.true_and, hbb.mpr ⟨dv, pr⟩] at t
            cases t
          · exact no m h1 (by omega) dv pr
end
end
section
open Wk TL
section
variable {γ : Gds} {P : Program} {w : World} {K : PySem.W.Frag} {mg : Str → Option Value} {base : Heap} {f : Addr} {fd : FuncData}
theorem scOff : FnScope ["ways", "x", "y", "offsets", "way", "dx", "dy"] ["ways"] (defScope s_offsets_along) := ⟨rfl, rfl, rfl, by decide +kernel, rfl, by decide +kernel, by decide +kernel⟩
def offs (g : Nat → Nat) (n : Nat) : List D := (List.range n).map fun i => sq (px g i) (py g i)
theorem offs_succ (g : Nat → Nat) (n : Nat) : offs g (n + 1) = offs g n ++ [sq (px g n) (py g n)] := by
  unfold offs
  rw [List.range_succ, List.map_append]
  rfl
theorem offs_len (g : Nat → Nat) (n : Nat) : (offs g n).length = n := by
  unfold offs
  rw [List.length_map, List.length_range]
def ROff (ds : List D) (d : D) : Prop := ∃ (g : Nat → Nat) (p : Nat), ds = [.str (wsT ((List.range p).map g))] ∧ (∀ t, g t < 4) ∧ p ≤ 300 ∧ d = .lst (offs g (p + 1))
theorem ok_offsets (Fn : Fun K "offsets_along" "offsets_along" s_offsets_along f fd) (T : Tbl K w mg) : FnG γ P w K mg base CX0 1 f fd ["ways"] (spR K ROff) := by
  refine okR Fn scOff (fun ds d ⟨g, p, e, _⟩ => by rw [e]; rfl) fun cdv A outer s H B ow ds d Q E hgd hr hR kQ => ?_
  obtain ⟨g, p, rfl, hg, hp, rfl⟩ := hR
  obtain ⟨q, es, n, mM, kd, _, hv⟩ := T.moves
  refine' rn_two (d1 := .int 0) (d2 := .int 0) 1 2 rfl scOff.nd rfl rfl (.inl rfl) (.inl rfl) (ve_tup (va_cons ve_int (va_cons ve_int va_nil)) (by show 2 ≤ 100000; decide)) ?p3
  case p3 =>
  intro B1 e1
  refine' rn_newL (j := 3) (ds := [sq 0 0]) scOff.nd rfl (.inl rfl) ?l1 (by decide) ?l2
  case l1 => exact va_cons (ve_tup (va_cons (ve_var (d := .int 0) (i := 1) rfl rfl (by walk_at "vis")) (va_cons (ve_var (d := .int 0) (i := 2) rfl rfl (by walk_at "vis")) va_nil)) (by decide)) va_nil
  case l2 =>
  intro B2 o e2 ho
  have len : (((List.range p).map g).map wc).length = p := by rw [List.length_map, List.length_map, List.length_range]
  refine' rn_for (ds := (((List.range p).map g).map wc).map fun c => .str (tx [c])) (g := gName 4) (f := fun d env => env.set 4 (some d)) (fun i env ow' => ow' = ou ow o (.lst (offs g (i + 1))) ∧ ∃ y1 y2 y3 : Option D, env = [some (.str (wsT ((List.range p).map g))), some (.int (px g i)), some (.int (py g i)), some (.ob (.ref o)), y1, y2, y3]) PassesOwn.never rfl ?hi (pg_name scOff.nd rfl (.inl rfl)) (fun ow d _ => gd_name 4) ⟨rfl, none, none, none, rfl⟩ ?hs ?hd
  case hi => exact vi_str (ve_var (d := .str (wsT ((List.range p).map g))) (i := 0) rfl rfl (by walk_at "vis"))
  case hd =>
    rintro B3 env' ow' e3 ⟨rfl, y1, y2, y3, rfl⟩
    rw [List.length_map, len]
    refine' rn_freeze (j := 3) (q := o) rfl ou_same ?z1
    intro B4 e4
    refine rn_retS (ve_var (d := .lst (offs g (p + 1))) (i := 3) rfl rfl (by walk_at "vis")) (fun b u hb => ?_) (kQ.ex (e1.trans (e2.trans (e3.trans e4))))
    have nb : b ≠ o := fun z => by rw [z, ho] at hb; cases hb
    rw [oz_ne nb, ou_ne nb]
    exact hb
  case hs =>
    rintro B3 i d env' ow' e3 hd ⟨rfl, y1, y2, y3, rfl⟩
    have hi : i < p := by
      have z := (List.getElem?_eq_some_iff.mp hd).1
      rw [List.length_map, len] at z
      exact z
    obtain rfl : d = wD (g i) := by
      rw [List.getElem?_map, List.getElem?_map, List.getElem?_map, List.getElem?_range hi] at hd
      exact (Option.some.inj hd).symm
    obtain ⟨u, hu, ru⟩ := hv (g i) (hg i)
    refine' rn_two (d1 := .int (mx (g i))) (d2 := .int (my (g i))) 5 6 rfl scOff.nd rfl rfl (.inl rfl) (.inl rfl) ?s1 ?s2
    case s1 => exact ve_sub (ve_gobj rfl mM) (ve_var (d := wD (g i)) (i := 4) rfl rfl (by walk_at "vis")) (fun _ _ => rfl) (xo_kd (v := .ref u) ⟨es, n, _, kd.at_, kd.lit, hu, rfl⟩ ru)
    case s2 =>
    intro B4 e4
    refine' rn_par (i := 1) (j := 2) (d1 := .int (px g (i + 1))) (d2 := .int (py g (i + 1))) rfl scOff.nd rfl rfl (by decide) rfl rfl ?p1 ?p2 ?p3 ?p4 rfl rfl ⟨_, ps_par rfl scOff.nd rfl rfl (by decide) rfl rfl pa_can rfl, rfl⟩
    case p1 => exact ve_is (ve_bin (ve_var (d := .int (px g i)) (i := 1) rfl rfl (by walk_at "vis")) (ve_var (d := .int (mx (g i))) (i := 5) rfl rfl (by walk_at "vis")) bo_add) rfl
    case p2 => exact ve_is (ve_bin (ve_var (d := .int (py g i)) (i := 2) rfl rfl (by walk_at "vis")) (ve_var (d := .int (my (g i))) (i := 6) rfl rfl (by walk_at "vis")) bo_add) rfl
    case p4 => rfl
    case p3 =>
    intro B5 e5
    refine' rn_app (q := o) (d := sq (px g (i + 1)) (py g (i + 1))) ?a1 ou_same ?a2 (by rw [offs_len]; omega) ?a3
    case a1 => exact ve_var (i := 3) rfl rfl (by walk_at "vis")
    case a2 => exact ve_tup (va_cons (ve_var (d := .int (px g (i + 1))) (i := 1) rfl rfl (by walk_at "vis")) (va_cons (ve_var (d := .int (py g (i + 1))) (i := 2) rfl rfl (by walk_at "vis")) va_nil)) (by show 2 ≤ 100000; decide)
    case a3 =>
    intro B6 e6
    refine rn_nextW ⟨?_, _, _, _, rfl⟩ (e4.trans (e5.trans e6))
    rw [ou_ou, ← offs_succ]
theorem scLane : FnScope ["square", "drift", "x", "y", "dx", "dy", "place"] ["square", "drift"] (defScope s_lane_of) := ⟨rfl, rfl, rfl, by decide +kernel, rfl, by decide +kernel, by decide +kernel⟩
def laneP (x y dx dy : Int) : Int := if dx = 0 then (if dy = 0 then 0 else y.fdiv dy) else x.fdiv dx
def laneX (x y dx dy : Int) : Int := x - laneP x y dx dy * dx
def laneY (x y dx dy : Int) : Int := y - laneP x y dx dy * dy
def RLane (ds : List D) (d : D) : Prop := ∃ x y dx dy : Int, ds = [sq x y, sq dx dy] ∧ dx.natAbs ≤ 1000000 ∧ dy.natAbs ≤ 1000000 ∧ d = .tup [.tupF [.int (laneX x y dx dy), .int (laneY x y dx dy)], .int (laneP x y dx dy)]
theorem ok_laneOf (Fn : Fun K "lane_of" "lane_of" s_lane_of f fd) : FnG γ P w K mg base CX0 1 f fd ["square", "drift"] (spR K RLane) := by
  refine okR Fn scLane (fun ds d ⟨x, y, dx, dy, e, _⟩ => by rw [e]; rfl) fun cdv A outer s H B ow ds d Q E hgd hr hR kQ => ?_
  obtain ⟨x, y, dx, dy, rfl, h1, h2, rfl⟩ := hR
  refine' rn_two (d1 := .int x) (d2 := .int y) 2 3 rfl scLane.nd rfl rfl (.inl rfl) (.inl rfl) (ve_var (d := sq x y) (i := 0) rfl rfl (by walk_at "vis")) ?s1
  case s1 =>
  intro B1 e1
  refine' rn_two (d1 := .int dx) (d2 := .int dy) 4 5 rfl scLane.nd rfl rfl (.inl rfl) (.inl rfl) (ve_var (d := sq dx dy) (i := 1) rfl rfl (by walk_at "vis")) ?s2
  case s2 =>
  intro B2 e2
  refine' rn_set (i := 6) (d := .int 0) scLane.nd rfl (by first | exact .inl rfl | exact .inr rfl) ve_int ?s3
  case s3 =>
  intro B3 e3
  have last : ∀ B4, Ex B3 B4 → ∀ pl : Int, pl = laneP x y dx dy → Rn (cxOf CX0 P w K mg base ["square", "drift", "x", "y", "dx", "dy", "place"] "lane_of" (defScope s_lane_of) f cdv A outer s H E).nox B4 ((defBody s_lane_of).drop 4) { nx := fun _ H' => Q .non H', rt := Q } [some (sq x y), some (sq dx dy), some (.int x), some (.int y), some (.int dx), some (.int dy), some (.int pl)] ow := fun B4 e4 pl hpl => by
    subst hpl
    refine rn_ret (ve_tup (va_cons (ve_tupF (va_cons (ve_bin (ve_var (d := .int x) (i := 2) rfl rfl (by walk_at "vis")) (ve_bin (ve_var (d := .int (laneP x y dx dy)) (i := 6) rfl rfl (by walk_at "vis")) (ve_var (d := .int dx) (i := 4) rfl rfl (by walk_at "vis")) (bo_mulR (by omega))) bo_sub) (va_cons (ve_bin (ve_var (d := .int y) (i := 3) rfl rfl (by walk_at "vis")) (ve_bin (ve_var (d := .int (laneP x y dx dy)) (i := 6) rfl rfl (by walk_at "vis")) (ve_var (d := .int dy) (i := 5) rfl rfl (by walk_at "vis")) (bo_mulR (by omega))) bo_sub) va_nil)) (by show 2 ≤ 100000; decide)) (va_cons (ve_var (d := .int (laneP x y dx dy)) (i := 6) rfl rfl (by walk_at "vis")) va_nil)) (by show 2 ≤ 100000; decide)) (kQ.ex (e1.trans (e2.trans (e3.trans e4))))
  refine' rn_if (t := !decide (dx = 0)) (vt_comp (ve_var (d := .int dx) (i := 4) rfl rfl (by walk_at "vis")) ve_int co_neI) ?c1 ?c2
  case c1 =>
    intro t B4 e4
    have ne : dx ≠ 0 := by simpa using t
    refine' rn_set (i := 6) (d := .int (x.fdiv dx)) scLane.nd rfl (by first | exact .inl rfl | exact .inr rfl) (ve_bin (ve_var (d := .int x) (i := 2) rfl rfl (by walk_at "vis")) (ve_var (d := .int dx) (i := 4) rfl rfl (by walk_at "vis")) (bo_fdiv ne (by omega))) ?k
    case k =>
    intro B5 e5
    refine rn_go ?_
    exact last B5 (e4.trans e5) _ (by unfold laneP; rw [if_neg ne])
  case c2 =>
    intro t B4 e4
    have eq : dx = 0 := by simpa using t
    refine' rn_if (t := !decide (dy = 0)) (vt_comp (ve_var (d := .int dy) (i := 5) rfl rfl (by walk_at "vis")) ve_int co_neI) ?d1 ?d2
    case d1 =>
      intro t2 B5 e5
      have ne : dy ≠ 0 := by simpa using t2
      refine' rn_set (i := 6) (d := .int (y.fdiv dy)) scLane.nd rfl (by first | exact .inl rfl | exact .inr rfl) (ve_bin (ve_var (d := .int y) (i := 3) rfl rfl (by walk_at "vis")) (ve_var (d := .int dy) (i := 5) rfl rfl (by walk_at "vis")) (bo_fdiv ne (by omega))) ?k
      case k =>
      intro B6 e6
      refine rn_go (rn_go ?_)
      exact last B6 (e4.trans (e5.trans e6)) _ (by unfold laneP; rw [if_pos eq, if_neg ne])
    case d2 =>
      intro t2 B5 e5
      have eq2 : dy = 0 := by simpa using t2
      refine rn_go (rn_go ?_)
      exact last B5 (e4.trans e5) 0 (by unfold laneP; rw [if_pos eq, if_pos eq2])
theorem scSqIn : FnScope ["lane", "place", "drift"] ["lane", "place", "drift"] (defScope s_square_in) := ⟨rfl, rfl, rfl, by decide +kernel, rfl, by decide +kernel, by decide +kernel⟩
def RSqIn (ds : List D) (d : D) : Prop := ∃ x y p dx dy : Int, ds = [sq x y, .int p, sq dx dy] ∧ dx.natAbs ≤ 1000000 ∧ dy.natAbs ≤ 1000000 ∧ d = sq (x + p * dx) (y + p * dy)
theorem ok_squareIn (Fn : Fun K "square_in" "square_in" s_square_in f fd) : FnG γ P w K mg base CX0 1 f fd ["lane", "place", "drift"] (spR K RSqIn) := by
  refine okR Fn scSqIn (fun ds d ⟨x, y, p, dx, dy, e, _⟩ => by rw [e]; rfl) fun cdv A outer s H B ow ds d Q E hgd hr hR kQ => ?_
  obtain ⟨x, y, p, dx, dy, rfl, h1, h2, rfl⟩ := hR
  refine rn_ret (ve_tup (va_cons (ve_bin (ve_sub (ve_var (d := sq x y) (i := 0) rfl rfl (by walk_at "vis")) ve_int (fun _ _ => rfl) (xo_tup rfl)) (ve_bin (ve_var (d := .int p) (i := 1) rfl rfl (by walk_at "vis")) (ve_sub (ve_var (d := sq dx dy) (i := 2) rfl rfl (by walk_at "vis")) ve_int (fun _ _ => rfl) (xo_tup (d := .int dx) rfl)) (bo_mulR (by omega))) bo_add) (va_cons (ve_bin (ve_sub (ve_var (d := sq x y) (i := 0) rfl rfl (by walk_at "vis")) ve_int (fun _ _ => rfl) (xo_tup rfl)) (ve_bin (ve_var (d := .int p) (i := 1) rfl rfl (by walk_at "vis")) (ve_sub (ve_var (d := sq dx dy) (i := 2) rfl rfl (by walk_at "vis")) ve_int (fun _ _ => rfl) (xo_tup (d := .int dy) rfl)) (bo_mulR (by omega))) bo_add) va_nil)) (by show 2 ≤ 100000; decide)) kQ
end
end
section
open Wk TL
abbrev Pt := Int × Int
/-- the row of a lane gets one more pair -/
def addK (m : List (Pt × List Pt)) (k p : Pt) : List (Pt × List Pt) := if k ∈ m.map (·.1) then m.map (fun e => if e.1 = k then (e.1, e.2 ++ [p]) else e) else m ++ [(k, [p])]
/-- the lanes of the first n offsets -/
def lanesN (g : Nat → Nat) (dx dy : Int) : Nat → List (Pt × List Pt)
  | 0 => []
  | n + 1 => addK (lanesN g dx dy n) (laneX (px g n) (py g n) dx dy, laneY (px g n) (py g n) dx dy) (laneP (px g n) (py g n) dx dy, (n : Int))
def leB (p q : Pt) : Bool := decide (p.1 < q.1) || (decide (p.1 = q.1) && decide (p.2 ≤ q.2))
theorem leB_iff {p q : Pt} : leB p q = true ↔ leP p q := by
  unfold leB leP
  simp [Bool.or_eq_true, Bool.and_eq_true]
def srt (l : List Pt) : List Pt := l.mergeSort leB
theorem srt_perm (l : List Pt) : (srt l).Perm l := List.mergeSort_perm l leB
theorem srt_sorted (l : List Pt) : (srt l).Pairwise leP := by
  refine (List.pairwise_mergeSort (le := leB) (fun a b c h1 h2 => ?_) (fun a b => ?_) l).imp fun {a b} h => leB_iff.mp h
  · rw [leB_iff] at h1 h2 ⊢
    unfold leP at h1 h2 ⊢
    omega
  · rw [Bool.or_eq_true, leB_iff, leB_iff]
    unfold leP
    omega
def kx (k : Pt) : List Key := [.inl k.1, .inl k.2]
theorem kx_inj {k q : Pt} (h : kx k = kx q) : k = q := by
  injection h with h1 h2
  injection h2 with h3 _
  injection h1 with h4
  injection h3 with h5
  exact Prod.ext h4 h5
def lanesD (m : List (Pt × List Pt)) : List (List Key × D) := m.map fun e => (kx e.1, .tup ((srt e.2).map pF))
/-- an entry of the dict while it is made: its key, where its list stands, and what is in it -/
abbrev En := Pt × Addr × List Pt
def forget (es : List En) : List (Pt × List Pt) := es.map fun e => (e.1, e.2.2)
def entD (es : List En) : List (List Key × D) := es.map fun e => (kx e.1, .ob (.ref e.2.1))
structure Lns (q0 : Addr) (ow ow' : Ow) (es : List En) : Prop where
  dict : ow' q0 = some (.dtp (entD es))
  row : ∀ e ∈ es, ow' e.2.1 = some (.lst (e.2.2.map pF)) ∧ e.2.1 ≠ q0 ∧ ow e.2.1 = none
  adr : (es.map fun e => e.2.1).Nodup
  key : (es.map fun e => e.1).Nodup
  old : ∀ b u, ow b = some u → ow' b = some u
  q0n : ow q0 = none
theorem valT_none {es : List En} {k : Pt} : valT (entD es) (kx k) = none → k ∉ es.map (fun e => e.1) := by
  induction es with
  | nil => intro _; simp
  | cons e es ih =>
    intro h
    unfold entD at h ih
    rw [List.map_cons, valT_cons] at h
    by_cases z : kx e.1 = kx k
    · rw [if_pos z] at h; cases h
    · rw [if_neg z] at h
      simp only [List.map_cons, List.mem_cons, not_or]
      exact ⟨fun y => z (by rw [y]), ih h⟩
theorem valT_some {es : List En} {k : Pt} {d : D} : valT (entD es) (kx k) = some d → ∃ e ∈ es, e.1 = k ∧ d = .ob (.ref e.2.1) := by
  induction es with
  | nil => intro h; cases h
  | cons e es ih =>
    intro h
    unfold entD at h ih
    rw [List.map_cons, valT_cons] at h
    by_cases z : kx e.1 = kx k
    · rw [if_pos z] at h
      exact ⟨e, List.mem_cons_self .., kx_inj z, (Option.some.inj h).symm⟩
    · rw [if_neg z] at h
      obtain ⟨e2, h1, h2⟩ := ih h
      exact ⟨e2, List.mem_cons_of_mem _ h1, h2⟩
theorem valT_of {es : List En} (nd : (es.map fun e => e.1).Nodup) {e : En} (he : e ∈ es) : valT (entD es) (kx e.1) = some (.ob (.ref e.2.1)) := by
  induction es with
  | nil => cases he
  | cons a es ih =>
    unfold entD at ih ⊢
    rw [List.map_cons, valT_cons]
    rw [List.map_cons, List.nodup_cons] at nd
    rcases List.mem_cons.mp he with z | z
    · subst z
      rw [if_pos rfl]
    · have ne : kx a.1 ≠ kx e.1 := fun y => nd.1 (by rw [kx_inj y]; exact List.mem_map.mpr ⟨e, z, rfl⟩)
      rw [if_neg ne]
      exact ih nd.2 z
theorem inj_of {A B : Type} {f : A → B} {l : List A} (nd : (l.map f).Nodup) {a b : A} (ha : a ∈ l) (hb : b ∈ l) (h : f a = f b) : a = b := by
  induction l with
  | nil => cases ha
  | cons c l ih =>
    rw [List.map_cons, List.nodup_cons] at nd
    rcases List.mem_cons.mp ha with z | z
    · rcases List.mem_cons.mp hb with y | y
      · rw [z, y]
      · exact absurd (List.mem_map.mpr ⟨b, y, by rw [← h, z]⟩) nd.1
    · rcases List.mem_cons.mp hb with y | y
      · exact absurd (List.mem_map.mpr ⟨a, z, by rw [h, y]⟩) nd.1
      · exact ih nd.2 z y
/-- the key is there -/
theorem Lns.more {q0 : Addr} {ow ow' : Ow} {es : List En} (h : Lns q0 ow ow' es) {e : En} (he : e ∈ es) (p : Pt) : Lns q0 ow (ou ow' e.2.1 (.lst (e.2.2.map pF ++ [pF p]))) (es.map fun a => if a.1 = e.1 then (a.1, a.2.1, a.2.2 ++ [p]) else a) ∧ forget (es.map fun a => if a.1 = e.1 then (a.1, a.2.1, a.2.2 ++ [p]) else a) = addK (forget es) e.1 p := by
  obtain ⟨r1, r2, r3⟩ := h.row e he
  have same : ∀ a ∈ es, a.1 = e.1 → a = e := fun a ha z => inj_of h.key ha he z
  have m1 : (es.map fun a => if a.1 = e.1 then (a.1, a.2.1, a.2.2 ++ [p]) else a).map (fun e => e.2.1) = es.map fun e => e.2.1 := by
    rw [List.map_map]
    apply List.map_congr_left
    intro a _
    show (if a.1 = e.1 then ((a.1, a.2.1, a.2.2 ++ [p]) : En) else a).2.1 = a.2.1
    split <;> rfl
  have m2 : (es.map fun a => if a.1 = e.1 then (a.1, a.2.1, a.2.2 ++ [p]) else a).map (fun e => e.1) = es.map fun e => e.1 := by
    rw [List.map_map]
    apply List.map_congr_left
    intro a _
    show (if a.1 = e.1 then ((a.1, a.2.1, a.2.2 ++ [p]) : En) else a).1 = a.1
    split <;> rfl
  refine ⟨⟨?_, fun a ha => ?_, by rw [m1]; exact h.adr, by rw [m2]; exact h.key, fun b u hb => ?_, h.q0n⟩, ?_⟩
  · rw [ou_ne (Ne.symm r2), h.dict]
    congr 2
    unfold entD
    rw [List.map_map]
    apply List.map_congr_left
    intro a _
    show (kx a.1, D.ob (.ref a.2.1)) = (kx (if a.1 = e.1 then ((a.1, a.2.1, a.2.2 ++ [p]) : En) else a).1, D.ob (.ref (if a.1 = e.1 then ((a.1, a.2.1, a.2.2 ++ [p]) : En) else a).2.1))
    split <;> rfl
  · obtain ⟨c, hc, rfl⟩ := List.mem_map.mp ha
    by_cases z : c.1 = e.1
    · obtain rfl := same c hc z
      rw [if_pos rfl]
      refine ⟨?_, r2, r3⟩
      show ou ow' c.2.1 _ c.2.1 = _
      rw [ou_same, List.map_append]
      rfl
    · rw [if_neg z]
      obtain ⟨s1, s2, s3⟩ := h.row c hc
      have ne : c.2.1 ≠ e.2.1 := fun y => z (by rw [inj_of h.adr hc he y])
      exact ⟨by rw [ou_ne ne]; exact s1, s2, s3⟩
  · have ne : b ≠ e.2.1 := fun y => by rw [y, r3] at hb; cases hb
    rw [ou_ne ne]
    exact h.old b u hb
  · unfold addK forget
    have mem : e.1 ∈ (es.map fun e => (e.1, e.2.2)).map (·.1) := by
      rw [List.map_map]
      exact List.mem_map.mpr ⟨e, he, rfl⟩
    rw [if_pos mem, List.map_map, List.map_map]
    apply List.map_congr_left
    intro a _
    show ((if a.1 = e.1 then ((a.1, a.2.1, a.2.2 ++ [p]) : En) else a).1, (if a.1 = e.1 then ((a.1, a.2.1, a.2.2 ++ [p]) : En) else a).2.2) = if a.1 = e.1 then (a.1, a.2.2 ++ [p]) else (a.1, a.2.2)
    split <;> rfl
/-- the key is new -/
theorem Lns.fresh {q0 : Addr} {ow ow' : Ow} {es : List En} (h : Lns q0 ow ow' es) {k : Pt} (hk : k ∉ es.map (fun e => e.1)) {q : Addr} (hq : ow' q = none) (p : Pt) : Lns q0 ow (ou (ou (ou ow' q (.lst [])) q0 (.dtp (entD es ++ [(kx k, .ob (.ref q))]))) q (.lst ([] ++ [pF p]))) (es ++ [(k, q, [p])]) ∧ forget (es ++ [(k, q, [p])]) = addK (forget es) k p := by
  have q0q : q ≠ q0 := fun z => by rw [z, h.dict] at hq; cases hq
  have nq : ∀ e ∈ es, e.2.1 ≠ q := fun e he z => by
    have y := (h.row e he).1
    rw [z, hq] at y
    cases y
  have oq : ow q = none := by
    cases z : ow q with
    | none => rfl
    | some u =>
      have y := h.old q u z
      rw [hq] at y
      cases y
  refine ⟨⟨?_, fun a ha => ?_, ?_, ?_, fun b u hb => ?_, h.q0n⟩, ?_⟩
  · rw [ou_ne (Ne.symm q0q), ou_same]
    unfold entD
    rw [List.map_append]
    rfl
  · rcases List.mem_append.mp ha with z | z
    · obtain ⟨s1, s2, s3⟩ := h.row a z
      exact ⟨by rw [ou_ne (nq a z), ou_ne s2, ou_ne (nq a z)]; exact s1, s2, s3⟩
    · obtain rfl := List.mem_singleton.mp z
      exact ⟨by rw [ou_same]; rfl, q0q, oq⟩
  · rw [List.map_append]
    refine List.nodup_append.mpr ⟨h.adr, List.nodup_cons.mpr ⟨by simp, List.nodup_nil⟩, fun a ha b hb => ?_⟩
    obtain ⟨e, he, rfl⟩ := List.mem_map.mp ha
    obtain rfl : b = q := by simpa using hb
    exact nq e he
  · rw [List.map_append]
    refine List.nodup_append.mpr ⟨h.key, List.nodup_cons.mpr ⟨by simp, List.nodup_nil⟩, fun a ha b hb => ?_⟩
    obtain rfl : b = k := by simpa using hb
    exact fun z => hk (z ▸ ha)
  · have n1 : b ≠ q := fun y => by rw [y, oq] at hb; cases hb
    have n2 : b ≠ q0 := fun y => by rw [y, h.q0n] at hb; cases hb
    rw [ou_ne n1, ou_ne n2, ou_ne n1]
    exact h.old b u hb
  · unfold addK forget
    have mem : k ∉ (es.map fun e => (e.1, e.2.2)).map (·.1) := by
      rw [List.map_map]
      exact hk
    rw [if_neg mem, List.map_append]
    rfl
theorem addK_len (m : List (Pt × List Pt)) (k p : Pt) : (addK m k p).length ≤ m.length + 1 := by
  unfold addK
  split
  · rw [List.length_map]; omega
  · rw [List.length_append, List.length_singleton]; exact Nat.le_refl _
theorem lanesN_len (g : Nat → Nat) (dx dy : Int) : ∀ n, (lanesN g dx dy n).length ≤ n
  | 0 => Nat.le_refl _
  | n + 1 => Nat.le_trans (addK_len _ _ _) (Nat.succ_le_succ (lanesN_len g dx dy n))
theorem addK_rows {m : List (Pt × List Pt)} {k p : Pt} {b : Nat} (h : ∀ e ∈ m, e.2.length ≤ b) : ∀ e ∈ addK m k p, e.2.length ≤ b + 1 := by
  unfold addK
  split
  · intro e he
    obtain ⟨c, hc, rfl⟩ := List.mem_map.mp he
    have z := h c hc
    split
    · show (c.2 ++ [p]).length ≤ b + 1
      rw [List.length_append, List.length_singleton]
      omega
    · omega
  · intro e he
    rcases List.mem_append.mp he with z | z
    · have := h e z; omega
    · rw [List.mem_singleton.mp z]
      exact Nat.le_add_left _ _
theorem lanesN_rows (g : Nat → Nat) (dx dy : Int) : ∀ n, ∀ e ∈ lanesN g dx dy n, e.2.length ≤ n
  | 0 => fun e he => by cases he
  | n + 1 => addK_rows (lanesN_rows g dx dy n)
def keyOfD : D → List Key
  | .tupF [.int a, .int b] => kx (a, b)
  | _ => []
def lookM (m : List (Pt × List Pt)) (k : Pt) : List Pt := ((m.find? fun e => decide (e.1 = k)).map (·.2)).getD []
theorem lookM_of : ∀ {m : List (Pt × List Pt)} {e : Pt × List Pt}, (m.map (·.1)).Nodup → e ∈ m → lookM m e.1 = e.2
  | [], _, _, he => by cases he
  | a :: m, e, nd, he => by
    rw [List.map_cons, List.nodup_cons] at nd
    unfold lookM
    rw [List.find?_cons]
    rcases List.mem_cons.mp he with z | z
    · subst z
      simp
    · have ne : a.1 ≠ e.1 := fun y => nd.1 (by rw [y]; exact List.mem_map.mpr ⟨e, z, rfl⟩)
      have ih := lookM_of nd.2 z
      unfold lookM at ih
      simp only [ne, decide_false]
      exact ih
def valOfD (m : List (Pt × List Pt)) : D → D
  | .tupF [.int a, .int b] => .tup ((srt (lookM m (a, b))).map pF)
  | _ => .non
section
variable {γ : Gds} {P : Program} {w : World} {K : PySem.W.Frag} {mg : Str → Option Value} {base : Heap} {f : Addr} {fd : FuncData}
theorem scLns : FnScope ["offsets", "drift", "found", "at", "square", "lane", "place"] ["offsets", "drift"] (defScope s_lanes_trodden) := ⟨rfl, rfl, rfl, by decide +kernel, rfl, by decide +kernel, by decide +kernel⟩
def RLns (ds : List D) (d : D) : Prop := ∃ (g : Nat → Nat) (p : Nat) (dx dy : Int), ds = [.lst (offs g p), sq dx dy] ∧ p ≤ 300 ∧ dx.natAbs ≤ 1000000 ∧ dy.natAbs ≤ 1000000 ∧ d = .dtp (lanesD (lanesN g dx dy p))
theorem ok_lanes (Fn : Fun K "lanes_trodden" "lanes_trodden" s_lanes_trodden f fd) (N : Free mg) (L : Df γ P w K mg base 1 "lane_of" ["square", "drift"] (spR K RLane)) : FnG γ P w K mg base CX0 2 f fd ["offsets", "drift"] (spR K RLns) := by
  refine okR Fn scLns (fun ds d ⟨g, p, dx, dy, e, _⟩ => by rw [e]; rfl) fun cdv A outer s H B ow ds d Q E hgd hr hR kQ => ?_
  obtain ⟨g, p, dx, dy, rfl, hp, h1, h2, rfl⟩ := hR
  have hu : A.units + 3 + 200 < cLine := by
    have z : A.units + 3 + 16 * 1 + 200 < cLine := hr.un
    omega
  refine' rn_newT (j := 2) scLns.nd rfl (.inr rfl) ?k0
  case k0 =>
  intro B1 q0 e1 hq0
  refine' rn_for (ds := enumD 0 (offs g p)) (g := gTup K 2 (gCons (gName 3) (gCons (gName 4) gNil))) (f := fun d env => match d with | .tup [a, b] => (env.set 3 (some a)).set 4 (some b) | _ => env) (fun i env ow' => ∃ (es : List En) (y1 y2 y3 y4 : Option D), forget es = lanesN g dx dy i ∧ Lns q0 ow ow' es ∧ env = [some (.lst (offs g p)), some (sq dx dy), some (.ob (.ref q0)), y1, y2, y3, y4]) PassesOwn.never rfl ?hi (pg_two rfl scLns.nd rfl rfl (.inl rfl) (.inl rfl)) ?hgd ⟨[], none, none, none, none, rfl, ⟨by rw [ou_same]; rfl, fun e he => (by cases he), List.nodup_nil, List.nodup_nil, fun b u hb => ?old, hq0⟩, rfl⟩ ?hs ?hd
  case old =>
    have n : b ≠ q0 := fun z => by rw [z, hq0] at hb; cases hb
    rw [ou_ne n]
    exact hb
  case hi => exact vi_enum rfl N.enumerate (ve_var (d := .lst (offs g p)) (i := 0) rfl rfl (by walk_at "vis"))
  case hgd =>
    intro ow' d hd
    obtain ⟨n, hn⟩ := List.mem_iff_getElem?.mp hd
    obtain ⟨x, hx, rfl⟩ := enumD_get hn
    exact gd_two 3 4
  case hs =>
    rintro B2 i d env' ow' e2 hd ⟨es, y1, y2, y3, y4, hes, hL, rfl⟩
    obtain ⟨x, hx, rfl⟩ := enumD_get hd
    have hi : i < p := by
      have z := (List.getElem?_eq_some_iff.mp hx).1
      rw [offs_len] at z
      exact z
    obtain rfl : x = sq (px g i) (py g i) := by
      unfold offs at hx
      rw [List.getElem?_map, List.getElem?_range hi] at hx
      exact (Option.some.inj hx).symm
    rw [Nat.zero_add]
    have elen : es.length = (lanesN g dx dy i).length := by rw [← hes]; unfold forget; rw [List.length_map]
    have ele : es.length ≤ 300 := by
      have := lanesN_len g dx dy i
      omega
    refine' rn_two (d1 := .tupF [.int (laneX (px g i) (py g i) dx dy), .int (laneY (px g i) (py g i) dx dy)]) (d2 := .int (laneP (px g i) (py g i) dx dy)) 5 6 rfl scLns.nd rfl rfl (.inl rfl) (.inl rfl) ?s1 ?s2
    case s1 => exact ve_D L hgd hr rfl (va_cons (ve_var (d := sq (px g i) (py g i)) (i := 4) rfl rfl (by walk_at "vis")) (va_cons (ve_var (d := sq dx dy) (i := 1) rfl rfl (by walk_at "vis")) va_nil)) ⟨_, _, dx, dy, rfl, h1, h2, rfl⟩
    case s2 =>
    intro B3 e3
    obtain ⟨k, hk⟩ : ∃ k : Pt, k = (laneX (px g i) (py g i) dx dy, laneY (px g i) (py g i) dx dy) := ⟨_, rfl⟩
    obtain ⟨pt, hpt⟩ : ∃ pt : Pt, pt = (laneP (px g i) (py g i) dx dy, (i : Int)) := ⟨_, rfl⟩
    have step : lanesN g dx dy (i + 1) = addK (lanesN g dx dy i) k pt := by rw [hk, hpt]; rfl
    have rows : ∀ e ∈ es, e.2.2.length ≤ i := fun e he => lanesN_rows g dx dy i (e.1, e.2.2) (by rw [← hes]; exact List.mem_map.mpr ⟨e, he, rfl⟩)
    have tpl : ∀ (c1 c2 c3 : Pos) (kk : Nat) (ow2 : Ow), Ve (cxOf CX0 P w K mg base ["offsets", "drift", "found", "at", "square", "lane", "place"] "lanes_trodden" (defScope s_lanes_trodden) f cdv A outer s H E).nox (.Tuple [.Name "place" c1, .Name "at" c2] kk c3) [some (.lst (offs g p)), some (sq dx dy), some (.ob (.ref q0)), some (.int (i : Nat)), some (sq (px g i) (py g i)), some (.tupF [.int (laneX (px g i) (py g i) dx dy), .int (laneY (px g i) (py g i) dx dy)]), some (.int (laneP (px g i) (py g i) dx dy))] ow2 (pF pt) := fun c1 c2 c3 kk ow2 => by
      rw [hpt]
      exact ve_tupF (va_cons (ve_var (d := .int (laneP (px g i) (py g i) dx dy)) (i := 6) rfl rfl (by walk_at "vis")) (va_cons (ve_var (d := .int (i : Nat)) (i := 3) rfl rfl (by walk_at "vis")) va_nil)) (by show 2 ≤ 100000; decide)
    refine' rn_appM (vm_setdT (a := q0) (m := entD es) (k := kx k) (by show A.units + 3 + 3 < cLine; omega) (ve_var (d := .ob (.ref q0)) (i := 2) rfl rfl (by walk_at "vis")) hL.dict ?key (by unfold entD; rw [List.length_map]; omega) ⟨rfl, rfl, rfl, rfl⟩) ?app
    case key =>
      rw [hk]
      exact ve_var (i := 5) rfl rfl (by walk_at "vis")
    case app =>
      rintro d ow2 (⟨hv, rfl⟩ | ⟨hv, q, rfl, hq, hne, rfl⟩)
      · obtain ⟨e, he, hek, rfl⟩ := valT_some hv
        obtain ⟨r1, r2, r3⟩ := hL.row e he
        refine ⟨e.2.1, e.2.2.map pF, pF pt, rfl, r1, by rw [List.length_map]; have := rows e he; omega, tpl _ _ _ _ _, fun B4 e4 => ?_⟩
        obtain ⟨m1, m2⟩ := hL.more he pt
        refine rn_nextW ⟨_, _, _, _, _, ?_, m1, rfl⟩ (e3.trans e4)
        rw [m2, hes, step, hek]
      · obtain ⟨m1, m2⟩ := hL.fresh (valT_none hv) hq pt
        refine ⟨q, [], pF pt, rfl, by rw [ou_ne hne, ou_same], by decide, tpl _ _ _ _ _, fun B4 e4 => ?_⟩
        refine rn_nextW ⟨_, _, _, _, _, ?_, m1, rfl⟩ (e3.trans e4)
        rw [m2, hes, step]
  case hd =>
    rintro B2 env' ow' e2 ⟨es, y1, y2, y3, y4, hes, hL, rfl⟩
    have len : (enumD 0 (offs g p)).length = p := by rw [enumD_len, offs_len]
    rw [len] at hes
    have nd : ((lanesN g dx dy p).map (·.1)).Nodup := by
      rw [← hes]
      unfold forget
      rw [List.map_map]
      exact hL.key
    refine' rn_freezeT (j := 2) (a := q0) rfl hL.dict ?fr
    intro B3 e3
    have keys : (entD es).map (fun q => D.tupF (q.1.map kD)) = es.map fun e => D.tupF [.int e.1.1, .int e.1.2] := by
      unfold entD
      rw [List.map_map]
      rfl
    refine' rn_retS (d := .dtp (lanesD (lanesN g dx dy p))) (ve_is (ve_dcT (j := 5) (ds := (entD es).map fun q => .tupF (q.1.map kD)) keyOfD (valOfD (lanesN g dx dy p)) (by show A.units + 3 + 1 < cLine; omega) rfl scLns.nd (vi_keysT (ve_var (d := .dtp (entD es)) (i := 2) rfl rfl (by walk_at "vis"))) (blkOk_by (N := ["offsets", "drift", "found", "at", "square", "lane", "place"]) (sc := defScope s_lanes_trodden) (by decide +kernel)) ?len ?nod (fun _ _ _ _ _ => pg_name scLns.nd rfl (.inl rfl)) ?hk ?hv) ?eq) (fun b u hb => ?sub) (kQ.ex (e1.trans (e2.trans e3)))
    case len =>
      rw [keys, List.length_map]
      have z : es.length = (lanesN g dx dy p).length := by rw [← hes]; unfold forget; rw [List.length_map]
      have := lanesN_len g dx dy p
      omega
    case nod =>
      rw [keys, List.map_map]
      have z : es.map (keyOfD ∘ fun e : En => D.tupF [.int e.1.1, .int e.1.2]) = (es.map fun e => e.1).map kx := by
        rw [List.map_map]
        rfl
      rw [z]
      exact List.Pairwise.map kx (fun a b ne h => ne (kx_inj h)) hL.key
    case hk =>
      intro d ow2 hd sub s0 H0 C0 cl fp
      rw [keys] at hd
      obtain ⟨e, he, rfl⟩ := List.mem_map.mp hd
      exact ve_var (i := 5) rfl rfl (by walk_at "vis")
    case hv =>
      intro d ow2 hd sub s0 H0 C0 cl fp
      rw [keys] at hd
      obtain ⟨e, he, rfl⟩ := List.mem_map.mp hd
      obtain ⟨r1, r2, r3⟩ := hL.row e he
      have o2 : ow2 e.2.1 = some (.lst (e.2.2.map pF)) := sub _ _ (by rw [oz_ne r2]; exact r1)
      have val : lookM (lanesN g dx dy p) e.1 = e.2.2 := by
        have z := lookM_of (e := (e.1, e.2.2)) nd (by rw [← hes]; exact List.mem_map.mpr ⟨e, he, rfl⟩)
        exact z
      show Ve _ _ _ _ (.tup ((srt (lookM (lanesN g dx dy p) e.1)).map pF))
      rw [val]
      exact ve_ty (id := "tuple") (va_cons (ve_bi (va_cons (ve_getT (m := entD es) (k := kx e.1) (by show A.units + 3 + 1 < cLine; omega) (ve_var (d := .dtp (entD es)) (i := 2) rfl rfl (by walk_at "vis")) (ve_var (d := .tupF [.int e.1.1, .int e.1.2]) (i := 5) rfl rfl (by walk_at "vis")) (valT_of hL.key he)) va_nil) rfl N.sorted boot_sorted (fo_sortPO o2 (srt_perm _) (srt_sorted _))) va_nil) rfl N.tuple boot_tuple to_tupL
    case eq =>
      rw [keys, List.map_map]
      congr 1
      unfold lanesD
      rw [← hes]
      unfold forget
      rw [List.map_map]
      apply List.map_congr_left
      intro e he
      have val : lookM (lanesN g dx dy p) e.1 = e.2.2 := lookM_of (e := (e.1, e.2.2)) nd (by rw [← hes]; exact List.mem_map.mpr ⟨e, he, rfl⟩)
      show (kx e.1, D.tup ((srt (lookM _ e.1)).map pF)) = (kx e.1, D.tup ((srt e.2.2).map pF))
      have hes2 : (es.map fun e => (e.1, e.2.2)) = lanesN g dx dy p := hes
      rw [hes2, val]
    case sub =>
      have n : b ≠ q0 := fun z => by rw [z, hq0] at hb; cases hb
      rw [oz_ne n]
      exact hL.old b u hb
end
end
section
open Wk TL
theorem ve_ng {X : Cx} {env : List (Option D)} {ow : Ow} {e : Expr} {pos : Pos} {i : Int} (h : Ve X e env ow (.int i)) : Ve X (.UnaryOp .USub e pos) env ow (.int (-i)) := ve_un un_neg h (.mk fun F H x Q w r k => by
  cases r
  exact ⟨i, rfl, k.here w (.int _)⟩)
theorem cut_last {l : List D} {d : D} : Vd.cutD (l ++ [d]) none (some (-1)) = l := by
  unfold Vd.cutD
  rw [HT.sIx_none]
  have e : HT.sIx (l ++ [d]).length (l ++ [d]).length (some (-1)) = l.length := by
    show (if (-1 : Int) < 0 then ((-1 : Int) + ((l ++ [d]).length : Int)).toNat else min (-1 : Int).toNat (l ++ [d]).length) = l.length
    rw [if_pos (by decide), List.length_append, List.length_singleton]
    omega
  rw [e, List.drop_zero, Nat.sub_zero, List.take_left']
  rfl
/-- the class, as the text has it -/
structure WkC (K : PySem.W.Frag) (C : Addr) : Prop where
  cl : Cls K C
  row : NoAttr K C "_row"
  start : NoAttr K C "_start"
  way : NoAttr K C "_way"
  ways : NoAttr K C "_ways"
  offsets : NoAttr K C "_offsets"
  drift : NoAttr K C "_drift"
  lanes : NoAttr K C "_lanes"
/-- a walker -/
def wkD (l : List Od) (x y : Int) (a p : Nat) : List (Str × D) := [("_row", .str (tx (rowC l))), ("_start", sq x y), ("_way", wD a), ("_ways", .str (wsT ((List.range p).map (way l a)))), ("_offsets", .lst (offs (way l a) p)), ("_drift", sq (px (way l a) p) (py (way l a) p)), ("_lanes", .dtp (lanesD (lanesN (way l a) (px (way l a) p) (py (way l a) p) p)))]
structure WkOk (l : List Od) (a p : Nat) : Prop where
  row : Row l
  way : a < 4
  per : IsPer (Wk.way l a) p
theorem WkOk.le {l : List Od} {a p : Nat} (h : WkOk l a p) : p ≤ 288 := by
  obtain ⟨q, hq, ql⟩ := h.row.per h.way
  rw [h.per.uniq hq]
  exact ql
theorem WkOk.lt {l : List Od} {a p : Nat} (h : WkOk l a p) (t : Nat) : Wk.way l a t < 4 := way_lt h.row.pos h.way t
theorem WkOk.dx {l : List Od} {a p : Nat} (h : WkOk l a p) : (px (Wk.way l a) p).natAbs ≤ 1000000 := by
  have z := px_le (Wk.way l a) p
  have := h.le
  omega
theorem WkOk.dy {l : List Od} {a p : Nat} (h : WkOk l a p) : (py (Wk.way l a) p).natAbs ≤ 1000000 := by
  have z := py_le (Wk.way l a) p
  have := h.le
  omega
section
variable {γ : Gds} {P : Program} {w : World} {K : PySem.W.Frag} {mg : Str → Option Value} {base : Heap} {f C : Addr} {fd : FuncData}
theorem scWIni : FnScope ["self", "row", "start", "way", "offsets"] ["self", "row", "start", "way"] (defScope s_Walker___init__) := ⟨rfl, rfl, rfl, by decide +kernel, rfl, by decide +kernel, by decide +kernel⟩
def RWIni (ds : List D) (fl : List (Str × D)) : Prop := ∃ (l : List Od) (x y : Int) (a p : Nat), ds = [.str (tx (rowC l)), sq x y, wD a] ∧ WkOk l a p ∧ absI x ≤ GR ∧ absI y ≤ GR ∧ fl = wkD l x y a p
theorem ok_wIni {dvs : List V} {kws : List (Str × V)} (Fn : FunD K "__init__" "Walker.__init__" (defArgs s_Walker___init__) (defBody s_Walker___init__) (defScope s_Walker___init__) dvs kws f fd) (W : WkC K C) (D1 : Df γ P w K mg base 2 "is_row" ["value"] (spR K RRow)) (D2 : Df γ P w K mg base 3 "is_square" ["value"] (spR K RSq)) (D3 : Df γ P w K mg base 1 "is_way" ["value"] (spR K RWay))
    (D4 : Df γ P w K mg base 3 "ways_gone" ["row", "way"] (spR K RGone)) (D5 : Df γ P w K mg base 1 "offsets_along" ["ways"] (spR K ROff)) (D6 : Df γ P w K mg base 2 "lanes_trodden" ["offsets", "drift"] (spR K RLns)) : FnG γ P w K mg base CX0 4 f fd ["self", "row", "start", "way"] (spIn K C RWIni) := by
  refine okIn Fn scWIni (fun ds fl ⟨l, x, y, a, p, e, _⟩ => by rw [e]; rfl) fun cdv A outer s H B ow q ds fl Q E hgd hrm hR kQ => ?_
  obtain ⟨l, x, y, a, p, rfl, ok, hx, hy, rfl⟩ := hR
  have hr : ∀ k, k ≤ 3 → Room k (A.deeper (envOfC "Walker.__init__" (defScope s_Walker___init__) s.heap.objs.size f cdv)) := fun k hk => hrm.mono hk
  have ple := ok.le
  refine' rn_if (t := false) (vt_is (vt_not (t := true) (vt_val (ve_D D1 hgd (hr 2 (by decide)) rfl (va_cons (ve_var (d := .str (tx (rowC l))) (i := 1) rfl rfl (by walk_at "vis")) va_nil) ⟨l, rfl, ok.row, rfl⟩))) rfl) (fun z => nomatch z) fun _ B1 e1 => rn_go ?_
  refine' rn_if (t := false) (vt_is (vt_not (t := true) (vt_val (ve_is (ve_D D2 hgd (hr 3 (by decide)) rfl (va_cons (ve_var (d := sq x y) (i := 2) rfl rfl (by walk_at "vis")) va_nil) ⟨x, y, rfl, rfl⟩) (by rw [decide_eq_true hx, decide_eq_true hy]; rfl)))) rfl) (fun z => nomatch z) fun _ B2 e2 => rn_go ?_
  refine' rn_if (t := false) (vt_is (vt_not (t := true) (vt_val (ve_D D3 hgd (hr 1 (by decide)) rfl (va_cons (ve_var (d := wD a) (i := 3) rfl rfl (by walk_at "vis")) va_nil) ⟨a, rfl, ok.way, rfl⟩))) rfl) (fun z => nomatch z) fun _ B3 e3 => rn_go ?_
  refine' rn_fld W.cl W.row (ve_var (d := .str (tx (rowC l))) (i := 1) rfl rfl (by walk_at "vis")) (ve_var (i := 0) rfl rfl (by walk_at "vis")) ou_same (by decide) fun B4 e4 => ?_
  rw [ou_ou]
  refine' rn_fld W.cl W.start (ve_var (d := sq x y) (i := 2) rfl rfl (by walk_at "vis")) (ve_var (i := 0) rfl rfl (by walk_at "vis")) ou_same (by show 1 < 1000; decide) fun B5 e5 => ?_
  rw [ou_ou]
  refine' rn_fld W.cl W.way (ve_var (d := wD a) (i := 3) rfl rfl (by walk_at "vis")) (ve_var (i := 0) rfl rfl (by walk_at "vis")) ou_same (by show 2 < 1000; decide) fun B6 e6 => ?_
  rw [ou_ou]
  refine' rn_fld W.cl W.ways (ve_D D4 hgd (hr 3 (by decide)) rfl (va_cons (ve_var (d := .str (tx (rowC l))) (i := 1) rfl rfl (by walk_at "vis")) (va_cons (ve_var (d := wD a) (i := 3) rfl rfl (by walk_at "vis")) va_nil)) ⟨l, a, p, rfl, ok.row, ok.way, ok.per, rfl⟩) (ve_var (i := 0) rfl rfl (by walk_at "vis")) ou_same (by show 3 < 1000; decide) fun B7 e7 => ?_
  rw [ou_ou]
  refine' rn_set (i := 4) (d := .lst (offs (way l a) (p + 1))) scWIni.nd rfl (by first | exact .inl rfl | exact .inr rfl) ?s1 fun B8 e8 => ?_
  case s1 => exact ve_D D5 hgd (hr 1 (by decide)) rfl (va_cons (ve_atO W.cl W.ways (ve_var (i := 0) rfl rfl (by walk_at "vis")) ou_same (d := .str (wsT ((List.range p).map (way l a)))) rfl) va_nil) ⟨way l a, p, rfl, ok.lt, by omega, rfl⟩
  refine' rn_fld W.cl W.offsets (d := .lst (offs (way l a) p)) ?s2 (ve_var (i := 0) rfl rfl (by walk_at "vis")) ou_same (by show 4 < 1000; decide) fun B9 e9 => ?_
  case s2 => exact ve_is (ve_sliceL (ve_var (d := .lst (offs (way l a) (p + 1))) (i := 4) rfl rfl (by walk_at "vis")) vp_none (vp_some (ve_ng ve_int))) (by rw [offs_succ, cut_last])
  rw [ou_ou]
  refine' rn_fld W.cl W.drift (d := sq (px (way l a) p) (py (way l a) p)) ?s3 (ve_var (i := 0) rfl rfl (by walk_at "vis")) ou_same (by show 5 < 1000; decide) fun B10 e10 => ?_
  case s3 => exact ve_sub (ve_var (d := .lst (offs (way l a) (p + 1))) (i := 4) rfl rfl (by walk_at "vis")) (ve_ng ve_int) (fun _ _ => rfl) (xo_lst (by rw [offs_succ]; exact L2.atI_last _ _))
  rw [ou_ou]
  refine' rn_fld W.cl W.lanes (ve_D D6 hgd (hr 2 (by decide)) rfl (va_cons (ve_atO W.cl W.offsets (ve_var (i := 0) rfl rfl (by walk_at "vis")) ou_same (d := .lst (offs (way l a) p)) rfl) (va_cons (ve_atO W.cl W.drift (ve_var (i := 0) rfl rfl (by walk_at "vis")) ou_same (d := sq (px (way l a) p) (py (way l a) p)) rfl) va_nil)) ⟨way l a, p, _, _, rfl, by omega, ok.dx, ok.dy, rfl⟩) (ve_var (i := 0) rfl rfl (by walk_at "vis")) ou_same (by show 6 < 1000; decide) fun B11 e11 => ?_
  rw [ou_ou]
  exact rn_end fun σ F2 H2 eB s2 w2 => kQ F2 H2 (e1.trans (e2.trans (e3.trans (e4.trans (e5.trans (e6.trans (e7.trans (e8.trans (e9.trans (e10.trans (e11.trans eB))))))))))) w2
end
end
section
open Wk TL
/-- told by a walker -/
def RW (C : Addr) (g : List Od → Int → Int → Nat → Nat → D) (ds : List D) (d : D) : Prop := ∃ l x y a p, ds = [.ins C (wkD l x y a p)] ∧ WkOk l a p ∧ d = g l x y a p
section
variable {γ : Gds} {P : Program} {w : World} {K : PySem.W.Frag} {mg : Str → Option Value} {base : Heap} {f C : Addr} {fd : FuncData}
theorem scWSt : FnScope ["self"] ["self"] (defScope s_Walker_start) := ⟨rfl, rfl, rfl, by decide +kernel, rfl, by decide +kernel, by decide +kernel⟩
theorem ok_wStart (Fn : Fun K "start" "Walker.start" s_Walker_start f fd) (W : WkC K C) : FnG γ P w K mg base CX0 1 f fd ["self"] (spR K (RW C fun l x y a p => sq x y)) := by
  refine okR Fn scWSt (fun ds d ⟨l, x, y, a, p, e, _⟩ => by rw [e]; rfl) fun cdv A outer s H B ow ds d Q E hgd hr hR kQ => ?_
  obtain ⟨l, x, y, a, p, rfl, ok, rfl⟩ := hR
  exact rn_ret (ve_at W.cl W.start (ve_var (d := .ins C (wkD l x y a p)) (i := 0) rfl rfl (by walk_at "vis")) rfl) kQ
theorem scWPe : FnScope ["self"] ["self"] (defScope s_Walker_period) := ⟨rfl, rfl, rfl, by decide +kernel, rfl, by decide +kernel, by decide +kernel⟩
theorem ok_wPeriod (Fn : Fun K "period" "Walker.period" s_Walker_period f fd) (W : WkC K C) (N : Free mg) : FnG γ P w K mg base CX0 1 f fd ["self"] (spR K (RW C fun l x y a p => .int (p : Nat))) := by
  refine okR Fn scWPe (fun ds d ⟨l, x, y, a, p, e, _⟩ => by rw [e]; rfl) fun cdv A outer s H B ow ds d Q E hgd hr hR kQ => ?_
  obtain ⟨l, x, y, a, p, rfl, ok, rfl⟩ := hR
  have hp : (wsT ((List.range p).map (way l a))).length = p := by rw [wsT_len, List.length_map, List.length_range]
  have := ok.le
  exact rn_ret (ve_is (ve_bi (va_cons (ve_at W.cl W.ways (ve_var (d := .ins C (wkD l x y a p)) (i := 0) rfl rfl (by walk_at "vis")) (d := .str (wsT ((List.range p).map (way l a)))) rfl) va_nil) rfl N.len boot_len (fo_lenS (by rw [hp]; omega))) (by rw [hp])) kQ
theorem scWDr : FnScope ["self"] ["self"] (defScope s_Walker_drift) := ⟨rfl, rfl, rfl, by decide +kernel, rfl, by decide +kernel, by decide +kernel⟩
theorem ok_wDrift (Fn : Fun K "drift" "Walker.drift" s_Walker_drift f fd) (W : WkC K C) : FnG γ P w K mg base CX0 1 f fd ["self"] (spR K (RW C fun l x y a p => sq (px (way l a) p) (py (way l a) p))) := by
  refine okR Fn scWDr (fun ds d ⟨l, x, y, a, p, e, _⟩ => by rw [e]; rfl) fun cdv A outer s H B ow ds d Q E hgd hr hR kQ => ?_
  obtain ⟨l, x, y, a, p, rfl, ok, rfl⟩ := hR
  exact rn_ret (ve_at W.cl W.drift (ve_var (d := .ins C (wkD l x y a p)) (i := 0) rfl rfl (by walk_at "vis")) rfl) kQ
theorem scFrom : FnScope ["walker", "offset"] ["walker", "offset"] (defScope s_from_start) := ⟨rfl, rfl, rfl, by decide +kernel, rfl, by decide +kernel, by decide +kernel⟩
def RFrom (C : Addr) (ds : List D) (d : D) : Prop := ∃ l x y a p u v, ds = [.ins C (wkD l x y a p), sq u v] ∧ WkOk l a p ∧ d = sq (x + u) (y + v)
theorem ok_from (Fn : Fun K "from_start" "from_start" s_from_start f fd) (W : WkC K C) (S : Pf γ P w K mg base C 1 "start" (RW C fun l x y a p => sq x y)) : FnG γ P w K mg base CX0 3 f fd ["walker", "offset"] (spR K (RFrom C)) := by
  refine okR Fn scFrom (fun ds d ⟨l, x, y, a, p, u, v, e, _⟩ => by rw [e]; rfl) fun cdv A outer s H B ow ds d Q E hgd hr hR kQ => ?_
  obtain ⟨l, x, y, a, p, u, v, rfl, ok, rfl⟩ := hR
  refine rn_ret (ve_tup (va_cons (ve_bin (ve_sub (ve_P W.cl S hgd hr (ve_var (d := .ins C (wkD l x y a p)) (i := 0) rfl rfl (by walk_at "vis")) ⟨l, x, y, a, p, rfl, ok, rfl⟩) ve_int (fun _ _ => rfl) (xo_tup (d := .int x) rfl)) (ve_sub (ve_var (d := sq u v) (i := 1) rfl rfl (by walk_at "vis")) ve_int (fun _ _ => rfl) (xo_tup (d := .int u) rfl)) bo_add) (va_cons (ve_bin (ve_sub (ve_P W.cl S hgd hr (ve_var (d := .ins C (wkD l x y a p)) (i := 0) rfl rfl (by walk_at "vis")) ⟨l, x, y, a, p, rfl, ok, rfl⟩) ve_int (fun _ _ => rfl) (xo_tup (d := .int y) rfl)) (ve_sub (ve_var (d := sq u v) (i := 1) rfl rfl (by walk_at "vis")) ve_int (fun _ _ => rfl) (xo_tup (d := .int v) rfl)) bo_add) va_nil)) (by show 2 ≤ 100000; decide)) kQ
theorem scSqAt : FnScope ["walker", "time", "rounds", "rest"] ["walker", "time"] (defScope s_square_at) := ⟨rfl, rfl, rfl, by decide +kernel, rfl, by decide +kernel, by decide +kernel⟩
def RAt (C : Addr) (ds : List D) (d : D) : Prop := ∃ (l : List Od) (x y : Int) (a p t : Nat), ds = [.ins C (wkD l x y a p), .int (t : Nat)] ∧ WkOk l a p ∧ (t : Int) ≤ GR ∧ d = sq (x + px (way l a) t) (y + py (way l a) t)
theorem offs_at {g : Nat → Nat} {n i : Nat} (h : i < n) : L2.atI (offs g n) (i : Int) = some (sq (px g i) (py g i)) := by
  exact L2.atI_nat (by unfold offs; rw [List.getElem?_map, List.getElem?_range h]; rfl)
theorem ok_squareAt (Fn : Fun K "square_at" "square_at" s_square_at f fd) (W : WkC K C) (N : Free mg) (S : Pf γ P w K mg base C 1 "period" (RW C fun l x y a p => .int (p : Nat))) (T : Pf γ P w K mg base C 1 "drift" (RW C fun l x y a p => sq (px (way l a) p) (py (way l a) p)))
    (D1 : Df γ P w K mg base 3 "from_start" ["walker", "offset"] (spR K (RFrom C))) (D2 : Df γ P w K mg base 1 "square_in" ["lane", "place", "drift"] (spR K RSqIn)) : FnG γ P w K mg base CX0 4 f fd ["walker", "time"] (spR K (RAt C)) := by
  refine okR Fn scSqAt (fun ds d ⟨l, x, y, a, p, t, e, _⟩ => by rw [e]; rfl) fun cdv A outer s H B ow ds d Q E hgd hrm hR kQ => ?_
  obtain ⟨l, x, y, a, p, t, rfl, ok, ht, rfl⟩ := hR
  have hr : ∀ k, k ≤ 3 → Room k (A.deeper (envOfC "square_at" (defScope s_square_at) s.heap.objs.size f cdv)) := fun k hk => hrm.mono hk
  have pp := ok.per.pos
  have ple := ok.le
  have wv : ∀ {env : List (Option D)} {pos : Pos}, env[0]? = some (some (.ins C (wkD l x y a p))) → Ve (cxOf CX0 P w K mg base ["walker", "time", "rounds", "rest"] "square_at" (defScope s_square_at) f cdv A outer s H E).nox (.Name "walker" pos) env ow (.ins C (wkD l x y a p)) := fun h => ve_var h rfl (by walk_at "vis")
  refine' rn_two (d1 := .int ((t / p : Nat) : Int)) (d2 := .int ((t % p : Nat) : Int)) 2 3 rfl scSqAt.nd rfl rfl (.inl rfl) (.inl rfl) ?s1 fun B1 e1 => ?_
  case s1 => exact ve_is (ve_bi (va_cons (ve_var (d := .int (t : Nat)) (i := 1) rfl rfl (by walk_at "vis")) (va_cons (ve_P W.cl S hgd (hr 2 (by decide)) (wv rfl) ⟨l, x, y, a, p, rfl, ok, rfl⟩) va_nil)) rfl N.divmod boot_divmod (fo_divmod (by omega) (by omega))) rfl
  have mlt : t % p < p := Nat.mod_lt _ pp
  refine rn_ret (ve_is (ve_D D1 hgd (hr 3 (by decide)) rfl (va_cons (wv rfl) (va_cons (ve_D D2 hgd (hr 1 (by decide)) rfl (va_cons (ve_sub (ve_at W.cl W.offsets (wv rfl) (d := .lst (offs (way l a) p)) rfl) (ve_var (d := .int ((t % p : Nat) : Int)) (i := 3) rfl rfl (by walk_at "vis")) (fun _ _ => rfl) (xo_lst (offs_at mlt))) (va_cons (ve_var (d := .int ((t / p : Nat) : Int)) (i := 2) rfl rfl (by walk_at "vis")) (va_cons (ve_P W.cl T hgd (hr 2 (by decide)) (wv rfl) ⟨l, x, y, a, p, rfl, ok, rfl⟩) va_nil))) ⟨_, _, _, _, _, rfl, ok.dx, ok.dy, rfl⟩) va_nil)) ⟨l, x, y, a, p, _, _, rfl, ok, rfl⟩) ?_) (kQ.ex e1)
  rw [← px_div ok.per.per, ← py_div ok.per.per]
theorem scAt : FnScope ["self", "time"] ["self", "time"] (defScope s_Walker_at) := ⟨rfl, rfl, rfl, by decide +kernel, rfl, by decide +kernel, by decide +kernel⟩
theorem within_time {t : Nat} (h : (t : Int) ≤ GR) : D.within 0 GR (.int (t : Nat)) = true := decide_eq_true ⟨Int.natCast_nonneg t, h⟩
theorem ok_at (Fn : Fun K "at" "Walker.at" s_Walker_at f fd) (I : Df γ P w K mg base 3 "is_time" ["value"] (spR K RTime)) (D1 : Df γ P w K mg base 4 "square_at" ["walker", "time"] (spR K (RAt C))) : FnG γ P w K mg base CX0 5 f fd ["self", "time"] (spR K (RAt C)) := by
  refine okR Fn scAt (fun ds d ⟨l, x, y, a, p, t, e, _⟩ => by rw [e]; rfl) fun cdv A outer s H B ow ds d Q E hgd hrm hR kQ => ?_
  obtain ⟨l, x, y, a, p, t, rfl, ok, ht, rfl⟩ := hR
  refine' rn_if (t := false) (vt_is (vt_not (t := true) (vt_val (ve_is (ve_D I hgd (hrm.mono (by decide)) rfl (va_cons (ve_var (d := .int (t : Nat)) (i := 1) rfl rfl (by walk_at "vis")) va_nil) ⟨.int (t : Nat), rfl, rfl, rfl⟩) (by rw [within_time ht])))) rfl) (fun z => nomatch z) fun _ B1 e1 => rn_go ?_
  exact rn_ret (ve_D D1 hgd hrm rfl (va_cons (ve_var (d := .ins C (wkD l x y a p)) (i := 0) rfl rfl (by walk_at "vis")) (va_cons (ve_var (d := .int (t : Nat)) (i := 1) rfl rfl (by walk_at "vis")) va_nil)) ⟨l, x, y, a, p, t, rfl, ok, ht, rfl⟩) (kQ.ex e1)
theorem scGoes : FnScope ["self", "time"] ["self", "time"] (defScope s_Walker_goes) := ⟨rfl, rfl, rfl, by decide +kernel, rfl, by decide +kernel, by decide +kernel⟩
def RGoes (C : Addr) (ds : List D) (d : D) : Prop := ∃ (l : List Od) (x y : Int) (a p t : Nat), ds = [.ins C (wkD l x y a p), .int (t : Nat)] ∧ WkOk l a p ∧ (t : Int) ≤ GR ∧ d = wD (way l a t)
theorem ok_goes (Fn : Fun K "goes" "Walker.goes" s_Walker_goes f fd) (W : WkC K C) (N : Free mg) (I : Df γ P w K mg base 3 "is_time" ["value"] (spR K RTime)) : FnG γ P w K mg base CX0 4 f fd ["self", "time"] (spR K (RGoes C)) := by
  refine okR Fn scGoes (fun ds d ⟨l, x, y, a, p, t, e, _⟩ => by rw [e]; rfl) fun cdv A outer s H B ow ds d Q E hgd hrm hR kQ => ?_
  obtain ⟨l, x, y, a, p, t, rfl, ok, ht, rfl⟩ := hR
  have pp := ok.per.pos
  have ple := ok.le
  have hp : (wsT ((List.range p).map (way l a))).length = p := by rw [wsT_len, List.length_map, List.length_range]
  refine' rn_if (t := false) (vt_is (vt_not (t := true) (vt_val (ve_is (ve_D I hgd hrm rfl (va_cons (ve_var (d := .int (t : Nat)) (i := 1) rfl rfl (by walk_at "vis")) va_nil) ⟨.int (t : Nat), rfl, rfl, rfl⟩) (by rw [within_time ht])))) rfl) (fun z => nomatch z) fun _ B1 e1 => rn_go ?_
  have sv : ∀ {pos apos : Pos}, Ve (cxOf CX0 P w K mg base ["self", "time"] "Walker.goes" (defScope s_Walker_goes) f cdv A outer s H E).nox (.Attribute (.Name "self" pos) "_ways" apos) [some (.ins C (wkD l x y a p)), some (.int (t : Nat))] ow (.str (wsT ((List.range p).map (way l a)))) := fun {pos apos} => ve_at W.cl W.ways (ve_var (d := .ins C (wkD l x y a p)) (i := 0) rfl rfl (by walk_at "vis")) rfl
  refine rn_ret (ve_is (ve_sub sv (ve_is (ve_bin (ve_var (d := .int (t : Nat)) (i := 1) rfl rfl (by walk_at "vis")) (ve_is (ve_bi (va_cons sv va_nil) rfl N.len boot_len (fo_lenS (by rw [hp]; omega))) (by rw [hp])) (bo_mod (by omega))) (d1 := .int ((t % p : Nat) : Int)) rfl) (fun _ _ => rfl) (xo_str (c := wc (way l a (t % p))) (by rw [hp]; omega) ?_)) ?_) (kQ.ex e1)
  · have mlt : t % p < p := Nat.mod_lt _ pp
    show L2.atI (tx (((List.range p).map (way l a)).map wc)).cps.toList ((t % p : Nat) : Int) = _
    rw [tx_cps]
    exact L2.atI_nat (by rw [List.getElem?_map, List.getElem?_map, List.getElem?_range mlt]; rfl)
  · show D.str (tx [wc (way l a (t % p))]) = D.str (tx [wc (way l a t)])
    rw [← per_mod ok.per.per]
end
end
section
open Wk TL
theorem scLStart : FnScope ["cup", "far"] ["cup"] (defScope s__law_start) := ⟨rfl, rfl, rfl, by decide +kernel, rfl, by decide +kernel, by decide +kernel⟩
def G00 (ds : List D) : Prop := ds = []
def RLStart (_ : List D) (d : D) : Prop := ∃ x y : Int, d = sq x y ∧ absI x ≤ GR ∧ absI y ≤ GR
theorem absI_le {x m : Int} (h1 : -m ≤ x) (h2 : x ≤ m) : absI x ≤ m := by
  unfold absI
  split <;> omega
def farL : List D := [.int 0, .int 0, .int 0, .int 1000000, .int 999999999999999999999999999991]
section
variable {γ : Gds} {P : Program} {w : World} {K : PySem.W.Frag} {mg : Str → Option Value} {base : Heap} {f C : Addr} {fd : FuncData}
theorem ok_lstart (Fn : Fun K "_law_start" "_law_start" s__law_start f fd) (S : Df γ P w K mg base 1 "_law_sip" ["cup", "many"] (spC K GSip RSip)) (T : Df γ P w K mg base 2 "_law_pick" ["cup", "things"] (spC K GPick RPick)) : FnG γ P w K mg base CX0 3 f fd ["cup"] (spC K G00 RLStart) := by
  refine okC Fn scLStart (fun ds e => by rw [e]; rfl) fun cdv A outer s H B ow c ds Q E hgd hr hG hc kQ => ?_
  obtain rfl : ds = [] := hG
  refine' rn_setM (i := 1) (P := fun d ow2 => SameO c ow ow2 ∧ CupO ow2 c ∧ ∃ m : Int, d = .int m ∧ 0 ≤ m ∧ m ≤ 999999999999999999999999999991) scLStart.nd rfl (.inl rfl) ?a1 ?a2
  case a1 =>
    refine Vm.imp (vm_DC T hgd (hr.mono (by decide)) rfl (va_cons (ve_var (i := 0) rfl rfl (by walk_at "vis")) (va_cons (ve_is (ve_lst (va_cons ve_int (va_cons ve_int (va_cons ve_int (va_cons (ve_bin ve_int ve_int (bo_pow (by decide) (by decide) (by decide))) (va_cons (ve_bin (ve_bin ve_int ve_int (bo_pow (by decide) (by decide) (by decide))) ve_int bo_sub) va_nil))))) (by show 5 ≤ 100000; decide)) (by rfl : _ = D.lst farL)) va_nil)) hc ⟨farL, rfl, by decide, by decide⟩) ?_
    rintro d ow2 ⟨s3, c3, l, e, hd⟩
    cases e
    refine ⟨s3, c3, ?_⟩
    unfold farL at hd
    simp only [List.mem_cons, List.not_mem_nil, or_false] at hd
    rcases hd with rfl | rfl | rfl | rfl | rfl
    · exact ⟨0, rfl, by decide, by decide⟩
    · exact ⟨0, rfl, by decide, by decide⟩
    · exact ⟨0, rfl, by decide, by decide⟩
    · exact ⟨_, rfl, by decide, by decide⟩
    · exact ⟨_, rfl, by decide, by decide⟩
  case a2 =>
  rintro B1 d ow1 e1 ⟨s1, c1, m, rfl, m0, m1⟩
  refine rn_retM (P := fun d ow2 => ∃ d1 d2, d = .tup [d1, d2] ∧ (∃ r : Int, d1 = .int (r - 4 + m) ∧ 0 ≤ r ∧ r < 9) ∧ SameO c ow ow2 ∧ CupO ow2 c ∧ ∃ r : Int, d2 = .int (r - 4 - m) ∧ 0 ≤ r ∧ r < 9) (vm_tup2 (P := fun d ow2 => (∃ r : Int, d = .int (r - 4 + m) ∧ 0 ≤ r ∧ r < 9) ∧ SameO c ow ow2 ∧ CupO ow2 c) (P2 := fun d1 d2 ow2 => (∃ r : Int, d1 = .int (r - 4 + m) ∧ 0 ≤ r ∧ r < 9) ∧ SameO c ow ow2 ∧ CupO ow2 c ∧ ∃ r : Int, d2 = .int (r - 4 - m) ∧ 0 ≤ r ∧ r < 9) ?h1 ?h2) ?h3
  case h1 =>
    refine vm_op1 op_add (vm_op1 op_sub (vm_DC S hgd (hr.mono (by decide)) rfl (va_cons (ve_var (i := 0) rfl rfl (by walk_at "vis")) (va_cons ve_int va_nil)) c1 ⟨9, rfl, by decide, by decide⟩) (P' := fun d ow2 => SameO c ow1 ow2 ∧ CupO ow2 c ∧ ∃ r : Int, d = .int (r - 4) ∧ 0 ≤ r ∧ r < 9) ?_) ?_
    · rintro d ow2 ⟨s2, c2, n, r, e, rfl, r0, r1⟩
      cases e
      exact ⟨_, _, ve_int, rd_sub, s2, c2, r, rfl, r0, r1⟩
    · rintro d ow2 ⟨s2, c2, r, rfl, r0, r1⟩
      exact ⟨.int m, _, ve_var (i := 1) rfl rfl (by walk_at "vis"), rd_add, ⟨r, rfl, r0, r1⟩, s1.trans s2, c2⟩
  case h2 =>
    rintro d1 ow2 ⟨hd, s2, c2⟩
    refine vm_op1 op_sub (vm_op1 op_sub (vm_DC S hgd (hr.mono (by decide)) rfl (va_cons (ve_var (i := 0) rfl rfl (by walk_at "vis")) (va_cons ve_int va_nil)) c2 ⟨9, rfl, by decide, by decide⟩) (P' := fun d ow3 => SameO c ow2 ow3 ∧ CupO ow3 c ∧ ∃ r : Int, d = .int (r - 4) ∧ 0 ≤ r ∧ r < 9) ?_) ?_
    · rintro d ow3 ⟨s3, c3, n, r, e, rfl, r0, r1⟩
      cases e
      exact ⟨_, _, ve_int, rd_sub, s3, c3, r, rfl, r0, r1⟩
    · rintro d ow3 ⟨s3, c3, r, rfl, r0, r1⟩
      exact ⟨.int m, _, ve_var (i := 1) rfl rfl (by walk_at "vis"), rd_sub, hd, s2.trans s3, c3, r, rfl, r0, r1⟩
  case h3 =>
    rintro d ow2 ⟨d1, d2, rfl, ⟨r, rfl, r0, r1⟩, s2, c2, r', rfl, r0', r1'⟩ F2 H2 v e2 w2 r2
    exact kQ F2 H2 ow2 v _ (e1.trans e2) w2 s2 c2 r2 ⟨_, _, rfl, absI_le (by unfold GR; omega) (by unfold GR; omega), absI_le (by unfold GR; omega) (by unfold GR; omega)⟩
end
end
section
open Wk TL
section
variable {γ : Gds} {P : Program} {w : World} {K : PySem.W.Frag} {mg : Str → Option Value} {base : Heap} {f C : Addr} {fd : FuncData}
theorem scLOn : FnScope ["spot", "side", "many", "x", "y"] ["spot", "side", "many"] (defScope s__law_on) := ⟨rfl, rfl, rfl, by decide +kernel, rfl, by decide +kernel, by decide +kernel⟩
def RLOn (ds : List D) (d : D) : Prop := ∃ (x y : Int) (a : Nat), ds = [sq x y, wD a, .int 1] ∧ a < 4 ∧ d = sq (x + mx a) (y + my a)
theorem wD_ns {a : Nat} (h : a < 4) : decide (wc a ∈ ("NS" : Str).cps.toList) = (a == 0 || a == 2) := by
  match a, h with
  | 0, _ => decide +kernel
  | 1, _ => decide +kernel
  | 2, _ => decide +kernel
  | 3, _ => decide +kernel
theorem ok_lon (Fn : Fun K "_law_on" "_law_on" s__law_on f fd) : FnG γ P w K mg base CX0 1 f fd ["spot", "side", "many"] (spR K RLOn) := by
  refine okR Fn scLOn (fun ds d ⟨x, y, a, e, _⟩ => by rw [e]; rfl) fun cdv A outer s H B ow ds d Q E hgd hr hR kQ => ?_
  obtain ⟨x, y, a, rfl, ha, rfl⟩ := hR
  refine' rn_two (d1 := .int x) (d2 := .int y) 3 4 rfl scLOn.nd rfl rfl (.inl rfl) (.inl rfl) (ve_var (d := sq x y) (i := 0) rfl rfl (by walk_at "vis")) fun B1 e1 => ?_
  refine' rn_if (t := a == 0 || a == 2) ?t1 ?t2 ?t3
  case t1 => exact vt_comp (ve_var (d := wD a) (i := 1) rfl rfl (by walk_at "vis")) ve_str (co_to (co_inC rfl) (congrArg D.bl (wD_ns ha)))
  case t2 =>
    intro t B2 e2
    refine rn_ret (ve_is (ve_tup (va_cons (ve_var (d := .int x) (i := 3) rfl rfl (by walk_at "vis")) (va_cons (ve_if (d := .int (y + my a)) (t := a == 0) (vt_comp (ve_var (d := wD a) (i := 1) rfl rfl (by walk_at "vis")) ve_str (co_to co_eqS ?q1)) ?q2 ?q3) va_nil)) (by show 2 ≤ 100000; decide)) ?q4) (kQ.ex (e1.trans e2))
    case q1 =>
      match a, ha with
      | 0, _ => exact congrArg D.bl (by decide +kernel)
      | 1, _ => exact congrArg D.bl (by decide +kernel)
      | 2, _ => exact congrArg D.bl (by decide +kernel)
      | 3, _ => exact congrArg D.bl (by decide +kernel)
    case q2 =>
      intro t2
      match a, ha, t2 with
      | 0, _, _ => exact ve_bin (ve_var (d := .int y) (i := 4) rfl rfl (by walk_at "vis")) (ve_var (d := .int 1) (i := 2) rfl rfl (by walk_at "vis")) bo_add
    case q3 =>
      intro t2
      match a, ha, t, t2 with
      | 2, _, _, _ => exact ve_bin (ve_var (d := .int y) (i := 4) rfl rfl (by walk_at "vis")) (ve_var (d := .int 1) (i := 2) rfl rfl (by walk_at "vis")) bo_sub
    case q4 =>
      match a, ha, t with
      | 0, _, _ => show sq x (y + 1) = sq (x + 0) (y + 1); rw [Int.add_zero]
      | 2, _, _ => show sq x (y + -1) = sq (x + 0) (y + -1); rw [Int.add_zero]
  case t3 =>
    intro t B2 e2
    refine rn_go ?_
    refine rn_ret (ve_is (ve_tup (va_cons (ve_if (d := .int (x + mx a)) (t := a == 1) (vt_comp (ve_var (d := wD a) (i := 1) rfl rfl (by walk_at "vis")) ve_str (co_to co_eqS ?q1)) ?q2 ?q3) (va_cons (ve_var (d := .int y) (i := 4) rfl rfl (by walk_at "vis")) va_nil)) (by show 2 ≤ 100000; decide)) ?q4) (kQ.ex (e1.trans e2))
    case q1 =>
      match a, ha with
      | 0, _ => exact congrArg D.bl (by decide +kernel)
      | 1, _ => exact congrArg D.bl (by decide +kernel)
      | 2, _ => exact congrArg D.bl (by decide +kernel)
      | 3, _ => exact congrArg D.bl (by decide +kernel)
    case q2 =>
      intro t2
      match a, ha, t2 with
      | 1, _, _ => exact ve_bin (ve_var (d := .int x) (i := 3) rfl rfl (by walk_at "vis")) (ve_var (d := .int 1) (i := 2) rfl rfl (by walk_at "vis")) bo_add
    case q3 =>
      intro t2
      match a, ha, t, t2 with
      | 3, _, _, _ => exact ve_bin (ve_var (d := .int x) (i := 3) rfl rfl (by walk_at "vis")) (ve_var (d := .int 1) (i := 2) rfl rfl (by walk_at "vis")) bo_sub
    case q4 =>
      match a, ha, t with
      | 1, _, _ => show sq (x + 1) y = sq (x + 1) (y + 0); rw [Int.add_zero]
      | 3, _, _ => show sq (x + -1) y = sq (x + -1) (y + 0); rw [Int.add_zero]
end
end
section
open Wk TL
theorem scLSteps : FnScope ["orders", "side", "many", "look", "found", "turn", "word", "step"] ["orders", "side", "many"] (defScope s__law_steps) := ⟨rfl, rfl, rfl, by decide +kernel, rfl, by decide +kernel, by decide +kernel⟩
def RLSteps (ds : List D) (d : D) : Prop := ∃ (l : List Od) (a m : Nat), ds = [.str (tx (rowC l)), wD a, .int (m : Nat)] ∧ Row l ∧ a < 4 ∧ m ≤ 1000 ∧ d = .lst ((List.range m).map fun t => wD (way l a t))
theorem cut_take {l : List D} {m : Nat} : Vd.cutD l none (some (m : Int)) = l.take m := by
  unfold Vd.cutD
  rw [HT.sIx_none]
  have e : HT.sIx l.length l.length (some (m : Int)) = min m l.length := by
    show (if (m : Int) < 0 then ((m : Int) + (l.length : Int)).toNat else min (m : Int).toNat l.length) = _
    rw [if_neg (by omega), Int.toNat_natCast]
  rw [e, List.drop_zero, Nat.sub_zero, List.take_eq_take_iff]
  omega
def rbl : Str := ("RBL" : Str)
theorem isR_oc {o : Od} (h : o.ok) : decide (oc o ∈ rbl.cps.toList) = !o.isGo := by
  cases o with
  | t k =>
    obtain ⟨h1, h2⟩ := (h : 1 ≤ k ∧ k ≤ 3)
    match k, h1, h2 with
    | 1, _, _ => decide +kernel
    | 2, _, _ => decide +kernel
    | 3, _, _ => decide +kernel
  | g n =>
    obtain ⟨h1, h2⟩ := (h : 1 ≤ n ∧ n ≤ 9)
    show decide (48 + n ∈ rbl.cps.toList) = false
    have e : rbl.cps.toList = [82, 66, 76] := by decide +kernel
    rw [e]
    simp
    omega
theorem occ_rbl {k : Nat} (h1 : 1 ≤ k) (h2 : k ≤ 3) : Builtin.Str.occurrences (" RBL" : Str) (tx [oc (.t k)]) 0 (" RBL" : Str).length 1 = k :: [] := by
  match k, h1, h2 with
  | 1, _, _ => decide +kernel
  | 2, _, _ => decide +kernel
  | 3, _, _ => decide +kernel
theorem runs_succ (l : List Od) (k a : Nat) : runs l (k + 1) a = runs l k a ++ run l (fins l k a) := by
  rw [runs_add]
  show _ ++ (run l _ ++ []) = _
  rw [List.append_nil]
theorem fins_succ (l : List Od) (k a : Nat) : fins l (k + 1) a = fin l (fins l k a) := by
  rw [fins_add]
  rfl
section
variable {γ : Gds} {P : Program} {w : World} {K : PySem.W.Frag} {mg : Str → Option Value} {base : Heap} {f C : Addr} {fd : FuncData}
theorem ok_lsteps (Fn : Fun K "_law_steps" "_law_steps" s__law_steps f fd) (N : Free mg) : FnG γ P w K mg base CX0 1 f fd ["orders", "side", "many"] (spR K RLSteps) := by
  refine okR Fn scLSteps (fun ds d ⟨l, a, m, e, _⟩ => by rw [e]; rfl) fun cdv A outer s H B ow ds d Q E hgd hr hR kQ => ?_
  obtain ⟨l, a, m, rfl, rl, ha, hm, rfl⟩ := hR
  refine' rn_two (d1 := .int (a : Nat)) (d2 := .lst []) 3 4 rfl scLSteps.nd rfl rfl (by first | exact .inl rfl | exact .inr rfl) (by first | exact .inl rfl | exact .inr rfl) ?s1 fun B1 e1 => ?_
  case s1 => exact ve_tup (va_cons (ve_sindex (ve_is ve_str (congrArg D.str (by decide +kernel : _ = nesw))) (ve_var (d := wD a) (i := 1) rfl rfl (by walk_at "vis")) (occ_way ha)) (va_cons (ve_lst va_nil (Nat.zero_le _)) va_nil)) (by show 2 ≤ 100000; decide)
  refine' rn_for (ds := rangeD 0 ((m : Int) + 1).toNat) (g := gName 5) (f := fun d env => env.set 5 (some d)) (fun i env ow' => ow = ow' ∧ ∃ (k : Nat) (z5 z6 : Option D), env = [some (.str (tx (rowC l))), some (wD a), some (.int (m : Nat)), some (.int (fins l k a : Nat)), some (.lst ((runs l k a).map wD)), z5, z6, none] ∧ k ≤ i ∧ (k = i ∨ m ≤ (runs l k a).length))
    PassesOwn.never rfl (vi_range1 rfl N.range (ve_bin (ve_var (d := .int (m : Nat)) (i := 2) rfl rfl (by walk_at "vis")) ve_int bo_add) (by omega)) (pg_name scLSteps.nd rfl (by first | exact .inl rfl | exact .inr rfl)) (fun ow d _ => gd_name 5) ⟨rfl, 0, none, none, rfl, Nat.le_refl _, .inl rfl⟩ ?hs ?hd
  case hd =>
    rintro B2 env' ow' e2 ⟨rfl, k, z5, z6, rfl, hk, hor⟩
    rw [rangeD_len] at hk hor
    have big : m ≤ (runs l k a).length := by
      rcases hor with h | h
      · rw [runs_len, h]
        have := rl.pos
        have z : ((m : Int) + 1).toNat = m + 1 := by omega
        rw [z]
        calc m ≤ (m + 1) * 1 := by omega
          _ ≤ (m + 1) * stp l := Nat.mul_le_mul_left _ this
      · exact h
    refine rn_ret (ve_is (ve_sliceL (ve_var (d := .lst ((runs l k a).map wD)) (i := 4) rfl rfl (by walk_at "vis")) vp_none (vp_some (ve_var (d := .int (m : Nat)) (i := 2) rfl rfl (by walk_at "vis")))) ?_) (kQ.ex (e1.trans e2))
    rw [cut_take, runs_map rl.pos, List.map_map, ← List.map_take, List.take_range]
    rw [runs_len] at big
    rw [Nat.min_eq_left big]
    rfl
  case hs =>
    rintro B2 i d env' ow' e2 hd ⟨rfl, k, z5, z6, rfl, hk, hor⟩
    obtain ⟨hi, rfl⟩ := rangeD_get hd
    obtain ⟨u, hu⟩ : ∃ u, u = fins l k a := ⟨_, rfl⟩
    have u4 : u < 4 := by rw [hu]; exact fins_lt l k a ha
    obtain ⟨G, hG⟩ : ∃ G, G = runs l k a := ⟨_, rfl⟩
    rw [← hu, ← hG]
    obtain ⟨W, hW⟩ : ∃ W : List Od, W = if G.length < m then l else [] := ⟨_, rfl⟩
    refine' rn_for (ds := wsD W) (g := gName 6) (f := fun d env => env.set 6 (some d)) (fun j env ow' => ow = ow' ∧ ∃ (z6 : Option D), env = [some (.str (tx (rowC l))), some (wD a), some (.int (m : Nat)), some (.int (fin (W.take j) u : Nat)), some (.lst ((G ++ run (W.take j) u).map wD)), some (.int (0 + (i : Nat))), z6, none])
      PassesOwn.never rfl ?gi (pg_name scLSteps.nd rfl (by first | exact .inl rfl | exact .inr rfl)) (fun ow d _ => gd_name 6) ⟨rfl, z6, ?g0⟩ ?gs ?gd
    case g0 =>
      show _ = [some (.str (tx (rowC l))), some (wD a), some (.int (m : Nat)), some (.int (u : Nat)), some (.lst ((G ++ []).map wD)), some (.int (0 + (i : Nat))), z6, none]
      rw [List.append_nil]
      rfl
    case gi =>
      refine vi_list (ve_if (t := decide ((((G.map wD).length : Nat) : Int) < (m : Nat))) (vt_comp (ve_bi (va_cons (ve_var (d := .lst (G.map wD)) (i := 4) rfl rfl (by walk_at "vis")) va_nil) rfl N.len boot_len fo_lenL) (ve_var (d := .int (m : Nat)) (i := 2) rfl rfl (by walk_at "vis")) co_lt) ?yy1 ?nn1)
      case yy1 =>
        intro t
        have z := of_decide_eq_true t
        rw [List.length_map] at z
        rw [hW, if_pos (by omega)]
        exact ve_words rl (ve_var (d := .str (tx (rowC l))) (i := 0) rfl rfl (by walk_at "vis")) ve_str
      case nn1 =>
        intro t
        have z := of_decide_eq_false t
        rw [List.length_map] at z
        rw [hW, if_neg (by omega)]
        exact ve_lst va_nil (Nat.zero_le _)
    case gd =>
      rintro B3 env' ow' e3 ⟨rfl, z6, rfl⟩
      have tk : W.take (wsD W).length = W := List.take_of_length_le (by unfold wsD; rw [List.length_map]; exact Nat.le_refl _)
      rw [tk]
      refine rn_nextW ⟨rfl, ?_⟩ e3
      by_cases h : G.length < m
      · rw [if_pos h] at hW
        have hki : k = i := by
          rcases hor with h2 | h2
          · exact h2
          · rw [← hG] at h2; omega
        refine ⟨k + 1, some (.int (0 + (i : Nat))), z6, ?_, by omega, .inl (by omega)⟩
        rw [runs_succ, fins_succ, ← hu, ← hG, hW]
      · rw [if_neg h] at hW
        refine ⟨k, some (.int (0 + (i : Nat))), z6, ?_, by omega, .inr (by rw [← hG]; omega)⟩
        rw [← hu, ← hG, hW]
        show [some (.str (tx (rowC l))), some (wD a), some (.int (m : Nat)), some (.int (u : Nat)), some (.lst ((G ++ []).map wD)), some (.int (0 + (i : Nat))), z6, none] = _
        rw [List.append_nil]
    case gs =>
      rintro B3 j d env' ow' e3 hdj ⟨rfl, z6, rfl⟩
      unfold wsD at hdj
      rw [List.getElem?_map] at hdj
      cases y : W[j]? with
      | none => rw [y] at hdj; cases hdj
      | some o =>
        rw [y] at hdj
        obtain rfl := Option.some.inj hdj
        have hlt : G.length < m := by
          apply Classical.byContradiction
          intro h
          rw [hW, if_neg h] at y
          cases y
        rw [if_pos hlt] at hW
        subst hW
        have ho := rl.ok o (List.mem_of_getElem? y)
        have tk : W.take (j + 1) = W.take j ++ [o] := by rw [List.take_add_one, y]; rfl
        obtain ⟨v, hv⟩ : ∃ v, v = fin (W.take j) u := ⟨_, rfl⟩
        have v4 : v < 4 := by rw [hv]; exact fin_lt u4
        have lenr : (run (W.take j) u).length ≤ 72 := by
          have z1 : W = W.take j ++ W.drop j := (List.take_append_drop j W).symm
          have z2 : (run W u).length ≤ 72 := by rw [run_len]; exact rl.stp
          rw [z1, run_app, List.length_append] at z2
          omega
        rw [tk, ← hv]
        refine' rn_if (t := !o.isGo) ?c ?c1 ?c2
        case c => exact vt_comp (ve_var (d := .str (tx [oc o])) (i := 6) rfl rfl (by walk_at "vis")) ve_str (co_to (co_inC rfl) (congrArg D.bl (isR_oc ho)))
        case c1 =>
          intro t B4 e4
          cases o with
          | g n => cases t
          | t n =>
            obtain ⟨a1, a2⟩ := (ho : 1 ≤ n ∧ n ≤ 3)
            refine' rn_set (i := 3) (d := .int ((v + n) % 4 : Nat)) scLSteps.nd rfl (by first | exact .inl rfl | exact .inr rfl) ?u1 fun B5 e5 => ?_
            case u1 => exact ve_is (ve_bin (ve_ty (id := "int") (va_cons (ve_bin (ve_var (d := .int (v : Nat)) (i := 3) rfl rfl (by walk_at "vis")) (ve_sindex ve_str (ve_var (d := .str (tx [oc (.t n)])) (i := 6) rfl rfl (by walk_at "vis")) (occ_rbl a1 a2)) bo_add) va_nil) rfl N.int boot_int to_int) ve_int (bo_mod (by decide))) rfl
            refine rn_go (rn_nextW ⟨rfl, some (.str (tx [oc (.t n)])), ?_⟩ (e4.trans e5))
            rw [run_app, fin_app, ← hv]
            show _ = [some (.str (tx (rowC W))), some (wD a), some (.int (m : Nat)), some (.int ((v + n) % 4 : Nat)), some (.lst ((G ++ (run (W.take j) u ++ [])).map wD)), some (.int (0 + (i : Nat))), some (.str (tx [oc (.t n)])), none]
            rw [List.append_nil]
            rfl
        case c2 =>
          intro t B4 e4
          cases o with
          | t n => cases t
          | g n =>
            obtain ⟨a1, a2⟩ := (ho : 1 ≤ n ∧ n ≤ 9)
            refine' rn_set (i := 4) (d := .lst ((G ++ run (W.take j) u).map wD ++ (List.replicate n v).map wD)) scLSteps.nd rfl (by first | exact .inl rfl | exact .inr rfl) ?u1 fun B5 e5 => ?_
            case u1 =>
              refine ve_bin (ve_var (d := .lst ((G ++ run (W.take j) u).map wD)) (i := 4) rfl rfl (by walk_at "vis")) (ve_is (ve_lc (j := 7) (fun _ => true) (fun _ => wD v) rfl scLSteps.nd (vi_range1 rfl N.range (ve_ty (id := "int") (va_cons (ve_var (d := .str (tx [oc (.g n)])) (i := 6) rfl rfl (by walk_at "vis")) va_nil) rfl N.int boot_int (to_intS (int_digit a1 a2) (by rw [tx_len]; show 1 ≤ 640; decide))) (by omega)) (blkOk_by (N := ["orders", "side", "many", "look", "found", "turn", "word", "step"]) (sc := defScope s__law_steps) (by decide +kernel)) (by rw [rangeD_len]; omega) (fun _ _ _ _ _ => pg_name scLSteps.nd rfl (.inl rfl)) (fun d ow' _ _ s0 H0 C0 cl fp => vts_nil) ?he) ?eq) (bo_cat ?le)
              case he =>
                intro d ow' hd _ _ s0 H0 C0 cl fp
                exact ve_sub (ve_is ve_str (congrArg D.str (by decide +kernel : _ = nesw))) (ve_var (d := .int (v : Nat)) (i := 3) rfl rfl (by walk_at "vis")) (fun _ _ => rfl) (xo_str (by decide) (at_way v4))
              case eq =>
                rw [List.filter_eq_self.mpr (fun _ _ => rfl), List.map_replicate]
                congr 1
                have z : (rangeD 0 ((n : Nat) : Int).toNat).length = n := by rw [rangeD_len, Int.toNat_natCast]
                conv => rhs; rw [← z]
                exact List.map_const' ..
              case le =>
                rw [List.length_map, List.length_map, List.length_append, List.length_replicate]
                omega
            refine rn_go (rn_nextW ⟨rfl, some (.str (tx [oc (.g n)])), ?_⟩ (e4.trans e5))
            rw [run_app, fin_app, ← hv]
            show _ = [some (.str (tx (rowC W))), some (wD a), some (.int (m : Nat)), some (.int (v : Nat)), some (.lst ((G ++ (run (W.take j) u ++ (List.replicate n v ++ []))).map wD)), some (.int (0 + (i : Nat))), some (.str (tx [oc (.g n)])), none]
            rw [List.append_nil, ← List.append_assoc, List.map_append (l₁ := G ++ _)]
            rfl
end
end
section
open Wk TL
def lwk (x y : Int) (g : Nat → Nat) (n : Nat) : List D := (List.range n).map fun t => sq (x + px g t) (y + py g t)
theorem lwk_len {x y : Int} {g : Nat → Nat} {n : Nat} : (lwk x y g n).length = n := by unfold lwk; rw [List.length_map, List.length_range]
theorem lwk_succ {x y : Int} {g : Nat → Nat} {n : Nat} : lwk x y g (n + 1) = lwk x y g n ++ [sq (x + px g n) (y + py g n)] := by
  unfold lwk
  rw [List.range_succ, List.map_append]
  rfl
theorem lwk_at {x y : Int} {g : Nat → Nat} {n i : Nat} (h : i < n) : L2.atI (lwk x y g n) (i : Int) = some (sq (x + px g i) (y + py g i)) := L2.atI_nat (by unfold lwk; rw [List.getElem?_map, List.getElem?_range h]; rfl)
theorem scLPath : FnScope ["orders", "begin", "side", "many", "found", "step"] ["orders", "begin", "side", "many"] (defScope s__law_path) := ⟨rfl, rfl, rfl, by decide +kernel, rfl, by decide +kernel, by decide +kernel⟩
def RLPath (ds : List D) (d : D) : Prop := ∃ (l : List Od) (x y : Int) (a m : Nat), ds = [.str (tx (rowC l)), sq x y, wD a, .int (m : Nat)] ∧ Row l ∧ a < 4 ∧ m ≤ 1000 ∧ d = .lst (lwk x y (way l a) (m + 1))
section
variable {γ : Gds} {P : Program} {w : World} {K : PySem.W.Frag} {mg : Str → Option Value} {base : Heap} {f C : Addr} {fd : FuncData}
theorem ok_lpath (Fn : Fun K "_law_path" "_law_path" s__law_path f fd) (D1 : Df γ P w K mg base 1 "_law_steps" ["orders", "side", "many"] (spR K RLSteps)) (D2 : Df γ P w K mg base 1 "_law_on" ["spot", "side", "many"] (spR K RLOn)) : FnG γ P w K mg base CX0 2 f fd ["orders", "begin", "side", "many"] (spR K RLPath) := by
  refine okR Fn scLPath (fun ds d ⟨l, x, y, a, m, e, _⟩ => by rw [e]; rfl) fun cdv A outer s H B ow ds d Q E hgd hr hR kQ => ?_
  obtain ⟨l, x, y, a, m, rfl, rl, ha, hm, rfl⟩ := hR
  refine' rn_newL (j := 4) (ds := [sq x y]) scLPath.nd rfl (.inl rfl) (va_cons (ve_var (d := sq x y) (i := 1) rfl rfl (by walk_at "vis")) va_nil) (by show 1 ≤ 100000; decide) fun B1 q e1 hq => ?_
  refine' rn_for (ds := (List.range m).map fun t => wD (way l a t)) (g := gName 5) (f := fun d env => env.set 5 (some d)) (fun i env ow' => ou ow q (.lst (lwk x y (way l a) (i + 1))) = ow' ∧ i ≤ m ∧ ∃ z5 : Option D, env = [some (.str (tx (rowC l))), some (sq x y), some (wD a), some (.int (m : Nat)), some (.ob (.ref q)), z5])
    PassesOwn.never rfl ?hi (pg_name scLPath.nd rfl (.inl rfl)) (fun ow d _ => gd_name 5) ⟨?h0, Nat.zero_le _, none, rfl⟩ ?hs ?hd
  case hi => exact vi_list (ve_D D1 hgd hr rfl (va_cons (ve_var (d := .str (tx (rowC l))) (i := 0) rfl rfl (by walk_at "vis")) (va_cons (ve_var (d := wD a) (i := 2) rfl rfl (by walk_at "vis")) (va_cons (ve_var (d := .int (m : Nat)) (i := 3) rfl rfl (by walk_at "vis")) va_nil))) ⟨l, a, m, rfl, rl, ha, hm, rfl⟩)
  case h0 =>
    show ou ow q (.lst [sq (x + 0) (y + 0)]) = _
    rw [Int.add_zero, Int.add_zero]
  case hs =>
    rintro B2 i d env' ow' e2 hd ⟨rfl, him, z5, rfl⟩
    rw [List.getElem?_map] at hd
    have hi : i < m := by
      apply Classical.byContradiction
      intro h
      rw [List.getElem?_eq_none (by rw [List.length_range]; omega)] at hd
      cases hd
    rw [List.getElem?_range hi] at hd
    obtain rfl := Option.some.inj hd
    have w4 := way_lt rl.pos ha i
    refine' rn_app (q := q) (l := lwk x y (way l a) (i + 1)) (d := sq (x + px (way l a) (i + 1)) (y + py (way l a) (i + 1))) (ve_var (i := 4) rfl rfl (by walk_at "vis")) ou_same ?ad (by rw [lwk_len]; omega) fun B3 e3 => ?_
    case ad =>
      refine ve_D D2 hgd hr rfl (va_cons (ve_sub (ve_var (i := 4) rfl rfl (by walk_at "vis")) (ve_ng ve_int) (fun _ _ => rfl) (xo_own (l := lwk x y (way l a) (i + 1)) ou_same (by rw [lwk_succ]; exact L2.atI_last _ _))) (va_cons (ve_var (d := wD (way l a i)) (i := 5) rfl rfl (by walk_at "vis")) (va_cons ve_int va_nil))) ⟨_, _, _, rfl, w4, ?_⟩
      show sq _ _ = sq _ _
      rw [show px (way l a) (i + 1) = px (way l a) i + mx (way l a i) from rfl, show py (way l a) (i + 1) = py (way l a) i + my (way l a i) from rfl, Int.add_assoc, Int.add_assoc]
    rw [← lwk_succ (n := i + 1), ou_ou]
    exact rn_nextW ⟨rfl, by omega, _, rfl⟩ e3
  case hd =>
    rintro B2 env' ow' e2 ⟨rfl, him, z5, rfl⟩
    rw [List.length_map, List.length_range]
    refine' rn_freeze (j := 4) (q := q) (l := lwk x y (way l a) (m + 1)) rfl ou_same fun B3 e3 => ?_
    refine rn_retS (ow0 := ow) (ve_var (d := .lst (lwk x y (way l a) (m + 1))) (i := 4) rfl rfl (by walk_at "vis")) (fun b o h => ?_) (kQ.ex (e1.trans (e2.trans e3)))
    have nq : b ≠ q := fun z => by rw [z, hq] at h; cases h
    rw [oz_ne nq, ou_ne nq]
    exact h
theorem rc_sum {K : PySem.W.Frag} {ow : Ow} {ns : List Int} : RC K ow (rSum K) [.lst (ns.map D.int)] (.int ns.sum) := .mk fun F H xs Q w r k => by
  cases r with
  | cons r1 r2 =>
    cases r2
    cases r1 with
    | lst h1 s1 => exact ⟨_, ns, rfl, by rw [← s1.intsV]; exact SqL.of (w.ex _ _ h1), k.here w (.int _)⟩
theorem fo_sum {X : Cx} {ow : Ow} {ns : List Int} (hc : X.calm = true) : BiOk X ow "sum" [.lst (ns.map D.int)] (.int ns.sum) := ⟨_, cr_sum hc, rc_sum⟩
theorem scLFour : FnScope ["orders", "word"] ["orders"] (defScope s__law_four) := ⟨rfl, rfl, rfl, by decide +kernel, rfl, by decide +kernel, by decide +kernel⟩
def RLFour (ds : List D) (d : D) : Prop := ∃ (l : List Od), ds = [.str (tx (rowC l))] ∧ Row l ∧ d = .int ((4 * stp l : Nat) : Int)
/-- the steps of a datum that is an order's text -/
def stT : D → Int
  | .str z => (z.cps.toList.headD 0 : Nat) - 48
  | _ => 0
def goT : D → Bool
  | .str z => !decide (z.cps.toList.headD 0 ∈ rbl.cps.toList)
  | _ => false
theorem goT_d {o : Od} (h : o.ok) : goT (.str (tx [oc o])) = o.isGo := by
  show (!decide ((tx [oc o]).cps.toList.headD 0 ∈ rbl.cps.toList)) = _
  rw [tx_cps]
  show (!decide (oc o ∈ rbl.cps.toList)) = _
  rw [isR_oc h, Bool.not_not]
theorem stT_d (n : Nat) : stT (.str (tx [oc (.g n)])) = (n : Int) := by
  show (((tx [oc (.g n)]).cps.toList.headD 0 : Nat) : Int) - 48 = _
  rw [tx_cps]
  show ((48 + n : Nat) : Int) - 48 = _
  omega
theorem stp_sum : ∀ {l : List Od}, (∀ o ∈ l, o.ok) → (((wsD l).filter goT).map stT).sum = (stp l : Int)
  | [], _ => rfl
  | .t k :: l, h => by
    have ih := stp_sum (l := l) fun o ho => h o (List.mem_cons_of_mem _ ho)
    have g : goT (.str (tx [oc (.t k)])) = false := goT_d (h (.t k) (List.mem_cons_self ..))
    show (((D.str (tx [oc (.t k)]) :: wsD l).filter goT).map stT).sum = _
    rw [List.filter_cons_of_neg (by rw [g]; exact Bool.false_ne_true), ih]
    rfl
  | .g n :: l, h => by
    have ih := stp_sum (l := l) fun o ho => h o (List.mem_cons_of_mem _ ho)
    have g : goT (.str (tx [oc (.g n)])) = true := goT_d (h (.g n) (List.mem_cons_self ..))
    show (((D.str (tx [oc (.g n)]) :: wsD l).filter goT).map stT).sum = _
    rw [List.filter_cons_of_pos g, List.map_cons, List.sum_cons, ih, stT_d]
    show _ = ((n + stp l : Nat) : Int)
    omega
theorem co_notInC {X : Cx} {ow : Ow} {b : Expr} {c : Nat} {z : Str} (hm : behindInMarks .NotIn b = false) : CmpOk X ow .NotIn b (.str (tx [c])) (.str z) (.bl (!decide (c ∈ z.cps.toList))) := ⟨_, op_notIn_sign, hm, .mk fun F H v u Q w r1 r2 k => by
  cases r1
  cases r2
  exact ⟨c, z, rfl, rfl, k.here w (.bl _)⟩⟩
theorem ok_lfour (Fn : Fun K "_law_four" "_law_four" s__law_four f fd) (N : Free mg) (mS : mg "sum" = none) : FnG γ P w K mg base CX0 1 f fd ["orders"] (spR K RLFour) := by
  refine okR Fn scLFour (fun ds d ⟨l, e, _⟩ => by rw [e]; rfl) fun cdv A outer s H B ow ds d Q E hgd hr hR kQ => ?_
  obtain ⟨l, rfl, rl, rfl⟩ := hR
  have len : (wsD l).length = l.length := by unfold wsD; rw [List.length_map]
  have le := rl.le
  refine rn_ret (ve_is (ve_bin ve_int (ve_bi (va_cons (ve_is (ve_lc (j := 1) goT (fun d => .int (stT d)) rfl scLFour.nd (vi_list (ve_words rl (ve_var (d := .str (tx (rowC l))) (i := 0) rfl rfl (by walk_at "vis")) ve_str)) (blkOk_by (N := ["orders", "word"]) (sc := defScope s__law_four) (by decide +kernel)) (by omega) (fun _ _ _ _ _ => pg_name scLFour.nd rfl (.inl rfl)) ?ht ?he) ?eq) va_nil) rfl mS boot_sum (fo_sum (ns := ((wsD l).filter goT).map stT) rfl)) (bo_mulL (by decide))) ?q) kQ
  case ht =>
    intro d ow' hd _ s0 H0 C0 cl fp
    obtain ⟨o, ho, rfl⟩ := List.mem_map.mp hd
    exact vts_one (vt_is (vt_comp (ve_var (d := .str (tx [oc o])) (i := 1) rfl rfl (by walk_at "vis")) ve_str (co_notInC rfl)) (by rw [goT_d (rl.ok o ho)]; show (!decide (oc o ∈ rbl.cps.toList)) = _; rw [isR_oc (rl.ok o ho), Bool.not_not]))
  case he =>
    intro d ow' hd hk _ s0 H0 C0 cl fp
    obtain ⟨o, ho, rfl⟩ := List.mem_map.mp hd
    rw [goT_d (rl.ok o ho)] at hk
    cases o with
    | t k => cases hk
    | g n =>
      obtain ⟨a1, a2⟩ := (rl.ok (.g n) ho : 1 ≤ n ∧ n ≤ 9)
      rw [stT_d]
      exact ve_ty (id := "int") (va_cons (ve_var (d := .str (tx [oc (.g n)])) (i := 1) rfl rfl (by walk_at "vis")) va_nil) rfl N.int boot_int (to_intS (int_digit a1 a2) (by rw [tx_len]; show 1 ≤ 640; decide))
  case eq =>
    rw [List.map_map]
    rfl
  case q =>
    rw [stp_sum rl.ok]
    show D.int _ = D.int _
    congr 1
theorem scLSome : FnScope ["orders", "begin", "side"] ["orders", "begin", "side"] (defScope s__law_some) := ⟨rfl, rfl, rfl, by decide +kernel, rfl, by decide +kernel, by decide +kernel⟩
def RLSome (ds : List D) (d : D) : Prop := ∃ (l : List Od) (x y : Int) (a : Nat), ds = [.str (tx (rowC l)), sq x y, wD a] ∧ Row l ∧ a < 4 ∧ d = .lst (lwk x y (way l a) (4 * stp l + 1))
theorem ok_lsome (Fn : Fun K "_law_some" "_law_some" s__law_some f fd) (D1 : Df γ P w K mg base 2 "_law_path" ["orders", "begin", "side", "many"] (spR K RLPath)) (D2 : Df γ P w K mg base 1 "_law_four" ["orders"] (spR K RLFour)) : FnG γ P w K mg base CX0 3 f fd ["orders", "begin", "side"] (spR K RLSome) := by
  refine okR Fn scLSome (fun ds d ⟨l, x, y, a, e, _⟩ => by rw [e]; rfl) fun cdv A outer s H B ow ds d Q E hgd hr hR kQ => ?_
  obtain ⟨l, x, y, a, rfl, rl, ha, rfl⟩ := hR
  have z := rl.stp
  exact rn_ret (ve_D D1 hgd hr rfl (va_cons (ve_var (d := .str (tx (rowC l))) (i := 0) rfl rfl (by walk_at "vis")) (va_cons (ve_var (d := sq x y) (i := 1) rfl rfl (by walk_at "vis")) (va_cons (ve_var (d := wD a) (i := 2) rfl rfl (by walk_at "vis")) (va_cons (ve_D D2 hgd (hr.mono (by decide)) rfl (va_cons (ve_var (d := .str (tx (rowC l))) (i := 0) rfl rfl (by walk_at "vis")) va_nil) ⟨l, rfl, rl, rfl⟩) va_nil)))) ⟨l, x, y, a, 4 * stp l, rfl, rl, ha, by omega, rfl⟩) kQ
end
end
section
open Wk TL
section
variable {γ : Gds} {P : Program} {w : World} {K : PySem.W.Frag} {mg : Str → Option Value} {base : Heap} {f C : Addr} {fd : FuncData}
theorem scLFar : FnScope ["some", "at", "runs", "rest", "x", "y"] ["some", "at"] (defScope s__law_far) := ⟨rfl, rfl, rfl, by decide +kernel, rfl, by decide +kernel, by decide +kernel⟩
def RLFar (ds : List D) (d : D) : Prop := ∃ (x y : Int) (g : Nat → Nat) (n t : Nat), ds = [.lst (lwk x y g (n + 1)), .int (t : Nat)] ∧ 0 < n ∧ n ≤ 1000 ∧ (∀ t, g (t + n) = g t) ∧ d = sq (x + px g t) (y + py g t)
theorem ok_lfar (Fn : Fun K "_law_far" "_law_far" s__law_far f fd) (N : Free mg) : FnG γ P w K mg base CX0 1 f fd ["some", "at"] (spR K RLFar) := by
  refine okR Fn scLFar (fun ds d ⟨x, y, g, n, t, e, _⟩ => by rw [e]; rfl) fun cdv A outer s H B ow ds d Q E hgd hr hR kQ => ?_
  obtain ⟨x, y, g, n, t, rfl, n0, n1, per, rfl⟩ := hR
  have sv : ∀ {env : List (Option D)} {pos : Pos}, env[0]? = some (some (.lst (lwk x y g (n + 1)))) → Ve (cxOf CX0 P w K mg base ["some", "at", "runs", "rest", "x", "y"] "_law_far" (defScope s__law_far) f cdv A outer s H E).nox (.Name "some" pos) env ow (.lst (lwk x y g (n + 1))) := fun h => ve_var h rfl (by walk_at "vis")
  refine' rn_two (d1 := .int ((t / n : Nat) : Int)) (d2 := .int ((t % n : Nat) : Int)) 2 3 rfl scLFar.nd rfl rfl (.inl rfl) (.inl rfl) ?s1 fun B1 e1 => ?_
  case s1 => exact ve_is (ve_bi (va_cons (ve_var (d := .int (t : Nat)) (i := 1) rfl rfl (by walk_at "vis")) (va_cons (ve_is (ve_bin (ve_bi (va_cons (sv rfl) va_nil) rfl N.len boot_len fo_lenL) ve_int bo_sub) (by rw [lwk_len]; congr 1; omega : _ = D.int (n : Nat))) va_nil)) rfl N.divmod boot_divmod (fo_divmod (by omega) (by omega))) rfl
  have lt : t % n < n + 1 := Nat.lt_succ_of_lt (Nat.mod_lt _ n0)
  refine' rn_two (d1 := .int (x + px g (t % n))) (d2 := .int (y + py g (t % n))) 4 5 rfl scLFar.nd rfl rfl (.inl rfl) (.inl rfl) ?s2 fun B2 e2 => ?_
  case s2 => exact ve_sub (sv rfl) (ve_var (d := .int ((t % n : Nat) : Int)) (i := 3) rfl rfl (by walk_at "vis")) (fun _ _ => rfl) (xo_lst (lwk_at lt))
  have last : L2.atI (lwk x y g (n + 1)) (-1) = some (sq (x + px g n) (y + py g n)) := by rw [lwk_succ]; exact L2.atI_last _ _
  have first : L2.atI (lwk x y g (n + 1)) 0 = some (sq (x + px g 0) (y + py g 0)) := lwk_at (Nat.succ_pos n)
  refine rn_ret (ve_is (ve_tup (va_cons (ve_bin (ve_var (d := .int (x + px g (t % n))) (i := 4) rfl rfl (by walk_at "vis")) (ve_bin (ve_var (d := .int ((t / n : Nat) : Int)) (i := 2) rfl rfl (by walk_at "vis")) (ve_bin (ve_sub (ve_sub (sv rfl) (ve_ng ve_int) (fun _ _ => rfl) (xo_lst last)) ve_int (fun _ _ => rfl) (xo_tup (d := .int (x + px g n)) rfl)) (ve_sub (ve_sub (sv rfl) ve_int (fun _ _ => rfl) (xo_lst first)) ve_int (fun _ _ => rfl) (xo_tup (d := .int (x + px g 0)) rfl)) bo_sub) (bo_mulR ?m1)) bo_add) (va_cons (ve_bin (ve_var (d := .int (y + py g (t % n))) (i := 5) rfl rfl (by walk_at "vis")) (ve_bin (ve_var (d := .int ((t / n : Nat) : Int)) (i := 2) rfl rfl (by walk_at "vis")) (ve_bin (ve_sub (ve_sub (sv rfl) (ve_ng ve_int) (fun _ _ => rfl) (xo_lst last)) ve_int (fun _ _ => rfl) (xo_tup (d := .int (y + py g n)) rfl)) (ve_sub (ve_sub (sv rfl) ve_int (fun _ _ => rfl) (xo_lst first)) ve_int (fun _ _ => rfl) (xo_tup (d := .int (y + py g 0)) rfl)) bo_sub) (bo_mulR ?m2)) bo_add) va_nil)) (by show 2 ≤ 100000; decide)) ?q) (kQ.ex (e1.trans e2))
  case m1 => have := px_le g n; show -(2 ^ 64) < (x + px g n) - (x + 0) ∧ (x + px g n) - (x + 0) < 2 ^ 64; omega
  case m2 => have := py_le g n; show -(2 ^ 64) < (y + py g n) - (y + 0) ∧ (y + py g n) - (y + 0) < 2 ^ 64; omega
  case q =>
    show sq _ _ = sq _ _
    have z1 := px_div per t
    have z2 := py_div per t
    have y1 : (x + px g n) - (x + px g 0) = px g n := by show (x + px g n) - (x + 0) = _; omega
    have y2 : (y + py g n) - (y + py g 0) = py g n := by show (y + py g n) - (y + 0) = _; omega
    rw [y1, y2, z1, z2, Int.add_assoc, Int.add_assoc]
end
end
section
open Wk TL
theorem scRt12 : FnScope ["cup", "turn", "orders", "begin", "side", "mine", "some", "sides_v", "size", "at", "again", "here", "side_here"] ["cup"] (defScope s__law_right) := ⟨rfl, rfl, rfl, by decide +kernel, rfl, by decide +kernel, by decide +kernel⟩
def gA {α : Type} (us its ws : List α) : List α := us
/-- what the law's turn asks of the text -/
structure Q12 (P : Program) (w : World) (K : PySem.W.Frag) (mg : Str → Option Value) (base : Heap) (C : Addr) : Prop where
  cl : Cls K C
  gl : mg "Walker" = some (.ref C)
  row : Df gd0 P w K mg base 2 "_law_row" ["cup", "most", "longest"] (spC K GLRow RLRow)
  start : Df gd0 P w K mg base 3 "_law_start" ["cup"] (spC K G00 RLStart)
  sip : Df gd0 P w K mg base 1 "_law_sip" ["cup", "many"] (spC K GSip RSip)
  pick : Df gd0 P w K mg base 2 "_law_pick" ["cup", "things"] (spC K GPick RPick)
  some_ : Df gd0 P w K mg base 3 "_law_some" ["orders", "begin", "side"] (spR K RLSome)
  steps : Df gd0 P w K mg base 1 "_law_steps" ["orders", "side", "many"] (spR K RLSteps)
  far : Df gd0 P w K mg base 1 "_law_far" ["some", "at"] (spR K RLFar)
  on : Df gd0 P w K mg base 1 "_law_on" ["spot", "side", "many"] (spR K RLOn)
  mk3 : ∃ f, Mk K C f ∧ InS gd0 P w K mg base 4 f [] (spI K C fun ds kd fl => ds.length = 3 ∧ RWIni ds fl)
  at_ : Mk1 gd0 P w K mg base C 5 "at" "time" (RAt C)
  goes : Mk1 gd0 P w K mg base C 4 "goes" "time" (RGoes C)
  fr : Free mg
  min : mg "min" = none
def RTr12 (_ : List D) (d : D) : Prop := d = .bl true
def wayL : List D := [wD 0, wD 1, wD 2, wD 3]
theorem wayL_in {d : D} (h : d ∈ wayL) : ∃ a, a < 4 ∧ d = wD a := by
  unfold wayL at h
  simp only [List.mem_cons, List.not_mem_nil, or_false] at h
  rcases h with rfl | rfl | rfl | rfl
  · exact ⟨0, by decide, rfl⟩
  · exact ⟨1, by decide, rfl⟩
  · exact ⟨2, by decide, rfl⟩
  · exact ⟨3, by decide, rfl⟩
def farT (n : Nat) : List D := [.int (n : Nat), .int 1000000, .int 1000000000000000000, .int (1000000000000000000000000000000 - 2 * (n : Int))]
theorem farT_in {n : Nat} (hn : n ≤ 1000) {d : D} (h : d ∈ farT n) : ∃ t : Nat, d = .int (t : Nat) ∧ (t : Int) ≤ GR - 2 * (n : Int) := by
  unfold farT at h
  simp only [List.mem_cons, List.not_mem_nil, or_false] at h
  rcases h with rfl | rfl | rfl | rfl
  · exact ⟨n, rfl, by unfold GR; omega⟩
  · exact ⟨1000000, rfl, by unfold GR; omega⟩
  · exact ⟨1000000000000000000, rfl, by unfold GR; omega⟩
  · exact ⟨(1000000000000000000000000000000 - 2 * (n : Int)).toNat, by congr 1; omega, by unfold GR; omega⟩
section
variable {P : Program} {w : World} {K : PySem.W.Frag} {mg : Str → Option Value} {base : Heap} {f C : Addr} {fd : FuncData}
theorem co_neSS {X : Cx} {ow : Ow} {b : Expr} {i : Str} : CmpOk X ow .NotEq b (.str i) (.str i) (.bl false) := co_to co_neS (by simp)
theorem ok_right12 (Fn : Fun K "_law_right" "_law_right" s__law_right f fd) (T : Q12 P w K mg base C) : FnG gd0 P w K mg base CX0 6 f fd ["cup"] (spC K G00 RTr12) := by
  refine okC Fn scRt12 (fun ds e => by rw [e]; rfl) fun cdv A0 outer s H B ow c ds Q E hgd hr9 hG hc kQ => ?_
  obtain rfl : ds = [] := hG
  have hr : ∀ k, k ≤ 5 → Room k (A0.deeper (envOfC "_law_right" (defScope s__law_right) s.heap.objs.size f cdv)) := fun k hk => hr9.mono hk
  have hu64 : A0.units + 3 + 64 < cLine := by
    have z : A0.units + 3 + 16 * 5 + 200 < cLine := hr9.un
    omega
  obtain ⟨fI, MkI, InI⟩ := T.mk3
  refine' rn_forRM (g := gName 1) (f := fun d env => env.set 1 (some d)) (P := fun d ow2 => d = .int 4 ∧ ow2 = ow)
    (fun n i env' ow' => n = 4 ∧ SameO c ow ow' ∧ CupO ow' c ∧ ∃ z1 z2 z3 z4 z5 z6 z7 z8 z9 z10 z11 z12 : Option D, env' = [some (.ob (.ref c)), z1, z2, z3, z4, z5, z6, z7, z8, z9, z10, z11, z12])
    PassesOwn.never rfl ?hgR T.fr.range ?hi ?hP ?hgt (fun ow d => gd_name 1) ?hs ?hd ?hst
  case hgR => rfl
  case hgt => exact pg_name (i := 1) scRt12.nd rfl (.inl rfl)
  case hst => rfl
  case hi => exact vm_of ve_int ⟨rfl, rfl⟩
  case hP =>
    rintro d ow2 ⟨rfl, rfl⟩
    exact ⟨4, rfl, by decide, rfl, .refl, hc, _, _, _, _, _, _, _, _, _, _, _, _, rfl⟩
  case hd =>
    rintro n B2 env' ow' e2 ⟨rfl, sub, c2, _⟩
    exact rn_retC (d := .bl true) ve_bl kQ e2 sub c2 rfl
  case hs =>
    rintro n B2 i env' ow' e2 hin ⟨rfl, sub, c2, z1, z2, z3, z4, z5, z6, z7, z8, z9, z10, z11, z12, rfl⟩
    refine' rn_par3M (i := 2) (j := 3) (l := 4) (P1 := fun d ow2 => SameO c ow' ow2 ∧ CupO ow2 c ∧ RLRow [] d) (P2 := fun d1 d2 ow2 => RLRow [] d1 ∧ SameO c ow' ow2 ∧ CupO ow2 c ∧ RLStart [] d2) (P3 := fun d1 d2 d3 ow2 => RLRow [] d1 ∧ RLStart [] d2 ∧ SameO c ow' ow2 ∧ CupO ow2 c ∧ ∃ a, a < 4 ∧ d3 = wD a) rfl scRt12.nd rfl rfl rfl (by decide) (by decide) (by decide) rfl rfl rfl ?a1 ?a2 ?a3 ?a4 ?a5
    case a5 => rfl
    case a1 => exact Vm.imp (vm_DC T.row hgd (hr 2 (by decide)) rfl (va_cons (ve_var (i := 0) rfl rfl (by walk_at "vis")) (va_cons ve_int (va_cons ve_int va_nil))) c2 ⟨8, 9, rfl, by decide, by decide, by decide, by decide⟩) fun d ow4 ⟨s4, c4, h4⟩ => ⟨s4, c4, h4⟩
    case a2 =>
      rintro d1 ow2 ⟨s2, c3, h1⟩
      exact Vm.imp (vm_DC T.start hgd (hr 3 (by decide)) rfl (va_cons (ve_var (i := 0) rfl rfl (by walk_at "vis")) va_nil) c3 rfl) fun d ow4 ⟨s4, c4, h4⟩ => ⟨h1, s2.trans s4, c4, h4⟩
    case a3 =>
      rintro d1 d2 ow2 ⟨h1, s2, c3, h2⟩
      refine Vm.imp (vm_DC T.pick hgd (hr 2 (by decide)) rfl (va_cons (ve_var (i := 0) rfl rfl (by walk_at "vis")) (va_cons (ve_is (ve_lst (va_cons ve_str (va_cons ve_str (va_cons ve_str (va_cons ve_str va_nil)))) (by show 4 ≤ 100000; decide)) (by rfl : _ = D.lst wayL)) va_nil)) c3 ⟨wayL, rfl, by decide, by decide⟩) ?_
      rintro d ow4 ⟨s4, c4, L, e, hd⟩
      cases e
      exact ⟨h1, h2, s2.trans s4, c4, wayL_in hd⟩
    case a4 =>
    rintro B3 d1 d2 d3 ow3 e3 ⟨⟨l, rfl, rl⟩, ⟨x, y, rfl, hx, hy⟩, s3, c3, a, ha, rfl⟩
    obtain ⟨p, hp, ple⟩ := rl.per ha
    have ok : WkOk l a p := ⟨rl, ha, hp⟩
    obtain ⟨n, hn⟩ : ∃ n, n = 4 * stp l := ⟨_, rfl⟩
    have n0 : 0 < n := by have := rl.pos; omega
    have n288 : n ≤ 288 := by have := rl.stp; omega
    have per : ∀ t, way l a (t + n) = way l a t := by rw [hn]; exact way_per rl.pos (fins_four l ha)
    refine' rn_set (i := 5) (d := .ins C (wkD l x y a p)) scRt12.nd rfl (.inl rfl) ?b1 fun B4 e4 => ?_
    case b1 => exact ve_mk MkI InI hgd (hr 5 (by decide)) rfl T.gl (va_cons (ve_var (d := .str (tx (rowC l))) (i := 2) rfl rfl (by walk_at "vis")) (va_cons (ve_var (d := sq x y) (i := 3) rfl rfl (by walk_at "vis")) (va_cons (ve_var (d := wD a) (i := 4) rfl rfl (by walk_at "vis")) va_nil))) vk_nil rfl (by show 3 ≤ 100000; decide) ⟨rfl, l, x, y, a, p, rfl, ok, hx, hy, rfl⟩
    refine' rn_set (i := 6) (d := .lst (lwk x y (way l a) (n + 1))) scRt12.nd rfl (.inl rfl) ?b2 fun B5 e5 => ?_
    case b2 => exact ve_D T.some_ hgd (hr 3 (by decide)) rfl (va_cons (ve_var (d := .str (tx (rowC l))) (i := 2) rfl rfl (by walk_at "vis")) (va_cons (ve_var (d := sq x y) (i := 3) rfl rfl (by walk_at "vis")) (va_cons (ve_var (d := wD a) (i := 4) rfl rfl (by walk_at "vis")) va_nil))) ⟨l, x, y, a, rfl, rl, ha, by rw [hn]⟩
    refine' rn_set (i := 7) (d := .lst ((List.range n).map fun t => wD (way l a t))) scRt12.nd rfl (.inl rfl) ?b3 fun B6 e6 => ?_
    case b3 => exact ve_D T.steps hgd (hr 1 (by decide)) rfl (va_cons (ve_var (d := .str (tx (rowC l))) (i := 2) rfl rfl (by walk_at "vis")) (va_cons (ve_var (d := wD a) (i := 4) rfl rfl (by walk_at "vis")) (va_cons (ve_is (ve_bin (ve_bi (va_cons (ve_var (d := .lst (lwk x y (way l a) (n + 1))) (i := 6) rfl rfl (by walk_at "vis")) va_nil) rfl T.fr.len boot_len fo_lenL) ve_int bo_sub) (by rw [lwk_len]; congr 1; omega : _ = D.int (n : Nat))) va_nil))) ⟨l, a, n, rfl, rl, ha, by omega, rfl⟩
    refine' rn_set (i := 8) (d := .int (n : Nat)) scRt12.nd rfl (.inl rfl) ?b4 fun B7 e7 => ?_
    case b4 => exact ve_is (ve_bi (va_cons (ve_var (d := .lst ((List.range n).map fun t => wD (way l a t))) (i := 7) rfl rfl (by walk_at "vis")) va_nil) rfl T.fr.len boot_len fo_lenL) (by rw [List.length_map, List.length_range])
    -- the first times, one by one
    obtain ⟨mm, hmm⟩ : ∃ mm : Nat, mm = if 40 < n then 40 else n := ⟨_, rfl⟩
    have mmn : mm ≤ n := by rw [hmm]; split <;> omega
    refine' rn_for (ds := rangeD 0 mm ++ [.int ((n : Int) - 1)]) (g := gName 9) (f := fun d env => env.set 9 (some d)) (fun i2 env2 ow2 => ow3 = ow2 ∧ ∃ y9 : Option D, env2 = [some (.ob (.ref c)), some (.int (i : Nat)), some (.str (tx (rowC l))), some (sq x y), some (wD a), some (.ins C (wkD l x y a p)), some (.lst (lwk x y (way l a) (n + 1))), some (.lst ((List.range n).map fun t => wD (way l a t))), some (.int (n : Nat)), y9, z10, z11, z12])
      PassesOwn.never rfl ?f1 (pg_name (i := 9) scRt12.nd rfl (.inl rfl)) (fun ow d _ => gd_name 9) ⟨rfl, z9, rfl⟩ ?f3 ?f4
    case f1 =>
      refine vi_list (ve_bin (ve_listR (n := mm) rfl rfl T.fr.list rfl T.fr.range (ve_is (ve_bi (va_cons (ve_var (d := .int (n : Nat)) (i := 8) rfl rfl (by walk_at "vis")) (va_cons ve_int va_nil)) rfl T.min boot_min (fo_min rfl)) ?q1) (by omega)) (ve_lst (va_cons (ve_bin (ve_var (d := .int (n : Nat)) (i := 8) rfl rfl (by walk_at "vis")) ve_int bo_sub) va_nil) (by show 1 ≤ 100000; decide)) (bo_cat (by rw [rangeD_len]; show mm + 1 ≤ 100000; omega)))
      case q1 =>
        congr 1
        rw [hmm]
        split <;> split <;> omega
    case f3 =>
      rintro B8 i2 d env2 ow2 e8 hd ⟨rfl, y9, rfl⟩
      obtain ⟨t, tn, rfl⟩ : ∃ t : Nat, t < n ∧ d = .int (t : Nat) := by
        rcases List.mem_append.mp (List.mem_of_getElem? hd) with h | h
        · obtain ⟨j, hj⟩ := List.getElem?_of_mem h
          obtain ⟨h1, h2⟩ := rangeD_get hj
          exact ⟨j, by omega, by rw [h2]; congr 1; omega⟩
        · rw [List.mem_singleton] at h
          exact ⟨n - 1, by omega, by rw [h]; congr 1; omega⟩
      have tg : (t : Int) ≤ GR := by unfold GR; omega
      refine' rn_if (t := false) ?t1 (fun z => nomatch z) fun _ B9 e9 => rn_go ?_
      case t1 =>
        refine vt_w (vw_or (t := false) (u := false) (vt_comp (ve_M1 T.cl T.at_ hgd (hr 5 (by decide)) (ve_var (d := .ins C (wkD l x y a p)) (i := 5) rfl rfl (by walk_at "vis")) rfl (va_cons (ve_var (d := .int (t : Nat)) (i := 9) rfl rfl (by walk_at "vis")) va_nil) ⟨l, x, y, a, p, t, rfl, ok, tg, rfl⟩) (ve_sub (ve_var (d := .lst (lwk x y (way l a) (n + 1))) (i := 6) rfl rfl (by walk_at "vis")) (ve_var (d := .int (t : Nat)) (i := 9) rfl rfl (by walk_at "vis")) (fun _ _ => rfl) (xo_lst (lwk_at (by omega)))) (co_neR hu64 rfl)) (fun _ => vw_or1 ?o2) (pw_all_or _ _))
        case o2 => exact vt_comp (ve_M1 T.cl T.goes hgd (hr 4 (by decide)) (ve_var (d := .ins C (wkD l x y a p)) (i := 5) rfl rfl (by walk_at "vis")) rfl (va_cons (ve_var (d := .int (t : Nat)) (i := 9) rfl rfl (by walk_at "vis")) va_nil) ⟨l, x, y, a, p, t, rfl, ok, tg, rfl⟩) (ve_sub (ve_var (d := .lst ((List.range n).map fun t => wD (way l a t))) (i := 7) rfl rfl (by walk_at "vis")) (ve_var (d := .int (t : Nat)) (i := 9) rfl rfl (by walk_at "vis")) (fun _ _ => rfl) (xo_lst (L2.atI_nat (by rw [List.getElem?_map, List.getElem?_range tn]; rfl)))) co_neSS
      exact rn_nextW ⟨rfl, _, rfl⟩ e9
    case f4 =>
    rintro B8 env2 ow2 e8 ⟨rfl, y9, rfl⟩
    -- times drawn
    refine' rn_forRM (g := gName 10) (f := fun d env => env.set 10 (some d)) (P := fun d ow2 => d = .int 6 ∧ ow2 = ow3)
      (fun n2 i2 env2 ow2 => n2 = 6 ∧ SameO c ow ow2 ∧ CupO ow2 c ∧ ∃ y9 y10 y11 y12 : Option D, env2 = [some (.ob (.ref c)), some (.int (i : Nat)), some (.str (tx (rowC l))), some (sq x y), some (wD a), some (.ins C (wkD l x y a p)), some (.lst (lwk x y (way l a) (n + 1))), some (.lst ((List.range n).map fun t => wD (way l a t))), some (.int (n : Nat)), y9, y10, y11, y12])
      PassesOwn.never rfl ?ggR T.fr.range ?gi ?gP ?ggt (fun ow d => gd_name 10) ?gs ?gd ?gst
    case ggR => rfl
    case ggt => exact pg_name (i := 10) scRt12.nd rfl (.inl rfl)
    case gst => rfl
    case gi => exact vm_of ve_int ⟨rfl, rfl⟩
    case gP =>
      rintro d ow2 ⟨rfl, rfl⟩
      exact ⟨6, rfl, by decide, rfl, sub.trans s3, c3, _, _, _, _, rfl⟩
    case gs =>
      rintro n2 B9 i2 env2 ow2 e9 hin2 ⟨rfl, s5, c5, y9, y10, y11, y12, rfl⟩
      refine' rn_setM (i := 9) (P := fun d ow6 => SameO c ow2 ow6 ∧ CupO ow6 c ∧ ∃ t : Nat, d = .int (t : Nat) ∧ (t : Int) < GR) scRt12.nd rfl (.inl rfl) ?h1 ?h2
      case h1 =>
        refine vm_op3 (P := fun d ow6 => SameO c ow2 ow6 ∧ CupO ow6 c ∧ ∃ t : Nat, d = .int (t : Nat) ∧ (t : Int) ≤ GR - 2 * (n : Int)) (P2 := fun d1 d2 ow6 => SameO c ow2 ow6 ∧ CupO ow6 c ∧ (∃ t : Nat, d1 = .int (t : Nat) ∧ (t : Int) ≤ GR - 2 * (n : Int)) ∧ ∃ r : Nat, d2 = .int (r : Nat) ∧ r < 2 * n) op_add ?k1 ?k2 ?k3
        case k1 =>
          refine Vm.imp (vm_DC T.pick hgd (hr 2 (by decide)) rfl (va_cons (ve_var (i := 0) rfl rfl (by walk_at "vis")) (va_cons (ve_is (ve_lst (va_cons (ve_var (d := .int (n : Nat)) (i := 8) rfl rfl (by walk_at "vis")) (va_cons (ve_bin ve_int ve_int (bo_pow (by decide) (by decide) (by decide))) (va_cons (ve_bin ve_int ve_int (bo_pow (by decide) (by decide) (by decide))) (va_cons (ve_bin (ve_bin ve_int ve_int (bo_pow (by decide) (by decide) (by decide))) (ve_bin ve_int (ve_var (d := .int (n : Nat)) (i := 8) rfl rfl (by walk_at "vis")) (bo_mulL (by decide))) bo_sub) va_nil)))) (by show 4 ≤ 100000; decide)) (by rfl : _ = D.lst (farT n))) va_nil)) c5 ⟨farT n, rfl, by show 0 < 4; decide, by show 4 < 1073741824; decide⟩) ?_
          rintro d ow6 ⟨s6, c6, L, e, hd⟩
          cases e
          exact ⟨s6, c6, farT_in (by omega) hd⟩
        case k2 =>
          rintro d1 ow6 ⟨s6, c6, h6⟩
          refine Vm.imp (vm_DC T.sip hgd (hr 1 (by decide)) rfl (va_cons (ve_var (i := 0) rfl rfl (by walk_at "vis")) (va_cons (ve_bin ve_int (ve_var (d := .int (n : Nat)) (i := 8) rfl rfl (by walk_at "vis")) (bo_mulL (by decide))) va_nil)) c6 ⟨_, rfl, by omega, by omega⟩) ?_
          rintro d ow7 ⟨s7, c7, m, r, e, rfl, r0, r1⟩
          cases e
          exact ⟨s6.trans s7, c7, h6, r.toNat, by congr 1; omega, by omega⟩
        case k3 =>
          rintro d1 d2 ow7 ⟨s7, c7, ⟨t, rfl, ht⟩, r, rfl, hr2⟩
          exact ⟨_, rd_add, s7, c7, t + r, by congr 1, by omega⟩
      case h2 =>
      rintro B10 d ow6 e10 ⟨s6, c6, t, rfl, tg⟩
      have tle : (t : Int) ≤ GR := by omega
      refine' rn_par (i := 11) (j := 12) (d1 := sq (x + px (way l a) t) (y + py (way l a) t)) (d2 := wD (way l a t)) rfl scRt12.nd rfl rfl (by decide) rfl rfl ?p1 ?p2 ?p3 ?p4 rfl rfl ⟨_, ps_par rfl scRt12.nd rfl rfl (by decide) rfl rfl pa_can rfl, rfl⟩
      case p4 => rfl
      case p1 => exact ve_M1K T.cl T.at_ hgd (hr 5 (by decide)) (ve_var (d := .ins C (wkD l x y a p)) (i := 5) rfl rfl (by walk_at "vis")) rfl (ve_var (d := .int (t : Nat)) (i := 9) rfl rfl (by walk_at "vis")) ⟨l, x, y, a, p, t, rfl, ok, tle, rfl⟩
      case p2 => exact ve_M1K T.cl T.goes hgd (hr 4 (by decide)) (ve_var (d := .ins C (wkD l x y a p)) (i := 5) rfl rfl (by walk_at "vis")) rfl (ve_var (d := .int (t : Nat)) (i := 9) rfl rfl (by walk_at "vis")) ⟨l, x, y, a, p, t, rfl, ok, tle, rfl⟩
      case p3 =>
      intro B11 e11
      refine' rn_if (t := false) ?t1 (fun z => nomatch z) fun _ B12 e12 => rn_go ?_
      case t1 =>
        refine vt_w (vw_or (t := false) (u := false) (vt_comp (ve_var (d := sq (x + px (way l a) t) (y + py (way l a) t)) (i := 11) rfl rfl (by walk_at "vis")) (ve_D T.far hgd (hr 1 (by decide)) rfl (va_cons (ve_var (d := .lst (lwk x y (way l a) (n + 1))) (i := 6) rfl rfl (by walk_at "vis")) (va_cons (ve_var (d := .int (t : Nat)) (i := 9) rfl rfl (by walk_at "vis")) va_nil)) ⟨x, y, _, n, t, rfl, n0, by omega, per, rfl⟩) (co_neR hu64 rfl)) (fun _ => vw_or1 ?o2) (pw_all_or _ _))
        case o2 =>
          have mlt : t % n < n := Nat.mod_lt _ n0
          refine vt_comp (ve_var (d := wD (way l a t)) (i := 12) rfl rfl (by walk_at "vis")) (ve_is (ve_sub (ve_var (d := .lst ((List.range n).map fun t => wD (way l a t))) (i := 7) rfl rfl (by walk_at "vis")) (ve_is (ve_bin (ve_ty (id := "int") (va_cons (ve_var (d := .int (t : Nat)) (i := 9) rfl rfl (by walk_at "vis")) va_nil) rfl T.fr.int boot_int to_int) (ve_var (d := .int (n : Nat)) (i := 8) rfl rfl (by walk_at "vis")) (bo_mod (by omega))) (d1 := .int ((t % n : Nat) : Int)) rfl) (fun _ _ => rfl) (xo_lst (L2.atI_nat (by rw [List.getElem?_map, List.getElem?_range mlt]; rfl)))) ?ww) co_neSS
          rw [per_mod per t]
      refine' rn_if (t := false) ?t2 (fun z => nomatch z) fun _ B13 e13 => rn_go ?_
      case t2 =>
        refine vt_is (vt_w (vw_and (t := true) (u := false) (vt_is (vt_comp (ve_var (d := .int (t : Nat)) (i := 9) rfl rfl (by walk_at "vis")) (ve_is (ve_bin ve_int ve_int (bo_pow (by decide) (by decide) (by decide))) (by rfl : _ = D.int GR)) co_lt) (decide_eq_true tg)) (fun _ => vw_and1 ?o3) (pw_all_and _ _))) rfl
        case o3 =>
          refine vt_comp (ve_M1 T.cl T.at_ hgd (hr 5 (by decide)) (ve_var (d := .ins C (wkD l x y a p)) (i := 5) rfl rfl (by walk_at "vis")) rfl (va_cons (ve_is (ve_bin (ve_var (d := .int (t : Nat)) (i := 9) rfl rfl (by walk_at "vis")) ve_int bo_add) (by rfl : _ = D.int ((t + 1 : Nat) : Int))) va_nil) ⟨l, x, y, a, p, t + 1, rfl, ok, by omega, rfl⟩) (ve_is (ve_D T.on hgd (hr 1 (by decide)) rfl (va_cons (ve_var (d := sq (x + px (way l a) t) (y + py (way l a) t)) (i := 11) rfl rfl (by walk_at "vis")) (va_cons (ve_var (d := wD (way l a t)) (i := 12) rfl rfl (by walk_at "vis")) (va_cons ve_int va_nil))) ⟨_, _, _, rfl, ok.lt t, rfl⟩) ?w3) (co_neR hu64 rfl)
          show sq _ _ = sq _ _
          rw [show px (way l a) (t + 1) = px (way l a) t + mx (way l a t) from rfl, show py (way l a) (t + 1) = py (way l a) t + my (way l a t) from rfl, Int.add_assoc, Int.add_assoc]
      exact rn_nextW ⟨rfl, s5.trans s6, c6, _, _, _, _, rfl⟩ (e10.trans (e11.trans (e12.trans e13)))
    case gd =>
      rintro n2 B9 env2 ow2 e9 ⟨rfl, s5, c5, y9, y10, y11, y12, rfl⟩
      refine' rn_if (t := false) ?t1 (fun z => nomatch z) fun _ B12 e12 => rn_go ?_
      case t1 =>
        refine vt_w (vw_or (t := false) (u := false) (vt_comp (ve_is (ve_M1 T.cl T.at_ hgd (hr 5 (by decide)) (ve_var (d := .ins C (wkD l x y a p)) (i := 5) rfl rfl (by walk_at "vis")) rfl (va_cons ve_int va_nil) ⟨l, x, y, a, p, 0, rfl, ok, by decide, rfl⟩) (by show sq (x + 0) (y + 0) = sq x y; rw [Int.add_zero, Int.add_zero])) (ve_var (d := sq x y) (i := 3) rfl rfl (by walk_at "vis")) (co_neR hu64 rfl)) (fun _ => vw_or1 ?o2) (pw_all_or _ _))
        case o2 =>
          obtain ⟨G, hG⟩ : ∃ G : Nat, (G : Int) = GR := ⟨1000000000000000000000000000000, by decide +kernel⟩
          have pv : ∀ {pos pos1 pos2 : Pos} {j1 j2 : Nat} {env : List (Option D)}, Ve (cxOf CX0 P w K mg base ["cup", "turn", "orders", "begin", "side", "mine", "some", "sides_v", "size", "at", "again", "here", "side_here"] "_law_right" (defScope s__law_right) f cdv A0 outer s H E).nox (.BinOp (.Constant (.int 10) j1 pos1) .Pow (.Constant (.int 30) j2 pos2) pos) env ow2 (.int (G : Nat)) := by
            intro pos pos1 pos2 j1 j2 env
            rw [hG]
            exact ve_is (ve_bin ve_int ve_int (bo_pow (by decide) (by decide) (by decide))) (by rfl : _ = D.int GR)
          exact vt_comp (ve_M1 T.cl T.at_ hgd (hr 5 (by decide)) (ve_var (d := .ins C (wkD l x y a p)) (i := 5) rfl rfl (by walk_at "vis")) rfl (va_cons pv va_nil) ⟨l, x, y, a, p, G, rfl, ok, by omega, rfl⟩) (ve_D T.far hgd (hr 1 (by decide)) rfl (va_cons (ve_var (d := .lst (lwk x y (way l a) (n + 1))) (i := 6) rfl rfl (by walk_at "vis")) (va_cons pv va_nil)) ⟨x, y, _, n, G, rfl, n0, by omega, per, rfl⟩) (co_neR hu64 rfl)
      exact rn_nextW ⟨rfl, s5, c5, _, _, _, _, _, _, _, _, _, _, _, _, rfl⟩ (e3.trans (e4.trans (e5.trans (e6.trans (e7.trans (e8.trans (e9.trans e12)))))))
end
end
section
open Wk TL
theorem scL12 : FnScope ["script", "ring", "comb", "seen", "spot"] ["script"] (defScope s_law) := ⟨rfl, rfl, rfl, by decide +kernel, rfl, by decide +kernel, by decide +kernel⟩
/-- the forms with one argument, and with one and way= -/
def gB {α : Type} (us its ws : List α) : List α := us ++ its
def gC {α : Type} (us its ws : List α) : List α := us ++ (its.take 1 ++ ws)
def dflD : List D := [sq 0 0, wD 0]
def lA : List Od := [.g 2, .t 1]
def lB : List Od := [.g 4, .t 3, .g 2, .t 3, .g 2, .t 3, .g 2, .t 3]
def lC : List Od := [.g 1, .t 1, .g 1, .t 3]
def lD : List Od := [.t 2, .g 1, .t 3, .g 9]
def okB : Od → Bool
  | .t k => decide (1 ≤ k) && decide (k ≤ 3)
  | .g n => decide (1 ≤ n) && decide (n ≤ 9)
theorem okB_ok {o : Od} (h : okB o = true) : o.ok := by
  cases o with
  | t k => simpa [okB, Od.ok] using h
  | g n => simpa [okB, Od.ok] using h
theorem row_of {l : List Od} (h : l.all okB = true) (g : l.any Od.isGo = true) (n : l.length ≤ 8) : Row l := ⟨fun o ho => okB_ok (List.all_eq_true.mp h o ho), g, n⟩
theorem rA : Row lA := row_of (by decide) (by decide) (by decide)
theorem rB : Row lB := row_of (by decide) (by decide) (by decide)
theorem rC : Row lC := row_of (by decide) (by decide) (by decide)
theorem rD : Row lD := row_of (by decide) (by decide) (by decide)
theorem px_far {l : List Od} {a t n r q : Nat} (rl : Row l) (ha : a < 4) (hn : 4 * stp l = n) (hr : t % n = r) (hq : t / n = q) : px (way l a) t = px (way l a) r + (q : Int) * px (way l a) n := by
  have h := px_div (f := way l a) (p := n) (by rw [← hn]; exact way_per rl.pos (fins_four l ha)) t
  rw [hr, hq] at h
  exact h
theorem py_far {l : List Od} {a t n r q : Nat} (rl : Row l) (ha : a < 4) (hn : 4 * stp l = n) (hr : t % n = r) (hq : t / n = q) : py (way l a) t = py (way l a) r + (q : Int) * py (way l a) n := by
  have h := py_div (f := way l a) (p := n) (by rw [← hn]; exact way_per rl.pos (fins_four l ha)) t
  rw [hr, hq] at h
  exact h
def GN : Nat := 1000000000000000000000000000000
theorem atA : (sq (0 + px (way lA 0) GN) (0 + py (way lA 0) GN) : D) = sq 0 0 := by
  rw [px_far rA (by decide) (n := 8) (r := 0) (q := 125000000000000000000000000000) (by decide) (by decide +kernel) (by decide +kernel), py_far rA (by decide) (n := 8) (r := 0) (q := 125000000000000000000000000000) (by decide) (by decide +kernel) (by decide +kernel), show px (way lA 0) 8 = 0 by decide +kernel, show py (way lA 0) 8 = 0 by decide +kernel]
  rfl
theorem atB : (sq (0 + px (way lB 1) 25) (0 + py (way lB 1) 25) : D) = sq 8 1 := by
  rw [show px (way lB 1) 25 = 8 by decide +kernel, show py (way lB 1) 25 = 1 by decide +kernel]
  rfl
theorem atC : (sq (0 + px (way lC 0) GN) (0 + py (way lC 0) GN) : D) = sq 500000000000000000000000000000 500000000000000000000000000000 := by
  rw [px_far rC (by decide) (n := 8) (r := 0) (q := 125000000000000000000000000000) (by decide) (by decide +kernel) (by decide +kernel), py_far rC (by decide) (n := 8) (r := 0) (q := 125000000000000000000000000000) (by decide) (by decide +kernel) (by decide +kernel), show px (way lC 0) 8 = 4 by decide +kernel, show py (way lC 0) 8 = 4 by decide +kernel]
  rfl
theorem goA : wD (way lA 0 3) = wD 1 := by rw [show way lA 0 3 = 1 by decide +kernel]
theorem goD : wD (way lD 0 0) = wD 2 := by rw [show way lD 0 0 = 2 by decide +kernel]
section
variable {P : Program} {w : World} {K : PySem.W.Frag} {mg : Str → Option Value} {base : Heap}
theorem ok_law12 {f C : Addr} {fd : FuncData} (Fn : Fun K "law" "law" s_law f fd) (FU : ∃ fU fdU, FnG gd0 P w K mg base CX0 1 fU fdU ["script", "spot"] (spCup K) ∧ mg "_law_cup" = some (.ref fU) ∧ PySem.W.keepIn K (.ref fU) = true ∧ Binds K fdU ["script", "spot"] [])
    (FR : ∃ fR fdR, FnG gd0 P w K mg base CX0 6 fR fdR ["cup"] (spC K G00 RTr12) ∧ mg "_law_right" = some (.ref fR) ∧ PySem.W.keepIn K (.ref fR) = true ∧ Binds K fdR ["cup"] [])
    (T : Q12 P w K mg base C) (mk : ∃ f, Mk K C f ∧ InS gd0 P w K mg base 4 f [] (spI K C fun ds kd fl => ds.length = 1 ∧ RWIni (gB ds dflD kd) fl) ∧ InS gd0 P w K mg base 4 f ["way"] (spI K C fun ds kd fl => ds.length = 1 ∧ RWIni (gC ds dflD kd) fl))
    (mMx : mg "max" = none) : FnG gd0 P w K mg base CX0 7 f fd ["script"] (spLaw K) := by
  refine okG Fn scL12 (fun vs H Q E ⟨F, a, ns, e, _⟩ => by rw [e]; rfl) fun cdv A0 outer s H vs Q E hgd hr10 ⟨F, a, ns, e, wo, hS, hn, kQ⟩ => ?_
  subst e
  refine ⟨F, fun _ => none, [.rol (ns.map D.int)], wo, .cons (.rol hS (Rps.ints ns)) .nil, ?_⟩
  have hr : ∀ k, k ≤ 6 → Room k (A0.deeper (envOfC "law" (defScope s_law) s.heap.objs.size f cdv)) := fun k hk => hr10.mono hk
  have hu64 : A0.units + 3 + 64 < cLine := by
    have z : A0.units + 3 + 16 * 6 + 200 < cLine := hr10.un
    omega
  obtain ⟨fU, fdU, FU, mU, kU, bU⟩ := FU
  obtain ⟨fR, fdR, FR, mR, kR, bR⟩ := FR
  obtain ⟨g, mk0, iB, iC⟩ := mk
  obtain ⟨pA, hpA, _⟩ := rA.per (w := 0) (by decide)
  obtain ⟨pB, hpB, _⟩ := rB.per (w := 1) (by decide)
  obtain ⟨pC, hpC, _⟩ := rC.per (w := 0) (by decide)
  obtain ⟨pD, hpD, _⟩ := rD.per (w := 0) (by decide)
  have oA : WkOk lA 0 pA := ⟨rA, by decide, hpA⟩
  have oB : WkOk lB 1 pB := ⟨rB, by decide, hpB⟩
  have oC : WkOk lC 0 pC := ⟨rC, by decide, hpC⟩
  have oD : WkOk lD 0 pD := ⟨rD, by decide, hpD⟩
  have eA : D.str ("2 R" : Str) = .str (tx (rowC lA)) := congrArg D.str (by decide +kernel)
  have eB : D.str ("4 L 2 L 2 L 2 L" : Str) = .str (tx (rowC lB)) := congrArg D.str (by decide +kernel)
  have eC : D.str ("1 R 1 L" : Str) = .str (tx (rowC lC)) := congrArg D.str (by decide +kernel)
  have eD : D.str ("B 1 L 9" : Str) = .str (tx (rowC lD)) := congrArg D.str (by decide +kernel)
  refine' rn_par (i := 1) (j := 2) (d1 := .ins C (wkD lA 0 0 0 pA)) (d2 := .ins C (wkD lB 0 0 1 pB)) rfl scL12.nd rfl rfl (by decide) rfl rfl ?p1 ?p2 ?p3 ?p4 rfl rfl ⟨_, ps_par rfl scL12.nd rfl rfl (by decide) rfl rfl pa_can rfl, rfl⟩
  case p4 => rfl
  case p1 => exact ve_mk mk0 iB hgd (hr 5 (by decide)) rfl T.gl (va_cons (ve_is ve_str eA) va_nil) vk_nil rfl (by show 1 ≤ 100000; decide) ⟨rfl, lA, 0, 0, 0, pA, rfl, oA, by decide, by decide, rfl⟩
  case p2 => exact ve_mk mk0 iC hgd (hr 5 (by decide)) rfl T.gl (va_cons (ve_is ve_str eB) va_nil) (vk_cons ve_str vk_nil) rfl (by show 1 ≤ 100000; decide) ⟨rfl, lB, 0, 0, 1, pB, rfl, oB, by decide, by decide, rfl⟩
  case p3 =>
  intro B1 e1
  have pv : ∀ {pos pos1 pos2 : Pos} {j1 j2 : Nat} {env : List (Option D)} {ow : Ow}, Ve (cxOf CX0 P w K mg base ["script", "ring", "comb", "seen", "spot"] "law" (defScope s_law) f cdv A0 outer s H E).nox (.BinOp (.Constant (.int 10) j1 pos1) .Pow (.Constant (.int 30) j2 pos2) pos) env ow (.int (GN : Nat)) := by
    intro pos pos1 pos2 j1 j2 env ow
    exact ve_is (ve_bin ve_int ve_int (bo_pow (by decide) (by decide) (by decide))) (by rfl : _ = D.int (GN : Nat))
  have gle : (GN : Int) ≤ GR := by decide +kernel
  refine' rn_set (i := 3) (d := .lst [sq 0 0, wD 1, sq 8 1, sq 500000000000000000000000000000 500000000000000000000000000000, wD 2]) scL12.nd rfl (.inl rfl) ?s1 ?s2
  case s1 =>
    refine ve_lst (va_cons (ve_is (ve_M1 T.cl T.at_ hgd (hr 5 (by decide)) (ve_var (d := .ins C (wkD lA 0 0 0 pA)) (i := 1) rfl rfl (by walk_at "vis")) rfl (va_cons pv va_nil) ⟨lA, 0, 0, 0, pA, GN, rfl, oA, gle, rfl⟩) atA) (va_cons (ve_is (ve_M1 T.cl T.goes hgd (hr 4 (by decide)) (ve_var (d := .ins C (wkD lA 0 0 0 pA)) (i := 1) rfl rfl (by walk_at "vis")) rfl (va_cons ve_int va_nil) ⟨lA, 0, 0, 0, pA, 3, rfl, oA, by decide, rfl⟩) goA) (va_cons (ve_is (ve_M1 T.cl T.at_ hgd (hr 5 (by decide)) (ve_var (d := .ins C (wkD lB 0 0 1 pB)) (i := 2) rfl rfl (by walk_at "vis")) rfl (va_cons ve_int va_nil) ⟨lB, 0, 0, 1, pB, 25, rfl, oB, by decide, rfl⟩) atB) (va_cons (ve_is (ve_M1 T.cl T.at_ hgd (hr 5 (by decide)) (ve_mk mk0 iB hgd (hr 5 (by decide)) rfl T.gl (va_cons (ve_is ve_str eC) va_nil) vk_nil rfl (by show 1 ≤ 100000; decide) ⟨rfl, lC, 0, 0, 0, pC, rfl, oC, by decide, by decide, rfl⟩) rfl (va_cons pv va_nil) ⟨lC, 0, 0, 0, pC, GN, rfl, oC, gle, rfl⟩) atC) (va_cons (ve_is (ve_M1 T.cl T.goes hgd (hr 4 (by decide)) (ve_mk mk0 iB hgd (hr 5 (by decide)) rfl T.gl (va_cons (ve_is ve_str eD) va_nil) vk_nil rfl (by show 1 ≤ 100000; decide) ⟨rfl, lD, 0, 0, 0, pD, rfl, oD, by decide, by decide, rfl⟩) rfl (va_cons ve_int va_nil) ⟨lD, 0, 0, 0, pD, 0, rfl, oD, by decide, rfl⟩) goD) va_nil))))) (by show 5 ≤ 100000; decide)
  case s2 =>
  intro B2 e2
  refine' rn_if (t := false) ?t1 (fun z => nomatch z) ?t2
  case t1 =>
    refine vt_comp (ve_var (d := .lst [sq 0 0, wD 1, sq 8 1, sq 500000000000000000000000000000 500000000000000000000000000000, wD 2]) (i := 3) rfl rfl (by walk_at "vis")) (ve_is (ve_lst (va_cons (ve_tup (va_cons ve_int (va_cons ve_int va_nil)) (by show 2 ≤ 100000; decide)) (va_cons ve_str (va_cons (ve_tup (va_cons ve_int (va_cons ve_int va_nil)) (by show 2 ≤ 100000; decide)) (va_cons (ve_tup (va_cons (ve_bin ve_int (ve_bin ve_int ve_int (bo_pow (by decide) (by decide) (by decide))) (bo_mulL (by decide))) (va_cons (ve_bin ve_int (ve_bin ve_int ve_int (bo_pow (by decide) (by decide) (by decide))) (bo_mulL (by decide))) va_nil)) (by show 2 ≤ 100000; decide)) (va_cons ve_str va_nil))))) (by show 5 ≤ 100000; decide)) ?q1) (co_neR hu64 (by decide +kernel))
    rfl
  case t2 =>
  intro _ B6 e6
  refine rn_go ?_
  have hlen : ((ns.map D.int).length : Int) = ns.length := by rw [List.length_map]
  obtain ⟨M0, hM0⟩ : ∃ M0 : Int, M0 = if (6 : Int) < (((ns.map D.int).length : Nat) : Int) then (6 : Int) else (((ns.map D.int).length : Nat) : Int) := ⟨_, rfl⟩
  obtain ⟨M, hM⟩ : ∃ M : Int, M = if M0 > 2 then M0 else 2 := ⟨_, rfl⟩
  have hM1 : 2 ≤ M ∧ M ≤ 6 := by
    rw [hlen] at hM0
    split at hM0 <;> split at hM <;> omega
  refine' rn_ret (d := .bl true) ?h (fun F2 H2 v x2 w2 r2 => by cases r2; exact kQ H2)
  case h =>
    refine' ve_is (ve_bi (va_cons ?ha va_nil) rfl T.fr.all boot_all (fo_all (bs := List.replicate M.toNat true) rfl)) ?hq
    case ha =>
      refine' ve_lcZ (j := 4) (ds := rangeD 0 M.toNat) ((List.replicate M.toNat true).map D.bl) ?ul rfl scL12.nd ?ui (blkOk_by (N := ["script", "ring", "comb", "seen", "spot"]) (sc := defScope s_law) (by decide +kernel)) ?um ?ug ?ue
      case ul => rw [List.length_map, List.length_replicate, rangeD_len]
      case ui =>
        refine' vi_range1 rfl T.fr.range ?va (by omega)
        case va =>
          rw [hM]
          refine' ve_bi (va_cons ve_int (va_cons ?vb va_nil)) rfl mMx boot_max (fo_max rfl)
          case vb =>
            rw [hM0]
            refine' ve_bi (va_cons ?vc (va_cons ve_int va_nil)) rfl T.min boot_min (fo_min rfl)
            case vc => exact ve_bi (va_cons (ve_var (i := 0) rfl rfl (by walk_at "vis")) va_nil) rfl T.fr.len boot_len fo_lenR
      case um => rw [rangeD_len]; omega
      case ug => exact fun _ _ _ _ _ => pg_name scL12.nd rfl (.inl rfl)
      case ue =>
        intro n d r ow' hd hr' sub s0 H0 C0 cl fp
        obtain ⟨hn8, rfl⟩ := rangeD_get hd
        have e0 : (0 : Int) + ((n : Nat) : Int) = (n : Int) := by omega
        rw [e0]
        obtain rfl : r = .bl true := by
          rw [List.getElem?_map] at hr'
          have y : (List.replicate M.toNat true)[n]? = some true := by simp [hn8]
          rw [y] at hr'
          exact (Option.some.inj hr').symm
        exact ve_right FR FU hgd (hr 1 (by decide)) (hr 6 (by decide)) rfl rfl mU mR kU kR bU bR (ve_var (i := 0) rfl rfl (by walk_at "vis")) (ve_var (i := 4) rfl rfl (by walk_at "vis")) rfl (fun d' h => h)
    case hq => simp
end
end
section
open Wk TL
theorem all_mk12 {P : Program} {w : World} {K : PySem.W.Frag} {h : Heap} {mg : Str → Option Value} {fa C T0 Z0 fi qT qM u0 u1 u2 u3 fI fW fPa fSq fTi fOd fRo fWy fTu fOn fGo fOf fLa fSi fLt fFs fSa fLU fLS fLP fLr fLb fLw fLo fLp fLf fLm fLz fLR fLL pa qa pb qb pc qc xi xj : Addr} {odI anI odW anW odPa anPa odSq anSq odTi anTi odOd anOd odRo anRo odWy anWy odTu anTu odOn anOn odGo anGo odOf anOf odLa anLa odSi anSi odLt anLt odFs anFs odSa anSa odLU anLU odLS anLS odLP anLP odLr anLr odLb anLb odLw anLw odLo anLo odLp anLp odLf anLf odLm anLm odLz anLz odLR anLR odLL anLL odi0 ani0 odT0 odZ0 odpa anpa odpb anpb odpc anpc odmi anmi odmj anmj odu0 odu1 odu2 odu3 : Option Addr} {slI slW slPa slSq slTi slOd slRo slWy slTu slOn slGo slOf slLa slSi slLt slFs slSa slLU slLS slLP slLr slLb slLw slLo slLp slLf slLm slLz slLR slLL sli0 slT0 slZ0 slpa slpb slpc slmi slmj slu0 slu1 slu2 slu3 : Array (Option Value)} {kVI ocI dcI pmI cdI ctI kVW ocW dcW pmW cdW ctW kVPa ocPa dcPa pmPa cdPa ctPa kVSq ocSq dcSq pmSq cdSq ctSq kVTi ocTi dcTi pmTi cdTi ctTi kVOd ocOd dcOd pmOd cdOd ctOd kVRo ocRo dcRo pmRo cdRo ctRo kVWy ocWy dcWy pmWy cdWy ctWy kVTu ocTu dcTu pmTu cdTu ctTu kVOn ocOn dcOn pmOn cdOn ctOn kVGo ocGo dcGo pmGo cdGo ctGo kVOf ocOf dcOf pmOf cdOf ctOf kVLa ocLa dcLa pmLa cdLa ctLa kVSi ocSi dcSi pmSi cdSi ctSi kVLt ocLt dcLt pmLt cdLt ctLt kVFs ocFs dcFs pmFs cdFs ctFs kVSa ocSa dcSa pmSa cdSa ctSa kVLU ocLU dcLU pmLU cdLU ctLU kVLS ocLS dcLS pmLS cdLS ctLS kVLP ocLP dcLP pmLP cdLP ctLP kVLr ocLr dcLr pmLr cdLr ctLr kVLb ocLb dcLb pmLb cdLb ctLb kVLw ocLw dcLw pmLw cdLw ctLw kVLo ocLo dcLo pmLo cdLo ctLo kVLp ocLp dcLp pmLp cdLp ctLp kVLf ocLf dcLf pmLf cdLf ctLf kVLm ocLm dcLm pmLm cdLm ctLm kVLz ocLz dcLz pmLz cdLz ctLz kVLR ocLR dcLR pmLR cdLR ctLR kVLL ocLL dcLL pmLL cdLL ctLL kVi0 oci0 dci0 pmi0 cdi0 cti0 kVpa ocpa dcpa pmpa cdpa ctpa kVpb ocpb dcpb pmpb cdpb ctpb kVpc ocpc dcpc pmpc cdpc ctpc kVmi ocmi dcmi pmmi cdmi ctmi kVmj ocmj dcmj pmmj cdmj ctmj : Value} {rea reb rec : List Value} {esT esM : Array DictEntry} {tN tz1 tz2 tt1 tt2 tt3 tW t1_ t2_ t3_ tx0 ty0 tx1 ty1 tx2 ty2 tx3 ty3 : Tok} {nT0 nZ0 nT nM nu0 nu1 nu2 nu3 : Nat} (X : K.In h) (G : h.Ns mainGlobals mg) (hfa : mg "law" = some (.ref fa))
    (aI : PySem.W.nsIn K mainGlobals "is_integer" = some (some (.ref fI)))
    (lI : K.lookup fI = some ⟨ocI, odI, .func (PySem.W.fnOf "is_integer" "is_integer" (defArgs s_is_integer) (defBody s_is_integer) (defScope s_is_integer) .none kVI dcI pmI anI cdI ctI), slI⟩)
    (cI : PySem.W.codeIn K cdI "is_integer" = true)
    (kI : PySem.W.keepIn K (.ref fI) = true)
    (aW : PySem.W.nsIn K mainGlobals "is_within" = some (some (.ref fW)))
    (lW : K.lookup fW = some ⟨ocW, odW, .func (PySem.W.fnOf "is_within" "is_within" (defArgs s_is_within) (defBody s_is_within) (defScope s_is_within) .none kVW dcW pmW anW cdW ctW), slW⟩)
    (cW : PySem.W.codeIn K cdW "is_within" = true)
    (kW : PySem.W.keepIn K (.ref fW) = true)
    (aPa : PySem.W.nsIn K mainGlobals "is_pair" = some (some (.ref fPa)))
    (lPa : K.lookup fPa = some ⟨ocPa, odPa, .func (PySem.W.fnOf "is_pair" "is_pair" (defArgs s_is_pair) (defBody s_is_pair) (defScope s_is_pair) .none kVPa dcPa pmPa anPa cdPa ctPa), slPa⟩)
    (cPa : PySem.W.codeIn K cdPa "is_pair" = true)
    (kPa : PySem.W.keepIn K (.ref fPa) = true)
    (aSq : PySem.W.nsIn K mainGlobals "is_square" = some (some (.ref fSq)))
    (lSq : K.lookup fSq = some ⟨ocSq, odSq, .func (PySem.W.fnOf "is_square" "is_square" (defArgs s_is_square) (defBody s_is_square) (defScope s_is_square) .none kVSq dcSq pmSq anSq cdSq ctSq), slSq⟩)
    (cSq : PySem.W.codeIn K cdSq "is_square" = true)
    (kSq : PySem.W.keepIn K (.ref fSq) = true)
    (aTi : PySem.W.nsIn K mainGlobals "is_time" = some (some (.ref fTi)))
    (lTi : K.lookup fTi = some ⟨ocTi, odTi, .func (PySem.W.fnOf "is_time" "is_time" (defArgs s_is_time) (defBody s_is_time) (defScope s_is_time) .none kVTi dcTi pmTi anTi cdTi ctTi), slTi⟩)
    (cTi : PySem.W.codeIn K cdTi "is_time" = true)
    (kTi : PySem.W.keepIn K (.ref fTi) = true)
    (aOd : PySem.W.nsIn K mainGlobals "is_order" = some (some (.ref fOd)))
    (lOd : K.lookup fOd = some ⟨ocOd, odOd, .func (PySem.W.fnOf "is_order" "is_order" (defArgs s_is_order) (defBody s_is_order) (defScope s_is_order) .none kVOd dcOd pmOd anOd cdOd ctOd), slOd⟩)
    (cOd : PySem.W.codeIn K cdOd "is_order" = true)
    (kOd : PySem.W.keepIn K (.ref fOd) = true)
    (aRo : PySem.W.nsIn K mainGlobals "is_row" = some (some (.ref fRo)))
    (lRo : K.lookup fRo = some ⟨ocRo, odRo, .func (PySem.W.fnOf "is_row" "is_row" (defArgs s_is_row) (defBody s_is_row) (defScope s_is_row) .none kVRo dcRo pmRo anRo cdRo ctRo), slRo⟩)
    (cRo : PySem.W.codeIn K cdRo "is_row" = true)
    (kRo : PySem.W.keepIn K (.ref fRo) = true)
    (aWy : PySem.W.nsIn K mainGlobals "is_way" = some (some (.ref fWy)))
    (lWy : K.lookup fWy = some ⟨ocWy, odWy, .func (PySem.W.fnOf "is_way" "is_way" (defArgs s_is_way) (defBody s_is_way) (defScope s_is_way) .none kVWy dcWy pmWy anWy cdWy ctWy), slWy⟩)
    (cWy : PySem.W.codeIn K cdWy "is_way" = true)
    (kWy : PySem.W.keepIn K (.ref fWy) = true)
    (aTu : PySem.W.nsIn K mainGlobals "turned_way" = some (some (.ref fTu)))
    (lTu : K.lookup fTu = some ⟨ocTu, odTu, .func (PySem.W.fnOf "turned_way" "turned_way" (defArgs s_turned_way) (defBody s_turned_way) (defScope s_turned_way) .none kVTu dcTu pmTu anTu cdTu ctTu), slTu⟩)
    (cTu : PySem.W.codeIn K cdTu "turned_way" = true)
    (kTu : PySem.W.keepIn K (.ref fTu) = true)
    (aOn : PySem.W.nsIn K mainGlobals "one_run" = some (some (.ref fOn)))
    (lOn : K.lookup fOn = some ⟨ocOn, odOn, .func (PySem.W.fnOf "one_run" "one_run" (defArgs s_one_run) (defBody s_one_run) (defScope s_one_run) .none kVOn dcOn pmOn anOn cdOn ctOn), slOn⟩)
    (cOn : PySem.W.codeIn K cdOn "one_run" = true)
    (kOn : PySem.W.keepIn K (.ref fOn) = true)
    (aGo : PySem.W.nsIn K mainGlobals "ways_gone" = some (some (.ref fGo)))
    (lGo : K.lookup fGo = some ⟨ocGo, odGo, .func (PySem.W.fnOf "ways_gone" "ways_gone" (defArgs s_ways_gone) (defBody s_ways_gone) (defScope s_ways_gone) .none kVGo dcGo pmGo anGo cdGo ctGo), slGo⟩)
    (cGo : PySem.W.codeIn K cdGo "ways_gone" = true)
    (kGo : PySem.W.keepIn K (.ref fGo) = true)
    (aOf : PySem.W.nsIn K mainGlobals "offsets_along" = some (some (.ref fOf)))
    (lOf : K.lookup fOf = some ⟨ocOf, odOf, .func (PySem.W.fnOf "offsets_along" "offsets_along" (defArgs s_offsets_along) (defBody s_offsets_along) (defScope s_offsets_along) .none kVOf dcOf pmOf anOf cdOf ctOf), slOf⟩)
    (cOf : PySem.W.codeIn K cdOf "offsets_along" = true)
    (kOf : PySem.W.keepIn K (.ref fOf) = true)
    (aLa : PySem.W.nsIn K mainGlobals "lane_of" = some (some (.ref fLa)))
    (lLa : K.lookup fLa = some ⟨ocLa, odLa, .func (PySem.W.fnOf "lane_of" "lane_of" (defArgs s_lane_of) (defBody s_lane_of) (defScope s_lane_of) .none kVLa dcLa pmLa anLa cdLa ctLa), slLa⟩)
    (cLa : PySem.W.codeIn K cdLa "lane_of" = true)
    (kLa : PySem.W.keepIn K (.ref fLa) = true)
    (aSi : PySem.W.nsIn K mainGlobals "square_in" = some (some (.ref fSi)))
    (lSi : K.lookup fSi = some ⟨ocSi, odSi, .func (PySem.W.fnOf "square_in" "square_in" (defArgs s_square_in) (defBody s_square_in) (defScope s_square_in) .none kVSi dcSi pmSi anSi cdSi ctSi), slSi⟩)
    (cSi : PySem.W.codeIn K cdSi "square_in" = true)
    (kSi : PySem.W.keepIn K (.ref fSi) = true)
    (aLt : PySem.W.nsIn K mainGlobals "lanes_trodden" = some (some (.ref fLt)))
    (lLt : K.lookup fLt = some ⟨ocLt, odLt, .func (PySem.W.fnOf "lanes_trodden" "lanes_trodden" (defArgs s_lanes_trodden) (defBody s_lanes_trodden) (defScope s_lanes_trodden) .none kVLt dcLt pmLt anLt cdLt ctLt), slLt⟩)
    (cLt : PySem.W.codeIn K cdLt "lanes_trodden" = true)
    (kLt : PySem.W.keepIn K (.ref fLt) = true)
    (aFs : PySem.W.nsIn K mainGlobals "from_start" = some (some (.ref fFs)))
    (lFs : K.lookup fFs = some ⟨ocFs, odFs, .func (PySem.W.fnOf "from_start" "from_start" (defArgs s_from_start) (defBody s_from_start) (defScope s_from_start) .none kVFs dcFs pmFs anFs cdFs ctFs), slFs⟩)
    (cFs : PySem.W.codeIn K cdFs "from_start" = true)
    (kFs : PySem.W.keepIn K (.ref fFs) = true)
    (aSa : PySem.W.nsIn K mainGlobals "square_at" = some (some (.ref fSa)))
    (lSa : K.lookup fSa = some ⟨ocSa, odSa, .func (PySem.W.fnOf "square_at" "square_at" (defArgs s_square_at) (defBody s_square_at) (defScope s_square_at) .none kVSa dcSa pmSa anSa cdSa ctSa), slSa⟩)
    (cSa : PySem.W.codeIn K cdSa "square_at" = true)
    (kSa : PySem.W.keepIn K (.ref fSa) = true)
    (aLU : PySem.W.nsIn K mainGlobals "_law_cup" = some (some (.ref fLU)))
    (lLU : K.lookup fLU = some ⟨ocLU, odLU, .func (PySem.W.fnOf "_law_cup" "_law_cup" (defArgs s__law_cup) (defBody s__law_cup) (defScope s__law_cup) .none kVLU dcLU pmLU anLU cdLU ctLU), slLU⟩)
    (cLU : PySem.W.codeIn K cdLU "_law_cup" = true)
    (kLU : PySem.W.keepIn K (.ref fLU) = true)
    (aLS : PySem.W.nsIn K mainGlobals "_law_sip" = some (some (.ref fLS)))
    (lLS : K.lookup fLS = some ⟨ocLS, odLS, .func (PySem.W.fnOf "_law_sip" "_law_sip" (defArgs s__law_sip) (defBody s__law_sip) (defScope s__law_sip) .none kVLS dcLS pmLS anLS cdLS ctLS), slLS⟩)
    (cLS : PySem.W.codeIn K cdLS "_law_sip" = true)
    (kLS : PySem.W.keepIn K (.ref fLS) = true)
    (aLP : PySem.W.nsIn K mainGlobals "_law_pick" = some (some (.ref fLP)))
    (lLP : K.lookup fLP = some ⟨ocLP, odLP, .func (PySem.W.fnOf "_law_pick" "_law_pick" (defArgs s__law_pick) (defBody s__law_pick) (defScope s__law_pick) .none kVLP dcLP pmLP anLP cdLP ctLP), slLP⟩)
    (cLP : PySem.W.codeIn K cdLP "_law_pick" = true)
    (kLP : PySem.W.keepIn K (.ref fLP) = true)
    (aLr : PySem.W.nsIn K mainGlobals "_law_row" = some (some (.ref fLr)))
    (lLr : K.lookup fLr = some ⟨ocLr, odLr, .func (PySem.W.fnOf "_law_row" "_law_row" (defArgs s__law_row) (defBody s__law_row) (defScope s__law_row) .none kVLr dcLr pmLr anLr cdLr ctLr), slLr⟩)
    (cLr : PySem.W.codeIn K cdLr "_law_row" = true)
    (kLr : PySem.W.keepIn K (.ref fLr) = true)
    (aLb : PySem.W.nsIn K mainGlobals "_law_start" = some (some (.ref fLb)))
    (lLb : K.lookup fLb = some ⟨ocLb, odLb, .func (PySem.W.fnOf "_law_start" "_law_start" (defArgs s__law_start) (defBody s__law_start) (defScope s__law_start) .none kVLb dcLb pmLb anLb cdLb ctLb), slLb⟩)
    (cLb : PySem.W.codeIn K cdLb "_law_start" = true)
    (kLb : PySem.W.keepIn K (.ref fLb) = true)
    (aLw : PySem.W.nsIn K mainGlobals "_law_steps" = some (some (.ref fLw)))
    (lLw : K.lookup fLw = some ⟨ocLw, odLw, .func (PySem.W.fnOf "_law_steps" "_law_steps" (defArgs s__law_steps) (defBody s__law_steps) (defScope s__law_steps) .none kVLw dcLw pmLw anLw cdLw ctLw), slLw⟩)
    (cLw : PySem.W.codeIn K cdLw "_law_steps" = true)
    (kLw : PySem.W.keepIn K (.ref fLw) = true)
    (aLo : PySem.W.nsIn K mainGlobals "_law_on" = some (some (.ref fLo)))
    (lLo : K.lookup fLo = some ⟨ocLo, odLo, .func (PySem.W.fnOf "_law_on" "_law_on" (defArgs s__law_on) (defBody s__law_on) (defScope s__law_on) .none kVLo dcLo pmLo anLo cdLo ctLo), slLo⟩)
    (cLo : PySem.W.codeIn K cdLo "_law_on" = true)
    (kLo : PySem.W.keepIn K (.ref fLo) = true)
    (aLp : PySem.W.nsIn K mainGlobals "_law_path" = some (some (.ref fLp)))
    (lLp : K.lookup fLp = some ⟨ocLp, odLp, .func (PySem.W.fnOf "_law_path" "_law_path" (defArgs s__law_path) (defBody s__law_path) (defScope s__law_path) .none kVLp dcLp pmLp anLp cdLp ctLp), slLp⟩)
    (cLp : PySem.W.codeIn K cdLp "_law_path" = true)
    (kLp : PySem.W.keepIn K (.ref fLp) = true)
    (aLf : PySem.W.nsIn K mainGlobals "_law_four" = some (some (.ref fLf)))
    (lLf : K.lookup fLf = some ⟨ocLf, odLf, .func (PySem.W.fnOf "_law_four" "_law_four" (defArgs s__law_four) (defBody s__law_four) (defScope s__law_four) .none kVLf dcLf pmLf anLf cdLf ctLf), slLf⟩)
    (cLf : PySem.W.codeIn K cdLf "_law_four" = true)
    (kLf : PySem.W.keepIn K (.ref fLf) = true)
    (aLm : PySem.W.nsIn K mainGlobals "_law_some" = some (some (.ref fLm)))
    (lLm : K.lookup fLm = some ⟨ocLm, odLm, .func (PySem.W.fnOf "_law_some" "_law_some" (defArgs s__law_some) (defBody s__law_some) (defScope s__law_some) .none kVLm dcLm pmLm anLm cdLm ctLm), slLm⟩)
    (cLm : PySem.W.codeIn K cdLm "_law_some" = true)
    (kLm : PySem.W.keepIn K (.ref fLm) = true)
    (aLz : PySem.W.nsIn K mainGlobals "_law_far" = some (some (.ref fLz)))
    (lLz : K.lookup fLz = some ⟨ocLz, odLz, .func (PySem.W.fnOf "_law_far" "_law_far" (defArgs s__law_far) (defBody s__law_far) (defScope s__law_far) .none kVLz dcLz pmLz anLz cdLz ctLz), slLz⟩)
    (cLz : PySem.W.codeIn K cdLz "_law_far" = true)
    (kLz : PySem.W.keepIn K (.ref fLz) = true)
    (aLR : PySem.W.nsIn K mainGlobals "_law_right" = some (some (.ref fLR)))
    (lLR : K.lookup fLR = some ⟨ocLR, odLR, .func (PySem.W.fnOf "_law_right" "_law_right" (defArgs s__law_right) (defBody s__law_right) (defScope s__law_right) .none kVLR dcLR pmLR anLR cdLR ctLR), slLR⟩)
    (cLR : PySem.W.codeIn K cdLR "_law_right" = true)
    (kLR : PySem.W.keepIn K (.ref fLR) = true)
    (aLL : PySem.W.nsIn K mainGlobals "law" = some (some (.ref fLL)))
    (lLL : K.lookup fLL = some ⟨ocLL, odLL, .func (PySem.W.fnOf "law" "law" (defArgs s_law) (defBody s_law) (defScope s_law) .none kVLL dcLL pmLL anLL cdLL ctLL), slLL⟩)
    (cLL : PySem.W.codeIn K cdLL "law" = true)
    (kLL : PySem.W.keepIn K (.ref fLL) = true)
    (aC : PySem.W.nsIn K mainGlobals "Walker" = some (some (.ref C)))
    (cpg : PySem.W.plainGet K C Str.empty = true)
    (chd : PySem.W.hasDictIn K C = true)
    (cpo : PySem.W.plainOver K C = true)
    (csa : PySem.W.findIn K (.ref C) "__setattr__" = some (some (.builtin "object.__setattr__")))
    (n_row : PySem.W.findIn K (.ref C) "_row" = some none)
    (n_start : PySem.W.findIn K (.ref C) "_start" = some none)
    (n_way : PySem.W.findIn K (.ref C) "_way" = some none)
    (n_ways : PySem.W.findIn K (.ref C) "_ways" = some none)
    (n_offsets : PySem.W.findIn K (.ref C) "_offsets" = some none)
    (n_drift : PySem.W.findIn K (.ref C) "_drift" = some none)
    (n_lanes : PySem.W.findIn K (.ref C) "_lanes" = some none)
    (mmk : PySem.W.makesIn K C = true)
    (mkp : PySem.W.keepIn K (.ref C) = true)
    (ai : PySem.W.findIn K (.ref C) "__init__" = some (some (.ref fi)))
    (li0 : K.lookup fi = some ⟨oci0, odi0, .func (PySem.W.fnOf "__init__" "Walker.__init__" (defArgs s_Walker___init__) (defBody s_Walker___init__) (defScope s_Walker___init__) (.ref T0) kVi0 dci0 pmi0 ani0 cdi0 cti0), sli0⟩)
    (ci0 : PySem.W.codeIn K cdi0 "Walker.__init__" = true)
    (fnI0 : PySem.W.isFn K (.ref fi) = true)
    (kpI0 : PySem.W.keepIn K (.ref fi) = true)
    (lT0 : K.lookup T0 = some ⟨.type "tuple", odT0, .seq #[.ref Z0, .str "N" tN] nT0, slT0⟩)
    (lZ0 : K.lookup Z0 = some ⟨.type "tuple", odZ0, .seq #[.int 0 tz1, .int 0 tz2] nZ0, slZ0⟩)
    (ata : PySem.W.findIn K (.ref C) "start" = some (some (.ref pa)))
    (gta : PySem.W.specialIn K (.ref pa) "__get__" = some (some (.builtin "property.__get__")))
    (tka : PySem.W.takesIn K (.ref pa) = some true)
    (rca : PySem.W.recIn K pa "property" = some (.ref qa :: rea))
    (lpa : K.lookup qa = some ⟨ocpa, odpa, .func (PySem.W.fnOf "start" "Walker.start" (defArgs s_Walker_start) (defBody s_Walker_start) (defScope s_Walker_start) .none kVpa dcpa pmpa anpa cdpa ctpa), slpa⟩)
    (cpa : PySem.W.codeIn K cdpa "Walker.start" = true)
    (kpa : PySem.W.keepIn K (.ref qa) = true)
    (atb : PySem.W.findIn K (.ref C) "period" = some (some (.ref pb)))
    (gtb : PySem.W.specialIn K (.ref pb) "__get__" = some (some (.builtin "property.__get__")))
    (tkb : PySem.W.takesIn K (.ref pb) = some true)
    (rcb : PySem.W.recIn K pb "property" = some (.ref qb :: reb))
    (lpb : K.lookup qb = some ⟨ocpb, odpb, .func (PySem.W.fnOf "period" "Walker.period" (defArgs s_Walker_period) (defBody s_Walker_period) (defScope s_Walker_period) .none kVpb dcpb pmpb anpb cdpb ctpb), slpb⟩)
    (cpb : PySem.W.codeIn K cdpb "Walker.period" = true)
    (kpb : PySem.W.keepIn K (.ref qb) = true)
    (atc : PySem.W.findIn K (.ref C) "drift" = some (some (.ref pc)))
    (gtc : PySem.W.specialIn K (.ref pc) "__get__" = some (some (.builtin "property.__get__")))
    (tkc : PySem.W.takesIn K (.ref pc) = some true)
    (rcc : PySem.W.recIn K pc "property" = some (.ref qc :: rec))
    (lpc : K.lookup qc = some ⟨ocpc, odpc, .func (PySem.W.fnOf "drift" "Walker.drift" (defArgs s_Walker_drift) (defBody s_Walker_drift) (defScope s_Walker_drift) .none kVpc dcpc pmpc anpc cdpc ctpc), slpc⟩)
    (cpc : PySem.W.codeIn K cdpc "Walker.drift" = true)
    (kpc : PySem.W.keepIn K (.ref qc) = true)
    (ati : PySem.W.findIn K (.ref C) "at" = some (some (.ref xi)))
    (fni : PySem.W.isFn K (.ref xi) = true)
    (lmi : K.lookup xi = some ⟨ocmi, odmi, .func (PySem.W.fnOf "at" "Walker.at" (defArgs s_Walker_at) (defBody s_Walker_at) (defScope s_Walker_at) .none kVmi dcmi pmmi anmi cdmi ctmi), slmi⟩)
    (cmi : PySem.W.codeIn K cdmi "Walker.at" = true)
    (kmi : PySem.W.keepIn K (.ref xi) = true)
    (atj : PySem.W.findIn K (.ref C) "goes" = some (some (.ref xj)))
    (fnj : PySem.W.isFn K (.ref xj) = true)
    (lmj : K.lookup xj = some ⟨ocmj, odmj, .func (PySem.W.fnOf "goes" "Walker.goes" (defArgs s_Walker_goes) (defBody s_Walker_goes) (defScope s_Walker_goes) .none kVmj dcmj pmmj anmj cdmj ctmj), slmj⟩)
    (cmj : PySem.W.codeIn K cdmj "Walker.goes" = true)
    (kmj : PySem.W.keepIn K (.ref xj) = true)
    (aTU : PySem.W.nsIn K mainGlobals "TURNS" = some (some (.ref qT)))
    (lTU : K.lookup qT = some ⟨.type "dict", none, .dict esT nT, #[]⟩)
    (kTU : PySem.W.KeysLit w.params esT.toList)
    (oTU : (qT == sysModules) = false)
    (tR : PySem.W.nsIn K qT "R" = some (some (.int 1 tt1)))
    (tB : PySem.W.nsIn K qT "B" = some (some (.int 2 tt2)))
    (tL : PySem.W.nsIn K qT "L" = some (some (.int 3 tt3)))
    (t1 : PySem.W.nsIn K qT "1" = some none)
    (t2 : PySem.W.nsIn K qT "2" = some none)
    (t3 : PySem.W.nsIn K qT "3" = some none)
    (t4 : PySem.W.nsIn K qT "4" = some none)
    (t5 : PySem.W.nsIn K qT "5" = some none)
    (t6 : PySem.W.nsIn K qT "6" = some none)
    (t7 : PySem.W.nsIn K qT "7" = some none)
    (t8 : PySem.W.nsIn K qT "8" = some none)
    (t9 : PySem.W.nsIn K qT "9" = some none)
    (aMO : PySem.W.nsIn K mainGlobals "MOVES" = some (some (.ref qM)))
    (lMO : K.lookup qM = some ⟨.type "dict", none, .dict esM nM, #[]⟩)
    (kMO : PySem.W.KeysLit w.params esM.toList)
    (oMO : (qM == sysModules) = false)
    (sMO : esM.toList.map keyS = (["N", "E", "S", "W"] : List Str))
    (mN : PySem.W.nsIn K qM "N" = some (some (.ref u0)))
    (uN : K.lookup u0 = some ⟨.type "tuple", odu0, .seq #[.int 0 tx0, .int 1 ty0] nu0, slu0⟩)
    (mE : PySem.W.nsIn K qM "E" = some (some (.ref u1)))
    (uE : K.lookup u1 = some ⟨.type "tuple", odu1, .seq #[.int 1 tx1, .int 0 ty1] nu1, slu1⟩)
    (mS : PySem.W.nsIn K qM "S" = some (some (.ref u2)))
    (uS : K.lookup u2 = some ⟨.type "tuple", odu2, .seq #[.int 0 tx2, .int (-1) ty2] nu2, slu2⟩)
    (mW_ : PySem.W.nsIn K qM "W" = some (some (.ref u3)))
    (uW : K.lookup u3 = some ⟨.type "tuple", odu3, .seq #[.int (-1) tx3, .int 0 ty3] nu3, slu3⟩)
    (gW : PySem.W.nsIn K mainGlobals "WAYS" = some (some (.str "NESW" tW)))
    (g1 : PySem.W.nsIn K mainGlobals "GREATEST" = some (some (.int 1000000000000000000000000000000 t1_)))
    (g2 : PySem.W.nsIn K mainGlobals "MOST_ORDERS" = some (some (.int 8 t2_)))
    (g3 : PySem.W.nsIn K mainGlobals "MOST_STEPS" = some (some (.int 9 t3_)))
    (z_isinstance : PySem.W.nsIn K mainGlobals "isinstance" = some none)
    (z_int : PySem.W.nsIn K mainGlobals "int" = some none)
    (z_bool : PySem.W.nsIn K mainGlobals "bool" = some none)
    (z_len : PySem.W.nsIn K mainGlobals "len" = some none)
    (z_tuple : PySem.W.nsIn K mainGlobals "tuple" = some none)
    (z_str : PySem.W.nsIn K mainGlobals "str" = some none)
    (z_list : PySem.W.nsIn K mainGlobals "list" = some none)
    (z_range : PySem.W.nsIn K mainGlobals "range" = some none)
    (z_abs : PySem.W.nsIn K mainGlobals "abs" = some none)
    (z_all : PySem.W.nsIn K mainGlobals "all" = some none)
    (z_any : PySem.W.nsIn K mainGlobals "any" = some none)
    (z_divmod : PySem.W.nsIn K mainGlobals "divmod" = some none)
    (z_enumerate : PySem.W.nsIn K mainGlobals "enumerate" = some none)
    (z_sorted : PySem.W.nsIn K mainGlobals "sorted" = some none)
    (z_sum : PySem.W.nsIn K mainGlobals "sum" = some none)
    (z_min : PySem.W.nsIn K mainGlobals "min" = some none)
    (z_max : PySem.W.nsIn K mainGlobals "max" = some none) :
    ∃ fd : FuncData, (∀ (s : Shared) (v : Value), BindsTo s fd ⟨[v], []⟩ [("script", v)]) ∧ ∀ base : Heap, K.In base → base.Ns mainGlobals mg → FnG gd0 P w K mg base CX0 7 fa fd ["script"] (spLaw K) := by
  have e := hfa.symm.trans (PySem.W.mg_of X G aLL)
  cases e
  have FI := fun_mk (st := s_is_integer) lI cI kI
  have bI := FI.binds (ps := ["value"]) fun _ _ _ _ _ _ us hl => match us, hl with | [_], _ => rfl
  have mI := PySem.W.mg_of X G aI
  have FW := fun_mk (st := s_is_within) lW cW kW
  have bW := FW.binds (ps := ["value", "least", "most"]) fun _ _ _ _ _ _ us hl => match us, hl with | [_, _, _], _ => rfl
  have mW := PySem.W.mg_of X G aW
  have FPa := fun_mk (st := s_is_pair) lPa cPa kPa
  have bPa := FPa.binds (ps := ["value"]) fun _ _ _ _ _ _ us hl => match us, hl with | [_], _ => rfl
  have mPa := PySem.W.mg_of X G aPa
  have FSq := fun_mk (st := s_is_square) lSq cSq kSq
  have bSq := FSq.binds (ps := ["value"]) fun _ _ _ _ _ _ us hl => match us, hl with | [_], _ => rfl
  have mSq := PySem.W.mg_of X G aSq
  have FTi := fun_mk (st := s_is_time) lTi cTi kTi
  have bTi := FTi.binds (ps := ["value"]) fun _ _ _ _ _ _ us hl => match us, hl with | [_], _ => rfl
  have mTi := PySem.W.mg_of X G aTi
  have FOd := fun_mk (st := s_is_order) lOd cOd kOd
  have bOd := FOd.binds (ps := ["text"]) fun _ _ _ _ _ _ us hl => match us, hl with | [_], _ => rfl
  have mOd := PySem.W.mg_of X G aOd
  have FRo := fun_mk (st := s_is_row) lRo cRo kRo
  have bRo := FRo.binds (ps := ["value"]) fun _ _ _ _ _ _ us hl => match us, hl with | [_], _ => rfl
  have mRo := PySem.W.mg_of X G aRo
  have FWy := fun_mk (st := s_is_way) lWy cWy kWy
  have bWy := FWy.binds (ps := ["value"]) fun _ _ _ _ _ _ us hl => match us, hl with | [_], _ => rfl
  have mWy := PySem.W.mg_of X G aWy
  have FTu := fun_mk (st := s_turned_way) lTu cTu kTu
  have bTu := FTu.binds (ps := ["way", "turns"]) fun _ _ _ _ _ _ us hl => match us, hl with | [_, _], _ => rfl
  have mTu := PySem.W.mg_of X G aTu
  have FOn := fun_mk (st := s_one_run) lOn cOn kOn
  have bOn := FOn.binds (ps := ["row", "way"]) fun _ _ _ _ _ _ us hl => match us, hl with | [_, _], _ => rfl
  have mOn := PySem.W.mg_of X G aOn
  have FGo := fun_mk (st := s_ways_gone) lGo cGo kGo
  have bGo := FGo.binds (ps := ["row", "way"]) fun _ _ _ _ _ _ us hl => match us, hl with | [_, _], _ => rfl
  have mGo := PySem.W.mg_of X G aGo
  have FOf := fun_mk (st := s_offsets_along) lOf cOf kOf
  have bOf := FOf.binds (ps := ["ways"]) fun _ _ _ _ _ _ us hl => match us, hl with | [_], _ => rfl
  have mOf := PySem.W.mg_of X G aOf
  have FLa := fun_mk (st := s_lane_of) lLa cLa kLa
  have bLa := FLa.binds (ps := ["square", "drift"]) fun _ _ _ _ _ _ us hl => match us, hl with | [_, _], _ => rfl
  have mLa := PySem.W.mg_of X G aLa
  have FSi := fun_mk (st := s_square_in) lSi cSi kSi
  have bSi := FSi.binds (ps := ["lane", "place", "drift"]) fun _ _ _ _ _ _ us hl => match us, hl with | [_, _, _], _ => rfl
  have mSi := PySem.W.mg_of X G aSi
  have FLt := fun_mk (st := s_lanes_trodden) lLt cLt kLt
  have bLt := FLt.binds (ps := ["offsets", "drift"]) fun _ _ _ _ _ _ us hl => match us, hl with | [_, _], _ => rfl
  have mLt := PySem.W.mg_of X G aLt
  have FFs := fun_mk (st := s_from_start) lFs cFs kFs
  have bFs := FFs.binds (ps := ["walker", "offset"]) fun _ _ _ _ _ _ us hl => match us, hl with | [_, _], _ => rfl
  have mFs := PySem.W.mg_of X G aFs
  have FSa := fun_mk (st := s_square_at) lSa cSa kSa
  have bSa := FSa.binds (ps := ["walker", "time"]) fun _ _ _ _ _ _ us hl => match us, hl with | [_, _], _ => rfl
  have mSa := PySem.W.mg_of X G aSa
  have FLU := fun_mk (st := s__law_cup) lLU cLU kLU
  have bLU := FLU.binds (ps := ["script", "spot"]) fun _ _ _ _ _ _ us hl => match us, hl with | [_, _], _ => rfl
  have mLU := PySem.W.mg_of X G aLU
  have FLS := fun_mk (st := s__law_sip) lLS cLS kLS
  have bLS := FLS.binds (ps := ["cup", "many"]) fun _ _ _ _ _ _ us hl => match us, hl with | [_, _], _ => rfl
  have mLS := PySem.W.mg_of X G aLS
  have FLP := fun_mk (st := s__law_pick) lLP cLP kLP
  have bLP := FLP.binds (ps := ["cup", "things"]) fun _ _ _ _ _ _ us hl => match us, hl with | [_, _], _ => rfl
  have mLP := PySem.W.mg_of X G aLP
  have FLr := fun_mk (st := s__law_row) lLr cLr kLr
  have bLr := FLr.binds (ps := ["cup", "most", "longest"]) fun _ _ _ _ _ _ us hl => match us, hl with | [_, _, _], _ => rfl
  have mLr := PySem.W.mg_of X G aLr
  have FLb := fun_mk (st := s__law_start) lLb cLb kLb
  have bLb := FLb.binds (ps := ["cup"]) fun _ _ _ _ _ _ us hl => match us, hl with | [_], _ => rfl
  have mLb := PySem.W.mg_of X G aLb
  have FLw := fun_mk (st := s__law_steps) lLw cLw kLw
  have bLw := FLw.binds (ps := ["orders", "side", "many"]) fun _ _ _ _ _ _ us hl => match us, hl with | [_, _, _], _ => rfl
  have mLw := PySem.W.mg_of X G aLw
  have FLo := fun_mk (st := s__law_on) lLo cLo kLo
  have bLo := FLo.binds (ps := ["spot", "side", "many"]) fun _ _ _ _ _ _ us hl => match us, hl with | [_, _, _], _ => rfl
  have mLo := PySem.W.mg_of X G aLo
  have FLp := fun_mk (st := s__law_path) lLp cLp kLp
  have bLp := FLp.binds (ps := ["orders", "begin", "side", "many"]) fun _ _ _ _ _ _ us hl => match us, hl with | [_, _, _, _], _ => rfl
  have mLp := PySem.W.mg_of X G aLp
  have FLf := fun_mk (st := s__law_four) lLf cLf kLf
  have bLf := FLf.binds (ps := ["orders"]) fun _ _ _ _ _ _ us hl => match us, hl with | [_], _ => rfl
  have mLf := PySem.W.mg_of X G aLf
  have FLm := fun_mk (st := s__law_some) lLm cLm kLm
  have bLm := FLm.binds (ps := ["orders", "begin", "side"]) fun _ _ _ _ _ _ us hl => match us, hl with | [_, _, _], _ => rfl
  have mLm := PySem.W.mg_of X G aLm
  have FLz := fun_mk (st := s__law_far) lLz cLz kLz
  have bLz := FLz.binds (ps := ["some", "at"]) fun _ _ _ _ _ _ us hl => match us, hl with | [_, _], _ => rfl
  have mLz := PySem.W.mg_of X G aLz
  have FLR := fun_mk (st := s__law_right) lLR cLR kLR
  have bLR := FLR.binds (ps := ["cup"]) fun _ _ _ _ _ _ us hl => match us, hl with | [_], _ => rfl
  have mLR := PySem.W.mg_of X G aLR
  have FLL := fun_mk (st := s_law) lLL cLL kLL
  have bLL := FLL.binds (ps := ["script"]) fun _ _ _ _ _ _ us hl => match us, hl with | [_], _ => rfl
  have mLL := PySem.W.mg_of X G aLL
  have Fpa := fun_mk (st := s_Walker_start) lpa cpa kpa
  have bpa := Fpa.binds (ps := ["self"]) fun _ _ _ _ _ _ us hl => match us, hl with | [_], _ => rfl
  have Pa : PropOf K C "start" pa qa := ⟨ata, gta, tka, _, rca⟩
  have Fpb := fun_mk (st := s_Walker_period) lpb cpb kpb
  have bpb := Fpb.binds (ps := ["self"]) fun _ _ _ _ _ _ us hl => match us, hl with | [_], _ => rfl
  have Pb : PropOf K C "period" pb qb := ⟨atb, gtb, tkb, _, rcb⟩
  have Fpc := fun_mk (st := s_Walker_drift) lpc cpc kpc
  have bpc := Fpc.binds (ps := ["self"]) fun _ _ _ _ _ _ us hl => match us, hl with | [_], _ => rfl
  have Pc : PropOf K C "drift" pc qc := ⟨atc, gtc, tkc, _, rcc⟩
  have Fmi := fun_mk (st := s_Walker_at) lmi cmi kmi
  have bmi := Fmi.binds (ps := ["self", "time"]) fun _ _ _ _ _ _ us hl => match us, hl with | [_, _], _ => rfl
  have Fmj := fun_mk (st := s_Walker_goes) lmj cmj kmj
  have bmj := Fmj.binds (ps := ["self", "time"]) fun _ _ _ _ _ _ us hl => match us, hl with | [_, _], _ => rfl
  have y_isinstance := PySem.W.mg_none_of X G z_isinstance
  have y_int := PySem.W.mg_none_of X G z_int
  have y_bool := PySem.W.mg_none_of X G z_bool
  have y_len := PySem.W.mg_none_of X G z_len
  have y_tuple := PySem.W.mg_none_of X G z_tuple
  have y_str := PySem.W.mg_none_of X G z_str
  have y_list := PySem.W.mg_none_of X G z_list
  have y_range := PySem.W.mg_none_of X G z_range
  have y_abs := PySem.W.mg_none_of X G z_abs
  have y_all := PySem.W.mg_none_of X G z_all
  have y_any := PySem.W.mg_none_of X G z_any
  have y_divmod := PySem.W.mg_none_of X G z_divmod
  have y_enumerate := PySem.W.mg_none_of X G z_enumerate
  have y_sorted := PySem.W.mg_none_of X G z_sorted
  have y_sum := PySem.W.mg_none_of X G z_sum
  have y_min := PySem.W.mg_none_of X G z_min
  have y_max := PySem.W.mg_none_of X G z_max
  have cl : Cls K C := ⟨cpg, chd, cpo, csa⟩
  have W : WkC K C := ⟨cl, n_row, n_start, n_way, n_ways, n_offsets, n_drift, n_lanes⟩
  have N : Free mg := ⟨y_isinstance, y_int, y_bool, y_len, y_tuple, y_str, y_list, y_range, y_abs, y_all, y_any, y_divmod, y_enumerate, y_sorted⟩
  have eR : ("R" : Str) = tx [82] := by decide +kernel
  have eB : ("B" : Str) = tx [66] := by decide +kernel
  have eL : ("L" : Str) = tx [76] := by decide +kernel
  have eN : ("N" : Str) = tx [78] := by decide +kernel
  have eE : ("E" : Str) = tx [69] := by decide +kernel
  have eS : ("S" : Str) = tx [83] := by decide +kernel
  have eW : ("W" : Str) = tx [87] := by decide +kernel
  have eWs : ("NESW" : Str) = tx [78, 69, 83, 87] := by decide +kernel
  have hdig : ∀ n, 1 ≤ n → n ≤ 9 → PySem.W.nsIn K qT (tx [48 + n]) = some none := fun n h1 h2 => match n, h1, h2 with
    | 1, _, _ => (show ("1" : Str) = tx [48 + 1] by decide +kernel) ▸ t1
    | 2, _, _ => (show ("2" : Str) = tx [48 + 2] by decide +kernel) ▸ t2
    | 3, _, _ => (show ("3" : Str) = tx [48 + 3] by decide +kernel) ▸ t3
    | 4, _, _ => (show ("4" : Str) = tx [48 + 4] by decide +kernel) ▸ t4
    | 5, _, _ => (show ("5" : Str) = tx [48 + 5] by decide +kernel) ▸ t5
    | 6, _, _ => (show ("6" : Str) = tx [48 + 6] by decide +kernel) ▸ t6
    | 7, _, _ => (show ("7" : Str) = tx [48 + 7] by decide +kernel) ▸ t7
    | 8, _, _ => (show ("8" : Str) = tx [48 + 8] by decide +kernel) ▸ t8
    | 9, _, _ => (show ("9" : Str) = tx [48 + 9] by decide +kernel) ▸ t9
  have tup2 : ∀ {u : Addr} {od : Option Addr} {n : Nat} {sl : Array (Option Value)} {a b : Int} {t t' : Tok}, K.lookup u = some ⟨.type "tuple", od, .seq #[.int a t, .int b t'] n, sl⟩ → ∀ F, Rp K F (.ref u) (sq a b) := fun {u od n sl a b t t'} l F => by
    have h : SqT K F u [.int a, .int b] := .inr ⟨_, _, _, l, rfl, rfl, by show 2 ≤ sizeLine; decide, .cons ⟨_, rfl⟩ (.cons ⟨_, rfl⟩ .nil)⟩
    exact .tup h (.cons (.int _) (.cons (.int _) .nil))
  have hmv : ∀ a, a < 4 → ∃ u, PySem.W.nsIn K qM (tx [wc a]) = some (some (.ref u)) ∧ ∀ F, Rp K F (.ref u) (sq (mx a) (my a)) := fun a ha => match a, ha with
    | 0, _ => ⟨u0, eN ▸ mN, tup2 uN⟩
    | 1, _ => ⟨u1, eE ▸ mE, tup2 uE⟩
    | 2, _ => ⟨u2, eS ▸ mS, tup2 uS⟩
    | 3, _ => ⟨u3, eW ▸ mW_, tup2 uW⟩
  have T : Tbl K w mg := ⟨⟨qT, esT, nT, _, _, _, PySem.W.mg_of X G aTU, ⟨lTU, kTU, oTU⟩, eR ▸ tR, eB ▸ tB, eL ▸ tL, hdig⟩, ⟨qM, esM, nM, PySem.W.mg_of X G aMO, ⟨lMO, kMO, oMO⟩, by rw [sMO, eN, eE, eS, eW], hmv⟩, ⟨tW, eWs ▸ PySem.W.mg_of X G gW⟩, ⟨_, PySem.W.mg_of X G g1⟩, ⟨_, PySem.W.mg_of X G g2⟩, ⟨_, PySem.W.mg_of X G g3⟩⟩
  have mk0 : Mk K C fi := ⟨mmk, ai, fnI0, mkp⟩
  refine ⟨PySem.W.fnOf "law" "law" (defArgs s_law) (defBody s_law) (defScope s_law) .none kVLL dcLL pmLL anLL cdLL ctLL, fun s v => .of_eq rfl, fun base _ _ => ?_⟩
  have oI : FnG gd0 P w K mg base CX0 1 _ _ ["value"] (spR K RIsI) := ok_isI FI y_isinstance y_int y_bool
  have dI : Df gd0 P w K mg base 1 "is_integer" ["value"] (spR K RIsI) := ⟨_, _, oI, mI, kI, bI⟩
  have dW : Df gd0 P w K mg base 2 "is_within" ["value", "least", "most"] (spR K RIsW) := ⟨_, _, ok_isW FW oI mI kI bI, mW, kW, bW⟩
  have dPa : Df gd0 P w K mg base 2 "is_pair" ["value"] (spR K RPair) := ⟨_, _, ok_isPair FPa N dI, mPa, kPa, bPa⟩
  have dSq : Df gd0 P w K mg base 3 "is_square" ["value"] (spR K RSq) := ⟨_, _, ok_isSquare FSq N T dPa, mSq, kSq, bSq⟩
  have dTi : Df gd0 P w K mg base 3 "is_time" ["value"] (spR K RTime) := ⟨_, _, ok_isTime FTi T dW, mTi, kTi, bTi⟩
  have dOd : Df gd0 P w K mg base 1 "is_order" ["text"] (spR K ROrd) := ⟨_, _, ok_isOrder FOd N T, mOd, kOd, bOd⟩
  have dRo : Df gd0 P w K mg base 2 "is_row" ["value"] (spR K RRow) := ⟨_, _, ok_isRow FRo N T dOd, mRo, kRo, bRo⟩
  have dWy : Df gd0 P w K mg base 1 "is_way" ["value"] (spR K RWay) := ⟨_, _, ok_isWay FWy N T, mWy, kWy, bWy⟩
  have dTu : Df gd0 P w K mg base 1 "turned_way" ["way", "turns"] (spR K RTurn) := ⟨_, _, ok_turned FTu N T, mTu, kTu, bTu⟩
  have dOn : Df gd0 P w K mg base 2 "one_run" ["row", "way"] (spR K RRun) := ⟨_, _, ok_oneRun FOn N T dTu, mOn, kOn, bOn⟩
  have dGo : Df gd0 P w K mg base 3 "ways_gone" ["row", "way"] (spR K RGone) := ⟨_, _, ok_gone FGo N dOn, mGo, kGo, bGo⟩
  have dOf : Df gd0 P w K mg base 1 "offsets_along" ["ways"] (spR K ROff) := ⟨_, _, ok_offsets FOf T, mOf, kOf, bOf⟩
  have dLa : Df gd0 P w K mg base 1 "lane_of" ["square", "drift"] (spR K RLane) := ⟨_, _, ok_laneOf FLa, mLa, kLa, bLa⟩
  have dSi : Df gd0 P w K mg base 1 "square_in" ["lane", "place", "drift"] (spR K RSqIn) := ⟨_, _, ok_squareIn FSi, mSi, kSi, bSi⟩
  have dLt : Df gd0 P w K mg base 2 "lanes_trodden" ["offsets", "drift"] (spR K RLns) := ⟨_, _, ok_lanes FLt N dLa, mLt, kLt, bLt⟩
  have PS : Pf gd0 P w K mg base C 1 "start" (RW C fun l x y a p => sq x y) := ⟨_, _, _, Pa, ok_wStart Fpa W, bpa⟩
  have PP : Pf gd0 P w K mg base C 1 "period" (RW C fun l x y a p => .int (p : Nat)) := ⟨_, _, _, Pb, ok_wPeriod Fpb W N, bpb⟩
  have PD : Pf gd0 P w K mg base C 1 "drift" (RW C fun l x y a p => sq (px (way l a) p) (py (way l a) p)) := ⟨_, _, _, Pc, ok_wDrift Fpc W, bpc⟩
  have dFs : Df gd0 P w K mg base 3 "from_start" ["walker", "offset"] (spR K (RFrom C)) := ⟨_, _, ok_from FFs W PS, mFs, kFs, bFs⟩
  have dSa : Df gd0 P w K mg base 4 "square_at" ["walker", "time"] (spR K (RAt C)) := ⟨_, _, ok_squareAt FSa W N PP PD dFs dSi, mSa, kSa, bSa⟩
  have FI0 : FunD K "__init__" "Walker.__init__" (defArgs s_Walker___init__) (defBody s_Walker___init__) (defScope s_Walker___init__) [.ref Z0, .str "N"] [] fi _ := ⟨⟨_, _, _, _, _, _, _, _, _, _, rfl, li0, ci0, .inr ⟨by simp, T0, _, [.ref Z0, .str "N" tN], _, rfl, lT0, rfl, .cons rfl (.cons ⟨_, rfl⟩ .nil)⟩, .inl rfl⟩, kpI0⟩
  have oIn : FnG gd0 P w K mg base CX0 4 _ _ ["self", "row", "start", "way"] (spIn K C RWIni) := ok_wIni FI0 W dRo dSq dWy dGo dOf dLt
  have rT : Vals [.ref Z0, .str "N"] [.ref Z0, .str "N" tN] := .cons rfl (.cons ⟨_, rfl⟩ .nil)
  have rD : ∀ F, Rps K F [.ref Z0, .str "N"] dflD := fun F => .cons (tup2 lZ0 F) (.cons (eN ▸ .str _) .nil)
  have iA : InS gd0 P w K mg base 4 fi [] (spI K C fun ds kd fl => ds.length = 3 ∧ RWIni (gA ds dflD kd) fl) := inS_of (n := 3) (ks := []) (dd := dflD) oIn gA lT0 rfl rT rD (fun r _ _ => r) (fun r _ _ => r) fun x us ws h1 h2 => match us, ws, h1, h2 with | [_, _, _], [], _, _ => ⟨_, rfl, rfl⟩
  have iB : InS gd0 P w K mg base 4 fi [] (spI K C fun ds kd fl => ds.length = 1 ∧ RWIni (gB ds dflD kd) fl) := inS_of (n := 1) (ks := []) (dd := dflD) oIn gB lT0 rfl rT rD (fun r q _ => r.append q) (fun r q _ => Rps.append r q) fun x us ws h1 h2 => match us, ws, h1, h2 with | [_], [], _, _ => ⟨_, rfl, rfl⟩
  have iC : InS gd0 P w K mg base 4 fi ["way"] (spI K C fun ds kd fl => ds.length = 1 ∧ RWIni (gC ds dflD kd) fl) := inS_of (n := 1) (ks := ["way"]) (dd := dflD) oIn gC lT0 rfl rT rD (fun r q s => r.append ((q.take 1).append s)) (fun r q s => Rps.append r (Rps.append (Rps.take 1 q) s)) fun x us ws h1 h2 => match us, ws, h1, h2 with | [_], [_], _, _ => ⟨_, rfl, rfl⟩
  have mAt : Mk1 gd0 P w K mg base C 5 "at" "time" (RAt C) := ⟨_, _, ⟨ati, fni, kmi⟩, ok_at Fmi dTi dSa, bmi, fun s x u _ => .of_eq rfl⟩
  have mGo : Mk1 gd0 P w K mg base C 4 "goes" "time" (RGoes C) := ⟨_, _, ⟨atj, fnj, kmj⟩, ok_goes Fmj W N dTi, bmj, fun s x u _ => .of_eq rfl⟩
  have oLS : FnG gd0 P w K mg base CX0 1 _ _ ["cup", "many"] (spC K GSip RSip) := ok_sip FLS y_int y_divmod
  have dLS : Df gd0 P w K mg base 1 "_law_sip" ["cup", "many"] (spC K GSip RSip) := ⟨_, _, oLS, mLS, kLS, bLS⟩
  have dLP : Df gd0 P w K mg base 2 "_law_pick" ["cup", "things"] (spC K GPick RPick) := ⟨_, _, ok_pick FLP oLS mLS kLS bLS y_len, mLP, kLP, bLP⟩
  have dLr : Df gd0 P w K mg base 2 "_law_row" ["cup", "most", "longest"] (spC K GLRow RLRow) := ⟨_, _, ok_lrow FLr N dLS, mLr, kLr, bLr⟩
  have dLb : Df gd0 P w K mg base 3 "_law_start" ["cup"] (spC K G00 RLStart) := ⟨_, _, ok_lstart FLb dLS dLP, mLb, kLb, bLb⟩
  have dLw : Df gd0 P w K mg base 1 "_law_steps" ["orders", "side", "many"] (spR K RLSteps) := ⟨_, _, ok_lsteps FLw N, mLw, kLw, bLw⟩
  have dLo : Df gd0 P w K mg base 1 "_law_on" ["spot", "side", "many"] (spR K RLOn) := ⟨_, _, ok_lon FLo, mLo, kLo, bLo⟩
  have dLp : Df gd0 P w K mg base 2 "_law_path" ["orders", "begin", "side", "many"] (spR K RLPath) := ⟨_, _, ok_lpath FLp dLw dLo, mLp, kLp, bLp⟩
  have dLf : Df gd0 P w K mg base 1 "_law_four" ["orders"] (spR K RLFour) := ⟨_, _, ok_lfour FLf N y_sum, mLf, kLf, bLf⟩
  have dLm : Df gd0 P w K mg base 3 "_law_some" ["orders", "begin", "side"] (spR K RLSome) := ⟨_, _, ok_lsome FLm dLp dLf, mLm, kLm, bLm⟩
  have dLz : Df gd0 P w K mg base 1 "_law_far" ["some", "at"] (spR K RLFar) := ⟨_, _, ok_lfar FLz N, mLz, kLz, bLz⟩
  have Q : Q12 P w K mg base C := ⟨cl, PySem.W.mg_of X G aC, dLr, dLb, dLS, dLP, dLm, dLw, dLz, dLo, ⟨_, mk0, iA⟩, mAt, mGo, N, y_min⟩
  exact ok_law12 FLL ⟨_, _, ok_cup FLU y_int y_abs y_len, mLU, kLU, bLU⟩ ⟨_, _, ok_right12 FLR Q, mLR, kLR, bLR⟩ Q ⟨_, mk0, iB, iC⟩ y_max
end
end K2
set_option Elab.async false
set_option linter.all false
set_option maxRecDepth 100000
set_option maxHeartbeats 4000000
namespace K2
open PySem PySem.W PyProof.Rows
open L2 Vd
theorem hwalk {l : PySem.W.OpenLaw} {k : Nat} {q : Program} {loose : List Str} {XP : (Str → Option Value) → Heap → Prop} {YP : World → Heap → Prop} {d : DefRec} {K : World → PySem.W.Frag} {x : Str}
    (hn : l.most = some 63) (hdf : d.params.defaults = []) (hr : Room k callerA) (hY : ∀ (w : World) (h : Heap), YP w h → (K w).In h)
    (F : ∀ (w : World) (mg : Str → Option Value) (fa : Addr) (h : Heap), (K w).In h → h.Ns mainGlobals mg → mg d.name = some (.ref fa) →
      ∃ fd : FuncData, (∀ (s : Shared) (u : Value), BindsTo s fd ⟨[u], []⟩ [(x, u)]) ∧ ∀ base : Heap, (K w).In base → base.Ns mainGlobals mg → FnG gd0 l.prog w (K w) mg base CX0 k fa fd [x] (spLaw (K w))) :
    PySem.W.WalkO q loose XP YP l.row.toRowW d [] (fun f vs => PySem.call f vs) := by
  refine Att.attach_call hn hdf fun w s0 s1 mg mb fa o pm cd doc a vs ns G Y ho hd hcd hmg hobj hints hlen hg => ?_
  have KX := hY w _ Y
  obtain ⟨fd, hb, hF⟩ := F w mg fa _ KX G.T.g hmg
  refine law_callG KX G.T.g G.T.b G.T.builtins G.T.nolimit hg hobj hints (Nat.le_trans hlen (by decide)) hr hF hb fun H hO hS => ?_
  exact ⟨H, a, ns, rfl, ⟨Evl.Ex.refl H, fun b u z => nomatch z⟩, hS, hlen, fun _ => rfl⟩
theorem hend {w : World} {K : PySem.W.Frag} {mg : Str → Option Value} {fa : Addr} {h : Heap} (KX : K.In h) (G : h.Ns mainGlobals mg) (hmg : mg "law" = some (.ref fa)) (H : HF w K) : ∃ fd : FuncData, (∀ (s : Shared) (u : Value), BindsTo s fd ⟨[u], []⟩ [("script", u)]) ∧ ∀ base : Heap, K.In base → base.Ns mainGlobals mg → FnG gd0 PySem.Challenge.pw_evertreads_k12_whole_walks_step_by_step w K mg base CX0 7 fa fd ["script"] (spLaw K) := by
  have hh_0 : HF0 w K := H.1
  have hh_1 : HF1 w K := H.2.1
  have hh_2 : HF2 w K := H.2.2.1
  have hh_3 : HF3 w K := H.2.2.2.1
  have hh_4 : HF4 w K := H.2.2.2.2.1
  have hh_5 : HF5 w K := H.2.2.2.2.2.1
  have hh_6 : HF6 w K := H.2.2.2.2.2.2.1
  have hh_7 : HF7 w K := H.2.2.2.2.2.2.2
  refine' all_mk12 (K := K) KX G hmg ?aI ?lI ?cI ?kI ?aW ?lW ?cW ?kW ?aPa ?lPa ?cPa ?kPa ?aSq ?lSq ?cSq ?kSq ?aTi ?lTi ?cTi ?kTi ?aOd ?lOd ?cOd ?kOd ?aRo ?lRo ?cRo ?kRo ?aWy ?lWy ?cWy ?kWy ?aTu ?lTu ?cTu ?kTu ?aOn ?lOn ?cOn ?kOn ?aGo ?lGo ?cGo ?kGo ?aOf ?lOf ?cOf ?kOf ?aLa ?lLa ?cLa ?kLa ?aSi ?lSi ?cSi ?kSi ?aLt ?lLt ?cLt ?kLt ?aFs ?lFs ?cFs ?kFs ?aSa ?lSa ?cSa ?kSa ?aLU ?lLU ?cLU ?kLU ?aLS ?lLS ?cLS ?kLS ?aLP ?lLP ?cLP ?kLP ?aLr ?lLr ?cLr ?kLr ?aLb ?lLb ?cLb ?kLb ?aLw ?lLw ?cLw ?kLw ?aLo ?lLo ?cLo ?kLo ?aLp ?lLp ?cLp ?kLp ?aLf ?lLf ?cLf ?kLf ?aLm ?lLm ?cLm ?kLm ?aLz ?lLz ?cLz ?kLz ?aLR ?lLR ?cLR ?kLR ?aLL ?lLL ?cLL ?kLL ?aC ?cpg ?chd ?cpo ?csa ?n_row ?n_start ?n_way ?n_ways ?n_offsets ?n_drift ?n_lanes ?mmk ?mkp ?ai ?li0 ?ci0 ?fnI0 ?kpI0 ?lT0 ?lZ0 ?ata ?gta ?tka ?rca ?lpa ?cpa ?kpa ?atb ?gtb ?tkb ?rcb ?lpb ?cpb ?kpb ?atc ?gtc ?tkc ?rcc ?lpc ?cpc ?kpc ?ati ?fni ?lmi ?cmi ?kmi ?atj ?fnj ?lmj ?cmj ?kmj ?aTU ?lTU ?kTU ?oTU ?tR ?tB ?tL ?t1 ?t2 ?t3 ?t4 ?t5 ?t6 ?t7 ?t8 ?t9 ?aMO ?lMO ?kMO ?oMO ?sMO ?mN ?uN ?mE ?uE ?mS ?uS ?mW_ ?uW ?gW ?g1 ?g2 ?g3 ?z_isinstance ?z_int ?z_bool ?z_len ?z_tuple ?z_str ?z_list ?z_range ?z_abs ?z_all ?z_any ?z_divmod ?z_enumerate ?z_sorted ?z_sum ?z_min ?z_max
  (case aI => exact hh_0.1)
  (case lI => exact hh_0.2.1)
  (case cI => exact hh_0.2.2.1)
  (case kI => exact hh_0.2.2.2.1)
  (case aW => exact hh_0.2.2.2.2.1)
  (case lW => exact hh_0.2.2.2.2.2.1)
  (case cW => exact hh_0.2.2.2.2.2.2.1)
  (case kW => exact hh_0.2.2.2.2.2.2.2.1)
  (case aPa => exact hh_0.2.2.2.2.2.2.2.2.1)
  (case lPa => exact hh_0.2.2.2.2.2.2.2.2.2.1)
  (case cPa => exact hh_0.2.2.2.2.2.2.2.2.2.2.1)
  (case kPa => exact hh_0.2.2.2.2.2.2.2.2.2.2.2.1)
  (case aSq => exact hh_0.2.2.2.2.2.2.2.2.2.2.2.2.1)
  (case lSq => exact hh_0.2.2.2.2.2.2.2.2.2.2.2.2.2.1)
  (case cSq => exact hh_0.2.2.2.2.2.2.2.2.2.2.2.2.2.2.1)
  (case kSq => exact hh_0.2.2.2.2.2.2.2.2.2.2.2.2.2.2.2.1)
  (case aTi => exact hh_0.2.2.2.2.2.2.2.2.2.2.2.2.2.2.2.2.1)
  (case lTi => exact hh_0.2.2.2.2.2.2.2.2.2.2.2.2.2.2.2.2.2.1)
  (case cTi => exact hh_0.2.2.2.2.2.2.2.2.2.2.2.2.2.2.2.2.2.2.1)
  (case kTi => exact hh_0.2.2.2.2.2.2.2.2.2.2.2.2.2.2.2.2.2.2.2.1)
  (case aOd => exact hh_0.2.2.2.2.2.2.2.2.2.2.2.2.2.2.2.2.2.2.2.2.1)
  (case lOd => exact hh_0.2.2.2.2.2.2.2.2.2.2.2.2.2.2.2.2.2.2.2.2.2.1)
  (case cOd => exact hh_0.2.2.2.2.2.2.2.2.2.2.2.2.2.2.2.2.2.2.2.2.2.2.1)
  (case kOd => exact hh_0.2.2.2.2.2.2.2.2.2.2.2.2.2.2.2.2.2.2.2.2.2.2.2.1)
  (case aRo => exact hh_0.2.2.2.2.2.2.2.2.2.2.2.2.2.2.2.2.2.2.2.2.2.2.2.2.1)
  (case lRo => exact hh_0.2.2.2.2.2.2.2.2.2.2.2.2.2.2.2.2.2.2.2.2.2.2.2.2.2.1)
  (case cRo => exact hh_0.2.2.2.2.2.2.2.2.2.2.2.2.2.2.2.2.2.2.2.2.2.2.2.2.2.2.1)
  (case kRo => exact hh_0.2.2.2.2.2.2.2.2.2.2.2.2.2.2.2.2.2.2.2.2.2.2.2.2.2.2.2.1)
  (case aWy => exact hh_0.2.2.2.2.2.2.2.2.2.2.2.2.2.2.2.2.2.2.2.2.2.2.2.2.2.2.2.2.1)
  (case lWy => exact hh_0.2.2.2.2.2.2.2.2.2.2.2.2.2.2.2.2.2.2.2.2.2.2.2.2.2.2.2.2.2)
  (case cWy => exact hh_1.1)
  (case kWy => exact hh_1.2.1)
  (case aTu => exact hh_1.2.2.1)
  (case lTu => exact hh_1.2.2.2.1)
  (case cTu => exact hh_1.2.2.2.2.1)
  (case kTu => exact hh_1.2.2.2.2.2.1)
  (case aOn => exact hh_1.2.2.2.2.2.2.1)
  (case lOn => exact hh_1.2.2.2.2.2.2.2.1)
  (case cOn => exact hh_1.2.2.2.2.2.2.2.2.1)
  (case kOn => exact hh_1.2.2.2.2.2.2.2.2.2.1)
  (case aGo => exact hh_1.2.2.2.2.2.2.2.2.2.2.1)
  (case lGo => exact hh_1.2.2.2.2.2.2.2.2.2.2.2.1)
  (case cGo => exact hh_1.2.2.2.2.2.2.2.2.2.2.2.2.1)
  (case kGo => exact hh_1.2.2.2.2.2.2.2.2.2.2.2.2.2.1)
  (case aOf => exact hh_1.2.2.2.2.2.2.2.2.2.2.2.2.2.2.1)
  (case lOf => exact hh_1.2.2.2.2.2.2.2.2.2.2.2.2.2.2.2.1)
  (case cOf => exact hh_1.2.2.2.2.2.2.2.2.2.2.2.2.2.2.2.2.1)
  (case kOf => exact hh_1.2.2.2.2.2.2.2.2.2.2.2.2.2.2.2.2.2.1)
  (case aLa => exact hh_1.2.2.2.2.2.2.2.2.2.2.2.2.2.2.2.2.2.2.1)
  (case lLa => exact hh_1.2.2.2.2.2.2.2.2.2.2.2.2.2.2.2.2.2.2.2.1)
  (case cLa => exact hh_1.2.2.2.2.2.2.2.2.2.2.2.2.2.2.2.2.2.2.2.2.1)
  (case kLa => exact hh_1.2.2.2.2.2.2.2.2.2.2.2.2.2.2.2.2.2.2.2.2.2.1)
  (case aSi => exact hh_1.2.2.2.2.2.2.2.2.2.2.2.2.2.2.2.2.2.2.2.2.2.2.1)
  (case lSi => exact hh_1.2.2.2.2.2.2.2.2.2.2.2.2.2.2.2.2.2.2.2.2.2.2.2.1)
  (case cSi => exact hh_1.2.2.2.2.2.2.2.2.2.2.2.2.2.2.2.2.2.2.2.2.2.2.2.2.1)
  (case kSi => exact hh_1.2.2.2.2.2.2.2.2.2.2.2.2.2.2.2.2.2.2.2.2.2.2.2.2.2.1)
  (case aLt => exact hh_1.2.2.2.2.2.2.2.2.2.2.2.2.2.2.2.2.2.2.2.2.2.2.2.2.2.2.1)
  (case lLt => exact hh_1.2.2.2.2.2.2.2.2.2.2.2.2.2.2.2.2.2.2.2.2.2.2.2.2.2.2.2.1)
  (case cLt => exact hh_1.2.2.2.2.2.2.2.2.2.2.2.2.2.2.2.2.2.2.2.2.2.2.2.2.2.2.2.2.1)
  (case kLt => exact hh_1.2.2.2.2.2.2.2.2.2.2.2.2.2.2.2.2.2.2.2.2.2.2.2.2.2.2.2.2.2)
  (case aFs => exact hh_2.1)
  (case lFs => exact hh_2.2.1)
  (case cFs => exact hh_2.2.2.1)
  (case kFs => exact hh_2.2.2.2.1)
  (case aSa => exact hh_2.2.2.2.2.1)
  (case lSa => exact hh_2.2.2.2.2.2.1)
  (case cSa => exact hh_2.2.2.2.2.2.2.1)
  (case kSa => exact hh_2.2.2.2.2.2.2.2.1)
  (case aLU => exact hh_2.2.2.2.2.2.2.2.2.1)
  (case lLU => exact hh_2.2.2.2.2.2.2.2.2.2.1)
  (case cLU => exact hh_2.2.2.2.2.2.2.2.2.2.2.1)
  (case kLU => exact hh_2.2.2.2.2.2.2.2.2.2.2.2.1)
  (case aLS => exact hh_2.2.2.2.2.2.2.2.2.2.2.2.2.1)
  (case lLS => exact hh_2.2.2.2.2.2.2.2.2.2.2.2.2.2.1)
  (case cLS => exact hh_2.2.2.2.2.2.2.2.2.2.2.2.2.2.2.1)
  (case kLS => exact hh_2.2.2.2.2.2.2.2.2.2.2.2.2.2.2.2.1)
  (case aLP => exact hh_2.2.2.2.2.2.2.2.2.2.2.2.2.2.2.2.2.1)
  (case lLP => exact hh_2.2.2.2.2.2.2.2.2.2.2.2.2.2.2.2.2.2.1)
  (case cLP => exact hh_2.2.2.2.2.2.2.2.2.2.2.2.2.2.2.2.2.2.2.1)
  (case kLP => exact hh_2.2.2.2.2.2.2.2.2.2.2.2.2.2.2.2.2.2.2.2.1)
  (case aLr => exact hh_2.2.2.2.2.2.2.2.2.2.2.2.2.2.2.2.2.2.2.2.2.1)
  (case lLr => exact hh_2.2.2.2.2.2.2.2.2.2.2.2.2.2.2.2.2.2.2.2.2.2.1)
  (case cLr => exact hh_2.2.2.2.2.2.2.2.2.2.2.2.2.2.2.2.2.2.2.2.2.2.2.1)
  (case kLr => exact hh_2.2.2.2.2.2.2.2.2.2.2.2.2.2.2.2.2.2.2.2.2.2.2.2.1)
  (case aLb => exact hh_2.2.2.2.2.2.2.2.2.2.2.2.2.2.2.2.2.2.2.2.2.2.2.2.2.1)
  (case lLb => exact hh_2.2.2.2.2.2.2.2.2.2.2.2.2.2.2.2.2.2.2.2.2.2.2.2.2.2.1)
  (case cLb => exact hh_2.2.2.2.2.2.2.2.2.2.2.2.2.2.2.2.2.2.2.2.2.2.2.2.2.2.2.1)
  (case kLb => exact hh_2.2.2.2.2.2.2.2.2.2.2.2.2.2.2.2.2.2.2.2.2.2.2.2.2.2.2.2.1)
  (case aLw => exact hh_2.2.2.2.2.2.2.2.2.2.2.2.2.2.2.2.2.2.2.2.2.2.2.2.2.2.2.2.2.1)
  (case lLw => exact hh_2.2.2.2.2.2.2.2.2.2.2.2.2.2.2.2.2.2.2.2.2.2.2.2.2.2.2.2.2.2)
  (case cLw => exact hh_3.1)
  (case kLw => exact hh_3.2.1)
  (case aLo => exact hh_3.2.2.1)
  (case lLo => exact hh_3.2.2.2.1)
  (case cLo => exact hh_3.2.2.2.2.1)
  (case kLo => exact hh_3.2.2.2.2.2.1)
  (case aLp => exact hh_3.2.2.2.2.2.2.1)
  (case lLp => exact hh_3.2.2.2.2.2.2.2.1)
  (case cLp => exact hh_3.2.2.2.2.2.2.2.2.1)
  (case kLp => exact hh_3.2.2.2.2.2.2.2.2.2.1)
  (case aLf => exact hh_3.2.2.2.2.2.2.2.2.2.2.1)
  (case lLf => exact hh_3.2.2.2.2.2.2.2.2.2.2.2.1)
  (case cLf => exact hh_3.2.2.2.2.2.2.2.2.2.2.2.2.1)
  (case kLf => exact hh_3.2.2.2.2.2.2.2.2.2.2.2.2.2.1)
  (case aLm => exact hh_3.2.2.2.2.2.2.2.2.2.2.2.2.2.2.1)
  (case lLm => exact hh_3.2.2.2.2.2.2.2.2.2.2.2.2.2.2.2.1)
  (case cLm => exact hh_3.2.2.2.2.2.2.2.2.2.2.2.2.2.2.2.2.1)
  (case kLm => exact hh_3.2.2.2.2.2.2.2.2.2.2.2.2.2.2.2.2.2.1)
  (case aLz => exact hh_3.2.2.2.2.2.2.2.2.2.2.2.2.2.2.2.2.2.2.1)
  (case lLz => exact hh_3.2.2.2.2.2.2.2.2.2.2.2.2.2.2.2.2.2.2.2.1)
  (case cLz => exact hh_3.2.2.2.2.2.2.2.2.2.2.2.2.2.2.2.2.2.2.2.2.1)
  (case kLz => exact hh_3.2.2.2.2.2.2.2.2.2.2.2.2.2.2.2.2.2.2.2.2.2.1)
  (case aLR => exact hh_3.2.2.2.2.2.2.2.2.2.2.2.2.2.2.2.2.2.2.2.2.2.2.1)
  (case lLR => exact hh_3.2.2.2.2.2.2.2.2.2.2.2.2.2.2.2.2.2.2.2.2.2.2.2.1)
  (case cLR => exact hh_3.2.2.2.2.2.2.2.2.2.2.2.2.2.2.2.2.2.2.2.2.2.2.2.2.1)
  (case kLR => exact hh_3.2.2.2.2.2.2.2.2.2.2.2.2.2.2.2.2.2.2.2.2.2.2.2.2.2.1)
  (case aLL => exact hh_3.2.2.2.2.2.2.2.2.2.2.2.2.2.2.2.2.2.2.2.2.2.2.2.2.2.2.1)
  (case lLL => exact hh_3.2.2.2.2.2.2.2.2.2.2.2.2.2.2.2.2.2.2.2.2.2.2.2.2.2.2.2.1)
  (case cLL => exact hh_3.2.2.2.2.2.2.2.2.2.2.2.2.2.2.2.2.2.2.2.2.2.2.2.2.2.2.2.2.1)
  (case kLL => exact hh_3.2.2.2.2.2.2.2.2.2.2.2.2.2.2.2.2.2.2.2.2.2.2.2.2.2.2.2.2.2)
  (case aC => exact hh_4.1)
  (case cpg => exact hh_4.2.1)
  (case chd => exact hh_4.2.2.1)
  (case cpo => exact hh_4.2.2.2.1)
  (case csa => exact hh_4.2.2.2.2.1)
  (case n_row => exact hh_4.2.2.2.2.2.1)
  (case n_start => exact hh_4.2.2.2.2.2.2.1)
  (case n_way => exact hh_4.2.2.2.2.2.2.2.1)
  (case n_ways => exact hh_4.2.2.2.2.2.2.2.2.1)
  (case n_offsets => exact hh_4.2.2.2.2.2.2.2.2.2.1)
  (case n_drift => exact hh_4.2.2.2.2.2.2.2.2.2.2.1)
  (case n_lanes => exact hh_4.2.2.2.2.2.2.2.2.2.2.2.1)
  (case mmk => exact hh_4.2.2.2.2.2.2.2.2.2.2.2.2.1)
  (case mkp => exact hh_4.2.2.2.2.2.2.2.2.2.2.2.2.2.1)
  (case ai => exact hh_4.2.2.2.2.2.2.2.2.2.2.2.2.2.2.1)
  (case li0 => exact hh_4.2.2.2.2.2.2.2.2.2.2.2.2.2.2.2.1)
  (case ci0 => exact hh_4.2.2.2.2.2.2.2.2.2.2.2.2.2.2.2.2.1)
  (case fnI0 => exact hh_4.2.2.2.2.2.2.2.2.2.2.2.2.2.2.2.2.2.1)
  (case kpI0 => exact hh_4.2.2.2.2.2.2.2.2.2.2.2.2.2.2.2.2.2.2.1)
  (case lT0 => exact hh_4.2.2.2.2.2.2.2.2.2.2.2.2.2.2.2.2.2.2.2.1)
  (case lZ0 => exact hh_4.2.2.2.2.2.2.2.2.2.2.2.2.2.2.2.2.2.2.2.2.1)
  (case ata => exact hh_4.2.2.2.2.2.2.2.2.2.2.2.2.2.2.2.2.2.2.2.2.2.1)
  (case gta => exact hh_4.2.2.2.2.2.2.2.2.2.2.2.2.2.2.2.2.2.2.2.2.2.2.1)
  (case tka => exact hh_4.2.2.2.2.2.2.2.2.2.2.2.2.2.2.2.2.2.2.2.2.2.2.2.1)
  (case rca => exact hh_4.2.2.2.2.2.2.2.2.2.2.2.2.2.2.2.2.2.2.2.2.2.2.2.2.1)
  (case lpa => exact hh_4.2.2.2.2.2.2.2.2.2.2.2.2.2.2.2.2.2.2.2.2.2.2.2.2.2.1)
  (case cpa => exact hh_4.2.2.2.2.2.2.2.2.2.2.2.2.2.2.2.2.2.2.2.2.2.2.2.2.2.2.1)
  (case kpa => exact hh_4.2.2.2.2.2.2.2.2.2.2.2.2.2.2.2.2.2.2.2.2.2.2.2.2.2.2.2.1)
  (case atb => exact hh_4.2.2.2.2.2.2.2.2.2.2.2.2.2.2.2.2.2.2.2.2.2.2.2.2.2.2.2.2.1)
  (case gtb => exact hh_4.2.2.2.2.2.2.2.2.2.2.2.2.2.2.2.2.2.2.2.2.2.2.2.2.2.2.2.2.2)
  (case tkb => exact hh_5.1)
  (case rcb => exact hh_5.2.1)
  (case lpb => exact hh_5.2.2.1)
  (case cpb => exact hh_5.2.2.2.1)
  (case kpb => exact hh_5.2.2.2.2.1)
  (case atc => exact hh_5.2.2.2.2.2.1)
  (case gtc => exact hh_5.2.2.2.2.2.2.1)
  (case tkc => exact hh_5.2.2.2.2.2.2.2.1)
  (case rcc => exact hh_5.2.2.2.2.2.2.2.2.1)
  (case lpc => exact hh_5.2.2.2.2.2.2.2.2.2.1)
  (case cpc => exact hh_5.2.2.2.2.2.2.2.2.2.2.1)
  (case kpc => exact hh_5.2.2.2.2.2.2.2.2.2.2.2.1)
  (case ati => exact hh_5.2.2.2.2.2.2.2.2.2.2.2.2.1)
  (case fni => exact hh_5.2.2.2.2.2.2.2.2.2.2.2.2.2.1)
  (case lmi => exact hh_5.2.2.2.2.2.2.2.2.2.2.2.2.2.2.1)
  (case cmi => exact hh_5.2.2.2.2.2.2.2.2.2.2.2.2.2.2.2.1)
  (case kmi => exact hh_5.2.2.2.2.2.2.2.2.2.2.2.2.2.2.2.2.1)
  (case atj => exact hh_5.2.2.2.2.2.2.2.2.2.2.2.2.2.2.2.2.2.1)
  (case fnj => exact hh_5.2.2.2.2.2.2.2.2.2.2.2.2.2.2.2.2.2.2.1)
  (case lmj => exact hh_5.2.2.2.2.2.2.2.2.2.2.2.2.2.2.2.2.2.2.2.1)
  (case cmj => exact hh_5.2.2.2.2.2.2.2.2.2.2.2.2.2.2.2.2.2.2.2.2.1)
  (case kmj => exact hh_5.2.2.2.2.2.2.2.2.2.2.2.2.2.2.2.2.2.2.2.2.2.1)
  (case aTU => exact hh_5.2.2.2.2.2.2.2.2.2.2.2.2.2.2.2.2.2.2.2.2.2.2.1)
  (case lTU => exact hh_5.2.2.2.2.2.2.2.2.2.2.2.2.2.2.2.2.2.2.2.2.2.2.2.1)
  (case kTU => exact hkeys (hh_5.2.2.2.2.2.2.2.2.2.2.2.2.2.2.2.2.2.2.2.2.2.2.2.2.1))
  (case oTU => exact by decide)
  (case tR => exact hh_5.2.2.2.2.2.2.2.2.2.2.2.2.2.2.2.2.2.2.2.2.2.2.2.2.2.1)
  (case tB => exact hh_5.2.2.2.2.2.2.2.2.2.2.2.2.2.2.2.2.2.2.2.2.2.2.2.2.2.2.1)
  (case tL => exact hh_5.2.2.2.2.2.2.2.2.2.2.2.2.2.2.2.2.2.2.2.2.2.2.2.2.2.2.2.1)
  (case t1 => exact hh_5.2.2.2.2.2.2.2.2.2.2.2.2.2.2.2.2.2.2.2.2.2.2.2.2.2.2.2.2.1)
  (case t2 => exact hh_5.2.2.2.2.2.2.2.2.2.2.2.2.2.2.2.2.2.2.2.2.2.2.2.2.2.2.2.2.2)
  (case t3 => exact hh_6.1)
  (case t4 => exact hh_6.2.1)
  (case t5 => exact hh_6.2.2.1)
  (case t6 => exact hh_6.2.2.2.1)
  (case t7 => exact hh_6.2.2.2.2.1)
  (case t8 => exact hh_6.2.2.2.2.2.1)
  (case t9 => exact hh_6.2.2.2.2.2.2.1)
  (case aMO => exact hh_6.2.2.2.2.2.2.2.1)
  (case lMO => exact hh_6.2.2.2.2.2.2.2.2.1)
  (case kMO => exact hkeys (hh_6.2.2.2.2.2.2.2.2.2.1))
  (case oMO => exact by decide)
  (case sMO => exact hh_6.2.2.2.2.2.2.2.2.2.2.1)
  (case mN => exact hh_6.2.2.2.2.2.2.2.2.2.2.2.1)
  (case uN => exact hh_6.2.2.2.2.2.2.2.2.2.2.2.2.1)
  (case mE => exact hh_6.2.2.2.2.2.2.2.2.2.2.2.2.2.1)
  (case uE => exact hh_6.2.2.2.2.2.2.2.2.2.2.2.2.2.2.1)
  (case mS => exact hh_6.2.2.2.2.2.2.2.2.2.2.2.2.2.2.2.1)
  (case uS => exact hh_6.2.2.2.2.2.2.2.2.2.2.2.2.2.2.2.2.1)
  (case mW_ => exact hh_6.2.2.2.2.2.2.2.2.2.2.2.2.2.2.2.2.2.1)
  (case uW => exact hh_6.2.2.2.2.2.2.2.2.2.2.2.2.2.2.2.2.2.2.1)
  (case gW => exact hh_6.2.2.2.2.2.2.2.2.2.2.2.2.2.2.2.2.2.2.2.1)
  (case g1 => exact hh_6.2.2.2.2.2.2.2.2.2.2.2.2.2.2.2.2.2.2.2.2.1)
  (case g2 => exact hh_6.2.2.2.2.2.2.2.2.2.2.2.2.2.2.2.2.2.2.2.2.2.1)
  (case g3 => exact hh_6.2.2.2.2.2.2.2.2.2.2.2.2.2.2.2.2.2.2.2.2.2.2.1)
  (case z_isinstance => exact hh_6.2.2.2.2.2.2.2.2.2.2.2.2.2.2.2.2.2.2.2.2.2.2.2.1)
  (case z_int => exact hh_6.2.2.2.2.2.2.2.2.2.2.2.2.2.2.2.2.2.2.2.2.2.2.2.2.1)
  (case z_bool => exact hh_6.2.2.2.2.2.2.2.2.2.2.2.2.2.2.2.2.2.2.2.2.2.2.2.2.2.1)
  (case z_len => exact hh_6.2.2.2.2.2.2.2.2.2.2.2.2.2.2.2.2.2.2.2.2.2.2.2.2.2.2.1)
  (case z_tuple => exact hh_6.2.2.2.2.2.2.2.2.2.2.2.2.2.2.2.2.2.2.2.2.2.2.2.2.2.2.2.1)
  (case z_str => exact hh_6.2.2.2.2.2.2.2.2.2.2.2.2.2.2.2.2.2.2.2.2.2.2.2.2.2.2.2.2.1)
  (case z_list => exact hh_6.2.2.2.2.2.2.2.2.2.2.2.2.2.2.2.2.2.2.2.2.2.2.2.2.2.2.2.2.2)
  (case z_range => exact hh_7.1)
  (case z_abs => exact hh_7.2.1)
  (case z_all => exact hh_7.2.2.1)
  (case z_any => exact hh_7.2.2.2.1)
  (case z_divmod => exact hh_7.2.2.2.2.1)
  (case z_enumerate => exact hh_7.2.2.2.2.2.1)
  (case z_sorted => exact hh_7.2.2.2.2.2.2.1)
  (case z_sum => exact hh_7.2.2.2.2.2.2.2.1)
  (case z_min => exact hh_7.2.2.2.2.2.2.2.2.1)
  (case z_max => exact hh_7.2.2.2.2.2.2.2.2.2)
end K2
open PySem PySem.W PyProof.Rows
set_option maxRecDepth 100000 in
set_option maxHeartbeats 0 in
theorem PySem.Challenge.cw_evertreads_k12_whole_walks_step_by_step_holds : PySem.Challenge.rw_evertreads_k12_whole_walks_step_by_step.Holds := by
  w_on; o_law
  refine holds_open (r := K2.hrow) (q := K2.hview) (loose := K2.hnames) (XP := XL K2.hview []) (YP := K2.hhook.says) (kwd := []) K2.hleft K2.hhook.of K2.hhook.keeps (fun s z => xl_of s (Bool.and_eq_true_iff.mp z).1) XL.keeps (by rfl) (by rfl) (by rfl) (fun s z => recFacts_of (Bool.and_eq_true_iff.mp z).2) (by rfl) (by first | assumption | decide +kernel) (by decide +kernel) ⟨rfl, rfl, rfl, rfl, rfl, by decide +kernel⟩ ?hw ?hc
  case hw => w_witness2
  case hc =>
    refine K2.hwalk (l := PySem.Challenge.rw_evertreads_k12_whole_walks_step_by_step) (K := K2.hK) (k := 7) (x := "script") rfl rfl ⟨rfl, by decide, by decide⟩ (fun w h Y => Y) ?_
    exact fun w mg fa h KX G hmg => K2.hend KX G hmg (K2.hfacts w)
