import PyProof.Rows.All
import Wide.All
import OpenK.AllK
import Wide.FinOn
import Lean
import PyProof.EqAt
import PyProof.EqKinds
import PyProof.TupleCall
import KE.KSortTup
import PySem.Challenge.RW_sluice_k61_harm
set_option Elab.async false
set_option linter.all false
set_option maxRecDepth 100000
set_option maxHeartbeats 4000000
local macro_rules | `(tactic| omega) => `(tactic| first | lia | omega (splitDisjunctions := true))
namespace L2
open PySem
def aF (s:Stmt):Arguments:=match s with
  | .FunctionDef _ a _ _ _ _ _ _ _ _=>a
  | _=>{ posonlyargs:=[],args:=[],vararg:=none,kwonlyargs:=[],kw_defaults:=[],kwarg:=none,defaults:=[] }
def aD (s:Stmt):List Stmt:=match s with
  | .FunctionDef _ _ b _ _ _ _ _ _ _=>b
  | _=>[]
def ao (s:Stmt):Scope:=match s with
  | .FunctionDef _ _ _ _ _ _ sc _ _ _=>sc
  | _=>{ kind:=.function,names:=[],isGenerator:=false,isCoroutine:=false }
end L2
namespace My
open PySem L2
noncomputable def top0 (i:Nat):Stmt:=PySem.Challenge.pw_sluice_k61_harm.main.body.getD i (.Pass ⟨0,0,0,0⟩)
noncomputable def en (P:Params) (x:Str) (t:Tok) (v:Value):DictEntry:=⟨PyData.keyHash P x,.str x t,v⟩
noncomputable section
def tq (a:Array Value):Obj:={ cls:=.type "tuple",data:=.seq a }
def fc (a:Array Value):Obj:={ cls:=.type "code",data:=.fields a }
def cp (n:Nat):Value:=.str "/claim/cut.py" n
def pr0 (x:Str) (i:Nat):Obj:={ cls:=.none,data:=.func { name:=x,qualname:=x,params:=aF (top0 i),body:=.stmts (aD (top0 i)),scope:=ao (top0 i),globals:=0,closure:=[],defaults:=.none,kwdefaults:=.none } }
def T5 (P:Params):Obj:={ cls:=.type "dict",data:=Data.dict #[en P "__name__" 1 (.str "builtins" 160),en P "__doc__" 2 (.builtin "builtins.__doc__:str#opaque"),en P "__package__" 3 (.builtin "builtins.__package__:str#opaque"),en P "__loader__" 4 (.builtin "builtins.__loader__:shared#opaque"),en P "__spec__" 5 (.builtin "builtins.__spec__#opaque"),en P "__build_class__" 6 (.builtin "__build_class__"),en P "__import__" 7 (.builtin "__import__"),en P "abs" 8 (.builtin "abs"),en P "all" 9 (.builtin "all"),en P "any" 10 (.builtin "any"),en P "ascii" 11 (.builtin "ascii"),en P "bin" 12 (.builtin "bin"),en P "breakpoint" 13 (.builtin "breakpoint"),en P "callable" 14 (.builtin "callable"),en P "chr" 15 (.builtin "chr"),en P "compile" 16 (.builtin "compile"),en P "delattr" 17 (.builtin "delattr"),en P "dir" 18 (.builtin "dir"),en P "divmod" 19 (.builtin "divmod"),en P "eval" 20 (.builtin "eval"),en P "exec" 21 (.builtin "exec"),en P "format" 22 (.builtin "format"),en P "getattr" 23 (.builtin "getattr"),en P "globals" 24 (.builtin "globals"),en P "hasattr" 25 (.builtin "hasattr"),en P "hash" 26 (.builtin "hash"),en P "hex" 27 (.builtin "hex"),en P "id" 28 (.builtin "id"),en P "input" 29 (.builtin "input"),en P "isinstance" 30 (.builtin "isinstance"),en P "issubclass" 31 (.builtin "issubclass"),en P "iter" 32 (.builtin "iter"),en P "aiter" 33 (.builtin "aiter"),en P "len" 34 (.builtin "len"),en P "locals" 35 (.builtin "locals"),en P "max" 36 (.builtin "max"),en P "min" 37 (.builtin "min"),en P "next" 38 (.builtin "next"),en P "anext" 39 (.builtin "anext"),en P "oct" 40 (.builtin "oct"),en P "ord" 41 (.builtin "ord"),en P "pow" 42 (.builtin "pow"),en P "print" 43 (.builtin "print"),en P "repr" 44 (.builtin "repr"),en P "round" 45 (.builtin "round"),en P "setattr" 46 (.builtin "setattr"),en P "sorted" 47 (.builtin "sorted"),en P "sum" 48 (.builtin "sum"),en P "vars" 49 (.builtin "vars"),en P "None" 50 .none,en P "Ellipsis" 51 .ellipsis,en P "NotImplemented" 52 .notImplemented,en P "False" 53 (.bool false),en P "True" 54 (.bool true),en P "bool" 55 (.type "bool"),en P "memoryview" 56 (.type "memoryview"),en P "bytearray" 57 (.type "bytearray"),en P "bytes" 58 (.type "bytes"),en P "classmethod" 59 (.type "classmethod"),en P "complex" 60 (.type "complex"),en P "dict" 61 (.type "dict"),en P "enumerate" 62 (.type "enumerate"),en P "filter" 63 (.type "filter"),en P "float" 64 (.type "float"),en P "frozenset" 65 (.type "frozenset"),en P "property" 66 (.type "property"),en P "int" 67 (.type "int"),en P "list" 68 (.type "list"),en P "map" 69 (.type "map"),en P "object" 70 (.type "object"),en P "range" 71 (.type "range"),en P "reversed" 72 (.type "reversed"),en P "set" 73 (.type "set"),en P "slice" 74 (.type "slice"),en P "staticmethod" 75 (.type "staticmethod"),en P "str" 76 (.type "str"),en P "super" 77 (.type "super"),en P "tuple" 78 (.type "tuple"),en P "type" 79 (.type "type"),en P "zip" 80 (.type "zip"),en P "__debug__" 81 (.bool true),en P "BaseException" 82 (.type "BaseException"),en P "BaseExceptionGroup" 83 (.type "BaseExceptionGroup"),en P "Exception" 84 (.type "Exception"),en P "GeneratorExit" 85 (.type "GeneratorExit"),en P "KeyboardInterrupt" 86 (.type "KeyboardInterrupt"),en P "SystemExit" 87 (.type "SystemExit"),en P "ArithmeticError" 88 (.type "ArithmeticError"),en P "AssertionError" 89 (.type "AssertionError"),en P "AttributeError" 90 (.type "AttributeError"),en P "BufferError" 91 (.type "BufferError"),en P "EOFError" 92 (.type "EOFError"),en P "ImportError" 93 (.type "ImportError"),en P "LookupError" 94 (.type "LookupError"),en P "MemoryError" 95 (.type "MemoryError"),en P "NameError" 96 (.type "NameError"),en P "OSError" 97 (.type "OSError"),en P "ReferenceError" 98 (.type "ReferenceError"),en P "RuntimeError" 99 (.type "RuntimeError"),en P "StopAsyncIteration" 100 (.type "StopAsyncIteration"),en P "StopIteration" 101 (.type "StopIteration"),en P "SyntaxError" 102 (.type "SyntaxError"),en P "SystemError" 103 (.type "SystemError"),en P "TypeError" 104 (.type "TypeError"),en P "ValueError" 105 (.type "ValueError"),en P "Warning" 106 (.type "Warning"),en P "FloatingPointError" 107 (.type "FloatingPointError"),en P "OverflowError" 108 (.type "OverflowError"),en P "ZeroDivisionError" 109 (.type "ZeroDivisionError"),en P "BytesWarning" 110 (.type "BytesWarning"),en P "DeprecationWarning" 111 (.type "DeprecationWarning"),en P "EncodingWarning" 112 (.type "EncodingWarning"),en P "FutureWarning" 113 (.type "FutureWarning"),en P "ImportWarning" 114 (.type "ImportWarning"),en P "PendingDeprecationWarning" 115 (.type "PendingDeprecationWarning"),en P "ResourceWarning" 116 (.type "ResourceWarning"),en P "RuntimeWarning" 117 (.type "RuntimeWarning"),en P "SyntaxWarning" 118 (.type "SyntaxWarning"),en P "UnicodeWarning" 119 (.type "UnicodeWarning"),en P "UserWarning" 120 (.type "UserWarning"),en P "BlockingIOError" 121 (.type "BlockingIOError"),en P "ChildProcessError" 122 (.type "ChildProcessError"),en P "ConnectionError" 123 (.type "ConnectionError"),en P "FileExistsError" 124 (.type "FileExistsError"),en P "FileNotFoundError" 125 (.type "FileNotFoundError"),en P "InterruptedError" 126 (.type "InterruptedError"),en P "IsADirectoryError" 127 (.type "IsADirectoryError"),en P "NotADirectoryError" 128 (.type "NotADirectoryError"),en P "PermissionError" 129 (.type "PermissionError"),en P "ProcessLookupError" 130 (.type "ProcessLookupError"),en P "TimeoutError" 131 (.type "TimeoutError"),en P "IndentationError" 132 (.type "IndentationError"),en P "_IncompleteInputError" 133 (.type "_IncompleteInputError"),en P "IndexError" 134 (.type "IndexError"),en P "KeyError" 135 (.type "KeyError"),en P "ModuleNotFoundError" 136 (.type "ModuleNotFoundError"),en P "NotImplementedError" 137 (.type "NotImplementedError"),en P "PythonFinalizationError" 138 (.type "PythonFinalizationError"),en P "RecursionError" 139 (.type "RecursionError"),en P "UnboundLocalError" 140 (.type "UnboundLocalError"),en P "UnicodeError" 141 (.type "UnicodeError"),en P "BrokenPipeError" 142 (.type "BrokenPipeError"),en P "ConnectionAbortedError" 143 (.type "ConnectionAbortedError"),en P "ConnectionRefusedError" 144 (.type "ConnectionRefusedError"),en P "ConnectionResetError" 145 (.type "ConnectionResetError"),en P "TabError" 146 (.type "TabError"),en P "UnicodeDecodeError" 147 (.type "UnicodeDecodeError"),en P "UnicodeEncodeError" 148 (.type "UnicodeEncodeError"),en P "UnicodeTranslateError" 149 (.type "UnicodeTranslateError"),en P "ExceptionGroup" 150 (.type "ExceptionGroup"),en P "EnvironmentError" 151 (.type "OSError"),en P "IOError" 152 (.type "OSError"),en P "open" 153 (.builtin "open"),en P "quit" 154 (.builtin "builtins.quit#opaque"),en P "exit" 155 (.builtin "builtins.exit#opaque"),en P "copyright" 156 (.builtin "builtins.copyright#opaque"),en P "credits" 157 (.builtin "builtins.credits#opaque"),en P "license" 158 (.builtin "builtins.license#opaque"),en P "help" 159 (.builtin "builtins.help#opaque")] 159 }
def T4 (P:Params):Obj:={ cls:=.type "dict",data:=Data.dict #[en P "builtins" 162 (.ref 4),en P "__main__" 163 (.ref 5)] 2 }
def R6 (P:Params):Obj:={ cls:=.none,data:=Data.dict #[] }
def ho_4 (P:Params):Obj:={ cls:=.type "dict",data:=Data.dict #[en P "__name__" 165 (.str "__main__" 164),en P "__doc__" 166 .none,en P "__package__" 167 .none,en P "__loader__" 168 (.builtin "__main__.__loader__#opaque"),en P "__spec__" 169 .none,en P "__annotations__" 170 (.ref 6),en P "__builtins__" 171 (.ref 4),en P "__file__" 173 (cp 172),en P "__cached__" 174 .none] 9 }
def T3 (P:Params):Obj:={ cls:=.type "module",dict:=some 0 }
def TY (P:Params):Obj:={ cls:=.type "module",dict:=some 3 }
def TV (P:Params):Obj:={ cls:=.type "dict",data:=Data.dict #[] }
def TQ (P:Params):Obj:=(tq #[])
def TJ (P:Params):Obj:={ cls:=.none,data:=Data.fields #[] }
def PN (P:Params):Obj:=(fc #[.str "<module>" 176,.str "<module>" 177,cp 178,.int 1 0,.int 0 0,.int 0 0,.int 0 0,.int 0 0,.ref 7,.bool false,.int 175 0,.ref 8,.none,.none,.none,.none,.int 179 0,.int 1 0,cp 180])
def Py (P:Params):Obj:={ cls:=.type "frame",slots:=#[some (.ref 9),some (.ref 3),some (.ref 3),none,some (.str "__main__" 164),none,some (.ref 0)] }
def Ph (P:Params):Obj:={ cls:=.type "dict",data:=Data.dict #[en P "__name__" 165 (.str "law_sluice_k61_harm" 421),en P "__doc__" 166 .none,en P "__package__" 167 .none,en P "__loader__" 168 (.builtin "__main__.__loader__#opaque"),en P "__spec__" 169 .none,en P "__annotations__" 170 (.ref 6),en P "__builtins__" 171 (.ref 4),en P "__file__" 173 (cp 172),en P "__cached__" 174 .none,en P "SluiceError" 206 (.ref 24),en P "NoReach" 222 (.ref 37),en P "MOUTH" 227 (.int (-1) 226),en P "way_of" 236 (.ref 46),en P "tops_first" 244 (.ref 53),en P "stretch_of" 254 (.ref 60),en P "natural_of" 266 (.ref 67),en P "reaches_of" 280 (.ref 74),en P "day_filed" 287 (.ref 81),en P "most_of" 294 (.ref 88),en P "with_start" 302 (.ref 95),en P "ranked" 310 (.ref 102),en P "groups_of" 319 (.ref 109),en P "wants_of" 325 (.ref 114),en P "count_ways" 338 (.ref 121),en P "whole_turns" 344 (.ref 126),en P "draw" 354 (.ref 133),en P "take_whole_turns" 360 (.ref 138),en P "take_one_turn" 366 (.ref 143),en P "deal_turns" 378 (.ref 150),en P "deal" 386 (.ref 155),en P "moved" 398 (.ref 162),en P "harm_of" 420 (.ref 169),en P "_law_cell_at" 430 (.ref 176),en P "_law_whole" 437 (.ref 183),en P "_law_pebble" 446 (.ref 190),en P "_law_pebbles" 452 (.ref 195),en P "_law_river" 466 (.ref 202),en P "_law_walk" 477 (.ref 209),en P "_law_amount" 485 (.ref 216),en P "_law_licence" 497 (.ref 223),en P "_law_day" 503 (.ref 228),en P "_law_free" 518 (.ref 235),en P "_law_is_shown" 535 (.ref 242),en P "_law_dealt" 549 (.ref 249),en P "_law_due" 567 (.ref 256),en P "_law_alike" 573 (.ref 261),en P "law" 579 (.ref 266)] 47 }
def Sy (P:Params):Obj:=(tq #[])
def Sx (P:Params):Obj:={ cls:=.none,data:=Data.fields #[.int 2 0,.int 0 0,.ref 20,.int 4 0,.int 0 0,.ref 33,.int 8 0,.int 0 0,.ref 45,.int 13 0,.int 0 0,.ref 52,.int 15 0,.int 0 0,.ref 59,.int 23 0,.int 0 0,.ref 66,.int 30 0,.int 0 0,.ref 73,.int 33 0,.int 0 0,.ref 80,.int 35 0,.int 0 0,.ref 87,.int 37 0,.int 0 0,.ref 94,.int 39 0,.int 0 0,.ref 101,.int 41 0,.int 0 0,.ref 108,.int 46 0,.int 0 0,.ref 113,.int 49 0,.int 0 0,.ref 120,.int 55 0,.int 0 0,.ref 125,.int 59 0,.int 0 0,.ref 132,.int 62 0,.int 0 0,.ref 137,.int 68 0,.int 0 0,.ref 142,.int 76 0,.int 0 0,.ref 149,.int 85 0,.int 0 0,.ref 154,.int 96 0,.int 0 0,.ref 161,.int 100 0,.int 0 0,.ref 168,.int 112 0,.int 0 0,.ref 175,.int 116 0,.int 0 0,.ref 182,.int 118 0,.int 0 0,.ref 189,.int 121 0,.int 0 0,.ref 194,.int 123 0,.int 0 0,.ref 201,.int 142 0,.int 0 0,.ref 208,.int 149 0,.int 0 0,.ref 215,.int 153 0,.int 0 0,.ref 222,.int 160 0,.int 0 0,.ref 227,.int 167 0,.int 0 0,.ref 234,.int 176 0,.int 0 0,.ref 241,.int 188 0,.int 0 0,.ref 248,.int 202 0,.int 0 0,.ref 255,.int 216 0,.int 0 0,.ref 260,.int 222 0,.int 0 0,.ref 265] }
def Sw (P:Params):Obj:=(fc #[.str "<module>" 182,.str "<module>" 183,cp 184,.int 1 0,.int 0 0,.int 0 0,.int 0 0,.int 0 0,.ref 11,.bool false,.int 181 0,.ref 12,.none,.none,.none,.none,.int 185 0,.int 1 0,cp 186])
def Sv (P:Params):Obj:={ cls:=.type "frame",slots:=#[some (.ref 13),some (.ref 3),some (.ref 3),none,some (.str "__main__" 164),none,some (.ref 0)] }
def Oh (P:Params):Obj:=(tq #[.type "ValueError"])
def Ss (P:Params):Obj:={ cls:=.type "builtin_function_or_method",data:=Data.fields #[.builtin "type.__prepare__",.type "type"] }
def Sq (P:Params):Obj:={ cls:=.type "dict",data:=Data.dict #[en P "__module__" 196 (.str "sluice.errors" 187),en P "__qualname__" 198 (.str "SluiceError" 197),en P "__firstlineno__" 200 (.int 2 199),en P "__static_attributes__" 201 (.ref 22)] 4 }
def Sg (P:Params):Obj:=(tq #[])
def Sd (P:Params):Obj:={ cls:=.none,data:=Data.fields #[] }
def R9 (P:Params):Obj:=(fc #[.str "SluiceError" 191,.str "SluiceError" 192,cp 193,.int 2 0,.int 0 0,.int 0 0,.int 0 0,.int 0 0,.ref 18,.bool false,.int 181 0,.ref 19,.none,.none,.none,.none,.int 194 0,.int 2 0,cp 195])
def R8 (P:Params):Obj:={ cls:=.type "frame",slots:=#[some (.ref 20),some (.ref 3),some (.ref 17),none,some (.str "sluice.errors" 187),none,some (.ref 0)] }
def Nr (P:Params):Obj:=(tq #[])
def Nk (P:Params):Obj:={ cls:=.type "dict",data:=Data.dict #[en P "__module__" 196 (.str "sluice.errors" 187),en P "__firstlineno__" 200 (.int 2 199),en P "__static_attributes__" 201 (.ref 22),en P "__weakref__" 203 (.ref 25),en P "__doc__" 204 .none] 3 }
def Nf (P:Params):Obj:={ cls:=.type "type",data:=Data.cls { name:="SluiceError",bases:=[.type "ValueError"],mro:=[.ref 24,.type "ValueError",.type "Exception",.type "BaseException",.type "object"],ns:=23,qualname:="SluiceError",subclasses:=[.ref 37] },slots:=#[some (.ref 15),none,some (.str "SluiceError" 189),some (.str "SluiceError" 197),some (.builtin "ValueError.__new__"),some (.bool true)] }
def Nb (P:Params):Obj:={ cls:=.type "getset_descriptor",data:=Data.fields #[.str "__weakref__" 202,.ref 24,.builtin "ExceptionGroup.__weakref__",.none] }
def R7 (P:Params):Obj:={ cls:=.type "super",data:=Data.fields #[.ref 24,.ref 24,.ref 24] }
def R5 (P:Params):Obj:={ cls:=.type "builtin_function_or_method",data:=Data.fields #[.builtin "object.__init_subclass__",.ref 24] }
def M9 (P:Params):Obj:=(tq #[.ref 24])
def R4 (P:Params):Obj:={ cls:=.type "builtin_function_or_method",data:=Data.fields #[.builtin "type.__prepare__",.type "type"] }
def R3 (P:Params):Obj:={ cls:=.type "dict",data:=Data.dict #[en P "__module__" 214 (.str "sluice.errors" 187),en P "__qualname__" 216 (.str "NoReach" 215),en P "__firstlineno__" 218 (.int 4 217),en P "__static_attributes__" 219 (.ref 35)] 4 }
def RZ (P:Params):Obj:=(tq #[])
def RX (P:Params):Obj:={ cls:=.none,data:=Data.fields #[] }
def RW (P:Params):Obj:=(fc #[.str "NoReach" 209,.str "NoReach" 210,cp 211,.int 4 0,.int 0 0,.int 0 0,.int 0 0,.int 0 0,.ref 31,.bool false,.int 181 0,.ref 32,.none,.none,.none,.none,.int 212 0,.int 4 0,cp 213])
def RV (P:Params):Obj:={ cls:=.type "frame",slots:=#[some (.ref 33),some (.ref 3),some (.ref 30),none,some (.str "sluice.errors" 187),none,some (.ref 0)] }
def M8 (P:Params):Obj:=(tq #[])
def M7 (P:Params):Obj:={ cls:=.type "dict",data:=Data.dict #[en P "__module__" 214 (.str "sluice.errors" 187),en P "__firstlineno__" 218 (.int 4 217),en P "__static_attributes__" 219 (.ref 35),en P "__doc__" 220 .none] 2 }
def M6 (P:Params):Obj:={ cls:=.type "type",data:=Data.cls { name:="NoReach",bases:=[.ref 24],mro:=[.ref 37,.ref 24,.type "ValueError",.type "Exception",.type "BaseException",.type "object"],ns:=36,qualname:="NoReach" },slots:=#[some (.ref 28),none,some (.str "NoReach" 207),some (.str "NoReach" 215),some (.builtin "ValueError.__new__"),some (.bool true)] }
def RT (P:Params):Obj:={ cls:=.type "super",data:=Data.fields #[.ref 37,.ref 37,.ref 37] }
def RQ (P:Params):Obj:={ cls:=.type "builtin_function_or_method",data:=Data.fields #[.builtin "object.__init_subclass__",.ref 37] }
def M5 (P:Params):Obj:=(tq #[])
def RP (P:Params):Obj:={ cls:=.none,data:=Data.fields #[] }
def M4 (P:Params):Obj:=(tq #[.str "below" 231,.str "reach" 232,.str "way" 233])
def MP (P:Params):Obj:=(tq #[])
def RN (P:Params):Obj:=(pr0 "way_of" 5)
def MN (P:Params):Obj:=(fc #[.str "way_of" 228,.str "way_of" 229,cp 230,.int 8 0,.int 2 0,.int 0 0,.int 0 0,.int 3 0,.ref 40,.bool true,.int 181 0,.ref 41,.none,.ref 42,.ref 43,.ref 44,.int 234 0,.int 8 0,cp 235])
def MK (P:Params):Obj:=⟨.type "function",none,.func (PySem.W.fnOf "way_of" "way_of" (aF (top0 5)) (aD (top0 5)) (ao (top0 5)) .none .none .none (.str "sluice.rivers" 223) none (.ref 45) .none),#[]⟩
def MJ (P:Params):Obj:=(tq #[])
def RM (P:Params):Obj:={ cls:=.none,data:=Data.fields #[] }
def MF (P:Params):Obj:=(tq #[.str "below" 240])
def Mz (P:Params):Obj:=(tq #[.str "below" 241])
def RL (P:Params):Obj:=(pr0 "tops_first" 6)
def Mx (P:Params):Obj:=(fc #[.str "tops_first" 237,.str "tops_first" 238,cp 239,.int 13 0,.int 1 0,.int 0 0,.int 0 0,.int 3 0,.ref 47,.bool true,.int 181 0,.ref 48,.none,.ref 49,.ref 50,.ref 51,.int 242 0,.int 13 0,cp 243])
def Mw (P:Params):Obj:=⟨.type "function",none,.func (PySem.W.fnOf "tops_first" "tops_first" (aF (top0 6)) (aD (top0 6)) (ao (top0 6)) .none .none .none (.str "sluice.rivers" 223) none (.ref 52) .none),#[]⟩
def Mu (P:Params):Obj:=(tq #[])
def RK (P:Params):Obj:={ cls:=.none,data:=Data.fields #[] }
def Mt (P:Params):Obj:=(tq #[.str "below" 248,.str "start" 249,.str "stop" 250,.str "way" 251])
def Ms (P:Params):Obj:=(tq #[])
def RJ (P:Params):Obj:=(pr0 "stretch_of" 7)
def Mr (P:Params):Obj:=(fc #[.str "stretch_of" 245,.str "stretch_of" 246,cp 247,.int 15 0,.int 3 0,.int 0 0,.int 0 0,.int 3 0,.ref 54,.bool true,.int 181 0,.ref 55,.none,.ref 56,.ref 57,.ref 58,.int 252 0,.int 15 0,cp 253])
def Mq (P:Params):Obj:=⟨.type "function",none,.func (PySem.W.fnOf "stretch_of" "stretch_of" (aF (top0 7)) (aD (top0 7)) (ao (top0 7)) .none .none .none (.str "sluice.rivers" 223) none (.ref 59) .none),#[]⟩
def Mp (P:Params):Obj:=(tq #[])
def RG (P:Params):Obj:={ cls:=.none,data:=Data.fields #[] }
def Ml (P:Params):Obj:=(tq #[.str "below" 260,.str "springs" 261,.str "flows" 262,.str "reach" 263])
def Mj (P:Params):Obj:=(tq #[])
def RD (P:Params):Obj:=(pr0 "natural_of" 9)
def Mi (P:Params):Obj:=(fc #[.str "natural_of" 257,.str "natural_of" 258,cp 259,.int 23 0,.int 2 0,.int 0 0,.int 0 0,.int 3 0,.ref 61,.bool true,.int 181 0,.ref 62,.none,.ref 63,.ref 64,.ref 65,.int 264 0,.int 23 0,cp 265])
def Mh (P:Params):Obj:=⟨.type "function",none,.func (PySem.W.fnOf "natural_of" "natural_of" (aF (top0 9)) (aD (top0 9)) (ao (top0 9)) .none .none .none (.str "sluice.flows" 255) none (.ref 66) .none),#[]⟩
def Mg (P:Params):Obj:=(tq #[])
def RB (P:Params):Obj:={ cls:=.none,data:=Data.fields #[] }
def Mf (P:Params):Obj:=(tq #[.str "below" 272,.str "one" 273,.str "day" 274,.str "start" 275,.str "back" 276,.str "most" 277])
def Ma (P:Params):Obj:=(tq #[])
def Rz (P:Params):Obj:=(pr0 "reaches_of" 11)
def LR (P:Params):Obj:=(fc #[.str "reaches_of" 269,.str "reaches_of" 270,cp 271,.int 30 0,.int 2 0,.int 0 0,.int 0 0,.int 3 0,.ref 68,.bool true,.int 181 0,.ref 69,.none,.ref 70,.ref 71,.ref 72,.int 278 0,.int 30 0,cp 279])
def LQ (P:Params):Obj:=⟨.type "function",none,.func (PySem.W.fnOf "reaches_of" "reaches_of" (aF (top0 11)) (aD (top0 11)) (ao (top0 11)) .none .none .none (.str "sluice.licences" 267) none (.ref 73) .none),#[]⟩
def LK (P:Params):Obj:=(tq #[])
def Ry (P:Params):Obj:={ cls:=.none,data:=Data.fields #[] }
def LC (P:Params):Obj:=(tq #[.str "one" 284])
def Lz (P:Params):Obj:=(tq #[])
def Rx (P:Params):Obj:=(pr0 "day_filed" 12)
def Ly (P:Params):Obj:=(fc #[.str "day_filed" 281,.str "day_filed" 282,cp 283,.int 33 0,.int 1 0,.int 0 0,.int 0 0,.int 3 0,.ref 75,.bool true,.int 181 0,.ref 76,.none,.ref 77,.ref 78,.ref 79,.int 285 0,.int 33 0,cp 286])
def Lx (P:Params):Obj:=⟨.type "function",none,.func (PySem.W.fnOf "day_filed" "day_filed" (aF (top0 12)) (aD (top0 12)) (ao (top0 12)) .none .none .none (.str "sluice.licences" 267) none (.ref 80) .none),#[]⟩
def Lw (P:Params):Obj:=(tq #[])
def Rw (P:Params):Obj:={ cls:=.none,data:=Data.fields #[] }
def Ls (P:Params):Obj:=(tq #[.str "one" 291])
def Lr (P:Params):Obj:=(tq #[])
def Ru (P:Params):Obj:=(pr0 "most_of" 13)
def Lq (P:Params):Obj:=(fc #[.str "most_of" 288,.str "most_of" 289,cp 290,.int 35 0,.int 1 0,.int 0 0,.int 0 0,.int 3 0,.ref 82,.bool true,.int 181 0,.ref 83,.none,.ref 84,.ref 85,.ref 86,.int 292 0,.int 35 0,cp 293])
def Lp (P:Params):Obj:=⟨.type "function",none,.func (PySem.W.fnOf "most_of" "most_of" (aF (top0 13)) (aD (top0 13)) (ao (top0 13)) .none .none .none (.str "sluice.licences" 267) none (.ref 87) .none),#[]⟩
def Ln (P:Params):Obj:=(tq #[])
def Rt (P:Params):Obj:={ cls:=.none,data:=Data.fields #[] }
def Lk (P:Params):Obj:=(tq #[.str "one" 298,.str "start" 299])
def Lj (P:Params):Obj:=(tq #[])
def Rr (P:Params):Obj:=(pr0 "with_start" 14)
def Li (P:Params):Obj:=(fc #[.str "with_start" 295,.str "with_start" 296,cp 297,.int 37 0,.int 2 0,.int 0 0,.int 0 0,.int 3 0,.ref 89,.bool true,.int 181 0,.ref 90,.none,.ref 91,.ref 92,.ref 93,.int 300 0,.int 37 0,cp 301])
def Lh (P:Params):Obj:=⟨.type "function",none,.func (PySem.W.fnOf "with_start" "with_start" (aF (top0 14)) (aD (top0 14)) (ao (top0 14)) .none .none .none (.str "sluice.licences" 267) none (.ref 94) .none),#[]⟩
def Lg (P:Params):Obj:=(tq #[])
def PK (P:Params):Obj:={ cls:=.none,data:=Data.fields #[] }
def Ih (P:Params):Obj:=(tq #[.str "roll" 306])
def Ig (P:Params):Obj:=(tq #[.str "roll" 307])
def PJ (P:Params):Obj:=(pr0 "ranked" 15)
def Ie (P:Params):Obj:=(fc #[.str "ranked" 303,.str "ranked" 304,cp 305,.int 39 0,.int 1 0,.int 0 0,.int 0 0,.int 3 0,.ref 96,.bool true,.int 181 0,.ref 97,.none,.ref 98,.ref 99,.ref 100,.int 308 0,.int 39 0,cp 309])
def Ib (P:Params):Obj:=⟨.type "function",none,.func (PySem.W.fnOf "ranked" "ranked" (aF (top0 15)) (aD (top0 15)) (ao (top0 15)) .none .none .none (.str "sluice.licences" 267) none (.ref 101) .none),#[]⟩
def Ia (P:Params):Obj:=(tq #[])
def PB (P:Params):Obj:={ cls:=.none,data:=Data.fields #[] }
def HY (P:Params):Obj:=(tq #[.str "roll" 314,.str "groups" 315,.str "number" 316])
def HX (P:Params):Obj:=(tq #[])
def Px (P:Params):Obj:=(pr0 "groups_of" 16)
def HW (P:Params):Obj:=(fc #[.str "groups_of" 311,.str "groups_of" 312,cp 313,.int 41 0,.int 1 0,.int 0 0,.int 0 0,.int 3 0,.ref 103,.bool true,.int 181 0,.ref 104,.none,.ref 105,.ref 106,.ref 107,.int 317 0,.int 41 0,cp 318])
def HS (P:Params):Obj:=⟨.type "function",none,.func (PySem.W.fnOf "groups_of" "groups_of" (aF (top0 16)) (aD (top0 16)) (ao (top0 16)) .none .none .none (.str "sluice.licences" 267) none (.ref 108) .none),#[]⟩
def HN (P:Params):Obj:=(tq #[])
def Pu (P:Params):Obj:={ cls:=.none,data:=Data.fields #[] }
def Pr (P:Params):Obj:=(pr0 "wants_of" 17)
def HJ (P:Params):Obj:=(fc #[.str "wants_of" 320,.str "wants_of" 321,cp 322,.int 46 0,.int 2 0,.int 0 0,.int 0 0,.int 3 0,.ref 110,.bool true,.int 181 0,.ref 111,.none,.none,.none,.ref 112,.int 323 0,.int 46 0,cp 324])
def HF (P:Params):Obj:=⟨.type "function",none,.func (PySem.W.fnOf "wants_of" "wants_of" (aF (top0 17)) (aD (top0 17)) (ao (top0 17)) .none .none .none (.str "sluice.licences" 267) none (.ref 113) .none),#[]⟩
def HD (P:Params):Obj:=(tq #[])
def Pq (P:Params):Obj:={ cls:=.none,data:=Data.fields #[] }
def HB (P:Params):Obj:=(tq #[.str "free" 331,.str "ways" 332,.str "counts" 333,.str "way" 334,.str "reach" 335])
def Hz (P:Params):Obj:=(tq #[])
def Pn (P:Params):Obj:=(pr0 "count_ways" 19)
def Hy (P:Params):Obj:=(fc #[.str "count_ways" 328,.str "count_ways" 329,cp 330,.int 49 0,.int 2 0,.int 0 0,.int 0 0,.int 3 0,.ref 115,.bool true,.int 181 0,.ref 116,.none,.ref 117,.ref 118,.ref 119,.int 336 0,.int 49 0,cp 337])
def Hx (P:Params):Obj:=⟨.type "function",none,.func (PySem.W.fnOf "count_ways" "count_ways" (aF (top0 19)) (aD (top0 19)) (ao (top0 19)) .none .none .none (.str "sluice.turns" 326) none (.ref 120) .none),#[]⟩
def Hw (P:Params):Obj:=(tq #[])
def Pk (P:Params):Obj:={ cls:=.none,data:=Data.fields #[] }
def Pj (P:Params):Obj:=(pr0 "whole_turns" 20)
def Hv (P:Params):Obj:=(fc #[.str "whole_turns" 339,.str "whole_turns" 340,cp 341,.int 55 0,.int 3 0,.int 0 0,.int 0 0,.int 3 0,.ref 122,.bool true,.int 181 0,.ref 123,.none,.none,.none,.ref 124,.int 342 0,.int 55 0,cp 343])
def Hu (P:Params):Obj:=⟨.type "function",none,.func (PySem.W.fnOf "whole_turns" "whole_turns" (aF (top0 20)) (aD (top0 20)) (ao (top0 20)) .none .none .none (.str "sluice.turns" 326) none (.ref 125) .none),#[]⟩
def Ht (P:Params):Obj:=(tq #[])
def Pb (P:Params):Obj:={ cls:=.none,data:=Data.fields #[] }
def Hs (P:Params):Obj:=(tq #[.str "left" 348,.str "way" 349,.str "drops" 350,.str "reach" 351])
def Hr (P:Params):Obj:=(tq #[])
def Pa (P:Params):Obj:=(pr0 "draw" 21)
def Hq (P:Params):Obj:=(fc #[.str "draw" 345,.str "draw" 346,cp 347,.int 59 0,.int 3 0,.int 0 0,.int 0 0,.int 3 0,.ref 127,.bool true,.int 181 0,.ref 128,.none,.ref 129,.ref 130,.ref 131,.int 352 0,.int 59 0,cp 353])
def Ho (P:Params):Obj:=⟨.type "function",none,.func (PySem.W.fnOf "draw" "draw" (aF (top0 21)) (aD (top0 21)) (ao (top0 21)) .none .none .none (.str "sluice.turns" 326) none (.ref 132) .none),#[]⟩
def Hl (P:Params):Obj:=(tq #[])
def O9 (P:Params):Obj:={ cls:=.none,data:=Data.fields #[] }
def O8 (P:Params):Obj:=(pr0 "take_whole_turns" 22)
def Hj (P:Params):Obj:=(fc #[.str "take_whole_turns" 355,.str "take_whole_turns" 356,cp 357,.int 62 0,.int 5 0,.int 0 0,.int 0 0,.int 3 0,.ref 134,.bool true,.int 181 0,.ref 135,.none,.none,.none,.ref 136,.int 358 0,.int 62 0,cp 359])
def Hi (P:Params):Obj:=⟨.type "function",none,.func (PySem.W.fnOf "take_whole_turns" "take_whole_turns" (aF (top0 22)) (aD (top0 22)) (ao (top0 22)) .none .none .none (.str "sluice.turns" 326) none (.ref 137) .none),#[]⟩
def Hh (P:Params):Obj:=(tq #[])
def OJ (P:Params):Obj:={ cls:=.none,data:=Data.fields #[] }
def Oz (P:Params):Obj:=(pr0 "take_one_turn" 23)
def Hg (P:Params):Obj:=(fc #[.str "take_one_turn" 361,.str "take_one_turn" 362,cp 363,.int 68 0,.int 5 0,.int 0 0,.int 0 0,.int 3 0,.ref 139,.bool true,.int 181 0,.ref 140,.none,.none,.none,.ref 141,.int 364 0,.int 68 0,cp 365])
def Hf (P:Params):Obj:=⟨.type "function",none,.func (PySem.W.fnOf "take_one_turn" "take_one_turn" (aF (top0 23)) (aD (top0 23)) (ao (top0 23)) .none .none .none (.str "sluice.turns" 326) none (.ref 142) .none),#[]⟩
def G9 (P:Params):Obj:=(tq #[])
def Ox (P:Params):Obj:={ cls:=.none,data:=Data.fields #[] }
def G8 (P:Params):Obj:=(tq #[.str "free" 370,.str "ways" 371,.str "rests" 372,.str "left" 373,.str "takes" 374,.str "going" 375])
def G7 (P:Params):Obj:=(tq #[])
def Ov (P:Params):Obj:=(pr0 "deal_turns" 24)
def G6 (P:Params):Obj:=(fc #[.str "deal_turns" 367,.str "deal_turns" 368,cp 369,.int 76 0,.int 3 0,.int 0 0,.int 0 0,.int 3 0,.ref 144,.bool true,.int 181 0,.ref 145,.none,.ref 146,.ref 147,.ref 148,.int 376 0,.int 76 0,cp 377])
def G5 (P:Params):Obj:=⟨.type "function",none,.func (PySem.W.fnOf "deal_turns" "deal_turns" (aF (top0 24)) (aD (top0 24)) (ao (top0 24)) .none .none .none (.str "sluice.turns" 326) none (.ref 149) .none),#[]⟩
def G4 (P:Params):Obj:=(tq #[])
def Ou (P:Params):Obj:={ cls:=.none,data:=Data.fields #[] }
def Ot (P:Params):Obj:=(pr0 "deal" 26)
def G3 (P:Params):Obj:=(fc #[.str "deal" 381,.str "deal" 382,cp 383,.int 85 0,.int 4 0,.int 0 0,.int 0 0,.int 3 0,.ref 151,.bool true,.int 181 0,.ref 152,.none,.none,.none,.ref 153,.int 384 0,.int 85 0,cp 385])
def GZ (P:Params):Obj:=⟨.type "function",none,.func (PySem.W.fnOf "deal" "deal" (aF (top0 26)) (aD (top0 26)) (ao (top0 26)) .none .none .none (.str "sluice.dealing" 379) none (.ref 154) .none),#[]⟩
def GX (P:Params):Obj:=(tq #[])
def Oq (P:Params):Obj:={ cls:=.none,data:=Data.fields #[] }
def GR (P:Params):Obj:=(tq #[.str "roll" 392,.str "number" 393,.str "start" 394,.str "changed" 395])
def GQ (P:Params):Obj:=(tq #[])
def Oo (P:Params):Obj:=(pr0 "moved" 28)
def GP (P:Params):Obj:=(fc #[.str "moved" 389,.str "moved" 390,cp 391,.int 96 0,.int 3 0,.int 0 0,.int 0 0,.int 3 0,.ref 156,.bool true,.int 181 0,.ref 157,.none,.ref 158,.ref 159,.ref 160,.int 396 0,.int 96 0,cp 397])
def GK (P:Params):Obj:=⟨.type "function",none,.func (PySem.W.fnOf "moved" "moved" (aF (top0 28)) (aD (top0 28)) (ao (top0 28)) .none .none .none (.str "sluice.moves" 387) none (.ref 161) .none),#[]⟩
def GJ (P:Params):Obj:=(tq #[])
def Om (P:Params):Obj:={ cls:=.none,data:=Data.fields #[] }
def GF (P:Params):Obj:=(tq #[.str "below" 402,.str "roll" 403,.str "number" 404,.str "start" 405,.str "record" 406,.str "other_roll" 407,.str "day" 408,.str "one_day" 409,.str "springs" 410,.str "calls" 411,.str "all_calls" 412,.str "takes" 413,.str "other_takes" 414,.str "other" 415,.str "before" 416,.str "after" 417])
def GD (P:Params):Obj:=(tq #[])
def Ol (P:Params):Obj:=(pr0 "harm_of" 29)
def GC (P:Params):Obj:=(fc #[.str "harm_of" 399,.str "harm_of" 400,cp 401,.int 100 0,.int 5 0,.int 0 0,.int 0 0,.int 3 0,.ref 163,.bool true,.int 181 0,.ref 164,.none,.ref 165,.ref 166,.ref 167,.int 418 0,.int 100 0,cp 419])
def Gz (P:Params):Obj:=⟨.type "function",none,.func (PySem.W.fnOf "harm_of" "harm_of" (aF (top0 29)) (aD (top0 29)) (ao (top0 29)) .none .none .none (.str "sluice.moves" 387) none (.ref 168) .none),#[]⟩
def Gy (P:Params):Obj:=(tq #[])
def Oj (P:Params):Obj:={ cls:=.none,data:=Data.fields #[] }
def Gx (P:Params):Obj:=(tq #[.str "script" 426,.str "k" 427])
def Gw (P:Params):Obj:=(tq #[])
def Oi (P:Params):Obj:=(pr0 "_law_cell_at" 31)
def Gv (P:Params):Obj:=(fc #[.str "_law_cell_at" 423,.str "_law_cell_at" 424,cp 425,.int 112 0,.int 2 0,.int 0 0,.int 0 0,.int 3 0,.ref 170,.bool true,.int 181 0,.ref 171,.none,.ref 172,.ref 173,.ref 174,.int 428 0,.int 112 0,cp 429])
def Gu (P:Params):Obj:=⟨.type "function",none,.func (PySem.W.fnOf "_law_cell_at" "_law_cell_at" (aF (top0 31)) (aD (top0 31)) (ao (top0 31)) .none .none .none (.str "law_sluice_k61_harm" 421) none (.ref 175) .none),#[]⟩
def Gs (P:Params):Obj:=(tq #[])
def Og (P:Params):Obj:={ cls:=.none,data:=Data.fields #[] }
def Gq (P:Params):Obj:=(tq #[.str "found" 434])
def Gp (P:Params):Obj:=(tq #[])
def Oe (P:Params):Obj:=(pr0 "_law_whole" 32)
def Gn (P:Params):Obj:=(fc #[.str "_law_whole" 431,.str "_law_whole" 432,cp 433,.int 116 0,.int 1 0,.int 0 0,.int 0 0,.int 3 0,.ref 177,.bool true,.int 181 0,.ref 178,.none,.ref 179,.ref 180,.ref 181,.int 435 0,.int 116 0,cp 436])
def Gm (P:Params):Obj:=⟨.type "function",none,.func (PySem.W.fnOf "_law_whole" "_law_whole" (aF (top0 32)) (aD (top0 32)) (ao (top0 32)) .none .none .none (.str "law_sluice_k61_harm" 421) none (.ref 182) .none),#[]⟩
def Gk (P:Params):Obj:=(tq #[])
def Od (P:Params):Obj:={ cls:=.none,data:=Data.fields #[] }
def Gj (P:Params):Obj:=(tq #[.str "cell" 441,.str "k" 442,.str "mark" 443])
def Gi (P:Params):Obj:=(tq #[])
def Oc (P:Params):Obj:=(pr0 "_law_pebble" 33)
def Gh (P:Params):Obj:=(fc #[.str "_law_pebble" 438,.str "_law_pebble" 439,cp 440,.int 118 0,.int 2 0,.int 0 0,.int 0 0,.int 3 0,.ref 184,.bool true,.int 181 0,.ref 185,.none,.ref 186,.ref 187,.ref 188,.int 444 0,.int 118 0,cp 445])
def Gg (P:Params):Obj:=⟨.type "function",none,.func (PySem.W.fnOf "_law_pebble" "_law_pebble" (aF (top0 33)) (aD (top0 33)) (ao (top0 33)) .none .none .none (.str "law_sluice_k61_harm" 421) none (.ref 189) .none),#[]⟩
def Gf (P:Params):Obj:=(tq #[])
def Ob (P:Params):Obj:={ cls:=.none,data:=Data.fields #[] }
def Oa (P:Params):Obj:=(pr0 "_law_pebbles" 34)
def Ge (P:Params):Obj:=(fc #[.str "_law_pebbles" 447,.str "_law_pebbles" 448,cp 449,.int 121 0,.int 2 0,.int 0 0,.int 0 0,.int 3 0,.ref 191,.bool true,.int 181 0,.ref 192,.none,.none,.none,.ref 193,.int 450 0,.int 121 0,cp 451])
def Gd (P:Params):Obj:=⟨.type "function",none,.func (PySem.W.fnOf "_law_pebbles" "_law_pebbles" (aF (top0 34)) (aD (top0 34)) (ao (top0 34)) .none .none .none (.str "law_sluice_k61_harm" 421) none (.ref 194) .none),#[]⟩
def Gb (P:Params):Obj:=(tq #[])
def N8 (P:Params):Obj:={ cls:=.none,data:=Data.fields #[] }
def Ga (P:Params):Obj:=(tq #[.str "xs" 456,.str "cell" 457,.str "order" 458,.str "onward" 459,.str "k" 460,.str "place" 461,.str "at" 462,.str "found" 463])
def FZ (P:Params):Obj:=(tq #[])
def N7 (P:Params):Obj:=(pr0 "_law_river" 35)
def FW (P:Params):Obj:=(fc #[.str "_law_river" 453,.str "_law_river" 454,cp 455,.int 123 0,.int 2 0,.int 0 0,.int 0 0,.int 3 0,.ref 196,.bool true,.int 181 0,.ref 197,.none,.ref 198,.ref 199,.ref 200,.int 464 0,.int 123 0,cp 465])
def FT (P:Params):Obj:=⟨.type "function",none,.func (PySem.W.fnOf "_law_river" "_law_river" (aF (top0 35)) (aD (top0 35)) (ao (top0 35)) .none .none .none (.str "law_sluice_k61_harm" 421) none (.ref 201) .none),#[]⟩
def FQ (P:Params):Obj:=(tq #[])
def N6 (P:Params):Obj:={ cls:=.none,data:=Data.fields #[] }
def FP (P:Params):Obj:=(tq #[.str "river" 470,.str "start" 471,.str "stop" 472,.str "walk" 473,.str "place" 474])
def FN (P:Params):Obj:=(tq #[])
def N5 (P:Params):Obj:=(pr0 "_law_walk" 36)
def FJ (P:Params):Obj:=(fc #[.str "_law_walk" 467,.str "_law_walk" 468,cp 469,.int 142 0,.int 3 0,.int 0 0,.int 0 0,.int 3 0,.ref 203,.bool true,.int 181 0,.ref 204,.none,.ref 205,.ref 206,.ref 207,.int 475 0,.int 142 0,cp 476])
def Fz (P:Params):Obj:=⟨.type "function",none,.func (PySem.W.fnOf "_law_walk" "_law_walk" (aF (top0 36)) (aD (top0 36)) (ao (top0 36)) .none .none .none (.str "law_sluice_k61_harm" 421) none (.ref 208) .none),#[]⟩
def Fy (P:Params):Obj:=(tq #[])
def NZ (P:Params):Obj:={ cls:=.none,data:=Data.fields #[] }
def Fx (P:Params):Obj:=(tq #[.str "x" 481,.str "great" 482])
def Fw (P:Params):Obj:=(tq #[])
def NT (P:Params):Obj:=(pr0 "_law_amount" 37)
def Fv (P:Params):Obj:=(fc #[.str "_law_amount" 478,.str "_law_amount" 479,cp 480,.int 149 0,.int 2 0,.int 0 0,.int 0 0,.int 3 0,.ref 210,.bool true,.int 181 0,.ref 211,.none,.ref 212,.ref 213,.ref 214,.int 483 0,.int 149 0,cp 484])
def Ft (P:Params):Obj:=⟨.type "function",none,.func (PySem.W.fnOf "_law_amount" "_law_amount" (aF (top0 37)) (aD (top0 37)) (ao (top0 37)) .none .none .none (.str "law_sluice_k61_harm" 421) none (.ref 215) .none),#[]⟩
def Fq (P:Params):Obj:=(tq #[])
def NQ (P:Params):Obj:={ cls:=.none,data:=Data.fields #[] }
def Fp (P:Params):Obj:=(tq #[.str "river" 489,.str "cell" 490,.str "great" 491,.str "xs" 492,.str "start" 493,.str "back" 494])
def Fo (P:Params):Obj:=(tq #[])
def NP (P:Params):Obj:=(pr0 "_law_licence" 38)
def Fj (P:Params):Obj:=(fc #[.str "_law_licence" 486,.str "_law_licence" 487,cp 488,.int 153 0,.int 3 0,.int 0 0,.int 0 0,.int 3 0,.ref 217,.bool true,.int 181 0,.ref 218,.none,.ref 219,.ref 220,.ref 221,.int 495 0,.int 153 0,cp 496])
def Fi (P:Params):Obj:=⟨.type "function",none,.func (PySem.W.fnOf "_law_licence" "_law_licence" (aF (top0 38)) (aD (top0 38)) (ao (top0 38)) .none .none .none (.str "law_sluice_k61_harm" 421) none (.ref 222) .none),#[]⟩
def Fg (P:Params):Obj:=(tq #[])
def NK (P:Params):Obj:={ cls:=.none,data:=Data.fields #[] }
def Nz (P:Params):Obj:=(pr0 "_law_day" 39)
def Fe (P:Params):Obj:=(fc #[.str "_law_day" 498,.str "_law_day" 499,cp 500,.int 160 0,.int 4 0,.int 0 0,.int 0 0,.int 3 0,.ref 224,.bool true,.int 181 0,.ref 225,.none,.none,.none,.ref 226,.int 501 0,.int 160 0,cp 502])
def Fd (P:Params):Obj:=⟨.type "function",none,.func (PySem.W.fnOf "_law_day" "_law_day" (aF (top0 39)) (aD (top0 39)) (ao (top0 39)) .none .none .none (.str "law_sluice_k61_harm" 421) none (.ref 227) .none),#[]⟩
def Fb (P:Params):Obj:=(tq #[])
def Ny (P:Params):Obj:={ cls:=.none,data:=Data.fields #[] }
def EY (P:Params):Obj:=(tq #[.str "river" 507,.str "springs" 508,.str "roll" 509,.str "takes" 510,.str "free" 511,.str "place" 512,.str "lower" 513,.str "one" 514,.str "take" 515])
def Ez (P:Params):Obj:=(tq #[])
def Nx (P:Params):Obj:=(pr0 "_law_free" 40)
def Ey (P:Params):Obj:=(fc #[.str "_law_free" 504,.str "_law_free" 505,cp 506,.int 167 0,.int 4 0,.int 0 0,.int 0 0,.int 3 0,.ref 229,.bool true,.int 181 0,.ref 230,.none,.ref 231,.ref 232,.ref 233,.int 516 0,.int 167 0,cp 517])
def Ew (P:Params):Obj:=⟨.type "function",none,.func (PySem.W.fnOf "_law_free" "_law_free" (aF (top0 40)) (aD (top0 40)) (ao (top0 40)) .none .none .none (.str "law_sluice_k61_harm" 421) none (.ref 234) .none),#[]⟩
def Eu (P:Params):Obj:=(tq #[])
def Nv (P:Params):Obj:={ cls:=.none,data:=Data.fields #[] }
def Et (P:Params):Obj:=(tq #[.str "river" 522,.str "free" 523,.str "roll" 524,.str "takes" 525,.str "number" 526,.str "one" 527,.str "after" 528,.str "place" 529,.str "good" 530,.str "other" 531,.str "last" 532])
def Es (P:Params):Obj:=(tq #[])
def Nu (P:Params):Obj:=(pr0 "_law_is_shown" 41)
def Er (P:Params):Obj:=(fc #[.str "_law_is_shown" 519,.str "_law_is_shown" 520,cp 521,.int 176 0,.int 5 0,.int 0 0,.int 0 0,.int 3 0,.ref 236,.bool true,.int 181 0,.ref 237,.none,.ref 238,.ref 239,.ref 240,.int 533 0,.int 176 0,cp 534])
def Ep (P:Params):Obj:=⟨.type "function",none,.func (PySem.W.fnOf "_law_is_shown" "_law_is_shown" (aF (top0 41)) (aD (top0 41)) (ao (top0 41)) .none .none .none (.str "law_sluice_k61_harm" 421) none (.ref 241) .none),#[]⟩
def Eo (P:Params):Obj:=(tq #[])
def Nt (P:Params):Obj:={ cls:=.none,data:=Data.fields #[] }
def En (P:Params):Obj:=(tq #[.str "river" 539,.str "springs" 540,.str "roll" 541,.str "calls" 542,.str "takes" 543,.str "free" 544,.str "number" 545,.str "want" 546])
def Em (P:Params):Obj:=(tq #[])
def Nq (P:Params):Obj:=(pr0 "_law_dealt" 42)
def El (P:Params):Obj:=(fc #[.str "_law_dealt" 536,.str "_law_dealt" 537,cp 538,.int 188 0,.int 4 0,.int 0 0,.int 0 0,.int 3 0,.ref 243,.bool true,.int 181 0,.ref 244,.none,.ref 245,.ref 246,.ref 247,.int 547 0,.int 188 0,cp 548])
def Ek (P:Params):Obj:=⟨.type "function",none,.func (PySem.W.fnOf "_law_dealt" "_law_dealt" (aF (top0 42)) (aD (top0 42)) (ao (top0 42)) .none .none .none (.str "law_sluice_k61_harm" 421) none (.ref 248) .none),#[]⟩
def Ej (P:Params):Obj:=(tq #[])
def Np (P:Params):Obj:={ cls:=.none,data:=Data.fields #[] }
def Ei (P:Params):Obj:=(tq #[.str "river" 553,.str "roll" 554,.str "number" 555,.str "start" 556,.str "record" 557,.str "other_roll" 558,.str "day" 559,.str "springs" 560,.str "calls" 561,.str "before" 562,.str "after" 563,.str "other" 564])
def Eh (P:Params):Obj:=(tq #[])
def Nm (P:Params):Obj:=(pr0 "_law_due" 43)
def Ef (P:Params):Obj:=(fc #[.str "_law_due" 550,.str "_law_due" 551,cp 552,.int 202 0,.int 5 0,.int 0 0,.int 0 0,.int 3 0,.ref 250,.bool true,.int 181 0,.ref 251,.none,.ref 252,.ref 253,.ref 254,.int 565 0,.int 202 0,cp 566])
def Ed (P:Params):Obj:=⟨.type "function",none,.func (PySem.W.fnOf "_law_due" "_law_due" (aF (top0 43)) (aD (top0 43)) (ao (top0 43)) .none .none .none (.str "law_sluice_k61_harm" 421) none (.ref 255) .none),#[]⟩
def Ec (P:Params):Obj:=(tq #[])
def Nj (P:Params):Obj:={ cls:=.none,data:=Data.fields #[] }
def Ni (P:Params):Obj:=(pr0 "_law_alike" 44)
def Eb (P:Params):Obj:=(fc #[.str "_law_alike" 568,.str "_law_alike" 569,cp 570,.int 216 0,.int 2 0,.int 0 0,.int 0 0,.int 3 0,.ref 257,.bool true,.int 181 0,.ref 258,.none,.none,.none,.ref 259,.int 571 0,.int 216 0,cp 572])
def Ea (P:Params):Obj:=⟨.type "function",none,.func (PySem.W.fnOf "_law_alike" "_law_alike" (aF (top0 44)) (aD (top0 44)) (ao (top0 44)) .none .none .none (.str "law_sluice_k61_harm" 421) none (.ref 260) .none),#[]⟩
def DW (P:Params):Obj:=(tq #[])
def Nh (P:Params):Obj:={ cls:=.none,data:=Data.fields #[] }
def Ng (P:Params):Obj:=(pr0 "law" 45)
def DR (P:Params):Obj:=(fc #[.str "law" 574,.str "law" 575,cp 576,.int 222 0,.int 1 0,.int 0 0,.int 0 0,.int 3 0,.ref 262,.bool true,.int 181 0,.ref 263,.none,.none,.none,.ref 264,.int 577 0,.int 222 0,cp 578])
def DQ (P:Params):Obj:=⟨.type "function",none,.func (PySem.W.fnOf "law" "law" (aF (top0 45)) (aD (top0 45)) (ao (top0 45)) .none .none .none (.str "law_sluice_k61_harm" 421) none (.ref 265) .none),#[]⟩
def H0:Params→Heap:=fun P=>{ objs:=⟨T5 P :: T4 P :: R6 P :: ho_4 P :: T3 P :: TY P :: TV P :: TQ P :: TJ P :: PN P :: Py P :: []⟩ }
def H1:Params→Heap:=fun P=>{ objs:=⟨T5 P :: T4 P :: R6 P :: Ph P :: T3 P :: TY P :: TV P :: TQ P :: TJ P :: PN P :: Py P :: Sy P :: Sx P :: Sw P :: Sv P :: Oh P :: Ss P :: Sq P :: Sg P :: Sd P :: R9 P :: R8 P :: Nr P :: Nk P :: Nf P :: Nb P :: R7 P :: R5 P :: M9 P :: R4 P :: R3 P :: RZ P :: RX P :: RW P :: RV P :: M8 P :: M7 P :: M6 P :: RT P :: RQ P :: M5 P :: RP P :: M4 P :: MP P :: RN P :: MN P :: MK P :: MJ P :: RM P :: MF P :: Mz P :: RL P :: Mx P :: Mw P :: Mu P :: RK P :: Mt P :: Ms P :: RJ P :: Mr P :: Mq P :: Mp P :: RG P :: Ml P :: Mj P :: RD P :: Mi P :: Mh P :: Mg P :: RB P :: Mf P :: Ma P :: Rz P :: LR P :: LQ P :: LK P :: Ry P :: LC P :: Lz P :: Rx P :: Ly P :: Lx P :: Lw P :: Rw P :: Ls P :: Lr P :: Ru P :: Lq P :: Lp P :: Ln P :: Rt P :: Lk P :: Lj P :: Rr P :: Li P :: Lh P :: Lg P :: PK P :: Ih P :: Ig P :: PJ P :: Ie P :: Ib P :: Ia P :: PB P :: HY P :: HX P :: Px P :: HW P :: HS P :: HN P :: Pu P :: Pr P :: HJ P :: HF P :: HD P :: Pq P :: HB P :: Hz P :: Pn P :: Hy P :: Hx P :: Hw P :: Pk P :: Pj P :: Hv P :: Hu P :: Ht P :: Pb P :: Hs P :: Hr P :: Pa P :: Hq P :: Ho P :: Hl P :: O9 P :: O8 P :: Hj P :: Hi P :: Hh P :: OJ P :: Oz P :: Hg P :: Hf P :: G9 P :: Ox P :: G8 P :: G7 P :: Ov P :: G6 P :: G5 P :: G4 P :: Ou P :: Ot P :: G3 P :: GZ P :: GX P :: Oq P :: GR P :: GQ P :: Oo P :: GP P :: GK P :: GJ P :: Om P :: GF P :: GD P :: Ol P :: GC P :: Gz P :: Gy P :: Oj P :: Gx P :: Gw P :: Oi P :: Gv P :: Gu P :: Gs P :: Og P :: Gq P :: Gp P :: Oe P :: Gn P :: Gm P :: Gk P :: Od P :: Gj P :: Gi P :: Oc P :: Gh P :: Gg P :: Gf P :: Ob P :: Oa P :: Ge P :: Gd P :: Gb P :: N8 P :: Ga P :: FZ P :: N7 P :: FW P :: FT P :: FQ P :: N6 P :: FP P :: FN P :: N5 P :: FJ P :: Fz P :: Fy P :: NZ P :: Fx P :: Fw P :: NT P :: Fv P :: Ft P :: Fq P :: NQ P :: Fp P :: Fo P :: NP P :: Fj P :: Fi P :: Fg P :: NK P :: Nz P :: Fe P :: Fd P :: Fb P :: Ny P :: EY P :: Ez P :: Nx P :: Ey P :: Ew P :: Eu P :: Nv P :: Et P :: Es P :: Nu P :: Er P :: Ep P :: Eo P :: Nt P :: En P :: Em P :: Nq P :: El P :: Ek P :: Ej P :: Np P :: Ei P :: Eh P :: Nm P :: Ef P :: Ed P :: Ec P :: Nj P :: Ni P :: Eb P :: Ea P :: DW P :: Nh P :: Ng P :: DR P :: DQ P :: []⟩ }
def Kf:Params→PySem.W.Frag:=fun P=>(nat_lit 2,R6 P) ::
 (nat_lit 3,Ph P) ::
 (nat_lit 15,Oh P) ::
 (nat_lit 22,Nr P) ::
 (nat_lit 23,Nk P) ::
 (nat_lit 24,Nf P) ::
 (nat_lit 25,Nb P) ::
 (nat_lit 28,M9 P) ::
 (nat_lit 35,M8 P) ::
 (nat_lit 36,M7 P) ::
 (nat_lit 37,M6 P) ::
 (nat_lit 40,M5 P) ::
 (nat_lit 42,M4 P) ::
 (nat_lit 43,MP P) ::
 (nat_lit 45,MN P) ::
 (nat_lit 46,MK P) ::
 (nat_lit 47,MJ P) ::
 (nat_lit 49,MF P) ::
 (nat_lit 50,Mz P) ::
 (nat_lit 52,Mx P) ::
 (nat_lit 53,Mw P) ::
 (nat_lit 54,Mu P) ::
 (nat_lit 56,Mt P) ::
 (nat_lit 57,Ms P) ::
 (nat_lit 59,Mr P) ::
 (nat_lit 60,Mq P) ::
 (nat_lit 61,Mp P) ::
 (nat_lit 63,Ml P) ::
 (nat_lit 64,Mj P) ::
 (nat_lit 66,Mi P) ::
 (nat_lit 67,Mh P) ::
 (nat_lit 68,Mg P) ::
 (nat_lit 70,Mf P) ::
 (nat_lit 71,Ma P) ::
 (nat_lit 73,LR P) ::
 (nat_lit 74,LQ P) ::
 (nat_lit 75,LK P) ::
 (nat_lit 77,LC P) ::
 (nat_lit 78,Lz P) ::
 (nat_lit 80,Ly P) ::
 (nat_lit 81,Lx P) ::
 (nat_lit 82,Lw P) ::
 (nat_lit 84,Ls P) ::
 (nat_lit 85,Lr P) ::
 (nat_lit 87,Lq P) ::
 (nat_lit 88,Lp P) ::
 (nat_lit 89,Ln P) ::
 (nat_lit 91,Lk P) ::
 (nat_lit 92,Lj P) ::
 (nat_lit 94,Li P) ::
 (nat_lit 95,Lh P) ::
 (nat_lit 96,Lg P) ::
 (nat_lit 98,Ih P) ::
 (nat_lit 99,Ig P) ::
 (nat_lit 101,Ie P) ::
 (nat_lit 102,Ib P) ::
 (nat_lit 103,Ia P) ::
 (nat_lit 105,HY P) ::
 (nat_lit 106,HX P) ::
 (nat_lit 108,HW P) ::
 (nat_lit 109,HS P) ::
 (nat_lit 110,HN P) ::
 (nat_lit 113,HJ P) ::
 (nat_lit 114,HF P) ::
 (nat_lit 115,HD P) ::
 (nat_lit 117,HB P) ::
 (nat_lit 118,Hz P) ::
 (nat_lit 120,Hy P) ::
 (nat_lit 121,Hx P) ::
 (nat_lit 122,Hw P) ::
 (nat_lit 125,Hv P) ::
 (nat_lit 126,Hu P) ::
 (nat_lit 127,Ht P) ::
 (nat_lit 129,Hs P) ::
 (nat_lit 130,Hr P) ::
 (nat_lit 132,Hq P) ::
 (nat_lit 133,Ho P) ::
 (nat_lit 134,Hl P) ::
 (nat_lit 137,Hj P) ::
 (nat_lit 138,Hi P) ::
 (nat_lit 139,Hh P) ::
 (nat_lit 142,Hg P) ::
 (nat_lit 143,Hf P) ::
 (nat_lit 144,G9 P) ::
 (nat_lit 146,G8 P) ::
 (nat_lit 147,G7 P) ::
 (nat_lit 149,G6 P) ::
 (nat_lit 150,G5 P) ::
 (nat_lit 151,G4 P) ::
 (nat_lit 154,G3 P) ::
 (nat_lit 155,GZ P) ::
 (nat_lit 156,GX P) ::
 (nat_lit 158,GR P) ::
 (nat_lit 159,GQ P) ::
 (nat_lit 161,GP P) ::
 (nat_lit 162,GK P) ::
 (nat_lit 163,GJ P) ::
 (nat_lit 165,GF P) ::
 (nat_lit 166,GD P) ::
 (nat_lit 168,GC P) ::
 (nat_lit 169,Gz P) ::
 (nat_lit 170,Gy P) ::
 (nat_lit 172,Gx P) ::
 (nat_lit 173,Gw P) ::
 (nat_lit 175,Gv P) ::
 (nat_lit 176,Gu P) ::
 (nat_lit 177,Gs P) ::
 (nat_lit 179,Gq P) ::
 (nat_lit 180,Gp P) ::
 (nat_lit 182,Gn P) ::
 (nat_lit 183,Gm P) ::
 (nat_lit 184,Gk P) ::
 (nat_lit 186,Gj P) ::
 (nat_lit 187,Gi P) ::
 (nat_lit 189,Gh P) ::
 (nat_lit 190,Gg P) ::
 (nat_lit 191,Gf P) ::
 (nat_lit 194,Ge P) ::
 (nat_lit 195,Gd P) ::
 (nat_lit 196,Gb P) ::
 (nat_lit 198,Ga P) ::
 (nat_lit 199,FZ P) ::
 (nat_lit 201,FW P) ::
 (nat_lit 202,FT P) ::
 (nat_lit 203,FQ P) ::
 (nat_lit 205,FP P) ::
 (nat_lit 206,FN P) ::
 (nat_lit 208,FJ P) ::
 (nat_lit 209,Fz P) ::
 (nat_lit 210,Fy P) ::
 (nat_lit 212,Fx P) ::
 (nat_lit 213,Fw P) ::
 (nat_lit 215,Fv P) ::
 (nat_lit 216,Ft P) ::
 (nat_lit 217,Fq P) ::
 (nat_lit 219,Fp P) ::
 (nat_lit 220,Fo P) ::
 (nat_lit 222,Fj P) ::
 (nat_lit 223,Fi P) ::
 (nat_lit 224,Fg P) ::
 (nat_lit 227,Fe P) ::
 (nat_lit 228,Fd P) ::
 (nat_lit 229,Fb P) ::
 (nat_lit 231,EY P) ::
 (nat_lit 232,Ez P) ::
 (nat_lit 234,Ey P) ::
 (nat_lit 235,Ew P) ::
 (nat_lit 236,Eu P) ::
 (nat_lit 238,Et P) ::
 (nat_lit 239,Es P) ::
 (nat_lit 241,Er P) ::
 (nat_lit 242,Ep P) ::
 (nat_lit 243,Eo P) ::
 (nat_lit 245,En P) ::
 (nat_lit 246,Em P) ::
 (nat_lit 248,El P) ::
 (nat_lit 249,Ek P) ::
 (nat_lit 250,Ej P) ::
 (nat_lit 252,Ei P) ::
 (nat_lit 253,Eh P) ::
 (nat_lit 255,Ef P) ::
 (nat_lit 256,Ed P) ::
 (nat_lit 257,Ec P) ::
 (nat_lit 260,Eb P) ::
 (nat_lit 261,Ea P) ::
 (nat_lit 262,DW P) ::
 (nat_lit 265,DR P) ::
 (nat_lit 266,DQ P) :: []
def asK:List Addr:=[2,3,15,22,23,24,25,28,35,36,37,40,42,43,45,46,47,49,50,52,53,54,56,57,59,60,61,63,64,66,67,68,70,71,73,74,75,77,78,80,81,82,84,85,87,88,89,91,92,94,95,96,98,99,101,102,103,105,106,108,109,110,113,114,115,117,118,120,121,122,125,126,127,129,130,132,133,134,137,138,139,142,143,144,146,147,149,150,151,154,155,156,158,159,161,162,163,165,166,168,169,170,172,173,175,176,177,179,180,182,183,184,186,187,189,190,191,194,195,196,198,199,201,202,203,205,206,208,209,210,212,213,215,216,217,219,220,222,223,224,227,228,229,231,232,234,235,236,238,239,241,242,243,245,246,248,249,250,252,253,255,256,257,260,261,262,265,266]
def tsK:List Addr:=[97,48]
theorem hkE:∀ P,asK=(Kf P).map (·.1):=fun _=>by kernel_rfl
def qv:Program:={ PySem.Challenge.pw_sluice_k61_harm with main:={ PySem.Challenge.pw_sluice_k61_harm.main with body:=[top0 45] } }
def vM:List Str:=("SluiceError":Str) :: ("NoReach":Str) :: ("MOUTH":Str) :: ("way_of":Str) :: ("tops_first":Str) :: ("stretch_of":Str) :: ("natural_of":Str) :: ("reaches_of":Str) :: ("day_filed":Str) :: ("most_of":Str) :: ("with_start":Str) :: ("ranked":Str) :: ("groups_of":Str) :: ("wants_of":Str) :: ("count_ways":Str) :: ("whole_turns":Str) :: ("draw":Str) :: ("take_whole_turns":Str) :: ("take_one_turn":Str) :: ("deal_turns":Str) :: ("deal":Str) :: ("moved":Str) :: ("harm_of":Str) :: ("_law_cell_at":Str) :: ("_law_whole":Str) :: ("_law_pebble":Str) :: ("_law_pebbles":Str) :: ("_law_river":Str) :: ("_law_walk":Str) :: ("_law_amount":Str) :: ("_law_licence":Str) :: ("_law_day":Str) :: ("_law_free":Str) :: ("_law_is_shown":Str) :: ("_law_dealt":Str) :: ("_law_due":Str) :: ("_law_alike":Str) :: []
end
theorem hp1:∀ w:World,(PySem.W.fencedOpening PySem.treeTable PySem.Challenge.rw_sluice_k61_harm.row.toRowW.prog w 3280).map (fun s=>(s.heap,s.gens,s.drawn,s.toks))=some (H0 w.params,#[],{},181):=by
  intro w;kernel_rfl
theorem hp2:∀ w:World,((H0 w.params).isNs mainGlobals && (#[]:Array GenState).size == 0,(H0 w.params).objs.size,(H0 w.params).nsMap mainGlobals "__annotations__")=(true,11,some (Value.ref 6)):=by
  intro w;kernel_rfl
theorem hp3:∀ (w:World) (os:OsState),PySem.W.topRun PySem.treeTable PySem.Challenge.rw_sluice_k61_harm.row.toRowW.prog w 11 (some (Value.ref 6)) 3280 ⟨H0 w.params,#[],{},181,os⟩ (PySem.W.topStub PySem.Challenge.rw_sluice_k61_harm.row.toRowW.prog)=some ⟨H1 w.params,#[],{},580,os⟩:=by
  intro w os;kernel_rfl
theorem hp4:∀ w:World,(fun os=>((PySem.W.staticsOk (importedModules PySem.Challenge.rw_sluice_k61_harm.row.toRowW.prog.main.body) (H0 w.params) (H1 w.params) && PySem.W.namesBound PySem.Challenge.rw_sluice_k61_harm.row.toRowW.prog (H1 w.params) && PySem.W.gensDone ⟨H1 w.params,#[],{},580,os⟩ && PySem.W.laidKept (H0 w.params) (H1 w.params)),PySem.W.openSeen qv vM (importedModules PySem.Challenge.rw_sluice_k61_harm.row.toRowW.prog.main.body) (fun s=>PySem.W.xlAt My.qv [] s && PySem.W.recOk (PySem.W.RowW.records PySem.Challenge.rw_sluice_k61_harm.row.toRowW) s) true ⟨H1 w.params,#[],{},580,os⟩,(PySem.W.Hook.obs (PySem.W.kmHook My.Kf My.asK My.hkE My.tsK)) ⟨H1 w.params,#[],{},580,os⟩))=fun _=>(true,PySem.W.openGood qv vM,(PySem.W.Hook.val (PySem.W.kmHook My.Kf My.asK My.hkE My.tsK)) w):=by
  intro w;kernel_rfl
theorem hlE:PySem.W.LeftO PySem.Challenge.rw_sluice_k61_harm.row.toRowW.prog qv My.vM (fun s=>PySem.W.xlAt My.qv [] s && PySem.W.recOk (PySem.W.RowW.records PySem.Challenge.rw_sluice_k61_harm.row.toRowW) s) (PySem.W.Hook.obs (PySem.W.kmHook My.Kf My.asK My.hkE My.tsK)) (PySem.W.Hook.val (PySem.W.kmHook My.Kf My.asK My.hkE My.tsK)) 3280:=PySem.W.LeftO.of_pieces hp1 hp2 hp3 (by decide) hp4
end My
namespace L2
open PySem PySem.Spec PyProof.Rows
abbrev Key:=Sum Int Str
def wX:Key→Value→Bool
  | .inl k,v=>Value.isInt k v
  | .inr x,v=>Value.isStrOf x v
def keyH (w:World):Key→Int
  | .inl k=>hashInt k
  | .inr x=>hashStr w x
theorem dH:∀ {k:Key} {v:Value},wX k v=true→(∃ i t,k=Sum.inl i∧v=Value.int i t)∨(∃ x t,k=Sum.inr x∧v=Value.str x t)
  | .inl i,v,h=>by
    obtain ⟨t,e⟩:=Value.isInt_shape (k:=i) (v:=v) h
    exact .inl ⟨i,t,rfl,e⟩
  | .inr x,v,h=>by
    obtain ⟨t,e⟩:=Value.isStrOf_shape (x:=x) (v:=v) h
    exact .inr ⟨x,t,rfl,e⟩
theorem zK (i:Int) (t:Tok):wX (.inl i) (.int i t)=true:=by simp [wX,Value.isInt]
theorem zJ (x:Str) (t:Tok):wX (.inr x) (.str x t)=true:=by simp [wX,Value.isStrOf]
theorem K9 (a b:Int):decide ((Sum.inl a:Key)=Sum.inl b)=(a == b):=by
  by_cases e:a=b
  · subst e;simp
  · have h:¬ (Sum.inl a:Key)=Sum.inl b:=fun q=>e (Sum.inl.inj q)
    rw [decide_eq_false h]
    exact (beq_eq_false_iff_ne.mpr e).symm
theorem K5 (a b:Str):decide ((Sum.inr a:Key)=Sum.inr b)=decide (a=b):=by
  by_cases e:a=b
  · subst e;simp
  · have h:¬ (Sum.inr a:Key)=Sum.inr b:=fun q=>e (Sum.inr.inj q)
    rw [decide_eq_false h,decide_eq_false e]
theorem K8 (a:Int) (b:Str):decide ((Sum.inl a:Key)=Sum.inr b)=false:=decide_eq_false (fun q=>nomatch q)
theorem K6 (a:Str) (b:Int):decide ((Sum.inr a:Key)=Sum.inl b)=false:=decide_eq_false (fun q=>nomatch q)
def eO (prog:Program) (w:World):PySem.KeyKind prog w Key where
  is:=wX
  hash:=keyH w
  inj:=fun v a b ha hb=>by
    rcases dH ha with ⟨i,t,rfl,rfl⟩ | ⟨x,t,rfl,rfl⟩
    · rcases dH hb with ⟨j,u,rfl,e⟩ | ⟨y,u,rfl,e⟩
      · injection e with e1 _;rw [e1]
      · exact nomatch e
    · rcases dH hb with ⟨j,u,rfl,e⟩ | ⟨y,u,rfl,e⟩
      · exact nomatch e
      · injection e with e1 _;rw [e1]
  byValue:=fun k v h=>by
    rcases dH h with ⟨i,t,rfl,rfl⟩ | ⟨x,t,rfl,rfl⟩ <;> rfl
  pyHash:=fun hv h=>by
    rcases dH hv with ⟨i,t,rfl,rfl⟩ | ⟨x,t,rfl,rfl⟩
    · exact wpAny_pyHash_int h
    · exact wpAny_pyHash_str h
  eqBool:=fun hu hv h=>by
    rcases dH hu with ⟨i,t,rfl,rfl⟩ | ⟨x,t,rfl,rfl⟩
    · rcases dH hv with ⟨j,u,rfl,rfl⟩ | ⟨y,u,rfl,rfl⟩
      · rw [K9] at h;exact wpAny_eqBool_int h
      · rw [K8] at h;exact SeqAt.EqAt.int_str i t y u _ _ _ _ h
    · rcases dH hv with ⟨j,u,rfl,rfl⟩ | ⟨y,u,rfl,rfl⟩
      · rw [K6] at h;exact SeqAt.EqAt.str_int x t j u _ _ _ _ h
      · rw [K5] at h;exact wpAny_eqBool_str h
  «strs»:=fun k x t v h=>by
    rcases dH h with ⟨i,u,rfl,e⟩ | ⟨y,u,rfl,e⟩
    · exact nomatch e
    · injection e with e1 _
      subst e1
      cases v <;> rfl
theorem uD (prog:Program) (w:World) (i:Int) (t:Tok):(eO prog w).is (.inl i) (.int i t)=true:=zK i t
theorem uz (prog:Program) (w:World) (x:Str) (t:Tok):(eO prog w).is (.inr x) (.str x t)=true:=zJ x t
end L2
namespace L2
open PySem PySem.Spec PyProof.Rows
inductive V where
  | non | bl (b:Bool) | int (i:Int) | str (x:Str) | byt (b:Array UInt8) | flt (b:UInt64) | ref (a:Addr) | ty (n:String)
  deriving DecidableEq
def RelV:V→Value→Prop
  | .non,u=>u=Value.none
  | .bl b,u=>u=Value.bool b
  | .int i,u=>∃ t,u=Value.int i t
  | .str x,u=>∃ t,u=Value.str x t
  | .byt b,u=>∃ t,u=Value.bytes b t
  | .flt b,u=>∃ t,u=Value.float b t
  | .ref a,u=>u=Value.ref a
  | .ty n,u=>u=Value.type n
abbrev Vals:List V→List Value→Prop:=Paired RelV
theorem Vals.length {xs:List V} {us:List Value} (r:Vals xs us):xs.length=us.length:=Paired.length r
theorem Vals.get:∀ {xs:List V} {us:List Value} {i:Nat} {x:V},Vals xs us→xs[i]?=some x→∃ u,us[i]?=some u∧RelV x u
  | _,_,_,_,.nil,e=>by simp at e
  | _,_,0,_,.cons r _,e=>by simp at e;subst e;exact ⟨_,rfl,r⟩
  | _,_,i + 1,x,.cons _ t,e=>by
    obtain ⟨u,h1,h2⟩:=Vals.get (i:=i) (x:=x) t (by simpa using e)
    exact ⟨u,by simpa using h1,h2⟩
theorem Vals.set {x:V} {u:Value} (r:RelV x u):∀ {xs:List V} {us:List Value} (i:Nat),Vals xs us→Vals (xs.set i x) (us.set i u)
  | _,_,_,.nil=>.nil
  | _,_,0,.cons _ t=>.cons r t
  | _,_,i + 1,.cons q t=>.cons q (Vals.set r i t)
theorem Vals.append:∀ {xs ys:List V} {us ws:List Value},Vals xs us→Vals ys ws→Vals (xs++ys) (us++ws)
  | _,_,_,_,.nil,s=>s
  | _,_,_,_,.cons r t,s=>.cons r (Vals.append t s)
theorem Vals.take:∀ {xs:List V} {us:List Value} (n:Nat),Vals xs us→Vals (xs.take n) (us.take n)
  | _,_,0,_=>.nil
  | _,_,_ + 1,.nil=>.nil
  | _,_,n + 1,.cons r t=>.cons r (Vals.take n t)
theorem Vals.drop:∀ {xs:List V} {us:List Value} (n:Nat),Vals xs us→Vals (xs.drop n) (us.drop n)
  | _,_,0,r=>r
  | _,_,_ + 1,.nil=>.nil
  | _,_,n + 1,.cons _ t=>Vals.drop n t
def Qq:Option V→Option Value→Prop
  | some v,some u=>RelV v u
  | none,none=>True
  | _,_=>False
def KV {κ:Type}:List (κ × V)→List (κ × Value)→Prop:=Paired fun (p:κ × V) (q:κ × Value)=>p.1=q.1∧RelV p.2 q.2
def kV:Key→V
  | .inl i=>.int i
  | .inr x=>.str x
inductive HO where
  /-- a list -/
  | lst (xs:List V)
  /-- a tuple (never changes) -/
  | tup (xs:List V)
  /-- a dict whose keys are ints and texts; one whose keys are tuples of ints and texts (the empty one is both) -/
  | dK (kvs:List (Key × V)) | dT (kvs:List (List Key × V))
  /-- a set of ints: its members, its size -/
  | set (S:Int→Bool) (n:Nat)
  /-- an instance of the class at C, its dict at dx, its attributes -/
  | ins (C dx:Addr) (fs:List (Str × V))
  /-- the dict of the instance at x -/
  | own (x:Addr)
  /-- the dict of an exception -/
  | xd (fs:List (Str × V))
  /-- a bound method, f of x -/
  | met (f x:Addr)
  /-- a range object lo, lo + 1, .. below hi -/
  | rng (lo hi:Int)
  /-- a thing that is known to the object (the script; a dict while a loop walks it): read, never written while it is so -/
  | frz (o:Obj) (u:HO)
  /-- a code object's table -/
  | tbl (ps:Array Value)
  /-- any other thing, by what is true of its one object (a def of one's own: SetO a S n := HO.ext fun h => ..) -/
  | ext (φ:Heap→Prop)
abbrev Hp:=Addr→Option HO
def upd (H:Hp) (a:Addr) (o:HO):Hp:=fun b=>if b=a then some o else H b
theorem aV {H:Hp} {a:Addr} {o:HO}:upd H a o a=some o:=by unfold upd;rw [if_pos rfl]
theorem aN {H:Hp} {a b:Addr} {o:HO} (h:b≠a):upd H a o b=H b:=by unfold upd;rw [if_neg h]
theorem aR {H:Hp} {a b:Addr} {o:HO} (h:H a=some o) (h':H b=none):a≠b:=by
  intro e;subst e;rw [h] at h';cases h'
section
variable (P:Program) (w:World)
def eV (H:Hp) (h:Heap) (a:Addr):HO→Prop
  | .lst xs=>xs.length≤sizeLine∧∃ (its:List Value) (n:Nat),Vals xs its∧h.get? a=some { cls:=.type "list",data:=.seq its.toArray n }
  | .tup xs=>xs.length≤sizeLine∧∃ its:List Value,Vals xs its∧IsTup h a its.toArray
  | .dK kvs=>kvs.length≤sizeLine∧(a == sysModules)=false∧∃ vs,KV kvs vs∧h.DictOf (eO P w) a vs
  | .dT kvs=>kvs.length≤sizeLine∧(a == sysModules)=false∧∃ xs:List (List Key × Addr × Value),
      Paired (fun (p:List Key × V) (q:List Key × Addr × Value)=>p.1=q.1∧H q.2.1=some (.tup (p.1.map kV))∧RelV p.2 q.2.2) kvs xs ∧
      ∃ o es ep,h.get? a=some o∧o.ExactDict∧o.data=.dict es ep∧es.toList=xs.map (entryOfKey (tupleKind (eO P w)))∧(xs.map (·.1)).Nodup
  | .set S n=>h.SetOf (intKind P w) a S n
  | .ins C dx fs=>H dx=some (.own a)∧fs.length≤1000∧dx≠a∧h.get? a=some (PySem.W.instObj C dx) ∧
      ∃ mA,h.Ns1 dx mA∧(∀ f,Qq (fs.lookup f) (mA f))∧PySem.Within mA (fs.map (·.1))
  | .own _=>∃ o,h.get? a=some o
  | .xd fs=>∃ mA,h.Ns1 a mA∧∀ f,Qq (fs.lookup f) (mA f)
  | .rng lo hi=>∃ t u v,h.get? a=some { cls:=.type "range",data:=.fields #[.int lo t,.int hi u,.int 1 v] }
  | .frz o u=>h.get? a=some o∧eV H h a u
  | .tbl ps=>h.get? a=some { cls:=.none,data:=.fields ps }
  | .met f x=>h.get? a=some (PySem.W.methodObj (.ref f) (.ref x))
  | .ext φ=>φ h∧(∃ o,h.get? a=some o)∧∀ h1 h2:Heap,φ h1→(∀ o,h1.get? a=some o→h2.get? a=some o)→φ h2
def HOk (H:Hp) (h:Heap):Prop:=∀ a o,H a=some o→eV P w H h a o
end
section
variable {P:Program} {w:World} {H H':Hp} {h h':Heap} {a:Addr} {o:HO}
theorem eV.lt (x:eV P w H h a o):a<h.objs.size:=by
  cases o with
  | lst xs=>obtain ⟨_,_,_,_,e⟩:=x;exact Heap.lt_size e
  | tup xs=>obtain ⟨_,_,_,p⟩:=x;exact p.lt
  | dK kvs=>obtain ⟨_,_,_,_,o,_,_,e,_⟩:=x;exact Heap.lt_size e
  | dT kvs=>obtain ⟨_,_,_,_,o,_,_,e,_⟩:=x;exact Heap.lt_size e
  | set S n=>obtain ⟨o,_,_,_,e,_⟩:=x;exact Heap.lt_size e
  | ins C dx fs=>obtain ⟨_,_,_,e,_⟩:=x;exact Heap.lt_size e
  | own y=>obtain ⟨_,e⟩:=x;exact Heap.lt_size e
  | xd fs=>obtain ⟨_,⟨_,_,_,e,_⟩,_⟩:=x;exact Heap.lt_size e
  | rng lo hi=>obtain ⟨_,_,_,e⟩:=x;exact Heap.lt_size e
  | frz ob u=>obtain ⟨e,_⟩:=x;exact Heap.lt_size e
  | tbl ps=>exact Heap.lt_size (show h.get? a=some _ from x)
  | met f y=>exact Heap.lt_size (show h.get? a=some _ from x)
  | ext φ=>obtain ⟨_,⟨_,e⟩,_⟩:=x;exact Heap.lt_size e
theorem Paired.Tv {α β:Type} {F G:α→β→Prop}:∀ {l₁:List α} {l₂:List β},Paired F l₁ l₂→(∀ a b,F a b→G a b)→Paired G l₁ l₂
  | _,_,.nil,_=>.nil
  | _,_,.cons r t,f=>.cons (f _ _ r) (Paired.Tv t f)
theorem eV.stay (x:eV P w H h a o) (k:∀ b u,(b=a∨H b=some (.own a))→h.get? b=some u→h'.get? b=some u)
    (ho:∀ b,H b=some (.own a)→H' b=some (.own a)) (ht:∀ b xs,H b=some (.tup xs)→H' b=some (.tup xs)):eV P w H' h' a o:=by
  induction o with
  | lst xs=>obtain ⟨z,its,n,r,e⟩:=x;exact ⟨z,its,n,r,k _ _ (.inl rfl) e⟩
  | tup xs=>obtain ⟨z,its,r,ob,e,c⟩:=x;exact ⟨z,its,r,ob,k _ _ (.inl rfl) e,c⟩
  | dK kvs=>obtain ⟨z,y,vs,r,ob,es,ep,e,c⟩:=x;exact ⟨z,y,vs,r,ob,es,ep,k _ _ (.inl rfl) e,c⟩
  | dT kvs =>
    obtain ⟨z,y,xs,r,ob,es,ep,e,c⟩:=x
    exact ⟨z,y,xs,Paired.Tv r fun p q z=>⟨z.1,ht _ _ z.2.1,z.2.2⟩,ob,es,ep,k _ _ (.inl rfl) e,c⟩
  | set S n=>obtain ⟨ob,es,ep,t,e,c⟩:=x;exact ⟨ob,es,ep,t,k _ _ (.inl rfl) e,c⟩
  | ins C dx fs =>
    obtain ⟨d,z,ne,e,mA,⟨od,es,ep,e2,c⟩,r⟩:=x
    exact ⟨ho _ d,z,ne,k _ _ (.inl rfl) e,mA,⟨od,es,ep,k _ _ (.inr d) e2,c⟩,r⟩
  | own y=>obtain ⟨ob,e⟩:=x;exact ⟨ob,k _ _ (.inl rfl) e⟩
  | xd fs=>obtain ⟨mA,⟨od,es,ep,e,c⟩,r⟩:=x;exact ⟨mA,⟨od,es,ep,k _ _ (.inl rfl) e,c⟩,r⟩
  | rng lo hi=>obtain ⟨t,u,v,e⟩:=x;exact ⟨t,u,v,k _ _ (.inl rfl) e⟩
  | frz ob u ih=>obtain ⟨e,q⟩:=x;exact ⟨k _ _ (.inl rfl) e,ih q⟩
  | tbl ps =>
    have e:h.get? a=some { cls:=.none,data:=.fields ps }:=x
    show h'.get? a=some { cls:=.none,data:=.fields ps }
    exact k a _ (.inl rfl) e
  | met f y =>
    have e:h.get? a=some (PySem.W.methodObj (.ref f) (.ref y)):=x
    show h'.get? a=some (PySem.W.methodObj (.ref f) (.ref y))
    exact k a _ (.inl rfl) e
  | ext φ=>obtain ⟨p,⟨o,e⟩,st⟩:=x;exact ⟨st _ _ p fun o q=>k _ _ (.inl rfl) q,⟨o,k _ _ (.inl rfl) e⟩,st⟩
theorem HOk.lt (x:HOk P w H h) (e:H a=some o):a<h.objs.size:=(x a o e).lt
theorem HOk.fresh (x:HOk P w H h) (e:h.objs.size≤a):H a=none:=by
  cases q:H a with
  | none=>rfl
  | some u=>exact absurd (Nat.lt_of_lt_of_le (x.lt q) e) (Nat.lt_irrefl _)
theorem HOk.kept (x:HOk P w H h) (k:∀ b u,h.get? b=some u→h'.get? b=some u):HOk P w H h':=fun a o e =>
  (x a o e).stay (fun b u _ q=>k b u q) (fun _ q=>q) fun _ _ q=>q
theorem HOk.laid (x:HOk P w H h) (k:∀ b u,h.get? b=some u→h'.get? b=some u) (hp:h.objs.size≤a) (new:eV P w (upd H a o) h' a o):HOk P w (upd H a o) h':=fun b u e=>by
  have hn:=x.fresh hp
  by_cases hb:b=a
  · subst hb;rw [aV] at e;cases e;exact new
  · rw [aN hb] at e
    exact (x b u e).stay (fun c v _ q=>k c v q) (fun c q=>by rw [aN (aR q hn)];exact q) fun c xs q=>by rw [aN (aR q hn)];exact q
end
def Rd (H:Hp) (a:Addr) (u:HO):Prop:=H a=some u∨∃ o,H a=some (.frz o u)
theorem Rd.ok {P:Program} {w:World} {H:Hp} {h:Heap} {a:Addr} {u:HO} (r:Rd H a u) (x:HOk P w H h):eV P w H h a u:=by
  rcases r with r | ⟨o,r⟩
  · exact x a u r
  · obtain ⟨_,q⟩:=x a _ r
    exact q
def Mut:Option HO→Prop
  | some (.lst _)=>True
  | some (.dK _)=>True
  | some (.dT _)=>True
  | some (.set _ _)=>True
  | some (.ins _ _ _)=>True
  | some (.ext _)=>True
  | _=>False
section
variable {P:Program} {w:World} {H:Hp} {h h':Heap} {x e:Addr} {o':HO}
theorem HOk.write (ok:HOk P w H h) (mu:Mut (H x)) (he:e=x∨H e=some (.own x)) (k:∀ b u,b≠e→h.get? b=some u→h'.get? b=some u) (heo:∃ u,h'.get? e=some u)
    (new:eV P w (upd H x o') h' x o'):HOk P w (upd H x o') h':=fun b u q=>by
  have nown:∀ c y,H c=some (.own y)→c≠x:=fun c y r z=>by subst z;rw [r] at mu;exact mu
  have ntup:∀ c xs,H c=some (.tup xs)→c≠x:=fun c xs r z=>by subst z;rw [r] at mu;exact mu
  by_cases hb:b=x
  · subst hb;rw [aV] at q;cases q;exact new
  · rw [aN hb] at q
    by_cases hbe:b=e
    · have q':H b=some (.own x):=by
        rcases he with z | z
        · exact absurd (hbe.trans z) hb
        · rw [hbe];exact z
      rw [q] at q';cases q'
      obtain ⟨v,hv⟩:=heo
      exact ⟨v,by rw [hbe];exact hv⟩
    · refine (ok b u q).stay (fun c v hc r=>k c v ?_ r) (fun c r=>by rw [aN (nown c b r)];exact r) fun c xs r=>by rw [aN (ntup c xs r)];exact r
      rcases hc with rfl | hc
      · exact hbe
      · rintro rfl
        rcases he with z | z
        · exact nown c b hc z
        · rw [hc] at z;cases z;exact hb rfl
end
structure Un (fs ex:List Addr) (H H':Hp) (h h':Heap):Prop where
  keep:∀ b o,h.get? b=some o→H b=none→b ∉ fs→b ∉ ex→h'.get? b=some o
  slot:∀ b o,h.get? b=some o→H b=none→b∈fs→b ∉ ex→∃ sl,h'.get? b=some { o with slots:=sl }
  free:∀ b o,h.get? b=some o→H b=none→b ∉ ex→H' b=none
  there:∀ b o,h.get? b=some o→b ∉ ex→∃ o',h'.get? b=some o'
  tups:∀ b xs,H b=some (.tup xs)→H' b=some (.tup xs)
  frzs:∀ b o u,H b=some (.frz o u)→H' b=some (.frz o u)
  tbls:∀ b ps,H b=some (.tbl ps)→∃ more,H' b=some (.tbl (ps++more))
section
variable {fs fs' ex ex':List Addr} {H H1 H2:Hp} {h h1 h2 h':Heap} {a x e:Addr} {o:HO}
theorem Un.any (u:Un fs ex H H1 h h1) {b:Addr} {ob:Obj} (q:h.get? b=some ob) (n:H b=none) (hx:b ∉ ex):∃ sl,h1.get? b=some { ob with slots:=sl }:=by
  by_cases hb:b∈fs
  · exact u.slot b ob q n hb hx
  · exact ⟨ob.slots,u.keep b ob q n hb hx⟩
theorem Un.kept (k:∀ b u,h.get? b=some u→h'.get? b=some u):Un fs ex H H h h' :=
  ⟨fun b ob q _ _ _=>k b ob q,fun b ob q _ _ _=>⟨ob.slots,k b ob q⟩,fun _ _ _ n _=>n,fun b ob q _=>⟨ob,k b ob q⟩,fun _ _ q=>q,fun _ _ _ q=>q,fun _ ps q=>⟨#[],by rw [q];simp⟩⟩
theorem Un.refl:Un fs ex H H h h:=Un.kept fun _ _ q=>q
theorem Un.laid (k:∀ b u,h.get? b=some u→h'.get? b=some u) (hp:h.objs.size≤a) (hn:H a=none):Un fs ex H (upd H a o) h h' where
  keep:=fun b u q _ _ _=>k b u q
  slot:=fun b u q _ _ _=>⟨u.slots,k b u q⟩
  free:=fun b u q n _=>by rw [aN (Nat.ne_of_lt (Nat.lt_of_lt_of_le (Heap.lt_size q) hp))];exact n
  there:=fun b u q _=>⟨u,k b u q⟩
  tups:=fun b xs q=>by rw [aN (aR q hn)];exact q
  frzs:=fun b u xs q=>by rw [aN (aR q hn)];exact q
  tbls:=fun b ps q=>⟨#[],by rw [aN (aR q hn),q];simp⟩
theorem Un.write (mu:Mut (H x)) (he:e=x∨H e=some (.own x)) (k:∀ b u,b≠e→h.get? b=some u→h'.get? b=some u) (heo:∃ u,h'.get? e=some u):Un fs ex H (upd H x o) h h':=by
  have hx:∀ b,H b=none→b≠x:=fun b n z=>by subst z;rw [n] at mu;exact mu
  have hb:∀ b,H b=none→b≠e:=fun b n z=>by
    subst z
    rcases he with r | r
    · exact hx b n r
    · rw [n] at r;cases r
  have hm:∀ b u,H b=some u→¬ Mut (some u)→b≠x:=fun b u q nm z=>by subst z;rw [q] at mu;exact nm mu
  refine ⟨fun b u q n _ _=>k b u (hb b n) q,fun b u q n _ _=>⟨u.slots,k b u (hb b n) q⟩,fun b u q n _=>by rw [aN (hx b n)];exact n,fun b u q _=>?_,
    fun b xs q=>by rw [aN (hm b _ q fun z=>z)];exact q,fun b u xs q=>by rw [aN (hm b _ q fun z=>z)];exact q,fun b ps q=>⟨#[],by rw [aN (hm b _ q fun z=>z),q];simp⟩⟩
  by_cases hbe:b=e
  · subst hbe;exact heo
  · exact ⟨u,k b u hbe q⟩
end
def trk (h:Heap) (H:Hp):List Addr:=(List.range h.objs.size).filter fun a=>(H a).isSome
def Az (h:Heap) (H:Hp):Heap:=PySem.W.hideAll h (trk h H)
theorem zQ (h:Heap) (H:Hp):(Az h H).objs.size=h.objs.size:=PySem.W.hideAll_size _ _
theorem Cu {h:Heap} {H:Hp} {b:Addr} {o:Obj} (e:h.get? b=some o) (n:H b=none):(Az h H).get? b=some o :=
  PySem.W.hideAll_get _ e fun hm=>by
    have q:(H b).isSome=true:=(List.mem_filter.mp hm).2
    rw [n] at q;simp at q
theorem Jr {h:Heap} {H:Hp} {b:Addr} {o:Obj} (e:(Az h H).get? b=some o):h.get? b=some o∧H b=none:=by
  have e':h.get? b=some o:=PySem.W.of_hideAll (trk h H) e
  refine ⟨e',?_⟩
  cases q:H b with
  | none=>rfl
  | some x =>
    have hm:b∈trk h H:=List.mem_filter.mpr ⟨List.mem_range.mpr (Heap.lt_size e'),by simp [q]⟩
    have z:(Az h H).get? b=none:=PySem.W.hideAll_none (trk h H) hm
    rw [z] at e;cases e
end L2
namespace L2
open PySem PySem.Spec PyProof.Rows
structure Mod (K:PySem.W.Frag) (mg:Str→Option Value) (base:Heap):Prop where
  kin:K.In base
  glob:base.Ns mainGlobals mg
  blt:∃ mb,base.Ns builtinsNs mb∧∀ x:Str,x≠"__name__"→mb x=bootBuiltins x
  nolimit:base.NoLimit
structure Cx where
  prog:Program
  w:World
  K:PySem.W.Frag
  mg:Str→Option Value
  base:Heap
  A:Around
  N:List Str
  s₀:Shared
  H₀:Hp
  env:Env
  outer:List Env
  stack:List Env
  ex:List Addr
  fn:Str→Bool
  calm:Bool
  pn:List (Addr × Obj)
  xe:Value→Shared→Prop
def frs (l:List Env):List Addr:=l.filterMap (·.frame)
abbrev Cx.fs (X:Cx):List Addr:=frs X.outer
def Vis (sc:Scope) (x:Str):Prop:=sc.names.lookup x=some .local∨sc.names.lookup x=some .cell∨sc.names.lookup x=some .free
def Loc (sc:Scope) (x:Str):Prop:=sc.names.lookup x=some .local∨sc.names.lookup x=some .cell
def Look (env:Env) (h:Heap) (m:Str→Option Value) (x:Str) (u:Value):Prop :=
  (env.kindOf x=some .local∧m x=some u)∨((env.kindOf x=some .cell∨env.kindOf x=some .free)∧∃ c,env.cells.lookup x=some c∧h.IsCell c (some u))
structure Cx.Ok (X:Cx):Prop where
  mod:Mod X.K X.mg X.base
  kind:X.env.scope.kind=.function
  glob:X.env.globals=mainGlobals
  blt:X.env.builtins=builtinsNs
  above:X.s₀.heap.objs.size≤X.env.locals
  inj:∀ x y c,X.env.cells.lookup x=some c→X.env.cells.lookup y=some c→x=y
  has:∀ x,(X.env.kindOf x=some .cell∨X.env.kindOf x=some .free)→∃ c,X.env.cells.lookup x=some c
  cab:∀ x c,X.fn x=true→X.env.cells.lookup x=some c→X.s₀.heap.objs.size≤c
  hd:X.calm=true→X.A.handled=none
  frames:X.A.frames=some X.stack
  stk:X.stack=X.outer∨(X.stack=X.env :: X.outer∧X.env.frame=some X.env.locals)
  exf:∀ b∈X.ex,b≠X.env.locals∧∀ x c,X.env.cells.lookup x=some c→c≠b
  bs:∀ b o,X.base.get? b=some o→X.s₀.heap.get? b=some o∧X.H₀ b=none
  bsz:X.base.objs.size≤X.s₀.heap.objs.size
  noex:∀ b o,X.base.get? b=some o→b ∉ X.ex
  exfs:∀ b∈X.ex,b ∉ X.fs
  zT:X.s₀.heap.FunFrames X.base X.outer
  frf:∀ b∈X.fs,X.H₀ b=none
structure Inv (X:Cx) (pins:List (Addr × Obj)) (σ:List (Option V)) (H:Hp) (s:Shared):Prop where
  ok:X.Ok
  os:s.os=X.s₀.os
  bare:AllBare s.gens
  base:Un X.fs X.ex X.H₀ H X.s₀.heap s.heap
  loc:∃ m,s.heap.Ns X.env.locals m∧∀ (i:Nat) (x:Str) (v:V),X.N[i]?=some x→σ[i]?=some (some v)→Vis X.env.scope x→∃ u,RelV v u∧Look X.env s.heap m x u
  cell:∀ x c,X.env.cells.lookup x=some c→∃ v,s.heap.IsCell c v
  free:H X.env.locals=none
  freeC:∀ x c,X.env.cells.lookup x=some c→H c=none
  pin:∀ p∈X.pn++pins,s.heap.get? p.1=some p.2∧H p.1=none∧p.1≠X.env.locals∧p.1 ∉ X.fs∧∀ v,p.2.data≠.cell v
  hok:HOk X.prog X.w H s.heap
  len:σ.length=X.N.length
section
variable {X:Cx} {pins:List (Addr × Obj)} {σ:List (Option V)} {H H':Hp} {s:Shared} {h':Heap}
theorem Cx.Ok.nofr (ok:X.Ok) {b:Addr} {o:Obj} (e:X.base.get? b=some o):b ∉ X.fs:=fun hb=>by
  have:=(ok.zT.mem hb).1
  rw [e] at this;cases this
theorem Inv.bs (I:Inv X pins σ H s):∀ b o,X.base.get? b=some o→s.heap.get? b=some o∧H b=none:=fun b o e =>
  ⟨I.base.keep b o (I.ok.bs b o e).1 (I.ok.bs b o e).2 (I.ok.nofr e) (I.ok.noex b o e),I.base.free b o (I.ok.bs b o e).1 (I.ok.bs b o e).2 (I.ok.noex b o e)⟩
theorem Inv.bk (I:Inv X pins σ H s):∀ b o,X.base.get? b=some o→s.heap.get? b=some o:=fun b o e=>(I.bs b o e).1
theorem Inv.mod (I:Inv X pins σ H s):Mod X.K X.mg X.base:=I.ok.mod
theorem Inv.kIn (I:Inv X pins σ H s):X.K.In s.heap:=I.ok.mod.kin.keeps I.bk
theorem Inv.nolimit (I:Inv X pins σ H s):s.heap.NoLimit:=I.ok.mod.nolimit.keeps I.bk
theorem Inv.lt (I:Inv X pins σ H s):X.env.locals<s.heap.objs.size:=let ⟨_,hn,_⟩:=I.loc;hn.lt
theorem Inv.sz (I:Inv X pins σ H s):X.s₀.heap.objs.size≤s.heap.objs.size:=Nat.le_trans I.ok.above (Nat.le_of_lt I.lt)
theorem Inv.nofs (I:Inv X pins σ H s) {a:Addr} (h:s.heap.objs.size≤a):a ∉ X.fs:=fun hb=>by
  obtain ⟨_,o,ho,_⟩:=I.ok.zT.mem hb
  exact absurd (Nat.lt_of_lt_of_le (Heap.lt_size ho) (Nat.le_trans I.sz h)) (Nat.lt_irrefl _)
theorem Inv.cne (I:Inv X pins σ H s):∀ x c,X.env.cells.lookup x=some c→c≠X.env.locals:=fun x c e z=>by
  obtain ⟨v,o,ho,hd⟩:=I.cell x c e
  obtain ⟨m,⟨o',es,ep,ho',hd',_⟩,_⟩:=I.loc
  rw [z,ho'] at ho;cases ho;rw [hd'] at hd;cases hd
theorem Inv.zT (I:Inv X pins σ H s):s.heap.FunFrames X.base X.outer:=by
  have all:∀ (l:List Env),(∀ b∈frs l,b∈X.fs)→X.s₀.heap.FunFrames X.base l→s.heap.FunFrames X.base l:=by
    intro l
    induction l with
    | nil=>intro _ _;trivial
    | cons env r ih =>
      intro hs hl
      obtain ⟨hk,⟨L,o,hf,hn,ho,hd⟩,hr⟩:=hl
      have hL:L∈X.fs:=hs L (by unfold frs;rw [List.filterMap_cons,hf];exact List.mem_cons_self)
      obtain ⟨sl,e⟩:=I.base.slot L o ho (I.ok.frf L hL) hL fun z=>I.ok.exfs L z hL
      exact ⟨hk,⟨L,_,hf,hn,e,hd⟩,ih (fun b hb=>hs b (by unfold frs;rw [List.filterMap_cons,hf];exact List.mem_cons_of_mem _ hb)) hr⟩
  exact all X.outer (fun _ hb=>hb) I.ok.zT
theorem Inv.stack (I:Inv X pins σ H s):s.heap.FunFrames X.base X.stack:=by
  rcases I.ok.stk with e | ⟨e,hf⟩
  · rw [e];exact I.zT
  · rw [e]
    obtain ⟨m,hn,_⟩:=I.loc
    refine .cons (by rw [I.ok.kind];decide) hf hn ?_ I.zT
    exact Heap.get?_none_of_le (Nat.le_trans I.ok.bsz I.ok.above)
theorem Inv.vg (I:Inv X pins σ H s):∀ b∈frs X.stack,b∈X.env.locals :: X.fs:=fun b hb=>by
  rcases I.ok.stk with e | ⟨e,hf⟩
  · rw [e] at hb;exact List.mem_cons_of_mem _ hb
  · rw [e] at hb
    unfold frs at hb
    rw [List.filterMap_cons,hf] at hb
    exact hb
theorem Inv.qj (I:Inv X pins σ H s):∀ b∈frs X.stack,H b=none:=fun b hb=>by
  rcases List.mem_cons.mp (I.vg b hb) with e | hb
  · rw [e];exact I.free
  · obtain ⟨_,o,ho,_⟩:=I.ok.zT.mem hb
    exact I.base.free b o ho (I.ok.frf b hb) fun z=>I.ok.exfs b z hb
theorem Inv.step {g':Array GenState} {t':Nat} {d':Drawn} {ch:List Addr} (I:Inv X pins σ H s)
    (hch:∀ b∈ch,(b∈X.ex∨X.s₀.heap.objs.size≤b)∧b≠X.env.locals∧(∀ x c,X.env.cells.lookup x=some c→c≠b)∧∀ p∈X.pn++pins,p.1≠b)
    (keep:∀ b o,b≠X.env.locals→b ∉ X.fs→b ∉ ch→s.heap.get? b=some o→H b=none→h'.get? b=some o)
    (slot:∀ b o,b≠X.env.locals→b∈X.fs→b ∉ ch→s.heap.get? b=some o→H b=none→∃ sl,h'.get? b=some { o with slots:=sl }) (free:∀ b o,b ∉ ch→s.heap.get? b=some o→H b=none→H' b=none)
    (there:∀ b o,b ∉ ch→s.heap.get? b=some o→∃ o',h'.get? b=some o')
    (tups:∀ b xs,H b=some (.tup xs)→H' b=some (.tup xs)) (frzs:∀ b o u,H b=some (.frz o u)→H' b=some (.frz o u)) (tbls:∀ b ps,H b=some (.tbl ps)→∃ more,H' b=some (.tbl (ps++more)))
    (ns:∀ m,s.heap.Ns X.env.locals m→h'.Ns X.env.locals m) (hok:HOk X.prog X.w H' h') (hg:AllBare g') :
    Inv X pins σ H' { s with heap:=h',gens:=g',drawn:=d',toks:=t' }:=by
  have neL:∀ b o,X.s₀.heap.get? b=some o→b≠X.env.locals:=fun b o e=>Nat.ne_of_lt (Nat.lt_of_lt_of_le (Heap.lt_size e) I.ok.above)
  have neC:∀ b o,X.s₀.heap.get? b=some o→b ∉ X.ex→b ∉ ch:=fun b o e hx hb=>by
    rcases (hch b hb).1 with z | z
    · exact hx z
    · exact absurd (Nat.lt_of_lt_of_le (Heap.lt_size e) z) (Nat.lt_irrefl _)
  have cellK:∀ x c,X.env.cells.lookup x=some c→∀ v,s.heap.IsCell c v→h'.IsCell c v:=fun x c e v ⟨o,ho,hd⟩=>by
    have nch:c ∉ ch:=fun z=>(hch c z).2.2.1 x c e rfl
    by_cases hc:c∈X.fs
    · obtain ⟨sl,q⟩:=slot c o (I.cne x c e) hc nch ho (I.freeC x c e)
      exact ⟨_,q,hd⟩
    · exact ⟨o,keep c o (I.cne x c e) hc nch ho (I.freeC x c e),hd⟩
  refine ⟨I.ok,I.os,hg,⟨fun b o e n hb hx=>?_,fun b o e n hb hx=>?_,fun b o e n hx=>?_,fun b o e hx=>?_,fun b xs e=>tups b xs (I.base.tups b xs e),fun b o xs e=>frzs b o xs (I.base.frzs b o xs e),fun b ps e=>?_⟩,?_,fun x c e=>?_,?_,fun x c e=>?_,fun p hp=>?_,hok,I.len⟩
  · exact keep b o (neL b o e) hb (neC b o e hx) (I.base.keep b o e n hb hx) (I.base.free b o e n hx)
  · obtain ⟨sl,e1⟩:=I.base.slot b o e n hb hx
    obtain ⟨sl',e2⟩:=slot b _ (neL b o e) hb (neC b o e hx) e1 (I.base.free b o e n hx)
    exact ⟨sl',e2⟩
  · obtain ⟨o',e1⟩:=I.base.there b o e hx
    exact free b o' (neC b o e hx) e1 (I.base.free b o e n hx)
  · obtain ⟨o',e1⟩:=I.base.there b o e hx
    exact there b o' (neC b o e hx) e1
  · obtain ⟨m1,e1⟩:=I.base.tbls b ps e
    obtain ⟨m2,e2⟩:=tbls b _ e1
    exact ⟨m1++m2,by rw [e2,Array.append_assoc]⟩
  · obtain ⟨m,hn,hl⟩:=I.loc
    refine ⟨m,ns m hn,fun i x v e1 e2 e3=>?_⟩
    obtain ⟨u,r,l⟩:=hl i x v e1 e2 e3
    refine ⟨u,r,?_⟩
    rcases l with l | ⟨k,c,e,z⟩
    · exact .inl l
    · exact .inr ⟨k,c,e,cellK x c e _ z⟩
  · obtain ⟨v,z⟩:=I.cell x c e
    exact ⟨v,cellK x c e v z⟩
  · obtain ⟨m,⟨o,_,_,ho,_⟩,_⟩:=I.loc
    exact free _ o (fun z=>(hch _ z).2.1 rfl) ho I.free
  · obtain ⟨v,o,ho,hd⟩:=I.cell x c e
    exact free c o (fun z=>(hch c z).2.2.1 x c e rfl) ho (I.freeC x c e)
  · obtain ⟨e,n,ne,nf,d⟩:=I.pin p hp
    have nch:p.1 ∉ ch:=fun z=>(hch p.1 z).2.2.2 p hp rfl
    exact ⟨keep p.1 p.2 ne nf nch e n,free p.1 p.2 nch e n,ne,nf,d⟩
theorem Inv.un {t':Nat} (I:Inv X pins σ H s) (u:Un X.fs [] H H' s.heap h') (hok:HOk X.prog X.w H' h'):Inv X pins σ H' { s with heap:=h',toks:=t' }:=by
  obtain ⟨m,⟨o,es,ep,ho,r⟩,_⟩:=id I.loc
  obtain ⟨sl,hL⟩:=u.any ho I.free (by simp)
  exact I.step (g':=s.gens) (d':=s.drawn) (ch:=[]) (fun _ z=>nomatch z) (fun b o _ hb _ e n=>u.keep b o e n hb (by simp)) (fun b o _ hb _ e n=>u.slot b o e n hb (by simp)) (fun b o _ e n=>u.free b o e n (by simp)) (fun b o _ e=>u.there b o e (by simp)) u.tups u.frzs u.tbls (fun m' hm=>by
    obtain ⟨o',es',ep',ho',r'⟩:=hm
    rw [ho] at ho';cases ho'
    exact ⟨_,es',ep',hL,r'⟩) hok I.bare
theorem Inv.call {g':Array GenState} {t':Nat} {d':Drawn} {ch:List Addr} (I:Inv X pins σ H s) (u:Un (frs X.stack) ch H H' s.heap h') (hok:HOk X.prog X.w H' h') (hg:AllBare g')
    (hch:∀ b∈ch,(b∈X.ex∨X.s₀.heap.objs.size≤b)∧b≠X.env.locals∧(∀ x c,X.env.cells.lookup x=some c→c≠b)∧∀ p∈X.pn++pins,p.1≠b) :
    Inv X pins σ H' { s with heap:=h',gens:=g',drawn:=d',toks:=t' }:=by
  obtain ⟨m,⟨o,es,ep,ho,r⟩,_⟩:=id I.loc
  obtain ⟨sl,hL⟩:=u.any ho I.free fun z=>(hch _ z).2.1 rfl
  exact I.step (ch:=ch) hch (fun b o hL hb hc e n=>u.keep b o e n (fun z=>(List.mem_cons.mp (I.vg b z)).elim hL hb) hc) (fun b o _ _ hc e n=>u.any e n hc) (fun b o hc e n=>u.free b o e n hc) (fun b o hc e=>u.there b o e hc) u.tups u.frzs u.tbls (fun m' hm=>by
    obtain ⟨o',es',ep',ho',r'⟩:=hm
    rw [ho] at ho';cases ho'
    exact ⟨_,es',ep',hL,r'⟩) hok hg
theorem Inv.turned {t':Nat} {it:Addr} (I:Inv X pins σ H s) (k:∀ b o,b≠it→s.heap.get? b=some o→h'.get? b=some o) (hn:H it=none) (hL:it≠X.env.locals)
    (h1:it∈X.ex∨X.s₀.heap.objs.size≤it) (h2:∀ x c,X.env.cells.lookup x=some c→c≠it) (h3:∀ p∈X.pn++pins,p.1≠it):Inv X pins σ H { s with heap:=h',toks:=t' }:=by
  have nit:∀ b u,H b=some u→b≠it:=fun b u e z=>by rw [z,hn] at e;cases e
  refine I.step (g':=s.gens) (d':=s.drawn) (ch:=[it]) (fun b hb=>?_) (fun b o _ _ hc e _=>k b o (fun z=>hc (by simp [z])) e) (fun b o _ _ hc e _=>⟨o.slots,k b o (fun z=>hc (by simp [z])) e⟩) (fun _ _ _ _ n=>n)
    (fun b o hc e=>⟨o,k b o (fun z=>hc (by simp [z])) e⟩) (fun _ _ e=>e) (fun _ _ _ e=>e) (fun b ps e=>⟨#[],by rw [e];simp⟩) (fun m hm=>?_) (fun b u e=>?_) I.bare
  · have e:b=it:=by simpa using hb
    subst e
    exact ⟨h1,hL,h2,h3⟩
  · obtain ⟨o,es,ep,ho,r⟩:=hm
    exact ⟨o,es,ep,k _ o (Ne.symm hL) ho,r⟩
  · refine (I.hok b u e).stay (fun c v hc q=>k c v ?_ q) (fun _ q=>q) fun _ _ q=>q
    rcases hc with z | z
    · rw [z];exact nit b u e
    · exact nit c _ z
theorem Inv.tok (I:Inv X pins σ H s) (t:Nat):Inv X pins σ H { s with toks:=t }:=I.un (h':=s.heap) (t':=t) Un.refl I.hok
theorem Inv.kept {t':Nat} (I:Inv X pins σ H s) (k:∀ b u,s.heap.get? b=some u→h'.get? b=some u):Inv X pins σ H { s with heap:=h',toks:=t' }:=I.un (Un.kept k) (I.hok.kept k)
theorem Inv.laid {a:Addr} {o:HO} {t':Nat} (I:Inv X pins σ H s) (k:∀ b u,s.heap.get? b=some u→h'.get? b=some u) (hp:s.heap.objs.size≤a) (new:eV X.prog X.w (upd H a o) h' a o) :
    Inv X pins σ (upd H a o) { s with heap:=h',toks:=t' }:=I.un (Un.laid k hp (I.hok.fresh hp)) (I.hok.laid k hp new)
theorem Inv.write {x e:Addr} {o:HO} {t':Nat} (I:Inv X pins σ H s) (mu:Mut (H x)) (he:e=x∨H e=some (.own x)) (k:∀ b u,b≠e→s.heap.get? b=some u→h'.get? b=some u) (heo:∃ u,h'.get? e=some u)
    (new:eV X.prog X.w (upd H x o) h' x o):Inv X pins σ (upd H x o) { s with heap:=h',toks:=t' }:=I.un (Un.write mu he k heo) (I.hok.write mu he k heo new)
theorem Inv.um {pins':List (Addr × Obj)} (I:Inv X pins σ H s) (h:∀ p∈pins',s.heap.get? p.1=some p.2∧H p.1=none∧p.1≠X.env.locals∧p.1 ∉ X.fs∧∀ v,p.2.data≠.cell v):Inv X pins' σ H s :=
  ⟨I.ok,I.os,I.bare,I.base,I.loc,I.cell,I.free,I.freeC,fun p hp=>(List.mem_append.mp hp).elim (fun z=>I.pin p (List.mem_append_left _ z)) (h p),I.hok,I.len⟩
theorem vK {N:List Str} (hN:N.Nodup) {i j:Nat} {x:Str} (a:N[i]?=some x) (b:N[j]?=some x):i=j:=by
  obtain ⟨h1,e1⟩:=List.getElem?_eq_some_iff.mp a
  obtain ⟨h2,e2⟩:=List.getElem?_eq_some_iff.mp b
  exact (List.getElem_inj hN).mp (e1.trans e2.symm)
theorem nQ {M:Model} {A:Around} {E:Value→Shared→Prop} {i:Nat} {x:Str} {v:V} {u:Value} {Q:Unit→Shared→Prop} (I:Inv X pins σ H s) (hN:X.N.Nodup) (hi:X.N[i]?=some x) (hx:Loc X.env.scope x) (r:RelV v u)
    (h:∀ s',Inv X pins (σ.set i (some v)) H s'→(∃ a,Heap.SameBut a s.heap s'.heap∧(a=X.env.locals∨X.env.cells.lookup x=some a))→Q () s') (hf:X.fn x=true∨X.env.scope.names.lookup x=some .local:=by first | exact .inl rfl | exact .inr rfl | assumption):wpAny M A (storeName X.env x u) Q E s:=by
  obtain ⟨m,hn,hl⟩:=id I.loc
  have hcls:(X.env.scope.kind == .class || (X.env.scope.kind == .module && X.env.locals != X.env.globals))=false:=by rw [I.ok.kind];rfl
  have hiσ:i<σ.length:=by rw [I.len];exact (List.getElem?_eq_some_iff.mp hi).1
  have cne:=I.cne
  have tracked:∀ {a:Addr} {h':Heap},(∃ o,s.heap.get? a=some o∧H a=none)→Heap.SameBut a s.heap h'→HOk X.prog X.w H h':=fun {a h'} ha hs b ob e=>by
    obtain ⟨_,_,hfree⟩:=ha
    refine (I.hok b ob e).stay (fun c w' hc q=>(hs.2 c ?_).trans q) (fun _ q=>q) fun _ _ q=>q
    rintro rfl
    rcases hc with rfl | hc
    · rw [hfree] at e;cases e
    · rw [hfree] at hc;cases hc
  rcases hx with hk | hk
  · refine wpAny_storeName_local hk hn (fun h' hn' hs=>?_) hcls
    obtain ⟨oL,_,_,hoL,_⟩:=id hn
    refine h _ ⟨I.ok,I.os,I.bare,⟨fun b o e n hb hx=>?_,fun b o e n hb hx=>?_,I.base.free,fun b o e hx=>?_,I.base.tups,I.base.frzs,I.base.tbls⟩,⟨_,hn',fun j y v' e1 e2 e3=>?_⟩,fun y c e=>?_,I.free,I.freeC,fun p hp=>?_,tracked ⟨oL,hoL,I.free⟩ hs,by simpa using I.len⟩ ⟨_,hs,.inl rfl⟩
    · exact (hs.2 b (Nat.ne_of_lt (Nat.lt_of_lt_of_le (Heap.lt_size e) I.ok.above))).trans (I.base.keep b o e n hb hx)
    · obtain ⟨sl,e1⟩:=I.base.slot b o e n hb hx
      exact ⟨sl,(hs.2 b (Nat.ne_of_lt (Nat.lt_of_lt_of_le (Heap.lt_size e) I.ok.above))).trans e1⟩
    · obtain ⟨o',e1⟩:=I.base.there b o e hx
      exact ⟨o',(hs.2 b (Nat.ne_of_lt (Nat.lt_of_lt_of_le (Heap.lt_size e) I.ok.above))).trans e1⟩
    · by_cases hj:j=i
      · subst hj
        rw [hi] at e1;cases e1
        rw [List.getElem?_set_self hiσ] at e2
        cases e2
        exact ⟨u,r,.inl ⟨hk,by simp⟩⟩
      · rw [List.getElem?_set_ne (Ne.symm hj)] at e2
        obtain ⟨u',r',q⟩:=hl j y v' e1 e2 e3
        refine ⟨u',r',?_⟩
        rcases q with ⟨k,e⟩ | ⟨k,c,e,z⟩
        · refine .inl ⟨k,?_⟩
          have:y≠x:=fun e=>hj (vK hN e1 (e ▸ hi))
          simp [this,e]
        · exact .inr ⟨k,c,e,z.sameBut hs (cne y c e)⟩
    · obtain ⟨w',z⟩:=I.cell y c e
      exact ⟨w',z.sameBut hs (cne y c e)⟩
    · obtain ⟨e,n,ne,nf,d⟩:=I.pin p hp
      exact ⟨(hs.2 p.1 ne).trans e,n,ne,nf,d⟩
  · have hfn:X.fn x=true:=by
      rcases hf with z | z
      · exact z
      · rw [z] at hk;cases hk
    obtain ⟨c,hc⟩:=I.ok.has x (.inl hk)
    obtain ⟨w',z⟩:=I.cell x c hc
    refine wpAny_storeName_cell I.ok.kind hk hc z (fun h' hc' hs=>?_)
    obtain ⟨oc,hoc,hocd⟩:=id z
    refine h { s with heap:=h' } ⟨I.ok,I.os,I.bare,⟨fun b o e n hb hx=>?_,fun b o e n hb hx=>?_,I.base.free,fun b o e hx=>?_,I.base.tups,I.base.frzs,I.base.tbls⟩,⟨m,hn.sameBut hs (Ne.symm (cne x c hc)),fun j y v' e1 e2 e3=>?_⟩,fun y c' e=>?_,I.free,I.freeC,fun p hp=>?_,tracked ⟨oc,hoc,I.freeC x c hc⟩ hs,by simpa using I.len⟩ ⟨c,hs,.inr hc⟩
    · exact (hs.2 b (Nat.ne_of_lt (Nat.lt_of_lt_of_le (Heap.lt_size e) (I.ok.cab x c hfn hc)))).trans (I.base.keep b o e n hb hx)
    · obtain ⟨sl,e1⟩:=I.base.slot b o e n hb hx
      exact ⟨sl,(hs.2 b (Nat.ne_of_lt (Nat.lt_of_lt_of_le (Heap.lt_size e) (I.ok.cab x c hfn hc)))).trans e1⟩
    · obtain ⟨o',e1⟩:=I.base.there b o e hx
      exact ⟨o',(hs.2 b (Nat.ne_of_lt (Nat.lt_of_lt_of_le (Heap.lt_size e) (I.ok.cab x c hfn hc)))).trans e1⟩
    · by_cases hj:j=i
      · subst hj
        rw [hi] at e1;cases e1
        rw [List.getElem?_set_self hiσ] at e2
        cases e2
        exact ⟨u,r,.inr ⟨.inl hk,c,hc,hc'⟩⟩
      · rw [List.getElem?_set_ne (Ne.symm hj)] at e2
        obtain ⟨u',r',q⟩:=hl j y v' e1 e2 e3
        refine ⟨u',r',?_⟩
        rcases q with q | ⟨k,c',e,z'⟩
        · exact .inl q
        · refine .inr ⟨k,c',e,z'.sameBut hs ?_⟩
          rintro rfl
          exact hj (vK hN e1 (I.ok.inj _ _ _ e hc ▸ hi))
    · by_cases hcc:c'=c
      · subst hcc;exact ⟨_,hc'⟩
      · obtain ⟨w2,z2⟩:=I.cell y c' e
        exact ⟨w2,z2.sameBut hs hcc⟩
    · obtain ⟨e,n,ne,nf,d⟩:=I.pin p hp
      refine ⟨(hs.2 p.1 ?_).trans e,n,ne,nf,d⟩
      intro q
      rw [q,hoc] at e
      have q':oc=p.2:=Option.some.inj e
      exact d w' (by rw [← q'];exact hocd)
theorem vf {M:Model} {A:Around} {E:Value→Shared→Prop} {i:Nat} {x:Str} {v:V} {u:Value} {Q:Unit→Shared→Prop} (I:Inv X pins σ H s) (hN:X.N.Nodup) (hi:X.N[i]?=some x) (hx:Loc X.env.scope x) (r:RelV v u)
    (h:∀ s',Inv X pins (σ.set i (some v)) H s'→Q () s') (hf:X.fn x=true∨X.env.scope.names.lookup x=some .local:=by first | exact .inl rfl | exact .inr rfl | assumption):wpAny M A (storeName X.env x u) Q E s :=
  nQ I hN hi hx r (fun s' I' _=>h s' I') hf
theorem Inv.call' {s':Shared} {ch:List Addr} (I:Inv X pins σ H s) (ho:s'.os=s.os) (u:Un (frs X.stack) ch H H' s.heap s'.heap) (hok:HOk X.prog X.w H' s'.heap) (hg:AllBare s'.gens)
    (hch:∀ b∈ch,(b∈X.ex∨X.s₀.heap.objs.size≤b)∧b≠X.env.locals∧(∀ x c,X.env.cells.lookup x=some c→c≠b)∧∀ p∈X.pn++pins,p.1≠b):Inv X pins σ H' s':=by
  obtain ⟨h',g',d',t',o'⟩:=s'
  have e:o'=s.os:=ho
  subst e
  exact I.call (g':=g') (t':=t') (d':=d') u hok hg hch
end
abbrev XK:=Value→Option Addr→Hp→Prop
abbrev St:=List (Option V)
abbrev VK:=V→Hp→Prop
abbrev TE:=St→Hp→VK→Prop
abbrev TT:=St→Hp→(Bool→Hp→Prop)→Prop
abbrev TA:=St→Hp→(List V→Hp→Prop)→Prop
structure Ends where
  nx:St→Hp→Prop
  rt:VK
  bk:St→Hp→Prop:=fun _ _=>False
  ct:St→Hp→Prop:=fun _ _=>False
abbrev TS:=Ends→St→Hp→Prop
def EP (X:Cx) (pins:List (Addr × Obj)) (σ:St) (Q:VK) (u:Value) (s':Shared):Prop:=∃ v H',Inv X pins σ H' s'∧RelV v u∧Q v H'
def TP (X:Cx) (pins:List (Addr × Obj)) (σ:St) (Q:Bool→Hp→Prop) (b:Bool) (s':Shared):Prop:=∃ H',Inv X pins σ H' s'∧Q b H'
def AP (X:Cx) (pins:List (Addr × Obj)) (σ:St) (Q:List V→Hp→Prop) (us:List Value) (s':Shared):Prop:=∃ vs H',Inv X pins σ H' s'∧Vals vs us∧Q vs H'
def SP (X:Cx) (pins:List (Addr × Obj)) (D:Ends) (f:Flow) (s':Shared):Prop :=
  match f with
  | .next=>∃ σ' H',Inv X pins σ' H' s'∧D.nx σ' H'
  | .brk=>∃ σ' H',Inv X pins σ' H' s'∧D.bk σ' H'
  | .cont=>∃ σ' H',Inv X pins σ' H' s'∧D.ct σ' H'
  | .ret u=>∃ v σ' H',Inv X pins σ' H' s'∧RelV v u∧D.rt v H'
def PE (X:Cx) (e:Expr) (t:TE):Prop :=
  ∀ (pins:List (Addr × Obj)) (s:Shared) (σ:St) (H:Hp) (Q:VK),Inv X pins σ H s→t σ H Q→wpAny (model X.prog X.w) X.A (eval e X.env) (EP X pins σ Q) X.xe s
def PT (X:Cx) (e:Expr) (t:TT):Prop :=
  ∀ (pins:List (Addr × Obj)) (s:Shared) (σ:St) (H:Hp) (Q:Bool→Hp→Prop),Inv X pins σ H s→t σ H Q→wpAny (model X.prog X.w) X.A (isTrue e X.env (eval e X.env)) (TP X pins σ Q) X.xe s
def PW (X:Cx) (e:Expr) (t:TT):Prop :=
  ∀ (whole:Sem Value) (pins:List (Addr × Obj)) (s:Shared) (σ:St) (H:Hp) (Q:Bool→Hp→Prop),Inv X pins σ H s→t σ H Q→wpAny (model X.prog X.w) X.A (isTrue e X.env whole) (TP X pins σ Q) X.xe s
theorem PW.pt {X:Cx} {e:Expr} {t:TT} (h:PW X e t):PT X e t:=h _
def PA (X:Cx) (es:List Expr) (t:TA):Prop :=
  ∀ (pos:Pos) (pins:List (Addr × Obj)) (s:Shared) (σ:St) (H:Hp) (Q:List V→Hp→Prop),Inv X pins σ H s→t σ H Q→wpAny (model X.prog X.w) X.A (spliced (backTo pos (starEach es X.env))) (AP X pins σ Q) X.xe s
def PS (X:Cx) (st:Stmt) (t:TS):Prop :=
  ∀ (pins:List (Addr × Obj)) (s:Shared) (σ:St) (H:Hp) (D:Ends),Inv X pins σ H s→t D σ H→wpAny (model X.prog X.w) X.A (exec st X.env) (SP X pins D) X.xe s
def PSs (X:Cx) (st:List Stmt) (t:TS):Prop :=
  ∀ (pins:List (Addr × Obj)) (s:Shared) (σ:St) (H:Hp) (D:Ends),Inv X pins σ H s→t D σ H→wpAny (model X.prog X.w) X.A (execs st X.env) (SP X pins D) X.xe s
theorem thn {α:Type} {t:Sem α} {Q Q':α→Shared→Prop} {M:Model} {A:Around} {E:Value→Shared→Prop} {s:Shared} (h:wpAny M A t Q E s) (hQ:∀ a s,Q a s→Q' a s):wpAny M A t Q' E s:=wpAny_mono h hQ fun _ _ x=>x
end L2
namespace L2
open PySem PySem.Spec PyProof.Rows
section
variable {X:Cx}
def Tc (i:Nat):TE:=fun σ H Q=>∃ v,σ[i]?=some (some v)∧Q v H
def tC (v:V):TE:=fun _ H Q=>Q v H
theorem Kq {i:Nat} {x:Str} {pos:Pos} (hN:X.N[i]?=some x) (hv:Vis X.env.scope x) (hd:(x == ("__debug__":Str))=false:=by decide) (hcd:(x == ("__classdict__":Str))=false:=by decide):PE X (.Name x pos) (Tc i):=by
  intro pins s σ H Q I h
  obtain ⟨v,e,h⟩:=h
  obtain ⟨m,hn,hl⟩:=I.loc
  obtain ⟨u,r,l⟩:=hl i x v hN e hv
  have fin:EP X pins σ Q u s:=⟨v,H,I,r,h⟩
  rcases l with ⟨hk,hm⟩ | ⟨hk,c,hc,hcell⟩
  · exact wpAny_Name (wpAny_loadName_local I.ok.kind hk hn hm fin) hd
  · rcases hk with hk | hk
    · exact wpAny_Name (wpAny_loadName_cell I.ok.kind hk hc hcell fin) hd
    · exact wpAny_Name (wpAny_loadName_free I.ok.kind hk hc hcell fin hcd) hd
theorem aA {i j pos}:PE X (.Constant (.int i) j pos) (tC (.int i)):=fun _ _ _ H _ I h=>wpAny_Constant_int ⟨.int i,H,I.tok _,⟨_,rfl⟩,h⟩
theorem ur {b j pos}:PE X (.Constant (.bool b) j pos) (tC (.bl b)):=fun _ _ _ H _ I h=>Constant_bool ⟨.bl b,H,I,rfl,h⟩
theorem kh {j pos}:PE X (.Constant .none j pos) (tC .non):=fun _ _ _ H _ I h=>Constant_none ⟨.non,H,I,rfl,h⟩
def Gl (X:Cx) (x:Str):Prop:=X.env.kindOf x=some .globalImplicit
theorem zG {E:Value→Shared→Prop} {pins:List (Addr × Obj)} {s:Shared} {σ:St} {H:Hp} {x:Str} {u:Value} {pos:Pos} {Q:Value→Shared→Prop} (I:Inv X pins σ H s) (hg:Gl X x) (hm:X.mg x=some u) (h:Q u s)
    (hd:(x == ("__debug__":Str))=false:=by decide):wpAny (model X.prog X.w) X.A (eval (.Name x pos) X.env) Q E s :=
  Calls.Name_function_global I.ok.kind hg (Calls.loadGlobal_global (by rw [I.ok.glob];exact I.mod.glob.keeps I.bk) hm h) hd
theorem jj {E:Value→Shared→Prop} {pins:List (Addr × Obj)} {s:Shared} {σ:St} {H:Hp} {x:Str} {u:Value} {pos:Pos} {Q:Value→Shared→Prop} (I:Inv X pins σ H s) (hg:Gl X x) (hm:X.mg x=none) (hv:bootBuiltins x=some u) (h:Q u s)
    (hn:x≠"__name__":=by decide) (hd:(x == ("__debug__":Str))=false:=by decide):wpAny (model X.prog X.w) X.A (eval (.Name x pos) X.env) Q E s:=by
  obtain ⟨mb,h1,h2⟩:=I.mod.blt
  exact Calls.Name_function_global I.ok.kind hg (Calls.loadGlobal_builtin (by rw [I.ok.glob];exact I.mod.glob.keeps I.bk) hm (by rw [I.ok.blt];exact h1.keeps I.bk) ((h2 x hn).trans hv) h) hd
theorem uq {x:Str} {v:V} {u:Value} {pos:Pos} (hg:Gl X x) (hm:X.mg x=some u) (r:RelV v u) (hd:(x == ("__debug__":Str))=false:=by decide):PE X (.Name x pos) (tC v) :=
  fun _ _ _ H _ I h=>zG I hg hm ⟨v,H,I,r,h⟩ hd
theorem qF {x:Str} {v:V} {u:Value} {pos:Pos} (hg:Gl X x) (hm:X.mg x=none) (hv:bootBuiltins x=some u) (r:RelV v u) (hn:x≠"__name__":=by decide) (hd:(x == ("__debug__":Str))=false:=by decide):PE X (.Name x pos) (tC v) :=
  fun _ _ _ H _ I h=>jj I hg hm hv ⟨v,H,I,r,h⟩ hn hd
def t2I (ta tb:TE) (k:Int→Int→Hp→Prop):St→Hp→Prop:=fun σ H=>ta σ H fun x H1=>tb σ H1 fun y H2=>∃ i j,x=.int i∧y=.int j∧k i j H2
variable {a b:Expr} {ta tb:TE} {pos:Pos}
def JV (p:Int→Int→Bool) (ta tb:TE):TE:=fun σ H Q=>t2I ta tb (fun i j H2=>Q (.bl (p i j)) H2) σ H
abbrev tLt:TE→TE→TE:=JV fun i j=>decide (i<j)
abbrev tLe:TE→TE→TE:=JV fun i j=>decide (i≤j)
abbrev tGt:TE→TE→TE:=JV fun i j=>decide (j<i)
abbrev tGe:TE→TE→TE:=JV fun i j=>decide (j≤i)
abbrev tEqI:TE→TE→TE:=JV fun i j=>decide (i=j)
abbrev tNeI:TE→TE→TE:=JV fun i j=>!decide (i=j)
def tB (t:TE):TT:=fun σ H Q=>t σ H fun x H1=>∃ c,x=.bl c∧Q c H1
theorem mR {e:Expr} {t:TE} (h:PE X e t) (he:∀ whole,isTrue e X.env whole=(do let v ← whole;standAt e.pos;holding [v] (truthy v)):=by intro _;rfl):PT X e (tB t):=by
  intro pins s σ H Q I hw
  refine isTrue_plain (thn (h pins s σ H _ I hw) fun v s1 ⟨x,H1,I1,r1,q1⟩=>?_) (he _)
  obtain ⟨d,rfl,q⟩:=q1
  cases r1
  exact wpAny_truthy_bool ⟨H1,I1,q⟩
variable {tA tB':TT} {rest:List Expr}
def tAnd (t u:TT):TT:=fun σ H Q=>t σ H fun c H1=>if c=true then u σ H1 Q else Q false H1
def tOr (t u:TT):TT:=fun σ H Q=>t σ H fun c H1=>if c=true then Q true H1 else u σ H1 Q
def tNot (t:TT):TT:=fun σ H Q=>t σ H fun c H1=>Q (!c) H1
theorem pw_and1 (ha:PT X a tA):PW X (.BoolOp .And [a] pos) tA:=by
  intro wh pins s σ H Q I h
  refine isTrue_and (thn (ha pins s σ H Q I h) fun c s1 e=>?_)
  cases c with
  | true=>exact isTrue_and_nil e
  | false=>exact e
theorem pw_or1 (ha:PT X a tA):PW X (.BoolOp .Or [a] pos) tA:=by
  intro wh pins s σ H Q I h
  refine isTrue_or (thn (ha pins s σ H Q I h) fun c s1 e=>?_)
  cases c with
  | false=>exact isTrue_or_nil e
  | true=>exact e
theorem pw_and (ha:PT X a tA) (hb:PW X (.BoolOp .And (b :: rest) pos) tB'):PW X (.BoolOp .And (a :: b :: rest) pos) (tAnd tA tB'):=by
  intro wh pins s σ H Q I h
  refine isTrue_and (thn (ha pins s σ H _ I h) fun c s1 ⟨H1,I1,q1⟩=>?_)
  cases c with
  | true=>exact hb wh pins s1 σ H1 Q I1 q1
  | false=>exact ⟨H1,I1,q1⟩
theorem pw_or (ha:PT X a tA) (hb:PW X (.BoolOp .Or (b :: rest) pos) tB'):PW X (.BoolOp .Or (a :: b :: rest) pos) (tOr tA tB'):=by
  intro wh pins s σ H Q I h
  refine isTrue_or (thn (ha pins s σ H _ I h) fun c s1 ⟨H1,I1,q1⟩=>?_)
  cases c with
  | true=>exact ⟨H1,I1,q1⟩
  | false=>exact hb wh pins s1 σ H1 Q I1 q1
theorem vD (ha:PT X a tA):PT X (.UnaryOp .Not a pos) (tNot tA):=by
  intro pins s σ H Q I h
  exact isTrue_not (ha pins s σ H (fun c H1=>Q (!c) H1) I h)
def QH (ta tb:TE):TE:=fun σ H Q=>ta σ H fun x H1=>∃ c,x=.bl c∧if c=true then tb σ H1 Q else Q (.bl false) H1
def Qx (ta:TE):TE:=fun σ H Q=>ta σ H fun x H1=>∃ c,x=.bl c∧Q (.bl (!c)) H1
theorem Dt {op} {t:TE} (h:PE X a t):PE X (.BoolOp op [a] pos) t:=fun pins s σ H Q I hw=>BoolOp_one (h pins s σ H Q I hw)
theorem Du (ha:PE X a ta) (hb:PE X (.BoolOp .And (b :: rest) pos) tb):PE X (.BoolOp .And (a :: b :: rest) pos) (QH ta tb):=by
  intro pins s σ H Q I h
  refine BoolOp_and (thn (ha pins s σ H _ I h) fun v s1 ⟨x,H1,I1,r1,q1⟩=>?_)
  obtain ⟨c,rfl,q1⟩:=q1
  cases r1
  refine wpAny_truthy_bool ?_
  cases c with
  | true=>exact hb pins s1 σ H1 Q I1 q1
  | false=>exact ⟨.bl false,H1,I1,rfl,q1⟩
theorem Kr (ha:PE X a ta):PE X (.UnaryOp .Not a pos) (Qx ta):=by
  intro pins s σ H Q I h
  refine UnaryOp_ (thn (ha pins s σ H _ I h) fun v s1 ⟨x,H1,I1,r1,q1⟩=>?_)
  obtain ⟨c,rfl,q1⟩:=q1
  cases r1
  exact not_of (wpAny_truthy_bool ⟨.bl (!c),H1,I1,rfl,q1⟩)
end
end L2
namespace L2
open PySem PySem.Spec PyProof.Rows
def SqL (K:PySem.W.Frag) (H:Hp) (a:Addr) (xs:List V):Prop :=
  Rd H a (.lst xs) ∨
    ∃ (o:Obj) (its:Array Value) (n:Nat),K.lookup a=some o∧o.cls=.type "list"∧o.dict=none∧o.data=.seq its n∧its.size≤sizeLine∧Vals xs its.toList
def SqT (K:PySem.W.Frag) (H:Hp) (a:Addr) (xs:List V):Prop :=
  Rd H a (.tup xs) ∨
    ∃ (o:Obj) (its:Array Value) (n:Nat),K.lookup a=some o∧o.cls=.type "tuple"∧o.data=.seq its n∧its.size≤sizeLine∧Vals xs its.toList
def absV:Value→Option V
  | .none=>some .non
  | .bool b=>some (.bl b)
  | .int i _=>some (.int i)
  | .str x _=>some (.str x)
  | .bytes b _=>some (.byt b)
  | .float b _=>some (.flt b)
  | .ref a=>some (.ref a)
  | .type n=>some (.ty n)
  | _=>none
theorem RelV.abs {x:V} {u:Value} (r:RelV x u):absV u=some x:=by
  cases x with
  | non=>cases r;rfl
  | bl _=>cases r;rfl
  | int _=>obtain ⟨t,rfl⟩:=r;rfl
  | str _=>obtain ⟨t,rfl⟩:=r;rfl
  | byt _=>obtain ⟨t,rfl⟩:=r;rfl
  | flt _=>obtain ⟨t,rfl⟩:=r;rfl
  | ref _=>cases r;rfl
  | ty _=>cases r;rfl
theorem RelV.inj {x y:V} {u:Value} (r:RelV x u) (q:RelV y u):x=y:=Option.some.inj (r.abs.symm.trans q.abs)
theorem Vals.inj:∀ {xs ys:List V} {us:List Value},Vals xs us→Vals ys us→xs=ys
  | _,_,_,.nil,.nil=>rfl
  | _,_,_,.cons r t,.cons r' t'=>by rw [r.inj r',Vals.inj t t']
section
variable {X:Cx} {pins:List (Addr × Obj)} {σ:St} {H:Hp} {s:Shared} {a:Addr} {xs ys:List V}
theorem SqL.of {K:PySem.W.Frag} (h:H a=some (.lst xs)):SqL K H a xs:=.inl (.inl h)
theorem SqT.of {K:PySem.W.Frag} (h:H a=some (.tup xs)):SqT K H a xs:=.inl (.inl h)
theorem Inv.list (I:Inv X pins σ H s) (h:SqL X.K H a xs):∃ its:List Value,Vals xs its∧PlainL s.heap a its.toArray∧xs.length≤sizeLine:=by
  rcases h with h | ⟨o,its,n,hk,hc,hd,hs,hz,r⟩
  · obtain ⟨z,its,n,r,e⟩:=h.ok I.hok
    exact ⟨its,r,⟨_,n,e,rfl,rfl,rfl⟩,z⟩
  · refine ⟨its.toList,r,⟨o,n,I.kIn a o hk,hc,hd,by simpa using hs⟩,?_⟩
    have e:=r.length
    simp only [Array.length_toList] at e
    omega
theorem Inv.tuple (I:Inv X pins σ H s) (h:SqT X.K H a xs):∃ its:List Value,Vals xs its∧IsTup s.heap a its.toArray∧xs.length≤sizeLine:=by
  rcases h with h | ⟨o,its,n,hk,hc,hs,hz,r⟩
  · obtain ⟨z,its,r,p⟩:=h.ok I.hok
    exact ⟨its,r,p,z⟩
  · refine ⟨its.toList,r,⟨o,I.kIn a o hk,hc,n,by simpa using hs⟩,?_⟩
    have e:=r.length
    simp only [Array.length_toList] at e
    omega
theorem Inv.Cd (I:Inv X pins σ H s) (h:SqL X.K H a xs) (h':SqL X.K H a ys):xs=ys:=by
  obtain ⟨its,r,⟨o,n,e,_,_,d⟩,_⟩:=I.list h
  obtain ⟨its',r',⟨o',n',e',_,_,d'⟩,_⟩:=I.list h'
  rw [e] at e';cases e'
  rw [d] at d'
  injection d' with d1 _
  have:its=its':=by simpa using congrArg Array.toList d1
  subst this
  exact r.inj r'
theorem Inv.yg (I:Inv X pins σ H s) (h:SqT X.K H a xs) (h':SqT X.K H a ys):xs=ys:=by
  obtain ⟨its,r,⟨o,e,_,n,d⟩,_⟩:=I.tuple h
  obtain ⟨its',r',⟨o',e',_,n',d'⟩,_⟩:=I.tuple h'
  rw [e] at e';cases e'
  rw [d] at d'
  injection d' with d1 _
  have:its=its':=by simpa using congrArg Array.toList d1
  subst this
  exact r.inj r'
end
abbrev Cx.wish (X:Cx) (E:Value→Shared→Prop):Cx:={ X with xe:=E }
abbrev Cx.nox (X:Cx):Cx:=X.wish fun _ _=>False
theorem Cx.Ok.wish {X:Cx} (ok:X.Ok) (E:Value→Shared→Prop):(X.wish E).Ok :=
  ⟨ok.mod,ok.kind,ok.glob,ok.blt,ok.above,ok.inj,ok.has,ok.cab,ok.hd,ok.frames,ok.stk,ok.exf,ok.bs,ok.bsz,ok.noex,ok.exfs,ok.zT,ok.frf⟩
theorem Cx.Ok.mJ {X:Cx} {E:Value→Shared→Prop} (ok:(X.wish E).Ok):X.Ok :=
  ⟨ok.mod,ok.kind,ok.glob,ok.blt,ok.above,ok.inj,ok.has,ok.cab,ok.hd,ok.frames,ok.stk,ok.exf,ok.bs,ok.bsz,ok.noex,ok.exfs,ok.zT,ok.frf⟩
section
variable {X:Cx} {pins:List (Addr × Obj)} {σ:St} {H:Hp} {s:Shared} {E:Value→Shared→Prop}
theorem Inv.wish (I:Inv X pins σ H s) (E:Value→Shared→Prop):Inv (X.wish E) pins σ H s:=⟨I.ok.wish E,I.os,I.bare,I.base,I.loc,I.cell,I.free,I.freeC,I.pin,I.hok,I.len⟩
theorem Inv.mJ (I:Inv (X.wish E) pins σ H s):Inv X pins σ H s:=⟨I.ok.mJ,I.os,I.bare,I.base,I.loc,I.cell,I.free,I.freeC,I.pin,I.hok,I.len⟩
theorem SP.mJ {D:Ends} {f:Flow} {s':Shared} (h:SP (X.wish E) pins D f s'):SP X pins D f s':=by
  cases f with
  | next=>obtain ⟨σ',H',I,q⟩:=h;exact ⟨σ',H',I.mJ,q⟩
  | brk=>obtain ⟨σ',H',I,q⟩:=h;exact ⟨σ',H',I.mJ,q⟩
  | cont=>obtain ⟨σ',H',I,q⟩:=h;exact ⟨σ',H',I.mJ,q⟩
  | ret u=>obtain ⟨v,σ',H',I,r,q⟩:=h;exact ⟨v,σ',H',I.mJ,r,q⟩
theorem PSs.nox {st:List Stmt} {t:TS} (h:PSs X.nox st t):PSs X st t:=fun pins s σ H D I hw =>
  wpAny_mono (h pins s σ H D (I.wish _) hw) (fun _ _ q=>q.mJ) fun _ _ z=>False.elim z
end
section
variable {X:Cx} {st:Stmt} {rest:List Stmt} {t u:TS} {e:Expr} {te:TE} {pos:Pos}
def Qy:TS:=fun D σ H=>D.nx σ H
def aP (t u:TS):TS:=fun D σ H=>t { D with nx:=u D } σ H
theorem bR:PSs X [] Qy:=fun _ _ σ H _ I h=>wpAny_execs_nil ⟨σ,H,I,h⟩
theorem au (h1:PS X st t) (h2:PSs X rest u):PSs X (st :: rest) (aP t u):=by
  intro pins s σ H D I h
  refine wpAny_execs_cons (thn (h1 pins s σ H { D with nx:=u D } I h) fun f s1 q=>?_)
  cases f with
  | next =>
    obtain ⟨σ',H',I',q⟩:=q
    exact h2 pins s1 σ' H' D I' q
  | ret v=>exact q
  | brk=>exact q
  | cont=>exact q
theorem aB (h1:PS X st t):PSs X [st] t:=by
  intro pins s σ H D I h
  refine wpAny_execs_cons (thn (h1 pins s σ H D I h) fun f s1 q=>?_)
  cases f with
  | next=>exact wpAny_execs_nil q
  | ret v=>exact q
  | brk=>exact q
  | cont=>exact q
theorem Inv.quiet {pins:List (Addr × Obj)} {σ:St} {H:Hp} {s:Shared} (I:Inv X pins σ H s):interactive X.env=false:=by simp [interactive,I.ok.kind]
def QB (te:TE):TS:=fun D σ H=>te σ H fun _ H1=>D.nx σ H1
theorem iW (he:PE X e te) (hs:swapsWith e none pos.line X.env=pure false:=by rfl):PS X (.Expr e pos) (QB te):=by
  intro pins s σ H D I h
  exact wpAny_Expr_any (thn (he pins s σ H _ I h) fun v s1 ⟨x,H1,I1,r1,q1⟩=>⟨σ,H1,I1,q1⟩) I.quiet hs
def tRet (te:TE):TS:=fun D σ H=>te σ H D.rt
theorem bw (he:PE X e te):PS X (.Return (some e) pos) (tRet te):=by
  intro pins s σ H D I h
  exact wpAny_Return_some (thn (he pins s σ H _ I h) fun v s1 ⟨x,H1,I1,r1,q1⟩=>⟨x,σ,H1,I1,r1,q1⟩)
def gU (c:TT) (t u:TS):TS:=fun D σ H=>c σ H fun b H1=>if b=true then t D σ H1 else u D σ H1
theorem gD {c:Expr} {a b:List Stmt} {tc:TT} (hc:PT X c tc) (ha:PSs X a t) (hb:PSs X b u):PS X (.If c a b pos) (gU tc t u):=by
  intro pins s σ H D I h
  refine wpAny_If (thn (hc pins s σ H _ I h) fun d s1 ⟨H1,I1,q1⟩=>?_)
  cases d with
  | true=>exact ha pins s1 σ H1 D I1 q1
  | false=>exact hb pins s1 σ H1 D I1 q1
def J5:TS:=fun _ _ _=>False
theorem Bv:PS X st J5:=fun _ _ _ _ _ _ h=>h.elim
end
abbrev TG:=V→St→Hp→(St→Hp→Prop)→Prop
abbrev TGs:=List V→St→Hp→(St→Hp→Prop)→Prop
def PG (X:Cx) (target:Expr) (t:TG):Prop :=
  ∀ (pins:List (Addr × Obj)) (s:Shared) (σ:St) (H:Hp) (v:V) (u:Value) (Q:St→Hp→Prop),Inv X pins σ H s→RelV v u→t v σ H Q →
    wpAny (model X.prog X.w) X.A (assign target X.env u) (fun _ s'=>∃ σ' H',Inv X pins σ' H' s'∧Q σ' H') X.xe s
def PGs (X:Cx) (ts:List Expr) (t:TGs):Prop :=
  ∀ (pins:List (Addr × Obj)) (s:Shared) (σ:St) (H:Hp) (vs:List V) (us:List Value) (Q:St→Hp→Prop),Inv X pins σ H s→Vals vs us→t vs σ H Q →
    wpAny (model X.prog X.w) X.A (assignInOrder ((assignEach ts X.env).map (·.2)) us) (fun _ s'=>∃ σ' H',Inv X pins σ' H' s'∧Q σ' H') X.xe s
abbrev Qh:=V→V→V→Hp→(Hp→Prop)→Prop
def S6 (X:Cx) (t:Qh):Prop :=
  ∀ (pins:List (Addr × Obj)) (s:Shared) (σ:St) (H:Hp) (o i v:V) (ov iv u:Value) (Q:Hp→Prop),Inv X pins σ H s→RelV o ov→RelV i iv→RelV v u→t o i v H Q →
    wpAny (model X.prog X.w) X.A (setItem ov iv u) (fun _ s'=>∃ H',Inv X pins σ H' s'∧Q H') X.xe s
abbrev TIp:=V→V→Hp→VK→Prop
def PIp (X:Cx) (op:Operator) (t:TIp):Prop :=
  ∀ (pins:List (Addr × Obj)) (s:Shared) (σ:St) (H:Hp) (x y:V) (v u:Value) (Q:VK),Inv X pins σ H s→RelV x v→RelV y u→t x y H Q →
    wpAny (model X.prog X.w) X.A (inplaceOp op v u) (EP X pins σ Q) X.xe s
section
variable {X:Cx} {pos:Pos}
def zR (i:Nat):TG:=fun v σ H Q=>Q (σ.set i (some v)) H
theorem aL {i:Nat} {x:Str} (hN:X.N.Nodup) (hi:X.N[i]?=some x) (hx:Loc X.env.scope x) (hf:X.fn x=true∨X.env.scope.names.lookup x=some .local:=by first | exact .inl rfl | exact .inr rfl | assumption):PG X (.Name x pos) (zR i):=by
  intro pins s σ H v u Q I r h
  exact wpAny_assign_Name (vf I hN hi hx r (fun s' I'=>⟨_,H,I',h⟩) hf)
def gNil:TGs:=fun vs σ H Q=>vs=[]∧Q σ H
def SJ (t:TG) (u:TGs):TGs:=fun vs σ H Q=>∃ v r,vs=v :: r∧t v σ H fun σ' H'=>u r σ' H' Q
theorem iZ:PGs X [] gNil:=by
  intro pins s σ H vs us Q I r h
  obtain ⟨e,h⟩:=h
  subst e
  cases r
  exact assignInOrder_nil ⟨σ,H,I,h⟩
theorem bC {e:Expr} {es:List Expr} {t:TG} {u:TGs} (h1:PG X e t) (h2:PGs X es u)
    (hs:(assignEach (e :: es) X.env).map (·.2)=assign e X.env :: (assignEach es X.env).map (·.2):=by rfl):PGs X (e :: es) (SJ t u):=by
  intro pins s σ H vs us Q I r h
  obtain ⟨v,vr,e1,h⟩:=h
  subst e1
  cases r with
  | cons r rr =>
    rw [hs]
    refine assignInOrder_cons (thn (h1 pins s σ H _ _ _ I r h) fun _ s1 ⟨σ1,H1,I1,q1⟩=>?_)
    exact h2 pins s1 σ1 H1 _ _ Q I1 rr q1
def T6 (K:PySem.W.Frag) (n:Nat) (t:TGs):TG:=fun v σ H Q=>∃ a xs,v=.ref a∧SqT K H a xs∧xs.length=n∧t xs σ H Q
theorem mU {es:List Expr} {k:Nat} {t:TGs} {n:Nat} (hc:X.calm=true) (h:PGs X es t)
    (hn:(assignEach es X.env).length=n:=by rfl) (hst:(assignEach es X.env).findIdx? (·.1)=none:=by rfl):PG X (.Tuple es k pos) (T6 X.K n t):=by
  intro pins s σ H v u Q I r hw
  obtain ⟨a,xs,e1,hq,hl,hw⟩:=hw
  subst e1
  cases r
  obtain ⟨its,rv,ht,hz⟩:=I.tuple hq
  refine assign_Tuple_tuple (I.ok.hd hc) ht (by simp [hn,← hl,rv.length]) hst fun h' hx=>?_
  have I1:Inv X pins σ H { s with heap:=h' }:=I.kept (t':=s.toks) fun b o e=>hx b o (Nat.ne_of_lt (Heap.lt_size e)) e
  exact h pins _ σ H xs _ Q I1 (by simpa using rv) hw
def gSub (to ti:TE) (t:Qh):TG:=fun v σ H Q=>to σ H fun o H1=>ti σ H1 fun i H2=>t o i v H2 fun H3=>Q σ H3
theorem n6 {o i:Expr} {to ti:TE} {t:Qh} (ho:PE X o to) (hi:PE X i ti) (hs:S6 X t)
    (ha:∀ v,assign (.Subscript o i pos) X.env v=(do
      let ov ← holding [v] (eval o X.env)
      let iv ← holding [v,ov] (eval i X.env)
      standAt pos
      holding [v,ov,iv] (setItem ov iv v)
      release [v,ov,iv] []):=by intro _;rfl):PG X (.Subscript o i pos) (gSub to ti t):=by
  intro pins s σ H v u Q I r h
  rw [ha]
  refine wpAny_bind (wpAny_holding (thn (ho pins s σ H _ I h) fun ov s1 ⟨x,H1,I1,r1,q1⟩=>?_))
  refine wpAny_bind (wpAny_holding (thn (hi pins s1 σ H1 _ I1 q1) fun iv s2 ⟨y,H2,I2,r2,q2⟩=>?_))
  refine wpAny_bind (wpAny_standAt (wpAny_bind (wpAny_holding (thn (hs pins s2 σ H2 x y v ov iv u _ I2 r1 r2 r q2) fun _ s3 ⟨H3,I3,q3⟩=>?_))))
  exact wpAny_release ⟨σ,H3,I3,q3⟩
def Qn (te:TE) (g:TG):TS:=fun D σ H=>te σ H fun x H1=>g x σ H1 D.nx
theorem j9 {tg e:Expr} {te:TE} {g:TG} (he:PE X e te) (hg:PG X tg g) (hs:swapsWithSole [tg] e pos.line X.env=pure false:=by rfl) (hw:swappedStores [tg] e X.env=pure none:=by rfl)
    (h1:(assignEach [tg] X.env).map (·.2)=[assign tg X.env]:=by rfl):PS X (.Assign [tg] e pos) (Qn te g):=by
  intro pins s σ H D I h
  refine wpAny_Assign_stores (thn (he pins s σ H _ I h) fun v s1 ⟨x,H1,I1,r1,q1⟩=>?_) hs hw
  rw [h1]
  exact thn (hg pins s1 σ H1 x v _ I1 r1 q1) fun _ s2 q=>q
theorem aO {i:Nat} {x:Str} {e:Expr} {te:TE} {pos':Pos} (hN:X.N.Nodup) (hi:X.N[i]?=some x) (hx:Loc X.env.scope x) (he:PE X e te) (hs:swapsWith e (some (.Name x pos')) pos.line X.env=pure false:=by rfl) (hf:X.fn x=true∨X.env.scope.names.lookup x=some .local:=by first | exact .inl rfl | exact .inr rfl | assumption) :
    PS X (.Assign [.Name x pos'] e pos) (Qn te (zR i)):=by
  intro pins s σ H D I h
  refine wpAny_Assign_Name (thn (he pins s σ H _ I h) fun v s1 ⟨y,H1,I1,r1,q1⟩=>?_) hs
  exact vf I1 hN hi hx r1 (fun s2 I2=>⟨_,H1,I2,q1⟩) hf
def QG (to ti te:TE) (tget:V→V→Hp→VK→Prop) (tip:TIp) (tset:Qh):TS:=fun D σ H=>to σ H fun o H1=>ti σ H1 fun i H2=>tget o i H2 fun x H3=>te σ H3 fun y H4=>tip x y H4 fun z H5=>tset o i z H5 fun H6=>D.nx σ H6
def Ub (X:Cx) (t:V→V→Hp→VK→Prop):Prop :=
  ∀ (pins:List (Addr × Obj)) (s:Shared) (σ:St) (H:Hp) (o i:V) (ov iv:Value) (Q:VK),Inv X pins σ H s→RelV o ov→RelV i iv→t o i H Q →
    wpAny (model X.prog X.w) X.A (getItem ov iv) (EP X pins σ Q) X.xe s
theorem nY {o i e:Expr} {to ti te:TE} {tget:V→V→Hp→VK→Prop} {tip:TIp} {tset:Qh} {op:Operator} {tpos:Pos} (ho:PE X o to) (hi:PE X i ti) (hg:Ub X tget) (he:PE X e te) (hp:PIp X op tip) (hs:S6 X tset)
    (ha:∀ ov iv new,augStore i ov iv new=(do holding [new,ov,iv] (setItem ov iv new);release [new,ov,iv] [];pure .next):=by intros;rfl):PS X (.AugAssign (.Subscript o i tpos) op e pos) (QG to ti te tget tip tset):=by
  intro pins s σ H D I h
  refine wpAny_AugAssign_SubscriptAny (thn (ho pins s σ H _ I h) fun ov s1 ⟨x1,H1,I1,r1,q1⟩=>?_) ha
  refine thn (hi pins s1 σ H1 _ I1 q1) fun iv s2 ⟨x2,H2,I2,r2,q2⟩=>?_
  refine thn (hg pins s2 σ H2 x1 x2 ov iv _ I2 r1 r2 q2) fun old s3 ⟨x3,H3,I3,r3,q3⟩=>?_
  refine thn (he pins s3 σ H3 _ I3 q3) fun v s4 ⟨x4,H4,I4,r4,q4⟩=>?_
  refine thn (hp pins s4 σ H4 x3 x4 old v _ I4 r3 r4 q4) fun new s5 ⟨x5,H5,I5,r5,q5⟩=>?_
  exact thn (hs pins s5 σ H5 x1 x2 x5 ov iv new _ I5 r1 r2 r5 q5) fun _ s6 ⟨H6,I6,q6⟩=>⟨σ,H6,I6,q6⟩
def ipI (f:Int→Int→Int):TIp:=fun x y H Q=>∃ i j,x=.int i∧y=.int j∧Q (.int (f i j)) H
theorem vP:PIp X .Add (ipI fun i j=>i + j):=by
  intro pins s σ H x y v u Q I r1 r2 h
  obtain ⟨i,j,e1,e2,q⟩:=h
  subst e1;subst e2
  obtain ⟨t,rfl⟩:=r1
  obtain ⟨t',rfl⟩:=r2
  exact iadd_int ⟨.int _,H,I.tok _,⟨_,rfl⟩,q⟩
theorem Lb:PIp X .Sub (ipI fun i j=>i - j):=by
  intro pins s σ H x y v u Q I r1 r2 h
  obtain ⟨i,j,e1,e2,q⟩:=h
  subst e1;subst e2
  obtain ⟨t,rfl⟩:=r1
  obtain ⟨t',rfl⟩:=r2
  exact isub_int ⟨.int _,H,I.tok _,⟨_,rfl⟩,q⟩
end
section
variable {X:Cx} {pos:Pos}
def nG (c:TT) (tb:TS):TS:=fun D σ H=>∃ W:Nat→St→Hp→Prop,(∃ m,W m σ H)∧∀ m σ H,W m σ H →
  c σ H fun b H1=>if b=true then ∃ N:St→Hp→Prop,(∀ σ' H',N σ' H'→∃ m',m'<m∧W m' σ' H')∧tb { D with nx:=N,ct:=N,bk:=D.nx } σ H1 else D.nx σ H1
theorem qz {c:Expr} {body:List Stmt} {tc:TT} {tb:TS} (hp:PassesOwn (model X.prog X.w) X.A X.env X.xe) (hc:PT X c tc) (hb:PSs X body tb):PS X (.While c body [] pos) (nG tc tb):=by
  intro pins s σ H D I h
  obtain ⟨W,⟨m0,w0⟩,turn⟩:=h
  refine wpAny_While (codeAny_whileLoop (fun n s'=>∃ σ' H',Inv X pins σ' H' s'∧W n σ' H') ?_ m0 ⟨σ,H,I,w0⟩)
  rintro n s1 ⟨σ1,H1,I1,w1⟩
  refine wpAny_passesOwn hp (thn (hc pins s1 σ1 H1 _ I1 (turn n σ1 H1 w1)) fun b s2 ⟨H2,I2,q2⟩=>?_)
  cases b with
  | true =>
    obtain ⟨N,hN,q2⟩:=q2
    rw [if_pos rfl]
    refine wpAny_passesOwn hp (thn (hb pins s2 σ1 H2 _ I2 q2) fun f s3 q3=>?_)
    cases f with
    | next =>
      obtain ⟨σ3,H3,I3,n3⟩:=q3
      obtain ⟨m',hm,w3⟩:=hN σ3 H3 n3
      exact ⟨m',hm,σ3,H3,I3,w3⟩
    | cont =>
      obtain ⟨σ3,H3,I3,n3⟩:=q3
      obtain ⟨m',hm,w3⟩:=hN σ3 H3 n3
      exact ⟨m',hm,σ3,H3,I3,w3⟩
    | brk=>exact q3
    | ret v=>exact q3
  | false =>
    rw [if_neg Bool.false_ne_true]
    exact wpAny_execs_nil ⟨σ1,H2,I2,q2⟩
end
structure It where
  go:Nat→Hp→Prop
  yld:Nat→Hp→V→Hp→Prop
  stop:Nat→Hp→Prop
def qY (X:Cx) (pins:List (Addr × Obj)) (H:Hp) (b:Addr):Prop :=
  H b=none∧b≠X.env.locals∧b ∉ X.fs∧(b∈X.ex∨X.s₀.heap.objs.size≤b)∧(∀ x c,X.env.cells.lookup x=some c→c≠b)∧∀ p∈X.pn++pins,p.1≠b
theorem Inv.uG {X:Cx} {pins:List (Addr × Obj)} {σ:St} {H H':Hp} {s:Shared} {b:Addr} (I:Inv X pins σ H s) (hb:s.heap.objs.size≤b) (hn:H' b=none):qY X pins H' b:=by
  refine ⟨hn,Nat.ne_of_gt (Nat.lt_of_lt_of_le I.lt hb),I.nofs hb,.inr (Nat.le_trans I.sz hb),fun x c e z=>?_,fun p hp z=>?_⟩
  · obtain ⟨v,q⟩:=I.cell x c e
    exact absurd (Nat.lt_of_lt_of_le q.lt (by rw [z];exact hb)) (Nat.lt_irrefl _)
  · exact absurd (Nat.lt_of_lt_of_le (Heap.lt_size (I.pin p hp).1) (by rw [z];exact hb)) (Nat.lt_irrefl _)
structure Turn (P:Program) (w:World) (K:PySem.W.Frag) (tg:Expr) (J:It) (fp:List Addr) (it:Addr) (tn:Nat→Heap→Prop):Prop where
  mem:it∈fp
  obj:∀ i h,tn i h→∀ b∈fp,∃ o,h.get? b=some o∧∀ v,o.data≠.cell v
  keep:∀ i h h',tn i h→(∀ b∈fp,∀ o,h.get? b=some o→h'.get? b=some o)→tn i h'
  item:∀ (X:Cx),X.prog=P→X.w=w→X.K=K→X.calm=true→∀ (i:Nat) (pins:List (Addr × Obj)) (s:Shared) (σ:St) (H:Hp) (E:Value→Shared→Prop),Inv X pins σ H s→(∀ b∈fp,qY X pins H b)→tn i s.heap→J.go i H →
    wpAny (model P w) X.A (pyNext (.ref it)) (fun r s1=>∃ u,r=some u ∧
      wpAny (model P w) X.A (letOwnedTupleGo tg (.ref it) u) (fun _ s2=>∃ x H',Inv X pins σ H' s2∧RelV x u∧J.yld i H x H'∧tn (i + 1) s2.heap∧∀ b∈fp,H' b=none) E s1) E s
  done:∀ (X:Cx),X.prog=P→X.w=w→X.K=K→X.calm=true→∀ (i:Nat) (pins:List (Addr × Obj)) (s:Shared) (σ:St) (H:Hp) (E:Value→Shared→Prop),Inv X pins σ H s→(∀ b∈fp,qY X pins H b)→tn i s.heap→J.stop i H →
    wpAny (model P w) X.A (pyNext (.ref it)) (fun r s1=>r=none∧Inv X pins σ H s1) E s
  self:∀ (A:Around) (i:Nat) (s:Shared) (Q:Value→Shared→Prop) (E:Value→Shared→Prop),tn i s.heap→Q (.ref it) s→wpAny (model P w) A (pyIter (.ref it)) Q E s
abbrev TI:=St→Hp→(It→Hp→Prop)→Prop
def PIE (X:Cx) (pins:List (Addr × Obj)) (σ:St) (tg:Expr) (R:It→Hp→Prop) (itv:Value) (s2:Shared):Prop :=
  ∃ (it:Addr) (fp:List Addr) (tn:Nat→Heap→Prop) (J:It) (H':Hp),itv=.ref it∧Inv X pins σ H' s2∧Turn X.prog X.w X.K tg J fp it tn∧tn 0 s2.heap∧(∀ b∈fp,qY X pins H' b)∧R J H'
def PI (X:Cx) (tg iter:Expr) (wi:TI):Prop :=
  ∀ (pins:List (Addr × Obj)) (s:Shared) (σ:St) (H:Hp) (R:It→Hp→Prop),Inv X pins σ H s→wi σ H R →
    wpAny (model X.prog X.w) X.A (eval iter X.env) (fun v s1=>wpAny (model X.prog X.w) X.A (pyIter v) (PIE X pins σ tg R) X.xe s1) X.xe s
theorem JC {M:Model} {A:Around} {E:Value→Shared→Prop} {s:Shared} {tg:Expr} {it:Addr} {u:Value} {o:Obj} {n:String} {vs:Array Value} {Q:Unit→Shared→Prop} (ho:s.heap.get? it=some o) (hc:o.cls=.type n) (hd:o.data=.fields vs)
    (hn:["enumerate","zip","dict_itemiterator","dict_reverseitemiterator","odict_iterator","itertools.zip_longest","itertools.pairwise"].contains n=false) (hQ:Q () s):wpAny M A (letOwnedTupleGo tg (.ref it) u) Q E s:=by
  unfold letOwnedTupleGo
  cases tg <;> first
    | exact wpAny_pure hQ
    | (cases u <;> first
        | exact wpAny_pure hQ
        | (refine wpAny_bind (wpAny_load ho ?_)
           rw [hc,hd]
           show wpAny M A (if (["enumerate","zip","dict_itemiterator","dict_reverseitemiterator","odict_iterator","itertools.zip_longest","itertools.pairwise"].contains n && vs[0]? == some (rawInt _))=true then _ else _) Q E s
           rw [if_neg (by intro h;rw [hn,Bool.false_and] at h;cases h)]
           exact wpAny_pure hQ))
def Itl (K:PySem.W.Frag) (a:Addr):It :=
  ⟨fun i H=>∃ xs x,SqL K H a xs∧xs[i]?=some x,fun i H x H'=>H'=H∧∀ xs,SqL K H a xs→xs[i]?=some x,fun i H=>∃ xs,SqL K H a xs∧xs.length≤i⟩
def Itt (K:PySem.W.Frag) (a:Addr):It :=
  ⟨fun i H=>∃ xs x,SqT K H a xs∧xs[i]?=some x,fun i H x H'=>H'=H∧∀ xs,SqT K H a xs→xs[i]?=some x,fun i H=>∃ xs,SqT K H a xs∧xs.length≤i⟩
def Itr (lo:Int) (n:Nat):It:=⟨fun i _=>i<n,fun i H x H'=>H'=H∧x=.int (lo + i),fun i _=>n≤i⟩
theorem xY {P:Program} {w:World} {K:PySem.W.Frag} {tg:Expr} (a it:Addr):Turn P w K tg (Itl K a) [it] it (fun i h=>h.IsListIter it a i) where
  mem:=by simp
  obj:=fun i h st b hb=>by
    have e:b=it:=by simpa using hb
    subst e
    obtain ⟨o,e,c,d⟩:=st
    exact ⟨o,e,fun v z=>by rw [d] at z;cases z⟩
  keep:=fun i h h' st k=>st.at fun o e=>k it (by simp) o e
  item:=by
    intro X hP hw hK hc i pins s σ H E I hf st hg
    subst hP hw hK
    obtain ⟨xs,x,hq,hx⟩:=hg
    obtain ⟨its,rv,p,hz⟩:=I.list hq
    obtain ⟨u,hu,ru⟩:=rv.get hx
    obtain ⟨f0,f1,f2,f3,f4,f5⟩:=hf it (by simp)
    refine wpAny_pyNext_list_item st p.isList (x:=u) (by simpa using hu) fun h' st' sb=>?_
    have I1:Inv X pins σ H { s with heap:=h' }:=I.turned (t':=s.toks) (fun b o hb e=>(sb.2 b hb).trans e) f0 f1 f3 f4 f5
    obtain ⟨o,e,c,d⟩:=id st'
    exact ⟨u,rfl,JC (s:={ s with heap:=h' }) e c d (by decide) ⟨x,H,I1,ru,⟨rfl,fun ys hy=>by rw [I.Cd hy hq];exact hx⟩,st',fun b hb=>(hf b hb).1⟩⟩
  done:=by
    intro X hP hw hK hc i pins s σ H E I hf st hg
    subst hP hw hK
    obtain ⟨xs,hq,hx⟩:=hg
    obtain ⟨its,rv,p,hz⟩:=I.list hq
    obtain ⟨f0,f1,f2,f3,f4,f5⟩:=hf it (by simp)
    have hl:=rv.length
    exact wpAny_pyNext_list_end (I.ok.hd hc) st p.isList (by simp;omega) fun h' eb=>⟨rfl,I.turned (t':=s.toks) (fun b o hb e=>eb b o hb e) f0 f1 f3 f4 f5⟩
  self:=fun _ _ _ _ _ st h=>wpAny_pyIter_listiter st h
theorem wH {P:Program} {w:World} {K:PySem.W.Frag} {tg:Expr} (a it:Addr):Turn P w K tg (Itt K a) [it] it (fun i h=>h.IsTupleIter it a i) where
  mem:=by simp
  obj:=fun i h st b hb=>by
    have e:b=it:=by simpa using hb
    subst e
    obtain ⟨o,e,c,d⟩:=st
    exact ⟨o,e,fun v z=>by rw [d] at z;cases z⟩
  keep:=fun i h h' st k=>st.at fun o e=>k it (by simp) o e
  item:=by
    intro X hP hw hK hc i pins s σ H E I hf st hg
    subst hP hw hK
    obtain ⟨xs,x,hq,hx⟩:=hg
    obtain ⟨its,rv,p,hz⟩:=I.tuple hq
    obtain ⟨u,hu,ru⟩:=rv.get hx
    obtain ⟨f0,f1,f2,f3,f4,f5⟩:=hf it (by simp)
    refine wpAny_pyNext_tuple_item st (show s.heap.IsTuple a its.toArray from p) (x:=u) (by simpa using hu) fun h' st' sb=>?_
    have I1:Inv X pins σ H { s with heap:=h' }:=I.turned (t':=s.toks) (fun b o hb e=>(sb.2 b hb).trans e) f0 f1 f3 f4 f5
    obtain ⟨o,e,c,d⟩:=id st'
    exact ⟨u,rfl,JC (s:={ s with heap:=h' }) e c d (by decide) ⟨x,H,I1,ru,⟨rfl,fun ys hy=>by rw [I.yg hy hq];exact hx⟩,st',fun b hb=>(hf b hb).1⟩⟩
  done:=by
    intro X hP hw hK hc i pins s σ H E I hf st hg
    subst hP hw hK
    obtain ⟨xs,hq,hx⟩:=hg
    obtain ⟨its,rv,p,hz⟩:=I.tuple hq
    obtain ⟨f0,f1,f2,f3,f4,f5⟩:=hf it (by simp)
    have hl:=rv.length
    exact wpAny_pyNext_tuple_end (I.ok.hd hc) st (show s.heap.IsTuple a its.toArray from p) (by simp;omega) fun h' eb=>⟨rfl,I.turned (t':=s.toks) (fun b o hb e=>eb b o hb e) f0 f1 f3 f4 f5⟩
  self:=fun _ _ _ _ _ st h=>wpAny_pyIter_tupleiter st h
theorem wI {P:Program} {w:World} {K:PySem.W.Frag} {tg:Expr} (it:Addr) (lo:Int) (n:Nat):Turn P w K tg (Itr lo n) [it] it (fun i h=>IsRangeIter h it (lo + (i:Nat) * 1) ((n:Int) - (i:Nat)) 1) where
  mem:=by simp
  obj:=fun i h st b hb=>by
    have e:b=it:=by simpa using hb
    subst e
    exact ⟨_,st,fun v z=>by
      have z':Data.fields _=Data.cell v:=z
      cases z'⟩
  keep:=fun i h h' st k=>k it (by simp) _ st
  item:=by
    intro X hP hw hK hc i pins s σ H E I hf st hg
    subst hP hw hK
    obtain ⟨f0,f1,f2,f3,f4,f5⟩:=hf it (by simp)
    have W:=Walks.range (prog:=X.prog) (w:=X.w) (I.ok.hd hc) it lo 1 n
    refine W.item i s _ _ hg st fun v h' tk hv st' kk=>?_
    obtain ⟨t,rfl⟩:=hv
    have I1:Inv X pins σ H { s with heap:=h',toks:=tk }:=I.turned (fun b o hb e=>kk b o (by simpa using hb) e) f0 f1 f3 f4 f5
    refine ⟨_,rfl,JC (s:={ s with heap:=h',toks:=tk }) (n:="range_iterator") st' rfl rfl (by decide) ⟨.int (lo + i),H,I1,⟨t,?_⟩,⟨rfl,rfl⟩,st',fun b hb=>(hf b hb).1⟩⟩
    rw [Int.mul_one]
  done:=by
    intro X hP hw hK hc i pins s σ H E I hf st hg
    subst hP hw hK
    obtain ⟨f0,f1,f2,f3,f4,f5⟩:=hf it (by simp)
    exact wpAny_pyNext_range_end (I.ok.hd hc) st (by have:n≤i:=hg;omega) fun h' eb=>⟨rfl,I.turned (t':=s.toks) (fun b o hb e=>eb b o hb e) f0 f1 f3 f4 f5⟩
  self:=fun _ _ _ _ _ st h=>wpAny_pyIter_rangeiter st h
end L2
namespace L2
open PySem PySem.Spec PyProof.Rows
section
variable {X:Cx} {tg:Expr}
def Lf (K:PySem.W.Frag) (tl:TE):TI:=fun σ H R=>tl σ H fun x H1=>∃ a,x=.ref a∧(∃ xs,SqL K H1 a xs)∧R (Itl K a) H1
def iTup (K:PySem.W.Frag) (tl:TE):TI:=fun σ H R=>tl σ H fun x H1=>∃ a,x=.ref a∧(∃ xs,SqT K H1 a xs)∧R (Itt K a) H1
theorem cu {l:Expr} {tl:TE} (hl:PE X l tl):PI X tg l (Lf X.K tl):=by
  intro pins s σ H R I h
  refine thn (hl pins s σ H _ I h) fun v s1 ⟨x,H1,I1,r1,q1⟩=>?_
  obtain ⟨a,e,⟨xs,hq⟩,q⟩:=q1
  subst e
  cases r1
  obtain ⟨its,rv,p,hz⟩:=I1.list hq
  refine wpAny_pyIter_list p.isList ?_
  refine ⟨s1.heap.objs.size,[s1.heap.objs.size],_,_,H1,rfl,I1.kept (t':=s1.toks) fun b o e=>Heap.get?_push_of_some _ e,xY a _,⟨_,Heap.get?_push_size _ rfl,rfl,rfl⟩,fun b hb=>?_,q⟩
  have e:b=s1.heap.objs.size:=by simpa using hb
  subst e
  exact I1.uG (Nat.le_refl _) (I1.hok.fresh (Nat.le_refl _))
theorem Km {l:Expr} {tl:TE} (hl:PE X l tl):PI X tg l (iTup X.K tl):=by
  intro pins s σ H R I h
  refine thn (hl pins s σ H _ I h) fun v s1 ⟨x,H1,I1,r1,q1⟩=>?_
  obtain ⟨a,e,⟨xs,hq⟩,q⟩:=q1
  subst e
  cases r1
  obtain ⟨its,rv,p,hz⟩:=I1.tuple hq
  refine wpAny_pyIter_tuple (show s1.heap.IsTuple a its.toArray from p) ?_
  refine ⟨s1.heap.objs.size,[s1.heap.objs.size],_,_,H1,rfl,I1.kept (t':=s1.toks) fun b o e=>Heap.get?_push_of_some _ e,wH a _,⟨_,Heap.get?_push_size _ rfl,rfl,rfl⟩,fun b hb=>?_,q⟩
  have e:b=s1.heap.objs.size:=by simpa using hb
  subst e
  exact I1.uG (Nat.le_refl _) (I1.hok.fresh (Nat.le_refl _))
theorem vB {pins:List (Addr × Obj)} {σ:St} {H:Hp} {s:Shared} {R:It→Hp→Prop} {E:Value→Shared→Prop} {lo hi:Int} {t u v:Tok} {tk:Nat} (I:Inv X pins σ H s) (h1:-(2 ^ 62)≤lo) (h2:lo<2 ^ 62) (h3:-(2 ^ 62)≤hi) (h4:hi<2 ^ 62)
    (q:R (Itr lo (hi - lo).toNat) H):wpAny (model X.prog X.w) X.A (pyIter (.ref s.heap.objs.size)) (PIE X pins σ tg R) E { s with heap:=s.heap.push { cls:=.type "range",data:=.fields #[.int lo t,.int hi u,.int 1 v] },toks:=tk }:=by
  refine wpAny_pyIter_range (IsRange.new ..) (small_one h1 h2 h3 h4) ?_
  have I1:Inv X pins σ H { s with heap:=s.heap.push { cls:=.type "range",data:=.fields #[.int lo t,.int hi u,.int 1 v] },toks:=tk }:=I.kept fun b o e=>Heap.get?_push_of_some _ e
  refine ⟨(s.heap.push { cls:=.type "range",data:=.fields #[.int lo t,.int hi u,.int 1 v] }).objs.size,[(s.heap.push { cls:=.type "range",data:=.fields #[.int lo t,.int hi u,.int 1 v] }).objs.size],_,_,H,rfl,
    I1.kept (t':=tk) fun b o e=>Heap.get?_push_of_some _ e,wI _ lo (hi - lo).toNat,?_,fun b hb=>?_,q⟩
  · have e1:lo + ((0:Nat):Int) * 1=lo:=by simp
    have e2:(((hi - lo).toNat:Nat):Int) - ((0:Nat):Int)=Builtin.Range.rangeSize lo hi 1:=by rw [rangeSize_one];split <;> omega
    show IsRangeIter _ _ (lo + ((0:Nat):Int) * 1) ((((hi - lo).toNat:Nat):Int) - ((0:Nat):Int)) 1
    rw [e1,e2]
    exact Heap.get?_push_size _ rfl
  · have e:b=(s.heap.push { cls:=.type "range",data:=.fields #[.int lo t,.int hi u,.int 1 v] }).objs.size:=by simpa using hb
    subst e
    exact I1.uG (Nat.le_refl _) (I1.hok.fresh (Nat.le_refl _))
def Rp (ta:TA):TI:=fun σ H R=>ta σ H fun vs H1=>∃ j:Int,vs=[.int j]∧-(2 ^ 62)≤j∧j<2 ^ 62∧R (Itr 0 j.toNat) H1
def Ro (ta:TA):TI:=fun σ H R=>ta σ H fun vs H1=>∃ i j:Int,vs=[.int i,.int j]∧(-(2 ^ 62)≤i∧i<2 ^ 62∧-(2 ^ 62)≤j∧j<2 ^ 62)∧R (Itr i (j - i).toNat) H1
theorem gO {a:Expr} {ta:TA} {p pos:Pos} (hg:Gl X "range") (hm:X.mg "range"=none) (ha:PA X [a] ta) (hs:starEach [a] X.env=[(false,eval a X.env)]:=by rfl):PI X tg (.Call (.Name "range" p) [a] [] pos) (Rp ta):=by
  intro pins s σ H R I h
  refine Call_ (jj I hg hm boot_range (PyProof.Rows.callWith_type1 (thn (ha pos pins s σ H _ I h) fun us s1 ⟨vs,H1,I1,r1,q1⟩=>?_) hs rfl))
  obtain ⟨j,e,q1,q2,q⟩:=q1
  subst e
  cases r1 with
  | cons r rr =>
    cases rr
    obtain ⟨t,rfl⟩:=r
    exact call_range_1 (vB I1 (by omega) (by omega) q1 q2 (by simpa using q))
theorem yR {a b:Expr} {ta:TA} {p pos:Pos} (hg:Gl X "range") (hm:X.mg "range"=none) (ha:PA X [a,b] ta) (hs:starEach [a,b] X.env=[(false,eval a X.env),(false,eval b X.env)]:=by rfl) (hs2:starEach [b] X.env=[(false,eval b X.env)]:=by rfl) :
    PI X tg (.Call (.Name "range" p) [a,b] [] pos) (Ro ta):=by
  intro pins s σ H R I h
  refine Call_ (jj I hg hm boot_range (PyProof.Rows.callWith_type1 (thn (ha pos pins s σ H _ I h) fun us s1 ⟨vs,H1,I1,r1,q1⟩=>?_) (by rw [hs,hs2]) (by rw [hs2];rfl)))
  obtain ⟨i,j,e,⟨q1,q2,q3,q4⟩,q⟩:=q1
  subst e
  cases r1 with
  | cons r rr =>
    cases rr with
    | cons r' rr =>
      cases rr
      obtain ⟨t,rfl⟩:=r
      obtain ⟨t',rfl⟩:=r'
      exact call_range_2 (vB I1 q1 q2 q3 q4 q)
def iU (wi:TI) (g:TG) (tb:TS):TS:=fun D σ H=>wi σ H fun J H1=>∃ W:Nat→Nat→St→Hp→Prop,(∃ m,W 0 m σ H1)∧∀ i m σ H,W i m σ H →
  (J.stop i H∧D.nx σ H)∨(J.go i H∧∃ N:St→Hp→Prop,(∀ σ' H',N σ' H'→∃ m',m'<m∧W (i + 1) m' σ' H')∧∀ x H',J.yld i H x H'→g x σ H' fun σ2 H2=>tb { D with nx:=N,ct:=N,bk:=D.nx } σ2 H2)
def pN (fp:List Addr) (h:Heap):List (Addr × Obj):=fp.filterMap fun b=>(h.get? b).map fun o=>(b,o)
theorem iI {fp:List Addr} {h:Heap} {b:Addr} {o:Obj} (hb:b∈fp) (e:h.get? b=some o):(b,o)∈pN fp h:=List.mem_filterMap.mpr ⟨b,hb,by rw [e];rfl⟩
theorem zc {fp:List Addr} {h:Heap} {p:Addr × Obj} (hp:p∈pN fp h):p.1∈fp∧h.get? p.1=some p.2:=by
  obtain ⟨b,hb,e⟩:=List.mem_filterMap.mp hp
  cases q:h.get? b with
  | none=>rw [q] at e;cases e
  | some o =>
    rw [q] at e
    have e':(b,o)=p:=Option.some.inj e
    subst e'
    exact ⟨hb,q⟩
theorem Inv.pinned {pins:List (Addr × Obj)} {σ:St} {H:Hp} {s:Shared} {fp:List Addr} (I:Inv X pins σ H s) (hf:∀ b∈fp,qY X pins H b) (ho:∀ b∈fp,∃ o,s.heap.get? b=some o∧∀ v,o.data≠.cell v):Inv X (pins++pN fp s.heap) σ H s :=
  I.um fun p hp=>(List.mem_append.mp hp).elim (fun z=>I.pin p (List.mem_append_right _ z)) fun z=>by
    obtain ⟨hb,e⟩:=zc z
    obtain ⟨f0,f1,f2,_⟩:=hf p.1 hb
    obtain ⟨o,e',d⟩:=ho p.1 hb
    rw [e] at e';cases e'
    exact ⟨e,f0,f1,f2,d⟩
theorem Inv.gH {pins pl:List (Addr × Obj)} {σ:St} {H:Hp} {s:Shared} (I:Inv X (pins++pl) σ H s):Inv X pins σ H s:=I.um fun p hp=>I.pin p (List.mem_append_right _ (List.mem_append_left _ hp))
theorem dZ {iter:Expr} {body:List Stmt} {wi:TI} {g:TG} {tb:TS} {pos:Pos} (hp:PassesOwn (model X.prog X.w) X.A X.env X.xe) (hc:X.calm=true) (hi:PI X tg iter wi) (hg:PG X tg g) (hb:PSs X body tb)
    (hs:∀ x,foldedSetIterable iter X.env x=pure x:=by intro _;rfl):PS X (.For tg iter body [] pos) (iU wi g tb):=by
  intro pins s σ H D I h
  refine wpAny_For (thn (hi pins s σ H _ I h) fun v s1 h1=>thn h1 fun itv s2 h2=>?_) hs
  obtain ⟨it,fp,tn,J,H2,e,I2,T,st2,f2,W,⟨m0,w0⟩,turn⟩:=h2
  subst e
  have stat:∀ {H':Hp},(∀ b∈fp,H' b=none)→∀ b∈fp,qY X pins H' b:=fun hn b hb=>⟨hn b hb,(f2 b hb).2⟩
  refine codeAny_forLoop_any (fun n s'=>∃ i σ' H',Inv X pins σ' H' s'∧tn i s'.heap∧(∀ b∈fp,H' b=none)∧W i n σ' H') ?_ m0 ⟨0,σ,H2,I2,st2,fun b hb=>(f2 b hb).1,w0⟩
  rintro n s3 ⟨i,σ3,H3,I3,st3,fr3,w3⟩
  rcases turn i n σ3 H3 w3 with ⟨stop,qn⟩ | ⟨go,N,hN,step⟩
  · refine wpAny_passesOwn hp (thn (T.done X rfl rfl rfl hc i pins s3 σ3 H3 X.xe I3 (stat fr3) st3 stop) fun r s4 ⟨hr,I4⟩=>?_)
    subst hr
    exact wpAny_execs_nil ⟨σ3,H3,I4,qn⟩
  · refine wpAny_passesOwn hp (thn (T.item X rfl rfl rfl hc i pins s3 σ3 H3 X.xe I3 (stat fr3) st3 go) fun r s4 ⟨u,hr,h4⟩=>?_)
    subst hr
    refine wpAny_passesOwn hp (thn h4 fun _ s5 ⟨x,H5,I5,r5,y5,st5,fr5⟩=>?_)
    have I5':=I5.pinned (stat fr5) (T.obj _ _ st5)
    refine wpAny_passesOwn hp (thn (hg _ s5 σ3 H5 x u _ I5' r5 (step x H5 y5)) fun _ s6 ⟨σ6,H6,I6,q6⟩=>?_)
    refine wpAny_passesOwn hp (thn (hb _ s6 σ6 H6 _ I6 q6) fun f s7 q7=>?_)
    have again:∀ {σ7:St} {H7:Hp},Inv X (pins++pN fp s5.heap) σ7 H7 s7→N σ7 H7→∃ m,m<n∧∃ i σ' H',Inv X pins σ' H' s7∧tn i s7.heap∧(∀ b∈fp,H' b=none)∧W i m σ' H':=fun {σ7 H7} I7 n7=>by
      obtain ⟨m',hm,w7⟩:=hN σ7 H7 n7
      refine ⟨m',hm,i + 1,σ7,H7,I7.gH,T.keep _ _ _ st5 fun b hb o e=>(I7.pin (b,o) (List.mem_append_right _ (List.mem_append_right _ (iI hb e)))).1,fun b hb=>?_,w7⟩
      obtain ⟨o,e,d⟩:=T.obj _ _ st5 b hb
      exact (I7.pin (b,o) (List.mem_append_right _ (List.mem_append_right _ (iI hb e)))).2.1
    cases f with
    | next=>obtain ⟨σ7,H7,I7,n7⟩:=q7;exact again I7 n7
    | cont=>obtain ⟨σ7,H7,I7,n7⟩:=q7;exact again I7 n7
    | brk=>obtain ⟨σ7,H7,I7,q7⟩:=q7;exact ⟨σ7,H7,I7.gH,q7⟩
    | ret v=>obtain ⟨x7,σ7,H7,I7,r7,q7⟩:=q7;exact ⟨x7,σ7,H7,I7.gH,r7,q7⟩
end
theorem gA {K:PySem.W.Frag} {a:Addr} {xs:List V} {g:TG} {tb:TS} {D:Ends} {σ:St} {H:Hp} (Pv:Nat→St→Hp→Prop) (h0:Pv 0 σ H) (hl:∀ i σ H,i≤xs.length→Pv i σ H→SqL K H a xs)
    (hs:∀ i x σ H,xs[i]?=some x→Pv i σ H→g x σ H fun σ2 H2=>tb { D with nx:=Pv (i + 1),ct:=Pv (i + 1),bk:=D.nx } σ2 H2) (hd:∀ σ H,Pv xs.length σ H→D.nx σ H) :
    ∃ W:Nat→Nat→St→Hp→Prop,(∃ m,W 0 m σ H)∧∀ i m σ H,W i m σ H →
      ((Itl K a).stop i H∧D.nx σ H)∨((Itl K a).go i H∧∃ N:St→Hp→Prop,(∀ σ' H',N σ' H'→∃ m',m'<m∧W (i + 1) m' σ' H')∧∀ x H',(Itl K a).yld i H x H'→g x σ H' fun σ2 H2=>tb { D with nx:=N,ct:=N,bk:=D.nx } σ2 H2):=by
  refine ⟨fun i m σ H=>m=xs.length - i∧i≤xs.length∧Pv i σ H,⟨xs.length,by simp,Nat.zero_le _,h0⟩,?_⟩
  rintro i m σ H ⟨rfl,hi,p⟩
  have q:=hl i σ H hi p
  by_cases hlt:i<xs.length
  · refine .inr ⟨⟨xs,xs[i],q,by simp [hlt]⟩,Pv (i + 1),fun σ' H' p'=>⟨xs.length - (i + 1),by omega,rfl,hlt,p'⟩,fun x H' y=>?_⟩
    obtain ⟨e,y⟩:=y
    subst e
    exact hs i x σ _ (y xs q) p
  · have e:i=xs.length:=by omega
    subst e
    exact .inl ⟨⟨xs,q,Nat.le_refl _⟩,hd σ H p⟩
theorem gQ {lo:Int} {n:Nat} {g:TG} {tb:TS} {D:Ends} {σ:St} {H:Hp} (Pv:Nat→St→Hp→Prop) (h0:Pv 0 σ H)
    (hs:∀ i σ H,i<n→Pv i σ H→g (.int (lo + i)) σ H fun σ2 H2=>tb { D with nx:=Pv (i + 1),ct:=Pv (i + 1),bk:=D.nx } σ2 H2) (hd:∀ σ H,Pv n σ H→D.nx σ H) :
    ∃ W:Nat→Nat→St→Hp→Prop,(∃ m,W 0 m σ H)∧∀ i m σ H,W i m σ H →
      ((Itr lo n).stop i H∧D.nx σ H)∨((Itr lo n).go i H∧∃ N:St→Hp→Prop,(∀ σ' H',N σ' H'→∃ m',m'<m∧W (i + 1) m' σ' H')∧∀ x H',(Itr lo n).yld i H x H'→g x σ H' fun σ2 H2=>tb { D with nx:=N,ct:=N,bk:=D.nx } σ2 H2):=by
  refine ⟨fun i m σ H=>m=n - i∧i≤n∧Pv i σ H,⟨n,by simp,Nat.zero_le _,h0⟩,?_⟩
  rintro i m σ H ⟨rfl,hi,p⟩
  by_cases hlt:i<n
  · refine .inr ⟨hlt,Pv (i + 1),fun σ' H' p'=>⟨n - (i + 1),by omega,rfl,hlt,p'⟩,fun x H' y=>?_⟩
    obtain ⟨e,y⟩:=y
    subst e y
    exact hs i σ _ hlt p
  · have e:i=n:=by omega
    subst e
    exact .inl ⟨Nat.le_refl _,hd σ H p⟩
end L2
namespace L2
open PySem PySem.Spec PyProof.Rows
abbrev R2:=V→V→Hp→VK→Prop
def OpR (X:Cx) (f:Value→Value→Sem Value) (r:R2):Prop :=
  ∀ (pins:List (Addr × Obj)) (s:Shared) (σ:St) (H:Hp) (x y:V) (v u:Value) (Q:VK),Inv X pins σ H s→RelV x v→RelV y u→r x y H Q →
    wpAny (model X.prog X.w) X.A (f v u) (EP X pins σ Q) X.xe s
def UnR (X:Cx) (f:Value→Sem Value) (r:V→Hp→VK→Prop):Prop :=
  ∀ (pins:List (Addr × Obj)) (s:Shared) (σ:St) (H:Hp) (x:V) (v:Value) (Q:VK),Inv X pins σ H s→RelV x v→r x H Q →
    wpAny (model X.prog X.w) X.A (f v) (EP X pins σ Q) X.xe s
def mG (X:Cx) (f:Value) (r:List V→Hp→VK→Prop):Prop :=
  ∀ (pins:List (Addr × Obj)) (s:Shared) (σ:St) (H:Hp) (xs:List V) (us:List Value) (Q:VK),Inv X pins σ H s→Vals xs us→r xs H Q →
    wpAny (model X.prog X.w) X.A (call f us) (EP X pins σ Q) X.xe s
def TruR (X:Cx) (r:V→Hp→(Bool→Hp→Prop)→Prop):Prop :=
  ∀ (pins:List (Addr × Obj)) (s:Shared) (σ:St) (H:Hp) (x:V) (v:Value) (Q:Bool→Hp→Prop),Inv X pins σ H s→RelV x v→r x H Q →
    wpAny (model X.prog X.w) X.A (truthy v) (TP X pins σ Q) X.xe s
def tOp (r:R2) (ta tb:TE):TE:=fun σ H Q=>ta σ H fun x H1=>tb σ H1 fun y H2=>r x y H2 Q
def tUn (r:V→Hp→VK→Prop) (ta:TE):TE:=fun σ H Q=>ta σ H fun x H1=>r x H1 Q
def rI (C:Int→Int→Prop) (g:Int→Int→V):R2:=fun x y H Q=>∃ i j,x=.int i∧y=.int j∧C i j∧Q (g i j) H
def rI0 (g:Int→Int→V):R2:=fun x y H Q=>∃ i j,x=.int i∧y=.int j∧Q (g i j) H
def rU (g:Int→V):V→Hp→VK→Prop:=fun x H Q=>∃ i,x=.int i∧Q (g i) H
section
variable {X:Cx} {a b c:Expr} {ta tb tc:TE} {pos:Pos}
theorem SX (ha:PE X a ta) (hb:PE X b tb) {pins:List (Addr × Obj)} {s:Shared} {σ:St} {H:Hp} {R:V→V→Hp→Prop} (I:Inv X pins σ H s)
    (h:ta σ H fun x H1=>tb σ H1 fun y H2=>R x y H2) {Q:Value→Shared→Prop} {f:Value→Value→Sem Value}
    (hf:∀ v u s2 x y H2,Inv X pins σ H2 s2→RelV x v→RelV y u→R x y H2→wpAny (model X.prog X.w) X.A (f v u) Q X.xe s2) :
    wpAny (model X.prog X.w) X.A (eval a X.env) (fun v s₁=>wpAny (model X.prog X.w) X.A (eval b X.env) (fun u s₂=>wpAny (model X.prog X.w) X.A (f v u) Q X.xe s₂) X.xe s₁) X.xe s:=by
  refine thn (ha pins s σ H _ I h) fun v s1 ⟨x,H1,I1,r1,q1⟩=>?_
  refine thn (hb pins s1 σ H1 _ I1 q1) fun u s2 ⟨y,H2,I2,r2,q2⟩=>?_
  exact hf v u s2 x y H2 I2 r1 r2 q2
theorem bf {op:Operator} {r:R2} (ho:OpR X (binaryOp op) r) (ha:PE X a ta) (hb:PE X b tb):PE X (.BinOp a op b pos) (tOp r ta tb):=by
  intro pins s σ H Q I h
  exact wpAny_BinOp (SX ha hb I h fun v u s2 x y H2 I2 rx ry q=>ho pins s2 σ H2 x y v u Q I2 rx ry q)
theorem kI {op:UnaryOp} {r:V→Hp→VK→Prop} (ho:UnR X (unaryOp op) r) (ha:PE X a ta):PE X (.UnaryOp op a pos) (tUn r ta):=by
  intro pins s σ H Q I h
  exact UnaryOp_ (thn (ha pins s σ H _ I h) fun v s1 ⟨x,H1,I1,r1,q1⟩=>ho pins s1 σ H1 x v Q I1 r1 q1)
theorem opI {f:Value→Value→Sem Value} {C:Int→Int→Prop} {g:Int→Int→Int}
    (rule:∀ (i j:Int) (t u:Tok) (s:Shared) (Q:Value→Shared→Prop) (E:Value→Shared→Prop),C i j→Q (.int (g i j) s.toks) { s with toks:=s.toks + 1 }→wpAny (model X.prog X.w) X.A (f (.int i t) (.int j u)) Q E s) :
    OpR X f (rI C fun i j=>.int (g i j)):=by
  intro pins s σ H x y v u Q I rx ry h
  obtain ⟨i,j,rfl,rfl,hc,q⟩:=h
  obtain ⟨t,rfl⟩:=rx
  obtain ⟨t',rfl⟩:=ry
  exact rule i j t t' s _ _ hc ⟨.int (g i j),H,I.tok _,⟨_,rfl⟩,q⟩
theorem Tr {f:Value→Value→Sem Value} {g:Int→Int→Int}
    (rule:∀ (i j:Int) (t u:Tok) (s:Shared) (Q:Value→Shared→Prop) (E:Value→Shared→Prop),Q (.int (g i j) s.toks) { s with toks:=s.toks + 1 }→wpAny (model X.prog X.w) X.A (f (.int i t) (.int j u)) Q E s) :
    OpR X f (rI0 fun i j=>.int (g i j)):=by
  intro pins s σ H x y v u Q I rx ry h
  obtain ⟨i,j,rfl,rfl,q⟩:=h
  obtain ⟨t,rfl⟩:=rx
  obtain ⟨t',rfl⟩:=ry
  exact rule i j t t' s _ _ ⟨.int (g i j),H,I.tok _,⟨_,rfl⟩,q⟩
theorem Tt {f:Value→Value→Sem Value} {g:Int→Int→Bool}
    (rule:∀ (i j:Int) (t u:Tok) (s:Shared) (Q:Value→Shared→Prop) (E:Value→Shared→Prop),Q (.bool (g i j)) s→wpAny (model X.prog X.w) X.A (f (.int i t) (.int j u)) Q E s) :
    OpR X f (rI0 fun i j=>.bl (g i j)):=by
  intro pins s σ H x y v u Q I rx ry h
  obtain ⟨i,j,rfl,rfl,q⟩:=h
  obtain ⟨t,rfl⟩:=rx
  obtain ⟨t',rfl⟩:=ry
  exact rule i j t t' s _ _ ⟨.bl (g i j),H,I,rfl,q⟩
def CDiv (i j:Int):Prop:=0<j∧j<1073741824
def CPow (i j:Int):Prop:=0≤j∧j≤1000000∧i.natAbs<2 ^ 64
def S9 (i j:Int):Prop:=(-(2 ^ 64)<i∧i<2 ^ 64)∨(-(2 ^ 64)<j∧j<2 ^ 64)
theorem S9.ok {i j:Int} (h:S9 i j):IntMulOk i j:=by
  rcases h with ⟨h1,h2⟩ | ⟨h1,h2⟩
  · exact .of_left (intBits_le_64 h1 h2)
  · exact .of_right (intBits_le_64 h1 h2)
theorem ji:OpR X (binaryOp .Add) (rI0 fun i j=>.int (i + j)):=Tr fun _ _ _ _ _ _ _ q=>add_int q
theorem rN:OpR X (binaryOp .Sub) (rI0 fun i j=>.int (i - j)):=Tr fun _ _ _ _ _ _ _ q=>sub_int q
theorem mZ:OpR X (binaryOp .Mult) (rI S9 fun i j=>.int (i * j)):=opI fun _ _ _ _ _ _ _ hc q=>mul_int q hc.ok
theorem jq:OpR X (binaryOp .FloorDiv) (rI CDiv fun i j=>.int (i / j)):=opI fun i j _ _ _ _ _ hc q=>by
  have h1:(0:Int)<j:=hc.1
  have h2:j<1073741824:=hc.2
  exact floordiv_int (by omega) (by rw [Int.fdiv_eq_ediv_of_nonneg i (by omega)];exact q) (.inl (PyProof.noPylong_small (by omega)))
theorem d8:OpR X (binaryOp .Mod) (rI (fun _ j=>0<j) fun i j=>.int (i % j)):=opI fun i j _ _ _ _ _ hc q=>by
  have h1:(0:Int)<j:=hc
  exact mod_int' (by omega) (by rw [Int.fmod_eq_emod_of_nonneg i (by omega)];exact q)
theorem Dv:OpR X (binaryOp .Pow) (rI CPow fun i j=>.int (i ^ j.toNat)):=opI fun _ _ _ _ _ _ _ hc q=>pow_int_small hc.1 hc.2.1 hc.2.2 q
theorem unI {f:Value→Sem Value} {g:Int→Int}
    (rule:∀ (i:Int) (t:Tok) (s:Shared) (Q:Value→Shared→Prop) (E:Value→Shared→Prop),Q (.int (g i) s.toks) { s with toks:=s.toks + 1 }→wpAny (model X.prog X.w) X.A (f (.int i t)) Q E s) :
    UnR X f (rU fun i=>.int (g i)):=by
  intro pins s σ H x v Q I rx h
  obtain ⟨i,rfl,q⟩:=h
  obtain ⟨t,rfl⟩:=rx
  exact rule i t s _ _ ⟨.int (g i),H,I.tok _,⟨_,rfl⟩,q⟩
theorem iR:UnR X (unaryOp .USub) (rU fun i=>.int (-i)):=unI fun _ _ _ _ _ q=>neg_int q
end
def Tg:V→V→Bool
  | .non,.non=>true | .non,.int _=>true | .int _,.non=>true | .non,.bl _=>true | .bl _,.non=>true | .non,.str _=>true | .str _,.non=>true
  | .int _,.int _=>true | .bl _,.bl _=>true | .str _,.str _=>true | .byt _,.byt _=>true
  | .int _,.str _=>true | .str _,.int _=>true | .bl _,.str _=>true | .str _,.bl _=>true
  | _,_=>false
def rEq:R2:=fun x y H Q=>Tg x y=true∧Q (.bl (decide (x=y))) H
def rNe:R2:=fun x y H Q=>Tg x y=true∧Q (.bl (!decide (x=y))) H
theorem Aa {i j:Int}:decide (V.int i=V.int j)=(i == j):=by
  rw [Bool.eq_iff_iff]
  simp
theorem Ik {i j:Bool}:decide (V.bl i=V.bl j)=(i == j):=by
  rw [Bool.eq_iff_iff]
  simp
theorem zZ {i j:Str}:decide (V.str i=V.str j)=(i == j):=by
  rw [Bool.eq_iff_iff]
  simp
theorem Ab {i j:Array UInt8}:decide (V.byt i=V.byt j)=(i.toList == j.toList):=by
  rw [Bool.eq_iff_iff]
  cases i
  cases j
  simp
section
variable {X:Cx} {a b c:Expr} {ta tb tc:TE} {pos:Pos}
theorem cg {pins:List (Addr × Obj)} {σ:St} {H:Hp} {s:Shared} {Q:VK} {k k':Bool} (I:Inv X pins σ H s) (q:Q (.bl k) H) (e:k=k'):EP X pins σ Q (.bool k') s:=by
  subst e
  exact ⟨.bl k,H,I,rfl,q⟩
theorem pA:OpR X (compareOp .Eq) rEq:=by
  intro pins s σ H x y v u Q I rx ry h
  obtain ⟨hs,q⟩:=h
  cases x with
  | non =>
    cases rx
    cases y with
    | non=>cases ry;exact PySem.EqNone.eq_none_none (cg I q (by simp))
    | bl j=>cases ry;exact PySem.EqNone.eq_none_bool (cg I q (by simp))
    | int j=>obtain ⟨t',rfl⟩:=ry;exact PySem.EqNone.eq_none_int (cg I q (by simp))
    | str j=>obtain ⟨t',rfl⟩:=ry;exact PySem.EqNone.eq_none_str (cg I q (by simp))
    | _=>exact absurd (show false=true from hs) Bool.false_ne_true
  | bl i =>
    cases rx
    cases y with
    | non=>cases ry;exact PySem.EqNone.eq_bool_none (cg I q (by simp))
    | bl j=>cases ry;exact eq_bool (cg I q Ik)
    | str j=>obtain ⟨t',rfl⟩:=ry;exact PySem.EqMixed.eq_bool_str (cg I q (by simp))
    | _=>exact absurd (show false=true from hs) Bool.false_ne_true
  | int i =>
    obtain ⟨t,rfl⟩:=rx
    cases y with
    | non=>cases ry;exact PySem.EqNone.eq_int_none (cg I q (by simp))
    | int j=>obtain ⟨t',rfl⟩:=ry;exact eq_int (cg I q Aa)
    | str j=>obtain ⟨t',rfl⟩:=ry;exact PySem.EqMixed.eq_int_str (cg I q (by simp))
    | _=>exact absurd (show false=true from hs) Bool.false_ne_true
  | str i =>
    obtain ⟨t,rfl⟩:=rx
    cases y with
    | non=>cases ry;exact PySem.EqNone.eq_str_none (cg I q (by simp))
    | bl j=>cases ry;exact PySem.EqMixed.eq_str_bool (cg I q (by simp))
    | int j=>obtain ⟨t',rfl⟩:=ry;exact PySem.EqMixed.eq_str_int (cg I q (by simp))
    | str j=>obtain ⟨t',rfl⟩:=ry;exact eq_str (cg I q zZ)
    | _=>exact absurd (show false=true from hs) Bool.false_ne_true
  | byt i =>
    obtain ⟨t,rfl⟩:=rx
    cases y with
    | byt j=>obtain ⟨t',rfl⟩:=ry;exact PySem.W.eq_bytes (cg I q Ab)
    | _=>exact absurd (show false=true from hs) Bool.false_ne_true
  | _=>cases y <;> exact absurd (show false=true from hs) Bool.false_ne_true
theorem pq:OpR X (compareOp .NotEq) rNe:=by
  intro pins s σ H x y v u Q I rx ry h
  obtain ⟨hs,q⟩:=h
  cases x with
  | non =>
    cases rx
    cases y with
    | non=>cases ry;exact PySem.EqNone.ne_none_none (cg I q (by simp))
    | bl j=>cases ry;exact PySem.EqNone.ne_none_bool (cg I q (by simp))
    | int j=>obtain ⟨t',rfl⟩:=ry;exact PySem.EqNone.ne_none_int (cg I q (by simp))
    | str j=>obtain ⟨t',rfl⟩:=ry;exact PySem.EqNone.ne_none_str (cg I q (by simp))
    | _=>exact absurd (show false=true from hs) Bool.false_ne_true
  | bl i =>
    cases rx
    cases y with
    | non=>cases ry;exact PySem.EqNone.ne_bool_none (cg I q (by simp))
    | bl j=>cases ry;exact ne_bool (cg I q (congrArg not Ik))
    | str j=>obtain ⟨t',rfl⟩:=ry;exact PySem.EqMixed.ne_bool_str (cg I q (by simp))
    | _=>exact absurd (show false=true from hs) Bool.false_ne_true
  | int i =>
    obtain ⟨t,rfl⟩:=rx
    cases y with
    | non=>cases ry;exact PySem.EqNone.ne_int_none (cg I q (by simp))
    | int j=>obtain ⟨t',rfl⟩:=ry;exact ne_int (cg I q (congrArg not Aa))
    | str j=>obtain ⟨t',rfl⟩:=ry;exact PySem.EqMixed.ne_int_str (cg I q (by simp))
    | _=>exact absurd (show false=true from hs) Bool.false_ne_true
  | str i =>
    obtain ⟨t,rfl⟩:=rx
    cases y with
    | non=>cases ry;exact PySem.EqNone.ne_str_none (cg I q (by simp))
    | bl j=>cases ry;exact PySem.EqMixed.ne_str_bool (cg I q (by simp))
    | int j=>obtain ⟨t',rfl⟩:=ry;exact PySem.EqMixed.ne_str_int (cg I q (by simp))
    | str j=>obtain ⟨t',rfl⟩:=ry;exact ne_str (cg I q (congrArg not zZ))
    | _=>exact absurd (show false=true from hs) Bool.false_ne_true
  | byt i =>
    obtain ⟨t,rfl⟩:=rx
    cases y with
    | byt j=>obtain ⟨t',rfl⟩:=ry;exact PySem.W.ne_bytes (cg I q (congrArg not Ab))
    | _=>exact absurd (show false=true from hs) Bool.false_ne_true
  | _=>cases y <;> exact absurd (show false=true from hs) Bool.false_ne_true
theorem ux:OpR X (compareOp .Lt) (rI0 fun i j=>.bl (decide (i<j))):=Tt fun _ _ _ _ _ _ _ q=>lt_int q
theorem uy:OpR X (compareOp .Gt) (rI0 fun i j=>.bl (decide (j<i))):=Tt fun _ _ _ _ _ _ _ q=>gt_int q
theorem vI:OpR X (compareOp .Is) (fun x y H Q=>y=.non∧Q (.bl (decide (x=.non))) H):=by
  intro pins s σ H x y v u Q I rx ry h
  obtain ⟨rfl,q⟩:=h
  cases ry
  refine is_none_gen (cg I q ?_)
  cases x <;> first
    | (cases rx;rfl)
    | (obtain ⟨t,rfl⟩:=rx;rfl)
theorem bD (b:Expr) {op:CmpOp} (h:op≠.In:=by decide) (h2:op≠.NotIn:=by decide):behindInMarks op b=false:=by
  have e1:(op == CmpOp.In)=false:=by cases op <;> first | rfl | exact absurd rfl h
  have e2:(op == CmpOp.NotIn)=false:=by cases op <;> first | rfl | exact absurd rfl h2
  cases b <;> simp [behindInMarks,e1,e2]
theorem kJ {op:CmpOp} {r:R2} (ho:OpR X (compareOp op) r) (ha:PE X a ta) (hb:PE X b tb) (hm:behindInMarks op b=false):PE X (.Compare a [op] [b] pos) (tOp r ta tb):=by
  intro pins s σ H Q I h
  exact wpAny_Compare1 (SX ha hb I h fun v u s2 x y H2 I2 rx ry q=>ho pins s2 σ H2 x y v u Q I2 rx ry q) hm
def Qv (t:TE):TT:=fun σ H Q=>t σ H fun x H'=>∃ k,x=.bl k∧Q k H'
theorem aZ {op:CmpOp} {r:R2} (ho:OpR X (compareOp op) r) (ha:PE X a ta) (hb:PE X b tb) (hm:behindInMarks op b=false):PT X (.Compare a [op] [b] pos) (Qv (tOp r ta tb)):=by
  intro pins s σ H Q I h
  refine wpAny_isTrue_Compare1 (thn (ha pins s σ H _ I h) fun v s1 ⟨x,H1,I1,r1,q1⟩=>thn (hb pins s1 σ H1 _ I1 q1) fun u s2 ⟨y,H2,I2,r2,q2⟩ =>
    thn (ho pins s2 σ H2 x y v u _ I2 r1 r2 q2) fun c s3 ⟨z,H3,I3,r3,k,e,q3⟩=>?_) hm
  subst e
  cases r3
  exact wpAny_truthy_bool ⟨H3,I3,q3⟩
def Ua (K:PySem.W.Frag) (x:V) (H:Hp) (k:Bool):Prop :=
  match x with
  | .non=>k=false
  | .bl b=>k=b
  | .int i=>k=(i != 0)
  | .str y=>y.length≤sizeLine∧k=((y.length:Int) != 0)
  | .byt y=>y.size≤sizeLine∧k=((y.size:Int) != 0)
  | .ref p=>(∃ xs,SqL K H p xs∧k=!xs.isEmpty)∨(∃ xs,SqT K H p xs∧k=!xs.isEmpty)∨∃ kvs,H p=some (.dK kvs)∧k=!kvs.isEmpty
  | _=>False
theorem wY {κ:Type} {kvs:List (κ × V)} {vs:List (κ × Value)} (r:KV kvs vs):(!vs.isEmpty)=!kvs.isEmpty:=by
  cases r <;> rfl
theorem pQ {xs:List V} {its:List Value} (r:Vals xs its):(!its.toArray.isEmpty)=!xs.isEmpty:=by
  cases r <;> simp
theorem m6:(sizeLine:Nat)<2 ^ 63:=by rw [sizeLine_eq];decide
theorem J4:TruR X (fun x H Q=>∃ k,Ua X.K x H k∧Q k H):=by
  intro pins s σ H x v Q I rx h
  obtain ⟨k,e,q⟩:=h
  have hl:=m6
  have hs:sizeLine=16777216:=sizeLine_eq
  cases x with
  | non =>
    cases rx
    have e':k=false:=e
    subst e'
    exact truthy_none ⟨H,I,q⟩
  | bl b =>
    cases rx
    have e':k=b:=e
    subst e'
    exact wpAny_truthy_bool ⟨H,I,q⟩
  | int i =>
    obtain ⟨t,rfl⟩:=rx
    have e':k=(i != 0):=e
    subst e'
    exact PySem.P.truthy_int ⟨H,I,q⟩
  | str y =>
    obtain ⟨t,rfl⟩:=rx
    obtain ⟨hy,e'⟩:y.length≤sizeLine∧k=((y.length:Int) != 0):=e
    subst e'
    exact PySem.P.truthy_str (by omega) ⟨H,I.tok _,q⟩
  | byt y =>
    obtain ⟨t,rfl⟩:=rx
    obtain ⟨hy,e'⟩:y.size≤sizeLine∧k=((y.size:Int) != 0):=e
    subst e'
    exact PySem.W.truthy_bytes (by omega) ⟨H,I.tok _,q⟩
  | ref p =>
    cases rx
    have e':(∃ xs,SqL X.K H p xs∧k=!xs.isEmpty)∨(∃ xs,SqT X.K H p xs∧k=!xs.isEmpty)∨∃ kvs,H p=some (.dK kvs)∧k=!kvs.isEmpty:=e
    rcases e' with ⟨xs,hx,e'⟩ | ⟨xs,hx,e'⟩ | ⟨kvs,hx,e'⟩
    · subst e'
      obtain ⟨its,r,pl,hz⟩:=I.list hx
      have hlen:=r.length
      exact wpAny_truthy_list pl.isList (by simp only [List.size_toArray];omega) ⟨H,I.tok _,by rw [pQ r];exact q⟩
    · subst e'
      obtain ⟨its,r,pl,hz⟩:=I.tuple hx
      have hlen:=r.length
      exact truthy_tuple pl (by simp only [List.size_toArray];omega) ⟨H,I.tok _,by rw [pQ r];exact q⟩
    · subst e'
      obtain ⟨hz,hS,vs,r,m⟩:kvs.length≤sizeLine∧(p == sysModules)=false∧∃ vs,KV kvs vs∧s.heap.DictOf (eO X.prog X.w) p vs:=I.hok p _ hx
      have hlen:kvs.length=vs.length:=Paired.length r
      exact wpAny_truthy_dict hS m (by omega) ⟨H,I.tok _,by rw [wY r];exact q⟩
  | _=>exact (show False from e).elim
theorem Bu (ha:PE X a ta) (he:∀ whole,isTrue a X.env whole=(do let v ← whole;standAt a.pos;holding [v] (truthy v))) :
    PT X a (fun σ H Q=>ta σ H fun x H'=>∃ k,Ua X.K x H' k∧Q k H'):=by
  intro pins s σ H Q I h
  exact isTrue_plain (thn (ha pins s σ H _ I h) fun v s1 ⟨x,H1,I1,r1,q1⟩=>J4 pins s1 σ H1 x v Q I1 r1 q1) (he _)
theorem vals1 {x:V} {us:List Value} (r:Vals [x] us):∃ u,us=[u]∧RelV x u:=by
  cases r with
  | cons r1 r2=>cases r2;exact ⟨_,rfl,r1⟩
theorem vals2 {x y:V} {us:List Value} (r:Vals [x,y] us):∃ u w',us=[u,w']∧RelV x u∧RelV y w':=by
  cases r with
  | cons r1 r2 =>
    cases r2 with
    | cons r3 r4=>cases r4;exact ⟨_,_,rfl,r1,r3⟩
theorem Aj (hc:X.calm=true):mG X (.builtin "max") (fun xs H Q=>∃ i j,xs=[.int i,.int j]∧Q (.int (if j > i then j else i)) H):=by
  intro pins s σ H xs us Q I r h
  obtain ⟨i,j,rfl,q⟩:=h
  obtain ⟨u,w',rfl,⟨t,rfl⟩,⟨t',rfl⟩⟩:=vals2 r
  refine max_two_ints (I.ok.hd hc) fun h' tk k=>⟨_,H,I.kept k,?_,q⟩
  by_cases hj:j > i
  · rw [if_pos hj,if_pos hj];exact ⟨_,rfl⟩
  · rw [if_neg hj,if_neg hj];exact ⟨_,rfl⟩
theorem sG (hc:X.calm=true):mG X (.builtin "min") (fun xs H Q=>∃ i j,xs=[.int i,.int j]∧Q (.int (if j<i then j else i)) H):=by
  intro pins s σ H xs us Q I r h
  obtain ⟨i,j,rfl,q⟩:=h
  obtain ⟨u,w',rfl,⟨t,rfl⟩,⟨t',rfl⟩⟩:=vals2 r
  refine min_two_ints (I.ok.hd hc) fun h' tk k=>⟨_,H,I.kept k,?_,q⟩
  by_cases hj:j<i
  · rw [if_pos hj,if_pos hj];exact ⟨_,rfl⟩
  · rw [if_neg hj,if_neg hj];exact ⟨_,rfl⟩
theorem sH:mG X (.type "int") (fun xs H Q=>(∃ i,xs=[.int i]∧Q (.int i) H)∨∃ k,xs=[.bl k]∧Q (.int (if k then 1 else 0)) H):=by
  intro pins s σ H xs us Q I r h
  rcases h with ⟨i,rfl,q⟩ | ⟨k,rfl,q⟩
  · obtain ⟨u,rfl,t,rfl⟩:=vals1 r
    exact call_int_int ⟨.int i,H,I,⟨_,rfl⟩,q⟩
  · obtain ⟨u,rfl,r1⟩:=vals1 r
    cases r1
    exact call_int_bool ⟨.int (if k then 1 else 0),H,I.tok _,⟨_,rfl⟩,q⟩
end
end L2
namespace L2
open PySem PySem.Spec PyProof.Rows
structure S7 (h:Heap) (x dx C:Addr) (mA:Str→Option Value):Prop where
  obj:h.get? x=some (PySem.W.instObj C dx)
  ns:h.Ns1 dx mA
  ne:dx≠x
theorem zy {h:Heap} {dx:Addr} {mA:Str→Option Value} (n:h.Ns1 dx mA):∃ od,h.get? dx=some od∧∀ name,PySem.W.lookIn name od=some (mA name):=by
  obtain ⟨o,es,ep,ho,hd,hk,_,hm⟩:=n
  refine ⟨o,ho,fun name=>?_⟩
  have e:=hm name
  unfold nsFind findBy at e
  rw [← Array.find?_toList] at e
  unfold PySem.W.lookIn
  rw [hd]
  dsimp only
  split
  · rename_i y q
    rw [q] at e
    exact congrArg some e
  · rename_i q
    rw [q] at e
    have a:es.toList.any (·.refKey)=false:=by
      rw [List.any_eq_false]
      intro y hy
      obtain ⟨z,t,hkey⟩:=hk y (Array.mem_toList_iff.mp hy)
      simp [DictEntry.refKey,hkey]
    have a':¬ es.toList.any (·.refKey)=true:=by rw [a];exact Bool.false_ne_true
    rw [if_neg a']
    exact congrArg some e
theorem S7.look {h:Heap} {x dx C:Addr} {mA:Str→Option Value} (I:S7 h x dx C mA):∃ od,PySem.W.InstAt h x (PySem.W.instObj C dx) C (some od)∧∀ name,PySem.W.lookIn name od=some (mA name) :=
  let ⟨od,ho,hl⟩:=zy I.ns
  ⟨od,⟨I.obj,rfl,rfl,ho⟩,hl⟩
section
variable {P:Program} {w:World} {H H':Hp} {h h':Heap} {a C dx:Addr} {fs fs':List (Str × V)}
theorem Jz (hok:HOk P w H h) (e:H a=some (.ins C dx fs)):∃ mA,S7 h a dx C mA∧(∀ f,Qq (fs.lookup f) (mA f))∧PySem.Within mA (fs.map (·.1))∧fs.length≤1000∧H dx=some (.own a):=by
  obtain ⟨d,z,ne,ob,mA,n,r,q⟩:=(show eV P w H h a (.ins C dx fs) from hok a _ e)
  exact ⟨mA,⟨ob,n,ne⟩,r,q,z,d⟩
end
structure Cls (K:PySem.W.Frag) (C:Addr):Prop where
  pg:PySem.W.plainGet K C Str.empty=true
  hd:PySem.W.hasDictIn K C=true
  po:PySem.W.plainOver K C=true
  sa:PySem.W.findIn K (.ref C) "__setattr__"=some (some (.builtin "object.__setattr__"))
theorem Cls.get {K:PySem.W.Frag} {C:Addr} (c:Cls K C) (f:Str):PySem.W.plainGet K C f=true:=c.pg
section
variable {X:Cx} {pins:List (Addr × Obj)} {σ:St} {H:Hp} {s:Shared} {A:Around} {E:Value→Shared→Prop} {Q:Value→Shared→Prop} {c:Value} {b:Bool}
inductive wu (K:PySem.W.Frag) (H:Hp):V→Value→Prop where
  | non:wu K H .non (.type "NoneType")
  | bl (x:Bool):wu K H (.bl x) (.type "bool")
  | int (i:Int):wu K H (.int i) (.type "int")
  | str (x:Str):wu K H (.str x) (.type "str")
  | flt (x:UInt64):wu K H (.flt x) (.type "float")
  | lst {a:Addr} {xs:List V} (e:H a=some (.lst xs)):wu K H (.ref a) (.type "list")
  | frz {a:Addr} {o:Obj} {xs:List V} (e:H a=some (.frz o (.lst xs))):wu K H (.ref a) (.type "list")
  | tup {a:Addr} {xs:List V} (e:H a=some (.tup xs)):wu K H (.ref a) (.type "tuple")
  | dK {a:Addr} {kvs:List (Key × V)} (e:H a=some (.dK kvs)):wu K H (.ref a) (.type "dict")
  | dT {a:Addr} {kvs:List (List Key × V)} (e:H a=some (.dT kvs)):wu K H (.ref a) (.type "dict")
  | ins {a C dx:Addr} {fs:List (Str × V)} (e:H a=some (.ins C dx fs)) (cl:Cls K C) (ha:PySem.W.findIn K (.ref C) "__class__"=some (some (.builtin "object.__class__")))
      (hn:PySem.W.specialIn K (.builtin "object.__class__") "__get__"=some (some (.builtin "getset_descriptor.__get__"))) (htk:PySem.W.takesIn K (.builtin "object.__class__")=some true)
      (hm:PySem.W.mroIn K C (.type "object")=some true):wu K H (.ref a) (.ref C)
theorem zN {x:V} {u t:Value} (I:Inv X pins σ H s) (rx:RelV x u) (ty:wu X.K H x t) (e:PySem.W.kitOne X.K t c=some b) (h:∀ tk,Q (.bool b) { s with toks:=tk }) :
    wpAny (model X.prog X.w) A (call (.builtin "isinstance") [u,c]) Q E s:=by
  cases ty with
  | non=>cases (show u=Value.none from rx);exact PySem.W.kia_one PySem.W.kitx_none I.kIn True.intro e (fun z=>nomatch z) h
  | bl y=>cases (show u=Value.bool y from rx);exact PySem.W.kia_one PySem.W.kitx_bool I.kIn True.intro e (fun z=>nomatch z) h
  | int i=>obtain ⟨t,q⟩:=(show ∃ t,u=Value.int i t from rx);cases q;exact PySem.W.kia_one PySem.W.kitx_int I.kIn True.intro e (fun z=>nomatch z) h
  | str y=>obtain ⟨t,q⟩:=(show ∃ t,u=Value.str y t from rx);cases q;exact PySem.W.kia_one PySem.W.kitx_str I.kIn True.intro e (fun z=>nomatch z) h
  | flt y=>obtain ⟨t,q⟩:=(show ∃ t,u=Value.float y t from rx);cases q;exact PySem.W.kia_one PySem.W.kitx_float I.kIn True.intro e (fun z=>nomatch z) h
  | @lst a xs ea =>
    cases (show u=Value.ref a from rx)
    obtain ⟨_,_,n,_,h1⟩:=(show eV X.prog X.w H s.heap a (.lst xs) from I.hok a _ ea)
    exact PySem.W.kia_one PySem.W.kitx_list I.kIn ⟨_,h1,rfl⟩ e (fun z=>nomatch z) h
  | @frz a ob xs ea =>
    cases (show u=Value.ref a from rx)
    obtain ⟨_,_,_,n,_,h1⟩:=(show eV X.prog X.w H s.heap a (.frz ob (.lst xs)) from I.hok a _ ea)
    exact PySem.W.kia_one PySem.W.kitx_list I.kIn ⟨_,h1,rfl⟩ e (fun z=>nomatch z) h
  | @tup a xs ea =>
    cases (show u=Value.ref a from rx)
    obtain ⟨_,_,_,p⟩:=(show eV X.prog X.w H s.heap a (.tup xs) from I.hok a _ ea)
    obtain ⟨o,h1,h2,_⟩:=p
    exact PySem.W.kia_one PySem.W.kitx_tuple I.kIn ⟨o,h1,h2⟩ e (fun z=>nomatch z) h
  | @dK a kvs ea =>
    cases (show u=Value.ref a from rx)
    obtain ⟨_,_,vs,_,p⟩:=(show eV X.prog X.w H s.heap a (.dK kvs) from I.hok a _ ea)
    obtain ⟨o,es,ep,h1,h2,_⟩:=p
    exact PySem.W.kia_one PySem.W.kitx_dict I.kIn ⟨o,h1,h2.1⟩ e (fun z=>nomatch z) h
  | @dT a kvs ea =>
    cases (show u=Value.ref a from rx)
    obtain ⟨_,_,xs,_,o,es,ep,h1,h2,_⟩:=(show eV X.prog X.w H s.heap a (.dT kvs) from I.hok a _ ea)
    exact PySem.W.kia_one PySem.W.kitx_dict I.kIn ⟨o,h1,h2.1⟩ e (fun z=>nomatch z) h
  | @ins a C dx fs ea cl ha hn htk hm =>
    cases (show u=Value.ref a from rx)
    obtain ⟨mA,O,_⟩:=Jz I.hok ea
    obtain ⟨od,J,_⟩:=O.look
    exact PySem.W.kia_one (PySem.W.kitx_own (cl.get _) cl.hd ha hn htk hm) I.kIn J e (fun z=>nomatch z) h
end
end L2
namespace L2
open PySem PySem.Spec PyProof.Rows
structure pH (k:Nat) (A:Around):Prop where
  hd:A.handled=none
  dp:A.depth + 3 * k + 5<recursionLimit
  un:A.units + 16 * k + 200<cLine
theorem pH.mono {j k:Nat} {A:Around} (r:pH k A) (h:j≤k):pH j A:=⟨r.hd,by have:=r.dp;omega,by have:=r.un;omega⟩
theorem pH.deeper {k:Nat} {A:Around} (r:pH (k + 1) A) (env:Env):pH k (A.deeper env) :=
  ⟨r.hd,by have:=r.dp;show A.depth + 1 + 3 * k + 5<_;omega,by have:=r.un;show A.units + 3 + 16 * k + 200<_;omega⟩
theorem pH.depth {k:Nat} {A:Around} (r:pH k A):A.depth<recursionLimit:=by have:=r.dp;omega
theorem pH.units {k:Nat} {A:Around} (r:pH k A):A.units + 64<cLine:=by have:=r.un;omega
def tNil:TA:=fun _ H Q=>Q [] H
def QD (ta:TE) (tr:TA):TA:=fun σ H Q=>ta σ H fun x H1=>tr σ H1 fun xs H2=>Q (x :: xs) H2
section
variable {X:Cx} {e:Expr} {es:List Expr} {te:TE} {t:TA} {pos:Pos}
theorem aq:PA X [] tNil:=fun _ _ _ _ H Q I h=>Calls.spliced_nil ⟨[],H,I,.nil,h⟩
theorem ak (ha:PE X e te) (hr:PA X es t) (hs:starEach (e :: es) X.env=(false,eval e X.env) :: starEach es X.env:=by rfl):PA X (e :: es) (QD te t):=by
  intro pos pins s σ H Q I h
  rw [hs]
  show wpAny _ _ (spliced ((false,eval e X.env) :: backTo pos (starEach es X.env))) _ _ s
  refine Calls.spliced_cons (thn (ha pins s σ H _ I h) fun u s1 ⟨x,H1,I1,r1,q1⟩=>?_)
  exact thn (hr pos pins s1 σ H1 _ I1 q1) fun us s2 ⟨xs,H2,I2,r2,q2⟩=>⟨x :: xs,H2,I2,.cons r1 r2,q2⟩
def tTup (t:TA):TE:=fun σ H Q=>t σ H fun xs H1=>xs.length≤sizeLine∧∀ p,H1 p=none→Q (.ref p) (upd H1 p (.tup xs))
def tLst (t:TA):TE:=fun σ H Q=>t σ H fun xs H1=>xs.length≤sizeLine∧∀ p,H1 p=none→Q (.ref p) (upd H1 p (.lst xs))
theorem jw {x1} (h:PA X es t):PE X (.Tuple es x1 pos) (tTup t):=by
  intro pins s σ H Q I hq
  refine wpAny_Tuple_spliced (thn (h pos pins s σ H _ I hq) fun us s1 ⟨xs,H1,I1,r,z,q⟩=>⟨by rw [← r.length];exact z,?_⟩)
  have hf:H1 s1.heap.objs.size=none:=I1.hok.fresh (Nat.le_refl _)
  refine ⟨.ref s1.heap.objs.size,upd H1 s1.heap.objs.size (.tup xs),I1.laid (t':=s1.toks) (fun b u e=>Heap.get?_push_of_some _ e) (Nat.le_refl _) ?_,rfl,q _ hf⟩
  exact ⟨z,us,r,⟨_,Heap.get?_push_size _ rfl,rfl,_,rfl⟩⟩
theorem gP (h:PA X es t):PE X (.List es pos) (tLst t):=by
  intro pins s σ H Q I hq
  refine wpAny_List_spliced (thn (h pos pins s σ H _ I hq) fun us s1 ⟨xs,H1,I1,r,z,q⟩=>⟨by rw [← r.length];exact z,?_⟩)
  have hf:H1 s1.heap.objs.size=none:=I1.hok.fresh (Nat.le_refl _)
  refine ⟨.ref s1.heap.objs.size,upd H1 s1.heap.objs.size (.lst xs),I1.laid (t':=s1.toks) (fun b u e=>Heap.get?_push_of_some _ e) (Nat.le_refl _) ?_,rfl,q _ hf⟩
  exact ⟨z,us,0,r,Heap.get?_push_size _ rfl⟩
end
abbrev Sp:=List V→Hp→VK→XK→Prop
abbrev CXT:=List Env→Hp→Shared→XK→Value→Shared→Prop
structure Qs (P:Program) (w:World) (K:PySem.W.Frag) (mg:Str→Option Value) (base:Heap) (A:Around) (outer:List Env) (s:Shared) (H:Hp):Prop where
  frames:A.frames=some outer
  mod:Mod K mg base
  bs:∀ b o,base.get? b=some o→s.heap.get? b=some o∧H b=none
  bsz:base.objs.size≤s.heap.objs.size
  zT:s.heap.FunFrames base outer
  frf:∀ b∈frs outer,H b=none
  hok:HOk P w H s.heap
  bare:AllBare s.gens
def CE (outer:List Env) (P:Program) (w:World) (H:Hp) (s:Shared) (Q:VK) (u:Value) (s':Shared):Prop :=
  ∃ v H',s'.os=s.os∧AllBare s'.gens∧Un (frs outer) [] H H' s.heap s'.heap∧HOk P w H' s'.heap∧RelV v u∧Q v H'
def CR (CX:CXT) (outer:List Env) (P:Program) (w:World) (H:Hp) (s:Shared) (Q:VK) (E:XK) (r:Result) (s':Shared):Prop :=
  match r with
  | .ok (.ret u)=>CE outer P w H s Q u s'
  | .ok _=>False
  | .error e=>CX outer H s E e s'
structure cI (P:Program) (w:World) (K:PySem.W.Frag) (mg:Str→Option Value) (base:Heap) (CX:CXT) (k:Nat) (f:Addr) (fd:FuncData) (ps:List Str) (sp:Sp):Prop where
  len:∀ vs H Q E,sp vs H Q E→vs.length=ps.length
  run:∀ (A:Around) (outer:List Env) (s:Shared) (H:Hp) (args:Args) (us:List Value) (vs:List V) (Q:VK) (E:XK),pH k A→Qs P w K mg base A outer s H→BindsTo s fd args (ps.zip us)→Vals vs us→sp vs H Q E →
    codeAny (model P w) A (.call (.ref f) args) (CR CX outer P w H s Q E) s
section
variable {X:Cx} {pins:List (Addr × Obj)} {σ:St} {H:Hp} {s s':Shared}
theorem Inv.env0 (I:Inv X pins σ H s):Qs X.prog X.w X.K X.mg X.base X.A X.stack s H :=
  ⟨I.ok.frames,I.ok.mod,I.bs,Nat.le_trans I.ok.bsz I.sz,I.stack,I.qj,I.hok,I.bare⟩
theorem Inv.after {Q:VK} {u:Value} (I:Inv X pins σ H s) (h:CE X.stack X.prog X.w H s Q u s'):EP X pins σ Q u s':=by
  obtain ⟨v,H',os,bare,un,hok,r,q⟩:=h
  obtain ⟨hh,g,d,t,os'⟩:=s'
  obtain rfl:os'=s.os:=os
  exact ⟨v,H',I.call (h':=hh) (g':=g) (d':=d) (t':=t) (ch:=[]) un hok bare (fun b z=>absurd z (by simp)),r,q⟩
end
def QF (sp:Sp) (dvs:List V) (E:XK) (t:TA):TE:=fun σ H Q=>t σ H fun vs H1=>sp (vs++dvs) H1 Q E
def Binds (K:PySem.W.Frag) (fd:FuncData) (ps:List Str) (ds:List Value):Prop :=
  ∀ (s:Shared) (us:List Value),K.In s.heap→(us++ds).length=ps.length→BindsTo s fd ⟨us,[]⟩ (ps.zip (us++ds))
theorem Binds.all {K:PySem.W.Frag} {fd:FuncData} {ps:List Str} (h:∀ us:List Value,us.length=ps.length→bindArgs fd ⟨us,[]⟩=pure (ps.zip us)):Binds K fd ps []:=fun s us _ hl=>by
  rw [List.append_nil] at hl ⊢
  exact .of_eq (h us hl)
def Passes (CX:CXT) (X:Cx) (E:XK):Prop:=∀ (pins:List (Addr × Obj)) (σ:St) (H:Hp) (s:Shared) (e:Value) (s':Shared),Inv X pins σ H s→CX X.stack H s E e s'→X.xe e s'
section
variable {X:Cx} {CX:CXT} {k:Nat} {f C:Addr} {fd:FuncData} {ps:List Str} {sp:Sp} {dvs:List V} {ds:List Value} {E:XK} {x m:Str} {p pos apos:Pos} {e o:Expr} {es:List Expr} {ta:TE} {t:TA}
theorem Ke {pins:List (Addr × Obj)} {σ:St} {H:Hp} {s:Shared} {Q:VK} {us:List Value} {vs:List V} (F:cI X.prog X.w X.K X.mg X.base CX k f fd ps sp) (hr:pH k X.A) (hb:Binds X.K fd ps ds) (hd:Vals dvs ds) (hx:Passes CX X E)
    (I:Inv X pins σ H s) (r:Vals vs us) (h:sp (vs++dvs) H Q E):wpAny (model X.prog X.w) X.A (call (.ref f) us) (EP X pins σ Q) X.xe s:=by
  have r2:Vals (vs++dvs) (us++ds):=r.append hd
  have hl:(us++ds).length=ps.length:=by rw [← r2.length];exact F.len _ _ _ _ h
  refine wpAny_call (codeAny_mono (F.run X.A X.stack s H ⟨us,[]⟩ (us++ds) (vs++dvs) Q E hr I.env0 (hb s us I.kIn hl) r2 h) fun r s' hq=>?_)
  cases r with
  | error e=>exact hx pins σ H s e s' I hq
  | ok fl =>
    cases fl with
    | ret u=>exact I.after hq
    | next=>exact False.elim hq
    | brk=>exact False.elim hq
    | cont=>exact False.elim hq
theorem aK (F:cI X.prog X.w X.K X.mg X.base CX k f fd ps sp) (hr:pH k X.A) (hg:Gl X x) (hm:X.mg x=some (.ref f)) (hk:PySem.W.keepIn X.K (.ref f)=true) (hb:Binds X.K fd ps ds) (hd:Vals dvs ds) (hx:Passes CX X E)
    (ha:PA X (e :: es) t) (hdb:(x == ("__debug__":Str))=false:=by decide) (he:starEach (e :: es) X.env=(false,eval e X.env) :: starEach es X.env:=by rfl) (hpl:(backTo pos (starEach es X.env)).any (·.1)=false:=by rfl) :
    PE X (.Call (.Name x p) (e :: es) [] pos) (QF sp dvs E t):=by
  intro pins s σ H Q I h
  refine wpAny_Call_Name_kw (zG I hg hm ?_ hdb)
  refine PySem.W.callWith_K (h₀:=X.base) I.ok.mod.kin hk (thn (ha pos pins s σ H _ I h) fun us s1 ⟨vs,H1,I1,r,q⟩=>⟨I1.kIn,?_⟩) he hpl
  exact Ke F hr hb hd hx I1 r q
end
structure aX (N P:List Str) (sc:Scope):Prop where
  kind:sc.kind=.function
  co:sc.isCoroutine=false
  gen:sc.isGenerator=false
  nd:N.Nodup
  pre:N.take P.length=P
  par:∀ x∈P,sc.names.lookup x=some .local∨sc.names.lookup x=some .cell
  nofree:∀ y∈sc.names,y.2≠.free
theorem sJ {kindOf:Str→Option NameKind} {x:Str}:∀ {binds:List (Str × Value)} {m:Str→Option Value},(∀ v,(x,v) ∉ binds)→bindL kindOf binds m x=m x
  | [],_,_=>rfl
  | (n,v) :: r,m,h=>by
    unfold bindL
    rw [sJ fun w hw=>h w (List.mem_cons_of_mem _ hw)]
    split
    · have:x≠n:=by rintro rfl;exact h v List.mem_cons_self
      simp [this]
    · rfl
theorem sU {kindOf:Str→Option NameKind} {x:Str}:∀ {binds:List (Str × Value)} {m:Str→Option Value},(∀ v,(x,v) ∉ binds)→bindC kindOf binds m x=m x
  | [],_,_=>rfl
  | (n,v) :: r,m,h=>by
    unfold bindC
    rw [sU fun w hw=>h w (List.mem_cons_of_mem _ hw)]
    split
    · rfl
    · have:x≠n:=by rintro rfl;exact h v List.mem_cons_self
      simp [this]
theorem sO {kindOf:Str→Option NameKind} {x:Str} {v:Value}:∀ {P:List Str} {vs:List Value} {i:Nat} {m:Str→Option Value},P.Nodup→P[i]?=some x→vs[i]?=some v→kindOf x=some .local →
    bindL kindOf (P.zip vs) m x=some v
  | [],_,_,_,_,h,_,_=>by simp at h
  | _ :: _,[],_,_,_,_,h,_=>by simp at h
  | p :: P,w :: vs,0,m,nd,h1,h2,hk=>by
    simp at h1 h2;subst h1;subst h2
    show bindL kindOf ((p,w) :: P.zip vs) m p=_
    unfold bindL
    rw [sJ fun v hv=>(List.nodup_cons.mp nd).1 (List.of_mem_zip hv).1,if_pos hk]
    simp
  | p :: P,w :: vs,i + 1,m,nd,h1,h2,hk=>by
    show bindL kindOf ((p,w) :: P.zip vs) m x=_
    unfold bindL
    exact sO (i:=i) (List.nodup_cons.mp nd).2 (by simpa using h1) (by simpa using h2) hk
theorem sV {kindOf:Str→Option NameKind} {x:Str} {v:Value}:∀ {P:List Str} {vs:List Value} {i:Nat} {m:Str→Option Value},P.Nodup→P[i]?=some x→vs[i]?=some v→kindOf x≠some .local →
    bindC kindOf (P.zip vs) m x=some v
  | [],_,_,_,_,h,_,_=>by simp at h
  | _ :: _,[],_,_,_,_,h,_=>by simp at h
  | p :: P,w :: vs,0,m,nd,h1,h2,hk=>by
    simp at h1 h2;subst h1;subst h2
    show bindC kindOf ((p,w) :: P.zip vs) m p=_
    unfold bindC
    rw [sU fun v hv=>(List.nodup_cons.mp nd).1 (List.of_mem_zip hv).1,if_neg hk]
    simp
  | p :: P,w :: vs,i + 1,m,nd,h1,h2,hk=>by
    show bindC kindOf ((p,w) :: P.zip vs) m x=_
    unfold bindC
    exact sV (i:=i) (List.nodup_cons.mp nd).2 (by simpa using h1) (by simpa using h2) hk
def start (N:List Str) (vs:List V):St:=vs.map some++List.replicate (N.length - vs.length) none
def JK (CX:CXT) (P:Program) (w:World) (K:PySem.W.Frag) (mg:Str→Option Value) (base:Heap) (N:List Str) (qual:Str) (scope:Scope) (f:Addr) (cd:Value) (A:Around) (outer:List Env) (s:Shared) (H:Hp) (E:XK):Cx where
  prog:=P
  w:=w
  K:=K
  mg:=mg
  base:=base
  A:=A.deeper (envOfC qual scope s.heap.objs.size f cd)
  N:=N
  s₀:=s
  H₀:=H
  env:=envOfC qual scope s.heap.objs.size f cd
  outer:=outer
  stack:=envOfC qual scope s.heap.objs.size f cd :: outer
  ex:=[]
  calm:=true
  fn:=fun _=>true
  pn:=[]
  xe:=fun e s'=>wpAny (model P w) (A.deeper (envOfC qual scope s.heap.objs.size f cd)) (leaving (envOfC qual scope s.heap.objs.size f cd) e) (fun _ s''=>CX outer H s E e s'') (fun e' s''=>CX outer H s E e' s'') s'
theorem vZ {sc:Scope} {n:Nat} {x:Str} (h:sc.names.lookup x=some .cell):∃ c,(cellsFrom n sc.names []).lookup x=some c:=by
  have q:=PySem.W.cellsFrom_some sc.names n [] (.inl h)
  exact Option.isSome_iff_exists.mp q
theorem zO {CX:CXT} {P:Program} {w:World} {K:PySem.W.Frag} {mg:Str→Option Value} {base:Heap} {N ps:List Str} {qual:Str} {scope:Scope} {f:Addr} {cd:Value} {A:Around} {outer:List Env} {s s1:Shared} {H:Hp} {E:XK} {us:List Value} {vs:List V}
    (S:aX N ps scope) (hd:A.handled=none) (e0:Qs P w K mg base A outer s H) (hl:vs.length=ps.length) (r:Vals vs us)
    (x:InCallC s s.heap.objs.size (bindL (envOfC qual scope s.heap.objs.size f cd).kindOf (ps.zip us) fun _=>none) (cellsFrom (s.heap.objs.size + 1) scope.names []) (bindC (envOfC qual scope s.heap.objs.size f cd).kindOf (ps.zip us) fun _=>none) s1) :
    Inv (JK CX P w K mg base N qual scope f cd A outer s H E) [] (start N vs) H s1:=by
  have hpl:ps.length≤N.length:=by have:=congrArg List.length S.pre;rw [List.length_take] at this;omega
  obtain ⟨h1,tk,rfl,hk⟩:=x.done
  have noA:∀ b:Addr,b ∉ (JK CX P w K mg base N qual scope f cd A outer s H E).ex:=fun b z=>absurd (show b∈([]:List Addr) from z) (by simp)
  refine ⟨⟨e0.mod,S.kind,rfl,rfl,Nat.le_refl _,fun y z c h1 h2=>?_,fun y hy=>?_,fun y c _ h=>?_,fun _=>hd,Around.frames_deeper e0.frames,.inr ⟨rfl,rfl⟩,fun b z=>absurd z (noA b),e0.bs,e0.bsz,fun b _ _=>noA b,fun b z=>absurd z (noA b),e0.zT,e0.frf⟩,
    rfl,e0.bare,Un.kept hk,⟨_,x.toInCall.ns,fun i y v h1 h2 h3=>?_⟩,fun y c h=>⟨_,x.cell y c h⟩,e0.hok.fresh (Nat.le_refl _),fun y c h=>?_,fun p hp=>absurd (show p∈([]:List (Addr × Obj)) from hp) (by simp),e0.hok.kept hk,?_⟩
  · exact name_of_addr x.apart (PySem.mem_of_lookup h1) (PySem.mem_of_lookup h2)
  · have hy:scope.names.lookup y=some .cell∨scope.names.lookup y=some .free:=hy
    rcases hy with hy | hy
    · exact vZ hy
    · exact absurd rfl (S.nofree _ (PySem.mem_of_lookup hy))
  · exact Nat.le_of_lt (x.above y c (PySem.mem_of_lookup h))
  · have hi:i<vs.length:=by
      unfold start at h2
      by_cases hi:i<vs.length
      · exact hi
      · rw [List.getElem?_append_right (by simpa using hi)] at h2
        rw [List.getElem?_replicate] at h2
        split at h2 <;> cases h2
    have ha:vs[i]?=some v:=by
      unfold start at h2
      rw [List.getElem?_append_left (by simpa using hi),List.getElem?_map] at h2
      cases e:vs[i]? with
      | none=>rw [e] at h2;cases h2
      | some a=>rw [e] at h2;cases h2;rfl
    obtain ⟨u,hu,rv⟩:=r.get ha
    have hp:ps[i]?=some y:=by
      rw [← S.pre,List.getElem?_take_of_lt (by omega)];exact h1
    have ndP:ps.Nodup:=by rw [← S.pre];exact S.nd.sublist (List.take_sublist _ _)
    refine ⟨u,rv,?_⟩
    rcases S.par y (List.mem_of_getElem? hp) with k | k
    · exact .inl ⟨k,sO ndP hp hu k⟩
    · obtain ⟨c,e⟩:=vZ (n:=s.heap.objs.size + 1) k
      refine .inr ⟨.inl k,c,e,?_⟩
      have q:=x.cell y c e
      rw [sV ndP hp hu (by show scope.names.lookup y≠_;rw [k];decide)] at q
      exact q
  · exact e0.hok.fresh (Nat.le_of_lt (x.above y c (PySem.mem_of_lookup h)))
  · unfold start
    show _=N.length
    rw [List.length_append,List.length_map,List.length_replicate]
    omega
theorem Qa {CX:CXT} {P:Program} {w:World} {K:PySem.W.Frag} {mg:Str→Option Value} {base:Heap} {k:Nat} {f:Addr} {name qual:Str} {params:Arguments} {body:List Stmt} {scope:Scope} {dV kV doc pm cdv ct oc:Value} {an od:Option Addr}
    {osl:Array (Option Value)} {N ps:List Str} {sp:Sp} (lk:K.lookup f=some ⟨oc,od,.func (PySem.W.fnOf name qual params body scope dV kV doc pm an cdv ct),osl⟩) (hcd:PySem.W.codeIn K cdv qual=true) (S:aX N ps scope)
    (len:∀ vs H Q E,sp vs H Q E→vs.length=ps.length)
    (hbody:∀ (A:Around) (outer:List Env) (s:Shared) (H:Hp) (vs:List V) (Q:VK) (E:XK),pH k (A.deeper (envOfC qual scope s.heap.objs.size f cdv))→sp vs H Q E →
      ∃ t,PSs (JK CX P w K mg base N qual scope f cdv A outer s H E) body t∧t { nx:=fun _ H'=>Q .non H',rt:=Q } (start N vs) H) :
    cI P w K mg base CX (k + 1) f (PySem.W.fnOf name qual params body scope dV kV doc pm an cdv ct) ps sp:=by
  refine ⟨len,fun A outer s H args us vs Q E hr e0 hb r hsp=>?_⟩
  have hl:=len _ _ _ _ hsp
  have KX:K.In s.heap:=e0.mod.kin.keeps fun b o e=>(e0.bs b o e).1
  have lim:s.heap.NoLimit:=e0.mod.nolimit.keeps fun b o e=>(e0.bs b o e).1
  have hkind:∀ y∈ps.zip us,scope.names.lookup y.1=some .local∨(scope.names.lookup y.1=some .cell∧((cellsFrom (s.heap.objs.size + 1) scope.names []).lookup y.1).isSome=true):=fun ⟨n,v⟩ hy=>by
    rcases S.par n (List.of_mem_zip hy).1 with q | q
    · exact .inl q
    · exact .inr ⟨q,PySem.W.cellsFrom_some _ _ _ (.inl q)⟩
  refine codeAny_call_function hr.depth (KX _ _ lk) rfl S.co S.gen rfl (PySem.W.codeRec_of KX hcd) (hb _ _ _ _ ?_)
  refine wpAny_newFunctionEnv_cells S.kind hkind fun env he s1 x=>?_
  subst he
  refine ⟨lim.keeps x.toInCall.keep,codeAny_func ?_⟩
  obtain ⟨t,ht,hq⟩:=hbody A outer s H vs Q E (hr.deeper _) hsp
  have I:Inv (JK CX P w K mg base N qual scope f cdv A outer s H E) [] (start N vs) H s1:=zO S hr.hd e0 hl r x
  refine wpAny_mono (ht [] s1 (start N vs) H _ I hq) (fun fl s' hs=>?_) fun e s' hs=>hs
  have fin:∀ {σ':St} {H':Hp} {v:V} {u:Value},Inv (JK CX P w K mg base N qual scope f cdv A outer s H E) [] σ' H' s'→RelV v u→Q v H'→CE outer P w H s Q u s' :=
    fun {σ' H' v u} J rv q=>⟨v,H',J.os,J.bare,J.base,J.hok,rv,q⟩
  cases fl with
  | ret u =>
    obtain ⟨v,σ',H',J,rv,q⟩:=hs
    exact fin J rv q
  | next =>
    obtain ⟨σ',H',J,q⟩:=hs
    exact fin (v:=V.non) (u:=Value.none) J rfl q
  | brk =>
    obtain ⟨_,_,_,q⟩:=hs
    exact False.elim q
  | cont =>
    obtain ⟨_,_,_,q⟩:=hs
    exact False.elim q
end L2
namespace L2
open PySem PySem.Spec PyProof.Rows
section
variable {X:Cx} {x:Str} {p pos:Pos} {e:Expr} {es:List Expr} {t:TA} {id T:String} {r:List V→Hp→VK→Prop}
def tCB (r:List V→Hp→VK→Prop) (t:TA):TE:=fun σ H Q=>t σ H fun vs H1=>r vs H1 Q
theorem aJ (hc:mG X (.builtin id) r) (hg:Gl X x) (hm:X.mg x=none) (hv:bootBuiltins x=some (.builtin id)) (ha:PA X (e :: es) t) (hn:x≠"__name__":=by decide) (hdb:(x == ("__debug__":Str))=false:=by decide)
    (he:starEach (e :: es) X.env=(false,eval e X.env) :: starEach es X.env:=by rfl) (hpl:(backTo pos (starEach es X.env)).any (·.1)=false:=by rfl):PE X (.Call (.Name x p) (e :: es) [] pos) (tCB r t):=by
  intro pins s σ H Q I h
  refine wpAny_Call_Name_kw (jj I hg hm hv ?_ hn hdb)
  exact PyProof.Rows.callWith_builtin1 (thn (ha pos pins s σ H _ I h) fun us s1 ⟨vs,H1,I1,r1,q1⟩=>hc pins s1 σ H1 vs us Q I1 r1 q1) he hpl
theorem cP (hc:mG X (.type T) r) (hg:Gl X x) (hm:X.mg x=none) (hv:bootBuiltins x=some (.type T)) (ha:PA X (e :: es) t) (hn:x≠"__name__":=by decide) (hdb:(x == ("__debug__":Str))=false:=by decide)
    (he:starEach (e :: es) X.env=(false,eval e X.env) :: starEach es X.env:=by rfl) (hpl:(backTo pos (starEach es X.env)).any (·.1)=false:=by rfl):PE X (.Call (.Name x p) (e :: es) [] pos) (tCB r t):=by
  intro pins s σ H Q I h
  refine wpAny_Call_Name_kw (jj I hg hm hv ?_ hn hdb)
  exact PyProof.Rows.callWith_type1 (thn (ha pos pins s σ H _ I h) fun us s1 ⟨vs,H1,I1,r1,q1⟩=>hc pins s1 σ H1 vs us Q I1 r1 q1) he hpl
end
end L2
namespace HT
open PySem PyProof.Rows
def lexLt:List Int→List Int→Bool
  | [],[]=>false
  | [],_ :: _=>true
  | _ :: _,[]=>false
  | x :: xs,y :: ys=>if x=y then lexLt xs ys else decide (x<y)
theorem iJ (x y:Int) (xs ys:List Int):lexLt (x :: xs) (y :: ys)=if x=y then lexLt xs ys else decide (x<y):=rfl
theorem jG:lexLt [] []=false:=rfl
theorem pB (y:Int) (ys:List Int):lexLt [] (y :: ys)=true:=rfl
theorem pC (x:Int) (xs:List Int):lexLt (x :: xs) []=false:=rfl
theorem Cy (A:Around) (s:Shared) (a:Int) (t:Tok) (c:Int) (u:Tok):∃ e,SeqAt.EqAt A s (.int a t) (.int c u) e∧(e=true↔a=c) :=
  ⟨(a == c),SeqAt.EqAt.int_int a t c u,by simp⟩
section
open PySem.SeqAt
open PySem.AutoSeq1 (wpAny_loadPart')
open PySem.MeetsSeq PySem.MeetsSeq2 PySem.MeetsSeq3
end
section
variable {prog:Program} {w:World} {A:Around} {E:Value→Shared→Prop} {s:Shared}
def sIx (n d:Nat):Option Int→Nat
  | none=>d
  | some v=>if v<0 then (v + (n:Int)).toNat else min v.toNat n
theorem Bp (n d:Nat):sIx n d none=d:=rfl
theorem mq (n d k:Nat):sIx n d (some (k:Int))=min k n:=by
  show (if (k:Int)<0 then ((k:Int) + (n:Int)).toNat else min (k:Int).toNat n)=min k n
  rw [if_neg (by omega),Int.toNat_natCast]
end
end HT
namespace L2
open PySem PySem.Spec PyProof.Rows
abbrev TO:=St→Hp→(Option Int→Hp→Prop)→Prop
def PO (X:Cx) (e:Option Expr) (t:TO):Prop :=
  ∀ (pins:List (Addr × Obj)) (s:Shared) (σ:St) (H:Hp) (Q:Option Int→Hp→Prop),Inv X pins σ H s→t σ H Q →
    wpAny (model X.prog X.w) X.A (evalPart e X.env) (fun u s'=>∃ o H',Inv X pins σ H' s'∧IsPart u o∧Q o H') X.xe s
def IW:TO:=fun _ H Q=>Q none H
def Qw (t:TE):TO:=fun σ H Q=>t σ H fun x H1=>∃ i,x=.int i∧Q (some i) H1
theorem intsAre_of {ns:List Int}:∀ {us:List Value},Vals (ns.map V.int) us→IntsAre us ns:=by
  induction ns with
  | nil=>intro us r;rw [List.map_nil] at r;cases r;exact .nil
  | cons n ns ih =>
    intro us r
    rw [List.map_cons] at r
    cases r with
    | cons r1 r2 =>
      obtain ⟨t,e⟩:=r1
      subst e
      exact .cons n t (ih r2)
section
variable {X:Cx} {e:Expr} {te:TE} {lo hi:Option Expr} {tl th:TO} {pos p2:Pos}
theorem nZ:PO X none IW:=by
  intro pins s σ H Q I h
  rw [evalPart_none]
  exact wpAny_pure ⟨none,H,I,.none,h⟩
theorem iY (h:PE X e te):PO X (some e) (Qw te):=by
  intro pins s σ H Q I hw
  rw [evalPart_some]
  refine thn (h pins s σ H _ I hw) fun u s1 ⟨x,H1,I1,r1,q1⟩=>?_
  obtain ⟨i,rfl,q⟩:=q1
  obtain ⟨t,rfl⟩:=r1
  exact ⟨some i,H1,I1,.int i t,q⟩
def SlR (X:Cx) (r:V→Option Int→Option Int→Hp→VK→Prop):Prop :=
  ∀ (pins:List (Addr × Obj)) (s:Shared) (σ:St) (H:Hp) (x:V) (v vl vu:Value) (lo hi:Option Int) (sl:Addr) (Q:VK),Inv X pins σ H s→RelV x v→s.heap.IsSliceOf sl vl vu .none→IsPart vl lo→IsPart vu hi→r x lo hi H Q →
    ∃ T id,typeLookup (.type T) "__getitem__"=pure (some (.builtin id))∧s.TypeIs v T∧wpAny (model X.prog X.w) X.A (getItem v (.ref sl)) (EP X pins σ Q) X.xe s
def tSl (r:V→Option Int→Option Int→Hp→VK→Prop) (te:TE) (tl th:TO):TE:=fun σ H Q=>te σ H fun x H1=>tl σ H1 fun l H2=>th σ H2 fun u H3=>r x l u H3 Q
theorem jh {r:V→Option Int→Option Int→Hp→VK→Prop} (hr:SlR X r) (he:PE X e te) (hl:PO X lo tl) (hu:PO X hi th):PE X (.Subscript e (.Slice lo hi none p2) pos) (tSl r te tl th):=by
  intro pins s σ H Q I h
  refine Subscript_ (thn (he pins s σ H _ I h) fun v s1 ⟨x,H1,I1,r1,q1⟩=>?_)
  refine wpAny_Slice (thn (hl pins s1 σ H1 _ I1 q1) fun vl s2 ⟨l,H2,I2,pl,q2⟩=>thn (hu pins s2 σ H2 _ I2 q2) fun vu s3 ⟨u,H3,I3,pu,q3⟩=>?_)
  rw [evalPart_none]
  refine wpAny_pure ?_
  have I4:Inv X pins σ H3 { s3 with heap:=s3.heap.push { cls:=.type "slice",data:=.fields #[vl,vu,.none] } }:=I3.kept (t':=s3.toks) fun b ob q=>Heap.get?_push_of_some _ q
  obtain ⟨T,id,hT,ht,hg⟩:=hr pins { s3 with heap:=s3.heap.push { cls:=.type "slice",data:=.fields #[vl,vu,.none] } } σ H3 x v vl vu l u s3.heap.objs.size Q I4 r1 (Heap.IsSliceOf.new ..) pl pu q3
  show wpAny (model X.prog X.w) X.A (subscriptTail e (.Slice lo hi none p2) v (.ref s3.heap.objs.size)) (EP X pins σ Q) X.xe { s3 with heap:=s3.heap.push { cls:=.type "slice",data:=.fields #[vl,vu,.none] } }
  exact tail_any (ops:=[.ref s3.heap.objs.size,v]) ht hT hg (by with_unfolding_all rfl)
def pF (xs:List V) (lo hi:Option Int):List V:=(xs.drop (HT.sIx xs.length 0 lo)).take (HT.sIx xs.length xs.length hi - HT.sIx xs.length 0 lo)
theorem uI (xs:List V) (lo hi:Option Int):(pF xs lo hi).length≤xs.length:=by
  unfold pF
  rw [List.length_take,List.length_drop]
  omega
end
end L2
namespace L2
open PySem PySem.Spec PyProof.Rows
def ixN (n:Nat) (i:Int):Option Nat:=if 0≤i then (if i<n then some i.toNat else none) else if -(n:Int)≤i then some (i + n).toNat else none
def atI {α:Type} (xs:List α) (i:Int):Option α:=(ixN xs.length i).bind fun j=>xs[j]?
theorem zM {n:Nat} {i:Int} {j:Nat} (h:ixN n i=some j):seqIndex? i n=some j∧j<n∧-(n:Int)≤i∧i<n:=by
  unfold ixN at h
  by_cases h0:0≤i
  · rw [if_pos h0] at h
    by_cases h1:i<n
    · rw [if_pos h1] at h
      have e:i.toNat=j:=Option.some.inj h
      exact ⟨by rw [seqIndex_of h0 h1,e],by omega,by omega,h1⟩
    · rw [if_neg h1] at h;cases h
  · rw [if_neg h0] at h
    by_cases h1:-(n:Int)≤i
    · rw [if_pos h1] at h
      have e:(i + n).toNat=j:=Option.some.inj h
      exact ⟨by rw [seqIndex_neg (by omega) h1,e],by omega,h1,by omega⟩
    · rw [if_neg h1] at h;cases h
theorem Aq {α:Type} {xs:List α} {i:Int} {v:α} (h:atI xs i=some v):∃ j,seqIndex? i xs.length=some j∧xs[j]?=some v∧j<xs.length∧-(xs.length:Int)≤i∧i<xs.length:=by
  unfold atI at h
  cases e:ixN xs.length i with
  | none=>rw [e] at h;cases h
  | some j =>
    rw [e] at h
    obtain ⟨h1,h2,h3,h4⟩:=zM e
    exact ⟨j,h1,h,h2,h3,h4⟩
theorem bW {α:Type} {xs:List α} {j:Nat} {v:α} (h:xs[j]?=some v):atI xs (j:Int)=some v:=by
  have hj:j<xs.length:=(List.getElem?_eq_some_iff.mp h).1
  have e:ixN xs.length (j:Int)=some j:=by
    unfold ixN
    rw [if_pos (by omega),if_pos (by omega)];simp
  unfold atI;rw [e];exact h
theorem Dc {α:Type} (xs:List α) (v:α):atI (xs++[v]) (-1)=some v:=by
  have hl:(xs++[v]).length=xs.length + 1:=by simp
  have e:ixN (xs++[v]).length (-1)=some xs.length:=by
    unfold ixN
    rw [hl,if_neg (by decide),if_pos (by omega)]
    congr 1
    omega
  unfold atI
  rw [e]
  show (xs++[v])[xs.length]?=some v
  simp
def JQ (b:Expr):Prop:=∀ o i,subscripted b false o i=operate [o,i] (getItem o i)
def IxR (X:Cx) (r:R2):Prop :=
  ∀ (value slice:Expr) (pins:List (Addr × Obj)) (s:Shared) (σ:St) (H:Hp) (x y:V) (v u:Value) (Q:VK),Inv X pins σ H s→RelV x v→RelV y u→r x y H Q →
    subscripted slice false v u=operate [v,u] (getItem v u)→wpAny (model X.prog X.w) X.A (subscriptTail value slice v u) (EP X pins σ Q) X.xe s
def MtR (X:Cx) (id:String) (r:V→List V→Hp→VK→Prop):Prop :=
  ∀ (pins:List (Addr × Obj)) (s:Shared) (σ:St) (H:Hp) (x:V) (xs:List V) (v:Value) (us:List Value) (Q:VK),Inv X pins σ H s→RelV x v→Vals xs us→r x xs H Q →
    wpAny (model X.prog X.w) X.A (call (.builtin id) (v :: us)) (EP X pins σ Q) X.xe s
section
variable {X:Cx} {a b:Expr} {ta tb:TE} {pos:Pos}
theorem aQ {r:R2} (hr:IxR X r) (ha:PE X a ta) (hb:PE X b tb) (hs:JQ b):PE X (.Subscript a b pos) (tOp r ta tb):=by
  intro pins s σ H Q I h
  exact Subscript_ (SX ha hb I h fun v u s2 x y H2 I2 rx ry q=>hr a b pins s2 σ H2 x y v u Q I2 rx ry q (hs _ _))
def Tj (K:PySem.W.Frag):R2:=fun x y H Q=>∃ p xs i v,x=.ref p∧y=.int i∧SqL K H p xs∧atI xs i=some v∧Q v H
def Ti (K:PySem.W.Frag):R2:=fun x y H Q=>∃ p xs i v,x=.ref p∧y=.int i∧SqT K H p xs∧atI xs i=some v∧Q v H
theorem aH:IxR X (Tj X.K):=by
  intro value slice pins s σ H x y v u Q I rx ry h hs
  obtain ⟨p,xs,i,z,rfl,rfl,hq,he,q⟩:=h
  cases rx
  obtain ⟨t,rfl⟩:=ry
  obtain ⟨its,r,pl,hz⟩:=I.list hq
  obtain ⟨j,h1,h2,h3,h4,h5⟩:=Aq he
  obtain ⟨w,ew,rw'⟩:=r.get h2
  have hl:=r.length
  have hn:=m6
  have fin:EP X pins σ Q w s:=⟨z,H,I,rw',q⟩
  by_cases h0:0≤i
  · have hj:i.toNat=j:=by
      rw [seqIndex_of h0 h5] at h1
      exact Option.some.inj h1
    exact item_listR pl.isList h0 (by omega) (by rw [hj];simpa using ew) fin hs
  · have hj:(i + (its.toArray.size:Int)).toNat=j:=by
      rw [seqIndex_neg (by omega) h4] at h1
      rw [List.size_toArray,← hl]
      exact Option.some.inj h1
    exact subscriptTail_builtinR (x:=w) pl.isList.typeIs slot_list_getitem.lookup
      (wpAny_getItem_list_neg (Q:=fun r s'=>r=w∧EP X pins σ Q r s') pl.isList (by omega) (by rw [List.size_toArray] <;> omega) (by omega) (by rw [hj];simpa using ew) ⟨rfl,fin⟩) hs
theorem d9:IxR X (Ti X.K):=by
  intro value slice pins s σ H x y v u Q I rx ry h hs
  obtain ⟨p,xs,i,z,rfl,rfl,hq,he,q⟩:=h
  cases rx
  obtain ⟨t,rfl⟩:=ry
  obtain ⟨its,r,pl,hz⟩:=I.tuple hq
  obtain ⟨j,h1,h2,h3,h4,h5⟩:=Aq he
  obtain ⟨w,ew,rw'⟩:=r.get h2
  have hl:=r.length
  have hn:=m6
  have fin:EP X pins σ Q w s:=⟨z,H,I,rw',q⟩
  exact subscriptTail_builtinR (x:=w) pl.typeIs slot_tuple_getitem.lookup
    (getItem_tuple (j:=j) (Q:=fun r s'=>r=w∧EP X pins σ Q r s') pl (by omega) (by omega) (by rw [List.size_toArray,← hl];exact h1) (by simpa using ew) ⟨rfl,fin⟩) hs
theorem wW (its:List Value) (n j:Nat) (u:Value):Obj.mapSeq (·.setIfInBounds j u) { cls:=.type "list",data:=.seq its.toArray n }={ cls:=.type "list",data:=.seq (its.set j u).toArray n }:=by
  simp [Obj.mapSeq]
theorem Inv.lst {pins:List (Addr × Obj)} {σ:St} {H:Hp} {s:Shared} {p:Addr} {xs:List V} (I:Inv X pins σ H s) (h:H p=some (.lst xs)) :
    ∃ (its:List Value) (n:Nat),Vals xs its∧s.heap.get? p=some { cls:=.type "list",data:=.seq its.toArray n }∧xs.length≤sizeLine:=by
  obtain ⟨z,its,n,r,e⟩:=I.hok p _ h
  exact ⟨its,n,r,e,z⟩
theorem Inv.K3 {pins:List (Addr × Obj)} {σ:St} {H:Hp} {s:Shared} {p:Addr} {xs ys:List V} {its its':List Value} {n n':Nat} {f:Obj→Obj} (I:Inv X pins σ H s) (h:H p=some (.lst xs))
    (ho:s.heap.get? p=some { cls:=.type "list",data:=.seq its.toArray n }) (hf:f { cls:=.type "list",data:=.seq its.toArray n }={ cls:=.type "list",data:=.seq its'.toArray n' }) (r:Vals ys its') (hz:ys.length≤sizeLine) (t:Nat) :
    Inv X pins σ (upd H p (.lst ys)) { s with heap:=s.heap.update p f,toks:=t }:=by
  have e:(s.heap.update p f).get? p=some { cls:=.type "list",data:=.seq its'.toArray n' }:=by
    rw [Heap.get?_update_self f ho (by rw [hf] <;> rfl),hf]
  refine I.write (x:=p) (e:=p) (by rw [h];trivial) (.inl rfl) (fun b u hb q=>(Heap.get?_update_other _ _ (Ne.symm hb)).trans q) ⟨_,e⟩ ?_
  exact ⟨hz,its',n',r,e⟩
def Kh:V→V→V→Hp→(Hp→Prop)→Prop:=fun o i v H Q=>∃ p xs k j,o=.ref p∧i=.int k∧H p=some (.lst xs)∧ixN xs.length k=some j∧Q (upd H p (.lst (xs.set j v)))
theorem set_list:S6 X Kh:=by
  intro pins s σ H o i v ov iv u Q I ro ri rv h
  obtain ⟨p,xs,k,j,rfl,rfl,hp,hj,q⟩:=h
  cases ro
  obtain ⟨t,rfl⟩:=ri
  obtain ⟨its,n,r,ho,hz⟩:=I.lst hp
  obtain ⟨h1,h2,h3,h4⟩:=zM hj
  have hl:=r.length
  have hn:=m6
  have I':Inv X pins σ (upd H p (.lst (xs.set j v))) { s with heap:=s.heap.update p (Obj.mapSeq (·.setIfInBounds j u)) } :=
    I.K3 hp ho (wW its n j u) (r.set rv j) (by rw [List.length_set];exact hz) s.toks
  by_cases h0:0≤k
  · have hk:k.toNat=j:=by
      rw [seqIndex_of h0 h4] at h1
      exact Option.some.inj h1
    exact PySem.W.ki_setAt ho h0 (by omega) (by rw [List.size_toArray,← hl];exact h4) (by rw [hk];exact ⟨_,I',q⟩)
  · have hk:(k + (its.toArray.size:Int)).toNat=j:=by
      rw [seqIndex_neg (by omega) h3] at h1
      rw [List.size_toArray,← hl]
      exact Option.some.inj h1
    exact PySem.W.ki_setBack ho (by omega) (by rw [List.size_toArray,← hl];exact h3) (by omega) (by rw [hk];exact ⟨_,I',q⟩)
theorem rG (lo hi:Option Int) (n:Nat):(sliceBounds lo hi none n).1=((HT.sIx n 0 lo:Nat):Int)∧(sliceBounds lo hi none n).2.1=((HT.sIx n n hi:Nat):Int)∧(sliceBounds lo hi none n).2.2=1:=by
  refine ⟨?_,?_,rfl⟩
  · cases lo with
    | none=>simp [sliceBounds,HT.sIx]
    | some i =>
      simp only [sliceBounds,HT.sIx,Option.getD_none,show (1:Int) > 0 by decide,if_true]
      by_cases h:i<0
      · simp only [h,if_true] <;> omega
      · simp only [h,if_false] <;> omega
  · cases hi with
    | none=>simp [sliceBounds,HT.sIx]
    | some i =>
      simp only [sliceBounds,HT.sIx,Option.getD_none,show (1:Int) > 0 by decide,if_true]
      by_cases h:i<0
      · simp only [h,if_true] <;> omega
      · simp only [h,if_false] <;> omega
theorem qt (its:List Value) (lo hi:Option Int):slicePick its.toArray lo hi none=((its.drop (HT.sIx its.length 0 lo)).take (HT.sIx its.length its.length hi - HT.sIx its.length 0 lo)).toArray:=by
  obtain ⟨h1,h2,h3⟩:=rG lo hi its.toArray.size
  unfold slicePick
  rw [h1,h2,h3]
  simp only [sliceRange_one,pick_run,List.size_toArray] <;> rfl
def rSlL (K:PySem.W.Frag):V→Option Int→Option Int→Hp→VK→Prop:=fun x lo hi H Q=>∃ a xs,x=.ref a∧SqL K H a xs∧∀ p,H p=none→Q (.ref p) (upd H p (.lst (pF xs lo hi)))
theorem jQ:SlR X (rSlL X.K):=by
  intro pins s σ H x v vl vu lo hi sl Q I rx hs pl pu h
  obtain ⟨a,xs,rfl,hx,q⟩:=h
  cases rx
  obtain ⟨its,r,ht,hz⟩:=I.list hx
  have hlen:=r.length
  refine ⟨"list",_,slot_list_getitem.lookup,ht.isList.typeIs,?_⟩
  refine wpAny_getItem_list_slice ht.isList hs pl pu .none (by simp) ?_ (by rw [List.size_toArray] <;> omega)
  rw [qt,← hlen]
  refine ⟨.ref s.heap.objs.size,_,I.laid (t':=s.toks) (o:=.lst (pF xs lo hi)) (fun b ob q=>Heap.get?_push_of_some _ q) (Nat.le_refl _) ?_,rfl,q _ (I.hok.fresh (Nat.le_refl _))⟩
  exact ⟨Nat.le_trans (uI xs lo hi) hz,_,0,(r.drop (HT.sIx xs.length 0 lo)).take (HT.sIx xs.length xs.length hi - HT.sIx xs.length 0 lo),Heap.get?_push_size _ rfl⟩
def qM:V→Bool
  | .non=>true
  | .bl _=>true
  | .int _=>true
  | .str _=>true
  | _=>false
def eqV:V→V→Bool
  | .non,.non=>true
  | .bl a,.bl b=>a == b
  | .bl a,.int b=>(if a then 1 else 0) == b
  | .int a,.bl b=>a == (if b then 1 else 0)
  | .int a,.int b=>a == b
  | .str a,.str b=>a == b
  | _,_=>false
theorem Qc {A:Around} {s:Shared} {y x:V} {u v:Value} (ry:RelV y u) (rx:RelV x v) (fy:qM y=true) (fx:qM x=true):SeqAt.EqAt A s u v (eqV y x):=by
  cases y with
  | non =>
    cases ry
    cases x with
    | non=>cases rx;exact SeqAt.EqAt.same _
    | bl b=>cases rx;exact SeqAt.EqAt.none_bool b
    | int b=>obtain ⟨t,rfl⟩:=rx;exact SeqAt.EqAt.none_int b t
    | str b=>obtain ⟨t,rfl⟩:=rx;exact SeqAt.EqAt.none_str b t
    | _=>exact absurd (show false=true from fx) Bool.false_ne_true
  | bl a =>
    cases ry
    cases x with
    | non=>cases rx;exact SeqAt.EqAt.bool_none a
    | bl b=>cases rx;exact SeqAt.EqAt.bool_bool a b
    | int b=>obtain ⟨t,rfl⟩:=rx;exact SeqAt.EqAt.bool_int a b t
    | str b=>obtain ⟨t,rfl⟩:=rx;exact SeqAt.EqAt.bool_str a b t
    | _=>exact absurd (show false=true from fx) Bool.false_ne_true
  | int a =>
    obtain ⟨t',rfl⟩:=ry
    cases x with
    | non=>cases rx;exact SeqAt.EqAt.int_none a t'
    | bl b=>cases rx;exact SeqAt.EqAt.int_bool a t' b
    | int b=>obtain ⟨t,rfl⟩:=rx;exact SeqAt.EqAt.int_int a t' b t
    | str b=>obtain ⟨t,rfl⟩:=rx;exact SeqAt.EqAt.int_str a t' b t
    | _=>exact absurd (show false=true from fx) Bool.false_ne_true
  | str a =>
    obtain ⟨t',rfl⟩:=ry
    cases x with
    | non=>cases rx;exact SeqAt.EqAt.str_none a t'
    | bl b=>cases rx;exact SeqAt.EqAt.str_bool a t' b
    | int b=>obtain ⟨t,rfl⟩:=rx;exact SeqAt.EqAt.str_int a t' b t
    | str b=>obtain ⟨t,rfl⟩:=rx;exact SeqAt.EqAt.str_str a t' b t
    | _=>exact absurd (show false=true from fx) Bool.false_ne_true
  | _=>exact absurd (show false=true from fy) Bool.false_ne_true
def eqU (x:V) (u:Value):Bool:=match u with
  | .none=>eqV .non x
  | .bool b=>eqV (.bl b) x
  | .int i _=>eqV (.int i) x
  | .str z _=>eqV (.str z) x
  | _=>false
theorem Ij {x y:V} {u:Value} (r:RelV y u) (f:qM y=true):eqU x u=eqV y x:=by
  cases y with
  | non=>cases r;rfl
  | bl b=>cases r;rfl
  | int i=>obtain ⟨t,rfl⟩:=r;rfl
  | str z=>obtain ⟨t,rfl⟩:=r;rfl
  | _=>exact absurd (show false=true from f) Bool.false_ne_true
theorem oV {x:V}:∀ {xs:List V} {us:List Value},Vals xs us→xs.all qM=true→us.any (eqU x)=xs.any fun y=>eqV y x
  | _,_,.nil,_=>rfl
  | y :: xs,u :: us,.cons r t,f=>by
    rw [List.all_cons,Bool.and_eq_true] at f
    rw [List.any_cons,List.any_cons,Ij r f.1,oV t f.2]
theorem lJ {A:Around} {s:Shared} {x:V} {v:Value} (rx:RelV x v) (fx:qM x=true):∀ {xs:List V} {us:List Value},Vals xs us→xs.all qM=true→∀ u∈us,SeqAt.EqAt A s u v (eqU x u)
  | _,_,.nil,_=>fun u hu=>by cases hu
  | y :: xs,u :: us,.cons r t,f=>fun u' hu=>by
    rw [List.all_cons,Bool.and_eq_true] at f
    rcases List.mem_cons.mp hu with rfl | hu
    · rw [Ij r f.1];exact Qc r rx f.1 fx
    · exact lJ rx fx t f.2 u' hu
def inV (x:V) (xs:List V):Bool:=xs.any fun y=>eqV y x
def rIn (K:PySem.W.Frag) (neg:Bool):R2:=fun x y H Q=>∃ p xs,y=.ref p∧(SqL K H p xs∨SqT K H p xs)∧qM x=true∧xs.all qM=true∧Q (.bl (if neg then !inV x xs else inV x xs)) H
theorem yX:OpR X (compareOp .In) (rIn X.K false):=by
  intro pins s σ H x y v u Q I rx ry h
  obtain ⟨p,xs,rfl,hq,fx,fs,q⟩:=h
  cases ry
  rcases hq with hq | hq
  · obtain ⟨its,r,pl,hz⟩:=I.list hq
    refine SeqAt.in_listAt (eqU x) pl.isList (fun w hw=>lJ rx fx r fs w (by simpa using hw)) ⟨.bl _,H,I,rfl,?_⟩
    rw [show its.toArray.any (eqU x)=its.any (eqU x) by simp,oV r fs]
    exact q
  · obtain ⟨its,r,pl,hz⟩:=I.tuple hq
    refine SeqAt.in_tupleAt (eqU x) pl (fun w hw=>lJ rx fx r fs w (by simpa using hw)) ⟨.bl _,H,I,rfl,?_⟩
    rw [show its.toArray.any (eqU x)=its.any (eqU x) by simp,oV r fs]
    exact q
theorem mY:OpR X (compareOp .NotIn) (rIn X.K true):=by
  intro pins s σ H x y v u Q I rx ry h
  obtain ⟨p,xs,rfl,hq,fx,fs,q⟩:=h
  cases ry
  rcases hq with hq | hq
  · obtain ⟨its,r,pl,hz⟩:=I.list hq
    refine SeqAt.notIn_listAt (eqU x) pl.isList (fun w hw=>lJ rx fx r fs w (by simpa using hw)) ⟨.bl _,H,I,rfl,?_⟩
    rw [show its.toArray.any (eqU x)=its.any (eqU x) by simp,oV r fs]
    exact q
  · obtain ⟨its,r,pl,hz⟩:=I.tuple hq
    refine SeqAt.notIn_tupleAt (eqU x) pl (fun w hw=>lJ rx fx r fs w (by simpa using hw)) ⟨.bl _,H,I,rfl,?_⟩
    rw [show its.toArray.any (eqU x)=its.any (eqU x) by simp,oV r fs]
    exact q
theorem aC:mG X (.builtin "len") (fun xs H Q=>∃ p ys,xs=[.ref p]∧(SqL X.K H p ys∨SqT X.K H p ys)∧Q (.int ys.length) H):=by
  intro pins s σ H xs us Q I r h
  obtain ⟨p,ys,rfl,hq,q⟩:=h
  obtain ⟨u,rfl,rx⟩:=vals1 r
  cases rx
  have hn:=m6
  rcases hq with hq | hq
  · obtain ⟨its,r',pl,hz⟩:=I.list hq
    have hlen:=r'.length
    exact Calls.call_len_list pl.isList (by simp only [List.size_toArray] <;> omega) ⟨.int ys.length,H,I.tok _,⟨s.toks + 1,by rw [List.size_toArray,hlen]⟩,q⟩
  · obtain ⟨its,r',pl,hz⟩:=I.tuple hq
    have hlen:=r'.length
    exact len_tuple pl (by simp only [List.size_toArray] <;> omega) ⟨.int ys.length,H,I.tok _,⟨s.toks + 1,by rw [List.size_toArray,hlen]⟩,q⟩
theorem cH:mG X (.type "list") (fun xs H Q=>∃ p ys,xs=[.ref p]∧(SqL X.K H p ys∨SqT X.K H p ys)∧∀ l,H l=none→Q (.ref l) (upd H l (.lst ys))):=by
  intro pins s σ H xs us Q I r h
  obtain ⟨p,ys,rfl,hq,q⟩:=h
  obtain ⟨u,rfl,rx⟩:=vals1 r
  cases rx
  have fin:∀ (its:List Value),Vals ys its→ys.length≤sizeLine→∀ (h':Heap) (c':Nat),(∀ b o',s.heap.get? b=some o'→h'.get? b=some o') →
      h'.get? s.heap.objs.size=some { cls:=.type "list",dict:=none,data:=.seq its.toArray c',slots:=#[] }→EP X pins σ Q (.ref s.heap.objs.size) { s with heap:=h' }:=fun its r' hz h' c' kp e =>
    ⟨.ref s.heap.objs.size,_,I.laid (t':=s.toks) kp (Nat.le_refl _) (show eV X.prog X.w _ h' _ (.lst ys) from ⟨hz,its,c',r',e⟩),rfl,q _ (I.hok.fresh (Nat.le_refl _))⟩
  rcases hq with hq | hq
  · obtain ⟨its,r',pl,hz⟩:=I.list hq
    have hlen:=r'.length
    obtain ⟨o,ho,hc,n,hd⟩:=pl.isList
    exact call_list_seq p (.inl rfl) ho hc hd (fun h' c' kp e=>fin its r' hz h' c' kp e) (by simp only [List.size_toArray] <;> omega)
  · obtain ⟨its,r',pl,hz⟩:=I.tuple hq
    have hlen:=r'.length
    obtain ⟨o,ho,hc,n,hd⟩:=pl
    exact call_list_seq p (.inr rfl) ho hc hd (fun h' c' kp e=>fin its r' hz h' c' kp e) (by simp only [List.size_toArray] <;> omega)
def tyV (K:PySem.W.Frag) (T:String) (x:V) (H:Hp):Prop:=match x with
  | .str _=>T="str"
  | .int _=>T="int"
  | .ref p=>(T="list"∧∃ xs,SqL K H p xs)∨(T="tuple"∧∃ o,K.lookup p=some o∧o.cls=.type "tuple"∧o.dict=none) ∨
      (T="dict"∧((∃ kvs,H p=some (.dK kvs))∨∃ kvs,H p=some (.dT kvs)))∨(T="set"∧∃ S n,H p=some (.set S n))
  | _=>False
theorem J3 {pins:List (Addr × Obj)} {σ:St} {H:Hp} {s:Shared} {T:String} {x:V} {v:Value} (I:Inv X pins σ H s) (r:RelV x v) (ty:tyV X.K T x H) :
    s.TypeIs v T∧∀ a,v=.ref a→∃ ob,s.heap.get? a=some ob∧ob.dict=none:=by
  cases x with
  | str z =>
    obtain ⟨t,rfl⟩:=r
    cases (show T="str" from ty)
    exact ⟨typeIs_str s z t,fun _ e=>nomatch e⟩
  | int i =>
    obtain ⟨t,rfl⟩:=r
    cases (show T="int" from ty)
    exact ⟨typeIs_int s i t,fun _ e=>nomatch e⟩
  | ref p =>
    cases r
    rcases ty with ⟨rfl,xs,hq⟩ | ⟨rfl,o,hk,hc,hd⟩ | ⟨rfl,hk⟩ | ⟨rfl,S,n,hk⟩
    · obtain ⟨its,_,pl,_⟩:=I.list hq
      refine ⟨pl.isList.typeIs,fun a e=>?_⟩
      cases e
      obtain ⟨o,n,e,c,hd,_⟩:=pl
      exact ⟨o,e,hd⟩
    · refine ⟨⟨o,I.kIn p o hk,hc⟩,fun a e=>?_⟩
      cases e
      exact ⟨o,I.kIn _ o hk,hd⟩
    · have z:∃ o,s.heap.get? p=some o∧o.ExactDict:=by
        rcases hk with ⟨kvs,hk⟩ | ⟨kvs,hk⟩
        · obtain ⟨_,_,_,_,o,_,_,e,ex,_⟩:=I.hok p _ hk
          exact ⟨o,e,ex⟩
        · obtain ⟨_,_,_,_,o,_,_,e,ex,_⟩:=I.hok p _ hk
          exact ⟨o,e,ex⟩
      obtain ⟨o,e,ex⟩:=z
      refine ⟨⟨o,e,ex.1⟩,fun a e2=>?_⟩
      cases e2
      exact ⟨o,e,ex.2.1⟩
    · obtain ⟨o,_,_,_,e,ex,_⟩:=I.hok p _ hk
      refine ⟨⟨o,e,ex.1⟩,fun a e2=>?_⟩
      cases e2
      exact ⟨o,e,ex.2.1⟩
  | _=>exact False.elim ty
def tBM (K:PySem.W.Frag) (T:String) (r:V→List V→Hp→VK→Prop) (to:TE) (t:TA):TE:=fun σ H Q=>to σ H fun x H1=>tyV K T x H1∧t σ H1 fun xs H2=>r x xs H2 Q
variable {o e:Expr} {es:List Expr} {to:TE} {t:TA} {name:Str} {apos cpos:Pos} {T id:String} {r:V→List V→Hp→VK→Prop}
theorem qD (pa:PlainAttrs T) (slot:Slot T name id) (hty:typeOf (.builtin id)=pure (.type "method_descriptor")) (hm:MtR X id r) (ho:PE X o to) (ha:PA X (e :: es) t)
    (hbase:attributeBase o name X.env (eval o X.env)=eval o X.env:=by rfl)
    (hfew:((backTo cpos (starEach (e :: es) X.env)).all (fun x=>!x.1) && (backToKw cpos (keywordEach [] X.env)).all (fun x=>x.1.isSome)
      && decide ((e :: es).length + ([]:List Keyword).length + (if ([]:List Keyword).isEmpty then 0 else 1)<30))=true:=by rfl)
    (hline:(apos.endLine == cpos.line)=true:=by rfl) (hs:starEach (e :: es) X.env=(false,eval e X.env) :: starEach es X.env:=by rfl) (hplain:(backTo cpos (starEach es X.env)).any (·.1)=false:=by rfl) :
    PE X (.Call (.Attribute o name apos) (e :: es) [] cpos) (tBM X.K T r to t):=by
  intro pins s σ H Q I h
  refine wpAny_Call_method_late hbase hfew hline rfl (thn (ho pins s σ H _ I h) fun v s1 ⟨x,H1,I1,r1,ty,q1⟩=>?_)
  obtain ⟨h1,h2⟩:=J3 I1 r1 ty
  refine ⟨T,id,pa,slot,hty,h1,h2,?_⟩
  have hA:=ha cpos pins s1 σ H1 _ I1 q1
  rw [hs] at hA ⊢
  refine Calls.callWith_builtin (by show (false || (backTo cpos (starEach es X.env)).any (·.1))=false;rw [hplain] <;> rfl) (Calls.evalArgs_plain ?_)
  exact thn hA fun us s2 ⟨vs,H2,I2,r2,q2⟩=>hm pins s2 σ H2 x vs v us Q I2 r1 r2 q2
end
end L2
namespace L2
open PySem PySem.Spec PyProof.Rows
def MtM (X:Cx) (id:String) (r:V→List V→Hp→VK→Prop):Prop :=
  ∀ (pins:List (Addr × Obj)) (s:Shared) (σ:St) (H:Hp) (x:V) (xs:List V) (v:Value) (us:List Value) (Q:VK),Inv X pins σ H s→RelV x v→Vals xs us→r x xs H Q →
    wpAny (model X.prog X.w) X.A (call (.builtin id) (v :: us)) (EP X pins σ Q) X.xe s
theorem Vals.one:∀ {x:V} {us:List Value},Vals [x] us→∃ u,us=[u]∧RelV x u
  | _,_,.cons r .nil=>⟨_,rfl,r⟩
theorem Vals.two:∀ {x y:V} {us:List Value},Vals [x,y] us→∃ u v,us=[u,v]∧RelV x u∧RelV y v
  | _,_,_,.cons r (.cons q .nil)=>⟨_,_,rfl,r,q⟩
theorem Vals.rep {xs:List V} {us:List Value} (h:Vals xs us):∀ k:Nat,Vals (List.replicate k xs).flatten (List.replicate k us).flatten
  | 0=>.nil
  | k + 1=>by
    rw [List.replicate_succ,List.replicate_succ,List.flatten_cons,List.flatten_cons]
    exact Vals.append h (Vals.rep h k)
theorem foldl_rep (its:List Value):∀ (k:Nat) (acc:List Value),
    List.foldl (fun x1 x2=>x1++x2) acc.toArray (List.replicate k its.toArray)=(acc++(List.replicate k its).flatten).toArray
  | 0,acc=>by simp
  | k + 1,acc=>by
    have e:acc.toArray++its.toArray=(acc++its).toArray:=by simp
    have e2:(acc++its)++(List.replicate k its).flatten=acc++(List.replicate (k + 1) its).flatten:=by
      rw [List.replicate_succ,List.flatten_cons,List.append_assoc]
    rw [← e2,← foldl_rep its k (acc++its),← e,List.replicate_succ,List.foldl_cons]
section
variable {X:Cx} {pins:List (Addr × Obj)} {σ:St} {H:Hp} {s:Shared} {l b:Addr} {xs ys zs:List V}
theorem Inv.Tw {its its':List Value} {n:Nat} {f:Array Value→Array Value} {t':Nat} (I:Inv X pins σ H s) (hH:H l=some (.lst xs))
    (e:s.heap.get? l=some { cls:=.type "list",data:=.seq its.toArray n }) (hf:f its.toArray=its'.toArray) (hv:Vals ys its') (hz:ys.length≤sizeLine) :
    Inv X pins σ (upd H l (.lst ys)) { s with heap:=s.heap.update l (Obj.mapSeq f),toks:=t' }:=by
  have q:=PySem.IsL.update e f
  rw [hf] at q
  refine I.write (x:=l) (e:=l) (by rw [hH];exact trivial) (.inl rfl) (fun b' u hb hu=>(Heap.get?_update_other s.heap (Obj.mapSeq f) (Ne.symm hb)).trans hu) ⟨_,q⟩ ?_
  exact ⟨hz,its',_,hv,q⟩
theorem Inv.TF {its:List Value} {t':Nat} (I:Inv X pins σ H s) (hv:Vals ys its) (hz:ys.length≤sizeLine) :
    Inv X pins σ (upd H s.heap.objs.size (.lst ys)) { s with heap:=s.heap.push { cls:=.type "list",data:=.seq its.toArray },toks:=t' } :=
  I.laid (fun _ _ q=>Heap.get?_push_of_some _ q) (Nat.le_refl _) ⟨hz,its,0,hv,Heap.get?_push_size _ rfl⟩
theorem Inv.fresh (I:Inv X pins σ H s):H s.heap.objs.size=none:=I.hok.fresh (Nat.le_refl _)
theorem Inv.K4 (I:Inv X pins σ H s) (hH:H l=some (.lst xs)):xs.length≤sizeLine∧∃ (its:List Value) (n:Nat),Vals xs its∧xs.length=its.length∧s.heap.get? l=some { cls:=.type "list",data:=.seq its.toArray n }:=by
  obtain ⟨z,its,n,r,e⟩:=I.hok l _ hH
  exact ⟨z,its,n,r,r.length,e⟩
theorem BX {n:Nat} (h:n≤sizeLine):Builtin.List.listTooLong n=false:=by
  unfold Builtin.List.listTooLong
  exact decide_eq_false (by omega)
end
section
variable {X:Cx}
def Je:V→List V→Hp→VK→Prop:=fun x vs H Q=>∃ l xs y,x=.ref l∧vs=[y]∧H l=some (.lst xs)∧xs.length<sizeLine∧Q .non (upd H l (.lst (xs++[y])))
theorem gq:MtM X "list.append" Je:=by
  intro pins s σ H x vs v us Q I rx rv h
  obtain ⟨l,xs,y,rfl,rfl,hH,hz,q⟩:=h
  cases rx
  obtain ⟨u,rfl,ru⟩:=rv.one
  obtain ⟨z,its,n,r,hl,e⟩:=I.K4 hH
  refine call_meets F.slot_list_append ⟨_,e,rfl⟩ F.entry_list_append (F.args_list_append_2 _ _) (PySem.list_append l its.toArray n u (by rw [List.size_toArray];omega)) ⟨e,?_⟩
  refine ⟨.non,_,I.Tw (its':=its++[u]) hH e (by simp) (r.append (.cons ru .nil)) ?_,rfl,q⟩
  rw [List.length_append,List.length_singleton]
  omega
def rCat:R2:=fun x y H Q=>∃ l b xs zs,x=.ref l∧y=.ref b∧H l=some (.lst xs)∧H b=some (.lst zs)∧xs.length + zs.length≤sizeLine∧∀ p,H p=none→Q (.ref p) (upd H p (.lst (xs++zs)))
theorem vJ:OpR X (binaryOp .Add) rCat:=by
  intro pins s σ H x y v u Q I rx ry h
  obtain ⟨l,b,xs,zs,rfl,rfl,hH,hB,hz,q⟩:=h
  cases rx
  cases ry
  obtain ⟨z,its,n,r,hl,e⟩:=I.K4 hH
  obtain ⟨z2,its2,n2,r2,hl2,e2⟩:=I.K4 hB
  refine PySem.P.add_list e e2 ?_ (by rw [List.size_toArray,List.size_toArray];omega)
  have ea:its.toArray++its2.toArray=(its++its2).toArray:=by simp
  rw [ea]
  exact ⟨.ref _,_,I.TF (t':=s.toks) (r.append r2) (by rw [List.length_append];omega),rfl,q _ I.fresh⟩
def rRep:R2:=fun x y H Q=>∃ l k xs,x=.ref l∧y=.int k∧H l=some (.lst xs)∧-(2 ^ 63)≤k∧k<2 ^ 63∧xs.length * k.toNat≤sizeLine ∧
  ∀ p,H p=none→Q (.ref p) (upd H p (.lst (List.replicate k.toNat xs).flatten))
theorem len_rep {α:Type} (xs:List α) (k:Nat):(List.replicate k xs).flatten.length=k * xs.length:=by
  induction k with
  | zero=>simp
  | succ k ih=>rw [List.replicate_succ,List.flatten_cons,List.length_append,ih,Nat.succ_mul,Nat.add_comm]
theorem mX:OpR X (binaryOp .Mult) rRep:=by
  intro pins s σ H x y v u Q I rx ry h
  obtain ⟨l,k,xs,rfl,rfl,hH,h1,h2,hz,q⟩:=h
  cases rx
  obtain ⟨t,rfl⟩:=ry
  obtain ⟨z,its,n,r,hl,e⟩:=I.K4 hH
  have hlen:its.toArray.size * k.toNat≤sizeLine:=by rw [List.size_toArray,← hl];exact hz
  have hcap:¬ its.toArray.size * k.toNat > (2 ^ 63 - 1) / 8:=by
    have:(sizeLine:Nat)≤(2 ^ 63 - 1) / 8:=by decide
    omega
  have hfit:¬ (!Builtin.List.listFitsIndex k)=true:=by
    rw [fitsIndex_both h1 h2]
    exact Bool.false_ne_true
  have hlong:¬ Builtin.List.listTooLong (its.toArray.size * k.toNat)=true:=by
    rw [BX hlen]
    exact Bool.false_ne_true
  have hnew:List.foldl (fun x1 x2=>x1++x2) #[] (List.replicate (if its.toArray.isEmpty=true then 0 else k.toNat) its.toArray)=(List.replicate k.toNat its).flatten.toArray:=by
    have f0:∀ m:Nat,List.foldl (fun x1 x2=>x1++x2) #[] (List.replicate m its.toArray)=(List.replicate m its).flatten.toArray:=fun m=>by
      have:=foldl_rep its m []
      rw [List.nil_append] at this
      exact this
    rw [f0]
    cases its with
    | nil=>simp
    | cons a r'=>rw [if_neg (by simp)]
  refine wpAny_binaryOp_repeat_ref (T:="list") (U:="int") (by decide) ⟨_,e,rfl⟩ (fun s'=>typeIs_int s' k t) noFill_list_mul F.fills_int_mul F.slot_int_rmul repeat_list F.slot_int_index.lookup
    (call_meets F.slot_int_rmul (typeIs_int s k t) F.entry_int_rmul (F.args_int_rmul_2 _ _) (int___rmul___int_list k t l its.toArray n)
      ⟨e,rfl,⟨_,e,rfl⟩,call_meets F.slot_list_mul ⟨_,e,rfl⟩ F.entry_list_mul (F.args_list_mul_2 _ _) (AutoListH.list___mul___list_int_3 l its.toArray n k t hfit hcap hlong) ⟨e,?_⟩⟩)
  rw [hnew]
  exact ⟨.ref _,_,I.TF (t':=s.toks) (r.rep k.toNat) (by rw [len_rep,Nat.mul_comm];exact hz),rfl,q _ I.fresh⟩
end
end L2
namespace Att
open PySem PySem.W PySem.Calls PyProof.Rows
theorem oG {P:Params} {h:Heap}:∀ (ns:List Int) (vs:List Value),WellAll P h vs (ns.map WData.int)→IntsAre vs ns:=by
  intro ns
  induction ns with
  | nil =>
    intro vs w
    rw [List.map_nil] at w
    cases w
    exact .nil
  | cons n ns ih =>
    intro vs w
    rw [List.map_cons] at w
    cases w with
    | cons a b =>
      cases a
      exact .cons _ _ (ih _ b)
theorem yK {l:OpenLaw} {n:Nat} (hn:l.most=some n) {P:Params} {h:Heap} {args:List WData} {vals:List Value}
    (hpre:l.row.toRowW.claim.pre args=true) (hwl:WellAll P h vals args) :
    ∃ a vs ns,vals=[Value.ref a]∧args=[WData.list (ns.map WData.int)]∧h.get? a=some { cls:=.type "list",data:=.seq vs.toArray }∧IntsAre vs ns∧ns.length≤n:=by
  have hsh:WShape.hasAll [] args [.list .int]=true:=(pre_splitW hpre).1
  have hc:l.pre.holds [] { args:=args }=true:=(pre_splitW hpre).2
  obtain ⟨d,r,rfl,h1,h2⟩:=hasAllW_cons hsh
  obtain rfl:=hasAllW_nil h2
  obtain ⟨xs,rfl,h3⟩:=hasW_list h1
  obtain ⟨ns,rfl⟩:=items_int h3
  have hlen:ns.length≤n:=by
    unfold OpenLaw.pre at hc
    have h4:(WTm.not (.lt (.lit (.int (n:Int))) (.len (.arg 0)))).holds [] { args:=[.list (ns.map .int)] }=true:=by
      have h4:=(holds_andW hc).1
      rw [hn] at h4
      exact h4
    have h5:=condW_of h4 (w_not (w_lt w_lit (w_len_list (w_arg rfl))))
    rw [List.length_map] at h5
    refine Nat.le_of_not_lt fun q=>?_
    have q':(n:Int)<((ns.length:Nat):Int):=by omega
    first
      | (rw [decide_eq_true q'] at h5;exact absurd h5 (by decide))
      | (simp at h5;omega)
  cases hwl with
  | cons w1 w2 =>
    cases w2
    cases w1 with
    | list ho hall=>exact ⟨_,_,ns,rfl,rfl,ho,oG ns _ hall,hlen⟩
theorem yQ (l:OpenLaw) (args:List WData):l.row.toRowW.claim.post args (.bool true) args=true :=
  postW_of (r:=l.row.toRowW) (X:=(true == true))
    (show WShape.has [] (.bool true) .bool=true by first | rfl | decide | simp [WShape.has,WShape.arms,WShape.armsAll])
    (show (WTm.eq .res (.lit (.bool true))).value [] { args:=args,res:=some (.bool true),after:=args }=some (.bool (true == true)) from w_eq_bool (w_res rfl) w_lit) rfl
theorem uN {l:OpenLaw} {n:Nat} {q:Program} {loose:List Str} {XP:(Str→Option Value)→Heap→Prop} {YP:World→Heap→Prop} {d:DefRec}
    (hn:l.most=some n) (hdf:d.params.defaults=[])
    (call:∀ (w:World) (s₀ s₁:Shared) (mg mb:Str→Option Value) (fa:Addr) (o:Obj) (pm cd doc:Value) (a:Addr) (vs:List Value) (ns:List Int),
      Ground q loose [] XP w s₀ mg mb s₁.heap→YP w s₁.heap →
      s₁.heap.get? fa=some o→o.data=.func (docDef d.name d.params d.body d.scope pm cd doc)→s₁.heap.CodeRec cd d.name→mg d.name=some (.ref fa) →
      s₁.heap.get? a=some { cls:=.type "list",data:=.seq vs.toArray }→IntsAre vs ns→ns.length≤n→s₁.gens=#[] →
      codeAny (model l.prog w) callerA (.call (.ref fa) ⟨[.ref a],[]⟩) (fun r s'=>r=.ok (.ret (.bool true))∧OldK s₁.heap s'.heap∧s'.os=s₁.os∧AllBare s'.gens) s₁) :
    WalkO q loose XP YP l.row.toRowW d [] (fun f vs=>PySem.call f vs):=by
  intro w s₀ s₁ mg mb G Y fa o pm cd doc dV kV ho hd hcd hD hmg hg args vals as hpre hlay hrd hwl hlo
  obtain rfl:dV=.none:=Dflts.none hD hdf
  obtain rfl:kV=.none:=Dflts.noKw hD
  obtain ⟨a,vs,ns,rfl,rfl,hobj,hints,hlen⟩:=yK hn hpre hwl
  refine enter_call (codeAny_mono (call w s₀ s₁ mg mb fa o pm cd doc a vs ns G Y ho (fd_plain hd) hcd hmg hobj hints hlen hg) fun r s' hq=>?_)
  obtain ⟨rfl,h2,h3,h4⟩:=hq
  exact ⟨.inl ⟨.bool true,.bool true,[],rfl,fun _=>rfl,.bool true,yQ l _,fun _=>⟨List.Pairwise.nil,fun _ hm=>(nomatch hm)⟩⟩,h2,h3,h4⟩
end Att
namespace L2
open PySem PySem.Spec PyProof.Rows
theorem rA:∀ {vs:List Value} {ns:List Int},IntsAre vs ns→Vals (ns.map V.int) vs
  | _,_,.nil=>.nil
  | _,_,.cons n t h=>.cons ⟨t,rfl⟩ (rA h)
end L2
namespace L2
open PySem PySem.Spec PyProof.Rows
abbrev KOf {K:PySem.W.Frag} {h:Heap} (_:K.In h):PySem.W.Frag:=K
end L2
namespace L2
open PySem PySem.Spec PyProof.Rows
abbrev CX0:CXT:=fun _ _ _ _ _ _=>False
abbrev E0:XK:=fun _ _ _=>False
theorem bK {X:Cx}:Passes CX0 X E0:=fun _ _ _ _ _ _ _ h=>h.elim
structure Fun (K:PySem.W.Frag) (x qual:Str) (st:Stmt) (f:Addr) (fd:FuncData):Prop where
  ex:∃ (oc:Value) (od:Option Addr) (kV doc pm:Value) (an:Option Addr) (cdv ct:Value) (osl:Array (Option Value)),
    fd=PySem.W.fnOf x qual (aF st) (aD st) (ao st) .none kV doc pm an cdv ct∧K.lookup f=some ⟨oc,od,.func fd,osl⟩∧PySem.W.codeIn K cdv qual=true
  kp:PySem.W.keepIn K (.ref f)=true
variable {P:Program} {w:World} {K:PySem.W.Frag} {mg:Str→Option Value} {base:Heap} {T:fU}
theorem Fun.ok {x qual:Str} {st:Stmt} {f:Addr} {fd:FuncData} {N ps:List Str} {k:Nat} {sp:Sp} (F:Fun K x qual st f fd) (S:aX N ps (ao st)) (len:∀ vs H Q E,sp vs H Q E→vs.length=ps.length)
    (hbody:∀ (cdv:Value) (A:Around) (outer:List Env) (s:Shared) (H:Hp) (vs:List V) (Q:VK) (E:XK),pH k (A.deeper (envOfC qual (ao st) s.heap.objs.size f cdv))→sp vs H Q E →
      ∃ t,PSs (JK CX0 P w K mg base N qual (ao st) f cdv A outer s H E).nox (aD st) t∧t { nx:=fun _ H'=>Q .non H',rt:=Q } (start N vs) H):cI P w K mg base CX0 (k + 1) f fd ps sp:=by
  obtain ⟨oc,od,kV,doc,pm,an,cdv,ct,osl,rfl,lk,hcd⟩:=F.ex
  refine Qa lk hcd S len fun A outer s H vs Q E hr hsp=>?_
  obtain ⟨t,h,q⟩:=hbody cdv A outer s H vs Q E hr hsp
  exact ⟨t,h.nox,q⟩
theorem Fun.binds {x qual:Str} {st:Stmt} {f:Addr} {fd:FuncData} {ps:List Str} (F:Fun K x qual st f fd)
    (h:∀ (kV doc pm:Value) (an:Option Addr) (cdv ct:Value) (us:List Value),us.length=ps.length→bindArgs (PySem.W.fnOf x qual (aF st) (aD st) (ao st) .none kV doc pm an cdv ct) ⟨us,[]⟩=pure (ps.zip us)):Binds K fd ps []:=by
  obtain ⟨oc,od,kV,doc,pm,an,cdv,ct,osl,rfl,lk,hcd⟩:=F.ex
  exact .all (h kV doc pm an cdv ct)
theorem bM {x qual:Str} {st:Stmt} {f:Addr} {oc:Value} {od an:Option Addr} {osl:Array (Option Value)} {kV doc pm cdv ct:Value} (l:K.lookup f=some ⟨oc,od,.func (PySem.W.fnOf x qual (aF st) (aD st) (ao st) .none kV doc pm an cdv ct),osl⟩)
    (c:PySem.W.codeIn K cdv qual=true) (k:PySem.W.keepIn K (.ref f)=true):Fun K x qual st f (PySem.W.fnOf x qual (aF st) (aD st) (ao st) .none kV doc pm an cdv ct):=⟨⟨oc,od,kV,doc,pm,an,cdv,ct,osl,rfl,l,c⟩,k⟩
section
variable {X:Cx}
theorem pv (i:Nat) {x:Str} {pos:Pos} (hN:X.N[i]?=some x:=by rfl) (hv:Vis X.env.scope x:=by first | exact Or.inl rfl | exact Or.inr (Or.inl rfl) | exact Or.inr (Or.inr rfl)) (hd:(x == ("__debug__":Str))=false:=by decide)
    (hcd:(x == ("__classdict__":Str))=false:=by decide):PE X (.Name x pos) (Tc i):=Kq hN hv hd hcd
end
theorem xJ {A B:Prop} (h:B):if false=true then A else B:=by
  rw [if_neg Bool.false_ne_true]
  exact h
theorem Cm {A B:Prop} (h:A):if true=true then A else B:=by
  rw [if_pos rfl]
  exact h
theorem Qp {c A B:Prop} [Decidable c] (h1:c→A) (h2:¬ c→B):if c then A else B:=by
  by_cases h:c
  · rw [if_pos h]
    exact h1 h
  · rw [if_neg h]
    exact h2 h
theorem Jy {c A B:Prop} [Decidable c] (hc:c) (h:B):if (!decide c)=true then A else B:=by
  rw [decide_eq_true hc]
  exact xJ h
def Same (H H':Hp):Prop:=∀ b o,H b=some o→H' b=some o
theorem Same.refl (H:Hp):Same H H:=fun _ _ h=>h
theorem Same.free {H H':Hp} (e:Same H H') {l:Addr} (h:H' l=Option.none):H l=Option.none:=by
  cases q:H l with
  | none=>rfl
  | some o =>
    rw [e l o q] at h
    cases h
theorem Same.seq {K:PySem.W.Frag} {H H':Hp} {a:Addr} {xs:List V} (e:Same H H') (h:SqL K H a xs):SqL K H' a xs:=by
  rcases h with (h | ⟨o,h⟩) | h
  · exact .inl (.inl (e _ _ h))
  · exact .inl (.inr ⟨o,e _ _ h⟩)
  · exact .inr h
end L2
namespace L2
open PySem PySem.Spec PyProof.Rows
def clo (cells:List (Str × Addr)):List (Str × NameKind)→List (Str × Addr)→List (Str × Addr)
  | [],cs=>cs
  | (n,k) :: r,cs=>clo cells r (if k == .free then (n,(cells.lookup n).getD 0) :: cs else cs)
theorem Ag {env:Env}:∀ (names:List (Str × NameKind)) (cs:List (Str × Addr)),(∀ y∈names,y.2=.free→∃ c,env.cells.lookup y.1=some c) →
    (forIn names cs fun (x:Str × NameKind) (r:List (Str × Addr))=>(do
      let cs:=r
      match x with
      | (name,kind) =>
        if kind == .free then do
          let c ← cellOf env name
          let cs:=(name,c) :: cs
          pure (ForInStep.yield cs)
        else pure (ForInStep.yield cs):Sem (ForInStep (List (Str × Addr)))))=pure (clo env.cells names cs)
  | [],cs,_=>rfl
  | (n,k) :: r,cs,h=>by
    rw [List.forIn_cons]
    by_cases hk:k=.free
    · subst hk
      obtain ⟨c,hc⟩:=h (n,.free) List.mem_cons_self rfl
      have e:cellOf env n=pure c:=by unfold cellOf;rw [hc]
      simp only [beq_self_eq_true,if_true,e,pure_bind]
      rw [Ag r _ fun y hy=>h y (List.mem_cons_of_mem _ hy)]
      simp [clo,hc]
    · have hb:(k == NameKind.free)=false:=by simpa using hk
      simp only [hb,Bool.false_eq_true,if_false,pure_bind]
      rw [Ag r _ fun y hy=>h y (List.mem_cons_of_mem _ hy)]
      simp [clo,hb]
theorem jr {env:Env} {scope:Scope} (h:∀ y∈scope.names,y.2=.free→∃ c,env.cells.lookup y.1=some c):closureFor scope env=pure (clo env.cells scope.names []):=by
  unfold closureFor
  have e:=Ag (env:=env) scope.names [] h
  first
    | (rw [← e];rfl)
    | (simp only [bind_pure];exact e)
    | exact e
theorem Af {cells:List (Str × Addr)}:∀ (names:List (Str × NameKind)) (cs:List (Str × Addr)) (p:Str × Addr),p∈clo cells names cs→p∈cs∨p.2=(cells.lookup p.1).getD 0
  | [],_,_,h=>.inl h
  | (n,k) :: r,cs,p,h=>by
    rcases Af r _ p h with h' | h'
    · by_cases hk:(k == NameKind.free)=true
      · rw [if_pos hk] at h'
        rcases List.mem_cons.mp h' with e | e
        · subst e;exact .inr rfl
        · exact .inl e
      · rw [if_neg hk] at h';exact .inl h'
    · exact .inr h'
theorem vY {cells:List (Str × Addr)}:∀ (names:List (Str × NameKind)) (cs:List (Str × Addr)) (x:Str),(cs.lookup x).isSome=true→((clo cells names cs).lookup x).isSome=true
  | [],_,_,h=>h
  | (n,k) :: r,cs,x,h=>by
    refine vY r _ x ?_
    by_cases hk:(k == NameKind.free)=true
    · rw [if_pos hk]
      rw [List.lookup_cons]
      cases x == n with
      | true=>rfl
      | false=>exact h
    · rw [if_neg hk];exact h
theorem kW {cells:List (Str × Addr)}:∀ (names:List (Str × NameKind)) (cs:List (Str × Addr)) (x:Str),(x,NameKind.free)∈names→((clo cells names cs).lookup x).isSome=true
  | [],_,_,h=>nomatch h
  | (n,k) :: r,cs,x,h=>by
    show ((clo cells r _).lookup x).isSome=true
    rcases List.mem_cons.mp h with e | e
    · have e1:x=n:=congrArg Prod.fst e
      have e2:NameKind.free=k:=congrArg Prod.snd e
      subst e1
      subst e2
      refine vY r _ x ?_
      rw [if_pos (by decide),List.lookup_cons]
      simp
    · exact kW r _ x e
theorem uL {cells:List (Str × Addr)} {names:List (Str × NameKind)} {x:Str} {c:Addr} (h:(clo cells names []).lookup x=some c):c=(cells.lookup x).getD 0:=by
  rcases Af names [] _ (PySem.mem_of_lookup h) with z | z
  · exact nomatch z
  · exact z
theorem nA {cells:List (Str × Addr)}:∀ {names:List (Str × NameKind)} (cs:List (Str × Addr)) {p:Str × Addr},p∈clo cells names cs→p∈cs∨(p.1,NameKind.free)∈names
  | [],_,_,h=>.inl h
  | (n,k) :: r,cs,p,h=>by
    rcases nA (names:=r) _ h with h' | h'
    · by_cases hk:(k == NameKind.free)=true
      · rw [if_pos hk] at h'
        rcases List.mem_cons.mp h' with e | e
        · subst e
          have:k=.free:=by simpa using hk
          subst this
          exact .inr List.mem_cons_self
        · exact .inl e
      · rw [if_neg hk] at h';exact .inl h'
    · exact .inr (List.mem_cons_of_mem _ h')
def kE (X:Cx) (scope:Scope) (N:List Str) (s:Shared) (H:Hp) (ex:List Addr):Cx :=
  { X with N:=N,s₀:=s,H₀:=H,env:=compEnvC scope (clo X.env.cells scope.names []) s.heap.objs.size X.env,outer:=X.stack,stack:=X.stack,ex:=ex,fn:=fun x=>((clo X.env.cells scope.names []).lookup x).isNone,pn:=[],xe:=fun _ _=>False }
def freeOk (sc scope:Scope):Bool:=scope.names.all fun y=>(y.2 != .free) || (sc.names.lookup y.1 == some .cell) || (sc.names.lookup y.1 == some .free)
def uw (scope:Scope):Bool:=(scope.kind == .function) && (scope.names.all fun y=>y.2 != .cell) && (scope.names.all fun y=>y.2 != .local || scope.names.lookup y.1 == some .local)
def pG (scope:Scope) (N N':List Str) (cap:List (Option Nat)):Bool:=(cap.length == N'.length) && (N'.zip cap).all fun p=>match p.2 with
  | none=>true
  | some j=>N[j]? == some p.1 && scope.names.lookup p.1 == some .free
def qQ (cap:List (Option Nat)) (σ:St):St:=cap.map fun o=>o.bind fun j=>(σ[j]?).bind id
theorem jF {f:Str × NameKind→Str × NameKind} (hf:∀ y,(f y).1=y.1) (x:Str):∀ names:List (Str × NameKind),(names.map f).lookup x=(names.lookup x).map fun k=>(f (x,k)).2
  | []=>rfl
  | (n,k) :: r=>by
    have ih:=jF hf x r
    have e1:(f (n,k)).1=n:=hf (n,k)
    have e2:f (n,k)=(n,(f (n,k)).2):=Prod.ext e1 rfl
    rw [List.map_cons,e2,List.lookup_cons,List.lookup_cons]
    cases hx:x == n with
    | true =>
      have:x=n:=by simpa using hx
      subst this
      rfl
    | false=>exact ih
def rlb (env:Env):Str × NameKind→Str × NameKind:=fun (n,k)=>if (k == NameKind.free && env.scope.kind == .function && env.kindOf n == some .cell) then (n,NameKind.cell) else (n,k)
theorem ud (env:Env) (y:Str × NameKind):(rlb env y).1=y.1:=by
  obtain ⟨n,k⟩:=y
  unfold rlb
  dsimp only
  split <;> rfl
theorem uc (env:Env) (n:Str) (k:NameKind):(rlb env (n,k)).2=k∨((rlb env (n,k)).2=.cell∧k=.free):=by
  unfold rlb
  dsimp only
  split
  · rename_i h
    rw [Bool.and_eq_true,Bool.and_eq_true] at h
    exact .inr ⟨rfl,by simpa using h.1.1⟩
  · exact .inl rfl
theorem jC (scope:Scope) (env:Env):(relabel scope env).names=scope.names.map (rlb env):=rfl
theorem mL {scope:Scope} {env:Env} {x:Str} (h:scope.names.lookup x=some .free):(relabel scope env).names.lookup x=some .cell∨(relabel scope env).names.lookup x=some .free:=by
  rw [jC,jF (ud env),h]
  rcases uc env x .free with e | ⟨e,_⟩
  · exact .inr (congrArg some e)
  · exact .inl (congrArg some e)
theorem mQ {scope:Scope} {env:Env} {x:Str} {k':NameKind} (hk:k'=.cell∨k'=.free) (hn:∀ y∈scope.names,y.2≠.cell) (h:(relabel scope env).names.lookup x=some k'):(x,NameKind.free)∈scope.names:=by
  rw [jC,jF (ud env)] at h
  cases e:scope.names.lookup x with
  | none=>rw [e] at h;cases h
  | some k =>
    rw [e] at h
    have h':(rlb env (x,k)).2=k':=Option.some.inj h
    have hm:=PySem.mem_of_lookup e
    rcases uc env x k with z | ⟨_,z⟩
    · rw [z] at h'
      subst h'
      rcases hk with z2 | z2
      · exact absurd z2 (hn _ hm)
      · rw [z2] at hm;exact hm
    · rw [z] at hm;exact hm
def PTs (X:Cx) (ifs:List Expr) (t:TT):Prop :=
  ∀ (pins:List (Addr × Obj)) (s:Shared) (σ:St) (H:Hp) (Q:Bool→Hp→Prop),Inv X pins σ H s→t σ H Q →
    wpAny (model X.prog X.w) X.A (forIn ifs true fun c r=>if r=true then do let ok ← isTrue c X.env (eval c X.env);pure (ForInStep.yield ok) else pure (ForInStep.yield r)) (TP X pins σ Q) X.xe s
def Qu:TT:=fun _ H Q=>Q true H
theorem xQ {i:Nat} {x:V} {τ:St} {H:Hp} {A B:St→Hp→Prop} (h:A (τ.set i (some x)) H):zR i x τ H fun τ4 H4=>Qu τ4 H4 fun b H5=>if b=true then A τ4 H5 else B τ4 H5:=by
  show if true=true then A (τ.set i (some x)) H else B (τ.set i (some x)) H
  rw [if_pos rfl];exact h
theorem gk {X:Cx}:PTs X [] Qu:=fun _ _ _ H _ I h=>wpAny_tests_nil ⟨H,I,h⟩
theorem yP {X:Cx} {c:Expr} {t:TT} (h:PT X c t):PTs X [c] t:=fun pins s σ H Q I hq=>wpAny_tests_one (h pins s σ H Q I hq)
def pK (J:It) (acc:Addr) (g:TG) (tc:TT) (te:TE) (τ:St) (H1:Hp) (Q:Hp→Prop):Prop :=
  ∃ W:Nat→Nat→St→Hp→Prop,(∃ m,W 0 m τ (upd H1 acc (.lst [])))∧∀ i m τ H2,W i m τ H2→(J.stop i H2∧Q H2)∨(J.go i H2∧∃ N:St→Hp→Prop,(∀ τ' H',N τ' H'→∃ m',m'<m∧W (i + 1) m' τ' H')∧∀ x H3,J.yld i H2 x H3→g x τ H3 fun τ4 H4 =>
    tc τ4 H4 fun b H5=>if b=true then te τ4 H5 fun y H6=>∃ ys,H6 acc=some (.lst ys)∧ys.length<sizeLine∧N τ4 (upd H6 acc (.lst (ys++[y]))) else N τ4 H5)
theorem xg {lo:Int} {n:Nat} {acc:Addr} {g:TG} {tc:TT} {te:TE} {τ:St} {H1:Hp} {Q:Hp→Prop} (Pv:Nat→St→Hp→Prop) (h0:Pv 0 τ (upd H1 acc (.lst [])))
    (hs:∀ i τ H,i<n→Pv i τ H→g (.int (lo + i)) τ H fun τ4 H4=>tc τ4 H4 fun b H5=>if b=true then te τ4 H5 fun y H6=>∃ ys,H6 acc=some (.lst ys)∧ys.length<sizeLine∧Pv (i + 1) τ4 (upd H6 acc (.lst (ys++[y]))) else Pv (i + 1) τ4 H5)
    (hd:∀ τ H,Pv n τ H→Q H):pK (Itr lo n) acc g tc te τ H1 Q:=by
  refine ⟨fun i m τ H=>m=n - i∧i≤n∧Pv i τ H,⟨n,by simp,Nat.zero_le _,h0⟩,?_⟩
  rintro i m τ H ⟨rfl,hi,p⟩
  by_cases hlt:i<n
  · refine .inr ⟨hlt,Pv (i + 1),fun τ' H' p'=>⟨n - (i + 1),by omega,rfl,hlt,p'⟩,fun x H' y=>?_⟩
    obtain ⟨e,y⟩:=y
    subst e y
    exact hs i τ _ hlt p
  · have e:i=n:=by omega
    subst e
    exact .inl ⟨Nat.le_refl _,hd τ H p⟩
theorem eE {K:PySem.W.Frag} {a:Addr} {xs:List V} {acc:Addr} {g:TG} {tc:TT} {te:TE} {τ:St} {H1:Hp} {Q:Hp→Prop} (Pv:Nat→St→Hp→Prop) (h0:Pv 0 τ (upd H1 acc (.lst []))) (hl:∀ i τ H,i≤xs.length→Pv i τ H→SqL K H a xs)
    (hs:∀ i x τ H,xs[i]?=some x→Pv i τ H→g x τ H fun τ4 H4=>tc τ4 H4 fun b H5=>if b=true then te τ4 H5 fun y H6=>∃ ys,H6 acc=some (.lst ys)∧ys.length<sizeLine∧Pv (i + 1) τ4 (upd H6 acc (.lst (ys++[y]))) else Pv (i + 1) τ4 H5)
    (hd:∀ τ H,Pv xs.length τ H→Q H):pK (Itl K a) acc g tc te τ H1 Q:=by
  refine ⟨fun i m τ H=>m=xs.length - i∧i≤xs.length∧Pv i τ H,⟨xs.length,by simp,Nat.zero_le _,h0⟩,?_⟩
  rintro i m τ H ⟨rfl,hi,p⟩
  have q:=hl i τ H hi p
  by_cases hlt:i<xs.length
  · refine .inr ⟨⟨xs,xs[i],q,by simp [hlt]⟩,Pv (i + 1),fun τ' H' p'=>⟨xs.length - (i + 1),by omega,rfl,hlt,p'⟩,fun x H' y=>?_⟩
    obtain ⟨e,y⟩:=y
    subst e
    exact hs i x τ _ (y xs q) p
  · have e:i=xs.length:=by omega
    subst e
    exact .inl ⟨⟨xs,q,Nat.le_refl _⟩,hd τ H p⟩
def yq (wi:TI) (cap:List (Option Nat)) (g:TG) (tc:TT) (te:TE):TE:=fun σ H Q=>wi σ H fun J H1=>∀ acc,H1 acc=none→pK J acc g tc te (qQ cap σ) H1 (fun H2=>Q (.ref acc) H2)
abbrev Qg (ifs:List Expr) (env:Env):Sem Bool:=forIn ifs true fun c r=>if r=true then do let ok ← isTrue c env (eval c env);pure (ForInStep.yield ok) else pure (ForInStep.yield r)
abbrev wpQ {α:Type} (prog:Program) (w:World) (A:Around) (m:Sem α) (Q:α→Shared→Prop) (s:Shared):Prop:=wpAny (model prog w) A m Q (fun _ _=>False) s
theorem sE {prog:Program} {w:World} {A:Around} {R:Result→Shared→Prop} {s:Shared} {elt target iter:Expr} {ifs:List Expr} {scope:Scope} {pos:Pos} {it acc:Value} {env:Env} (I:Nat→Shared→Prop)
    (turn:∀ k s0,I k s0→wpQ prog w A (pyNext it) (fun r s1=>(r=none∧R (.ok .next) s1)∨∃ v,r=some v ∧
      wpQ prog w A (letOwnedTupleGo target it v) (fun _ s2=>wpQ prog w A (assign target env v) (fun _ s3=>wpQ prog w A (Qg ifs env) (fun ok s4 =>
        (ok=false∧∃ m,m<k∧I m s4)∨(ok=true∧wpQ prog w A (eval elt env) (fun x s5=>wpQ prog w A (call (.builtin "list.append") [acc,x]) (fun _ s6=>∃ m,m<k∧I m s6) s5) s4)) s3) s2) s1) s0)
    (k:Nat) (h:I k s):codeAny (model prog w) A (.compLoop (.ListComp elt [⟨target,iter,ifs,0⟩] scope pos) 0 it acc env) R s:=by
  have quiet:∀ (e:Value) (s':Shared),False→notedBy (model prog w) A env (fun e s'=>R (.error e) s') e s':=fun _ _ z=>z.elim
  apply codeAny_loop rfl I _ k h
  intro k s0 start
  apply wpAny_noted
  rw [compTurn_list]
  apply wpAny_bind
  apply wpAny_standAt
  apply wpAny_bind
  apply wpAny_mono (turn k s0 start) _ quiet
  rintro r s1 (⟨rfl,stop⟩ | ⟨v,rfl,rest⟩)
  · exact wpAny_pure stop
  apply wpAny_bind
  apply wpAny_mono rest _ quiet
  intro _ s2 h2
  apply wpAny_bind
  apply wpAny_mono h2 _ quiet
  intro _ s3 h3
  apply wpAny_bind
  apply wpAny_mono h3 _ quiet
  rintro ok s4 (⟨rfl,skip⟩ | ⟨rfl,add⟩)
  · exact wpAny_pure ⟨rfl,skip⟩
  apply wpAny_bind
  apply wpAny_bind
  apply wpAny_mono add _ quiet
  intro x s5 h5
  apply wpAny_bind
  apply wpAny_mono h5 _ quiet
  intro _ s6 h6
  exact wpAny_pure (wpAny_pure ⟨rfl,h6⟩)
section
variable {X:Cx} {tg iter elt:Expr} {ifs:List Expr} {scope:Scope} {pos:Pos} {wi:TI} {N':List Str} {cap:List (Option Nat)} {g:TG} {tc:TT} {te:TE}
theorem pY {use:Option (Value→Sem Unit)} {R:Value→Shared→Prop} (sc:Scope) (hsc:X.env.scope=sc) (N₀:List Str) (hN₀:X.N=N₀) (f1:freeOk sc scope=true) (f2:uw scope=true) (f3:pG scope N₀ N' cap=true) (hcalm:X.calm=true)
    (hi:PI X tg iter wi)
    (hg:∀ (s:Shared) (H:Hp) (ex:List Addr),PG (kE X scope N' s H ex) tg g)
    (hc:∀ (s:Shared) (H:Hp) (ex:List Addr),PTs (kE X scope N' s H ex) ifs tc)
    (he:∀ (s:Shared) (H:Hp) (ex:List Addr),PE (kE X scope N' s H ex) elt te)
    (hs:∀ x,foldedSetIterable iter X.env x=pure x)
    {pins:List (Addr × Obj)} {s:Shared} {σ:St} {H:Hp} {Q:V→Hp→Prop} (I:Inv X pins σ H s) (h:yq wi cap g tc te σ H Q)
    (fin:∀ (acc C:Addr) (s':Shared) (H':Hp) (m:Str→Option Value),Inv X pins σ H' s'→s'.heap.Ns C m→H' C=none→C≠X.env.locals→X.s₀.heap.objs.size≤C→(∀ x c,X.env.cells.lookup x=some c→c≠C)→(∀ p∈X.pn++pins,p.1≠C)→Q (.ref acc) H' →
      compPost (model X.prog X.w) X.A X.xe use R (.ref acc) C (.ok .next) s') :
    wpAny (model X.prog X.w) X.A (comprehension (.ListComp elt [⟨tg,iter,ifs,0⟩] scope pos) scope X.env (firstIterPos [⟨tg,iter,ifs,0⟩] pos) (newList []) false (firstIter [⟨tg,iter,ifs,0⟩] X.env) use) R X.xe s:=by
  have ok:=I.ok
  have fr:∀ y∈scope.names,y.2=.free→X.env.kindOf y.1=some .cell∨X.env.kindOf y.1=some .free:=fun y hy e=>by
    have q:=List.all_eq_true.mp f1 y hy
    rw [e] at q
    have q':((sc.names.lookup y.1 == some NameKind.cell) || (sc.names.lookup y.1 == some NameKind.free))=true:=by simpa using q
    rw [Bool.or_eq_true] at q'
    unfold Env.kindOf
    rw [hsc]
    rcases q' with z | z
    · exact .inl (by simpa using z)
    · exact .inr (by simpa using z)
  obtain ⟨⟨k1,k2⟩,k3⟩:((scope.kind == .function)=true∧(scope.names.all fun y=>y.2 != .cell)=true)∧(scope.names.all fun y=>y.2 != .local || scope.names.lookup y.1 == some .local)=true:=by
    unfold uw at f2
    rw [Bool.and_eq_true,Bool.and_eq_true] at f2
    exact f2
  have hkind:scope.kind=.function:=by simpa using k1
  have hcell:∀ y∈scope.names,y.2≠.cell:=fun y hy=>by
    have q:=List.all_eq_true.mp k2 y hy
    simpa using q
  have hnames:∀ y∈scope.names,y.2=.local→scope.names.lookup y.1=some .local:=fun y hy e=>by
    have q:=List.all_eq_true.mp k3 y hy
    rw [e] at q
    simpa using q
  have hclos:closureFor scope X.env=pure (clo X.env.cells scope.names []):=jr fun y hy e=>ok.has y.1 (fr y hy e)
  have clX:∀ x c,(clo X.env.cells scope.names []).lookup x=some c→X.env.cells.lookup x=some c:=fun x c e=>by
    have e1:=uL e
    have hx:(x,NameKind.free)∈scope.names:=by
      rcases nA [] (PySem.mem_of_lookup e) with z | z
      · exact nomatch z
      · exact z
    obtain ⟨c',e2⟩:=ok.has x (fr (x,.free) hx rfl)
    rw [e2] at e1 ⊢
    rw [e1];rfl
  refine wpAny_comprehension_free (use:=use) rfl hs hclos hkind hnames ?_
  show wpAny (model X.prog X.w) X.A (eval iter X.env) _ X.xe s
  refine thn (hi pins s σ H _ I h) fun v s1 h1=>thn h1 fun itv s2 h2=>?_
  obtain ⟨it,fp,tn,J,H2,e,I2,T,st2,f2',h3⟩:=h2
  subst e
  refine wpAny_newObj_type ?_
  have fresh2:H2 s2.heap.objs.size=none:=I2.hok.fresh (Nat.le_refl _)
  have I3:Inv X pins σ (upd H2 s2.heap.objs.size (.lst [])) { s2 with heap:=s2.heap.push { cls:=.type "list",data:=.seq ([]:List Value).toArray } } :=
    I2.laid (t':=s2.toks) (fun b o e=>Heap.get?_push_of_some _ e) (Nat.le_refl _) ⟨Nat.zero_le _,[],0,.nil,Heap.get?_push_size _ rfl⟩
  have st3:tn 0 (s2.heap.push { cls:=.type "list",data:=.seq ([]:List Value).toArray }):=T.keep _ _ _ st2 fun b _ o e=>Heap.get?_push_of_some _ e
  have fpne:∀ b∈fp,b≠s2.heap.objs.size:=fun b hb z=>by
    obtain ⟨o,eo,_⟩:=T.obj 0 _ st2 b hb
    exact absurd (Heap.lt_size eo) (by rw [z];exact Nat.lt_irrefl _)
  have fp3:∀ b∈fp,qY X pins (upd H2 s2.heap.objs.size (.lst [])) b:=fun b hb=>by
    obtain ⟨a0,a1⟩:=f2' b hb
    exact ⟨by rw [aN (fpne b hb)];exact a0,a1⟩
  obtain ⟨W,⟨m0,w0⟩,turn⟩:=h3 s2.heap.objs.size fresh2
  generalize hacc:s2.heap.objs.size=acc at I3 fp3 w0 turn fpne ⊢
  generalize hs3:({ s2 with heap:=s2.heap.push { cls:=.type "list",data:=.seq ([]:List Value).toArray } }:Shared)=s3 at I3 ⊢
  have st3:tn 0 s3.heap:=by rw [← hs3];exact st3
  have accTr:(upd H2 acc (.lst [])) acc=some (.lst []):=aV
  refine wpAny_newFunctionEnv hcell (by intro y hy;cases hy) (fun h4 hns hsb=>?_) hkind
  have hCf:s3.heap.get? s3.heap.objs.size=none:=Heap.get?_none_of_le (Nat.le_refl _)
  have kp4:∀ b o,s3.heap.get? b=some o→h4.get? b=some o:=fun b o e=>hsb.extBut b o (Nat.ne_of_lt (Heap.lt_size e)) (Heap.get?_push_of_some _ e)
  let Y:Cx:=kE X scope N' s3 (upd H2 acc (.lst [])) fp
  have envY:Y.env=compEnvC scope (clo X.env.cells scope.names []) s3.heap.objs.size X.env:=rfl
  have okY:Y.Ok:=by
    refine ⟨ok.mod,?_,ok.glob,ok.blt,Nat.le_refl _,?_,?_,?_,ok.hd,ok.frames,.inl rfl,?_,?_,?_,?_,?_,?_,?_⟩
    · show (relabel scope X.env).kind=.function
      exact hkind
    · exact fun x y c h1 h2=>ok.inj x y c (clX x c h1) (clX y c h2)
    · intro x hx
      have hx':(relabel scope X.env).names.lookup x=some .cell∨(relabel scope X.env).names.lookup x=some .free:=hx
      have hm:(x,NameKind.free)∈scope.names:=by
        rcases hx' with z | z
        · exact mQ (.inl rfl) hcell z
        · exact mQ (.inr rfl) hcell z
      exact Option.isSome_iff_exists.mp (kW scope.names [] x hm)
    · intro x c hx h1
      have hx':((clo X.env.cells scope.names []).lookup x).isNone=true:=hx
      have h1':(clo X.env.cells scope.names []).lookup x=some c:=h1
      rw [h1'] at hx';cases hx'
    · intro b hb
      obtain ⟨q0,q1,q2,q3,q4,q5⟩:=fp3 b hb
      refine ⟨?_,fun x c h1=>q4 x c (clX x c h1)⟩
      obtain ⟨o,eo,_⟩:=T.obj 0 _ st3 b hb
      exact Nat.ne_of_lt (Heap.lt_size eo)
    · exact fun b o e=>I3.bs b o e
    · exact Nat.le_trans ok.bsz I3.sz
    · intro b o e hb
      obtain ⟨q0,q1,q2,q3,q4,q5⟩:=fp3 b hb
      rcases q3 with z | z
      · exact ok.noex b o e z
      · exact absurd (Nat.lt_of_lt_of_le (Heap.lt_size e) (Nat.le_trans ok.bsz z)) (Nat.lt_irrefl _)
    · intro b hb hf
      obtain ⟨q0,q1,q2,q3,q4,q5⟩:=fp3 b hb
      rcases List.mem_cons.mp (I3.vg b hf) with z | z
      · exact q1 z
      · exact q2 z
    · exact I3.stack
    · exact I3.qj
  have capl:cap.length=N'.length∧∀ p∈N'.zip cap,(match p.2 with | none=>true | some j=>N₀[j]? == some p.1 && scope.names.lookup p.1 == some .free)=true:=by
    unfold pG at f3
    rw [Bool.and_eq_true] at f3
    exact ⟨by simpa using f3.1,fun p hp=>List.all_eq_true.mp f3.2 p hp⟩
  have IY:Inv Y [] (qQ cap σ) (upd H2 acc (.lst [])) { s3 with heap:=h4,toks:=s3.toks + ([]:List (Str × Value)).length }:=by
    refine ⟨okY,rfl,I3.bare,Un.kept kp4,⟨_,hns,?_⟩,?_,?_,?_,fun p hp=>absurd (show p∈([]:List (Addr × Obj)) from hp) (by simp),I3.hok.kept kp4,?_⟩
    · intro i x v e1 e2 e3
      have e1':N'[i]?=some x:=e1
      unfold qQ at e2
      rw [List.getElem?_map] at e2
      cases ec:cap[i]? with
      | none=>rw [ec] at e2;cases e2
      | some o =>
        rw [ec] at e2
        cases o with
        | none=>cases e2
        | some j =>
          have e2':(σ[j]?).bind id=some v:=by simpa using e2
          have hz:(x,some j)∈N'.zip cap:=by
            refine List.mem_of_getElem? (i:=i) ?_
            rw [List.getElem?_zip_eq_some]
            exact ⟨e1',ec⟩
          have q:=capl.2 _ hz
          have q':(N₀[j]? == some x)=true∧(scope.names.lookup x == some NameKind.free)=true:=by simpa [Bool.and_eq_true] using q
          have q1:X.N[j]?=some x:=by rw [hN₀];simpa using q'.1
          have q2:scope.names.lookup x=some .free:=by simpa using q'.2
          have eσ:σ[j]?=some (some v):=by
            cases z:σ[j]? with
            | none=>rw [z] at e2';cases e2'
            | some y =>
              rw [z] at e2'
              have:y=some v:=e2'
              rw [this]
          have hk:=fr (x,.free) (PySem.mem_of_lookup q2) rfl
          obtain ⟨m,hn,hl⟩:=I3.loc
          have vis:Vis X.env.scope x:=by
            rcases hk with z | z
            · exact .inr (.inl z)
            · exact .inr (.inr z)
          obtain ⟨u,r,l⟩:=hl j x v q1 eσ vis
          refine ⟨u,r,.inr ⟨?_,?_⟩⟩
          · rcases mL (scope:=scope) (env:=X.env) q2 with z | z
            · exact .inl z
            · exact .inr z
          · rcases l with ⟨kl,_⟩ | ⟨_,c,ecx,hcx⟩
            · rcases hk with z | z
              · have z':X.env.kindOf x=some .cell:=z
                rw [kl] at z';cases z'
              · have z':X.env.kindOf x=some .free:=z
                rw [kl] at z';cases z'
            · have hh:=kW (cells:=X.env.cells) scope.names [] x (PySem.mem_of_lookup q2)
              obtain ⟨c',ec'⟩:=Option.isSome_iff_exists.mp hh
              have ec2:=clX x c' ec'
              rw [ecx] at ec2
              cases ec2
              exact ⟨c,ec',hcx.keeps kp4⟩
    · intro x c e
      obtain ⟨v,z⟩:=I3.cell x c (clX x c e)
      exact ⟨v,z.keeps kp4⟩
    · exact I3.hok.fresh (Nat.le_refl _)
    · exact fun x c e=>I3.freeC x c (clX x c e)
    · show (qQ cap σ).length=N'.length
      unfold qQ
      rw [List.length_map];exact capl.1
  have fpY:∀ {H':Hp},(∀ b∈fp,H' b=none)→∀ b∈fp,qY Y [] H' b:=fun {H'} hn b hb=>by
    obtain ⟨q0,q1,q2,q3,q4,q5⟩:=fp3 b hb
    refine ⟨hn b hb,(okY.exf b hb).1,okY.exfs b hb,.inl hb,(okY.exf b hb).2,fun p hp=>absurd (show p∈([]:List (Addr × Obj)) from hp) (by simp)⟩
  have st4:tn 0 h4:=T.keep _ _ _ st3 fun b _ o e=>kp4 b o e
  have back:∀ {τ:St} {H':Hp} {s':Shared},Inv Y [] τ H' s'→Q (.ref acc) H'→compPost (model X.prog X.w) X.A X.xe use R (.ref acc) s3.heap.objs.size (.ok .next) s':=fun {τ H' s'} J q=>by
    have un:Un (frs X.stack) fp (upd H2 acc (.lst [])) H' s3.heap s'.heap:=J.base
    have IX:Inv X pins σ H' s':=I3.call' (J.os) un J.hok J.bare fun b hb=>by
      obtain ⟨q0,q1,q2,q3,q4,q5⟩:=fp3 b hb
      exact ⟨q3,q1,q4,q5⟩
    obtain ⟨m,hn,_⟩:=J.loc
    refine fin acc s3.heap.objs.size s' H' m IX hn J.free (Nat.ne_of_gt I3.lt) I3.sz (fun x c e z=>?_) (fun p hp z=>?_) q
    · obtain ⟨v,q⟩:=I3.cell x c e
      exact absurd q.lt (by rw [z];exact Nat.lt_irrefl _)
    · exact absurd (Heap.lt_size (I3.pin p hp).1) (by rw [z];exact Nat.lt_irrefl _)
  have loop:∀ s5:Shared,s5={ s3 with heap:=h4,toks:=s3.toks + ([]:List (Str × Value)).length } →
      codeAny (model X.prog X.w) X.A (.compLoop (.ListComp elt [⟨tg,iter,ifs,0⟩] scope pos) 0 (.ref it) (.ref acc) Y.env) (compPost (model X.prog X.w) X.A X.xe use R (.ref acc) s3.heap.objs.size) s5:=by
    rintro s5 rfl
    refine sE (fun n s'=>∃ i τ H',Inv Y [] τ H' s'∧tn i s'.heap∧(∀ b∈fp,H' b=none)∧W i n τ H') ?_ m0 ⟨0,_,_,IY,st4,fun b hb=>(fp3 b hb).1,w0⟩
    rintro n s6 ⟨i,τ,H6,I6,st6,fr6,w6⟩
    rcases turn i n τ H6 w6 with ⟨stop,q⟩ | ⟨go,N,hN,step⟩
    · refine wpAny_mono (T.done Y rfl rfl rfl hcalm i [] s6 τ H6 (fun _ _=>False) I6 (fpY fr6) st6 stop) (fun r s7 ⟨hr,I7⟩=>?_) fun _ _ z=>z.elim
      exact .inl ⟨hr,back I7 q⟩
    · refine wpAny_mono (T.item Y rfl rfl rfl hcalm i [] s6 τ H6 (fun _ _=>False) I6 (fpY fr6) st6 go) (fun r s6b ⟨u,hr,h7⟩=>?_) fun _ _ z=>z.elim
      refine .inr ⟨u,hr,?_⟩
      refine wpAny_mono h7 (fun _ s7 ⟨x,H7,I7,r7,y7,st7,fr7⟩=>?_) fun _ _ z=>z.elim
      have I7':=I7.pinned (fpY fr7) (T.obj _ _ st7)
      have again:∀ {τ8:St} {H8:Hp} {s8:Shared},Inv Y ([]++pN fp s7.heap) τ8 H8 s8→N τ8 H8→∃ m,m<n∧∃ i τ H',Inv Y [] τ H' s8∧tn i s8.heap∧(∀ b∈fp,H' b=none)∧W i m τ H':=fun {τ8 H8 s8} I8 n8=>by
        obtain ⟨m',hm,w8⟩:=hN τ8 H8 n8
        refine ⟨m',hm,i + 1,τ8,H8,I8.gH,T.keep _ _ _ st7 fun b hb o e=>(I8.pin (b,o) (List.mem_append_right _ (List.mem_append_right _ (iI hb e)))).1,fun b hb=>?_,w8⟩
        obtain ⟨o,e,d⟩:=T.obj _ _ st7 b hb
        exact (I8.pin (b,o) (List.mem_append_right _ (List.mem_append_right _ (iI hb e)))).2.1
      refine wpAny_mono (hg s3 (upd H2 acc (.lst [])) fp _ s7 τ H7 x u _ I7' r7 (step x H7 y7)) (fun _ s8 ⟨τ8,H8,I8,q8⟩=>?_) fun _ _ z=>z.elim
      refine wpAny_mono (hc s3 (upd H2 acc (.lst [])) fp _ s8 τ8 H8 _ I8 q8) (fun b s9 ⟨H9,I9,q9⟩=>?_) fun _ _ z=>z.elim
      cases b with
      | false =>
        rw [if_neg Bool.false_ne_true] at q9
        exact .inl ⟨rfl,again I9 q9⟩
      | true =>
        rw [if_pos rfl] at q9
        refine .inr ⟨rfl,?_⟩
        refine wpAny_mono (he s3 (upd H2 acc (.lst [])) fp _ s9 τ8 H9 _ I9 q9) (fun y s10 ⟨yv,H10,I10,r10,ys,hl,hz,q10⟩=>?_) fun _ _ z=>z.elim
        refine wpAny_mono (gq (X:=Y) _ s10 τ8 H10 (.ref acc) [yv] (.ref acc) [y] (fun v H'=>N τ8 H') I10 rfl (.cons r10 .nil) ⟨acc,ys,yv,rfl,rfl,hl,hz,q10⟩) (fun v s11 ⟨vv,H11,I11,r11,q11⟩=>?_) fun _ _ z=>z.elim
        exact again I11 q11
  exact codeAny_compStart_list (loop _ rfl) (T.self _ _ _ _ _ st4 (loop _ rfl))
theorem jD (sc:Scope) (hsc:X.env.scope=sc) (N₀:List Str) (hN₀:X.N=N₀) (N':List Str) (cap:List (Option Nat)) (f1:freeOk sc scope=true) (f2:uw scope=true) (f3:pG scope N₀ N' cap=true) (hcalm:X.calm=true)
    (hi:PI X tg iter wi)
    (hg:∀ (s:Shared) (H:Hp) (ex:List Addr),PG (kE X scope N' s H ex) tg g)
    (hc:∀ (s:Shared) (H:Hp) (ex:List Addr),PTs (kE X scope N' s H ex) ifs tc)
    (he:∀ (s:Shared) (H:Hp) (ex:List Addr),PE (kE X scope N' s H ex) elt te)
    (hs:∀ x,foldedSetIterable iter X.env x=pure x:=by intro _;rfl) :
    PE X (.ListComp elt [⟨tg,iter,ifs,0⟩] scope pos) (yq wi cap g tc te):=by
  intro pins s σ H Q I h
  rw [eval_ListComp]
  refine pY (use:=none) sc hsc N₀ hN₀ f1 f2 f3 hcalm hi hg hc he hs I h ?_
  intro acc C s' H' m IX hn hC h1 h2 h3 h4 q
  refine ⟨m,hn,fun h'' hs''=>?_⟩
  exact ⟨.ref acc,H',IX.turned (t':=s'.toks) (fun b o hb e=>(hs''.2 b hb).trans e) hC h1 (.inr h2) h3 h4,rfl,q⟩
theorem iH {i:Nat} {x:Str} {pos' spos:Pos} (sc:Scope) (hsc:X.env.scope=sc) (N₀:List Str) (hN₀:X.N=N₀) (N':List Str) (cap:List (Option Nat)) (f1:freeOk sc scope=true) (f2:uw scope=true) (f3:pG scope N₀ N' cap=true) (hcalm:X.calm=true)
    (hnd:X.N.Nodup) (hix:X.N[i]?=some x) (hx:X.env.scope.names.lookup x=some .local)
    (hi:PI X tg iter wi)
    (hg:∀ (s:Shared) (H:Hp) (ex:List Addr),PG (kE X scope N' s H ex) tg g)
    (hc:∀ (s:Shared) (H:Hp) (ex:List Addr),PTs (kE X scope N' s H ex) ifs tc)
    (he:∀ (s:Shared) (H:Hp) (ex:List Addr),PE (kE X scope N' s H ex) elt te)
    (hsw:swapsWith (.ListComp elt [⟨tg,iter,ifs,0⟩] scope pos) (some (.Name x pos')) spos.line X.env=pure true)
    (hs:∀ x,foldedSetIterable iter X.env x=pure x:=by intro _;rfl) :
    PS X (.Assign [.Name x pos'] (.ListComp elt [⟨tg,iter,ifs,0⟩] scope pos) spos) (Qn (yq wi cap g tc te) (zR i)):=by
  intro pins s σ H D I h
  rw [exec_Assign_Name_used _ _ _ _ hsw]
  refine wpAny_bind (wpAny_standAt (wpAny_bind ?_))
  show wpAny _ X.A (do let _ ← comprehension (.ListComp elt [⟨tg,iter,ifs,0⟩] scope pos) scope X.env _ (newList []) false (firstIter [⟨tg,iter,ifs,0⟩] X.env) (some (assign (.Name x pos') X.env))) _ _ s
  refine wpAny_bind (wpAny_mono (pY (use:=some (assign (.Name x pos') X.env)) (R:=fun _ s'=>SP X pins D .next s') sc hsc N₀ hN₀ f1 f2 f3 hcalm hi hg hc he hs I h ?_) (fun _ s' hq=>wpAny_pure (wpAny_pure hq)) fun _ _ e=>e)
  intro acc C s' H' m IX hn hC h1 h2 h3 h4 q
  show wpAny _ X.A (assign (.Name x pos') X.env (.ref acc)) _ _ _
  refine wpAny_assign_Name (nQ (v:=.ref acc) IX hnd hix (.inl hx) rfl (fun s2 I2 hsb=>?_) (.inr hx))
  obtain ⟨a,sb,ha⟩:=hsb
  have hCa:C≠a:=by
    rcases ha with z | z
    · rw [z];exact h1
    · exact fun w=>h3 x a z w.symm
  refine ⟨m,hn.sameBut sb hCa,fun h'' hs''=>?_⟩
  exact ⟨_,H',I2.turned (t':=s2.toks) (fun b o hb e=>(hs''.2 b hb).trans e) hC h1 (.inr h2) h3 h4,q⟩
end
end L2
namespace L2
open PySem PySem.Spec PyProof.Rows
section
variable {X:Cx}
def Q9 (K:PySem.W.Frag):V→V→Hp→VK→Prop:=fun x y H Q=>∃ p xs j v,x=.ref p∧y=.int (j:Nat)∧SqL K H p xs∧xs[j]?=some v∧Q v H
theorem lM:Ub X (Q9 X.K):=by
  intro pins s σ H o i ov iv Q I ro ri h
  obtain ⟨p,xs,j,z,rfl,rfl,hq,he,q⟩:=h
  cases ro
  obtain ⟨t,rfl⟩:=ri
  obtain ⟨its,r,pl,hz⟩:=I.list hq
  obtain ⟨w,ew,rw'⟩:=r.get he
  have hl:=r.length
  have hn:=m6
  have hj:j<xs.length:=(List.getElem?_eq_some_iff.mp he).1
  exact wpAny_getItem_list pl.isList (by omega) (by omega) (by rw [Int.toNat_natCast];simpa using ew) ⟨z,H,I,rw',q⟩
theorem Vals.Rm {xs:List V} {us:List Value} {y:V} {u:Value} (r:Vals xs us) (ru:RelV y u) (k:Nat):Vals (xs.take k++y :: xs.drop k) (us.take k++u :: us.drop k):=Vals.append (r.take k) (.cons ru (r.drop k))
theorem Ld (its:List Value) (y:Value) (k:Nat):(its.toArray.extract 0 k).push y++its.toArray.extract k=(its.take k++y :: its.drop k).toArray:=by
  apply Array.toList_inj.mp
  first
    | (simp;done)
    | (simp [List.take_of_length_le];done)
    | (simp
       exact List.take_of_length_le (by simp))
def Jd:V→List V→Hp→VK→Prop:=fun x vs H Q=>∃ (l:Addr) (xs:List V) (y:V) (i:Int),x=.ref l∧vs=[.int i,y]∧H l=some (.lst xs)∧0≤i∧i≤xs.length∧xs.length<sizeLine∧Q .non (upd H l (.lst (xs.take i.toNat++y :: xs.drop i.toNat)))
theorem zq:MtM X "list.insert" Jd:=by
  intro pins s σ H x vs v us Q I rx rv h
  obtain ⟨l,xs,y,i,rfl,rfl,hH,h0,hk,hz,q⟩:=h
  cases rx
  obtain ⟨u,w,rfl,ru,rw'⟩:=rv.two
  obtain ⟨t,rfl⟩:=ru
  obtain ⟨z,its,n,r,hl,e⟩:=I.K4 hH
  have hn:=m6
  have hf1:¬ (!Builtin.List.listFitsIndex i)=true:=by
    rw [fitsIndex_both (by omega) (by omega)];exact Bool.false_ne_true
  have hf2:its.toArray.size≤sizeLine:=by rw [List.size_toArray];omega
  refine call_meets F.slot_list_insert ⟨_,e,rfl⟩ F.entry_list_insert (F.args_list_insert_3 _ _ _) (AutoSeq1.list_insert_list_int_val_1 l its.toArray n i t w hf1 hf2) ⟨e,?_⟩
  refine ⟨.non,_,I.Tw (its':=its.take i.toNat++w :: its.drop i.toNat) hH e ?_ (r.Rm rw' i.toNat) ?_,rfl,q⟩
  · show (its.toArray.extract 0 (if i<0 then (i + (its.toArray.size:Int)).toNat else min i.toNat its.toArray.size)).push w++its.toArray.extract (if i<0 then (i + (its.toArray.size:Int)).toNat else min i.toNat its.toArray.size)=_
    have e1:(if i<0 then (i + (its.toArray.size:Int)).toNat else min i.toNat its.toArray.size)=i.toNat:=by
      rw [if_neg (by omega),List.size_toArray];omega
    rw [e1]
    exact Ld its w i.toNat
  · rw [List.length_append,List.length_cons,List.length_take,List.length_drop];omega
theorem jL:mG X (.builtin "isinstance") (fun xs H Q=>∃ x t c b,xs=[x,.ty c]∧wu X.K H x t∧PySem.W.kitOne X.K t (.type c)=some b∧Q (.bl b) H):=by
  intro pins s σ H xs us Q I r h
  obtain ⟨x,t,c,b,rfl,ty,e,q⟩:=h
  obtain ⟨u,w,rfl,ru,rw'⟩:=vals2 r
  obtain rfl:w=Value.type c:=rw'
  exact zN I ru ty e fun tk=>⟨.bl b,H,I.tok tk,rfl,q⟩
theorem wQ:∀ (bs:List Bool),((List.range bs.length).all fun i=>(bs[i]?).getD true)=bs.all id:=by
  intro bs
  rw [Bool.eq_iff_iff]
  simp only [List.all_eq_true,List.mem_range,id_eq]
  constructor
  · intro h b hb
    obtain ⟨i,hi,e⟩:=List.getElem_of_mem hb
    have:=h i hi
    rw [List.getElem?_eq_getElem hi,e] at this
    exact this
  · intro h i hi
    rw [List.getElem?_eq_getElem hi]
    exact h _ (List.getElem_mem hi)
theorem CW (hc:X.calm=true):mG X (.builtin "all") (fun xs H Q=>∃ (p:Addr) (bs:List Bool),xs=[.ref p]∧SqL X.K H p (bs.map V.bl)∧Q (.bl (bs.all id)) H):=by
  intro pins s σ H xs us Q I r h
  obtain ⟨p,bs,rfl,hq,q⟩:=h
  obtain ⟨u,rfl,ru⟩:=vals1 r
  cases ru
  obtain ⟨its,r1,p1,hz⟩:=I.list hq
  have hl:=p1.isList
  have hlt:p<s.heap.objs.size:=p1.lt
  have hlen:=r1.length
  rw [List.length_map] at hlen
  refine call_all_walk (wpAny_pyIter_list hl ?_)
  refine ⟨s.heap.objs.size,[s.heap.objs.size,p],[s.heap.objs.size],its.toArray.size,_,_,fun i=>(bs[i]?).getD true,rfl,Walks.list (A:=X.A.in1) (I.ok.hd hc) _ p (Nat.ne_of_lt hlt) its.toArray,
    ⟨⟨_,Heap.get?_push_size _ rfl,rfl,rfl⟩,hl.push _⟩,fun i v s' Q' E' hP hQ=>?_,fun h' tk hk=>?_⟩
  · have hP':its[i]?=some v:=by simpa using hP
    have hi:i<bs.length:=by
      have:=(List.getElem?_eq_some_iff.mp hP').1
      omega
    obtain ⟨u,eu,ru⟩:=r1.get (x:=.bl bs[i]) (by rw [List.getElem?_map,List.getElem?_eq_getElem hi];rfl)
    rw [hP'] at eu
    cases eu
    cases ru
    dsimp only at hQ
    rw [List.getElem?_eq_getElem hi] at hQ
    exact wpAny_truthy_bool hQ
  · have e:((List.range its.toArray.size).all fun i=>(bs[i]?).getD true)=bs.all id:=by
      rw [List.size_toArray,← hlen];exact wQ bs
    rw [e]
    refine ⟨.bl _,H,I.kept fun b o eo=>hk b o (fun hm=>?_) (Heap.get?_push_of_some _ eo),rfl,q⟩
    rw [List.mem_singleton.mp hm] at eo
    exact Nat.lt_irrefl _ (Heap.lt_size eo)
end
end L2
namespace L2
open PySem PySem.Spec PyProof.Rows
section
variable {X:Cx} {st:Stmt} {rest:List Stmt} {t u:TS}
def nH (t u:TS):TS:=fun D σ H=>∃ M:St→Hp→Prop,t { D with nx:=M } σ H∧∀ σ' H',M σ' H'→u D σ' H'
theorem ju (h1:PS X st t) (h2:PSs X rest u):PSs X (st :: rest) (nH t u):=by
  intro pins s σ H D I h
  obtain ⟨M,ha,hb⟩:=h
  refine wpAny_execs_cons (thn (h1 pins s σ H { D with nx:=M } I ha) fun f s1 q=>?_)
  cases f with
  | next =>
    obtain ⟨σ',H',I',q⟩:=q
    exact h2 pins s1 σ' H' D I' (hb σ' H' q)
  | ret v=>exact q
  | brk=>exact q
  | cont=>exact q
end
end L2
namespace L2
open PySem PySem.Spec PyProof.Rows
def JZ (H:Hp) (P:List V→Prop) (Q:VK):Prop:=∀ (l:Addr) (H':Hp) (xs:List V),Same H H'→H l=none→H' l=some (.lst xs)→P xs→Q (.ref l) H'
structure Df (K:PySem.W.Frag) (mg:Str→Option Value) (x:Str) (st:Stmt) (ps:List Str) (a:Addr) (fd:FuncData):Prop where
  F:Fun K x x st a fd
  b:Binds K fd ps []
  m:mg x=some (.ref a)
theorem Same.upd {H H':Hp} {l:Addr} {o:HO} (s:Same H H') (h:H l=none):Same H (L2.upd H' l o):=fun b u e=>by
  rw [aN (aR e h)];exact s b u e
theorem ints_get {ns:List Int} {i:Nat} {y:V} (h:(ns.map V.int)[i]?=some y):∃ z,ns[i]?=some z∧y=V.int z:=by
  rw [List.getElem?_map] at h
  cases e:ns[i]? with
  | none=>rw [e] at h;cases h
  | some z=>rw [e] at h;exact ⟨z,rfl,(Option.some.inj h).symm⟩
theorem bx {ns:List Int} {i:Nat} {z:Int} (h:ns[i]?=some z):atI (ns.map V.int) (i:Int)=some (V.int z):=bW (by rw [List.getElem?_map,h];rfl)
theorem jJ {ns:List Int} {i:Int} {z:Int} (h0:0≤i) (h:ns[i.toNat]?=some z):atI (ns.map V.int) i=some (V.int z):=by
  obtain ⟨k,rfl⟩:=Int.eq_ofNat_of_zero_le h0
  exact bx (by simpa using h)
theorem gW {n j:Nat} (h:j<n):ixN n (j:Int)=some j:=by
  unfold ixN
  rw [if_pos (by omega),if_pos (by omega)];simp
theorem uf {α:Type} (n:Nat) (x:α):(List.replicate n [x]).flatten=List.replicate n x:=by
  induction n with
  | zero=>rfl
  | succ n ih=>rw [List.replicate_succ,List.flatten_cons,ih,List.replicate_succ];rfl
theorem ig {n:Nat} (h:n≤100000):n≤sizeLine:=Nat.le_trans h (by decide)
theorem aY {n:Nat} (h:n≤100000):n<sizeLine:=Nat.lt_of_le_of_lt h (by decide)
structure Blt (mg:Str→Option Value):Prop where
  len:mg "len"=none
  range:mg "range"=none
  list:mg "list"=none
  isinstance:mg "isinstance"=none
  bool:mg "bool"=none
  int:mg "int"=none
  all:mg "all"=none
  min:mg "min"=none
  max:mg "max"=none
  sum:mg "sum"=none
  sorted:mg "sorted"=none
  zip:mg "zip"=none
  tuple:mg "tuple"=none
  str:mg "str"=none
  any:mg "any"=none
  enumerate:mg "enumerate"=none
  reversed:mg "reversed"=none
  abs:mg "abs"=none
  ValueError:mg "ValueError"=none
  set:mg "set"=none
structure Mth (mg:Str→Option Value):Prop where
  MOUTH:∃ t,mg "MOUTH"=some (.int (-1) t)
section
variable {X:Cx} {K:PySem.W.Frag}
theorem jH (h:X.K=K):IxR X (Tj K):=h ▸ aH
theorem zL (h:X.K=K):IxR X (Ti K):=h ▸ d9
theorem qR (h:X.K=K):mG X (.builtin "len") (fun xs H Q=>∃ p ys,xs=[.ref p]∧(SqL K H p ys∨SqT K H p ys)∧Q (.int ys.length) H):=h ▸ aC
end
end L2
namespace L2
open PySem PySem.W PyProof.Rows
structure Arr (N:Nat) (p:Array Nat):Prop where
  size:p.size=N
  perm:p.toList.Perm (List.range N)
theorem Arr.start (N:Nat):Arr N (List.toArray (List.range N)):=⟨by simp,by simp⟩
theorem Arr.nd {N:Nat} {p:Array Nat} (h:Arr N p):p.toList.Nodup:=h.perm.nodup_iff.mpr List.nodup_range
theorem Arr.get {N:Nat} {p:Array Nat} (h:Arr N p) {i:Nat} (hi:i<N):p.toList[i]?=some (p.getD i 0):=by
  have hi':i<p.size:=by rw [h.size];exact hi
  simp [Array.getD,hi']
theorem Arr.lt {N:Nat} {p:Array Nat} (h:Arr N p) {i:Nat} (hi:i<N):p.getD i 0<N:=by
  have:=h.perm.mem_iff.mp (List.mem_of_getElem? (h.get hi))
  exact List.mem_range.mp this
theorem Arr.ne {N:Nat} {p:Array Nat} (h:Arr N p) {i j:Nat} (hi:i<N) (hj:j<N) (hij:i≠j):p.getD i 0≠p.getD j 0:=by
  intro e
  obtain ⟨a1,a2⟩:=List.getElem?_eq_some_iff.mp (h.get hi)
  obtain ⟨b1,b2⟩:=List.getElem?_eq_some_iff.mp (h.get hj)
  exact hij ((List.getElem_inj h.nd).mp (by rw [a2,b2,e]))
theorem Arr.zf {N:Nat} {p q:Array Nat} (h:Arr N p) (hs:q.size=p.size) (hp:q.Perm p):Arr N q:=⟨hs.trans h.size,(Array.perm_iff_toList_perm.mp hp).trans h.perm⟩
theorem Arr.rev {N:Nat} {p:Array Nat} (h:Arr N p) (i j:Nat):Arr N (kas_rev p i j):=h.zf (mirror_size _ _ _ _) (mirror_perm _ _ _ _)
theorem Arr.bub {N:Nat} {p:Array Nat} (h:Arr N p) (k d:Nat):Arr N (bubble p k d):=h.zf (bubble_size _ _ _) (bubble_perm _ _ _)
theorem qL {p q:Array Nat} {i j:Nat} (h:p[i]?=q[j]?):p.getD i 0=q.getD j 0:=by
  rw [Array.getD_eq_getD_getElem?,Array.getD_eq_getD_getElem?,h]
theorem yN {N:Nat} {p:Array Nat} (h:Arr N p) {n k:Nat} (hn:n≤N) (hk:k<n):(kas_rev p 0 n).getD k 0=p.getD (n - 1 - k) 0:=by
  refine qL ?_
  unfold kas_rev
  rw [getElem?_mirror (by rw [h.size];exact hn) ((n - 0) / 2) (by omega) k]
  split
  · congr 1;omega
  · congr 1;omega
theorem Am {N:Nat} {p:Array Nat} (h:Arr N p) {k l j:Nat} (hk:k<N) (hl:l≤k):(bubble p k (k - l)).getD j 0=if j=l then p.getD k 0 else if l<j∧j≤k then p.getD (j - 1) 0 else p.getD j 0:=by
  have e:=getElem?_bubble (xs:=p) (src:=k) (by rw [h.size];exact hk) (k - l) (by omega) j
  have e1:k - (k - l)=l:=by omega
  rw [e1] at e
  by_cases h1:j=l
  · rw [if_pos h1] at e ⊢;exact qL e
  · rw [if_neg h1] at e ⊢
    by_cases h2:l<j∧j≤k
    · rw [if_pos h2] at e ⊢;exact qL e
    · rw [if_neg h2] at e ⊢;exact qL e
section
variable {N:Nat} {κ:Nat→Int} {R:Shared→Prop} {cmp:Nat→Nat→(Bool→Shared→Prop)→Shared→Prop}
def Srt (κ:Nat→Int) (p:Array Nat) (n:Nat):Prop:=∀ i j,i<j→j<n→κ (p.getD i 0)<κ (p.getD j 0)
def Dsc (κ:Nat→Int) (p:Array Nat) (n:Nat):Prop:=∀ i j,i<j→j<n→κ (p.getD j 0)<κ (p.getD i 0)
def Cmp (N:Nat) (κ:Nat→Int) (R:Shared→Prop) (cmp:Nat→Nat→(Bool→Shared→Prop)→Shared→Prop):Prop :=
  ∀ i j C s,i<N→j<N→R s→(∀ s',R s'→C (decide (κ i<κ j)) s')→cmp i j C s
def Inj (N:Nat) (κ:Nat→Int):Prop:=∀ i j,i<N→j<N→i≠j→κ i≠κ j
theorem Srt.snoc {p:Array Nat} {n:Nat} (h:Srt κ p n) (hn:1≤n) (e:κ (p.getD (n - 1) 0)<κ (p.getD n 0)):Srt κ p (n + 1):=fun i j hij hj=>by
  by_cases hjn:j=n
  · subst hjn
    by_cases hi:i=j - 1
    · rw [hi];exact e
    · have:=h i (j - 1) (by omega) (by omega)
      omega
  · exact h i j hij (by omega)
theorem Dsc.snoc {p:Array Nat} {n:Nat} (h:Dsc κ p n) (hn:1≤n) (e:κ (p.getD n 0)<κ (p.getD (n - 1) 0)):Dsc κ p (n + 1):=fun i j hij hj=>by
  by_cases hjn:j=n
  · subst hjn
    by_cases hi:i=j - 1
    · rw [hi];exact e
    · have:=h i (j - 1) (by omega) (by omega)
      omega
  · exact h i j hij (by omega)
variable (hc:Cmp N κ R cmp) (hI:Inj N κ)
include hc hI
theorem qd {p:Array Nat} (A:Arr N p) {Q:Nat→Shared→Prop}:∀ (f n:Nat) (s:Shared),1≤n→n + f=N→Srt κ p n→R s →
    (∀ m s',n≤m→m≤N→Srt κ p m→(m<N→κ (p.getD m 0)<κ (p.getD (m - 1) 0))→R s'→Q m s')→(kas_asc p f n).kasWp cmp Q s
  | 0,n,s,h1,hf,hS,r,k=>k n s (Nat.le_refl _) (by omega) hS (fun z=>by omega) r
  | f + 1,n,s,h1,hf,hS,r,k=>by
    unfold kas_asc
    refine hc _ _ _ s (A.lt (by omega)) (A.lt (by omega)) r fun s' r'=>?_
    by_cases hlt:κ (p.getD n 0)<κ (p.getD (n - 1) 0)
    · rw [decide_eq_true hlt];dsimp only;rw [if_pos rfl]
      exact k n s' (Nat.le_refl _) (by omega) hS (fun _=>hlt) r'
    · rw [decide_eq_false hlt];dsimp only;rw [if_neg Bool.false_ne_true]
      have hne:=hI _ _ (A.lt (show n<N by omega)) (A.lt (show n - 1<N by omega)) (A.ne (show n<N by omega) (show n - 1<N by omega) (by omega))
      exact qd A f (n + 1) s' (by omega) (by omega) (hS.snoc h1 (by omega)) r' fun m s2 a b c d e=>k m s2 (by omega) b c d e
theorem rC {p:Array Nat} (A:Arr N p) {Q:Array Nat × Nat × Nat→Shared→Prop}:∀ (f n:Nat) (s:Shared),1≤n→n + f=N→Dsc κ p n→R s →
    (∀ m s',n≤m→m≤N→Dsc κ p m→R s'→Q (p,m,0) s')→(kas_desc f p n 0).kasWp cmp Q s
  | 0,n,s,h1,hf,hS,r,k=>k n s (Nat.le_refl _) (by omega) hS r
  | f + 1,n,s,h1,hf,hS,r,k=>by
    unfold kas_desc
    refine hc _ _ _ s (A.lt (by omega)) (A.lt (by omega)) r fun s' r'=>?_
    by_cases hlt:κ (p.getD n 0)<κ (p.getD (n - 1) 0)
    · rw [decide_eq_true hlt];dsimp only;rw [if_pos rfl,if_neg (by omega)]
      exact rC A f (n + 1) s' (by omega) (by omega) (hS.snoc h1 hlt) r' fun m s2 a b c d=>k m s2 (by omega) b c d
    · rw [decide_eq_false hlt];dsimp only;rw [if_neg Bool.false_ne_true]
      have hne:=hI _ _ (A.lt (show n<N by omega)) (A.lt (show n - 1<N by omega)) (A.ne (show n<N by omega) (show n - 1<N by omega) (by omega))
      refine hc _ _ _ s' (A.lt (by omega)) (A.lt (by omega)) r' fun s2 r2=>?_
      rw [decide_eq_true (by omega)];dsimp only;rw [if_pos rfl]
      exact k n s2 (Nat.le_refl _) (by omega) hS r2
theorem wK {p:Array Nat} (A:Arr N p) (h2:2≤N) {Q:Nat × Array Nat→Shared→Prop} {s:Shared} (r:R s)
    (k:∀ m p' s',1≤m→m≤N→Arr N p'→Srt κ p' m→R s'→Q (m,p') s'):(kas_count N p).kasWp cmp Q s:=by
  unfold kas_count
  rw [KasT.kasWp_bind]
  refine qd hc hI A (N - 1) 1 s (Nat.le_refl _) (by omega) (fun i j a b=>by omega) r fun n s' h1 hn hS hd r'=>?_
  by_cases hnN:n=N
  · rw [if_pos (by simp [hnN])]
    exact k n p s' h1 hn A hS r'
  · rw [if_neg (by simp [hnN])]
    have hd':=hd (by omega)
    by_cases h1n:n > 1
    · rw [if_pos h1n]
      refine hc _ _ _ s' (A.lt (by omega)) (A.lt (by omega)) r' fun s2 r2=>?_
      rw [decide_eq_true (hS 0 (n - 1) (by omega) (by omega))];dsimp only;rw [if_pos rfl]
      exact k n p s2 h1 hn A hS r2
    · rw [if_neg h1n]
      have hn1:n=1:=by omega
      subst hn1
      unfold kas_descPart
      rw [KasT.kasWp_bind]
      refine rC hc hI A (N - 2) 2 s' (by omega) (by omega) (fun i j a b=>?_) r' fun m s2 hm2 hm hD r2=>?_
      · have hi:i=0:=by omega
        have hj:j=1:=by omega
        subst hi;subst hj
        exact hd'
      · rw [if_neg (by show ¬ (0:Nat) > 0;omega)]
        show (kas_tail3 m N p).kasWp cmp Q s2
        unfold kas_tail3
        rw [KasT.kasWp_bind]
        refine qd hc hI (A.rev 0 m) (N - m) m s2 (by omega) (by omega) (fun i j a b=>?_) r2 fun m' s3 a b c d e=>?_
        · rw [yN A hm (by omega),yN A hm (by omega)]
          exact hD _ _ (by omega) (by omega)
        · exact k m' _ s3 (by omega) b (A.rev 0 m) c e
theorem mj {p:Array Nat} (A:Arr N p) {k:Nat} (hk:k<N) (hS:Srt κ p k) {Q:Nat→Shared→Prop}:∀ (f l r:Nat) (s:Shared),l≤r→r≤k→r - l≤f →
    (∀ i,i<l→κ (p.getD i 0)<κ (p.getD k 0))→(∀ i,r≤i→i<k→κ (p.getD k 0)<κ (p.getD i 0))→R s →
    (∀ l s',l≤k→(∀ i,i<l→κ (p.getD i 0)<κ (p.getD k 0))→(∀ i,l≤i→i<k→κ (p.getD k 0)<κ (p.getD i 0))→R s'→Q l s')→(kas_place p k f l r).kasWp cmp Q s
  | 0,l,r,s,h1,h2,hf,ha,hb,hr,q=>by
    have e:l=r:=by omega
    subst e
    exact q l s h2 ha hb hr
  | f + 1,l,r,s,h1,h2,hf,ha,hb,hr,q=>by
    unfold kas_place
    by_cases hlr:l ≥ r
    · rw [if_pos hlr]
      have e:l=r:=by omega
      subst e
      exact q l s h2 ha hb hr
    · rw [if_neg hlr]
      have m1:(l + r) / 2<r:=by omega
      have m0:l≤(l + r) / 2:=by omega
      refine hc _ _ _ s (A.lt hk) (A.lt (by omega)) hr fun s' r'=>?_
      by_cases hlt:κ (p.getD k 0)<κ (p.getD ((l + r) / 2) 0)
      · rw [decide_eq_true hlt];dsimp only;rw [if_pos rfl]
        refine mj A hk hS f l ((l + r) / 2) s' m0 (by omega) (by omega) ha (fun i hi hik=>?_) r' q
        by_cases he:i=(l + r) / 2
        · rw [he];exact hlt
        · have:=hS ((l + r) / 2) i (by omega) hik
          omega
      · rw [decide_eq_false hlt];dsimp only;rw [if_neg Bool.false_ne_true]
        have hne:=hI _ _ (A.lt hk) (A.lt (show (l + r) / 2<N by omega)) (A.ne hk (show (l + r) / 2<N by omega) (by omega))
        refine mj A hk hS f ((l + r) / 2 + 1) r s' (by omega) h2 (by omega) (fun i hi=>?_) hb r' q
        by_cases he:i=(l + r) / 2
        · rw [he];omega
        · have:=hS i ((l + r) / 2) (by omega) (by omega)
          omega
theorem u6 {Q:Array Nat→Shared→Prop} (q:∀ p s',Arr N p→Srt κ p N→R s'→Q p s'):∀ (f:Nat) (p:Array Nat) (k:Nat) (s:Shared),Arr N p→k + f=N→Srt κ p k→R s→(kas_bin f p k).kasWp cmp Q s
  | 0,p,k,s,A,hf,hS,r=>by
    have e:k=N:=by omega
    subst e
    exact q p s A hS r
  | f + 1,p,k,s,A,hf,hS,r=>by
    unfold kas_bin
    rw [KasT.kasWp_bind]
    refine mj hc hI A (show k<N by omega) hS k 0 k s (Nat.zero_le _) (Nat.le_refl _) (by omega) (fun i hi=>by omega) (fun i a b=>by omega) r fun l s' hl ha hb r'=>?_
    refine u6 q f _ (k + 1) s' (A.bub k (k - l)) (by omega) (fun i j hij hj=>?_) r'
    rw [Am A (by omega) hl,Am A (by omega) hl]
    by_cases h1:i=l
    · rw [if_pos h1,if_neg (by omega),if_pos (by omega)]
      exact hb _ (by omega) (by omega)
    · rw [if_neg h1]
      by_cases h2:j=l
      · rw [if_pos h2,if_neg (by omega)]
        exact ha _ (by omega)
      · rw [if_neg h2]
        by_cases h3:l<i∧i≤k
        · rw [if_pos h3,if_pos (by omega)]
          exact hS _ _ (by omega) (by omega)
        · rw [if_neg h3]
          by_cases h4:l<j∧j≤k
          · rw [if_pos h4]
            by_cases h5:i<j - 1
            · exact hS _ _ h5 (by omega)
            · omega
          · rw [if_neg h4]
            exact hS _ _ hij (by omega)
theorem yh (h2:2≤N) {Q:Array Nat→Shared→Prop} {s:Shared} (r:R s) (q:∀ p s',Arr N p→Srt κ p N→R s'→Q p s'):(kas_sort N).kasWp cmp Q s:=by
  unfold kas_sort
  rw [KasT.kasWp_bind]
  refine wK hc hI (Arr.start N) h2 r fun m p' s' h1 hm A hS r'=>?_
  by_cases hlt:m<N
  · rw [if_pos hlt]
    have e:max m 1=m:=by omega
    rw [e]
    exact u6 hc hI q _ p' m s' A (by omega) hS r'
  · rw [if_neg hlt]
    have e:m=N:=by omega
    subst e
    exact q p' s' A hS r'
end
end L2
namespace L2
open PySem PySem.Spec PyProof.Rows
section
variable {X:Cx} {pins:List (Addr × Obj)} {σ:St} {H:Hp} {s:Shared} {a:Addr} {o:HO}
theorem Inv.adopt (I:Inv X pins σ H s) (hn:H a=none) (hL:a≠X.env.locals) (h0:X.s₀.heap.objs.size≤a) (hc:∀ x c,X.env.cells.lookup x=some c→c≠a) (hp:∀ p∈X.pn++pins,p.1≠a)
    (new:eV X.prog X.w (upd H a o) s.heap a o):Inv X pins σ (upd H a o) s:=by
  have ne:∀ b u,H b=some u→b≠a:=fun b u e=>aR e hn
  refine ⟨I.ok,I.os,I.bare,⟨I.base.keep,I.base.slot,fun b ob e n hx=>?_,I.base.there,fun b xs e=>?_,fun b ob xs e=>?_,fun b ps e=>?_⟩,I.loc,I.cell,?_,fun x c e=>?_,fun p hq=>?_,fun b u e=>?_,I.len⟩
  · rw [aN (Nat.ne_of_lt (Nat.lt_of_lt_of_le (Heap.lt_size e) h0))];exact I.base.free b ob e n hx
  · have:=I.base.tups b xs e;rw [aN (ne b _ this)];exact this
  · have:=I.base.frzs b ob xs e;rw [aN (ne b _ this)];exact this
  · obtain ⟨m,e1⟩:=I.base.tbls b ps e;exact ⟨m,by rw [aN (ne b _ e1)];exact e1⟩
  · rw [aN hL.symm];exact I.free
  · rw [aN (hc x c e)];exact I.freeC x c e
  · obtain ⟨e1,n,r⟩:=I.pin p hq;exact ⟨e1,by rw [aN (hp p hq)];exact n,r⟩
  · by_cases hb:b=a
    · subst hb;rw [aV] at e;cases e;exact new
    · rw [aN hb] at e
      exact (I.hok b u e).stay (fun _ _ _ q=>q) (fun c q=>by rw [aN (ne c _ q)];exact q) fun c xs q=>by rw [aN (ne c _ q)];exact q
end
section
variable {prog:Program} {w:World} {A:Around} {E:Value→Shared→Prop} {s:Shared}
theorem qP {r:Addr} {b:Int} {t u v:Tok} {n:Nat} {Q:List Value→Shared→Prop} (hh:A.handled=none) (hr:IsRange s.heap r 0 b 1 t u v) (hsmall:Builtin.Range.small 0 b 1=true)
    (hn:Builtin.Range.rangeSize 0 b 1=n) (hlen:n≤2 ^ 24)
    (h:∀ h' tk vs,(∀ b o,s.heap.get? b=some o→h'.get? b=some o)→Vals ((List.range n).map fun (i:Nat)=>V.int (i:Int)) vs→Q vs { s with heap:=h',toks:=tk }) :
    wpAny (model prog w) A (collect (.ref r)) Q E s:=by
  unfold collect
  refine wpAny_bind (wpAny_runValue (codeAny_builtin entry_proto_collect' ?_))
  show wpAny _ _ (do again (.builtin "list.__iadd__" ⟨[← newList [],.ref r],[]⟩)) _ _ s
  refine wpAny_bind (wpAny_newList (wpAny_pure ⟨Code.quiet_builtin _ (by decide +kernel),codeAny_builtin entry_list_iadd' ?_⟩))
  have e1:A.under (.builtin "proto.collect" ⟨[.ref r],[]⟩)=A.in1:=Around.under_plainId F.plain_proto_collect _
  have e2:A.under (.builtin "list.__iadd__" ⟨[.ref s.heap.objs.size,.ref r],[]⟩)=A.in1:=Around.under_plainId F.plain_list_iadd _
  rw [e2]
  show wpAny _ A.in1 (Builtin.List.listExtendWith (.ref s.heap.objs.size) (.ref r) (.ref s.heap.objs.size)) _ _ { s with heap:=s.heap.push (seqObj "list" #[] 0) }
  have hS:(s.heap.push (seqObj "list" #[] 0)).get? s.heap.objs.size=some { cls:=.type "list",data:=.seq #[] 0 }:=Heap.get?_push_size _ rfl
  have hr':IsRange (s.heap.push (seqObj "list" #[] 0)) r 0 b 1 t u v:=Heap.get?_push_of_some _ hr
  refine wpAny_mono (wpAny_extend_range (A:=A) (R:=fun r s'=>match r with
      | .ok (.ret v)=>wpAny (model prog w) A (match v with
          | .ref a=>do
            let o ← load a
            match o.data with
            | .seq xs _=>pure xs.toList
            | _=>unsupported "internal:collect"
          | _=>unsupported "internal:collect") Q E s'
      | .ok _=>False
      | .error e=>E e s') (s:={ s with heap:=s.heap.push (seqObj "list" #[] 0) }) hh hr' hsmall hn hlen s.heap.objs.size (.ref s.heap.objs.size) 0 hS fun h' tk acc c hk hS' hacc=>?_) (fun fin s' q=>?_) (fun e s' q=>q)
  case refine_2 =>
    cases fin with
    | done f=>exact q
    | again c'=>exact q
  show wpAny (model prog w) A (do
      let o ← load s.heap.objs.size
      match o.data with
      | .seq xs _=>pure xs.toList
      | _=>unsupported "internal:collect") Q E { s with heap:=h',toks:=tk }
  refine wpAny_bind (wpAny_load hS' ?_)
  refine wpAny_pure (h h' tk acc.toList (fun b o e=>hk b o (Nat.ne_of_lt (Heap.lt_size e)) (Heap.get?_push_of_some _ e)) ?_)
  have hsz:acc.toList.length=n:=by rw [Array.length_toList];exact hacc.1
  have key:∀ (k:Nat) (l:List Value),l.length=k→(∀ (j:Nat) (v:Value),l[j]?=some v→∃ t,v=.int ((n - k + j:Nat):Int) t)→k≤n→Vals ((List.range' (n - k) k).map fun (i:Nat)=>V.int (i:Int)) l:=by
    intro k
    induction k with
    | zero =>
      intro l hl _ _
      have:l=[]:=List.length_eq_zero_iff.mp hl
      subst this
      exact .nil
    | succ k ih =>
      intro l hl hP hk
      match l,hl with
      | v :: l,hl =>
        have hl':l.length=k:=by simpa using hl
        rw [List.range'_succ,List.map_cons]
        obtain ⟨t,ht⟩:=hP 0 v rfl
        refine .cons ⟨t,?_⟩ ?_
        · rw [ht];rfl
        · have e:n - (k + 1) + 1=n - k:=by omega
          rw [e]
          refine ih l hl' (fun j v' e'=>?_) (by omega)
          obtain ⟨t',ht'⟩:=hP (j + 1) v' (by simpa using e')
          exact ⟨t',by rw [ht'];congr 2;omega⟩
  have:=key n acc.toList hsz (fun j v e=>by
    obtain ⟨t,ht⟩:=hacc.2 j v (by simpa using e)
    refine ⟨t,?_⟩
    rw [ht]
    congr 1
    omega) (Nat.le_refl _)
  rw [Nat.sub_self,← List.range_eq_range'] at this
  exact this
end
end L2
namespace L2
open PySem PySem.W PySem.Spec PyProof.Rows
section
variable {prog:Program} {w:World} {A:Around} {E:Value→Shared→Prop} {s:Shared}
theorem oF {Q:Bool→Shared→Prop}:∀ {xs ys:List Value} {ns ms:List Int},IntsAre xs ns→IntsAre ys ms→ns.length=ms.length→∀ i:Nat,Q (HT.lexLt ns ms) s→KatLex prog w A true false Q (xs.zip ys) i s
  | _,_,_,_,.nil,.nil,_,i,q=>by rw [List.zip_nil_left];exact kat_nil q
  | _,_,_,_,.nil,.cons _ _ _,hl,_,_=>by simp at hl
  | _,_,_,_,.cons _ _ _,.nil,hl,_,_=>by simp at hl
  | _,_,_,_,.cons a t hx,.cons c u hy,hl,i,q=>by
    rw [List.zip_cons_cons]
    refine kat_cons (wpAny_eqBool_int ?_)
    rw [HT.iJ] at q
    by_cases h:a=c
    · rw [if_pos h] at q
      have e:(a == c)=true:=by simp [h]
      rw [e]
      exact kat_yes (oF hx hy (by simpa using hl) (i + 1) q)
    · rw [if_neg h] at q
      have e:(a == c)=false:=by simp [h]
      rw [e]
      refine kat_no ?_
      by_cases hi:i=0
      · have ei:(true && i == 0)=true:=by simp [hi]
        rw [ei]
        exact oneLt_int q
      · have ei:(true && i == 0)=false:=by simp [hi]
        rw [ei]
        exact kat_one _ _ (lt_int q)
structure Keys (h:Heap) (ks:List Value) (key:Nat→List Int) (N len:Nat):Prop where
  size:ks.length=N
  at_:∀ i,i<N→∃ t its,ks[i]?=some (.ref t)∧IsTup h t its.toArray∧IntsAre its (key i)
  long:∀ i,i<N→(key i).length=len + 1
theorem Keys.cmp {ks:List Value} {key:Nat→List Int} {N len:Nat} {κ:Nat→Int} (K:Keys s.heap ks key N len) (hκ:∀ i j,i<N→j<N→HT.lexLt (key i) (key j)=decide (κ i<κ j)) :
    Cmp N κ (fun s'=>s'=s) (kas_ask prog w A (tuples' true) ks):=by
  intro i j C s1 hi hj e h
  subst e
  obtain ⟨t,its,e1,⟨o,ho,hc,n,hd⟩,i1⟩:=K.at_ i hi
  obtain ⟨t2,its2,e2,⟨o2,ho2,hc2,n2,hd2⟩,i2⟩:=K.at_ j hj
  unfold kas_ask
  rw [List.getD_eq_getElem?_getD,List.getD_eq_getElem?_getD,e1,e2]
  have l1:its.length=(key i).length:=i1.length
  have l2:its2.length=(key j).length:=i2.length
  have hl:(key i).length=(key j).length:=by rw [K.long i hi,K.long j hj]
  refine kat_lt ho hd ho2 hd2 ?_
  have ef:decide (its.toArray.size<its2.toArray.size)=false:=decide_eq_false (by simp only [List.size_toArray];omega)
  rw [ef]
  refine oF i1 i2 hl 0 ?_
  rw [hκ i j hi hj]
  exact h s1 rfl
theorem Keys.tups {key:Nat→List Int} {len:Nat}:∀ {ks:List Value} {N:Nat},Keys s.heap ks key N len→∃ fs:List Value,KatTups s.heap ks fs∧fs.length=N∧∀ v∈fs,∃ a t,v=.int a t:=by
  have go:∀ (ks:List Value),(∀ i,i<ks.length→∃ t its a u r,ks[i]?=some (.ref t)∧IsTup s.heap t its.toArray∧its=Value.int a u :: r)→∃ fs:List Value,KatTups s.heap ks fs∧fs.length=ks.length∧∀ v∈fs,∃ a t,v=Value.int a t:=by
    intro ks
    induction ks with
    | nil=>intro _;exact ⟨[],trivial,rfl,fun v hv=>nomatch hv⟩
    | cons k ks ih =>
      intro h
      obtain ⟨fs,h1,h2,h3⟩:=ih fun i hi=>by
        obtain ⟨t,its,a,u,r,e,p⟩:=h (i + 1) (by simpa using hi)
        exact ⟨t,its,a,u,r,by simpa using e,p⟩
      obtain ⟨t,its,a,u,r,e,⟨o,ho,hc,n,hd⟩,rfl⟩:=h 0 (by simp)
      have e':k=.ref t:=by simpa using e
      subst e'
      refine ⟨.int a u :: fs,KatTups.cons ho hc hd rfl h1,by simp [h2],fun v hv=>?_⟩
      rcases List.mem_cons.mp hv with e | e
      · exact ⟨a,u,e⟩
      · exact h3 v e
  intro ks N K
  obtain ⟨fs,h1,h2,h3⟩:=go ks fun i hi=>by
    obtain ⟨t,its,e1,p,i1⟩:=K.at_ i (by rw [← K.size];exact hi)
    have hl:=K.long i (by rw [← K.size];exact hi)
    generalize key i=kl at i1 hl
    cases i1 with
    | nil=>simp at hl
    | cons a u hx=>exact ⟨t,_,a,u,_,e1,p,rfl⟩
  exact ⟨fs,h1,by rw [h2,K.size],h3⟩
end
end L2
namespace L2
open PySem PySem.W PySem.Spec PyProof.Rows
def lW (κ:Nat→Int) (xs ys:List V):Prop:=∃ p:List Nat,p.Perm (List.range xs.length)∧ys=p.map (fun i=>xs.getD i .non)∧p.Pairwise fun i j=>κ i<κ j
theorem yH {κ:Nat→Int} {xs:List V} {p:Array Nat} (A:Arr xs.length p) (hS:Srt κ p xs.length):lW κ xs (p.toList.map fun i=>xs.getD i .non):=by
  refine ⟨p.toList,A.perm,rfl,?_⟩
  rw [List.pairwise_iff_getElem]
  intro i j hi hj hij
  have hj':j<xs.length:=by rw [Array.length_toList,A.size] at hj;exact hj
  have e1:p.toList[i]=p.getD i 0:=by
    have:=A.get (show i<xs.length by omega)
    rw [List.getElem?_eq_getElem hi] at this
    exact Option.some.inj this
  have e2:p.toList[j]=p.getD j 0:=by
    have:=A.get hj'
    rw [List.getElem?_eq_getElem hj] at this
    exact Option.some.inj this
  rw [e1,e2]
  exact hS i j hij hj'
theorem rm {xs:List V} {vs:List Value} (r:Vals xs vs):∀ (p:List Nat),(∀ i∈p,i<xs.length)→Vals (p.map fun i=>xs.getD i .non) (p.map fun i=>vs.getD i .none)
  | [],_=>.nil
  | i :: p,h=>by
    have hi:i<xs.length:=h i List.mem_cons_self
    obtain ⟨u,e,ru⟩:=r.get (List.getElem?_eq_getElem hi)
    refine .cons ?_ (rm r p fun j hj=>h j (List.mem_cons_of_mem _ hj))
    show RelV (xs.getD i .non) (vs.getD i .none)
    rw [List.getD_eq_getElem?_getD,List.getD_eq_getElem?_getD,e,List.getElem?_eq_getElem hi]
    exact ru
section
variable {X:Cx} {pins:List (Addr × Obj)} {σ:St} {H:Hp} {s:Shared} {A:Around} {E:Value→Shared→Prop}
theorem Inv.mz (I:Inv X pins σ H s) {b:Addr} {o:Obj} (f:qY X pins H b) (e:s.heap.get? b=some o) (d:∀ v,o.data≠.cell v):Inv X (pins++[(b,o)]) σ H s :=
  I.um fun p hp=>(List.mem_append.mp hp).elim (fun z=>I.pin p (List.mem_append_right _ z)) fun z=>by
    have e':p=(b,o):=by simpa using z
    subst e'
    obtain ⟨f0,f1,f2,_⟩:=f
    exact ⟨e,f0,f1,f2,d⟩
theorem sort_keys {f:Value} {D kS:Addr} {e1:Nat} {xs:List V} {vs:List Value} (rv:Vals xs vs) (h64:xs.length<64) (Pv:Nat→List Addr→Hp→Prop)
    (fpD:∀ H',H' D=none→qY X pins H' D) (fpK:∀ H',H' kS=none→qY X pins H' kS) (hDK:D≠kS)
    (hcall:∀ i x u ts pins' s' H',xs[i]?=some x→RelV x u→Inv X pins' σ H' s'→(∀ p∈pins,p∈pins')→Pv i ts H'→wpAny (model X.prog X.w) A (call f [u]) (fun k s2=>∃ t H2,k=.ref t∧Inv X pins' σ H2 s2∧Pv (i + 1) (ts++[t]) H2) (fun _ _=>False) s')
    {body:Value→PUnit→Sem (ForInStep PUnit)}
    (hb:∀ x (s:Shared) (R:Value→Shared→Prop) (Q:ForInStep PUnit→Shared→Prop),wpAny (model X.prog X.w) A (call f [x]) R (fun _ _=>False) s→(∀ k s',R k s'→wpAny (model X.prog X.w) A (Builtin.List.listUpdate (.ref kS) (·.push k)) (fun _ s''=>Q (.yield ⟨⟩) s'') E s') →
      wpAny (model X.prog X.w) A (body x ⟨⟩) Q E s) :
    ∀ (r:List Value) (i:Nat) (ts:List Addr) (e:Nat) (s:Shared) (H:Hp),vs.drop i=r→ts.length=i→i≤vs.length→Inv X (pins++[(D,seqObj "list" #[] e1)]++[(kS,seqObj "list" (ts.map Value.ref).toArray e)]) σ H s→Pv i ts H →
      wpAny (model X.prog X.w) A (forIn r PUnit.unit body) (fun _ s'=>∃ ts' e' H',ts'.length=vs.length∧Inv X (pins++[(D,seqObj "list" #[] e1)]++[(kS,seqObj "list" (ts'.map Value.ref).toArray e')]) σ H' s'∧Pv vs.length ts' H') E s
  | [],i,ts,e,s,H,hr,hl,hi,I,p=>by
    rw [List.forIn_nil]
    have hn:i=vs.length:=by
      have:=congrArg List.length hr
      rw [List.length_drop] at this
      simp at this
      omega
    subst hn
    exact wpAny_pure ⟨ts,e,H,hl,I,p⟩
  | u :: r,i,ts,e,s,H,hr,hl,hi,I,p=>by
    rw [List.forIn_cons]
    have hlen:=rv.length
    have hiv:i<vs.length:=by
      have:=congrArg List.length hr
      rw [List.length_drop] at this
      simp at this
      omega
    have eu:vs[i]?=some u:=by
      have:(vs.drop i)[0]?=some u:=by rw [hr];rfl
      rw [List.getElem?_drop] at this
      simpa using this
    have hix:i<xs.length:=by omega
    obtain ⟨u',e',ru⟩:=rv.get (List.getElem?_eq_getElem hix)
    rw [eu] at e'
    cases e'
    refine wpAny_bind (hb u s _ _ (hcall i _ u ts _ s H (List.getElem?_eq_getElem hix) ru I (fun p hp=>List.mem_append_left _ (List.mem_append_left _ hp)) p) fun k s2 ⟨t,H2,ek,I2,p2⟩=>?_)
    subst ek
    have pk:=I2.pin (kS,seqObj "list" (ts.map Value.ref).toArray e) (List.mem_append_right _ (List.mem_append_right _ (by simp)))
    have pD:=I2.pin (D,seqObj "list" #[] e1) (List.mem_append_right _ (List.mem_append_left _ (List.mem_append_right _ (by simp))))
    refine listUpdate_at pk.1 rfl ?_ (by rw [List.size_toArray,List.length_map,sizeLine_eq];omega) (by rw [Array.size_push,List.size_toArray,List.length_map,sizeLine_eq];omega)
    have I2':Inv X (pins++[(D,seqObj "list" #[] e1)]) σ H2 s2:=I2.gH
    have fK:qY X (pins++[(D,seqObj "list" #[] e1)]) H2 kS:=by
      obtain ⟨a0,a1,a2,a3,a4,a5⟩:=fpK H2 pk.2.1
      refine ⟨a0,a1,a2,a3,a4,fun p hp=>?_⟩
      rcases List.mem_append.mp hp with z | z
      · exact a5 p (List.mem_append_left _ z)
      · rcases List.mem_append.mp z with z | z
        · exact a5 p (List.mem_append_right _ z)
        · have:p=(D,seqObj "list" #[] e1):=by simpa using z
          rw [this];exact hDK
    obtain ⟨a0,a1,a2,a3,a4,a5⟩:=fK
    have I3:Inv X (pins++[(D,seqObj "list" #[] e1)]) σ H2 { s2 with heap:=s2.heap.update kS (Obj.mapSeq (·.push (Value.ref t))) } :=
      I2'.turned (t':=s2.toks) (fun b o hb e=>(Heap.get?_update_other _ _ (Ne.symm hb)).trans e) a0 a1 a3 a4 a5
    have ea:((ts.map Value.ref).toArray).push (Value.ref t)=((ts++[t]).map Value.ref).toArray:=by simp
    obtain ⟨c2,hc2⟩:∃ c2,(s2.heap.update kS (Obj.mapSeq (·.push (Value.ref t)))).get? kS=some (seqObj "list" ((ts++[t]).map Value.ref).toArray c2):=⟨_,by rw [← ea];exact get?_update_seq pk.1 (·.push (Value.ref t))⟩
    have I4:=I3.mz ⟨a0,a1,a2,a3,a4,a5⟩ hc2 (fun v z=>by cases z)
    show wpAny (model X.prog X.w) A (forIn r PUnit.unit body) _ E _
    refine sort_keys rv h64 Pv fpD fpK hDK hcall hb r (i + 1) (ts++[t]) c2 _ H2 ?_ (by rw [List.length_append,hl];rfl) (by omega) I4 p2
    have:(vs.drop i).drop 1=r:=by rw [hr];rfl
    rw [List.drop_drop] at this
    exact this
end
end L2
namespace L2
open PySem PySem.W PySem.Spec PyProof.Rows
section
variable {X:Cx} {pins:List (Addr × Obj)} {σ:St} {H:Hp} {s:Shared} {A:Around} {E:Value→Shared→Prop}
theorem yI {f:Value} {D:Addr} {n0 m:Nat} {xs:List V} {vs:List Value} {key:Nat→List Int} {κ:Nat→Int} (rv:Vals xs vs) (h64:xs.length<64) (Pv:Nat→List Addr→Hp→Prop) (I:Inv X pins σ H s)
    (hD:s.heap.get? D=some (seqObj "list" vs.toArray n0)) (fpD:∀ H',H' D=none→qY X pins H' D) (nD:H D=none) (hfresh:X.s₀.heap.objs.size≤D) (p0:Pv 0 [] H)
    (hcall:∀ i x u ts pins' s' H',xs[i]?=some x→RelV x u→Inv X pins' σ H' s'→(∀ p∈pins,p∈pins')→Pv i ts H'→wpAny (model X.prog X.w) A (call f [u]) (fun k s2=>∃ t H2,k=.ref t∧Inv X pins' σ H2 s2∧Pv (i + 1) (ts++[t]) H2) (fun _ _=>False) s')
    (htup:∀ ts H',Pv xs.length ts H'→∀ i t,ts[i]?=some t→H' t=some (.tup ((key i).map V.int))) (hlong:∀ i,i<xs.length→(key i).length=m + 1)
    (hκ:∀ i j,i<xs.length→j<xs.length→HT.lexLt (key i) (key j)=decide (κ i<κ j)) (hinj:Inj xs.length κ) :
    wpAny (model X.prog X.w) A (ksk_tree D f false) (fun fin s'=>fin=.done (.ret .none)∧∃ ts H' ys,Pv xs.length ts H'∧H' D=none∧lW κ xs ys∧Inv X pins σ (upd H' D (.lst ys)) s') E s:=by
  have hlen:=rv.length
  unfold ksk_tree
  refine wpAny_bind (listItems_at hD rfl ?_)
  refine wpAny_bind (listUpdate_at hD rfl ?_ (by rw [List.size_toArray,sizeLine_eq];omega) (Nat.zero_le _))
  obtain ⟨e1,ho1⟩:∃ e1,(s.heap.update D (Obj.mapSeq fun _=>(#[]:Array Value))).get? D=some (seqObj "list" #[] e1):=⟨_,get?_update_seq hD fun _=>#[]⟩
  obtain ⟨a0,a1,a2,a3,a4,a5⟩:=fpD H nD
  have I1:Inv X pins σ H { s with heap:=s.heap.update D (Obj.mapSeq fun _=>(#[]:Array Value)) }:=I.turned (t':=s.toks) (fun b o hb e=>(Heap.get?_update_other _ _ (Ne.symm hb)).trans e) a0 a1 a3 a4 a5
  refine wpAny_bind (seqEpoch_at ho1 rfl ?_)
  refine wpAny_bind (wpAny_newTuple ?_ (by show vs.length≤_;rw [sizeLine_eq];omega))
  refine wpAny_bind (wpAny_newList ?_ (Nat.zero_le _))
  refine wpAny_holding ?_
  have I2:Inv X pins σ H { s with heap:=(s.heap.update D (Obj.mapSeq fun _=>(#[]:Array Value))).push (seqObj "tuple" vs.toArray 0) }:=I1.kept (t':=s.toks) fun b o e=>Heap.get?_push_of_some _ e
  have I3:Inv X pins σ H { s with heap:=((s.heap.update D (Obj.mapSeq fun _=>(#[]:Array Value))).push (seqObj "tuple" vs.toArray 0)).push (seqObj "list" #[] 0) }:=I2.kept (t':=s.toks) fun b o e=>Heap.get?_push_of_some _ e
  have fpK:∀ H',H' (((s.heap.update D (Obj.mapSeq fun _=>(#[]:Array Value))).push (seqObj "tuple" vs.toArray 0)).objs.size)=none→qY X pins H' _:=fun H' hn=>I2.uG (Nat.le_refl _) hn
  have nK:H (((s.heap.update D (Obj.mapSeq fun _=>(#[]:Array Value))).push (seqObj "tuple" vs.toArray 0)).objs.size)=none:=I2.hok.fresh (Nat.le_refl _)
  have hDK:D≠((s.heap.update D (Obj.mapSeq fun _=>(#[]:Array Value))).push (seqObj "tuple" vs.toArray 0)).objs.size:=Nat.ne_of_lt (Heap.lt_size (Heap.get?_push_of_some (seqObj "tuple" vs.toArray 0) ho1))
  have hD3:(((s.heap.update D (Obj.mapSeq fun _=>(#[]:Array Value))).push (seqObj "tuple" vs.toArray 0)).push (seqObj "list" #[] 0)).get? D=some (seqObj "list" #[] e1):=Heap.get?_push_of_some _ (Heap.get?_push_of_some _ ho1)
  have hK3:(((s.heap.update D (Obj.mapSeq fun _=>(#[]:Array Value))).push (seqObj "tuple" vs.toArray 0)).push (seqObj "list" #[] 0)).get? (((s.heap.update D (Obj.mapSeq fun _=>(#[]:Array Value))).push (seqObj "tuple" vs.toArray 0)).objs.size)=some (seqObj "list" #[] 0):=Heap.get?_push_size _ rfl
  generalize ((s.heap.update D (Obj.mapSeq fun _=>(#[]:Array Value))).push (seqObj "tuple" vs.toArray 0)).objs.size=kS at fpK nK hDK hK3 ⊢
  generalize hs3:({ s with heap:=((s.heap.update D (Obj.mapSeq fun _=>(#[]:Array Value))).push (seqObj "tuple" vs.toArray 0)).push (seqObj "list" #[] 0) }:Shared)=s3 at I3 ⊢
  have hD3':s3.heap.get? D=some (seqObj "list" #[] e1):=by rw [← hs3];exact hD3
  have hK3':s3.heap.get? kS=some (seqObj "list" #[] 0):=by rw [← hs3];exact hK3
  have I4:Inv X (pins++[(D,seqObj "list" #[] e1)]) σ H s3:=I3.mz (fpD H nD) hD3' (fun v z=>by cases z)
  have fK:∀ H',H' kS=none→qY X (pins++[(D,seqObj "list" #[] e1)]) H' kS:=fun H' hn=>by
    obtain ⟨b0,b1,b2,b3,b4,b5⟩:=fpK H' hn
    refine ⟨b0,b1,b2,b3,b4,fun p hp=>?_⟩
    rcases List.mem_append.mp hp with z | z
    · exact b5 p (List.mem_append_left _ z)
    · rcases List.mem_append.mp z with z | z
      · exact b5 p (List.mem_append_right _ z)
      · have:p=(D,seqObj "list" #[] e1):=by simpa using z
        rw [this];exact hDK
  have I5:=I4.mz (fK H nK) hK3' (fun v z=>by cases z)
  unfold ksk_rest
  refine wpAny_bind (wpAny_rule ?_)
  first
    | rw [List.forIn_toArray]
    | (rw [← Array.forIn_toList];simp only [List.toList_toArray])
    | rw [← Array.forIn_toList]
  refine wpAny_bind (wpAny_mono (sort_keys (E:=E) rv h64 Pv fpD fpK hDK hcall (fun x s' R Q' hx hk=>?_) vs 0 [] 0 s3 H rfl rfl (Nat.zero_le _) I5 p0) (fun _ s4 hd=>?_) fun _ _ x=>x)
  · refine wpAny_bind (wpAny_attempt (wpAny_mono hx (fun k s'' hq=>?_) fun _ _ hF=>hF.elim))
    dsimp only
    refine wpAny_bind (wpAny_mono (hk k s'' hq) (fun _ s5 hq5=>wpAny_pure hq5) fun _ _ x=>x)
  obtain ⟨ts,e',H4,htl,I6,p4⟩:=hd
  have pk:=I6.pin (kS,seqObj "list" (ts.map Value.ref).toArray e') (List.mem_append_right _ (List.mem_append_right _ (by simp)))
  have pD:=I6.pin (D,seqObj "list" #[] e1) (List.mem_append_right _ (List.mem_append_left _ (List.mem_append_right _ (by simp))))
  refine wpAny_bind (listItems_at pk.1 rfl ?_)
  have p4':Pv xs.length ts H4:=by rw [hlen];exact p4
  have I7:Inv X pins σ H4 s4:=I6.gH.gH
  have fin:∀ (st:SortSt) (q:List Nat),(arrOf st).map (·.2)=List.toArray (q.map fun i=>vs.getD i Value.none)→failedOf st=none→(∀ i∈q,i<xs.length)→q.length=xs.length→lW κ xs (q.map fun i=>xs.getD i .non) →
      wpAny (model X.prog X.w) A (ksk_tail D false e1 (.ref kS) st) (fun fin s'=>fin=.done (.ret .none)∧∃ ts H' ys,Pv xs.length ts H'∧H' D=none∧lW κ xs ys∧Inv X pins σ (upd H' D (.lst ys)) s') E s4:=by
    intro st q hout hf hq hql hsb
    unfold ksk_tail
    dsimp only
    refine wpAny_bind (listUpdate_at pk.1 rfl ?_ (by rw [List.size_toArray,List.length_map,sizeLine_eq];omega) (Nat.zero_le _))
    obtain ⟨b0,b1,b2,b3,b4,b5⟩:=fpK H4 pk.2.1
    have I8:Inv X pins σ H4 { s4 with heap:=s4.heap.update kS (Obj.mapSeq fun _=>(#[]:Array Value)) }:=I7.turned (t':=s4.toks) (fun b o hb e=>(Heap.get?_update_other _ _ (Ne.symm hb)).trans e) b0 b1 b3 b4 b5
    have hD8:(s4.heap.update kS (Obj.mapSeq fun _=>(#[]:Array Value))).get? D=some (seqObj "list" #[] e1):=(Heap.get?_update_other _ _ (Ne.symm hDK)).trans pD.1
    refine wpAny_bind (wpAny_letGo ?_)
    refine wpAny_bind (seqEpoch_at hD8 rfl ?_)
    have hsz:(if false=true then ((arrOf st).map (·.2)).reverse else (arrOf st).map (·.2))=List.toArray (q.map fun i=>vs.getD i Value.none):=by rw [if_neg Bool.false_ne_true];exact hout
    refine wpAny_bind (listUpdate_at hD8 rfl ?_ (Nat.zero_le _) (by show (if false=true then ((arrOf st).map (·.2)).reverse else (arrOf st).map (·.2)).size≤_;rw [hsz,List.size_toArray,List.length_map,sizeLine_eq];omega))
    rw [hf]
    simp only [bne_self_eq_false,Bool.false_eq_true,if_false]
    refine wpAny_pure ⟨rfl,ts,H4,_,p4',pD.2.1,hsb,?_⟩
    obtain ⟨c0,c1,c2,c3,c4,c5⟩:=fpD H4 pD.2.1
    have I9:=I8.turned (h':=(s4.heap.update kS (Obj.mapSeq fun _=>(#[]:Array Value))).update D (Obj.mapSeq fun _=>(arrOf st).map (·.2))) (t':=s4.toks) (fun b o hb e=>(Heap.get?_update_other _ _ (Ne.symm hb)).trans e) c0 c1 c3 c4 c5
    obtain ⟨cc,hcc⟩:∃ cc,((s4.heap.update kS (Obj.mapSeq fun _=>(#[]:Array Value))).update D (Obj.mapSeq fun _=>(arrOf st).map (·.2))).get? D=some (seqObj "list" (q.map fun i=>vs.getD i Value.none).toArray cc):=⟨_,by rw [← hout];exact get?_update_seq hD8 fun _=>(arrOf st).map (·.2)⟩
    exact I9.adopt pD.2.1 c1 hfresh c4 c5 ⟨by rw [List.length_map,sizeLine_eq];omega,_,cc,rm rv q hq,hcc⟩
  have eks:ts.length=xs.length:=by omega
  unfold ksk_end
  dsimp only
  rw [if_neg Bool.false_ne_true]
  by_cases h2:xs.length<2
  · have hs2:vs.toArray.size<2:=by rw [List.size_toArray];omega
    rw [if_pos hs2,if_pos hs2]
    refine wpAny_bind (wpAny_pure ?_)
    refine wpAny_bind ?_
    rw [StateT.run_pure]
    refine wpAny_pure ?_
    dsimp only
    have hr:∀ i∈List.range xs.length,i<xs.length:=fun i hi=>List.mem_range.mp hi
    refine fin _ (List.range xs.length) ?_ rfl hr (List.length_range) ⟨List.range xs.length,List.Perm.refl _,rfl,?_⟩
    · show ((if false=true then ((ts.map Value.ref).toArray.zip vs.toArray).reverse else (ts.map Value.ref).toArray.zip vs.toArray)).map (·.2)=_
      rw [if_neg Bool.false_ne_true]
      apply Array.toList_inj.mp
      rw [Array.toList_map,Array.toList_zip,List.map_snd_zip (by rw [List.toList_toArray,List.toList_toArray,List.length_map];omega)]
      rw [List.toList_toArray]
      apply List.ext_getElem?
      intro j
      rw [List.toList_toArray,List.getElem?_map]
      by_cases hj:j<xs.length
      · rw [List.getElem?_range hj]
        show _=some (vs.getD j Value.none)
        rw [List.getD_eq_getElem?_getD,List.getElem?_eq_getElem (by omega)];rfl
      · rw [List.getElem?_eq_none (by omega),List.getElem?_eq_none (by rw [List.length_range];omega)];rfl
    · match hx:xs.length,h2 with
      | 0,_=>exact List.Pairwise.nil
      | 1,_=>exact List.pairwise_singleton _ _
  · have hs2:¬ vs.toArray.size<2:=by rw [List.size_toArray];omega
    rw [if_neg hs2,if_neg hs2]
    have KK:Keys s4.heap (ts.map Value.ref) key xs.length m:=by
      refine ⟨by rw [List.length_map];exact eks,fun i hi=>?_,hlong⟩
      have hit:i<ts.length:=by omega
      have et:=htup ts H4 p4' i ts[i] (List.getElem?_eq_getElem hit)
      obtain ⟨_,its,r,hT⟩:=I7.hok _ _ et
      exact ⟨ts[i],its,by rw [List.getElem?_map,List.getElem?_eq_getElem hit];rfl,hT,intsAre_of r⟩
    obtain ⟨fs,kt,kl,kv⟩:=KK.tups
    refine wpAny_bind (kat_kind kt (by omega) (fun v hv=>by obtain ⟨a,t,rfl⟩:=kv v hv;exact Looks.of_pure rfl) (T:=.type "int") (by decide) ?_)
    have ett:(Value.type "int" != Value.type "tuple")=true:=by decide
    rw [ett]
    have ez:(if false=true then ((ts.map Value.ref).toArray.zip vs.toArray).reverse else (ts.map Value.ref).toArray.zip vs.toArray)=(ts.map Value.ref).toArray.zip vs.toArray:=by rw [if_neg Bool.false_ne_true]
    rw [ez]
    have hkl:(ts.map Value.ref).length=vs.length:=by rw [List.length_map];omega
    have run:=kat_run (prog:=X.prog) (w:=X.w) (A:=A) (E:=E) (s:=s4) (κ:=tuples' true) (ks:=ts.map Value.ref) (vs:=vs)
      (Q:=fun st' s'=>s'=s4∧∃ p:Array Nat,arrOf st'=p.map (kas_item ((ts.map Value.ref).toArray.zip vs.toArray))∧failedOf st'=none∧Arr xs.length p∧Srt κ p xs.length)
      (G:=fun p s'=>s'=s4∧Arr xs.length p∧Srt κ p xs.length) hkl (by omega) (by omega) (fun p st' s' _ b c ⟨d,a1,a2⟩=>⟨d,p,b,c,a1,a2⟩) (by
        have:=yh (N:=xs.length) (KK.cmp (prog:=X.prog) (w:=X.w) (A:=A) hκ) hinj (by omega) (Q:=fun p s'=>s'=s4∧Arr xs.length p∧Srt κ p xs.length) (s:=s4) rfl fun p s' a b c=>⟨c,a,b⟩
        rw [← hlen]
        exact this)
    refine wpAny_bind (wpAny_mono run ?_ fun _ _ x=>x)
    rintro ⟨⟨⟩,st'⟩ s5 ⟨rfl,p,har,hf,AR,SR⟩
    dsimp only
    refine fin st' p.toList (kat_snds hkl har) hf (fun i hi=>?_) (by rw [Array.length_toList,AR.size]) (yH AR SR)
    exact List.mem_range.mp (AR.perm.mem_iff.mp hi)
end
end L2
namespace L2
open PySem PySem.W PySem.Spec PyProof.Rows
def Jx (X:Cx) (scope:Scope) (qual:Str) (c:Value) (N:List Str) (A:Around) (f:Addr) (s:Shared) (H:Hp):Cx :=
  let env:Env:=envX qual scope s.heap.objs.size f c (clo X.env.cells scope.names [])
  { prog:=X.prog,w:=X.w,K:=X.K,mg:=X.mg,base:=X.base,A:=A.deeper env,N:=N,s₀:=s,H₀:=H,env:=env,outer:=X.stack,stack:=env :: X.stack,ex:=[],fn:=fun x=>((clo X.env.cells scope.names []).lookup x).isNone,calm:=true,pn:=[],xe:=fun _ _=>False }
def qI (x:V) (cap:List (Option Nat)) (σ:St):St:=some x :: (cap.map fun o=>o.bind fun j=>(σ[j]?).bind id)
def Jw (scope:Scope) (p:Str) (N N':List Str) (cap:List (Option Nat)):Bool:=(scope.names.lookup p == some .local) && !scope.isCoroutine && !scope.isGenerator && (!N'.contains p) && pG scope N N' cap
section
variable {X:Cx} {pins:List (Addr × Obj)} {σ:St} {H:Hp} {s:Shared} {body:Expr} {scope:Scope} {params:Arguments} {te:TE}
theorem Ci (sc:Scope) (hsc:X.env.scope=sc) (N₀:List Str) (hN₀:X.N=N₀) {N':List Str} {cap:List (Option Nat)} {p:Str} (f1:freeOk sc scope=true) (f2:uw scope=true) (f3:Jw scope p N₀ N' cap=true)
    {A:Around} {f:Addr} {name qual:Str} {c pm ctv:Value} {x:V} {u:Value} {Q:VK} (I:Inv X pins σ H s) (hA:A.frames=some X.stack) (hd:A.handled=none) (hroom:A.depth<recursionLimit)
    (hf:(f,({ cls:=.type "function",data:=.func (kla_fn name qual params body scope (clo X.env.cells scope.names []) pm c ctv) }:Obj))∈pins) (hcd:s.heap.CodeRec c qual)
    (hbind:bindArgs (kla_fn name qual params body scope (clo X.env.cells scope.names []) pm c ctv) ⟨[u],[]⟩=pure [(p,u)])
    (hb:PE (Jx X scope qual c (p :: N') A f s H) body te) (rx:RelV x u) (h:te (qI x cap σ) H Q) :
    wpAny (model X.prog X.w) A (call (.ref f) [u]) (fun k s2=>∃ v H2,RelV v k∧Inv X pins σ H2 s2∧Q v H2) (fun _ _=>False) s:=by
  have ok:=I.ok
  have fr:∀ y∈scope.names,y.2=.free→X.env.kindOf y.1=some .cell∨X.env.kindOf y.1=some .free:=fun y hy e=>by
    have q:=List.all_eq_true.mp f1 y hy
    rw [e] at q
    have q':((sc.names.lookup y.1 == some NameKind.cell) || (sc.names.lookup y.1 == some NameKind.free))=true:=by simpa using q
    rw [Bool.or_eq_true] at q'
    unfold Env.kindOf
    rw [hsc]
    rcases q' with z | z
    · exact .inl (by simpa using z)
    · exact .inr (by simpa using z)
  obtain ⟨⟨k1,k2⟩,k3⟩:((scope.kind == .function)=true∧(scope.names.all fun y=>y.2 != .cell)=true)∧(scope.names.all fun y=>y.2 != .local || scope.names.lookup y.1 == some .local)=true:=by
    unfold uw at f2
    rw [Bool.and_eq_true,Bool.and_eq_true] at f2
    exact f2
  have hkind:scope.kind=.function:=by simpa using k1
  have hcell:∀ y∈scope.names,y.2≠.cell:=fun y hy=>by
    have q:=List.all_eq_true.mp k2 y hy
    simpa using q
  obtain ⟨⟨⟨⟨g1,g2⟩,g3⟩,g4⟩,g5⟩:((((scope.names.lookup p == some .local)=true∧(!scope.isCoroutine)=true)∧(!scope.isGenerator)=true)∧(!N'.contains p)=true)∧pG scope N₀ N' cap=true:=by
    unfold Jw at f3
    rw [Bool.and_eq_true,Bool.and_eq_true,Bool.and_eq_true,Bool.and_eq_true] at f3
    exact f3
  have hploc:scope.names.lookup p=some .local:=by simpa using g1
  have clX:∀ x c,(clo X.env.cells scope.names []).lookup x=some c→X.env.cells.lookup x=some c:=fun x c e=>by
    have e1:=uL e
    have hx:(x,NameKind.free)∈scope.names:=by
      rcases nA [] (PySem.mem_of_lookup e) with z | z
      · exact nomatch z
      · exact z
    obtain ⟨c',e2⟩:=ok.has x (fr (x,.free) hx rfl)
    rw [e2] at e1 ⊢
    rw [e1];rfl
  have pf:=I.pin _ (List.mem_append_right _ hf)
  refine wpAny_call (kla_callFunE hroom pf.1 rfl (by simpa using g2) (by simpa using g3) rfl hcd ?_)
  rw [hbind]
  refine wpAny_pure ?_
  refine wpAny_newFunctionEnv hcell (fun y hy=>?_) (fun h4 hns hsb=>?_) hkind
  · have:y=(p,u):=by simpa using hy
    rw [this];exact hploc
  have kp4:∀ b o,s.heap.get? b=some o→h4.get? b=some o:=fun b o e=>hsb.extBut b o (Nat.ne_of_lt (Heap.lt_size e)) (Heap.get?_push_of_some _ e)
  refine ⟨I.nolimit.keeps kp4,kla_codeExpr ?_⟩
  let Z:Cx:=Jx X scope qual c (p :: N') A f s H
  have okZ:Z.Ok:=by
    refine ⟨ok.mod,hkind,rfl,rfl,Nat.le_refl _,?_,?_,?_,fun _=>hd,Around.frames_deeper hA,.inr ⟨rfl,rfl⟩,?_,?_,?_,?_,?_,?_,?_⟩
    · exact fun x y c h1 h2=>ok.inj x y c (clX x c h1) (clX y c h2)
    · intro x hx
      have hx':scope.names.lookup x=some .cell∨scope.names.lookup x=some .free:=hx
      rcases hx' with z | z
      · exact absurd rfl (hcell _ (PySem.mem_of_lookup z))
      · exact Option.isSome_iff_exists.mp (kW scope.names [] x (PySem.mem_of_lookup z))
    · intro x c hx h1
      have hx':((clo X.env.cells scope.names []).lookup x).isNone=true:=hx
      have h1':(clo X.env.cells scope.names []).lookup x=some c:=h1
      rw [h1'] at hx';cases hx'
    · exact fun b hb=>absurd (show b∈([]:List Addr) from hb) (by simp)
    · exact fun b o e=>I.bs b o e
    · exact Nat.le_trans ok.bsz I.sz
    · exact fun b o e hb=>absurd (show b∈([]:List Addr) from hb) (by simp)
    · exact fun b hb=>absurd (show b∈([]:List Addr) from hb) (by simp)
    · exact I.stack
    · exact I.qj
  have capl:cap.length=N'.length∧∀ p∈N'.zip cap,(match p.2 with | none=>true | some j=>N₀[j]? == some p.1 && scope.names.lookup p.1 == some .free)=true:=by
    unfold pG at g5
    rw [Bool.and_eq_true] at g5
    exact ⟨by simpa using g5.1,fun p hp=>List.all_eq_true.mp g5.2 p hp⟩
  have IZ:Inv Z [] (qI x cap σ) H { s with heap:=h4,toks:=s.toks + [(p,u)].length }:=by
    refine ⟨okZ,rfl,I.bare,Un.kept kp4,⟨_,hns,?_⟩,?_,?_,?_,fun p hp=>absurd (show p∈([]:List (Addr × Obj)) from hp) (by simp),I.hok.kept kp4,?_⟩
    · intro i y v e1 e2 e3
      cases i with
      | zero =>
        have e1':p=y:=by
          have e1'':(p :: N')[0]?=some y:=e1
          simpa using e1''
        have e2':x=v:=by
          have e2'':(qI x cap σ)[0]?=some (some v):=e2
          simpa [qI] using e2''
        subst e1' e2'
        exact ⟨u,rx,.inl ⟨hploc,by simp [List.lookup]⟩⟩
      | succ i =>
        have e1':N'[i]?=some y:=by
          have e1'':(p :: N')[i + 1]?=some y:=e1
          simpa using e1''
        have e2':(cap.map fun o=>o.bind fun j=>(σ[j]?).bind id)[i]?=some (some v):=by
          have e2'':(qI x cap σ)[i + 1]?=some (some v):=e2
          simpa [qI] using e2''
        rw [List.getElem?_map] at e2'
        cases ec:cap[i]? with
        | none=>rw [ec] at e2';cases e2'
        | some o =>
          rw [ec] at e2'
          cases o with
          | none=>cases e2'
          | some j =>
            have e3':(σ[j]?).bind id=some v:=by simpa using e2'
            have hz:(y,some j)∈N'.zip cap:=by
              refine List.mem_of_getElem? (i:=i) ?_
              rw [List.getElem?_zip_eq_some]
              exact ⟨e1',ec⟩
            have q:=capl.2 _ hz
            have q':(N₀[j]? == some y)=true∧(scope.names.lookup y == some NameKind.free)=true:=by simpa [Bool.and_eq_true] using q
            have q1:X.N[j]?=some y:=by rw [hN₀];simpa using q'.1
            have q2:scope.names.lookup y=some .free:=by simpa using q'.2
            have eσ:σ[j]?=some (some v):=by
              cases z:σ[j]? with
              | none=>rw [z] at e3';cases e3'
              | some y' =>
                rw [z] at e3'
                have:y'=some v:=e3'
                rw [this]
            have hk:=fr (y,.free) (PySem.mem_of_lookup q2) rfl
            obtain ⟨m,hn,hl⟩:=I.loc
            have vis:Vis X.env.scope y:=by
              rcases hk with z | z
              · exact .inr (.inl z)
              · exact .inr (.inr z)
            obtain ⟨u',r,l⟩:=hl j y v q1 eσ vis
            refine ⟨u',r,.inr ⟨.inr q2,?_⟩⟩
            rcases l with ⟨kl,_⟩ | ⟨_,c,ecx,hcx⟩
            · rcases hk with z | z
              · have z':X.env.kindOf y=some .cell:=z
                rw [kl] at z';cases z'
              · have z':X.env.kindOf y=some .free:=z
                rw [kl] at z';cases z'
            · have hh:=kW (cells:=X.env.cells) scope.names [] y (PySem.mem_of_lookup q2)
              obtain ⟨c',ec'⟩:=Option.isSome_iff_exists.mp hh
              have ec2:=clX y c' ec'
              rw [ecx] at ec2
              cases ec2
              exact ⟨c,ec',hcx.keeps kp4⟩
    · intro y c e
      obtain ⟨v,z⟩:=I.cell y c (clX y c e)
      exact ⟨v,z.keeps kp4⟩
    · exact I.hok.fresh (Nat.le_refl _)
    · exact fun y c e=>I.freeC y c (clX y c e)
    · show (qI x cap σ).length=(p :: N').length
      unfold qI
      rw [List.length_cons,List.length_cons,List.length_map,capl.1]
  refine wpAny_mono (hb [] _ _ H Q IZ h) (fun v s2 ⟨vv,H2,J,rv,q⟩=>?_) fun _ _ z=>z.elim
  refine ⟨vv,H2,rv,?_,q⟩
  have un:Un (frs X.stack) [] H H2 s.heap s2.heap:=J.base
  exact I.call' J.os un J.hok J.bare fun b hb=>absurd hb (by simp)
end
end L2
namespace L2
open PySem PySem.W PySem.Spec PyProof.Rows
section
variable {X:Cx} {pins:List (Addr × Obj)} {σ:St} {H:Hp} {s:Shared}
theorem Inv.grow {P:Addr} {ps more:Array Value} {h':Heap} {t':Nat} (I:Inv X pins σ H s) (hP:H P=some (.tbl ps)) (hx:Heap.ExtBut P s.heap h') (hP':h'.get? P=some { cls:=.none,data:=.fields (ps++more) }) :
    Inv X pins σ (upd H P (.tbl (ps++more))) { s with heap:=h',toks:=t' }:=by
  have ne:∀ b,H b=none→b≠P:=fun b n z=>by rw [z,hP] at n;cases n
  have hL:X.env.locals≠P:=ne _ I.free
  refine I.step (g':=s.gens) (d':=s.drawn) (ch:=[]) (fun _ z=>nomatch z) (fun b o _ _ _ e n=>hx b o (ne b n) e) (fun b o _ _ _ e n=>⟨o.slots,hx b o (ne b n) e⟩) (fun b o _ _ n=>by rw [aN (ne b n)];exact n) (fun b o _ e=>?_) (fun b xs e=>?_) (fun b ob u e=>?_) (fun b qs e=>?_) (fun m hm=>?_) (fun b u e=>?_) I.bare
  · by_cases hb:b=P
    · subst hb;exact ⟨_,hP'⟩
    · exact ⟨o,hx b o hb e⟩
  · rw [aN (fun z=>by rw [z,hP] at e;cases e)];exact e
  · rw [aN (fun z=>by rw [z,hP] at e;cases e)];exact e
  · by_cases hb:b=P
    · subst hb
      rw [hP] at e;cases e
      exact ⟨more,by rw [aV]⟩
    · exact ⟨#[],by rw [aN hb,e];simp⟩
  · exact hm.extBut hx hL
  · by_cases hb:b=P
    · subst hb;rw [aV] at e;cases e;exact hP'
    · rw [aN hb] at e
      refine (I.hok b u e).stay (fun c v hc q=>hx c v ?_ q) (fun c q=>by rw [aN (fun z=>by rw [z,hP] at q;cases q)];exact q) fun c xs q=>by rw [aN (fun z=>by rw [z,hP] at q;cases q)];exact q
      rcases hc with z | z
      · rw [z];exact hb
      · intro w;rw [w,hP] at z;cases z
def TabOk (P:Addr) (pos:Pos) (qual:Str) (H:Hp):Prop:=H P=some (.tbl #[])∨∃ c':Addr,H P=some (.tbl #[rawInt pos.line,rawInt pos.col,.ref c'])∧H c'=some (.ext fun h=>h.CodeRec (.ref c') qual)
def BM (mg:Str→Option Value) (base:Heap):Prop:=∃ bm ob,mg "__builtins__"=some (.ref bm)∧bm≠builtinsNs∧bm≠mainGlobals∧base.get? bm=some ob∧ob.cls=.type "module"∧ob.dict=some builtinsNs∧ob.data=.plain
theorem Cg {P c:Addr} {params:Arguments} {body:Expr} {scope:Scope} {pos:Pos} {Q:Value→Shared→Prop} {E:Value→Shared→Prop} {A:Around} (sc:Scope) (hsc:X.env.scope=sc) (f1:freeOk sc scope=true) (I:Inv X pins σ H s) (hbm:BM X.mg X.base) (hcode:X.env.code=.ref c)
    (hhd:codeHdIn X.K c P=true) (hT:TabOk P pos (X.env.qual++"<lambda>") H) (hdef:defaultsOf params X.env=([],[]))
    (h:∀ (f:Addr) (H':Hp) (s':Shared) (c':Addr) (pm ctv:Value),(∀ b o,H b=some o→b≠P→H' b=some o)→(∀ b,H' b=none→H b=none)→TabOk P pos (X.env.qual++"<lambda>") H'→H' c'=some (.ext fun h=>h.CodeRec (.ref c') (X.env.qual++"<lambda>")) →
      Inv X (pins++[(f,({ cls:=.type "function",data:=.func (kla_fn "<lambda>" (X.env.qual++"<lambda>") params body scope (clo X.env.cells scope.names []) pm (.ref c') ctv) }:Obj))]) σ H' s'→Q (.ref f) s') :
    wpAny (model X.prog X.w) A (eval (.Lambda params body scope pos) X.env) Q E s:=by
  have ok:=I.ok
  have fr:∀ y∈scope.names,y.2=.free→X.env.kindOf y.1=some .cell∨X.env.kindOf y.1=some .free:=fun y hy e=>by
    have q:=List.all_eq_true.mp f1 y hy
    rw [e] at q
    have q':((sc.names.lookup y.1 == some NameKind.cell) || (sc.names.lookup y.1 == some NameKind.free))=true:=by simpa using q
    rw [Bool.or_eq_true] at q'
    unfold Env.kindOf
    rw [hsc]
    rcases q' with z | z
    · exact .inl (by simpa using z)
    · exact .inr (by simpa using z)
  have hclos:closureFor scope X.env=pure (clo X.env.cells scope.names []):=jr fun y hy e=>ok.has y.1 (fr y hy e)
  have hg:s.heap.Ns mainGlobals X.mg:=I.mod.glob.keeps I.bk
  have C:CodeHd s.heap c P:=codeHd_of_K I.kIn hhd
  obtain ⟨bm,ob,b1,b2,b3,b4,b5,b6,b7⟩:=hbm
  have hbmP:∀ ps,H P=some (.tbl ps)→bm≠P:=fun ps e z=>by
    have:=(I.bs bm ob b4).2
    rw [z,e] at this;cases this
  have hB:∀ ps,H P=some (.tbl ps)→s.heap.BuiltinsAt X.mg P:=fun ps e=>⟨bm,ob,b1,b2,b3,hbmP ps e,I.bk bm ob b4,b5,b6,b7⟩
  refine kla_eval hdef ?_
  rcases hT with hT | ⟨c',hT,hc'⟩
  · have hPo:s.heap.get? P=some (tabObj #[]):=I.hok P _ hT
    have hgP:mainGlobals≠P:=fun q=>by
      obtain ⟨o,es,ep,e,hd,_⟩:=id hg
      rw [q,hPo] at e;cases e;cases hd
    refine kla_makeFunction (mg:=X.mg) hclos ok.glob hg hcode C hPo trivial rfl hgP (hB _ hT) fun c' ctv h' tk hx hge hlt hrec htb=>?_
    have hPlt:P<s.heap.objs.size:=Heap.lt_size hPo
    have I1:Inv X pins σ (upd H P (.tbl (#[]++#[rawInt pos.line,rawInt pos.col,.ref c']))) { s with heap:=h',toks:=tk }:=I.grow hT hx htb
    have nc':H c'=none:=I.hok.fresh hge
    have hcP:c'≠P:=fun z=>by rw [z] at hge;exact absurd hPlt (Nat.not_lt.mpr hge)
    have nc1:(upd H P (.tbl (#[]++#[rawInt pos.line,rawInt pos.col,.ref c']))) c'=none:=by rw [aN hcP];exact nc'
    obtain ⟨q0,q1,q2,q3,q4,q5⟩:=I.uG (H':=H) hge nc'
    have hs0:X.s₀.heap.objs.size≤c':=Nat.le_trans I.sz hge
    have I2:=I1.adopt (a:=c') (o:=.ext fun h=>h.CodeRec (.ref c') (X.env.qual++"<lambda>")) nc1 q1 hs0 q4 q5
      ⟨hrec,by obtain ⟨cc,o,vs,t,e1,e2,_⟩:=hrec;cases e1;exact ⟨o,e2⟩,fun h1 h2 x k=>x.at k⟩
    have I3:=I2.kept (h':=h'.push (kla_obj "<lambda>" (X.env.qual++"<lambda>") params body scope (clo X.env.cells scope.names []) ((X.mg "__name__").getD .none) c' ctv)) (t':=tk) fun b o e=>Heap.get?_push_of_some _ e
    have nf:(upd (upd H P (.tbl (#[]++#[rawInt pos.line,rawInt pos.col,.ref c']))) c' (.ext fun h=>h.CodeRec (.ref c') (X.env.qual++"<lambda>"))) h'.objs.size=none:=I2.hok.fresh (Nat.le_refl _)
    have I4:=I3.mz (I2.uG (Nat.le_refl _) nf) (Heap.get?_push_size _ rfl) (fun v z=>by cases z)
    refine h _ _ _ c' _ ctv (fun b o e hb=>?_) (fun b e=>?_) (.inr ⟨c',?_,aV⟩) aV I4
    · rw [aN (aR e nc'),aN hb];exact e
    · cases z:H b with
      | none=>rfl
      | some o =>
        by_cases hb:b=P
        · rw [hb,aN hcP.symm,aV] at e;cases e
        · rw [aN (aR z nc'),aN hb,z] at e;cases e
    · rw [aN hcP.symm,aV];simp
  · have hPo:s.heap.get? P=some (tabObj #[rawInt pos.line,rawInt pos.col,.ref c']):=I.hok P _ hT
    have hfnd:codeAmong pos (#[rawInt pos.line,rawInt pos.col,.ref c']:Array Value).toList=some (.ref c'):=by simp [codeAmong,rawInt]
    refine kla_makeFunctionHit (mg:=X.mg) hclos ok.glob hg hcode C hPo trivial hfnd (hB _ hT) fun ctv h' tk hk hsz=>?_
    have I1:Inv X pins σ H { s with heap:=h',toks:=tk }:=I.kept hk
    have I3:=I1.kept (h':=h'.push ({ cls:=.type "function",data:=.func (kla_fn "<lambda>" (X.env.qual++"<lambda>") params body scope (clo X.env.cells scope.names []) ((X.mg "__name__").getD .none) (.ref c') ctv) }:Obj)) (t':=tk) fun b o e=>Heap.get?_push_of_some _ e
    have nf:H h'.objs.size=none:=I1.hok.fresh (Nat.le_refl _)
    have I4:=I3.mz (I1.uG (Nat.le_refl _) nf) (Heap.get?_push_size _ rfl) (fun v z=>by cases z)
    exact h _ _ _ c' _ ctv (fun b o e _=>e) (fun b e=>e) (.inr ⟨c',hT,hc'⟩) hc' I4
end
end L2
namespace L2
open PySem PySem.W PySem.Spec PyProof.Rows
def gC (n:Nat):List V:=(List.range n).map fun (i:Nat)=>V.int (i:Int)
def Bj (P:Addr) (lpos:Pos) (qual:Str) (cap:List (Option Nat)) (ta:TA) (te:TE):TE:=fun σ H Q=>ta σ H fun vs H1=>∃ n:Nat,vs=[.int (n:Int)]∧n<64∧TabOk P lpos qual H1 ∧
  ∀ H2,(∀ b o,H1 b=some o→b≠P→H2 b=some o)→(∀ b,H2 b=none→H1 b=none)→TabOk P lpos qual H2 →
    ∃ (Pv:Nat→List Addr→Hp→Prop) (key:Nat→List Int) (κ:Nat→Int) (m:Nat),Pv 0 [] H2∧(∀ i ts H3,i<n→Pv i ts H3→(∀ c',H2 c'=some (.ext fun h=>h.CodeRec (.ref c') qual)→H3 c'=some (.ext fun h=>h.CodeRec (.ref c') qual))∧te (qI (.int (i:Int)) cap σ) H3 fun v H4=>∃ t,v=.ref t∧Pv (i + 1) (ts++[t]) H4) ∧
      (∀ ts H3,Pv n ts H3→∀ i t,ts[i]?=some t→H3 t=some (.tup ((key i).map V.int)))∧(∀ i,i<n→(key i).length=m + 1)∧(∀ i j,i<n→j<n→HT.lexLt (key i) (key j)=decide (κ i<κ j))∧Inj n κ ∧
      ∀ ts H3 D ys,Pv n ts H3→H3 D=none→lW κ (gC n) ys→Q (.ref D) (upd H3 D (.lst ys))
section
variable {X:Cx} {e body:Expr} {ta:TA} {te:TE} {params:Arguments} {scope:Scope} {p1 p2 p3 lpos kp pos:Pos}
theorem mV {P c:Addr} {p:Str} (sc:Scope) (hsc:X.env.scope=sc) (N₀:List Str) (hN₀:X.N=N₀) (N':List Str) (cap:List (Option Nat)) (f1:freeOk sc scope=true) (f2:uw scope=true) (f3:Jw scope p N₀ N' cap=true)
    (hcalm:X.calm=true) (hbm:BM X.mg X.base) (hcode:X.env.code=.ref c) (hhd:codeHdIn X.K c P=true) (hroom:X.A.depth + 4<recursionLimit)
    (hgs:Gl X "sorted") (hms:X.mg "sorted"=none) (hgr:Gl X "range") (hmr:X.mg "range"=none) (ha:PA X [e] ta)
    (hb:∀ (A:Around) (f:Addr) (cv:Value) (s:Shared) (H:Hp),A.handled=none→A.depth≤X.A.depth + 2→A.units≤X.A.units + 2→PE (Jx X scope (X.env.qual++"<lambda>") cv (p :: N') A f s H) body te)
    (hbind:∀ (pm cv ctv u:Value),bindArgs (kla_fn "<lambda>" (X.env.qual++"<lambda>") params body scope (clo X.env.cells scope.names []) pm cv ctv) ⟨[u],[]⟩=pure [(p,u)])
    (hdef:defaultsOf params X.env=([],[]):=by rfl) (hs:starEach [e] X.env=[(false,eval e X.env)]:=by rfl) :
    PE X (.Call (.Name "sorted" p1) [.Call (.Name "range" p2) [e] [] p3] [⟨some "key",.Lambda params body scope lpos,kp⟩] pos) (Bj P lpos (X.env.qual++"<lambda>") cap ta te):=by
  intro pins s σ H Q I h
  refine wpAny_Call_Name_kw (jj I hgs hms boot_sorted ?_)
  refine callWith_kw ?_
  show wpAny _ _ (spliced ((false,eval (.Call (.Name "range" p2) [e] [] p3) X.env) :: [])) _ _ s
  refine Calls.spliced_cons (Call_ (jj I hgr hmr boot_range (PyProof.Rows.callWith_type1 (thn (ha p3 pins s σ H _ I h) fun us s1 ⟨vs,H1,I1,r1,q1⟩=>?_) hs rfl)))
  obtain ⟨n,e1,hn,hT,q⟩:=q1
  subst e1
  obtain ⟨u,rfl,t,rfl⟩:=vals1 r1
  refine call_range_1 ?_
  refine Calls.spliced_nil ?_
  generalize hro:({ cls:=.type "range",data:=.fields #[.int 0 s1.toks,.int (n:Int) t,.int 1 (s1.toks + 1)] }:Obj)=ro
  have hrd:∀ v,ro.data≠.cell v:=fun v z=>by rw [← hro] at z;cases z
  have I2:Inv X pins σ H1 { s1 with heap:=s1.heap.push ro,toks:=s1.toks + 1 + 1 }:=I1.kept fun b o e=>Heap.get?_push_of_some _ e
  have nr:H1 s1.heap.objs.size=none:=I1.hok.fresh (Nat.le_refl _)
  have I3:=I2.mz (I1.uG (Nat.le_refl _) nr) (Heap.get?_push_size _ (by rw [← hro];rfl)) hrd
  generalize ({ s1 with heap:=s1.heap.push ro,toks:=s1.toks + 1 + 1 }:Shared)=s2 at I3 ⊢
  generalize s1.heap.objs.size=r at I3 ⊢
  refine kws_cons (Cg (P:=P) (c:=c) sc hsc f1 I3 hbm hcode hhd hT hdef fun f H2 s3 c' pm ctv k1 k2 hT2 hc' I4=>?_)
  refine kws_nil ?_
  show wpAny _ _ (call (.builtin "sorted") [.ref r] [(Str.ofString "key",.ref f)]) _ _ s3
  obtain ⟨Pv,key,κ,m,p0,step,htup,hlong,hκ,hinj,fin⟩:=q H2 k1 k2 hT2
  refine call_function_entry_kw kind_sorted plain_sorted entry_sorted (ksk_s1 _ _) ?_
  unfold Builtin.«sorted»
  refine wpAny_bind (m:=checkCount "sorted" 1 1 _) (wpAny_pure ?_)
  have pr:=I4.pin (r,ro) (List.mem_append_right _ (List.mem_append_left _ (List.mem_append_right _ (by simp))))
  have hR:IsRange s3.heap r 0 (n:Int) 1 s1.toks t (s1.toks + 1):=by
    show s3.heap.get? r=_
    rw [pr.1,← hro]
  have hrs:Builtin.Range.rangeSize 0 (n:Int) 1=(n:Nat):=by rw [rangeSize_one];split <;> omega
  refine wpAny_bind (qP (A:=X.A.in1) (I.ok.hd hcalm) hR (small_one (by omega) (by omega) (by omega) (by omega)) hrs (by omega) fun h' tk vs hk rv=>?_)
  have I5:Inv X _ σ H2 { s3 with heap:=h',toks:=tk }:=I4.kept hk
  have hlen:=rv.length
  rw [List.length_map,List.length_range] at hlen
  refine wpAny_bind (wpAny_newList ?_ (by rw [sizeLine_eq];omega))
  have nD:H2 h'.objs.size=none:=I5.hok.fresh (Nat.le_refl _)
  have I6:Inv X _ σ H2 { s3 with heap:=h'.push (seqObj "list" vs.toArray 0),toks:=tk }:=I5.kept (t':=tk) fun b o e=>Heap.get?_push_of_some _ e
  have hD6:(h'.push (seqObj "list" vs.toArray 0)).get? h'.objs.size=some (seqObj "list" vs.toArray 0):=Heap.get?_push_size _ rfl
  have hxl:((List.range n).map fun (i:Nat)=>V.int (i:Int)).length=n:=by simp
  refine wpAny_bind (wpAny_holding (wpAny_call_entry_kw slot_list_sort ⟨_,hD6,rfl⟩ entry_list_sort ?body (ksk_l1 _ _)))
  show wpAny (model X.prog X.w) X.A.in1.in1 (Builtin.«list.sort» ⟨[.ref h'.objs.size],[(Str.ofString "key",.ref f)]⟩) _ _ _
  rw [ksk_t1]
  refine wpAny_mono (yI (X:=X) (A:=X.A.in1.in1) (s:={ s3 with heap:=h'.push (seqObj "list" vs.toArray 0),toks:=tk }) (xs:=gC n) (key:=key) (κ:=κ) (m:=m) (n0:=0) rv (by show ((List.range n).map _).length<64;rw [hxl];exact hn) Pv I6 hD6
    (fun H' hn'=>I5.uG (Nat.le_refl _) hn') nD (Nat.le_trans I5.sz (Nat.le_refl _)) p0 ?call ?tup ?long ?kap ?inj) ?_ fun _ _ x=>x
  case call =>
    intro i x u ts pins' s' H' hx rx I' hsub pv
    obtain ⟨hi,ex⟩:i<n∧x=V.int (i:Int):=by
      have hx':((List.range n).map fun (i:Nat)=>V.int (i:Int))[i]?=some x:=hx
      rw [List.getElem?_map] at hx'
      by_cases hi:i<n
      · rw [List.getElem?_range hi] at hx'
        exact ⟨hi,(Option.some.inj hx').symm⟩
      · rw [List.getElem?_eq_none (by rw [List.length_range];omega)] at hx';cases hx'
    subst ex
    obtain ⟨hkc,ht⟩:=step i ts H' hi pv
    have hcr:s'.heap.CodeRec (.ref c') (X.env.qual++"<lambda>"):=(I'.hok c' _ (hkc c' hc')).1
    refine wpAny_mono (Ci (X:=X) (A:=X.A.in1.in1) sc hsc N₀ hN₀ f1 f2 f3 I' I.ok.frames (I.ok.hd hcalm) (by show X.A.depth<recursionLimit;omega) (hsub _ (List.mem_append_right _ List.mem_cons_self)) hcr (hbind _ _ _ _)
      (hb _ f _ s' H' (I.ok.hd hcalm) (by show X.A.depth≤X.A.depth + 2;omega) (by show X.A.units + 1 + 1≤X.A.units + 2;omega)) rx ht) (fun k s2 ⟨v,H3,rv',I7,t',ev,pv'⟩=>?_) fun _ _ x=>x
    subst ev
    have ek:k=.ref t':=rv'
    exact ⟨t',H3,ek,I7,pv'⟩
  case tup =>
    intro ts H' pv
    have pv':Pv n ts H':=by
      have:Pv ((List.range n).map fun (i:Nat)=>V.int (i:Int)).length ts H':=pv
      rw [hxl] at this;exact this
    exact htup ts H' pv'
  case long =>
    intro i hi
    have hi':i<((List.range n).map fun (i:Nat)=>V.int (i:Int)).length:=hi
    rw [hxl] at hi'
    exact hlong i hi'
  case kap =>
    intro i j hi hj
    have hi':i<((List.range n).map fun (i:Nat)=>V.int (i:Int)).length:=hi
    have hj':j<((List.range n).map fun (i:Nat)=>V.int (i:Int)).length:=hj
    rw [hxl] at hi' hj'
    exact hκ i j hi' hj'
  case inj =>
    have:(gC n).length=n:=hxl
    rw [this];exact hinj
  rintro fin' s8 ⟨rfl,ts,H8,ys,pv,nD8,hsb,I8⟩
  refine ⟨_,rfl,wpAny_pure ⟨_,rfl,?_⟩⟩
  have pv':Pv n ts H8:=by
    have e':(gC n).length=n:=hxl
    rw [e'] at pv;exact pv
  exact ⟨.ref h'.objs.size,_,I8.gH.gH,rfl,fin ts H8 _ ys pv' nD8 hsb⟩
end
end L2
namespace L2
open PySem PySem.W PySem.Spec PyProof.Rows
def JR (ts:List Addr) (H:Hp):Prop:=∀ b,H b=none∨(∃ o xs,H b=some (.frz o (.lst xs)))∨(b∈ts∧H b=some (.tbl #[]))
theorem zH {P:Program} {w:World} {K:PySem.W.Frag} {mg mb:Str→Option Value} {CX:CXT} {k:Nat} {fa a:Addr} {fd:FuncData} {x:Str} {sp:Sp} {s₁:Shared} {vs:List Value} {ns:List Int} {ts:List Addr}
    (KX:K.In s₁.heap) (hns:s₁.heap.Ns mainGlobals mg) (hb:s₁.heap.Ns builtinsNs mb) (hbb:∀ x:Str,x≠"__name__"→mb x=bootBuiltins x) (hlim:s₁.heap.NoLimit) (hg:s₁.gens=#[])
    (ha:s₁.heap.get? a=some { cls:=.type "list",data:=.seq vs.toArray }) (hi:IntsAre vs ns) (hl:ns.length≤sizeLine) (hr:pH k callerA)
    (hts:∀ P∈ts,s₁.heap.get? P=some (tabObj #[])) (htk:∀ P∈ts,K.lookup P=none) (htc:∀ P∈ts,isCodeTable s₁.heap P)
    (hbm:∃ bm ob,mg "__builtins__"=some (.ref bm)∧bm≠builtinsNs∧s₁.heap.get? bm=some ob∧ob.cls=.type "module"∧ob.dict=some builtinsNs∧ob.data=.plain)
    (F:∀ base:Heap,K.In base→base.Ns mainGlobals mg→BM mg base→cI P w K mg base CX k fa fd [x] sp) (hbind:∀ (s:Shared) (u:Value),BindsTo s fd ⟨[u],[]⟩ [(x,u)])
    (hsp:∀ H:Hp,JR ts H→(∀ P∈ts,H P=some (.tbl #[]))→SqL K H a (ns.map V.int)→sp [.ref a] H (fun v _=>v=.bl true) fun _ _ _=>False)
    (hCX:∀ H e s',CX [] H s₁ (fun _ _ _=>False) e s'→False) :
    codeAny (model P w) callerA (.call (.ref fa) ⟨[.ref a],[]⟩) (fun r s'=>r=.ok (.ret (.bool true))∧OldK s₁.heap s'.heap∧s'.os=s₁.os∧AllBare s'.gens) s₁:=by
  have rv:=rA hi
  have lenV:=hi.length
  have haT:a ∉ ts:=fun z=>by have:=hts a z;rw [ha] at this;cases this
  have core:∀ H:Hp,JR ts H→(∀ P∈ts,H P=some (.tbl #[]))→SqL K H a (ns.map V.int)→HOk P w H s₁.heap→(∀ b,H b≠none→b=a∨b∈ts)→(H a≠none→K.lookup a=none) →
      codeAny (model P w) callerA (.call (.ref fa) ⟨[.ref a],[]⟩) (fun r s'=>r=.ok (.ret (.bool true))∧OldK s₁.heap s'.heap∧s'.os=s₁.os∧AllBare s'.gens) s₁:=by
    intro H hO hTb hS hok hA hK
    have base_of:∀ {b:Addr} {o:Obj},s₁.heap.get? b=some o→H b=none→(Az s₁.heap H).get? b=some o:=fun e n=>Cu e n
    have noA:∀ {b:Addr} {o:Obj},s₁.heap.get? b=some o→(∀ xs n,o.data≠.seq xs n)→(∀ ps,o.data≠.fields ps)→H b=none:=fun {b o} e d1 d2=>by
      cases q:H b with
      | none=>rfl
      | some u =>
        rcases hA b (by rw [q];simp) with e' | e'
        · subst e'
          rw [ha] at e;cases e
          exact absurd rfl (d1 _ _)
        · have:=hts b e'
          rw [e] at this;cases this
          exact absurd rfl (d2 _)
    have nsK:∀ {b:Addr} {m:Str→Option Value},s₁.heap.Ns b m→(Az s₁.heap H).Ns b m:=fun {b m} ⟨o,es,ep,e,d,r⟩=>⟨o,es,ep,base_of e (noA e (fun _ _ z=>by rw [d] at z;cases z) fun _ z=>by rw [d] at z;cases z),d,r⟩
    have hKb:K.In (Az s₁.heap H):=fun b o e=>base_of (KX b o e) (by
      cases q:H b with
      | none=>rfl
      | some u =>
        rcases hA b (by rw [q];simp) with e' | e'
        · subst e'
          rw [hK (by rw [q];simp)] at e;cases e
        · rw [htk b e'] at e;cases e)
    have hM:Mod K mg (Az s₁.heap H):=⟨hKb,nsK hns,⟨mb,nsK hb,hbb⟩,let ⟨mc,h1,h2⟩:=hlim;⟨mc,nsK h1,h2⟩⟩
    have hBM:BM mg (Az s₁.heap H):=by
      obtain ⟨bm,ob,c1,c2,c3,c4,c5,c6⟩:=hbm
      refine ⟨bm,ob,c1,c2,fun q=>?_,base_of c3 (noA c3 (fun _ _ z=>by rw [c6] at z;cases z) fun _ z=>by rw [c6] at z;cases z),c4,c5,c6⟩
      obtain ⟨o,es,ep,e,hd,_⟩:=id hns
      rw [q,e] at c3;cases c3;rw [hd] at c6;cases c6
    have e0:Qs P w K mg (Az s₁.heap H) callerA [] s₁ H:=⟨rfl,hM,fun b o e=>Jr e,Nat.le_of_eq (zQ _ _),trivial,fun b hb=>absurd (show b∈([]:List Addr) from hb) (by simp),hok,.of_eq hg⟩
    refine codeAny_mono ((F _ hKb (nsK hns) hBM).run callerA [] s₁ H ⟨[.ref a],[]⟩ [.ref a] [.ref a] _ _ hr e0 (hbind s₁ (.ref a)) (.cons rfl .nil) (hsp H hO hTb hS)) fun r s' h=>?_
    cases r with
    | error e=>exact (hCX H e s' h).elim
    | ok fl =>
      cases fl with
      | next=>exact False.elim h
      | brk=>exact False.elim h
      | cont=>exact False.elim h
      | ret u =>
        obtain ⟨v,H',os,bare,un,hok',r',q⟩:=h
        have q':v=.bl true:=q
        subst q'
        obtain rfl:u=Value.bool true:=r'
        have old:∀ b o,s₁.heap.get? b=some o→asItWas s₁.heap s'.heap b o:=fun b o e=>by
          rcases hO b with z | ⟨ob,xs,z⟩ | ⟨hbt,z⟩
          · exact .inl (un.keep b o e z (by intro z;exact absurd (show b∈([]:List Addr) from z) (by simp)) (by simp))
          · have z2:=un.frzs b ob _ z
            obtain ⟨e1,_⟩:=hok b _ z
            obtain ⟨e2,_⟩:=hok' b _ z2
            rw [e] at e1;cases e1
            exact .inl e2
          · obtain ⟨more,z2⟩:=un.tbls b #[] z
            have e2:s'.heap.get? b=some { cls:=.none,data:=.fields (#[]++more) }:=hok' b _ z2
            have e3:=hts b hbt
            rw [e] at e3;cases e3
            exact .inr (.inl ⟨htc b hbt,rfl,#[],more,rfl,e2⟩)
        refine ⟨rfl,⟨old,fun b o e=>?_⟩,os,bare⟩
        exact un.there b o e (by simp)
  have tb:∀ b,(if b∈ts then some (HO.tbl #[]) else none)=none∨b∈ts:=fun b=>by
    by_cases h:b∈ts
    · exact .inr h
    · exact .inl (if_neg h)
  cases hk:K.lookup a with
  | some o =>
    have e:=KX a o hk
    rw [ha] at e
    cases e
    refine core (fun b=>if b∈ts then some (.tbl #[]) else none) (fun b=>?_) (fun P hP=>if_pos hP) (.inr ⟨_,vs.toArray,_,hk,rfl,rfl,rfl,by rw [List.size_toArray,lenV];exact hl,by simpa using rv⟩) (fun b u z=>?_) (fun b z=>?_) (fun z=>absurd (if_neg haT) z)
    · by_cases h:b∈ts
      · exact .inr (.inr ⟨h,if_pos h⟩)
      · exact .inl (if_neg h)
    · by_cases h:b∈ts
      · have z':=(if_pos h).symm.trans z
        cases z'
        exact hts b h
      · have z':=(if_neg h).symm.trans z
        cases z'
    · by_cases h:b∈ts
      · exact .inr h
      · exact absurd (if_neg h) z
  | none =>
    refine core (fun b=>if b=a then some (.frz { cls:=.type "list",data:=.seq vs.toArray } (.lst (ns.map V.int))) else if b∈ts then some (.tbl #[]) else none) (fun b=>?_) (fun P hP=>?_) (.inl (.inr ⟨{ cls:=.type "list",data:=.seq vs.toArray },if_pos rfl⟩)) (fun b u z=>?_) (fun b z=>?_) fun _=>hk
    · by_cases hb:b=a
      · exact .inr (.inl ⟨_,_,if_pos hb⟩)
      · by_cases h:b∈ts
        · exact .inr (.inr ⟨h,(if_neg hb).trans (if_pos h)⟩)
        · exact .inl ((if_neg hb).trans (if_neg h))
    · have hb:P≠a:=fun z=>haT (z ▸ hP)
      exact (if_neg hb).trans (if_pos hP)
    · by_cases hb:b=a
      · have z':=(if_pos hb).symm.trans z
        cases z'
        subst hb
        exact ⟨ha,by rw [List.length_map];exact hl,vs,_,rv,ha⟩
      · have z1:=(if_neg hb).symm.trans z
        by_cases h:b∈ts
        · have z':=(if_pos h).symm.trans z1
          cases z'
          exact hts b h
        · have z':=(if_neg h).symm.trans z1
          cases z'
    · by_cases hb:b=a
      · exact .inl hb
      · by_cases h:b∈ts
        · exact .inr h
        · exact absurd ((if_neg hb).trans (if_neg h)) z
theorem Bf {l:PySem.W.OpenLaw} {n k:Nat} {q:Program} {loose:List Str} {XP:(Str→Option Value)→Heap→Prop} {YP:World→Heap→Prop} {d:DefRec} {K:Params→PySem.W.Frag} {CX:World→CXT} {sp:World→Sp} {x:Str} {ts:List Addr}
    (hn:l.most=some n) (hn2:n≤sizeLine) (hdf:d.params.defaults=[]) (hr:pH k callerA)
    (hY:∀ (w:World) (h:Heap),YP w h→(K w.params).In h) (hYt:∀ (w:World) (h:Heap),YP w h→∀ P∈ts,h.get? P=some (tabObj #[]))
    (hts:∀ (w:World),∀ P∈ts,(K w.params).lookup P=none∧∃ c,codeHdIn (K w.params) c P=true)
    (F:∀ (w:World) (mg:Str→Option Value) (fa:Addr) (h:Heap),(K w.params).In h→h.Ns mainGlobals mg→mg d.name=some (.ref fa) →
      ∃ fd:FuncData,(∀ (s:Shared) (u:Value),BindsTo s fd ⟨[u],[]⟩ [(x,u)]) ∧
        ∀ base:Heap,(K w.params).In base→base.Ns mainGlobals mg→BM mg base→cI l.prog w (K w.params) mg base (CX w) k fa fd [x] (sp w))
    (hsp:∀ (w:World) (H:Hp) (a:Addr) (ns:List Int),ns.length≤n→JR ts H→(∀ P∈ts,H P=some (.tbl #[]))→SqL (K w.params) H a (ns.map V.int)→sp w [.ref a] H (fun v _=>v=.bl true) fun _ _ _=>False)
    (hCX:∀ (w:World) (H:Hp) (s:Shared) (e:Value) (s':Shared),CX w [] H s (fun _ _ _=>False) e s'→False) :
    PySem.W.WalkO q loose XP YP l.row.toRowW d [] (fun f vs=>PySem.call f vs):=by
  refine Att.uN hn hdf fun w s₀ s₁ mg mb fa o pm cd doc a vs ns G Y ho hd hcd hmg hobj hints hlen hg=>?_
  have KX:=hY w _ Y
  obtain ⟨fd,hb,hF⟩:=F w mg fa _ KX G.T.g hmg
  refine zH KX G.T.g G.T.b G.T.builtins G.T.nolimit hg hobj hints (Nat.le_trans hlen hn2) hr (hYt w _ Y) (fun P hP=>(hts w P hP).1) (fun P hP=>?_) G.T.bmain hF hb (fun H hO hT hS=>hsp w H a ns hlen hO hT hS) fun H e s'=>hCX w H s₁ e s'
  obtain ⟨c,hc⟩:=(hts w P hP).2
  obtain ⟨o,vs,file,tf,flags,tg,inF,text,tt,e1,e2,e3,e4,_⟩:=codeHd_of_K KX hc
  exact ⟨c,o,vs,e1,e2,e3,e4⟩
end L2
namespace L2
open PySem PySem.Spec PyProof.Rows
mutual
inductive Den (K:PySem.W.Frag) (H:Hp):V→PyData→Prop
  | non:Den K H .non .none
  | bl (b:Bool):Den K H (.bl b) (.bool b)
  | int (i:Int):Den K H (.int i) (.int i)
  | str (x:Str):Den K H (.str x) (.str x)
  | list {a:Addr} {xs:List V} {ds:List PyData}:SqL K H a xs→cU K H xs ds→Den K H (.ref a) (.list ds)
  | tuple {a:Addr} {xs:List V} {ds:List PyData}:SqT K H a xs→cU K H xs ds→Den K H (.ref a) (.tuple ds)
inductive cU (K:PySem.W.Frag) (H:Hp):List V→List PyData→Prop
  | nil:cU K H [] []
  | cons {v:V} {vs:List V} {d:PyData} {ds:List PyData}:Den K H v d→cU K H vs ds→cU K H (v :: vs) (d :: ds)
end
theorem cU.length {K:PySem.W.Frag} {H:Hp}:∀ {vs:List V} {ds:List PyData},cU K H vs ds→vs.length=ds.length
  | _,_,.nil=>rfl
  | _,_,.cons _ hs=>by rw [List.length_cons,List.length_cons,cU.length hs]
theorem cU.append {K:PySem.W.Frag} {H:Hp}:∀ {vs ws:List V} {ds es:List PyData},cU K H vs ds→cU K H ws es→cU K H (vs++ws) (ds++es)
  | _,_,_,_,.nil,h=>h
  | _,_,_,_,.cons h hs,h'=>.cons h (cU.append hs h')
theorem cU.get {K:PySem.W.Frag} {H:Hp}:∀ {vs:List V} {ds:List PyData} {i:Nat} {d:PyData},cU K H vs ds→ds[i]?=some d→∃ v,vs[i]?=some v∧Den K H v d
  | _,_,_,_,.nil,e=>by simp at e
  | _,_,0,_,.cons h _,e=>by simp at e;subst e;exact ⟨_,rfl,h⟩
  | _,_,i + 1,d,.cons _ hs,e=>by
    obtain ⟨v,h1,h2⟩:=cU.get (i:=i) (d:=d) hs (by simpa using e)
    exact ⟨v,by simpa using h1,h2⟩
theorem cU.get' {K:PySem.W.Frag} {H:Hp}:∀ {vs:List V} {ds:List PyData} {i:Nat} {v:V},cU K H vs ds→vs[i]?=some v→∃ d,ds[i]?=some d∧Den K H v d
  | _,_,_,_,.nil,e=>by simp at e
  | _,_,0,_,.cons h _,e=>by simp at e;subst e;exact ⟨_,rfl,h⟩
  | _,_,i + 1,v,.cons _ hs,e=>by
    obtain ⟨d,h1,h2⟩:=cU.get' (i:=i) (v:=v) hs (by simpa using e)
    exact ⟨d,by simpa using h1,h2⟩
theorem cU.ints {K:PySem.W.Frag} {H:Hp}:∀ (ns:List Int),cU K H (ns.map V.int) (ns.map PyData.int)
  | []=>.nil
  | n :: ns=>.cons (.int n) (cU.ints ns)
def jO (ns:List Int):PyData:=.list (ns.map PyData.int)
theorem Den.ints {K:PySem.W.Frag} {H:Hp} {a:Addr} {ns:List Int} (h:SqL K H a (ns.map V.int)):Den K H (.ref a) (jO ns):=.list h (cU.ints ns)
theorem cU.int_inv {K:PySem.W.Frag} {H:Hp}:∀ {vs:List V} {ns:List Int},cU K H vs (ns.map PyData.int)→vs=ns.map V.int
  | _,[],.nil=>rfl
  | _,n :: ns,.cons h hs=>by
    cases h
    rw [cU.int_inv hs];rfl
theorem Den.nq {K:PySem.W.Frag} {H:Hp} {v:V} {ns:List Int} (h:Den K H v (jO ns)):∃ a,v=.ref a∧SqL K H a (ns.map V.int):=by
  cases h with
  | list h hs=>exact ⟨_,rfl,by rw [← cU.int_inv hs];exact h⟩
section
variable {X:Cx} {pins:List (Addr × Obj)} {σ:St} {H:Hp} {s:Shared}
mutual
theorem Den.reads (I:Inv X pins σ H s):∀ {v:V} {d:PyData} {u:Value},Den X.K H v d→RelV v u→∃ as,Reads s.heap u d as
  | _,_,_,.non,r=>by cases r;exact ⟨_,.none⟩
  | _,_,_,.bl b,r=>by cases r;exact ⟨_,.bool b⟩
  | _,_,_,.int i,r=>by obtain ⟨t,rfl⟩:=r;exact ⟨_,.int i t⟩
  | _,_,_,.str x,r=>by obtain ⟨t,rfl⟩:=r;exact ⟨_,.str x t⟩
  | _,_,_,.list h hs,r=>by
    cases r
    obtain ⟨its,r1,⟨o,n,e,c,_,d⟩,_⟩:=I.list h
    obtain ⟨as,q⟩:=cU.reads I hs r1
    exact ⟨_,.list e c d (by simpa using q)⟩
  | _,_,_,.tuple h hs,r=>by
    cases r
    obtain ⟨its,r1,⟨o,e,c,n,d⟩,_⟩:=I.tuple h
    obtain ⟨as,q⟩:=cU.reads I hs r1
    exact ⟨_,.tuple e c d (by simpa using q)⟩
theorem cU.reads (I:Inv X pins σ H s):∀ {vs:List V} {ds:List PyData} {us:List Value},cU X.K H vs ds→Vals vs us→∃ as,ReadsAll s.heap us ds as
  | _,_,_,.nil,r=>by cases r;exact ⟨_,.nil⟩
  | _,_,_,.cons h hs,r=>by
    cases r with
    | cons r1 r2 =>
      obtain ⟨as,q⟩:=Den.reads I h r1
      obtain ⟨bs,q'⟩:=cU.reads I hs r2
      exact ⟨_,.cons q q'⟩
end
def Tp (K:PySem.W.Frag) (neg:Bool):R2:=fun x y H Q=>∃ d e,Den K H x d∧Den K H y e∧SeqAt.shaped d=true∧SeqAt.shaped e=true∧Q (.bl (if neg then !PyData.eqv d e else PyData.eqv d e)) H
theorem Kv (hu:X.A.units + 64<cLine):OpR X (compareOp .Eq) (Tp X.K false):=by
  intro pins s σ H x y v u Q I rx ry h
  obtain ⟨d,e,hd,he,sd,se,q⟩:=h
  obtain ⟨as,ra⟩:=hd.reads I rx
  obtain ⟨bs,rb⟩:=he.reads I ry
  exact SeqAt.compareEq_shaped ra rb sd se hu ⟨.bl _,H,I,rfl,q⟩
theorem Ks (hu:X.A.units + 64<cLine):OpR X (compareOp .NotEq) (Tp X.K true):=by
  intro pins s σ H x y v u Q I rx ry h
  obtain ⟨d,e,hd,he,sd,se,q⟩:=h
  obtain ⟨as,ra⟩:=hd.reads I rx
  obtain ⟨bs,rb⟩:=he.reads I ry
  exact SeqAt.compareNe_shaped ra rb sd se hu ⟨.bl _,H,I,rfl,q⟩
end
def Sh (n:Nat) (d:PyData):Prop:=d.canLay0=true∧d.depth≤n
theorem Ah:∀ {ds:List PyData},(∀ d∈ds,d.canLay0=true)→PyData.canLayAll0 ds=true
  | [],_=>rfl
  | d :: ds,h=>by rw [PyData.canLayAll0,h d List.mem_cons_self,Ah fun x hx=>h x (List.mem_cons_of_mem _ hx)];rfl
theorem zY {n:Nat}:∀ {ds:List PyData},(∀ d∈ds,d.depth≤n)→PyData.depthAll ds≤n
  | [],_=>by simp [PyData.depthAll]
  | d :: ds,h=>by
    have h1:=h d List.mem_cons_self
    have h2:=zY fun x hx=>h x (List.mem_cons_of_mem _ hx)
    simp only [PyData.depthAll]
    omega
theorem Sh.int (n:Nat) (i:Int):Sh n (.int i):=⟨rfl,by simp [PyData.depth]⟩
theorem Sh.list {n:Nat} {ds:List PyData} (h:∀ d∈ds,Sh n d):Sh (n + 1) (.list ds):=⟨by rw [PyData.canLay0];exact Ah fun d hd=>(h d hd).1,by
  have:=zY fun d hd=>(h d hd).2
  simp only [PyData.depth];omega⟩
theorem Sh.tuple {n:Nat} {ds:List PyData} (h:∀ d∈ds,Sh n d):Sh (n + 1) (.tuple ds):=⟨by rw [PyData.canLay0];exact Ah fun d hd=>(h d hd).1,by
  have:=zY fun d hd=>(h d hd).2
  simp only [PyData.depth];omega⟩
theorem Sh.ints (n:Nat) (ns:List Int):Sh (n + 1) (jO ns):=.list fun d hd=>by
  obtain ⟨i,_,rfl⟩:=List.mem_map.mp hd
  exact .int n i
theorem Sh.ok {n:Nat} {d:PyData} (h:Sh n d) (hn:n≤64):SeqAt.shaped d=true:=by
  unfold SeqAt.shaped
  rw [h.1,decide_eq_true (by have:=h.2;omega)];rfl
theorem vU {n:Nat} {d:PyData} (h:Sh n d):PyData.eqv d d=true:=SeqAt.eqv_refl d h.1
abbrev fU:=List (Addr × Pos × Str)
def TabsOk (T:fU) (H:Hp):Prop:=∀ t∈T,TabOk t.1 t.2.1 t.2.2 H
structure bA (T:fU) (H H':Hp):Prop where
  t0:TabsOk T H
  t1:TabsOk T H'
  keep:∀ b o,H b=some o→(∀ ps,o≠.tbl ps)→H' b=some o
  tb:∀ b ps,H b=some (.tbl ps)→∃ ps',H' b=some (.tbl ps')
theorem TabsOk.mono {T:fU} {H H':Hp} (t:TabsOk T H) (s:Same H H'):TabsOk T H':=fun q hq=>by
  rcases t q hq with e | ⟨c,e1,e2⟩
  · exact .inl (s _ _ e)
  · exact .inr ⟨c,s _ _ e1,s _ _ e2⟩
theorem bA.refl {T:fU} {H:Hp} (t:TabsOk T H):bA T H H:=⟨t,t,fun _ _ h _=>h,fun _ ps h=>⟨ps,h⟩⟩
theorem bA.of {T:fU} {H H':Hp} (t:TabsOk T H) (s:Same H H'):bA T H H':=⟨t,t.mono s,fun b o h _=>s b o h,fun b ps h=>⟨ps,s _ _ h⟩⟩
theorem bA.trans {T:fU} {H H1 H2:Hp} (a:bA T H H1) (b:bA T H1 H2):bA T H H2:=⟨a.t0,b.t1,fun c o h n=>b.keep c o (a.keep c o h n) n,fun c ps h=>by
  obtain ⟨ps',e⟩:=a.tb c ps h
  exact b.tb c ps' e⟩
theorem bA.free {T:fU} {H H':Hp} (a:bA T H H') {l:Addr} (h:H' l=none):H l=none:=by
  cases q:H l with
  | none=>rfl
  | some o =>
    have key:(∃ ps,o=.tbl ps)∨∀ ps,o≠.tbl ps:=by
      cases o with
      | tbl ps=>exact .inl ⟨ps,rfl⟩
      | _=>exact .inr fun _ z=>by cases z
    rcases key with ⟨ps,rfl⟩ | n
    · obtain ⟨ps',e⟩:=a.tb l ps q
      rw [h] at e;cases e
    · have:=a.keep l o q n
      rw [h] at this;cases this
theorem bA.seq {T:fU} {K:PySem.W.Frag} {H H':Hp} {a:Addr} {xs:List V} (e:bA T H H') (h:SqL K H a xs):SqL K H' a xs:=by
  rcases h with (h | ⟨o,h⟩) | h
  · exact .inl (.inl (e.keep _ _ h fun _ z=>by cases z))
  · exact .inl (.inr ⟨o,e.keep _ _ h fun _ z=>by cases z⟩)
  · exact .inr h
theorem bA.Jc {T:fU} {K:PySem.W.Frag} {H H':Hp} {a:Addr} {xs:List V} (e:bA T H H') (h:SqT K H a xs):SqT K H' a xs:=by
  rcases h with (h | ⟨o,h⟩) | h
  · exact .inl (.inl (e.keep _ _ h fun _ z=>by cases z))
  · exact .inl (.inr ⟨o,e.keep _ _ h fun _ z=>by cases z⟩)
  · exact .inr h
mutual
theorem Den.qG {T:fU} {K:PySem.W.Frag} {H H':Hp} (e:bA T H H'):∀ {v:V} {d:PyData},Den K H v d→Den K H' v d
  | _,_,.non=>.non
  | _,_,.bl b=>.bl b
  | _,_,.int i=>.int i
  | _,_,.str x=>.str x
  | _,_,.list h hs=>.list (e.seq h) (cU.qG e hs)
  | _,_,.tuple h hs=>.tuple (e.Jc h) (cU.qG e hs)
theorem cU.qG {T:fU} {K:PySem.W.Frag} {H H':Hp} (e:bA T H H'):∀ {vs:List V} {ds:List PyData},cU K H vs ds→cU K H' vs ds
  | _,_,.nil=>.nil
  | _,_,.cons h hs=>.cons (Den.qG e h) (cU.qG e hs)
end
def oX (T:fU) (H:Hp) (P:List V→Prop) (Q:VK):Prop:=∀ (l:Addr) (H':Hp) (xs:List V),bA T H H'→H l=none→H' l=some (.lst xs)→P xs→Q (.ref l) H'
def jg:HO→Bool
  | .tbl _=>false
  | .ext _=>false
  | _=>true
structure Ow (T:fU) (H0 H:Hp) (L:List (Addr × HO)):Prop where
  same:bA T H0 H
  new:∀ p∈L,H0 p.1=none
  at_:∀ p∈L,H p.1=some p.2
  pl:∀ p∈L,jg p.2=true
  nd:(L.map (·.1)).Nodup
section
variable {T:fU} {H0 H1 H H':Hp} {L L':List (Addr × HO)} {a l:Addr} {o o':HO} {xs:List V}
theorem Ow.refl (t:TabsOk T H):Ow T H H []:=⟨bA.refl t,(fun p hp=>nomatch hp),(fun p hp=>nomatch hp),(fun p hp=>nomatch hp),List.nodup_nil⟩
theorem Ow.get (O:Ow T H0 H L) (k:Nat) (h:L[k]?=some (a,o):=by rfl):H a=some o:=O.at_ _ (List.mem_of_getElem? h)
theorem Ow.fr (O:Ow T H0 H L) (k:Nat) (h:L[k]?=some (a,o):=by rfl):H0 a=none:=O.new _ (List.mem_of_getElem? h)
theorem Ow.sq {K:PySem.W.Frag} (O:Ow T H0 H L) (k:Nat) (h:L[k]?=some (a,.lst xs):=by rfl):SqL K H a xs:=SqL.of (O.get k h)
theorem Ow.sqT {K:PySem.W.Frag} (O:Ow T H0 H L) (k:Nat) (h:L[k]?=some (a,.tup xs):=by rfl):SqT K H a xs:=SqT.of (O.get k h)
theorem TabOk.upd {P:Addr} {pos:Pos} {q:Str} (t:TabOk P pos q H) (h:H a=none∨∃ o,H a=some o∧jg o=true):TabOk P pos q (L2.upd H a o'):=by
  have ne:∀ b u,H b=some u→jg u=false→b≠a:=fun b u e p z=>by
    subst z
    rcases h with h | ⟨o,h,ho⟩
    · rw [h] at e;cases e
    · rw [h] at e;cases e;rw [ho] at p;cases p
  rcases t with e | ⟨c,e1,e2⟩
  · exact .inl (by rw [aN (ne _ _ e rfl)];exact e)
  · exact .inr ⟨c,by rw [aN (ne _ _ e1 rfl)];exact e1,by rw [aN (ne _ _ e2 rfl)];exact e2⟩
theorem bA.upd (s:bA T H0 H) (h:H0 a=none) (h':H a=none∨∃ o,H a=some o∧jg o=true):bA T H0 (L2.upd H a o') :=
  ⟨s.t0,fun t ht=>(s.t1 t ht).upd h',fun b u e n=>by rw [aN (aR e h)];exact s.keep b u e n,fun b ps e=>by rw [aN (aR e h)];exact s.tb b ps e⟩
theorem Ow.mk' (O:Ow T H0 H L) (h:H a=none) (ho:jg o=true):Ow T H0 (upd H a o) ((a,o) :: L):=by
  have ne:∀ p∈L,p.1≠a:=fun p hp=>aR (O.at_ p hp) h
  have n0:H0 a=none:=O.same.free h
  refine ⟨O.same.upd n0 (.inl h),fun p hp=>?_,fun p hp=>?_,fun p hp=>?_,?_⟩
  · rcases List.mem_cons.mp hp with e | e
    · rw [e];exact n0
    · exact O.new p e
  · rcases List.mem_cons.mp hp with e | e
    · rw [e];exact aV
    · rw [aN (ne p e)];exact O.at_ p e
  · rcases List.mem_cons.mp hp with e | e
    · rw [e];exact ho
    · exact O.pl p e
  · rw [List.map_cons,List.nodup_cons]
    refine ⟨fun hm=>?_,O.nd⟩
    obtain ⟨p,hp,e⟩:=List.mem_map.mp hm
    exact ne p hp e
theorem yJ:∀ {L:List (Addr × HO)} {k:Nat} {a:Addr} {o o':HO},L[k]?=some (a,o)→(L.set k (a,o')).map (·.1)=L.map (·.1)
  | [],_,_,_,_,h=>by simp at h
  | p :: L,0,a,o,o',h=>by
    have:p=(a,o):=by simpa using h
    rw [this];rfl
  | p :: L,k + 1,a,o,o',h=>by
    rw [List.set_cons_succ,List.map_cons,List.map_cons,yJ (L:=L) (k:=k) (o:=o) (by simpa using h)]
theorem Ow.Tq (O:Ow T H0 H L) (k:Nat) (h:L[k]?=some (a,o)) (ho:jg o'=true):Ow T H0 (upd H a o') (L.set k (a,o')):=by
  have hm0:=List.mem_of_getElem? h
  have n0:H0 a=none:=O.new _ hm0
  have hk:k<L.length:=(List.getElem?_eq_some_iff.mp h).1
  refine ⟨O.same.upd n0 (.inr ⟨o,O.at_ _ hm0,O.pl _ hm0⟩),fun p hp=>?_,fun p hp=>?_,fun p hp=>?_,by rw [yJ h];exact O.nd⟩
  · rcases List.mem_or_eq_of_mem_set hp with e | e
    · exact O.new p e
    · rw [e];exact n0
  · obtain ⟨j,hj,e⟩:=List.getElem_of_mem hp
    by_cases hjk:j=k
    · subst hjk
      rw [List.getElem_set_self] at e
      rw [← e];exact aV
    · rw [List.getElem_set_ne (Ne.symm hjk)] at e
      have hj':j<L.length:=by rw [List.length_set] at hj;exact hj
      have hm:p∈L:=by rw [← e];exact List.getElem_mem hj'
      rw [aN]
      · exact O.at_ p hm
      · intro z
        have e1:(L.map (·.1))[j]?=some p.1:=by rw [List.getElem?_map,List.getElem?_eq_getElem hj',e];rfl
        have e2:(L.map (·.1))[k]?=some a:=by rw [List.getElem?_map,h];rfl
        rw [z] at e1
        obtain ⟨a1,a2⟩:=List.getElem?_eq_some_iff.mp e1
        obtain ⟨b1,b2⟩:=List.getElem?_eq_some_iff.mp e2
        exact hjk ((List.getElem_inj O.nd).mp (a2.trans b2.symm))
  · rcases List.mem_or_eq_of_mem_set hp with e | e
    · exact O.pl p e
    · rw [e];exact ho
theorem rK {o:HO} (h:jg o=true):∀ ps,o≠.tbl ps:=fun ps z=>by rw [z] at h;cases h
theorem Ow.uM (O:Ow T H0 H L) (s:bA T H H'):Ow T H0 H' L:=⟨O.same.trans s,O.new,fun p hp=>s.keep _ _ (O.at_ p hp) (rK (O.pl p hp)),O.pl,O.nd⟩
theorem Ow.Ju (O:Ow T H0 H L) (s:bA T H H') (n:H l=none) (h:H' l=some o) (ho:jg o=true):Ow T H0 H' ((l,o) :: L):=by
  have O2:=O.uM s
  refine ⟨O2.same,fun p hp=>?_,fun p hp=>?_,fun p hp=>?_,?_⟩
  · rcases List.mem_cons.mp hp with e | e
    · rw [e];exact O.same.free n
    · exact O.new p e
  · rcases List.mem_cons.mp hp with e | e
    · rw [e];exact h
    · exact O2.at_ p e
  · rcases List.mem_cons.mp hp with e | e
    · rw [e];exact ho
    · exact O.pl p e
  · rw [List.map_cons,List.nodup_cons]
    refine ⟨fun hm=>?_,O.nd⟩
    obtain ⟨p,hp,e⟩:=List.mem_map.mp hm
    exact aR (O.at_ p hp) n e
theorem Ow.more (O:Ow T H0 H L) (s:Same H H') (n:H l=none) (h:H' l=some o) (ho:jg o=true):Ow T H0 H' ((l,o) :: L):=O.Ju (bA.of O.same.t1 s) n h ho
theorem Ow.sub (O:Ow T H0 H L) (h:L'.Sublist L):Ow T H0 H L':=⟨O.same,fun p hp=>O.new p (h.subset hp),fun p hp=>O.at_ p (h.subset hp),fun p hp=>O.pl p (h.subset hp),O.nd.sublist (h.map _)⟩
theorem Ow.perm (O:Ow T H0 H L) (h:L'.Perm L):Ow T H0 H L':=⟨O.same,fun p hp=>O.new p (h.mem_iff.mp hp),fun p hp=>O.at_ p (h.mem_iff.mp hp),fun p hp=>O.pl p (h.mem_iff.mp hp),(h.map _).nodup_iff.mpr O.nd⟩
theorem Ow.tail {p:Addr × HO} (O:Ow T H0 H (p :: L)):Ow T H0 H L:=O.sub (List.sublist_cons_self _ _)
theorem Ow.two {p q:Addr × HO} (O:Ow T H0 H (p :: q :: L)):Ow T H0 H (p :: L):=O.sub ((List.sublist_cons_self _ _).cons₂ _)
theorem Ow.base (O:Ow T H0 H L) (s:bA T H1 H0):Ow T H1 H L:=⟨s.trans O.same,fun p hp=>s.free (O.new p hp),O.at_,O.pl,O.nd⟩
theorem Ow.reb (O:Ow T H0 H L):∃ H1,Ow T H1 H L∧bA T H0 H1∧∀ b o,H b=some o→(∀ p∈L,p.1≠b)→H1 b=some o:=by
  have keep:∀ b u,H b=some u→(∀ p∈L,p.1≠b)→(fun b=>if b∈L.map (·.1) then none else H b:Hp) b=some u:=fun b u e h=>by
    show (if b∈L.map (·.1) then none else H b)=some u
    rw [if_neg fun hm=>?_];· exact e
    obtain ⟨p,hp,z⟩:=List.mem_map.mp hm
    exact h p hp z
  have back:∀ b u,(fun b=>if b∈L.map (·.1) then none else H b:Hp) b=some u→H b=some u:=fun b u e=>by
    dsimp only at e
    split at e
    · cases e
    · exact e
  have npl:∀ b u,H b=some u→jg u=false→∀ p∈L,p.1≠b:=fun b u e h p hp z=>by
    have:=O.at_ p hp
    rw [z,e] at this
    have e':u=p.2:=Option.some.inj this
    rw [e',O.pl p hp] at h;cases h
  have tk:TabsOk T (fun b=>if b∈L.map (·.1) then none else H b):=fun t ht=>by
    rcases O.same.t1 t ht with e | ⟨c,e1,e2⟩
    · exact .inl (keep _ _ e (npl _ _ e rfl))
    · exact .inr ⟨c,keep _ _ e1 (npl _ _ e1 rfl),keep _ _ e2 (npl _ _ e2 rfl)⟩
  refine ⟨fun b=>if b∈L.map (·.1) then none else H b,⟨⟨tk,O.same.t1,fun b u e _=>back b u e,fun b ps e=>⟨ps,back _ _ e⟩⟩,fun p hp=>?_,O.at_,O.pl,O.nd⟩,⟨O.same.t0,tk,fun b u e n=>?_,fun b ps e=>?_⟩,keep⟩
  · exact if_pos (List.mem_map.mpr ⟨p,hp,rfl⟩)
  · refine keep b u (O.same.keep b u e n) fun p hp z=>?_
    rw [← z,O.new p hp] at e;cases e
  · obtain ⟨ps',e'⟩:=O.same.tb b ps e
    exact ⟨ps',keep _ _ e' (npl _ _ e' rfl)⟩
theorem vH {i:Int} {j:Nat} {v:V} {Q:Hp→Prop} (O:Ow T H0 H L) (k:Nat) (h:L[k]?=some (l,.lst xs)) (hi:ixN xs.length i=some j) (q:∀ H',Ow T H0 H' (L.set k (l,.lst (xs.set j v)))→Q H'):Kh (.ref l) (.int i) v H Q :=
  ⟨l,xs,i,j,rfl,rfl,O.get k h,hi,q _ (O.Tq k h rfl)⟩
theorem Ow.ret {P:List V→Prop} {Q:VK} (O:Ow T H0 H L) (k:Nat) (h:L[k]?=some (l,.lst xs)) (q:oX T H0 P Q) (p:P xs):Q (.ref l) H:=q l H xs O.same (O.fr k h) (O.get k h) p
theorem Ow.got {P:List V→Prop} {Q:VK} (O:Ow T H0 H L) (k:∀ l H' xs,Ow T H0 H' ((l,.lst xs) :: L)→P xs→Q (.ref l) H'):JZ H P Q:=fun l H' xs s n h p=>k l H' xs (O.more s n h rfl) p
theorem Ow.tL {P:List V→Prop} {Q:VK} (O:Ow T H0 H L) (k:∀ l H' xs,Ow T H0 H' ((l,.lst xs) :: L)→P xs→Q (.ref l) H'):oX T H P Q:=fun l H' xs s n h p=>k l H' xs (O.Ju s n h rfl) p
end
end L2
namespace L2
open PySem PySem.W PySem.Spec PyProof.Rows
theorem szl {n:Nat} (h:Nat.ble n 100000=true:=by rfl):n≤sizeLine:=ig (Nat.le_of_ble_eq_true h)
theorem uF (p:Int) (ns:List Int):inV (.int p) (ns.map V.int)=decide (p∈ns):=by
  unfold inV
  rw [List.any_map,Bool.eq_iff_iff]
  simp only [List.any_eq_true,decide_eq_true_eq]
  constructor
  · rintro ⟨x,hx,e⟩
    have e':(x == p)=true:=e
    have:x=p:=by simpa using e'
    rw [← this];exact hx
  · intro h
    exact ⟨p,h,show (p == p)=true by simp⟩
theorem oK (ns:List Int):(ns.map V.int).all qM=true:=by
  rw [List.all_map,List.all_eq_true];intro _ _;rfl
theorem Fun.okC {P:Program} {w:World} {K:PySem.W.Frag} {mg:Str→Option Value} {base:Heap} {x qual:Str} {st:Stmt} {f:Addr} {fd:FuncData} {N ps:List Str} {k:Nat} {sp:Sp} {c:Value} (F:Fun K x qual st f fd) (hc:fd.code=c) (S:aX N ps (ao st)) (len:∀ vs H Q E,sp vs H Q E→vs.length=ps.length)
    (hbody:∀ (A:Around) (outer:List Env) (s:Shared) (H:Hp) (vs:List V) (Q:VK) (E:XK),pH k (A.deeper (envOfC qual (ao st) s.heap.objs.size f c))→sp vs H Q E →
      ∃ t,PSs (JK CX0 P w K mg base N qual (ao st) f c A outer s H E).nox (aD st) t∧t { nx:=fun _ H'=>Q .non H',rt:=Q } (start N vs) H):cI P w K mg base CX0 (k + 1) f fd ps sp:=by
  obtain ⟨oc,od,kV,doc,pm,an,cdv,ct,osl,rfl,lk,hcd⟩:=F.ex
  have e:cdv=c:=hc
  subst e
  refine Qa lk hcd S len fun A outer s H vs Q E hr hsp=>?_
  obtain ⟨t,h,q⟩:=hbody A outer s H vs Q E hr hsp
  exact ⟨t,h.nox,q⟩
theorem vN {k:Nat} {A XA:Around} {env:Env} (r:pH (k + 2) XA) (hh:A.handled=none) (hd:A.depth≤XA.depth + 2) (hu:A.units≤XA.units + 2):pH k (A.deeper env) :=
  ⟨hh,by have:=r.dp;show A.depth + 1 + 3 * k + 5<_;omega,by have:=r.un;show A.units + 3 + 16 * k + 200<_;omega⟩
theorem vO {A:Around} (r:pH 1 A):A.depth + 4<recursionLimit:=by have:=r.dp;omega
theorem bA.tab {T:fU} {H H2:Hp} {P:Addr} {pos:Pos} {q:Str} (t:TabsOk T H) (hm:(P,pos,q)∈T) (nd:(T.map (·.1)).Nodup) (k1:∀ b o,H b=some o→b≠P→H2 b=some o) (t2:TabOk P pos q H2):bA T H H2:=by
  have hP:∃ ps,H P=some (.tbl ps):=by
    rcases t _ hm with e | ⟨c,e,_⟩
    · exact ⟨_,e⟩
    · exact ⟨_,e⟩
  obtain ⟨ps0,hP⟩:=hP
  have hP2:∃ ps,H2 P=some (.tbl ps):=by
    rcases t2 with e | ⟨c,e,_⟩
    · exact ⟨_,e⟩
    · exact ⟨_,e⟩
  refine ⟨t,fun u hu=>?_,fun b o e n=>k1 b o e fun z=>?_,fun b ps e=>?_⟩
  · by_cases hb:u.1=P
    · have:u=(P,pos,q):=by
        obtain ⟨i,hi,ei⟩:=List.getElem_of_mem hu
        obtain ⟨j,hj,ej⟩:=List.getElem_of_mem hm
        have e1:(T.map (·.1))[i]?=some P:=by rw [List.getElem?_map,List.getElem?_eq_getElem hi,ei,← hb];rfl
        have e2:(T.map (·.1))[j]?=some P:=by rw [List.getElem?_map,List.getElem?_eq_getElem hj,ej];rfl
        obtain ⟨a1,a2⟩:=List.getElem?_eq_some_iff.mp e1
        obtain ⟨b1,b2⟩:=List.getElem?_eq_some_iff.mp e2
        have hij:i=j:=(List.getElem_inj nd).mp (a2.trans b2.symm)
        subst hij
        rw [← ei,← ej]
      rw [this];exact t2
    · rcases t u hu with e | ⟨c,e1,e2⟩
      · exact .inl (k1 _ _ e hb)
      · exact .inr ⟨c,k1 _ _ e1 hb,k1 _ _ e2 fun z=>by rw [z,hP] at e2;cases e2⟩
  · subst z
    rw [hP] at e;cases e
    exact n ps0 rfl
  · by_cases hb:b=P
    · rw [hb];exact hP2
    · exact ⟨ps,k1 _ _ e hb⟩
section
variable {X:Cx}
def Kl (K:PySem.W.Frag):V→List V→Hp→VK→Prop:=fun x vs H Q=>∃ (l:Addr) (ns:List Int) (k:Int),x=.ref l∧vs=[.int k]∧SqL K H l (ns.map V.int)∧k∈ns∧Q (.int (ns.idxOf k:Nat)) H
theorem BZ:MtR X "list.index" (Kl X.K):=by
  intro pins s σ H x vs v us Q I rx rv h
  obtain ⟨l,ns,k,rfl,rfl,hq,hk,q⟩:=h
  cases rx
  obtain ⟨u,rfl,t,rfl⟩:=vals1 rv
  obtain ⟨its,r1,p1,hz⟩:=I.list hq
  have hi:IntsAre its ns:=intsAre_of r1
  obtain ⟨⟨cls,dd,data,sl⟩,ho,hc,n,hd⟩:=id p1.isList
  simp only at hc hd
  subst hc hd
  have hlen:=hi.length
  have hj:ns.idxOf k<ns.length:=List.idxOf_lt_length_iff.mpr hk
  have hn:=m6
  rw [List.length_map] at hz
  refine call_meets PySem.F.slot_list_index ⟨_,ho,rfl⟩ PySem.F.entry_list_index (PySem.F.args_list_index_2 _ _)
    (SeqAt.list_indexAt l its.toArray n dd sl (.int k t) (isInt k) (ns.idxOf k) (by simpa [hlen] using hj) (by omega) ?_ ?_) ⟨ho,fun y hy=>(eq_isInt k t hi y (by simpa using hy)).at _ _,?_⟩
  · show isInt k its[ns.idxOf k]=true
    rw [isInt_at k hi _ (by omega) hj]
    simpa using List.getElem_idxOf hj
  · intro j hjs hlt
    show isInt k its[j]=false
    rw [isInt_at k hi j (by simpa using hjs) (by omega)]
    exact ne_of_lt_idxOf hlt _
  · exact ⟨.int (ns.idxOf k:Nat),H,I.tok _,⟨_,rfl⟩,q⟩
end
def uO (T:fU) (H:Hp) (P:List V→Prop) (Q:VK):Prop:=∀ (l:Addr) (H':Hp) (xs:List V),bA T H H'→H l=none→H' l=some (.tup xs)→P xs→Q (.ref l) H'
section
variable {T:fU} {H0 H:Hp} {L:List (Addr × HO)} {l:Addr} {xs:List V}
theorem Ow.Qo {P:List V→Prop} {Q:VK} (O:Ow T H0 H L) (k:Nat) (h:L[k]?=some (l,.tup xs)) (q:uO T H0 P Q) (p:P xs):Q (.ref l) H:=q l H xs O.same (O.fr k h) (O.get k h) p
theorem Ow.PX {P:List V→Prop} {Q:VK} (O:Ow T H0 H L) (k:∀ l H' xs,Ow T H0 H' ((l,.tup xs) :: L)→P xs→Q (.ref l) H'):uO T H P Q:=fun l H' xs s n h p=>k l H' xs (O.Ju s n h rfl) p
theorem Ow.mkE {a:Addr} {o:HO} {H':Hp} (O:Ow T H0 H L) (h:H a=none) (e:upd H a o=H') (ho:jg o=true):Ow T H0 H' ((a,o) :: L):=e ▸ O.mk' h ho
theorem Ow.ug {a:Addr} {o o':HO} {H':Hp} (O:Ow T H0 H L) (k:Nat) (h:L[k]?=some (a,o)) (e:upd H a o'=H') (ho:jg o'=true):Ow T H0 H' (L.set k (a,o')):=e ▸ O.Tq k h ho
end
end L2
namespace L2
open PySem PySem.W PySem.Spec PySem.Calls PyProof.Rows PySem.Builtin PySem.Builtin.ObjectAttr PySem.Builtin.Getset_descriptor
end L2
namespace L2
open PySem PySem.W PySem.Spec PySem.Calls PyProof.Rows
end L2
namespace L2
open PySem PySem.W PySem.Spec PySem.Calls PyProof.Rows
abbrev bmVE:List Value:=[.type "ValueError",.type "Exception",.type "BaseException",.type "object"]
end L2
namespace L2
open PySem PySem.W PySem.Spec PySem.Calls PyProof.Rows
abbrev TX:=Ends→(St→XK)→St→Hp→Prop
end L2
namespace L2
open PySem PySem.W PySem.Spec PySem.Calls PyProof.Rows
end L2
namespace L2
open PySem PySem.Spec PyProof.Rows
section
variable {X:Cx}
theorem wF {n:Nat} {acc:Array Value} (hacc:ItemsOf (fun i v=>∃ t,v=.int (0 + (i:Nat) * 1) t) acc n):Vals (gC n) acc.toList:=by
  have hsz:acc.toList.length=n:=by rw [Array.length_toList];exact hacc.1
  have key:∀ (k:Nat) (l:List Value),l.length=k→(∀ (j:Nat) (v:Value),l[j]?=some v→∃ t,v=.int ((n - k + j:Nat):Int) t)→k≤n→Vals ((List.range' (n - k) k).map fun (i:Nat)=>V.int (i:Int)) l:=by
    intro k
    induction k with
    | zero =>
      intro l hl _ _
      have:l=[]:=List.length_eq_zero_iff.mp hl
      subst this
      exact .nil
    | succ k ih =>
      intro l hl hP hk
      match l,hl with
      | v :: l,hl =>
        have hl':l.length=k:=by simpa using hl
        rw [List.range'_succ,List.map_cons]
        obtain ⟨t,ht⟩:=hP 0 v rfl
        refine .cons ⟨t,?_⟩ ?_
        · rw [ht];rfl
        · have e:n - (k + 1) + 1=n - k:=by omega
          rw [e]
          refine ih l hl' (fun j v' e'=>?_) (by omega)
          obtain ⟨t',ht'⟩:=hP (j + 1) v' (by simpa using e')
          exact ⟨t',by rw [ht'];congr 2;omega⟩
  have:=key n acc.toList hsz (fun j v e=>by
    obtain ⟨t,ht⟩:=hacc.2 j v (by simpa using e)
    refine ⟨t,?_⟩
    rw [ht]
    congr 1
    omega) (Nat.le_refl _)
  rw [Nat.sub_self,← List.range_eq_range'] at this
  exact this
def wL (ta:TA):TE:=fun σ H Q=>ta σ H fun vs H1=>∃ n:Nat,vs=[.int (n:Int)]∧n<64∧∀ l,H1 l=none→Q (.ref l) (upd H1 l (.lst (gC n)))
theorem rM {e:Expr} {ta:TA} {p1 p2 p3 pos:Pos} (hcalm:X.calm=true) (hgs:Gl X "list") (hms:X.mg "list"=none) (hgr:Gl X "range") (hmr:X.mg "range"=none) (ha:PA X [e] ta) (hs:starEach [e] X.env=[(false,eval e X.env)]:=by rfl) :
    PE X (.Call (.Name "list" p1) [.Call (.Name "range" p2) [e] [] p3] [] pos) (wL ta):=by
  intro pins s σ H Q I h
  refine Call_ (jj I hgs hms boot_list (PyProof.Rows.callWith_type1 ?_ rfl rfl))
  show wpAny _ _ (spliced ((false,eval (.Call (.Name "range" p2) [e] [] p3) X.env) :: [])) _ _ s
  refine Calls.spliced_cons (Call_ (jj I hgr hmr boot_range (PyProof.Rows.callWith_type1 (thn (ha p3 pins s σ H _ I h) fun us s1 ⟨vs,H1,I1,r1,q1⟩=>?_) hs rfl)))
  obtain ⟨n,e1,hn,q⟩:=q1
  subst e1
  obtain ⟨u,rfl,t,rfl⟩:=vals1 r1
  refine call_range_1 ?_
  refine Calls.spliced_nil ?_
  have hrs:Builtin.Range.rangeSize 0 (n:Int) 1=(n:Nat):=by rw [rangeSize_one];split <;> omega
  generalize hro:({ cls:=.type "range",data:=.fields #[.int 0 s1.toks,.int (n:Int) t,.int 1 (s1.toks + 1)] }:Obj)=ro
  have I2:Inv X pins σ H1 { s1 with heap:=s1.heap.push ro,toks:=s1.toks + 1 + 1 }:=I1.kept fun b o e=>Heap.get?_push_of_some _ e
  have hR:IsRange (s1.heap.push ro) s1.heap.objs.size 0 (n:Int) 1 s1.toks t (s1.toks + 1):=by
    rw [← hro];exact Heap.get?_push_size _ rfl
  refine call_list_range (I.ok.hd hcalm) hR (small_one (by omega) (by omega) (by omega) (by omega)) hrs (by omega) fun h' tk acc c hk hS hacc=>?_
  exact ⟨.ref (s1.heap.push ro).objs.size,_,I2.laid (t':=tk) hk (Nat.le_refl _) (show eV X.prog X.w _ h' _ (.lst (gC n)) from ⟨by unfold gC;rw [List.length_map,List.length_range,sizeLine_eq];omega,acc.toList,c,wF hacc,by simpa using hS⟩),rfl,q _ (I2.hok.fresh (Nat.le_refl _))⟩
theorem Inv.lZ {pins:List (Addr × Obj)} {σ:St} {H:Hp} {s:Shared} {h':Heap} {t':Nat} {ch:List Addr} (I:Inv X pins σ H s) (k:∀ b o,b ∉ ch→s.heap.get? b=some o→h'.get? b=some o) (f:∀ b∈ch,qY X pins H b):Inv X pins σ H { s with heap:=h',toks:=t' }:=by
  have nit:∀ b u,H b=some u→b ∉ ch:=fun b u e z=>by rw [(f b z).1] at e;cases e
  refine I.step (g':=s.gens) (d':=s.drawn) (ch:=ch) (fun b hb=>?_) (fun b o _ _ hc e _=>k b o hc e) (fun b o _ _ hc e _=>⟨o.slots,k b o hc e⟩) (fun _ _ _ _ n=>n)
    (fun b o hc e=>⟨o,k b o hc e⟩) (fun _ _ e=>e) (fun _ _ _ e=>e) (fun b ps e=>⟨#[],by rw [e];simp⟩) (fun m hm=>?_) (fun b u e=>?_) I.bare
  · obtain ⟨f0,f1,f2,f3,f4,f5⟩:=f b hb
    exact ⟨f3,f1,f4,f5⟩
  · obtain ⟨o,es,ep,ho,r⟩:=hm
    exact ⟨o,es,ep,k _ o (fun z=>(f _ z).2.1 rfl) ho,r⟩
  · refine (I.hok b u e).stay (fun c v hc q=>k c v ?_ q) (fun _ q=>q) fun _ _ q=>q
    rcases hc with z | z
    · rw [z];exact nit b u e
    · exact nit c _ z
def Itz (K:PySem.W.Frag) (l1 l2:Addr) (xs ys:List V):It :=
  ⟨fun i H=>SqL K H l1 xs∧SqL K H l2 ys∧i<xs.length∧i<ys.length,fun i H x H'=>∃ T a b,x=.ref T∧H T=none∧xs[i]?=some a∧ys[i]?=some b∧H'=upd H T (.tup [a,b]),
   fun i H=>SqL K H l1 xs∧SqL K H l2 ys∧(xs.length≤i∨ys.length≤i)⟩
def S5 (z TI TO i1 i2 l1 l2:Addr) (i:Nat) (h:Heap):Prop:=IsZip h z TI TO .none∧IsPair h TI (.ref i1) (.ref i2)∧(∃ a b,IsPair h TO a b)∧h.IsListIter i1 l1 i∧h.IsListIter i2 l2 i
theorem Bg {P:Program} {w:World} {K:PySem.W.Frag} {elts:List Expr} {kk:Nat} {tpos:Pos} {z TI TO i1 i2 l1 l2:Addr} {xs ys:List V} (D:ZipApart z TI TO i1 i2 l1 l2) :
    Turn P w K (.Tuple elts kk tpos) (Itz K l1 l2 xs ys) [z,TI,TO,i1,i2] z (S5 z TI TO i1 i2 l1 l2) where
  mem:=by simp
  obj:=fun i h st b hb=>by
    obtain ⟨hz,hTI,⟨a,b',hTO⟩,⟨o1,e1,c1,d1⟩,⟨o2,e2,c2,d2⟩⟩:=st
    simp at hb
    rcases hb with rfl | rfl | rfl | rfl | rfl
    · exact ⟨_,hz,fun v z=>by cases (show Data.fields _=Data.cell v from z)⟩
    · exact ⟨_,hTI,fun v z=>by cases (show Data.seq _ _=Data.cell v from z)⟩
    · exact ⟨_,hTO,fun v z=>by cases (show Data.seq _ _=Data.cell v from z)⟩
    · exact ⟨o1,e1,fun v z=>by rw [d1] at z;cases z⟩
    · exact ⟨o2,e2,fun v z=>by rw [d2] at z;cases z⟩
  keep:=fun i h h' st k=>by
    obtain ⟨hz,hTI,⟨a,b,hTO⟩,h1,h2⟩:=st
    exact ⟨k z (by simp) _ hz,k TI (by simp) _ hTI,⟨a,b,k TO (by simp) _ hTO⟩,h1.at fun o e=>k i1 (by simp) o e,h2.at fun o e=>k i2 (by simp) o e⟩
  item:=by
    intro X hP hw hK hc i pins s σ H E I hf st hg
    subst hP hw hK
    obtain ⟨hz,hTI,⟨p,p',hTO⟩,h1,h2⟩:=st
    obtain ⟨hq1,hq2,hi1,hi2⟩:=hg
    obtain ⟨its1,rv1,pl1,hz1⟩:=I.list hq1
    obtain ⟨its2,rv2,pl2,hz2⟩:=I.list hq2
    obtain ⟨u1,hu1,ru1⟩:=rv1.get (List.getElem?_eq_getElem hi1)
    obtain ⟨u2,hu2,ru2⟩:=rv2.get (List.getElem?_eq_getElem hi2)
    refine wpAny_pyNext_zip_item D hz hTI hTO h1 h2 pl1.isList pl2.isList (x:=u1) (y:=u2) (by simpa using hu1) (by simpa using hu2) fun h' a1 a2 a3 a4 a5 a6 hk=>?_
    have lt:∀ {c o},s.heap.get? c=some o→s.heap.objs.size≠c:=fun e=>Nat.ne_of_gt (Heap.lt_size e)
    refine ⟨.ref s.heap.objs.size,rfl,wpAny_letOwnedTupleGo_zip (s:={ s with heap:=h' }) a1 fun h'' hz' hs'=>?_⟩
    have Tz:s.heap.objs.size≠z:=lt hz
    have sub:∀ b∈([z,TO,i1,i2]:List Addr),b∈([z,TI,TO,i1,i2]:List Addr):=fun b hb=>by
      simp at hb ⊢
      rcases hb with rfl | rfl | rfl | rfl <;> simp
    have I1:Inv X pins σ H { s with heap:=h'' }:=I.lZ (t':=s.toks) (ch:=[z,TO,i1,i2])
      (fun b o hb e=>hs'.extBut b o (fun x=>hb (by simp [x])) (hk b o (fun x=>hb (by simp [x])) (fun x=>hb (by simp [x])) (fun x=>hb (by simp [x])) (fun x=>hb (by simp [x])) e)) fun b hb=>hf b (sub b hb)
    have F:=I.uG (H':=H) (Nat.le_refl _) (I.hok.fresh (Nat.le_refl _))
    obtain ⟨F0,F1,F2,F3,F4,F5⟩:=F
    have hT:IsTup h'' s.heap.objs.size #[u1,u2]:=⟨_,hs'.extBut _ _ Tz a5,rfl,_,rfl⟩
    have I2:Inv X pins σ (upd H s.heap.objs.size (.tup [xs[i],ys[i]])) { s with heap:=h'' }:=I1.adopt F0 F1 I.sz F4 F5 (show eV X.prog X.w _ h'' _ (.tup [xs[i],ys[i]]) from ⟨by rw [sizeLine_eq];simp,[u1,u2],.cons ru1 (.cons ru2 .nil),hT⟩)
    refine ⟨.ref s.heap.objs.size,_,I2,rfl,⟨_,_,_,rfl,F0,List.getElem?_eq_getElem hi1,List.getElem?_eq_getElem hi2,rfl⟩,?_,fun b hb=>?_⟩
    · exact ⟨hz',hs'.extBut _ _ D.TIz (hk _ _ D.TIz D.TITO D.TIi1 D.TIi2 hTI),⟨_,_,hs'.extBut _ _ D.TOz a2⟩,a3.extBut hs'.extBut D.i1z,a4.extBut hs'.extBut D.i2z⟩
    · rw [aN]
      · exact (hf b hb).1
      · simp at hb
        obtain ⟨o1,e1,_⟩:=h1
        obtain ⟨o2,e2,_⟩:=h2
        rcases hb with rfl | rfl | rfl | rfl | rfl
        · exact (lt hz).symm
        · exact (lt hTI).symm
        · exact (lt hTO).symm
        · exact (lt e1).symm
        · exact (lt e2).symm
  done:=by
    intro X hP hw hK hc i pins s σ H E I hf st hg
    subst hP hw hK
    obtain ⟨hz,hTI,⟨p,p',hTO⟩,h1,h2⟩:=st
    obtain ⟨hq1,hq2,hend⟩:=hg
    obtain ⟨its1,rv1,pl1,hz1⟩:=I.list hq1
    obtain ⟨its2,rv2,pl2,hz2⟩:=I.list hq2
    have e1:=rv1.length
    have e2:=rv2.length
    have sub:∀ b∈([z,TO,i1,i2]:List Addr),b∈([z,TI,TO,i1,i2]:List Addr):=fun b hb=>by
      simp at hb ⊢
      rcases hb with rfl | rfl | rfl | rfl <;> simp
    refine wpAny_pyNext_zip_end (I.ok.hd hc) D hz hTI hTO h1 h2 pl1.isList pl2.isList ?_ fun h' hk=>⟨rfl,I.lZ (t':=s.toks) (ch:=[z,TO,i1,i2])
      (fun b o hb e=>hk b o (fun x=>hb (by simp [x])) (fun x=>hb (by simp [x])) (fun x=>hb (by simp [x])) (fun x=>hb (by simp [x])) e) fun b hb=>hf b (sub b hb)⟩
    rcases hend with h | h
    · exact .inl (by simp;omega)
    · exact .inr (by simp;omega)
  self:=fun _ _ _ _ _ st h=>wpAny_pyIter_zip st.1 h
def iZip (K:PySem.W.Frag) (ta:TA):TI:=fun σ H R=>ta σ H fun vs H1=>∃ l1 l2 xs ys,vs=[.ref l1,.ref l2]∧SqL K H1 l1 xs∧SqL K H1 l2 ys∧R (Itz K l1 l2 xs ys) H1
theorem vG {elts:List Expr} {kk:Nat} {tpos:Pos} {a b:Expr} {ta:TA} {p pos:Pos} (hg:Gl X "zip") (hm:X.mg "zip"=none) (ha:PA X [a,b] ta) (hs:starEach [a,b] X.env=[(false,eval a X.env),(false,eval b X.env)]:=by rfl) (hs2:starEach [b] X.env=[(false,eval b X.env)]:=by rfl) :
    PI X (.Tuple elts kk tpos) (.Call (.Name "zip" p) [a,b] [] pos) (iZip X.K ta):=by
  intro pins s σ H R I h
  refine Call_ (jj I hg hm boot_zip (PyProof.Rows.callWith_type1 (thn (ha pos pins s σ H _ I h) fun us s1 ⟨vs,H1,I1,r1,q1⟩=>?_) (by rw [hs,hs2]) (by rw [hs2];rfl)))
  obtain ⟨l1,l2,xs,ys,e,hq1,hq2,q⟩:=q1
  subst e
  cases r1 with
  | cons r rr =>
    cases rr with
    | cons r' rr =>
      cases rr
      cases r
      cases r'
      obtain ⟨its1,rv1,pl1,hz1⟩:=I1.list hq1
      obtain ⟨its2,rv2,pl2,hz2⟩:=I1.list hq2
      refine call_zip_2 pl1.isList pl2.isList fun h' a1 a2 a3 a4 a5 a6 hk=>?_
      refine wpAny_pyIter_zip a1 ?_
      have b1:l1<s1.heap.objs.size:=by obtain ⟨o,e,_⟩:=pl1.isList;exact Heap.lt_size e
      have b2:l2<s1.heap.objs.size:=by obtain ⟨o,e,_⟩:=pl2.isList;exact Heap.lt_size e
      refine ⟨_,_,_,_,H1,rfl,I1.kept (t':=s1.toks) hk,Bg (l1:=l1) (l2:=l2) (xs:=xs) (ys:=ys) (TI:=s1.heap.objs.size + 2) (TO:=s1.heap.objs.size + 3) (i1:=s1.heap.objs.size) (i2:=s1.heap.objs.size + 1) ?_,⟨a1,a2,⟨_,_,a3⟩,a4,a5⟩,fun b hb=>?_,q⟩
      · constructor <;> exact fun z=>by simp only [Addr] at z b1 b2;omega
      · have hb':s1.heap.objs.size≤b:=by
          simp at hb
          rcases hb with rfl | rfl | rfl | rfl | rfl <;> simp
        exact I1.uG hb' (I1.hok.fresh hb')
theorem zU {K:PySem.W.Frag} {l1 l2:Addr} {xs ys:List V} {g:TG} {tb:TS} {D:Ends} {σ:St} {H:Hp} (Pv:Nat→St→Hp→Prop) (hxy:xs.length=ys.length) (h0:Pv 0 σ H) (hl:∀ i σ H,i≤xs.length→Pv i σ H→SqL K H l1 xs∧SqL K H l2 ys)
    (hs:∀ i a b T σ H,xs[i]?=some a→ys[i]?=some b→Pv i σ H→H T=none→g (.ref T) σ (upd H T (.tup [a,b])) fun σ2 H2=>tb { D with nx:=Pv (i + 1),ct:=Pv (i + 1),bk:=D.nx } σ2 H2) (hd:∀ σ H,Pv xs.length σ H→D.nx σ H) :
    ∃ W:Nat→Nat→St→Hp→Prop,(∃ m,W 0 m σ H)∧∀ i m σ H,W i m σ H →
      ((Itz K l1 l2 xs ys).stop i H∧D.nx σ H)∨((Itz K l1 l2 xs ys).go i H∧∃ N:St→Hp→Prop,(∀ σ' H',N σ' H'→∃ m',m'<m∧W (i + 1) m' σ' H')∧∀ x H',(Itz K l1 l2 xs ys).yld i H x H'→g x σ H' fun σ2 H2=>tb { D with nx:=N,ct:=N,bk:=D.nx } σ2 H2):=by
  refine ⟨fun i m σ H=>m=xs.length - i∧i≤xs.length∧Pv i σ H,⟨xs.length,by simp,Nat.zero_le _,h0⟩,?_⟩
  rintro i m σ H ⟨rfl,hi,p⟩
  obtain ⟨q1,q2⟩:=hl i σ H hi p
  by_cases hlt:i<xs.length
  · refine .inr ⟨⟨q1,q2,hlt,by omega⟩,Pv (i + 1),fun σ' H' p'=>⟨xs.length - (i + 1),by omega,rfl,hlt,p'⟩,fun x H' y=>?_⟩
    obtain ⟨T,a,b,rfl,hT,ha,hb,rfl⟩:=y
    exact hs i a b T σ _ ha hb p hT
  · have e:i=xs.length:=by omega
    subst e
    exact .inl ⟨⟨q1,q2,.inl (Nat.le_refl _)⟩,hd σ H p⟩
end
end L2
namespace L2
open PySem PySem.Spec PyProof.Rows
section
variable {X:Cx}
def Ite (K:PySem.W.Frag) (l:Addr) (xs:List V):It :=
  ⟨fun i H=>SqL K H l xs∧i<xs.length,fun i H x H'=>∃ T a,x=.ref T∧H T=none∧xs[i]?=some a∧H'=upd H T (.tup [.int (i:Int),a]),fun i H=>SqL K H l xs∧xs.length≤i⟩
def Ql (e it l:Addr) (i:Nat) (h:Heap):Prop:=(∃ old,IsEnum h e it i old)∧h.IsListIter it l i
theorem xZ {P:Program} {w:World} {K:PySem.W.Frag} {elts:List Expr} {kk:Nat} {tpos:Pos} {e it l:Addr} {xs:List V} (hei:e≠it) :
    Turn P w K (.Tuple elts kk tpos) (Ite K l xs) [e,it] e (Ql e it l) where
  mem:=by simp
  obj:=fun i h st b hb=>by
    obtain ⟨⟨old,he⟩,⟨o1,e1,c1,d1⟩⟩:=st
    simp at hb
    rcases hb with rfl | rfl
    · exact ⟨_,he,fun v z=>by cases (show Data.fields _=Data.cell v from z)⟩
    · exact ⟨o1,e1,fun v z=>by rw [d1] at z;cases z⟩
  keep:=fun i h h' st k=>by
    obtain ⟨⟨old,he⟩,h1⟩:=st
    exact ⟨⟨old,k e (by simp) _ he⟩,h1.at fun o x=>k it (by simp) o x⟩
  item:=by
    intro X hP hw hK hc i pins s σ H E I hf st hg
    subst hP hw hK
    obtain ⟨⟨old,he⟩,h1⟩:=st
    obtain ⟨hq1,hi1⟩:=hg
    obtain ⟨its1,rv1,pl1,hz1⟩:=I.list hq1
    obtain ⟨u1,hu1,ru1⟩:=rv1.get (List.getElem?_eq_getElem hi1)
    refine wpAny_pyNext_enum_item he h1 pl1.isList (x:=u1) (by simpa using hu1) hei fun h' a1 a2 a3 a4 hk=>?_
    have lt:∀ {c o},s.heap.get? c=some o→s.heap.objs.size≠c:=fun e=>Nat.ne_of_gt (Heap.lt_size e)
    refine ⟨.ref s.heap.objs.size,rfl,wpAny_letOwnedTupleGo_enum (s:={ s with heap:=h',toks:=s.toks + 1 }) a1 fun h'' hz' hs'=>?_⟩
    have Tz:s.heap.objs.size≠e:=lt he
    have I1:Inv X pins σ H { s with heap:=h'',toks:=s.toks + 1 }:=I.lZ (ch:=[e,it])
      (fun b o hb x=>hs'.extBut b o (fun z=>hb (by simp [z])) (hk b o (fun z=>hb (by simp [z])) (fun z=>hb (by simp [z])) x)) fun b hb=>hf b hb
    obtain ⟨F0,F1,F2,F3,F4,F5⟩:=I.uG (H':=H) (Nat.le_refl _) (I.hok.fresh (Nat.le_refl _))
    have hT:IsTup h'' s.heap.objs.size #[.int (i:Int) s.toks,u1]:=⟨_,hs'.extBut _ _ Tz a3,rfl,_,rfl⟩
    have I2:Inv X pins σ (upd H s.heap.objs.size (.tup [.int (i:Int),xs[i]])) { s with heap:=h'',toks:=s.toks + 1 }:=I1.adopt F0 F1 I.sz F4 F5 (show eV X.prog X.w _ h'' _ (.tup [.int (i:Int),xs[i]]) from ⟨by rw [sizeLine_eq];simp,[.int (i:Int) s.toks,u1],.cons ⟨_,rfl⟩ (.cons ru1 .nil),hT⟩)
    refine ⟨.ref s.heap.objs.size,_,I2,rfl,⟨_,_,rfl,F0,List.getElem?_eq_getElem hi1,rfl⟩,?_,fun b hb=>?_⟩
    · exact ⟨⟨_,by simpa using hz'⟩,a2.extBut hs'.extBut hei.symm⟩
    · rw [aN]
      · exact (hf b hb).1
      · simp at hb
        obtain ⟨o1,e1,_⟩:=h1
        rcases hb with rfl | rfl
        · exact (lt he).symm
        · exact (lt e1).symm
  done:=by
    intro X hP hw hK hc i pins s σ H E I hf st hg
    subst hP hw hK
    obtain ⟨⟨old,he⟩,h1⟩:=st
    obtain ⟨hq1,hend⟩:=hg
    obtain ⟨its1,rv1,pl1,hz1⟩:=I.list hq1
    have e1:=rv1.length
    exact wpAny_pyNext_enum_end (I.ok.hd hc) he h1 pl1.isList (by simp;omega) fun h' hk=>⟨rfl,I.lZ (t':=s.toks) (ch:=[e,it])
      (fun b o hb x=>hk b o (fun z=>hb (by simp [z])) x) fun b hb=>hf b hb⟩
  self:=fun _ _ _ _ _ st h=>by
    obtain ⟨⟨old,he⟩,_⟩:=st
    exact wpAny_pyIter_enum he h
def Rq (K:PySem.W.Frag) (ta:TA):TI:=fun σ H R=>ta σ H fun vs H1=>∃ l xs,vs=[.ref l]∧SqL K H1 l xs∧R (Ite K l xs) H1
theorem yS {elts:List Expr} {kk:Nat} {tpos:Pos} {a:Expr} {ta:TA} {p pos:Pos} (hg:Gl X "enumerate") (hm:X.mg "enumerate"=none) (ha:PA X [a] ta) (hs:starEach [a] X.env=[(false,eval a X.env)]:=by rfl) :
    PI X (.Tuple elts kk tpos) (.Call (.Name "enumerate" p) [a] [] pos) (Rq X.K ta):=by
  intro pins s σ H R I h
  refine Call_ (jj I hg hm boot_enumerate (PyProof.Rows.callWith_type1 (thn (ha pos pins s σ H _ I h) fun us s1 ⟨vs,H1,I1,r1,q1⟩=>?_) hs rfl))
  obtain ⟨l1,xs,e,hq1,q⟩:=q1
  subst e
  obtain ⟨u,rfl,ru⟩:=vals1 r1
  cases ru
  obtain ⟨its1,rv1,pl1,hz1⟩:=I1.list hq1
  refine call_enumerate_list pl1.isList fun h' a1 a2 a3 hk=>?_
  refine wpAny_pyIter_enum a1 ?_
  refine ⟨_,_,_,_,H1,rfl,I1.kept (t':=s1.toks) hk,xZ (l:=l1) (xs:=xs) (it:=s1.heap.objs.size) (Nat.succ_ne_self _),⟨⟨_,a1⟩,a2⟩,fun b hb=>?_,q⟩
  have hb':s1.heap.objs.size≤b:=by
    simp at hb
    rcases hb with rfl | rfl <;> simp
  exact I1.uG hb' (I1.hok.fresh hb')
theorem Cw {K:PySem.W.Frag} {l:Addr} {xs:List V} {g:TG} {tb:TS} {D:Ends} {σ:St} {H:Hp} (Pv:Nat→St→Hp→Prop) (h0:Pv 0 σ H) (hl:∀ i σ H,i≤xs.length→Pv i σ H→SqL K H l xs)
    (hs:∀ i a T σ H,xs[i]?=some a→Pv i σ H→H T=none→g (.ref T) σ (upd H T (.tup [.int (i:Int),a])) fun σ2 H2=>tb { D with nx:=Pv (i + 1),ct:=Pv (i + 1),bk:=D.nx } σ2 H2) (hd:∀ σ H,Pv xs.length σ H→D.nx σ H) :
    ∃ W:Nat→Nat→St→Hp→Prop,(∃ m,W 0 m σ H)∧∀ i m σ H,W i m σ H →
      ((Ite K l xs).stop i H∧D.nx σ H)∨((Ite K l xs).go i H∧∃ N:St→Hp→Prop,(∀ σ' H',N σ' H'→∃ m',m'<m∧W (i + 1) m' σ' H')∧∀ x H',(Ite K l xs).yld i H x H'→g x σ H' fun σ2 H2=>tb { D with nx:=N,ct:=N,bk:=D.nx } σ2 H2):=by
  refine ⟨fun i m σ H=>m=xs.length - i∧i≤xs.length∧Pv i σ H,⟨xs.length,by simp,Nat.zero_le _,h0⟩,?_⟩
  rintro i m σ H ⟨rfl,hi,p⟩
  have q1:=hl i σ H hi p
  by_cases hlt:i<xs.length
  · refine .inr ⟨⟨q1,hlt⟩,Pv (i + 1),fun σ' H' p'=>⟨xs.length - (i + 1),by omega,rfl,hlt,p'⟩,fun x H' y=>?_⟩
    obtain ⟨T,a,rfl,hT,ha,rfl⟩:=y
    exact hs i a T σ _ ha p hT
  · have e:i=xs.length:=by omega
    subst e
    exact .inl ⟨⟨q1,Nat.le_refl _⟩,hd σ H p⟩
theorem Ad {K:PySem.W.Frag} {a:Addr} {xs:List V} {acc:Addr} {g:TG} {tc:TT} {te:TE} {τ:St} {H1:Hp} {Q:Hp→Prop} (Pv:Nat→St→Hp→Prop) (h0:Pv 0 τ (upd H1 acc (.lst []))) (hl:∀ i τ H,i≤xs.length→Pv i τ H→SqL K H a xs)
    (hs:∀ i x T τ H,xs[i]?=some x→Pv i τ H→H T=none→g (.ref T) τ (upd H T (.tup [.int (i:Int),x])) fun τ4 H4=>tc τ4 H4 fun b H5=>if b=true then te τ4 H5 fun y H6=>∃ ys,H6 acc=some (.lst ys)∧ys.length<sizeLine∧Pv (i + 1) τ4 (upd H6 acc (.lst (ys++[y]))) else Pv (i + 1) τ4 H5)
    (hd:∀ τ H,Pv xs.length τ H→Q H):pK (Ite K a xs) acc g tc te τ H1 Q:=by
  refine ⟨fun i m τ H=>m=xs.length - i∧i≤xs.length∧Pv i τ H,⟨xs.length,by simp,Nat.zero_le _,h0⟩,?_⟩
  rintro i m τ H ⟨rfl,hi,p⟩
  have q:=hl i τ H hi p
  by_cases hlt:i<xs.length
  · refine .inr ⟨⟨q,hlt⟩,Pv (i + 1),fun τ' H' p'=>⟨xs.length - (i + 1),by omega,rfl,hlt,p'⟩,fun x H' y=>?_⟩
    obtain ⟨T,b,rfl,hT,hb,rfl⟩:=y
    exact hs i b T τ _ hb p hT
  · have e:i=xs.length:=by omega
    subst e
    exact .inl ⟨⟨q,Nat.le_refl _⟩,hd τ H p⟩
theorem vX {K:PySem.W.Frag} {l1 l2:Addr} {xs ys:List V} {acc:Addr} {g:TG} {tc:TT} {te:TE} {τ:St} {H1:Hp} {Q:Hp→Prop} (Pv:Nat→St→Hp→Prop) (hxy:xs.length=ys.length) (h0:Pv 0 τ (upd H1 acc (.lst []))) (hl:∀ i τ H,i≤xs.length→Pv i τ H→SqL K H l1 xs∧SqL K H l2 ys)
    (hs:∀ i x y T τ H,xs[i]?=some x→ys[i]?=some y→Pv i τ H→H T=none→g (.ref T) τ (upd H T (.tup [x,y])) fun τ4 H4=>tc τ4 H4 fun b H5=>if b=true then te τ4 H5 fun y H6=>∃ ys,H6 acc=some (.lst ys)∧ys.length<sizeLine∧Pv (i + 1) τ4 (upd H6 acc (.lst (ys++[y]))) else Pv (i + 1) τ4 H5)
    (hd:∀ τ H,Pv xs.length τ H→Q H):pK (Itz K l1 l2 xs ys) acc g tc te τ H1 Q:=by
  refine ⟨fun i m τ H=>m=xs.length - i∧i≤xs.length∧Pv i τ H,⟨xs.length,by simp,Nat.zero_le _,h0⟩,?_⟩
  rintro i m τ H ⟨rfl,hi,p⟩
  obtain ⟨q1,q2⟩:=hl i τ H hi p
  by_cases hlt:i<xs.length
  · refine .inr ⟨⟨q1,q2,hlt,by omega⟩,Pv (i + 1),fun τ' H' p'=>⟨xs.length - (i + 1),by omega,rfl,hlt,p'⟩,fun x H' y=>?_⟩
    obtain ⟨T,b,c,rfl,hT,hb,hc,rfl⟩:=y
    exact hs i b c T τ _ hb hc p hT
  · have e:i=xs.length:=by omega
    subst e
    exact .inl ⟨⟨q1,q2,.inl (Nat.le_refl _)⟩,hd τ H p⟩
theorem Ai (hc:X.calm=true):mG X (.builtin "min") (fun xs H Q=>∃ (p:Addr) (ns:List Int),xs=[.ref p]∧SqL X.K H p (ns.map V.int)∧0<ns.length∧∀ M∈ns,(∀ a∈ns,M≤a)→Q (.int M) H):=by
  intro pins s σ H xs us Q I r h
  obtain ⟨p,ns,rfl,hq,hne,q⟩:=h
  obtain ⟨u,rfl,ru⟩:=vals1 r
  cases ru
  obtain ⟨its,r1,p1,hz⟩:=I.list hq
  have hi:IntsAre its ns:=intsAre_of r1
  obtain ⟨ys,hx⟩:=hi.allInts.items
  have hl':s.heap.IsList p (intItems ys):=hx ▸ p1.isList
  have hns:ns=ys.toList.map (·.1):=by
    rw [← nums_intItems,← hx]
    exact (show numsOf its.toArray.toList=ns from hi.numsOf).symm
  have hsz:0<ys.size:=by
    have z:=congrArg List.length hns
    simp at z
    omega
  refine min_intList (I.ok.hd hc) hl' hsz fun v h' tk hv hk=>?_
  obtain ⟨t,rfl⟩:=intItems_at hv
  obtain ⟨h1,h2⟩:=argBest_lt (numAt ys) (ys.size - 1)
  refine ⟨.int _,H,I.kept hk,⟨t,rfl⟩,q _ ?_ fun a ha=>?_⟩
  · rw [hns,numAt_eq];exact getD_mem (by rw [List.length_map,Array.length_toList];omega)
  · rw [hns] at ha
    obtain ⟨j,hj,rfl⟩:=mem_getD ha
    rw [List.length_map,Array.length_toList] at hj
    rw [← numAt_eq];exact h2 j (by omega)
end
end L2
namespace L2
open PySem PySem.Spec PyProof.Rows
structure Iv (P:Prop):Prop where
  t:True
  p:P
theorem ifT {c:Bool} {A B:Prop} (h:c=true) (a:A):if c=true then A else B:=by rw [if_pos h];exact a
theorem ifF {c:Bool} {A B:Prop} (h:c=false) (b:B):if c=true then A else B:=by rw [if_neg (by rw [h];exact Bool.false_ne_true)];exact b
theorem ifB {c:Bool} {A B:Prop} (h1:c=true→A) (h2:c=false→B):if c=true then A else B:=by
  cases c with
  | true=>exact ifT rfl (h1 rfl)
  | false=>exact ifF rfl (h2 rfl)
theorem JF (x y:Int):decide (V.int x=V.int y)=decide (x=y):=by
  by_cases h:x=y
  · simp [h]
  · have:¬ V.int x=V.int y:=fun e=>h (by cases e;rfl)
    simp [h,this]
theorem iB {ns:List Int} {i:Int} (h0:0≤i) (h1:i<(ns.length:Int)):atI (ns.map V.int) i=some (V.int (ns.getD i.toNat 0)):=by
  refine jJ h0 ?_
  rw [List.getD_eq_getElem?_getD,List.getElem?_eq_getElem (by omega)];rfl
theorem oH {ns:List Int} (h:0<ns.length):atI (ns.map V.int) (-1)=some (V.int (ns.getD (ns.length - 1) 0)):=by
  unfold atI ixN
  rw [if_neg (by omega),if_pos (by rw [List.length_map];omega)]
  have e:(-1 + ((ns.map V.int).length:Int)).toNat=ns.length - 1:=by rw [List.length_map];omega
  rw [e]
  show (ns.map V.int)[ns.length - 1]?=_
  rw [List.getElem?_map,List.getElem?_eq_getElem (by omega),List.getD_eq_getElem?_getD,List.getElem?_eq_getElem (by omega)];rfl
theorem getD_mem' {ns:List Int} {k:Nat} (h:k<ns.length):ns.getD k 0∈ns:=by
  rw [List.getD_eq_getElem?_getD,List.getElem?_eq_getElem h];exact List.getElem_mem h
theorem bF {ns:List Int} {k:Nat} (h:k<ns.length):ns[k]?=some (ns.getD k 0):=by
  rw [List.getD_eq_getElem?_getD,List.getElem?_eq_getElem h];rfl
theorem cU.mo {T:fU} {K:PySem.W.Frag} {H H':Hp} {vs:List V} {ds:List PyData} (h:cU K H vs ds) (e:bA T H H'):cU K H' vs ds:=cU.qG e h
theorem SqL.mo {T:fU} {K:PySem.W.Frag} {H H':Hp} {a:Addr} {xs:List V} (h:SqL K H a xs) (e:bA T H H'):SqL K H' a xs:=e.seq h
theorem SqT.mo {T:fU} {K:PySem.W.Frag} {H H':Hp} {a:Addr} {xs:List V} (h:SqT K H a xs) (e:bA T H H'):SqT K H' a xs:=e.Jc h
section
variable {T:fU} {H0 H1 H H':Hp} {L L':List (Addr × HO)} {a l p:Addr} {o o':HO} {xs:List V} {K:PySem.W.Frag}
theorem Ow.frz (O:Ow T H0 H ((p,o) :: L)):∃ Hn,Ow T Hn H L∧bA T H0 Hn∧Hn p=some o:=by
  obtain ⟨Hn,On,sn,kn⟩:=O.tail.reb
  refine ⟨Hn,On,sn,kn p o (O.get 0) fun q hq z=>?_⟩
  have nd:=O.nd
  rw [List.map_cons,List.nodup_cons] at nd
  exact nd.1 (List.mem_map.mpr ⟨q,hq,z⟩)
theorem Ow.join (O:Ow T H0 H L) (O':Ow T H H' L'):Ow T H0 H' (L'++L):=by
  have keep:∀ q∈L,H' q.1=some q.2:=fun q hq=>(O.uM O'.same).at_ q hq
  refine ⟨O.same.trans O'.same,fun q hq=>?_,fun q hq=>?_,fun q hq=>?_,?_⟩
  · rcases List.mem_append.mp hq with h | h
    · exact O.same.free (O'.new q h)
    · exact O.new q h
  · rcases List.mem_append.mp hq with h | h
    · exact O'.at_ q h
    · exact keep q h
  · rcases List.mem_append.mp hq with h | h
    · exact O'.pl q h
    · exact O.pl q h
  · rw [List.map_append,List.nodup_append]
    refine ⟨O'.nd,O.nd,fun x hx y hy z=>?_⟩
    obtain ⟨q,hq,rfl⟩:=List.mem_map.mp hx
    obtain ⟨r,hr,rfl⟩:=List.mem_map.mp hy
    have:=O'.new q hq
    rw [z,O.at_ r hr] at this
    cases this
end
def dTup (ns:List Int):PyData:=.tuple (ns.map PyData.int)
def vW (rs:List (List Int)):PyData:=.list (rs.map jO)
section
variable {K:PySem.W.Frag} {H:Hp} {v:V} {a:Addr} {ns:List Int} {rs:List (List Int)}
theorem Den.tup (h:SqT K H a (ns.map V.int)):Den K H (.ref a) (dTup ns):=.tuple h (cU.ints ns)
theorem Den.Iz (h:Den K H v (dTup ns)):∃ a,v=.ref a∧SqT K H a (ns.map V.int):=by
  cases h with
  | tuple h hs=>exact ⟨_,rfl,by rw [← cU.int_inv hs];exact h⟩
theorem Den.iz {ds:List PyData} (h:Den K H v (.list ds)):∃ a xs,v=.ref a∧SqL K H a xs∧cU K H xs ds:=by
  cases h with
  | list h hs=>exact ⟨_,_,rfl,h,hs⟩
theorem Den.yd {ds:List PyData} (h:Den K H v (.tuple ds)):∃ a xs,v=.ref a∧SqT K H a xs∧cU K H xs ds:=by
  cases h with
  | tuple h hs=>exact ⟨_,_,rfl,h,hs⟩
theorem Sh.tup (n:Nat) (ns:List Int):Sh (n + 1) (dTup ns):=.tuple fun d hd=>by
  obtain ⟨i,_,rfl⟩:=List.mem_map.mp hd
  exact .int n i
theorem Sh.up {n m:Nat} {d:PyData} (h:Sh n d) (e:n≤m):Sh m d:=⟨h.1,Nat.le_trans h.2 e⟩
theorem Sh.three {n:Nat} {d e f:PyData} (h1:Sh n d) (h2:Sh n e) (h3:Sh n f):Sh (n + 1) (.list [d,e,f]):=.list fun x hx=>by
  simp at hx
  rcases hx with z | z | z <;> (rw [z];assumption)
end
end L2
namespace L2
open PySem PySem.Spec PyProof.Rows
section
variable {A B:Prop}
theorem ifD {p:Prop} [Decidable p] (h1:p→A) (h2:¬ p→B):if decide p=true then A else B:=ifB (fun h=>h1 (of_decide_eq_true h)) fun h=>h2 (of_decide_eq_false h)
theorem ifI {x y:Int} (h1:x=y→A) (h2:¬ x=y→B):if decide (V.int x=V.int y)=true then A else B:=by rw [JF];exact ifD h1 h2
theorem ifN {c:Bool} (h:if c=true then B else A):if (!c)=true then A else B:=by cases c <;> simpa using h
end
structure Lic where
  day:Int
  start:Int
  back:Int
  most:Int
def qX (l:Lic):PyData:=dTup [l.day,l.start,l.back,l.most]
def su (ls:List Lic):PyData:=.list (ls.map qX)
abbrev m8 (l:Lic):List V:=[.int l.day,.int l.start,.int l.back,.int l.most]
section
variable {K:PySem.W.Frag} {H:Hp} {v:V} {a:Addr} {ls:List Lic} {l:Lic} {xs:List V} {k:Nat}
theorem Den.lic (h:SqT K H a (m8 l)):Den K H (.ref a) (qX l):=Den.tup (ns:=[l.day,l.start,l.back,l.most]) h
theorem Den.zB (h:Den K H v (qX l)):∃ a,v=.ref a∧SqT K H a (m8 l):=h.Iz
theorem cU.lK (h:cU K H xs (ls.map qX)) (hk:ls[k]?=some l):∃ a,xs[k]?=some (.ref a)∧SqT K H a (m8 l):=by
  obtain ⟨v,h1,h2⟩:=h.get (i:=k) (d:=qX l) (by rw [List.getElem?_map,hk];rfl)
  obtain ⟨a,rfl,hT⟩:=h2.zB
  exact ⟨a,h1,hT⟩
theorem cU.zE (h:cU K H xs (ls.map qX)) (hx:xs[k]?=some v):∃ a l,v=.ref a∧ls[k]?=some l∧SqT K H a (m8 l):=by
  obtain ⟨d,h1,h2⟩:=h.get' hx
  rw [List.getElem?_map] at h1
  cases e:ls[k]? with
  | none=>rw [e] at h1;cases h1
  | some l =>
    rw [e] at h1
    cases h1
    obtain ⟨a,rfl,hT⟩:=h2.zB
    exact ⟨a,l,rfl,rfl,hT⟩
theorem Sh.lic (n:Nat) (l:Lic):Sh (n + 1) (qX l):=Sh.tup n _
theorem Sh.roll (n:Nat) (ls:List Lic):Sh (n + 2) (su ls):=.list fun d hd=>by
  obtain ⟨i,_,rfl⟩:=List.mem_map.mp hd
  exact .lic n i
end
theorem JL (xs:List V) (i j:Nat):pF xs (some (i:Int)) (some (j:Int))=(xs.drop i).take (j - i):=by
  unfold pF
  rw [HT.mq,HT.mq]
  refine List.ext_getElem? fun k=>?_
  simp only [List.getElem?_take,List.getElem?_drop]
  by_cases h1:k<j - i
  · rw [if_pos h1]
    by_cases h2:i + k<xs.length
    · rw [if_pos (by omega),show min i xs.length=i by omega]
    · rw [List.getElem?_eq_none (l:=xs) (i:=i + k) (by omega)]
      split
      · exact List.getElem?_eq_none (by omega)
      · rfl
  · rw [if_neg h1]
    split
    · rename_i h3
      omega
    · rfl
theorem Il (ns:List Int) (i j:Nat):pF (ns.map V.int) (some (i:Int)) (some (j:Int))=((ns.drop i).take (j - i)).map V.int:=by
  rw [JL,List.map_take,List.map_drop]
theorem CJ (ns:List Int) (i:Nat):pF (ns.map V.int) (some (i:Int)) none=(ns.drop i).map V.int:=by
  unfold pF
  rw [HT.mq,List.length_map,show HT.sIx ns.length ns.length none=ns.length from rfl,List.map_drop]
  by_cases h:i≤ns.length
  · rw [Nat.min_eq_left h,List.take_of_length_le (by rw [List.length_drop,List.length_map];omega)]
  · rw [Nat.min_eq_right (by omega),List.drop_of_length_le (l:=ns.map V.int) (i:=i) (by rw [List.length_map];omega),Nat.sub_self,List.take_zero]
theorem lex3 (d n i d' m j:Int):HT.lexLt [d,n,i] [d',m,j]=true↔(d<d'∨d=d'∧(n<m∨n=m∧i<j)):=by
  simp only [HT.lexLt]
  by_cases h1:d=d'
  · by_cases h2:n=m
    · by_cases h3:i=j
      · simp [h1,h2,h3]
      · simp [h1,h2,h3]
    · simp [h1,h2]
  · simp [h1]
end L2
namespace L2
open PySem PySem.Spec PyProof.Rows
theorem Ow.lend {T:fU} {H0 H:Hp} {A B:List (Addr × HO)} (O:Ow T H0 H (A++B)):∃ H1,Ow T H1 H A∧bA T H0 H1∧(∀ p∈B,H1 p.1=some p.2)∧∀ (H':Hp) (A':List (Addr × HO)),Ow T H1 H' A'→Ow T H0 H' (A'++B):=by
  have OA:Ow T H0 H A:=O.sub (List.sublist_append_left A B)
  have OB:Ow T H0 H B:=O.sub (List.sublist_append_right A B)
  obtain ⟨H1,O1,s1,k1⟩:=OA.reb
  have nd:=O.nd
  rw [List.map_append,List.nodup_append] at nd
  have hB:∀ p∈B,H1 p.1=some p.2:=fun p hp=>k1 p.1 p.2 (OB.at_ p hp) fun q hq z=>nd.2.2 q.1 (List.mem_map.mpr ⟨q,hq,rfl⟩) p.1 (List.mem_map.mpr ⟨p,hp,rfl⟩) z
  refine ⟨H1,O1,s1,hB,fun H' A' O'=>?_⟩
  refine ⟨s1.trans O'.same,fun p hp=>?_,fun p hp=>?_,fun p hp=>?_,?_⟩
  · rcases List.mem_append.mp hp with h | h
    · exact s1.free (O'.new p h)
    · exact OB.new p h
  · rcases List.mem_append.mp hp with h | h
    · exact O'.at_ p h
    · refine O'.same.keep _ _ (hB p h) fun ps z=>?_
      have:=OB.pl p h
      rw [z] at this;cases this
  · rcases List.mem_append.mp hp with h | h
    · exact O'.pl p h
    · exact OB.pl p h
  · rw [List.map_append,List.nodup_append]
    refine ⟨O'.nd,OB.nd,fun x hx y hy z=>?_⟩
    obtain ⟨q,hq,rfl⟩:=List.mem_map.mp hx
    obtain ⟨r,hr,rfl⟩:=List.mem_map.mp hy
    have e:=O'.new q hq
    rw [z,hB r hr] at e
    cases e
end L2
namespace L2
open PySem PySem.Spec PyProof.Rows
theorem qC {X:Cx} {K:PySem.W.Frag} {pos:Pos} {es:List Expr} {k:Nat} {t:TGs} {n:Nat} (hK:X.K=K) (hc:X.calm=true) (h:PGs X es t) (hn:(assignEach es X.env).length=n:=by rfl) (hst:(assignEach es X.env).findIdx? (·.1)=none:=by rfl):PG X (.Tuple es k pos) (T6 K n t):=hK ▸ mU hc h hn hst
end L2
namespace L2
open PySem PySem.Spec PyProof.Rows
theorem Qm {τ:St} {H:Hp} {A B:Hp→Prop} (h:A H):Qu τ H fun b H5=>if b=true then A H5 else B H5:=by
  show if true=true then A H else B H
  rw [if_pos rfl];exact h
end L2
namespace L2
open PySem PySem.Spec PyProof.Rows
theorem pX {α:Type}:∀ {L:List α} {k:Nat} {p:α},L[k]?=some p→(p :: L.eraseIdx k).Perm L
  | [],_,_,h=>by simp at h
  | a :: L,0,p,h=>by
    have e:a=p:=by simpa using h
    subst e;exact List.Perm.refl _
  | a :: L,k + 1,p,h=>by
    have h':L[k]?=some p:=by simpa using h
    rw [List.eraseIdx_cons_succ]
    exact (List.Perm.swap a p _).trans ((pX h').cons a)
section
variable {T:fU} {H0 H:Hp} {L:List (Addr × HO)} {p:Addr} {o:HO}
theorem Ow.pull (O:Ow T H0 H L) (k:Nat) (h:L[k]?=some (p,o):=by rfl):Ow T H0 H ((p,o) :: L.eraseIdx k):=O.perm (pX h)
theorem Ow.del (O:Ow T H0 H L) (k:Nat):Ow T H0 H (L.eraseIdx k):=O.sub (List.eraseIdx_sublist L k)
end
theorem Ca (ns:List Int) (z:Int):ns.map V.int++[V.int z]=(ns++[z]).map V.int:=by rw [List.map_append];rfl
end L2
namespace L2
open PySem PySem.Spec PyProof.Rows
theorem cU.Iw {K:PySem.W.Frag} {H:Hp} {xs:List V} {ws:List (List Int)} {i:Nat} {x:V} (h:cU K H xs (ws.map jO)) (hx:xs[i]?=some x):∃ a w,x=.ref a∧ws[i]?=some w∧SqL K H a (w.map V.int):=by
  obtain ⟨d,h1,h2⟩:=h.get' hx
  rw [List.getElem?_map] at h1
  cases e:ws[i]? with
  | none=>rw [e] at h1;cases h1
  | some w =>
    rw [e] at h1
    cases h1
    obtain ⟨a,rfl,hL⟩:=h2.nq
    exact ⟨a,w,rfl,rfl,hL⟩
theorem cU.xT {K:PySem.W.Frag} {H:Hp} {xs:List V} {ws:List (List Int)} {i:Nat} {w:List Int} (h:cU K H xs (ws.map jO)) (hw:ws[i]?=some w):∃ a,xs[i]?=some (.ref a)∧SqL K H a (w.map V.int):=by
  obtain ⟨v,h1,h2⟩:=h.get (i:=i) (d:=jO w) (by rw [List.getElem?_map,hw];rfl)
  obtain ⟨a,rfl,hL⟩:=h2.nq
  exact ⟨a,h1,hL⟩
end L2
namespace L2
open PySem PySem.Spec PyProof.Rows
theorem lQ {X:Cx} {K:PySem.W.Frag} (h:X.K=K):mG X (.type "list") (fun xs H Q=>∃ p ys,xs=[.ref p]∧(SqL K H p ys∨SqT K H p ys)∧∀ l,H l=none→Q (.ref l) (upd H l (.lst ys))):=h ▸ cH
end L2
namespace L2
open PySem PySem.W PySem.Spec PyProof.Rows
theorem zx (a v:Value):argsOk "min" ⟨[a],[(Str.ofString "default",v)]⟩:=by unfold argsOk;kernel_rfl
section
variable {prog:Program} {w:World} {A:Around} {R:Result→Shared→Prop} {I:Addr} {fp wr:List Addr} {n:Nat} {P:Nat→Value→Prop} {St:Nat→Heap→Prop}
theorem zu (W:Walks prog w A.in1 I fp wr n P St) (bt:Nat→Nat→Bool) (hcmp:CmpOf prog w A.in1 .Lt P bt) (S:Addr) (hSf:S ∉ fp) (d:Value) :
    ∀ (k j:Nat) (s:Shared) (bs:Array Value) (c:Nat),n - j=k→j≤n→St j s.heap→((j=0∧bs=#[])∨∃ i vb,j=i + 1∧bs=#[vb,vb]∧P (argBest bt i) vb) →
    s.heap.get? S=some { cls:=.type "list",dict:=none,data:=.seq bs c,slots:=#[] } →
    (n=0→∀ h' tk,(∀ b o,b ∉ wr→b≠S→s.heap.get? b=some o→h'.get? b=some o)→R (.ok (.ret d)) { s with heap:=h',toks:=tk }) →
    (∀ v h' tk,0<n→P (argBest bt (n - 1)) v→(∀ b o,b ∉ wr→b≠S→s.heap.get? b=some o→h'.get? b=some o)→R (.ok (.ret v)) { s with heap:=h',toks:=tk }) →
    codeAny (model prog w) A (.builtin "min.loop" ⟨[.ref I,.none,.ref S],[(Str.ofString "default",d)]⟩) R s:=by
  have nSw:S ∉ wr:=fun h=>hSf (W.sub _ h)
  have nm:(toString "min"++toString ".loop":String)="min.loop":=by decide
  intro k
  induction k with
  | zero =>
    intro j s bs c hk hj hst hb hS hR0 hR1
    have ej:j=n:=Nat.le_antisymm hj (Nat.le_of_sub_eq_zero hk)
    subst ej
    refine codeAny_builtin F.entry_min_loop ?_;rw [Around.under_plainId F.plain_min_loop _]
    show wpAny _ A.in1 (seqItems? (.ref S) >>= _) _ _ s;refine wpAny_bind (wpAny_seqItems hS rfl ?_)
    rcases hb with ⟨e0,rfl⟩ | ⟨i,vb,ei,rfl,hP⟩
    · show wpAny _ A.in1 (tryCatch (pyNext (.ref I)) _ >>= _) _ _ s;refine wpAny_bind (wpAny_tryCatch (W.done s _ _ hst fun h' tk hk'=>?_))
      refine wpAny_bind (wpAny_rule ?_)
      exact wpAny_pure (hR0 e0 h' tk fun b o hbw _ e=>hk' b o hbw e)
    · show wpAny _ A.in1 (tryCatch (pyNext (.ref I)) _ >>= _) _ _ s;refine wpAny_bind (wpAny_tryCatch (W.done s _ _ hst fun h' tk hk'=>?_))
      have hS':=hk' S _ nSw hS
      show wpAny _ A.in1 (updateSeq S (fun _=>#[]) >>= _) _ _ _
      refine wpAny_bind (wpAny_updateSeq hS' rfl (wpAny_bind (wpAny_letGo (wpAny_pure ?_))))
      exact hR1 vb _ tk (by omega) (by rw [ei];exact hP) fun b o hbw hbS e=>(Heap.get?_update_other _ _ (Ne.symm hbS)).trans (hk' b o hbw e)
  | succ k ih =>
    intro j s bs c hk hj hst hb hS hR0 hR1
    have hlt:j<n:=Nat.sub_pos_iff_lt.mp (by rw [hk];exact Nat.succ_pos k)
    refine codeAny_builtin F.entry_min_loop ?_;rw [Around.under_plainId F.plain_min_loop _]
    show wpAny _ A.in1 (seqItems? (.ref S) >>= _) _ _ s;refine wpAny_bind (wpAny_seqItems hS rfl ?_)
    rcases hb with ⟨e0,rfl⟩ | ⟨i,vb,ei,rfl,hPb⟩
    · show wpAny _ A.in1 (tryCatch (pyNext (.ref I)) _ >>= _) _ _ s;refine wpAny_bind (wpAny_tryCatch (W.item j s _ _ hlt hst fun v h' tk hP hst' hk'=>?_))
      have hS':=hk' S _ nSw hS
      show wpAny _ A.in1 (updateSeq S (fun _=>#[v,v]) >>= _) _ _ _
      refine wpAny_bind (wpAny_updateSeq hS' rfl ?_)
      rw [nm]
      subst e0
      refine wpAny_pure ⟨plainId_quiet F.plain_min_loop _,ih 1 _ _ _ (by omega) (by omega) (W.frame _ _ _ hst' fun b hbf o e=>(Heap.get?_update_other _ _ (fun h:S=b=>hSf (by rw [h];exact hbf))).trans e) (.inr ⟨0,v,rfl,rfl,hP⟩) (Heap.get?_update_self _ hS' rfl) (fun z=>by omega) fun v' h'' tk'' hn' hP' hk''=>?_⟩
      exact hR1 v' h'' tk'' hn' hP' fun b o hbw hbS e=>hk'' b o hbw hbS ((Heap.get?_update_other _ _ (Ne.symm hbS)).trans (hk' b o hbw e))
    · subst ei
      show wpAny _ A.in1 (tryCatch (pyNext (.ref I)) _ >>= _) _ _ s;refine wpAny_bind (wpAny_tryCatch (W.item (i + 1) s _ _ hlt hst fun v h' tk hP hst' hk'=>?_))
      have hS':=hk' S _ nSw hS
      show wpAny _ A.in1 (tryCatch (holding [v,v] (richCompare .Lt v vb >>= _)) _ >>= _) _ _ _
      refine wpAny_bind (wpAny_tryCatch (wpAny_holding (wpAny_bind (hcmp (i + 1) (argBest bt i) v vb _ _ _ hP hPb (wpAny_bind (wpAny_holding (wpAny_truthy_bool (wpAny_bind (wpAny_letGo (wpAny_pure ?_))))))))))
      cases hb:bt (i + 1) (argBest bt i) with
      | true =>
        simp only [if_true]
        refine wpAny_bind (wpAny_updateSeq hS' rfl (wpAny_bind (wpAny_letGo ?_)));rw [nm]
        refine wpAny_pure ⟨plainId_quiet F.plain_min_loop _,ih (i + 1 + 1) _ _ _ (by omega) (by omega) (W.frame _ _ _ hst' fun b hbf o e=>(Heap.get?_update_other _ _ (fun h:S=b=>hSf (by rw [h];exact hbf))).trans e) (.inr ⟨i + 1,v,rfl,rfl,by simp only [argBest,hb,if_true];exact hP⟩) (Heap.get?_update_self _ hS' rfl) (fun z=>by omega) fun v' h'' tk'' hn' hP' hk''=>?_⟩
        exact hR1 v' h'' tk'' hn' hP' fun b o hbw hbS e=>hk'' b o hbw hbS ((Heap.get?_update_other _ _ (Ne.symm hbS)).trans (hk' b o hbw e))
      | false =>
        simp only [Bool.false_eq_true,if_false]
        refine wpAny_bind (wpAny_letGo ?_);rw [nm]
        refine wpAny_pure ⟨plainId_quiet F.plain_min_loop _,ih (i + 1 + 1) _ _ c (by omega) (by omega) hst' (.inr ⟨i + 1,vb,rfl,rfl,by simp only [argBest,hb,Bool.false_eq_true,if_false];exact hPb⟩) hS' (fun z=>by omega) fun v' h'' tk'' hn' hP' hk''=>?_⟩
        exact hR1 v' h'' tk'' hn' hP' fun b o hbw hbS e=>hk'' b o hbw hbS (hk' b o hbw e)
end
section
variable {X:Cx}
def Qz (K:PySem.W.Frag) (d:Int) (te:TE):TE:=fun σ H Q=>te σ H fun x H1=>∃ (p:Addr) (ns:List Int),x=.ref p∧SqL K H1 p (ns.map V.int)∧(ns=[]→Q (.int d) H1)∧∀ M∈ns,(∀ a∈ns,M≤a)→Q (.int M) H1
theorem Jg {e:Expr} {te:TE} {d:Int} {j:Nat} {p1 cp kp pos:Pos} (hcalm:X.calm=true) (hg:Gl X "min") (hm:X.mg "min"=none) (he:PE X e te) (h1:backTo pos (starEach [e] X.env)=(false,eval e X.env) :: backTo pos (starEach [] X.env):=by rfl) (h2:(backTo pos (starEach [e] X.env)).any (·.1)=false:=by rfl) :
    PE X (.Call (.Name "min" p1) [e] [⟨some "default",.Constant (.int d) j cp,kp⟩] pos) (Qz X.K d te):=by
  intro pins s σ H Q I h
  refine wpAny_Call_Name_kw (jj I hg hm boot_min ?_)
  refine callWith_kw ?_ h1 h2
  rw [h1]
  refine Calls.spliced_cons (thn (he pins s σ H _ I h) fun u s1 ⟨x,H1,I1,rx,q1⟩=>?_)
  obtain ⟨p,ns,rfl,hq,q0,qm⟩:=q1
  cases rx
  refine Calls.spliced_nil ?_
  refine kws_cons (wpAny_Constant_int ?_)
  refine kws_nil ?_
  show wpAny _ _ (call (.builtin "min") [.ref p] [(Str.ofString "default",.int d _)]) _ _ _
  obtain ⟨its,r1,p1,hz⟩:=I1.list hq
  have hi:IntsAre its ns:=intsAre_of r1
  obtain ⟨ys,hx⟩:=hi.allInts.items
  have hl':s1.heap.IsList p (intItems ys):=hx ▸ p1.isList
  have hns:ns=ys.toList.map (·.1):=by
    rw [← nums_intItems,← hx]
    exact (show numsOf its.toArray.toList=ns from hi.numsOf).symm
  have nm:(toString "min"++toString ".loop":String)="min.loop":=by decide
  have hys:(intItems ys).size=ns.length:=by rw [hns];simp [intItems]
  refine kmb_tree F.kind_min F.plain_min F.entry_min (zx _ _) ?_
  show wpAny _ _ (Builtin.Builtins.bindParams "min" ["key","default"] 0 ⟨[],[(Str.ofString "default",.int d s1.toks)]⟩ >>= _) _ _ _
  refine wpAny_bind (wpAny_of_eq (show Builtin.Builtins.bindParams "min" ["key","default"] 0 ⟨[],[(Str.ofString "default",.int d s1.toks)]⟩=pure [none,some (.int d s1.toks)] from rfl) ?_)
  refine wpAny_bind (wpAny_pure ?_)
  refine wpAny_bind (iter_intList (s:={ s1 with toks:=s1.toks + 1 }) hl' fun s₂ e st hfp hlI=>?_)
  subst e
  refine wpAny_bind (wpAny_newObj_type ?_);rw [nm]
  have kept:∀ {h':Heap} {g:Heap} {S:Addr},(∀ b o,s1.heap.get? b=some o→g.get? b=some o)→S=s1.heap.objs.size + 1→(∀ b o,b ∉ [s1.heap.objs.size]→b≠S→g.get? b=some o→h'.get? b=some o)→∀ b o,s1.heap.get? b=some o→h'.get? b=some o:=fun hg hS hk b o e=>by
    have lt:=Heap.lt_size e
    refine hk b o (fun z=>?_) (fun z=>?_) (hg b o e)
    · rw [List.mem_singleton.mp z] at lt;exact Nat.lt_irrefl _ lt
    · rw [z,hS] at lt;exact absurd lt (by simp only [Addr] at lt ⊢;omega)
  have hg2:∀ b o,s1.heap.get? b=some o→((s1.heap.push { cls:=.type "list_iterator",data:=.fields #[.ref p,.int 0 0] }).push { cls:=.type "list",data:=.seq #[] }).get? b=some o:=fun b o e=>Heap.get?_push_of_some _ (Heap.get?_push_of_some _ e)
  have hsz:(s1.heap.push { cls:=.type "list_iterator",data:=.fields #[.ref p,.int 0 0] }).objs.size=s1.heap.objs.size + 1:=Heap.size_push ..
  refine wpAny_pure ⟨plainId_quiet F.plain_min_loop _,zu (Walks.list (A:=X.A.in1) (I.ok.hd hcalm) _ p hlI (intItems ys)) _ (CmpOf.ints_lt (numAt ys) (fun _ _=>intItems_at)) _ (fun hm=>Nat.lt_irrefl _ (hfp _ hm)) (.int d s1.toks) _ 0 _ #[] _ rfl (Nat.zero_le _)
    ⟨Heap.IsListIter.at st.1 fun o e=>Heap.get?_push_of_some _ e,st.2.push _⟩ (.inl ⟨rfl,rfl⟩) (Heap.get?_push_size _ rfl) (fun h0 h' tk hk=>?_) fun v h' tk hn hP hk=>?_⟩
  · have e0:ns=[]:=List.length_eq_zero_iff.mp (by rw [← hys];exact h0)
    exact ⟨.int d,H1,I1.kept (t':=tk) (kept hg2 hsz hk),⟨_,rfl⟩,q0 e0⟩
  · obtain ⟨t,rfl⟩:=intItems_at hP
    obtain ⟨h1,h2⟩:=argBest_lt (numAt ys) ((intItems ys).size - 1)
    have hyz:(intItems ys).size=ys.size:=by simp [intItems]
    refine ⟨.int _,H1,I1.kept (t':=tk) (kept hg2 hsz hk),⟨t,rfl⟩,qm _ ?_ fun a ha=>?_⟩
    · rw [hns,numAt_eq];exact getD_mem (by rw [List.length_map,Array.length_toList];omega)
    · rw [hns] at ha
      obtain ⟨j,hj,rfl⟩:=mem_getD ha
      rw [List.length_map,Array.length_toList] at hj
      rw [← numAt_eq];exact h2 j (by omega)
end
end L2
namespace L2
open PySem PySem.Spec PyProof.Rows
section
variable {κ:Type} [DecidableEq κ]
def tK (kvs:List (κ × V)) (k:κ):Option V:=(kvs.find? fun kv=>decide (kv.1=k)).map (·.2)
def putK (kvs:List (κ × V)) (k:κ) (v:V):List (κ × V) :=
  if (kvs.any fun kv=>decide (kv.1=k))=true then kvs.map (fun kv=>if kv.1=k then (kv.1,v) else kv) else kvs++[(k,v)]
theorem uX {p:κ × V} {r:List (κ × V)} {k:κ} (e:p.1=k):tK (p :: r) k=some p.2:=by simp [tK,List.find?_cons,e]
theorem uY {p:κ × V} {r:List (κ × V)} {k:κ} (e:¬ p.1=k):tK (p :: r) k=tK r k:=by simp [tK,List.find?_cons,e]
theorem uZ (k:κ):∀ kvs:List (κ × V),(kvs.any fun kv=>decide (kv.1=k))=(tK kvs k).isSome
  | []=>rfl
  | p :: r=>by
    rw [List.any_cons]
    by_cases e:p.1=k
    · simp only [uX e,decide_eq_true e,Bool.true_or,Option.isSome_some]
    · rw [uY e,decide_eq_false e,Bool.false_or];exact uZ k r
theorem uE (kvs:List (κ × V)) (k:κ) (v:V):(putK kvs k v).length≤kvs.length + 1:=by
  unfold putK
  split
  · rw [List.length_map];omega
  · rw [List.length_append,List.length_cons,List.length_nil];omega
theorem Bt {kvs:List (κ × V)} {k:κ} (v:V) (h:tK kvs k=none):putK kvs k v=kvs++[(k,v)]:=by
  unfold putK
  rw [uZ,h]
  exact if_neg (by decide)
theorem KV.val {kvs:List (κ × V)} {vs:List (κ × Value)} (r:KV kvs vs) (k:κ):Qq (tK kvs k) (valueAt vs k):=by
  unfold KV at r
  induction r with
  | nil=>exact True.intro
  | @cons p q ps qs h t ih =>
    obtain ⟨h1,h2⟩:=h
    by_cases e:p.1=k
    · have e':q.1=k:=h1.symm.trans e
      have b:valueAt (q :: qs) k=some q.2:=by simp [valueAt,List.find?_cons,e']
      rw [uX e,b];exact h2
    · have e':¬ q.1=k:=fun z=>e (h1.trans z)
      have b:valueAt (q :: qs) k=valueAt qs k:=by simp [valueAt,List.find?_cons,e']
      rw [uY e,b];exact ih
theorem KV.any {kvs:List (κ × V)} {vs:List (κ × Value)} (r:KV kvs vs) (k:κ):(kvs.any fun kv=>decide (kv.1=k))=vs.any fun kv=>decide (kv.1=k):=by
  unfold KV at r
  induction r with
  | nil=>rfl
  | cons h t ih=>rw [List.any_cons,List.any_cons,ih,h.1]
theorem KV.repl {kvs:List (κ × V)} {vs:List (κ × Value)} (r:KV kvs vs) (k:κ) {y:V} {u:Value} (ry:RelV y u) :
    KV (kvs.map fun kv=>if kv.1=k then (kv.1,y) else kv) (vs.map fun kv=>if kv.1=k then (kv.1,u) else kv):=by
  unfold KV at r ⊢
  induction r with
  | nil=>exact .nil
  | @cons p q ps qs h t ih =>
    rw [List.map_cons,List.map_cons]
    refine .cons ?_ ih
    obtain ⟨h1,h2⟩:=h
    by_cases e:p.1=k
    · rw [if_pos e,if_pos (h1.symm.trans e)];exact ⟨h1,ry⟩
    · rw [if_neg e,if_neg (fun z=>e (h1.trans z))];exact ⟨h1,h2⟩
theorem KV.put {kvs:List (κ × V)} {vs:List (κ × Value)} (r:KV kvs vs) (k:κ) {y:V} {u:Value} (ry:RelV y u):KV (putK kvs k y) (stored vs k u):=by
  unfold putK stored
  rw [r.any k]
  by_cases e:(vs.any fun kv=>decide (kv.1=k))=true
  · rw [if_pos e,if_pos e];exact r.repl k ry
  · rw [if_neg e,if_neg e];exact Paired.snoc r ⟨rfl,ry⟩
theorem KV.length {kvs:List (κ × V)} {vs:List (κ × Value)} (r:KV kvs vs):kvs.length=vs.length:=Paired.length r
end
theorem La {P:Program} {w:World} {k:Key} {u:Value} (r:RelV (kV k) u):(eO P w).is k u=true:=by
  cases k with
  | inl i=>obtain ⟨t,e⟩:=(show ∃ t,u=Value.int i t from r);subst e;exact uD P w i t
  | inr x=>obtain ⟨t,e⟩:=(show ∃ t,u=Value.str x t from r);subst e;exact uz P w x t
theorem rR {P:Program} {w:World}:∀ {ks:List Key} {us:List Value},Vals (ks.map kV) us→ItemsAre (eO P w) ks us
  | [],_,r=>by rw [List.map_nil] at r;cases r;exact .nil
  | k :: ks,_,r=>by
    rw [List.map_cons] at r
    cases r with
    | cons h t=>exact .cons (La h) (rR t)
abbrev KT (H:Hp):List (List Key × V)→List (List Key × Addr × Value)→Prop:=Paired fun p q=>p.1=q.1∧H q.2.1=some (.tup (p.1.map kV))∧RelV p.2 q.2.2
section
variable {P:Program} {w:World} {H:Hp} {h:Heap} {a:Addr}
theorem Kg {u:HO} (ok:HOk P w H h) (e:Rd H a u):eV P w H h a u:=e.ok ok
theorem JD {kvs:List (Key × V)} (ok:HOk P w H h) (e:Rd H a (.dK kvs)):kvs.length≤sizeLine∧(a == sysModules)=false∧∃ vs,KV kvs vs∧h.DictOf (eO P w) a vs :=
  show eV P w H h a (.dK kvs) from Kg ok e
theorem SQ {kvs:List (Key × V)} (ok:HOk P w H h) (e:H a=some (.dK kvs)):kvs.length≤sizeLine∧(a == sysModules)=false∧∃ vs,KV kvs vs∧h.DictOf (eO P w) a vs:=JD ok (.inl e)
theorem K7 {ks:List Key} (ok:HOk P w H h) (e:H a=some (.tup (ks.map kV))):(tupleKind (eO P w)).is h ks a:=by
  obtain ⟨_,its,r,o,h1,h2,n,h3⟩:=(show eV P w H h a (.tup (ks.map kV)) from ok a _ e)
  exact ⟨o,its.toArray,n,h1,h2,h3,by simpa using rR r⟩
theorem SN {kvs:List (List Key × V)} (ok:HOk P w H h) (e:Rd H a (.dT kvs)):kvs.length≤sizeLine∧(a == sysModules)=false ∧
    ∃ xs,KT H kvs xs∧h.DictOfH (tupleKind (eO P w)) a xs:=by
  obtain ⟨z,y,xs,r,o,es,ep,h1,h2,h3,h4,h5⟩:=(show eV P w H h a (.dT kvs) from Kg ok e)
  refine ⟨z,y,xs,r,o,es,ep,h1,h2,h3,h4,fun x hx=>?_,h5⟩
  have all:∀ {l:List (List Key × V)} {m:List (List Key × Addr × Value)},KT H l m→∀ x∈m,(tupleKind (eO P w)).is h x.1 x.2.1:=by
    intro l m q
    induction q with
    | nil=>intro x hx;exact nomatch hx
    | @cons p q ps qs hq t ih =>
      intro x hx
      rcases List.mem_cons.mp hx with e | hx
      · subst e
        exact K7 ok (by rw [← hq.1];exact hq.2.1)
      · exact ih x hx
  exact all r x hx
end
section
variable {X:Cx} {pins:List (Addr × Obj)} {σ:St} {H:Hp} {s:Shared} {a:Addr} {y v:V} {u r:Value} {o:Option V} {A:Around} {E:Value→Shared→Prop}
theorem Inv.big (I:Inv X pins σ H s):sysModules<s.heap.objs.size:=by
  have h:mainGlobals<s.heap.objs.size:=(I.mod.glob.keeps I.bk).lt
  exact Nat.lt_trans (by decide) h
theorem JH {h':Heap} {t':Nat} {ob:HO} (I:Inv X pins σ H s) (mu:Mut (H a)) (hs:Heap.SameBut a s.heap h') (he:∃ q,h'.get? a=some q) (new:eV X.prog X.w (upd H a ob) h' a ob) :
    Inv X pins σ (upd H a ob) { s with heap:=h',toks:=t' } :=
  I.write (x:=a) (e:=a) mu (.inl rfl) (fun b q hb z=>(hs.2 b hb).trans z) he new
theorem Qd {P:Program} {w:World} {H':Hp} {h':Heap} {kvs:List (Key × V)} {vs:List (Key × Value)} (z:kvs.length≤sizeLine) (hd:(a == sysModules)=false) (rel:KV kvs vs) (dd:h'.DictOf (eO P w) a vs) :
    eV P w H' h' a (.dK kvs):=⟨z,hd,vs,rel,dd⟩
end
theorem Cz {P:Program} {w:World} {H:Hp} (h:Heap) (hb:sysModules<h.objs.size):eV P w H (h.push { cls:=.type "dict",data:=.dict #[] }) h.objs.size (.dK []) :=
  ⟨Nat.zero_le _,beq_eq_false_iff_ne.mpr (Ne.symm (Nat.ne_of_lt hb)),[],.nil,Heap.DictOf.new h⟩
def J6:TE:=fun _ H Q=>∀ p,H p=none→Q (.ref p) (upd H p (.dK []))
section
variable {X:Cx} {pos:Pos}
theorem Bx:PE X (.Dict [] [] pos) J6:=fun pins s σ H Q I h =>
  wpAny_Dict_empty ⟨.ref s.heap.objs.size,_,I.laid (a:=s.heap.objs.size) (o:=.dK []) (t':=s.toks) (fun _ _ q=>Heap.get?_push_of_some _ q) (Nat.le_refl _) (Cz s.heap I.big),rfl,h _ (I.hok.fresh (Nat.le_refl _))⟩
end
abbrev VV:List (V × V)→List (Value × Value)→Prop:=Paired fun p q=>RelV p.1 q.1∧RelV p.2 q.2
structure M2 (X:Cx) (o:Expr) (m:Str) (apos:Pos) (e f:Expr) (cpos:Pos):Prop where
  base:attributeBase o m X.env (eval o X.env)=eval o X.env
  few:((backTo cpos (starEach [e,f] X.env)).all (fun x=>!x.1) && (backToKw cpos (keywordEach [] X.env)).all (fun x=>x.1.isSome)
    && decide (([e,f]:List Expr).length + ([]:List Keyword).length + (if ([]:List Keyword).isEmpty then 0 else 1)<30))=true
  line:(apos.endLine == cpos.line)=true
  trees:backTo cpos (starEach [e,f] X.env)=[(false,eval e X.env),(false,eval f X.env)]
def IsD (H:Hp) (a:Addr):Prop:=(∃ kvs,Rd H a (.dK kvs))∨∃ kvs,Rd H a (.dT kvs)
theorem DP {X:Cx} {pins:List (Addr × Obj)} {σ:St} {H:Hp} {s:Shared} {a:Addr} (I:Inv X pins σ H s) (d:IsD H a) :
    s.TypeIs (.ref a) "dict"∧(∀ b,Value.ref a=.ref b→∃ ob,s.heap.get? b=some ob∧ob.dict=none)∧(a == sysModules)=false:=by
  rcases d with ⟨kvs,e⟩ | ⟨kvs,e⟩
  · obtain ⟨_,hd,vs,_,dd⟩:=JD I.hok e
    refine ⟨dd.typeIs,fun b q=>?_,hd⟩
    cases q
    obtain ⟨ob,_,_,h1,h2,_⟩:=dd
    exact ⟨ob,h1,h2.2.1⟩
  · obtain ⟨_,hd,xs,_,dd⟩:=SN I.hok e
    refine ⟨dd.typeIs,fun b q=>?_,hd⟩
    cases q
    obtain ⟨ob,_,_,h1,h2,_⟩:=dd
    exact ⟨ob,h1,h2.2.1⟩
end L2
namespace L2
open PySem PySem.W PySem.Spec PyProof.Rows
def QC (td ty tx:TE):TE:=fun σ H Q=>td σ H fun x H1=>∃ a,x=.ref a∧IsD H1 a∧ty σ H1 fun y H2=>tx σ H2 fun z H3=>∃ kvs k,H3 a=some (.dK kvs)∧y=kV k∧kvs.length<sizeLine ∧
  (∀ v,tK kvs k=some v→Q v H3)∧(tK kvs k=none→Q z (upd H3 a (.dK (putK kvs k z))))
section
variable {X:Cx} {o e f:Expr} {apos cpos:Pos} {td ty tx:TE}
theorem Jh (ho:PE X o td) (he:PE X e ty) (hf:PE X f tx) (m:M2 X o "setdefault" apos e f cpos):PE X (.Call (.Attribute o "setdefault" apos) [e,f] [] cpos) (QC td ty tx):=by
  intro pins s σ H Q I h
  refine wpAny_Call_method m.base m.few m.line PySem.F.plainAttrs_dict PySem.F.slot_dict_setdefault PySem.F.type_dict_setdefault (thn (ho pins s σ H _ I h) fun u s1 ⟨x,H1,I1,rx,a,ex,d,q1⟩=>?_)
  subst ex
  obtain rfl:u=Value.ref a:=rx
  obtain ⟨t1,t2,_⟩:=DP I1 d
  refine ⟨t1,t2,?_⟩
  rw [m.trees]
  refine Calls.callWith_builtin rfl (Calls.evalArgs_plain (Calls.spliced_cons (thn (he pins s1 σ H1 _ I1 q1) fun iv s2 ⟨y,H2,I2,ry,q2⟩ =>
    Calls.spliced_cons (thn (hf pins s2 σ H2 _ I2 q2) fun fv s3 ⟨z,H3,I3,rz,kvs,k,ea,ey,hl,q3,q4⟩=>Calls.spliced_nil ?_))))
  subst ey
  obtain ⟨z1,hd,vs,rel,dd⟩:=SQ I3.hok ea
  have rv:=rel.val k
  have hlen:=rel.length
  refine call_meetsIn PySem.F.slot_dict_setdefault dd.typeIs PySem.F.entry_dict_setdefault (PySem.F.args_dict_setdefault_3 _ _ _) (kt_meets_setdefault (eO X.prog X.w) a (La ry) hd fv) ⟨vs,dd,by omega,fun v hv=>?_,fun hn h' dd' hs=>?_⟩
  · rw [hv] at rv
    cases l:tK kvs k with
    | none=>rw [l] at rv;cases rv
    | some v'=>rw [l] at rv;exact ⟨v',H3,I3.tok _,rv,q3 v' l⟩
  · rw [hn] at rv
    cases l:tK kvs k with
    | some v'=>rw [l] at rv;cases rv
    | none=>exact ⟨z,_,JH I3 (by rw [ea];trivial) hs (by obtain ⟨ob,es,ep,he',_⟩:=dd';exact ⟨ob,he'⟩) (Qd (Nat.le_trans (uE _ _ _) hl) hd (rel.put k rz) dd'),rz,q4 l⟩
end
def yp (td:TE):TE:=fun σ H Q=>td σ H fun x H1=>∃ a kvs,x=.ref a∧Rd H1 a (.dK kvs)∧∀ l,H1 l=none→Q (.ref l) (upd H1 l (.lst (kvs.map (·.2))))
theorem KV.vals {kvs:List (Key × V)} {vs:List (Key × Value)} (r:KV kvs vs):Vals (kvs.map (·.2)) (vs.map (·.2)):=by
  induction r with
  | nil=>exact .nil
  | cons h _ ih=>exact .cons h.2 ih
section
variable {X:Cx} {o:Expr} {td:TE} {p1 apos cpos pos:Pos}
theorem uo (hcalm:X.calm=true) (hgs:Gl X "list") (hms:X.mg "list"=none) (ho:PE X o td) (hb:attributeBase o "values" X.env (eval o X.env)=eval o X.env:=by rfl) (hline:(apos.endLine == cpos.line)=true:=by rfl) :
    PE X (.Call (.Name "list" p1) [.Call (.Attribute o "values" apos) [] [] cpos] [] pos) (yp td):=by
  intro pins s σ H Q I h
  refine Call_ (jj I hgs hms boot_list (PyProof.Rows.callWith_type1 ?_ rfl rfl))
  show wpAny _ _ (spliced ((false,eval (.Call (.Attribute o "values" apos) [] [] cpos) X.env) :: [])) _ _ s
  refine Calls.spliced_cons (wpAny_Call_method hb rfl hline PySem.F.plainAttrs_dict PySem.F.slot_dict_values PySem.F.type_dict_values (thn (ho pins s σ H _ I h) fun u s1 ⟨x,H1,I1,rx,a,kvs,ex,d,q1⟩=>?_))
  subst ex
  obtain rfl:u=Value.ref a:=rx
  obtain ⟨t1,t2,_⟩:=DP I1 (.inl ⟨kvs,d⟩)
  refine ⟨t1,t2,?_⟩
  obtain ⟨hz,hd,vs,rel,dd⟩:=JD I1.hok d
  refine Calls.callWith_builtin rfl (PyProof.Rows.evalArgs_none ?_)
  refine call_meetsIn PySem.F.slot_dict_values dd.typeIs PySem.F.entry_dict_values (PySem.F.args_dict_values_1 _) (meets_dict_values (eO X.prog X.w) a hd) ⟨⟨vs,dd⟩,?_⟩
  refine Calls.spliced_nil ?_
  obtain ⟨ep,da⟩:=dd.dictAt
  have hlen:=rel.length
  have hsz:(s1.heap.push { cls:=.type "dict_values",data:=.fields #[.ref a] }).objs.size=s1.heap.objs.size + 1:=Heap.size_push ..
  refine kdl_call (kdl_values (knd:=eO X.prog X.w) (r:=s1.heap.objs.size) (d:=a) (kvs:=vs) (ep:=ep)) (I.ok.hd hcalm) ⟨⟨_,Heap.get?_push_size _ rfl,rfl,rfl⟩,da.push _⟩ (by omega) fun h' tk acc c hk hS hacc=>?_
  have e:acc.toList=vs.map (·.2):=kdl_vals_eq acc.toList (by rw [Array.length_toList];exact hacc.1) fun j v ej=>hacc.2 j v (by rw [← Array.getElem?_toList];exact ej)
  refine ⟨.ref (s1.heap.push { cls:=.type "dict_values",data:=.fields #[.ref a] }).objs.size,_,I1.laid (t':=tk) (fun b o e=>hk b o (Heap.get?_push_of_some _ e)) (by rw [hsz];exact Nat.le_succ _)
    (show eV X.prog X.w _ h' _ (.lst (kvs.map (·.2))) from ⟨by rw [List.length_map];exact hz,acc.toList,c,by rw [e];exact rel.vals,by simpa using hS⟩),rfl,q1 _ (I1.hok.fresh (by rw [hsz];exact Nat.le_succ _))⟩
end
end L2
namespace L2
open PySem PySem.W PySem.Spec PyProof.Rows
section
variable {X:Cx}
theorem Ac (xs:List V) (j:Nat):pF xs none (some (j:Int))=xs.take j:=by
  unfold pF
  rw [HT.mq,show HT.sIx xs.length 0 none=0 from rfl,List.drop_zero,Nat.sub_zero]
  by_cases h:j≤xs.length
  · rw [Nat.min_eq_left h]
  · rw [Nat.min_eq_right (by omega),List.take_of_length_le (Nat.le_refl _),List.take_of_length_le (by omega)]
def dD (H:Hp) (us:List V) (os:List HO):Prop:=us.length=os.length∧∀ (i:Nat) (o:HO),os[i]?=some o→jg o=true∧∃ a,us[i]?=some (.ref a)∧H a=some o
theorem dD.nil (H:Hp):dD H [] []:=⟨rfl,fun i o h=>by simp at h⟩
theorem dD.mo {T:fU} {H H':Hp} {us:List V} {os:List HO} (h:dD H us os) (s:bA T H H'):dD H' us os:=⟨h.1,fun i o ho=>by
  obtain ⟨p,a,e1,e2⟩:=h.2 i o ho
  exact ⟨p,a,e1,s.keep _ _ e2 (rK p)⟩⟩
theorem dD.snoc {H:Hp} {us:List V} {os:List HO} {a:Addr} {o:HO} (h:dD H us os) (e:H a=some o) (p:jg o=true:=by rfl):dD H (us++[.ref a]) (os++[o]):=by
  refine ⟨by rw [List.length_append,List.length_append,h.1];rfl,fun i v hv=>?_⟩
  by_cases hi:i<os.length
  · rw [List.getElem?_append_left hi] at hv
    obtain ⟨q,b,e1,e2⟩:=h.2 i v hv
    exact ⟨q,b,by rw [List.getElem?_append_left (by rw [h.1];exact hi)];exact e1,e2⟩
  · have hi2:=(List.getElem?_eq_some_iff.mp hv).1
    rw [List.length_append] at hi2
    have ei:i=os.length:=by simp at hi2;omega
    subst ei
    rw [List.getElem?_append_right (Nat.le_refl _),Nat.sub_self] at hv
    have:o=v:=by simpa using hv
    subst this
    exact ⟨p,a,by rw [List.getElem?_append_right (by rw [h.1];exact Nat.le_refl _),h.1,Nat.sub_self];rfl,e⟩
theorem dD.tail {H:Hp} {u:V} {us:List V} {o:HO} {os:List HO} (h:dD H (u :: us) (o :: os)):(∃ a,u=.ref a∧H a=some o)∧dD H us os:=by
  refine ⟨?_,by have:=h.1;simpa using this,fun i v hv=>?_⟩
  · obtain ⟨_,a,e1,e2⟩:=h.2 0 o rfl
    exact ⟨a,by simpa using e1,e2⟩
  · obtain ⟨q,b,f1,f2⟩:=h.2 (i + 1) v (by simpa using hv)
    exact ⟨q,b,by simpa using f1,f2⟩
theorem dD.JG {K:PySem.W.Frag} {H:Hp} {α:Type} {g:α→HO} {d:α→PyData} (hg:∀ a x,H a=some (g x)→Den K H (.ref a) (d x)):∀ {us:List V} {xs:List α},dD H us (xs.map g)→cU K H us (xs.map d)
  | [],[],_=>.nil
  | [],_ :: _,h=>by have:=h.1;simp at this
  | _ :: _,[],h=>by have:=h.1;simp at this
  | u :: us,x :: xs,h=>by
    obtain ⟨⟨a,rfl,e⟩,t⟩:=(show dD H (u :: us) (g x :: xs.map g) from h).tail
    exact .cons (hg a x e) (dD.JG hg t)
abbrev K1 (l:Lic):HO:=.tup (m8 l)
abbrev oInts (w:List Int):HO:=.lst (w.map V.int)
theorem dD.lics {K:PySem.W.Frag} {H:Hp} {us:List V} {ls:List Lic} (h:dD H us (ls.map K1)):cU K H us (ls.map qX):=h.JG fun a x e=>Den.lic (SqT.of e)
theorem CN {K:PySem.W.Frag} {a:Addr} {xs:List V} {acc:Addr} {g:TG} {tc:TT} {te:TE} {τ:St} {H1:Hp} {Q:Hp→Prop} (Pv:Nat→St→Hp→Prop) (h0:Pv 0 τ (upd H1 acc (.lst []))) (hl:∀ i τ H,i≤xs.length→Pv i τ H→SqT K H a xs)
    (hs:∀ i x τ H,xs[i]?=some x→Pv i τ H→g x τ H fun τ4 H4=>tc τ4 H4 fun b H5=>if b=true then te τ4 H5 fun y H6=>∃ ys,H6 acc=some (.lst ys)∧ys.length<sizeLine∧Pv (i + 1) τ4 (upd H6 acc (.lst (ys++[y]))) else Pv (i + 1) τ4 H5)
    (hd:∀ τ H,Pv xs.length τ H→Q H):pK (Itt K a) acc g tc te τ H1 Q:=by
  refine ⟨fun i m τ H=>m=xs.length - i∧i≤xs.length∧Pv i τ H,⟨xs.length,by simp,Nat.zero_le _,h0⟩,?_⟩
  rintro i m τ H ⟨rfl,hi,p⟩
  have q:=hl i τ H hi p
  by_cases hlt:i<xs.length
  · refine .inr ⟨⟨xs,xs[i],q,by simp [hlt]⟩,Pv (i + 1),fun τ' H' p'=>⟨xs.length - (i + 1),by omega,rfl,hlt,p'⟩,fun x H' y=>?_⟩
    obtain ⟨e,y⟩:=y
    subst e
    exact hs i x τ _ (y xs q) p
  · have e:i=xs.length:=by omega
    subst e
    exact .inl ⟨⟨xs,q,Nat.le_refl _⟩,hd τ H p⟩
end
end L2
namespace L2
open PySem PySem.W PySem.Spec PyProof.Rows
end L2
namespace L2
open PySem PySem.W PySem.Spec PyProof.Rows
end L2
namespace HT
open PySem PyProof.Rows
theorem Bs (A:Around) (s:Shared) (a:Int) (t:Tok) (c:Int) (u:Tok) (prog:Program) (w:World) (E:Value→Shared→Prop) (Q:Value→Shared→Prop) (h:Q (.bool (decide (c<a))) s):wpAny (model prog w) A (richCompare .Gt (.int a t) (.int c u)) Q E s :=
  (PyProof.Rows.gt_int h:wpAny (model prog w) A (compareOp .Gt (.int a t) (.int c u)) Q E s)
open PySem.SeqAt PySem.MeetsSeq PySem.MeetsSeq2 PySem.MeetsSeq3 in
theorem qb (l b:Addr) (is js:Array Value) (n m:Nat) (d1 d2:Option Addr) (s1 s2:Array (Option Value)) (ns ms:List Int) (hi:IntsAre is.toList ns) (hj:IntsAre js.toList ms) :
    Meets (Builtin.«tuple.__gt__» ⟨[.ref l,.ref b],[]⟩) (fun _ R s=>s.heap.get? l=some { cls:=.type "tuple",dict:=d1,data:=.seq is n,slots:=s1 }∧s.heap.get? b=some { cls:=.type "tuple",dict:=d2,data:=.seq js m,slots:=s2 }∧R (.ok (.ret (.bool (lexLt ms ns)))) s) :=
  .of_wp fun prog w A R s h=>by
    obtain ⟨hp,g,d,tk,os⟩:=s
    obtain ⟨hl,hb,h⟩:=h
    have f2:=PySem.AutoSeq1.sub_tuple_tuple
    have z1:is.size=ns.length:=by rw [← hi.length,Array.length_toList]
    have z2:js.size=ms.length:=by rw [← hj.length,Array.length_toList]
    wp_walk using PySem.AutoSeq1.wpAny_loadPart' hl,PySem.AutoSeq1.wpAny_loadPart' hb,wpAny_forIn_list _ (fun rest b s'=>b.1=none∧s'=⟨hp,g,d,tk,os⟩∧∃ (vs ws:List Value) (ns' ms':List Int),rest=vs.zip ws∧IntsAre vs ns'∧IntsAre ws ms'∧ns'.length + js.size=ms'.length + is.size∧R (.ok (.ret (.bool (lexLt ms' ns')))) ⟨hp,g,d,tk,os⟩) _
    case turn =>
      rintro ⟨y,x⟩ rest b s' ⟨hb',rfl,vs,ws,ns',ms',hz,hv,hw,hlen,hR⟩
      cases hv with
      | nil=>cases (List.zip_nil_left ▸ hz)
      | cons a t hv' =>
        cases hw with
        | nil=>cases (List.zip_nil_right ▸ hz)
        | cons c u hw' =>
          rw [List.zip_cons_cons] at hz
          cases hz
          rw [iJ] at hR
          simp only [List.length_cons] at hlen
          obtain ⟨e,he,hiff⟩:=Cy A.in1 ⟨hp,g,d,tk,os⟩ a t c u
          refine wpAny_bind (he prog w _ _ ?_)
          cases e with
          | true =>
            rw [if_pos (hiff.mp rfl).symm] at hR
            wp_walk
            exact ⟨rfl,rfl,_,_,_,_,rfl,hv',hw',(by omega),hR⟩
          | false =>
            rw [if_neg (fun q=>absurd (hiff.mpr q.symm) Bool.false_ne_true)] at hR
            have hgi:=Bs A.in1 ⟨hp,g,d,tk,os⟩ a t c u prog w
            wp_walk using hgi
            exact ⟨_,rfl,by simpa using hR⟩
    case fin =>
      rintro ⟨b1,b2⟩ s' ⟨hb',rfl,vs,ws,ns',ms',hz,hv,hw,hlen,hR⟩
      simp only at hb'
      subst hb'
      have e:lexLt ms' ns'=decide (js.size<is.size):=by
        cases hv with
        | nil =>
          cases hw with
          | nil=>rw [jG,decide_eq_false (by simp only [List.length_nil] at hlen;omega)]
          | cons c u q=>rw [pC,decide_eq_false (by simp only [List.length_nil,List.length_cons] at hlen;omega)]
        | cons a t q =>
          cases hw with
          | nil=>rw [pB,decide_eq_true (by simp only [List.length_nil,List.length_cons] at hlen;omega)]
          | cons c u q'=>rw [List.zip_cons_cons] at hz;cases hz
      rw [e] at hR
      wp_walk
      exact ⟨_,rfl,by simpa [Builtin.Tuple.tupleCompareSizes] using hR⟩
    case h=>exact ⟨rfl,rfl,is.toList,js.toList,ns,ms,rfl,hi,hj,(by omega),h⟩
open PySem.SeqAt PySem.MeetsSeq PySem.MeetsSeq2 PySem.MeetsSeq3 in
theorem wZ {prog:Program} {w:World} {A:Around} {E:Value→Shared→Prop} {s:Shared} {l b:Addr} {is js:Array Value} {ns ms:List Int} {Q:Value→Shared→Prop} (hl:IsTup s.heap l is) (hb:IsTup s.heap b js) (hi:IntsAre is.toList ns) (hj:IntsAre js.toList ms) (hu:A.units<cLine) (h:Q (.bool (lexLt ms ns)) s):wpAny (model prog w) A (compareOp .Gt (.ref l) (.ref b)) Q E s:=by
  obtain ⟨⟨c1,d1,p1,s1⟩,o1,e1,n,f1⟩:=id hl
  obtain ⟨⟨c2,d2,p2,s2⟩,o2,e2,m,f2⟩:=id hb
  dsimp only at e1 f1 e2 f2
  subst e1 f1 e2 f2
  exact richCompare_meets_room (op:=.Gt) ⟨_,o1,rfl⟩ ⟨_,o2,rfl⟩ PySem.F.slot_tuple_gt PySem.F.entry_tuple_gt (PySem.F.args_tuple_gt_2 _ _) (qb l b is js n m d1 d2 s1 s2 ns ms hi hj) ⟨o1,o2,(show Value.bool (lexLt ms ns)≠Value.notImplemented∧Q (.bool (lexLt ms ns)) s from ⟨(fun x=>nomatch x),h⟩)⟩ hu
end HT
namespace L2
open PySem PySem.W PySem.Spec PyProof.Rows
def rGtT (K:PySem.W.Frag):R2:=fun x y H Q=>∃ a b ns ms,x=.ref a∧y=.ref b∧SqT K H a (ns.map V.int)∧SqT K H b (ms.map V.int)∧Q (.bl (HT.lexLt ms ns)) H
theorem Ku {X:Cx} (hu:X.A.units<cLine):OpR X (compareOp .Gt) (rGtT X.K):=by
  intro pins s σ H x y v u Q I rx ry h
  obtain ⟨a,b,ns,ms,rfl,rfl,ha,hb,q⟩:=h
  cases rx;cases ry
  obtain ⟨is,r1,p1,-⟩:=I.tuple ha
  obtain ⟨js,r2,p2,-⟩:=I.tuple hb
  exact HT.wZ p1 p2 (intsAre_of r1:IntsAre is.toArray.toList ns) (intsAre_of r2:IntsAre js.toArray.toList ms) hu ⟨.bl (HT.lexLt ms ns),H,I,rfl,q⟩
end L2
namespace L2
open PySem PySem.W PySem.Spec PyProof.Rows PySem.Builtin
abbrev u5 (vs:List Value):Obj:={ cls:=.type "tuple",data:=.seq vs.toArray }
abbrev Qt (f0:Value) (p q:Nat):Obj:={ cls:=.type "zip",dict:=none,data:=.fields #[f0,.bool false,.bool false,.ref p,.ref q],slots:=#[] }
structure Z3 (N l1 l2 n:Nat) (f0 a b c:Value) (j0 j1 j2:Nat) (h:Heap):Prop where
  z:h.get? (N + 5)=some (Qt f0 (N + 3) (N + 4))
  ti:h.get? (N + 3)=some (u5 [.ref N,.ref (N + 1),.ref (N + 2)])
  to:h.get? (N + 4)=some (u5 [a,b,c])
  r0:IsRangeIter h N (j0:Int) ((n:Int) - (j0:Int)) 1
  r1:h.IsListIter (N + 1) l1 j1
  r2:h.IsListIter (N + 2) l2 j2
def Fr3 (N:Nat) (h h':Heap):Prop:=∀ (b:Nat) (o:Obj),(b<N∨N + 5<b)→h.get? b=some o→h'.get? b=some o
section
variable {N l1 l2 n:Nat} {f0 a b c:Value} {j0 j1 j2:Nat} {h h':Heap}
theorem Fr3.trans {h₁ h₂ h₃:Heap} (p:Fr3 N h₁ h₂) (q:Fr3 N h₂ h₃):Fr3 N h₁ h₃:=fun b o hb e=>q b o hb (p b o hb e)
theorem Fr3.of {p:Nat} (hp:N≤p∧p≤N + 5) (k:Heap.SameBut p h h'):Fr3 N h h':=fun b o hb e=>k.extBut b o (by simp only [Addr];omega) e
theorem Z3.at5 {v:Value} (Z:Z3 N l1 l2 n f0 a b c j0 j1 j2 h) (k:Heap.SameBut (N + 5) h h') (hz:h'.get? (N + 5)=some (Qt v (N + 3) (N + 4))):Z3 N l1 l2 n v a b c j0 j1 j2 h' :=
  ⟨hz,k.extBut _ _ (by simp only [Addr];omega) Z.ti,k.extBut _ _ (by simp only [Addr];omega) Z.to,k.extBut _ _ (by simp only [Addr];omega) Z.r0,Z.r1.extBut k.extBut (by simp only [Addr];omega),Z.r2.extBut k.extBut (by simp only [Addr];omega)⟩
theorem Z3.at4 {a' b' c':Value} (Z:Z3 N l1 l2 n f0 a b c j0 j1 j2 h) (k:Heap.SameBut (N + 4) h h') (ht:h'.get? (N + 4)=some (u5 [a',b',c'])):Z3 N l1 l2 n f0 a' b' c' j0 j1 j2 h' :=
  ⟨k.extBut _ _ (by simp only [Addr];omega) Z.z,k.extBut _ _ (by simp only [Addr];omega) Z.ti,ht,k.extBut _ _ (by simp only [Addr];omega) Z.r0,Z.r1.extBut k.extBut (by simp only [Addr];omega),Z.r2.extBut k.extBut (by simp only [Addr];omega)⟩
theorem Z3.at0 {m:Nat} (Z:Z3 N l1 l2 n f0 a b c j0 j1 j2 h) (k:Heap.SameBut N h h') (hr:IsRangeIter h' N (m:Int) ((n:Int) - (m:Int)) 1):Z3 N l1 l2 n f0 a b c m j1 j2 h' :=
  ⟨k.extBut _ _ (by simp only [Addr];omega) Z.z,k.extBut _ _ (by simp only [Addr];omega) Z.ti,k.extBut _ _ (by simp only [Addr];omega) Z.to,hr,Z.r1.extBut k.extBut (by simp only [Addr];omega),Z.r2.extBut k.extBut (by simp only [Addr];omega)⟩
theorem Z3.at1 {m:Nat} (Z:Z3 N l1 l2 n f0 a b c j0 j1 j2 h) (k:Heap.SameBut (N + 1) h h') (hr:h'.IsListIter (N + 1) l1 m):Z3 N l1 l2 n f0 a b c j0 m j2 h' :=
  ⟨k.extBut _ _ (by simp only [Addr];omega) Z.z,k.extBut _ _ (by simp only [Addr];omega) Z.ti,k.extBut _ _ (by simp only [Addr];omega) Z.to,k.extBut _ _ (by simp only [Addr];omega) Z.r0,hr,Z.r2.extBut k.extBut (by simp only [Addr];omega)⟩
theorem Z3.at2 {m:Nat} (Z:Z3 N l1 l2 n f0 a b c j0 j1 j2 h) (k:Heap.SameBut (N + 2) h h') (hr:h'.IsListIter (N + 2) l2 m):Z3 N l1 l2 n f0 a b c j0 j1 m h' :=
  ⟨k.extBut _ _ (by simp only [Addr];omega) Z.z,k.extBut _ _ (by simp only [Addr];omega) Z.ti,k.extBut _ _ (by simp only [Addr];omega) Z.to,k.extBut _ _ (by simp only [Addr];omega) Z.r0,Z.r1.extBut k.extBut (by simp only [Addr];omega),hr⟩
theorem Z3.up (Z:Z3 N l1 l2 n f0 a b c j0 j1 j2 h) (k:∀ (p:Nat) (o:Obj),h.get? p=some o→h'.get? p=some o):Z3 N l1 l2 n f0 a b c j0 j1 j2 h' :=
  ⟨k _ _ Z.z,k _ _ Z.ti,k _ _ Z.to,k _ _ Z.r0,Z.r1.at fun o e=>k _ o e,Z.r2.at fun o e=>k _ o e⟩
theorem zA {l:Nat} {xs:Array Value} (hl:h.IsList l xs) (hb:l<N) (k:Fr3 N h h'):h'.IsList l xs:=hl.at fun o e=>k l o (.inl hb) e
end
section
variable {prog:Program} {w:World} {A:Around} {E:Value→Shared→Prop} {s:Shared}
theorem Br {it:Addr} {x left:Int} {Q:Value→Shared→Prop} (hit:IsRangeIter s.heap it x left 1) (hl:0<left)
    (hQ:∀ h',IsRangeIter h' it (x + 1) (left - 1) 1→Heap.SameBut it s.heap h'→Q (.int x s.toks) { s with heap:=h',toks:=s.toks + 1 }):wpAny (model prog w) A (SmallTypes.nextOf (.ref it)) Q E s:=by
  have ty:s.TypeIs (.ref it) "range_iterator":=⟨_,hit,rfl⟩
  unfold SmallTypes.nextOf
  refine wpAny_bind (wpAny_callSpecial?_slot ty F.slot_range_iterator_next (call_meets F.slot_range_iterator_next ty F.entry_range_iterator_next (F.args_range_iterator_next_1 _) (AutoRange.range_iterator___next___range_iterator_1 it x left 1 (by omega)) ⟨hit,wpAny_pure (hQ _ ?_ ?_)⟩))
  · exact Heap.get?_update_self _ (Heap.get?_update_self _ hit rfl) rfl
  · exact (Heap.SameBut.update ..).trans (Heap.SameBut.update ..)
theorem put3 {T:Addr} {a b c x:Value} {k:Nat} {Q:Unit→Shared→Prop} (hT:s.heap.get? T=some (u5 [a,b,c]))
    (q:∀ h',h'.get? T=some (u5 ([a,b,c].set k x))→Heap.SameBut T s.heap h'→Q () { s with heap:=h' }):wpAny (model prog w) A (updateSeq T (·.setIfInBounds k x)) Q E s:=by
  refine wpAny_updateSeq hT rfl (q _ ?_ (Heap.SameBut.update ..))
  rw [Heap.get?_update_self _ hT rfl]
  simp [Obj.mapSeq,u5]
theorem Ir {N l1 l2 n i:Nat} {a b c x y:Value} {xs ys:Array Value} {Q:Value→Shared→Prop} (Z:Z3 N l1 l2 n .none a b c i i i s.heap) (hi:i<n) (b1:l1<N) (b2:l2<N)
    (g1:s.heap.IsList l1 xs) (g2:s.heap.IsList l2 ys) (hx:xs[i]?=some x) (hy:ys[i]?=some y)
    (q:∀ h',Z3 N l1 l2 n (rawInt s.heap.objs.size) (.int i s.toks) x y (i + 1) (i + 1) (i + 1) h'→h'.get? s.heap.objs.size=some (u5 [.int i s.toks,x,y])→Fr3 N s.heap h'→Q (.ref s.heap.objs.size) { s with heap:=h',toks:=s.toks + 1 }) :
    wpAny (model prog w) A (Builtin.«zip.__next__» ⟨[.ref (N + 5)],[]⟩) (fun r s'=>∃ v,r=.done (.ret v)∧Q v s') E s:=by
  show wpAny _ _ (field (.ref (N + 5)) 2 >>= _) _ _ _
  refine wpAny_bind (wpAny_field Z.z rfl (x:=.bool false) rfl ?_)
  show wpAny _ _ (field (.ref (N + 5)) 3 >>= _) _ _ _
  refine wpAny_bind (wpAny_field Z.z rfl (x:=.ref (N + 3)) rfl (wpAny_bind (wpAny_seqItems Z.ti rfl ?_)))
  show wpAny _ _ (SmallTypes.ownedTupleIsFree (.ref (N + 5)) >>= _) _ _ _
  unfold SmallTypes.ownedTupleIsFree
  refine wpAny_bind (wpAny_bind (wpAny_field Z.z rfl (x:=.none) rfl (wpAny_pure ?_)))
  simp only [if_true]
  refine wpAny_bind (wpAny_rule (wpAny_bind (wpAny_field Z.z rfl (x:=.ref (N + 4)) rfl (wpAny_bind (wpAny_setField_rec Z.z (by simp) fun e1 z1 k1=>?_)))))
  have Z:=Z.at5 k1 z1
  have F:=Fr3.of (N:=N) ⟨by omega,by omega⟩ k1
  refine wpAny_bind ?_
  simp only [List.zipIdx_cons,List.zipIdx_nil,List.forIn_cons,List.forIn_nil]
  refine wpAny_bind (wpAny_bind (wpAny_onRaise (wpAny_bind (Br Z.r0 (by omega) fun e2 r k2=>wpAny_pure ?_))))
  have Z:=Z.at0 (m:=i + 1) k2 (by rw [show ((i + 1:Nat):Int)=(i:Int) + 1 by omega,show (n:Int) - ((i:Int) + 1)=(n:Int) - (i:Int) - 1 by omega];exact r)
  have F:=F.trans (.of ⟨by omega,by omega⟩ k2)
  refine wpAny_bind (wpAny_seqItems Z.to rfl (wpAny_bind (put3 Z.to fun e3 t k3=>wpAny_bind (wpAny_letGo (wpAny_pure ?_)))))
  have Z:=Z.at4 k3 t
  have F:=F.trans (.of ⟨by omega,by omega⟩ k3)
  refine wpAny_bind (wpAny_bind (wpAny_onRaise (wpAny_bind (wpAny_nextOf_list_item Z.r1 (zA g1 b1 F) hx fun e4 r k4=>wpAny_pure ?_))))
  have Z:=Z.at1 k4 r
  have F:=F.trans (.of ⟨by omega,by omega⟩ k4)
  refine wpAny_bind (wpAny_seqItems Z.to rfl (wpAny_bind (put3 Z.to fun e5 t k5=>wpAny_bind (wpAny_letGo (wpAny_pure ?_)))))
  have Z:=Z.at4 k5 t
  have F:=F.trans (.of ⟨by omega,by omega⟩ k5)
  refine wpAny_bind (wpAny_bind (wpAny_onRaise (wpAny_bind (wpAny_nextOf_list_item Z.r2 (zA g2 b2 F) hy fun e6 r k6=>wpAny_pure ?_))))
  have Z:=Z.at2 k6 r
  have F:=F.trans (.of ⟨by omega,by omega⟩ k6)
  refine wpAny_bind (wpAny_seqItems Z.to rfl (wpAny_bind (put3 Z.to fun e7 t k7=>wpAny_bind (wpAny_letGo (wpAny_pure (wpAny_pure ?_))))))
  have Z:=Z.at4 k7 t
  have F:=F.trans (.of ⟨by omega,by omega⟩ k7)
  have hsz:e7.objs.size=s.heap.objs.size:=k7.1.trans (k6.1.trans (k5.1.trans (k4.1.trans (k3.1.trans (k2.1.trans k1.1)))))
  clear r t k1 k2 k3 k4 k5 k6 k7 z1
  refine wpAny_bind (wpAny_seqItems Z.to rfl (wpAny_bind (wpAny_newTuple ?_)))
  have big:N + 5<e7.objs.size:=Heap.lt_size Z.z
  show wpAny _ _ (SmallTypes.ownedTupleHandOut (.ref (N + 5)) (.ref e7.objs.size) >>= _) _ _ _
  unfold SmallTypes.ownedTupleHandOut
  have Z:=Z.up (h':=e7.push (u5 [.int i s.toks,x,y])) fun p o e=>Heap.get?_push_of_some _ e
  have T8:(e7.push (u5 [.int i s.toks,x,y])).get? e7.objs.size=some (u5 [.int i s.toks,x,y]):=Heap.get?_push_size _ rfl
  have F:=F.trans (h₃:=e7.push (u5 [.int i s.toks,x,y])) fun p o _ e=>Heap.get?_push_of_some _ e
  refine wpAny_bind (wpAny_bind (wpAny_setField_rec Z.z (by simp) fun e9 z9 k9=>wpAny_setField_rec z9 (by simp) fun f z k=>wpAny_pure ⟨_,rfl,?_⟩))
  have Z:=(Z.at5 k9 z9).at5 k z
  have T:=k.extBut _ _ (by simp only [Addr] at big ⊢;omega) (k9.extBut _ _ (by simp only [Addr] at big ⊢;omega) T8)
  have F:=(F.trans (.of ⟨by omega,by omega⟩ k9)).trans (.of ⟨by omega,by omega⟩ k)
  rw [hsz] at Z T ⊢
  exact q f Z T F
theorem Ja {α:Type} {Q:α→Shared→Prop} (hh:A.handled=none) (hE:∀ h' e,(∀ b o,s.heap.get? b=some o→h'.get? b=some o)→(∃ o,h'.get? e=some o∧o.cls=.type "StopIteration")→E (.ref e) { s with heap:=h' }) :
    wpAny (model prog w) A (newExc (.type "StopIteration") [] >>= raiseNew (α:=α)) Q E s:=by
  simp only [newExc,newTuple]
  refine wpAny_bind (wpAny_bind (wpAny_newObj_type (wpAny_bind (m:=firstArgMember _ _) (wpAny_of_eq (a:=Value.none) (by first | rfl | (simp only [firstArgMember];rfl)) (wpAny_newObj_type ?_ (by size_fits)))) (by size_fits)))
  unfold raiseNew
  refine wpAny_bind (wpAny_handled ?_)
  rw [hh]
  exact wpAny_bind (wpAny_pure (wpAny_throw (hE _ _ (fun b o e=>Heap.get?_push_of_some _ (Heap.get?_push_of_some _ e)) ⟨_,Heap.get?_push_size _ rfl,rfl⟩)))
theorem Bq {it:Addr} {x left:Int} {Q:Value→Shared→Prop} (hh:A.handled=none) (hit:IsRangeIter s.heap it x left 1) (hl:left≤0)
    (hE:∀ h' e,(∀ b o,s.heap.get? b=some o→h'.get? b=some o)→(∃ o,h'.get? e=some o∧o.cls=.type "StopIteration")→E (.ref e) { s with heap:=h' }):wpAny (model prog w) A (SmallTypes.nextOf (.ref it)) Q E s:=by
  have ty:s.TypeIs (.ref it) "range_iterator":=⟨_,hit,rfl⟩
  unfold SmallTypes.nextOf
  refine wpAny_bind (wpAny_callSpecial?_slot ty F.slot_range_iterator_next (wpAny_call_entry F.slot_range_iterator_next ty F.entry_range_iterator_next ?_ (F.args_range_iterator_next_1 _)))
  show wpAny _ _ (field (.ref it) 0 >>= fun _=>_) _ _ s
  refine wpAny_bind (wpAny_field hit rfl (x:=rawInt x) rfl ?_)
  show wpAny _ _ (field (.ref it) 1 >>= fun _=>_) _ _ s
  refine wpAny_bind (wpAny_field hit rfl (x:=rawInt left) rfl ?_)
  show wpAny _ _ (field (.ref it) 2 >>= fun _=>_) _ _ s
  refine wpAny_bind (wpAny_field hit rfl (x:=rawInt 1) rfl ?_)
  show wpAny _ _ (if left≤0 then _ else _) _ _ s
  rw [if_pos hl]
  exact wpAny_bind (wpAny_rule (wpAny_bind (Ja hh hE)))
theorem J2 {N l1 l2 n i:Nat} {a b c:Value} {Q:Fin→Shared→Prop} (hh:A.handled=none) (Z:Z3 N l1 l2 n .none a b c i i i s.heap) (hi:n≤i)
    (hE:∀ h' e,Fr3 N s.heap h'→(∃ o,h'.get? e=some o∧o.cls=.type "StopIteration")→E (.ref e) { s with heap:=h' }):wpAny (model prog w) A (Builtin.«zip.__next__» ⟨[.ref (N + 5)],[]⟩) Q E s:=by
  show wpAny _ _ (field (.ref (N + 5)) 2 >>= _) _ _ _
  refine wpAny_bind (wpAny_field Z.z rfl (x:=.bool false) rfl ?_)
  show wpAny _ _ (field (.ref (N + 5)) 3 >>= _) _ _ _
  refine wpAny_bind (wpAny_field Z.z rfl (x:=.ref (N + 3)) rfl (wpAny_bind (wpAny_seqItems Z.ti rfl ?_)))
  show wpAny _ _ (SmallTypes.ownedTupleIsFree (.ref (N + 5)) >>= _) _ _ _
  unfold SmallTypes.ownedTupleIsFree
  refine wpAny_bind (wpAny_bind (wpAny_field Z.z rfl (x:=.none) rfl (wpAny_pure ?_)))
  simp only [if_true]
  refine wpAny_bind (wpAny_rule (wpAny_bind (wpAny_field Z.z rfl (x:=.ref (N + 4)) rfl (wpAny_bind (wpAny_setField_rec Z.z (by simp) fun e1 z1 k1=>?_)))))
  have Z:=Z.at5 k1 z1
  have F:=Fr3.of (N:=N) ⟨by omega,by omega⟩ k1
  refine wpAny_bind ?_
  simp only [List.zipIdx_cons,List.zipIdx_nil,List.forIn_cons,List.forIn_nil]
  refine wpAny_bind (wpAny_bind (wpAny_onRaise (wpAny_bind (Bq hh Z.r0 (by omega) fun e2 e k2 he=>?_))))
  obtain ⟨o,ho,hc⟩:=he
  have Z:=Z.up k2
  refine wpAny_setField_rec Z.z (by simp) fun e3 z3 k3=>hE e3 e ((F.trans fun p o _ e=>k2 p o e).trans (.of ⟨by omega,by omega⟩ k3)) ⟨o,k3.extBut _ _ (fun z=>?_) ho,hc⟩
  rw [z] at ho
  have:=Z.z.symm.trans ho
  cases this
  simp at hc
theorem Ip {N l1 l2 n i:Nat} {a b c x y:Value} {xs ys:Array Value} {Q:Option Value→Shared→Prop} (Z:Z3 N l1 l2 n .none a b c i i i s.heap) (hi:i<n) (b1:l1<N) (b2:l2<N)
    (g1:s.heap.IsList l1 xs) (g2:s.heap.IsList l2 ys) (hx:xs[i]?=some x) (hy:ys[i]?=some y)
    (q:∀ h',Z3 N l1 l2 n (rawInt s.heap.objs.size) (.int i s.toks) x y (i + 1) (i + 1) (i + 1) h'→h'.get? s.heap.objs.size=some (u5 [.int i s.toks,x,y])→Fr3 N s.heap h'→Q (some (.ref s.heap.objs.size)) { s with heap:=h',toks:=s.toks + 1 }) :
    wpAny (model prog w) A (pyNext (.ref (N + 5))) Q E s:=by
  have ty:s.TypeIs (.ref (N + 5)) "zip":=⟨_,Z.z,rfl⟩
  unfold pyNext
  exact wpAny_bind (wpAny_attempt (wpAny_callSpecial?_slot ty F.slot_zip_next (wpAny_call_entry F.slot_zip_next ty F.entry_zip_next (Ir Z hi b1 b2 g1 g2 hx hy fun h' p1 p2 p3=>wpAny_pure (q h' p1 p2 p3)) (F.args_zip_next_1 _))))
theorem Io {N l1 l2 n i:Nat} {a b c:Value} {Q:Option Value→Shared→Prop} (hh:A.handled=none) (Z:Z3 N l1 l2 n .none a b c i i i s.heap) (hi:n≤i) (q:∀ h',Fr3 N s.heap h'→Q none { s with heap:=h' }) :
    wpAny (model prog w) A (pyNext (.ref (N + 5))) Q E s:=by
  have ty:s.TypeIs (.ref (N + 5)) "zip":=⟨_,Z.z,rfl⟩
  unfold pyNext
  refine wpAny_bind (wpAny_attempt (wpAny_callSpecial?_slot ty F.slot_zip_next (wpAny_call_entry F.slot_zip_next ty F.entry_zip_next (J2 hh Z hi fun h' e k he=>?_) (F.args_zip_next_1 _))))
  obtain ⟨o,ho,hc⟩:=he
  exact wpAny_bind (wpAny_isInstance (T:="StopIteration") (b:=true) ⟨o,ho,hc⟩ isSubtype_stop (wpAny_pure (q _ k)))
end
abbrev z3R (h:Heap) (m:Int):Heap:=h.push { cls:=.type "range_iterator",data:=.fields #[rawInt 0,rawInt (Range.rangeSize 0 m 1),rawInt 1] }
abbrev z3A (h:Heap) (m:Int) (l1:Addr):Heap:=(z3R h m).push { cls:=.type "list_iterator",data:=.fields #[.ref l1,.int 0 0] }
abbrev z3B (h:Heap) (m:Int) (l1 l2:Addr):Heap:=(z3A h m l1).push { cls:=.type "list_iterator",data:=.fields #[.ref l2,.int 0 0] }
abbrev z3I (h:Heap) (m:Int) (l1 l2:Addr):Heap:=(z3B h m l1 l2).push (u5 [.ref h.objs.size,.ref (z3R h m).objs.size,.ref (z3A h m l1).objs.size])
abbrev z3O (h:Heap) (m:Int) (l1 l2:Addr):Heap:=(z3I h m l1 l2).push (u5 [.none,.none,.none])
abbrev z3Z (h:Heap) (m:Int) (l1 l2:Addr):Heap:=(z3O h m l1 l2).push (Qt .none (z3B h m l1 l2).objs.size (z3I h m l1 l2).objs.size)
theorem J1 (r l1 l2:Addr) (m:Int) (t u v:Tok) (xs ys:Array Value) (hs:Range.small 0 m 1=true) :
    Meets (Builtin.«zip.__new__» ⟨[.type "zip",.ref r,.ref l1,.ref l2],[]⟩) (fun _ R s=>IsRange s.heap r 0 m 1 t u v∧s.heap.IsList l1 xs∧s.heap.IsList l2 ys∧R (.ok (.ret (.ref (z3O s.heap m l1 l2).objs.size))) { s with heap:=z3Z s.heap m l1 l2 }) :=
  .of_wp fun prog w A R s h=>by
    obtain ⟨hp,g,d,tk,os⟩:=s
    obtain ⟨hr,h1,h2,h⟩:=h
    have sub:=sub_zip
    have R0:IsRange (Shared.heap ⟨hp,g,d,tk,os⟩) r 0 m 1 t u v:=hr
    have L1:Heap.IsList (Shared.heap ⟨z3R hp m,g,d,tk,os⟩) l1 xs:=h1.push _
    have L2':Heap.IsList (Shared.heap ⟨z3A hp m l1,g,d,tk,os⟩) l2 ys:=(h2.push _).push _
    wp_walk using wpAny_pyIter_range R0 hs,wpAny_pyIter_list L1,wpAny_pyIter_list L2'
    exact ⟨_,rfl,h⟩
theorem xP (a b c:Value):checkTypeCall "zip" ⟨[a,b,c],[]⟩=pure ():=by kernel_rfl
theorem wB (a b c:Value):checkBuiltinCall "zip.__new__" ⟨[.type "zip",a,b,c],[]⟩=pure ():=by kernel_rfl
theorem tQ (o a b c:Value):argsOk "object.__init__" ⟨[o,a,b,c],[]⟩:=by
  unfold argsOk;rw [signature?_of (id:="object.__init__") (n:=['_','_','t','i','n','i','_','_']) (o:=['t','c','e','j','b','o']) (by kernel_rfl) F.owner_object];kernel_rfl
section
variable {prog:Program} {w:World} {A:Around} {E:Value→Shared→Prop} {s:Shared}
theorem Iu {r l1 l2:Addr} {n:Nat} {t u v:Tok} {xs ys:Array Value} {Q:Value→Shared→Prop} (hn:(n:Int)<2 ^ 62) (hr:IsRange s.heap r 0 n 1 t u v) (h1:s.heap.IsList l1 xs) (h2:s.heap.IsList l2 ys)
    (q:∀ h',Z3 s.heap.objs.size l1 l2 n .none .none .none .none 0 0 0 h'→h'.objs.size=s.heap.objs.size + 6→(∀ (b:Nat) (o:Obj),s.heap.get? b=some o→h'.get? b=some o)→Q (.ref (s.heap.objs.size + 5)) { s with heap:=h' }) :
    wpAny (model prog w) A (call (.type "zip") [.ref r,.ref l1,.ref l2]) Q E s:=by
  refine callType_new F.called_zip (by decide) (xP _ _ _) (wB _ _ _) (fun o=>tQ o _ _ _) F.entry_zip_new (J1 r l1 l2 n t u v xs ys (small_one (by omega) (by omega) (by omega) hn)) ⟨hr,h1,h2,?_⟩
  have c1:(z3R s.heap n).objs.size=s.heap.objs.size + 1:=Heap.size_push ..
  have c2:(z3A s.heap n l1).objs.size=s.heap.objs.size + 2:=by rw [Heap.size_push,c1]
  have c3:(z3B s.heap n l1 l2).objs.size=s.heap.objs.size + 3:=by rw [Heap.size_push,c2]
  have c4:(z3I s.heap n l1 l2).objs.size=s.heap.objs.size + 4:=by rw [Heap.size_push,c3]
  have c5:(z3O s.heap n l1 l2).objs.size=s.heap.objs.size + 5:=by rw [Heap.size_push,c4]
  have c6:(z3Z s.heap n l1 l2).objs.size=s.heap.objs.size + 6:=by rw [Heap.size_push,c5]
  have up:∀ {h:Heap} {o':Obj} {b:Nat} {o:Obj},h.get? b=some o→(h.push o').get? b=some o:=fun e=>Heap.get?_push_of_some _ e
  have d0:(z3Z s.heap n l1 l2).get? s.heap.objs.size=some _:=up (up (up (up (up (Heap.get?_push_size _ rfl)))))
  have d1:(z3Z s.heap n l1 l2).get? (z3R s.heap n).objs.size=some _:=up (up (up (up (Heap.get?_push_size _ rfl))))
  have d2:(z3Z s.heap n l1 l2).get? (z3A s.heap n l1).objs.size=some _:=up (up (up (Heap.get?_push_size _ rfl)))
  have d3:(z3Z s.heap n l1 l2).get? (z3B s.heap n l1 l2).objs.size=some _:=up (up (Heap.get?_push_size _ rfl))
  have d4:(z3Z s.heap n l1 l2).get? (z3I s.heap n l1 l2).objs.size=some _:=up (Heap.get?_push_size _ rfl)
  have d5:(z3Z s.heap n l1 l2).get? (z3O s.heap n l1 l2).objs.size=some _:=Heap.get?_push_size _ rfl
  have keep:∀ (b:Nat) (o:Obj),s.heap.get? b=some o→(z3Z s.heap n l1 l2).get? b=some o:=fun b o e=>up (up (up (up (up (up e)))))
  show _∧_
  rw [c1] at d1
  rw [c2] at d2
  rw [c1,c2,c3] at d3
  rw [c4] at d4
  rw [c3,c4,c5] at d5
  rw [c5]
  have rs:Range.rangeSize 0 (n:Int) 1=(n:Int) - ((0:Nat):Int):=by rw [rangeSize_one];split <;> omega
  rw [rs] at d0
  exact ⟨⟨_,d5,rfl⟩,q _ ⟨d5,d3,d4,d0,⟨_,d1,rfl,rfl⟩,⟨_,d2,rfl,rfl⟩⟩ c6 keep⟩
end
end L2
namespace L2
open PySem PySem.Spec PyProof.Rows PySem.Builtin
section
variable {X:Cx}
def Qk (K:PySem.W.Frag) (l1 l2:Addr) (n:Nat) (xs ys:List V):It :=
  ⟨fun i H=>SqL K H l1 xs∧SqL K H l2 ys∧i<n∧i<xs.length∧i<ys.length,fun i H x H'=>∃ T a b,x=.ref T∧H T=none∧xs[i]?=some a∧ys[i]?=some b∧H'=upd H T (.tup [.int (i:Int),a,b]),fun i _=>n≤i⟩
def Z3At (N l1 l2 n:Nat) (i:Nat) (h:Heap):Prop:=∃ a b c,Z3 N l1 l2 n .none a b c i i i h
abbrev six (N:Nat):List Addr:=[N + 5,N,N + 1,N + 2,N + 3,N + 4]
theorem Dq {N:Nat} {p:Addr} (h:p∈six N):N≤p∧p≤N + 5:=by
  simp only [six,List.mem_cons,List.not_mem_nil,or_false] at h
  simp only [Addr] at h ⊢
  omega
theorem Dw {N:Nat} {p:Addr} (h:N≤p∧p≤N + 5):p∈six N:=by
  simp only [six,List.mem_cons,List.not_mem_nil,or_false]
  simp only [Addr] at h ⊢
  omega
theorem Q7 (N:Nat):N + 5∈six N:=by simp [six]
theorem six0 (N:Nat):N∈six N:=by simp [six]
theorem six1 (N:Nat):N + 1∈six N:=by simp [six]
theorem six2 (N:Nat):N + 2∈six N:=by simp [six]
theorem six3 (N:Nat):N + 3∈six N:=by simp [six]
theorem six4 (N:Nat):N + 4∈six N:=by simp [six]
theorem xX {P:Program} {w:World} {K:PySem.W.Frag} {elts:List Expr} {kk:Nat} {tpos:Pos} {N l1 l2 n:Nat} {xs ys:List V} (b1:l1<N) (b2:l2<N) :
    Turn P w K (.Tuple elts kk tpos) (Qk K l1 l2 n xs ys) (six N) (N + 5) (Z3At N l1 l2 n) where
  mem:=Q7 N
  obj:=fun i h ⟨a,b',c,Z⟩ b hb=>by
    obtain ⟨o1,e1,-,d1⟩:=Z.r1
    obtain ⟨o2,e2,-,d2⟩:=Z.r2
    simp only [six,List.mem_cons,List.not_mem_nil,or_false] at hb
    rcases hb with rfl | rfl | rfl | rfl | rfl | rfl
    · exact ⟨_,Z.z,fun v z=>nomatch z⟩
    · exact ⟨_,Z.r0,fun v z=>nomatch z⟩
    · exact ⟨o1,e1,fun v z=>by rw [d1] at z;cases z⟩
    · exact ⟨o2,e2,fun v z=>by rw [d2] at z;cases z⟩
    · exact ⟨_,Z.ti,fun v z=>nomatch z⟩
    · exact ⟨_,Z.to,fun v z=>nomatch z⟩
  keep:=fun i h h' ⟨a,b,c,Z⟩ k=>⟨a,b,c,k _ (Q7 N) _ Z.z,k _ (six3 N) _ Z.ti,k _ (six4 N) _ Z.to,k _ (six0 N) _ Z.r0,Z.r1.at fun o e=>k _ (six1 N) o e,Z.r2.at fun o e=>k _ (six2 N) o e⟩
  item:=by
    intro X hP hw hK hc i pins s σ H E I hf ⟨a,b,c,Z⟩ hg
    subst hP hw hK
    obtain ⟨q1,q2,hn,hi1,hi2⟩:=hg
    obtain ⟨its1,rv1,pl1,-⟩:=I.list q1
    obtain ⟨its2,rv2,pl2,-⟩:=I.list q2
    obtain ⟨u1,hu1,ru1⟩:=rv1.get (List.getElem?_eq_getElem hi1)
    obtain ⟨u2,hu2,ru2⟩:=rv2.get (List.getElem?_eq_getElem hi2)
    have big:N + 5<s.heap.objs.size:=Heap.lt_size Z.z
    refine Ip Z hn b1 b2 pl1.isList pl2.isList (x:=u1) (y:=u2) (by simpa using hu1) (by simpa using hu2) fun h' Z' T' F'=>⟨_,rfl,wpAny_letOwnedTupleGo_zip (TI:=N + 3) (TO:=N + 4) (s:={ s with heap:=h',toks:=s.toks + 1 }) Z'.z fun h'' hz hs=>?_⟩
    have out:∀ b,b ∉ six N→b<N∨N + 5<b:=fun b hb=>by
      by_cases h:N≤b∧b≤N + 5
      · exact absurd (Dw h) hb
      · simp only [Addr] at h ⊢;omega
    have I1:Inv X pins σ H { s with heap:=h'',toks:=s.toks + 1 }:=I.lZ (t':=s.toks + 1) (ch:=six N) (fun b o hb e=>hs.extBut b o (fun x=>hb (x ▸ Q7 N)) (F' b o (out b hb) e)) hf
    obtain ⟨F0,F1,F2,F3,F4,F5⟩:=I.uG (H':=H) (Nat.le_refl _) (I.hok.fresh (Nat.le_refl _))
    have hT:PyProof.Rows.IsTup h'' s.heap.objs.size #[.int (i:Int) s.toks,u1,u2]:=⟨_,hs.extBut _ _ (by simp only [Addr] at big ⊢;omega) T',rfl,_,rfl⟩
    have I2:Inv X pins σ (upd H s.heap.objs.size (.tup [.int (i:Int),xs[i],ys[i]])) { s with heap:=h'',toks:=s.toks + 1 }:=I1.adopt F0 F1 I.sz F4 F5 (show eV X.prog X.w _ h'' _ (.tup [.int (i:Int),xs[i],ys[i]]) from ⟨by rw [sizeLine_eq];simp,[.int (i:Int) s.toks,u1,u2],.cons ⟨_,rfl⟩ (.cons ru1 (.cons ru2 .nil)),hT⟩)
    refine ⟨.ref s.heap.objs.size,_,I2,rfl,⟨_,_,_,rfl,F0,List.getElem?_eq_getElem hi1,List.getElem?_eq_getElem hi2,rfl⟩,⟨_,_,_,Z'.at5 hs hz⟩,fun b hb=>?_⟩
    rw [aN]
    · exact (hf b hb).1
    · have:=Dq hb
      simp only [Addr] at this big ⊢
      omega
  done:=by
    intro X hP hw hK hc i pins s σ H E I hf ⟨a,b,c,Z⟩ hg
    subst hP hw hK
    refine Io (I.ok.hd hc) Z hg fun h' F'=>⟨rfl,I.lZ (t':=s.toks) (ch:=six N) (fun b o hb e=>F' b o ?_ e) hf⟩
    by_cases h:N≤b∧b≤N + 5
    · exact absurd (Dw h) hb
    · simp only [Addr] at h ⊢;omega
  self:=fun _ _ _ _ _ ⟨_,_,_,Z⟩ h=>wpAny_pyIter_zip (TI:=N + 3) (TO:=N + 4) Z.z h
theorem CV:mG X (.type "range") (fun xs H Q=>∃ n:Int,xs=[.int n]∧∀ l,H l=none→Q (.ref l) (upd H l (.rng 0 n))):=by
  intro pins s σ H xs us Q I r h
  obtain ⟨n,rfl,q⟩:=h
  obtain ⟨u,rfl,t,rfl⟩:=vals1 r
  refine call_range_1 ⟨.ref s.heap.objs.size,_,I.laid (t':=s.toks + 1 + 1) (o:=.rng 0 n) (fun b o e=>Heap.get?_push_of_some _ e) (Nat.le_refl _) ?_,rfl,q _ (I.hok.fresh (Nat.le_refl _))⟩
  exact ⟨_,_,_,Heap.get?_push_size _ rfl⟩
def Rn (K:PySem.W.Frag) (ta:TA):TI:=fun σ H R=>ta σ H fun vs H1=>∃ r l1 l2 n xs ys,vs=[.ref r,.ref l1,.ref l2]∧H1 r=some (.rng 0 ((n:Nat):Int))∧n<1000000∧SqL K H1 l1 xs∧SqL K H1 l2 ys∧R (Qk K l1 l2 n xs ys) H1
theorem Jf {elts:List Expr} {kk:Nat} {tpos:Pos} {a b c:Expr} {ta:TA} {p pos:Pos} (hg:Gl X "zip") (hm:X.mg "zip"=none) (ha:PA X [a,b,c] ta)
    (hs:starEach [a,b,c] X.env=(false,eval a X.env) :: starEach [b,c] X.env:=by rfl) (hs2:(backTo pos (starEach [b,c] X.env)).any (·.1)=false:=by rfl) :
    PI X (.Tuple elts kk tpos) (.Call (.Name "zip" p) [a,b,c] [] pos) (Rn X.K ta):=by
  intro pins s σ H R I h
  refine Call_ (jj I hg hm boot_zip (PyProof.Rows.callWith_type1 (thn (ha pos pins s σ H _ I h) fun us s1 ⟨vs,H1,I1,r1,q1⟩=>?_) hs hs2))
  obtain ⟨r,l1,l2,n,xs,ys,rfl,hr,hn,q1,q2,q⟩:=q1
  cases r1 with
  | cons v0 r1=>cases r1 with
    | cons v1 r1=>cases r1 with
      | cons v2 r1 =>
        cases r1
        cases v0
        cases v1
        cases v2
        obtain ⟨t,u,v,er⟩:=I1.hok r _ hr
        obtain ⟨its1,rv1,pl1,-⟩:=I1.list q1
        obtain ⟨its2,rv2,pl2,-⟩:=I1.list q2
        refine Iu (n:=n) (by omega) er pl1.isList pl2.isList fun h' Z hz hk=>?_
        have b1:l1<s1.heap.objs.size:=by obtain ⟨o,e,-⟩:=pl1.isList;exact Heap.lt_size e
        have b2:l2<s1.heap.objs.size:=by obtain ⟨o,e,-⟩:=pl2.isList;exact Heap.lt_size e
        refine wpAny_pyIter_zip (TI:=s1.heap.objs.size + 3) (TO:=s1.heap.objs.size + 4) Z.z ⟨_,six s1.heap.objs.size,_,_,H1,rfl,I1.kept (t':=s1.toks) hk,xX (n:=n) (xs:=xs) (ys:=ys) b1 b2,⟨_,_,_,Z⟩,fun b hb=>?_,q⟩
        have hb':=(Dq hb).1
        exact I1.uG hb' (I1.hok.fresh hb')
theorem Cv {K:PySem.W.Frag} {l1 l2:Addr} {n:Nat} {xs ys:List V} {g:TG} {tb:TS} {D:Ends} {σ:St} {H:Hp} (Pv:Nat→St→Hp→Prop) (h0:Pv 0 σ H) (hx:n≤xs.length) (hy:n≤ys.length) (hl:∀ i σ H,i≤n→Pv i σ H→SqL K H l1 xs∧SqL K H l2 ys)
    (hs:∀ i a b T σ H,i<n→xs[i]?=some a→ys[i]?=some b→Pv i σ H→H T=none→g (.ref T) σ (upd H T (.tup [.int (i:Int),a,b])) fun σ2 H2=>tb { D with nx:=Pv (i + 1),ct:=Pv (i + 1),bk:=D.nx } σ2 H2) (hd:∀ σ H,Pv n σ H→D.nx σ H) :
    ∃ W:Nat→Nat→St→Hp→Prop,(∃ m,W 0 m σ H)∧∀ i m σ H,W i m σ H →
      ((Qk K l1 l2 n xs ys).stop i H∧D.nx σ H)∨((Qk K l1 l2 n xs ys).go i H∧∃ N:St→Hp→Prop,(∀ σ' H',N σ' H'→∃ m',m'<m∧W (i + 1) m' σ' H')∧∀ x H',(Qk K l1 l2 n xs ys).yld i H x H'→g x σ H' fun σ2 H2=>tb { D with nx:=N,ct:=N,bk:=D.nx } σ2 H2):=by
  refine ⟨fun i m σ H=>m=n - i∧i≤n∧Pv i σ H,⟨n,by simp,Nat.zero_le _,h0⟩,?_⟩
  rintro i m σ H ⟨rfl,hi,p⟩
  obtain ⟨q1,q2⟩:=hl i σ H hi p
  by_cases hlt:i<n
  · refine .inr ⟨⟨q1,q2,hlt,by omega,by omega⟩,Pv (i + 1),fun σ' H' p'=>⟨n - (i + 1),by omega,rfl,hlt,p'⟩,fun x H' z=>?_⟩
    obtain ⟨T,a,b,rfl,hT,ha,hb,rfl⟩:=z
    exact hs i a b T σ _ hlt ha hb p hT
  · have e:i=n:=by omega
    subst e
    exact .inl ⟨Nat.le_refl _,hd σ H p⟩
end
end L2
namespace L2
open PySem PySem.W PySem.Spec PyProof.Rows
section
variable {X:Cx}
theorem Ji:OpR X (compareOp .Is) (fun x y H Q=>∃ p c,x=.ref p∧y=.bl c∧Q (.bl false) H):=by
  intro pins s σ H x y v u Q I rx ry h
  obtain ⟨p,c,rfl,rfl,q⟩:=h
  cases rx
  cases ry
  have e:compareOp .Is (.ref p) (.bool c)=pure (.bool false):=by
    rfl
  rw [e]
  exact wpAny_pure (cg I q rfl)
end
end L2
namespace L2
open PySem PySem.Spec PyProof.Rows
def jV (kx:Str):List (Str × NameKind)→Bool
  | []=>false
  | (n,k) :: r=>if k == .cell then n == kx && r.all (fun y=>y.2 != .cell) else jV kx r
theorem oA:∀ (names:List (Str × NameKind)) (a:Nat) (cs:List (Str × Addr)) (h:Heap),(names.all fun y=>y.2 != .cell)=true→cellsFrom a names cs=cs∧pushCells h names=h
  | [],_,_,_,_=>⟨rfl,rfl⟩
  | (n,k) :: r,a,cs,h,q=>by
    rw [List.all_cons,Bool.and_eq_true] at q
    have hk:(k == NameKind.cell)=false:=by simpa using q.1
    have ih:=oA r a cs h q.2
    unfold cellsFrom pushCells
    rw [if_neg (by rw [hk];exact Bool.false_ne_true),if_neg (by rw [hk];exact Bool.false_ne_true)]
    exact ih
theorem m5 {kx:Str}:∀ (names:List (Str × NameKind)) (a:Nat) (cs:List (Str × Addr)) (h:Heap),jV kx names=true →
    cellsFrom a names cs=(kx,a) :: cs∧pushCells h names=h.push { cls:=.type "cell",data:=.cell none }
  | [],_,_,_,q=>by cases q
  | (n,k) :: r,a,cs,h,q=>by
    unfold jV at q
    unfold cellsFrom pushCells
    by_cases hk:(k == NameKind.cell)=true
    · rw [if_pos hk,Bool.and_eq_true] at q
      have e:n=kx:=by simpa using q.1
      rw [if_pos hk,if_pos hk,e]
      exact oA r _ _ _ q.2
    · rw [if_neg hk] at q
      rw [if_neg hk,if_neg hk]
      exact m5 r a cs h q
theorem oh {kx:Str}:∀ {names:List (Str × NameKind)},jV kx names=true→∀ y∈names,y.2=.cell→y.1=kx
  | [],q,_,_,_=>by cases q
  | (n,k) :: r,q,y,hy,hc=>by
    unfold jV at q
    by_cases hk:(k == NameKind.cell)=true
    · rw [if_pos hk,Bool.and_eq_true] at q
      rcases List.mem_cons.mp hy with e | e
      · rw [e];simpa using q.1
      · have:=List.all_eq_true.mp q.2 y e
        rw [hc] at this;cases this
    · rw [if_neg hk] at q
      rcases List.mem_cons.mp hy with e | e
      · rw [e] at hc
        exact absurd (show (k == NameKind.cell)=true by simpa using hc) hk
      · exact oh q y e hc
def yV (scope:Scope) (kx:Str):Bool:=(scope.kind == .function) && (jV kx scope.names) && (scope.names.lookup kx == some .cell) && (scope.names.all fun y=>y.2 != .local || scope.names.lookup y.1 == some .local)
theorem Js {M:Model} {A:Around} {E:Value→Shared→Prop} {s:Shared} {scope:Scope} {globals:Addr} {cl:List (Str × Addr)} {qual:Str} {env:Env} {Q:Env→Shared→Prop} {kx:Str} (h1:jV kx scope.names=true)
    (hQ:∀ h4:Heap,h4.Ns s.heap.objs.size (fun _=>none)→h4.IsCell (s.heap.objs.size + 1) none→(∀ b o,s.heap.get? b=some o→h4.get? b=some o) →
      Q (newEnv scope s.heap.objs.size globals ((kx,s.heap.objs.size + 1) :: cl) qual none .none (some env) builtinsNs) { s with heap:=h4,toks:=s.toks }) :
    wpAny M A (newFunctionEnv scope globals cl [] qual none .none (some env)) Q E s:=by
  simp only [newFunctionEnv,Option.isSome_some,if_true]
  refine wpAny_bind (wpAny_alloc ?_)
  refine wpAny_bind (wpAny_layCells _ (fun name kind cells=>by cases hkc:kind == NameKind.cell <;> simp [hkc]) _ _ _ _ ?_)
  have e:=m5 scope.names ({ s with heap:=s.heap.push { cls:=.type "dict",data:=.dict #[] } }:Shared).heap.objs.size cl (s.heap.push { cls:=.type "dict",data:=.dict #[] }) h1
  rw [e.1,e.2]
  rw [List.forIn_nil]
  have ez:({ s with heap:=s.heap.push { cls:=.type "dict",data:=.dict #[] } }:Shared).heap.objs.size=s.heap.objs.size + 1:=Heap.size_push ..
  rw [ez]
  refine wpAny_bind (wpAny_pure (wpAny_pure (hQ _ ?_ ?_ ?_)))
  · exact (Heap.Ns.new s.heap (.type "dict")).keeps fun b o e=>Heap.get?_push_of_some _ e
  · rw [← Heap.size_push s.heap { cls:=.type "dict",data:=.dict #[] }]
    exact ⟨_,Heap.get?_push_size _ rfl,rfl⟩
  · exact fun b o e=>Heap.get?_push_of_some _ (Heap.get?_push_of_some _ e)
def kO (X:Cx) (scope:Scope) (kx:Str) (N:List Str) (s:Shared) (H:Hp) (ex:List Addr):Cx :=
  { X with N:=N,s₀:=s,H₀:=H,env:=compEnvC scope ((kx,s.heap.objs.size + 1) :: clo X.env.cells scope.names []) s.heap.objs.size X.env,outer:=X.stack,stack:=X.stack,ex:=ex,fn:=fun x=>x == kx || ((clo X.env.cells scope.names []).lookup x).isNone,pn:=[],xe:=fun _ _=>False }
theorem lH {scope:Scope} {env:Env} {x kx:Str} {k':NameKind} (hk:k'=.cell∨k'=.free) (hn:∀ y∈scope.names,y.2=.cell→y.1=kx) (hx:x≠kx) (h:(relabel scope env).names.lookup x=some k'):(x,NameKind.free)∈scope.names:=by
  rw [jC,jF (ud env)] at h
  cases e:scope.names.lookup x with
  | none=>rw [e] at h;cases h
  | some k =>
    rw [e] at h
    have h':(rlb env (x,k)).2=k':=Option.some.inj h
    have hm:=PySem.mem_of_lookup e
    rcases uc env x k with z | ⟨_,z⟩
    · rw [z] at h'
      subst h'
      rcases hk with z2 | z2
      · exact absurd (hn _ hm z2) hx
      · rw [z2] at hm;exact hm
    · rw [z] at hm;exact hm
section
variable {X:Cx} {tg iter elt:Expr} {ifs:List Expr} {scope:Scope} {pos:Pos} {wi:TI} {N':List Str} {cap:List (Option Nat)} {g:TG} {tc:TT} {te:TE}
theorem uK {use:Option (Value→Sem Unit)} {R:Value→Shared→Prop} (kx:Str) (sc:Scope) (hsc:X.env.scope=sc) (N₀:List Str) (hN₀:X.N=N₀) (f1:freeOk sc scope=true) (f2:yV scope kx=true) (f3:pG scope N₀ N' cap=true) (hcalm:X.calm=true)
    (hi:PI X tg iter wi)
    (hg:∀ (s:Shared) (H:Hp) (ex:List Addr),PG (kO X scope kx N' s H ex) tg g)
    (hc:∀ (s:Shared) (H:Hp) (ex:List Addr),PTs (kO X scope kx N' s H ex) ifs tc)
    (he:∀ (s:Shared) (H:Hp) (ex:List Addr),PE (kO X scope kx N' s H ex) elt te)
    (hs:∀ x,foldedSetIterable iter X.env x=pure x)
    {pins:List (Addr × Obj)} {s:Shared} {σ:St} {H:Hp} {Q:V→Hp→Prop} (I:Inv X pins σ H s) (h:yq wi cap g tc te σ H Q)
    (fin:∀ (acc C:Addr) (s':Shared) (H':Hp) (m:Str→Option Value),Inv X pins σ H' s'→s'.heap.Ns C m→H' C=none→C≠X.env.locals→X.s₀.heap.objs.size≤C→(∀ x c,X.env.cells.lookup x=some c→c≠C)→(∀ p∈X.pn++pins,p.1≠C)→Q (.ref acc) H' →
      compPost (model X.prog X.w) X.A X.xe use R (.ref acc) C (.ok .next) s') :
    wpAny (model X.prog X.w) X.A (comprehension (.ListComp elt [⟨tg,iter,ifs,0⟩] scope pos) scope X.env (firstIterPos [⟨tg,iter,ifs,0⟩] pos) (newList []) false (firstIter [⟨tg,iter,ifs,0⟩] X.env) use) R X.xe s:=by
  have ok:=I.ok
  have fr:∀ y∈scope.names,y.2=.free→X.env.kindOf y.1=some .cell∨X.env.kindOf y.1=some .free:=fun y hy e=>by
    have q:=List.all_eq_true.mp f1 y hy
    rw [e] at q
    have q':((sc.names.lookup y.1 == some NameKind.cell) || (sc.names.lookup y.1 == some NameKind.free))=true:=by simpa using q
    rw [Bool.or_eq_true] at q'
    unfold Env.kindOf
    rw [hsc]
    rcases q' with z | z
    · exact .inl (by simpa using z)
    · exact .inr (by simpa using z)
  obtain ⟨⟨⟨k1,k2⟩,k4⟩,k3⟩:(((scope.kind == .function)=true∧(jV kx scope.names)=true)∧(scope.names.lookup kx == some .cell)=true)∧(scope.names.all fun y=>y.2 != .local || scope.names.lookup y.1 == some .local)=true:=by
    unfold yV at f2
    rw [Bool.and_eq_true,Bool.and_eq_true,Bool.and_eq_true] at f2
    exact f2
  have hkind:scope.kind=.function:=by simpa using k1
  have hkx:scope.names.lookup kx=some .cell:=by simpa using k4
  have hcell:∀ y∈scope.names,y.2=.cell→y.1=kx:=oh k2
  have hnames:∀ y∈scope.names,y.2=.local→scope.names.lookup y.1=some .local:=fun y hy e=>by
    have q:=List.all_eq_true.mp k3 y hy
    rw [e] at q
    simpa using q
  have hclos:closureFor scope X.env=pure (clo X.env.cells scope.names []):=jr fun y hy e=>ok.has y.1 (fr y hy e)
  have clX:∀ x c,(clo X.env.cells scope.names []).lookup x=some c→X.env.cells.lookup x=some c:=fun x c e=>by
    have e1:=uL e
    have hx:(x,NameKind.free)∈scope.names:=by
      rcases nA [] (PySem.mem_of_lookup e) with z | z
      · exact nomatch z
      · exact z
    obtain ⟨c',e2⟩:=ok.has x (fr (x,.free) hx rfl)
    rw [e2] at e1 ⊢
    rw [e1];rfl
  refine wpAny_comprehension_free (use:=use) rfl hs hclos hkind hnames ?_
  show wpAny (model X.prog X.w) X.A (eval iter X.env) _ X.xe s
  refine thn (hi pins s σ H _ I h) fun v s1 h1=>thn h1 fun itv s2 h2=>?_
  obtain ⟨it,fp,tn,J,H2,e,I2,T,st2,f2',h3⟩:=h2
  subst e
  refine wpAny_newObj_type ?_
  have fresh2:H2 s2.heap.objs.size=none:=I2.hok.fresh (Nat.le_refl _)
  have I3:Inv X pins σ (upd H2 s2.heap.objs.size (.lst [])) { s2 with heap:=s2.heap.push { cls:=.type "list",data:=.seq ([]:List Value).toArray } } :=
    I2.laid (t':=s2.toks) (fun b o e=>Heap.get?_push_of_some _ e) (Nat.le_refl _) ⟨Nat.zero_le _,[],0,.nil,Heap.get?_push_size _ rfl⟩
  have st3:tn 0 (s2.heap.push { cls:=.type "list",data:=.seq ([]:List Value).toArray }):=T.keep _ _ _ st2 fun b _ o e=>Heap.get?_push_of_some _ e
  have fpne:∀ b∈fp,b≠s2.heap.objs.size:=fun b hb z=>by
    obtain ⟨o,eo,_⟩:=T.obj 0 _ st2 b hb
    exact absurd (Heap.lt_size eo) (by rw [z];exact Nat.lt_irrefl _)
  have fp3:∀ b∈fp,qY X pins (upd H2 s2.heap.objs.size (.lst [])) b:=fun b hb=>by
    obtain ⟨a0,a1⟩:=f2' b hb
    exact ⟨by rw [aN (fpne b hb)];exact a0,a1⟩
  obtain ⟨W,⟨m0,w0⟩,turn⟩:=h3 s2.heap.objs.size fresh2
  generalize hacc:s2.heap.objs.size=acc at I3 fp3 w0 turn fpne ⊢
  generalize hs3:({ s2 with heap:=s2.heap.push { cls:=.type "list",data:=.seq ([]:List Value).toArray } }:Shared)=s3 at I3 ⊢
  have st3:tn 0 s3.heap:=by rw [← hs3];exact st3
  have accTr:(upd H2 acc (.lst [])) acc=some (.lst []):=aV
  refine Js k2 (fun h4 hns hic kp4=>?_)
  have hCf:s3.heap.get? s3.heap.objs.size=none:=Heap.get?_none_of_le (Nat.le_refl _)
  have clS:∀ x c,(clo X.env.cells scope.names []).lookup x=some c→c<s3.heap.objs.size:=fun x c e=>by
    obtain ⟨v,z⟩:=I3.cell x c (clX x c e)
    exact z.lt
  have clK:∀ x c,((kx,s3.heap.objs.size + 1) :: clo X.env.cells scope.names []).lookup x=some c→(x=kx∧c=s3.heap.objs.size + 1)∨(x≠kx∧(clo X.env.cells scope.names []).lookup x=some c):=fun x c e=>by
    rw [List.lookup_cons] at e
    by_cases hx:x=kx
    · subst hx
      rw [beq_self_eq_true] at e
      exact .inl ⟨rfl,(Option.some.inj e).symm⟩
    · rw [beq_false_of_ne hx] at e
      exact .inr ⟨hx,e⟩
  have clN:∀ x,x≠kx→((kx,s3.heap.objs.size + 1) :: clo X.env.cells scope.names []).lookup x=(clo X.env.cells scope.names []).lookup x:=fun x hx=>by
    rw [List.lookup_cons,beq_false_of_ne hx]
  have clK0:((kx,s3.heap.objs.size + 1) :: clo X.env.cells scope.names []).lookup kx=some (s3.heap.objs.size + 1):=by
    rw [List.lookup_cons,beq_self_eq_true]
  let Y:Cx:=kO X scope kx N' s3 (upd H2 acc (.lst [])) fp
  have envY:Y.env=compEnvC scope ((kx,s3.heap.objs.size + 1) :: clo X.env.cells scope.names []) s3.heap.objs.size X.env:=rfl
  have okY:Y.Ok:=by
    refine ⟨ok.mod,?_,ok.glob,ok.blt,Nat.le_refl _,?_,?_,?_,ok.hd,ok.frames,.inl rfl,?_,?_,?_,?_,?_,?_,?_⟩
    · show (relabel scope X.env).kind=.function
      exact hkind
    · intro x y c h1 h2
      rcases clK x c h1 with ⟨a1,a2⟩ | ⟨a1,a2⟩ <;> rcases clK y c h2 with ⟨b1,b2⟩ | ⟨b1,b2⟩
      · rw [a1,b1]
      · exact absurd (clS y c b2) (by rw [a2];exact Nat.not_lt.mpr (Nat.le_succ _))
      · exact absurd (clS x c a2) (by rw [b2];exact Nat.not_lt.mpr (Nat.le_succ _))
      · exact ok.inj x y c (clX x c a2) (clX y c b2)
    · intro x hx
      have hx':(relabel scope X.env).names.lookup x=some .cell∨(relabel scope X.env).names.lookup x=some .free:=hx
      by_cases hk:x=kx
      · subst hk;exact ⟨_,clK0⟩
      · have hm:(x,NameKind.free)∈scope.names:=by
          rcases hx' with z | z
          · exact lH (.inl rfl) hcell hk z
          · exact lH (.inr rfl) hcell hk z
        obtain ⟨c,hc⟩:=Option.isSome_iff_exists.mp (kW (cells:=X.env.cells) scope.names [] x hm)
        exact ⟨c,(clN x hk).trans hc⟩
    · intro x c hx h1
      rcases clK x c h1 with ⟨a1,a2⟩ | ⟨a1,a2⟩
      · show s3.heap.objs.size≤c
        rw [a2];exact Nat.le_succ _
      · have hx':(x == kx || ((clo X.env.cells scope.names []).lookup x).isNone)=true:=hx
        rw [beq_false_of_ne a1,a2] at hx';cases hx'
    · intro b hb
      obtain ⟨q0,q1,q2,q3,q4,q5⟩:=fp3 b hb
      obtain ⟨o,eo,_⟩:=T.obj 0 _ st3 b hb
      refine ⟨?_,fun x c h1=>?_⟩
      · exact Nat.ne_of_lt (Heap.lt_size eo)
      · rcases clK x c h1 with ⟨a1,a2⟩ | ⟨a1,a2⟩
        · intro z
          have hlt:=Heap.lt_size eo
          rw [← z,a2] at hlt
          exact absurd hlt (Nat.not_lt.mpr (Nat.le_succ _))
        · exact q4 x c (clX x c a2)
    · exact fun b o e=>I3.bs b o e
    · exact Nat.le_trans ok.bsz I3.sz
    · intro b o e hb
      obtain ⟨q0,q1,q2,q3,q4,q5⟩:=fp3 b hb
      rcases q3 with z | z
      · exact ok.noex b o e z
      · exact absurd (Nat.lt_of_lt_of_le (Heap.lt_size e) (Nat.le_trans ok.bsz z)) (Nat.lt_irrefl _)
    · intro b hb hf
      obtain ⟨q0,q1,q2,q3,q4,q5⟩:=fp3 b hb
      rcases List.mem_cons.mp (I3.vg b hf) with z | z
      · exact q1 z
      · exact q2 z
    · exact I3.stack
    · exact I3.qj
  have capl:cap.length=N'.length∧∀ p∈N'.zip cap,(match p.2 with | none=>true | some j=>N₀[j]? == some p.1 && scope.names.lookup p.1 == some .free)=true:=by
    unfold pG at f3
    rw [Bool.and_eq_true] at f3
    exact ⟨by simpa using f3.1,fun p hp=>List.all_eq_true.mp f3.2 p hp⟩
  have IY:Inv Y [] (qQ cap σ) (upd H2 acc (.lst [])) { s3 with heap:=h4,toks:=s3.toks }:=by
    refine ⟨okY,rfl,I3.bare,Un.kept kp4,⟨_,hns,?_⟩,?_,?_,?_,fun p hp=>absurd (show p∈([]:List (Addr × Obj)) from hp) (by simp),I3.hok.kept kp4,?_⟩
    · intro i x v e1 e2 e3
      have e1':N'[i]?=some x:=e1
      unfold qQ at e2
      rw [List.getElem?_map] at e2
      cases ec:cap[i]? with
      | none=>rw [ec] at e2;cases e2
      | some o =>
        rw [ec] at e2
        cases o with
        | none=>cases e2
        | some j =>
          have e2':(σ[j]?).bind id=some v:=by simpa using e2
          have hz:(x,some j)∈N'.zip cap:=by
            refine List.mem_of_getElem? (i:=i) ?_
            rw [List.getElem?_zip_eq_some]
            exact ⟨e1',ec⟩
          have q:=capl.2 _ hz
          have q':(N₀[j]? == some x)=true∧(scope.names.lookup x == some NameKind.free)=true:=by simpa [Bool.and_eq_true] using q
          have q1:X.N[j]?=some x:=by rw [hN₀];simpa using q'.1
          have q2:scope.names.lookup x=some .free:=by simpa using q'.2
          have eσ:σ[j]?=some (some v):=by
            cases z:σ[j]? with
            | none=>rw [z] at e2';cases e2'
            | some y =>
              rw [z] at e2'
              have:y=some v:=e2'
              rw [this]
          have hk:=fr (x,.free) (PySem.mem_of_lookup q2) rfl
          obtain ⟨m,hn,hl⟩:=I3.loc
          have vis:Vis X.env.scope x:=by
            rcases hk with z | z
            · exact .inr (.inl z)
            · exact .inr (.inr z)
          obtain ⟨u,r,l⟩:=hl j x v q1 eσ vis
          refine ⟨u,r,.inr ⟨?_,?_⟩⟩
          · rcases mL (scope:=scope) (env:=X.env) q2 with z | z
            · exact .inl z
            · exact .inr z
          · rcases l with ⟨kl,_⟩ | ⟨_,c,ecx,hcx⟩
            · rcases hk with z | z
              · have z':X.env.kindOf x=some .cell:=z
                rw [kl] at z';cases z'
              · have z':X.env.kindOf x=some .free:=z
                rw [kl] at z';cases z'
            · have hh:=kW (cells:=X.env.cells) scope.names [] x (PySem.mem_of_lookup q2)
              obtain ⟨c',ec'⟩:=Option.isSome_iff_exists.mp hh
              have ec2:=clX x c' ec'
              rw [ecx] at ec2
              cases ec2
              have hxk:x≠kx:=fun z=>by rw [z,hkx] at q2;cases q2
              exact ⟨c,(clN x hxk).trans ec',hcx.keeps kp4⟩
    · intro x c e
      rcases clK x c e with ⟨a1,a2⟩ | ⟨a1,a2⟩
      · rw [a2];exact ⟨_,hic⟩
      · obtain ⟨v,z⟩:=I3.cell x c (clX x c a2)
        exact ⟨v,z.keeps kp4⟩
    · exact I3.hok.fresh (Nat.le_refl _)
    · intro x c e
      rcases clK x c e with ⟨a1,a2⟩ | ⟨a1,a2⟩
      · rw [a2];exact I3.hok.fresh (Nat.le_succ _)
      · exact I3.freeC x c (clX x c a2)
    · show (qQ cap σ).length=N'.length
      unfold qQ
      rw [List.length_map];exact capl.1
  have fpY:∀ {H':Hp},(∀ b∈fp,H' b=none)→∀ b∈fp,qY Y [] H' b:=fun {H'} hn b hb=>by
    obtain ⟨q0,q1,q2,q3,q4,q5⟩:=fp3 b hb
    refine ⟨hn b hb,(okY.exf b hb).1,okY.exfs b hb,.inl hb,(okY.exf b hb).2,fun p hp=>absurd (show p∈([]:List (Addr × Obj)) from hp) (by simp)⟩
  have st4:tn 0 h4:=T.keep _ _ _ st3 fun b _ o e=>kp4 b o e
  have back:∀ {τ:St} {H':Hp} {s':Shared},Inv Y [] τ H' s'→Q (.ref acc) H'→compPost (model X.prog X.w) X.A X.xe use R (.ref acc) s3.heap.objs.size (.ok .next) s':=fun {τ H' s'} J q=>by
    have un:Un (frs X.stack) fp (upd H2 acc (.lst [])) H' s3.heap s'.heap:=J.base
    have IX:Inv X pins σ H' s':=I3.call' (J.os) un J.hok J.bare fun b hb=>by
      obtain ⟨q0,q1,q2,q3,q4,q5⟩:=fp3 b hb
      exact ⟨q3,q1,q4,q5⟩
    obtain ⟨m,hn,_⟩:=J.loc
    refine fin acc s3.heap.objs.size s' H' m IX hn J.free (Nat.ne_of_gt I3.lt) I3.sz (fun x c e z=>?_) (fun p hp z=>?_) q
    · obtain ⟨v,q⟩:=I3.cell x c e
      exact absurd q.lt (by rw [z];exact Nat.lt_irrefl _)
    · exact absurd (Heap.lt_size (I3.pin p hp).1) (by rw [z];exact Nat.lt_irrefl _)
  have loop:∀ s5:Shared,s5={ s3 with heap:=h4,toks:=s3.toks } →
      codeAny (model X.prog X.w) X.A (.compLoop (.ListComp elt [⟨tg,iter,ifs,0⟩] scope pos) 0 (.ref it) (.ref acc) Y.env) (compPost (model X.prog X.w) X.A X.xe use R (.ref acc) s3.heap.objs.size) s5:=by
    rintro s5 rfl
    refine sE (fun n s'=>∃ i τ H',Inv Y [] τ H' s'∧tn i s'.heap∧(∀ b∈fp,H' b=none)∧W i n τ H') ?_ m0 ⟨0,_,_,IY,st4,fun b hb=>(fp3 b hb).1,w0⟩
    rintro n s6 ⟨i,τ,H6,I6,st6,fr6,w6⟩
    rcases turn i n τ H6 w6 with ⟨stop,q⟩ | ⟨go,N,hN,step⟩
    · refine wpAny_mono (T.done Y rfl rfl rfl hcalm i [] s6 τ H6 (fun _ _=>False) I6 (fpY fr6) st6 stop) (fun r s7 ⟨hr,I7⟩=>?_) fun _ _ z=>z.elim
      exact .inl ⟨hr,back I7 q⟩
    · refine wpAny_mono (T.item Y rfl rfl rfl hcalm i [] s6 τ H6 (fun _ _=>False) I6 (fpY fr6) st6 go) (fun r s6b ⟨u,hr,h7⟩=>?_) fun _ _ z=>z.elim
      refine .inr ⟨u,hr,?_⟩
      refine wpAny_mono h7 (fun _ s7 ⟨x,H7,I7,r7,y7,st7,fr7⟩=>?_) fun _ _ z=>z.elim
      have I7':=I7.pinned (fpY fr7) (T.obj _ _ st7)
      have again:∀ {τ8:St} {H8:Hp} {s8:Shared},Inv Y ([]++pN fp s7.heap) τ8 H8 s8→N τ8 H8→∃ m,m<n∧∃ i τ H',Inv Y [] τ H' s8∧tn i s8.heap∧(∀ b∈fp,H' b=none)∧W i m τ H':=fun {τ8 H8 s8} I8 n8=>by
        obtain ⟨m',hm,w8⟩:=hN τ8 H8 n8
        refine ⟨m',hm,i + 1,τ8,H8,I8.gH,T.keep _ _ _ st7 fun b hb o e=>(I8.pin (b,o) (List.mem_append_right _ (List.mem_append_right _ (iI hb e)))).1,fun b hb=>?_,w8⟩
        obtain ⟨o,e,d⟩:=T.obj _ _ st7 b hb
        exact (I8.pin (b,o) (List.mem_append_right _ (List.mem_append_right _ (iI hb e)))).2.1
      refine wpAny_mono (hg s3 (upd H2 acc (.lst [])) fp _ s7 τ H7 x u _ I7' r7 (step x H7 y7)) (fun _ s8 ⟨τ8,H8,I8,q8⟩=>?_) fun _ _ z=>z.elim
      refine wpAny_mono (hc s3 (upd H2 acc (.lst [])) fp _ s8 τ8 H8 _ I8 q8) (fun b s9 ⟨H9,I9,q9⟩=>?_) fun _ _ z=>z.elim
      cases b with
      | false =>
        rw [if_neg Bool.false_ne_true] at q9
        exact .inl ⟨rfl,again I9 q9⟩
      | true =>
        rw [if_pos rfl] at q9
        refine .inr ⟨rfl,?_⟩
        refine wpAny_mono (he s3 (upd H2 acc (.lst [])) fp _ s9 τ8 H9 _ I9 q9) (fun y s10 ⟨yv,H10,I10,r10,ys,hl,hz,q10⟩=>?_) fun _ _ z=>z.elim
        refine wpAny_mono (gq (X:=Y) _ s10 τ8 H10 (.ref acc) [yv] (.ref acc) [y] (fun v H'=>N τ8 H') I10 rfl (.cons r10 .nil) ⟨acc,ys,yv,rfl,rfl,hl,hz,q10⟩) (fun v s11 ⟨vv,H11,I11,r11,q11⟩=>?_) fun _ _ z=>z.elim
        exact again I11 q11
  exact codeAny_compStart_list (loop _ rfl) (T.self _ _ _ _ _ st4 (loop _ rfl))
theorem uh {i:Nat} {x:Str} {pos' spos:Pos} (kx:Str) (sc:Scope) (hsc:X.env.scope=sc) (N₀:List Str) (hN₀:X.N=N₀) (N':List Str) (cap:List (Option Nat)) (f1:freeOk sc scope=true) (f2:yV scope kx=true) (f3:pG scope N₀ N' cap=true) (hcalm:X.calm=true)
    (hnd:X.N.Nodup) (hix:X.N[i]?=some x) (hx:X.env.scope.names.lookup x=some .local)
    (hi:PI X tg iter wi)
    (hg:∀ (s:Shared) (H:Hp) (ex:List Addr),PG (kO X scope kx N' s H ex) tg g)
    (hc:∀ (s:Shared) (H:Hp) (ex:List Addr),PTs (kO X scope kx N' s H ex) ifs tc)
    (he:∀ (s:Shared) (H:Hp) (ex:List Addr),PE (kO X scope kx N' s H ex) elt te)
    (hsw:swapsWith (.ListComp elt [⟨tg,iter,ifs,0⟩] scope pos) (some (.Name x pos')) spos.line X.env=pure true)
    (hs:∀ x,foldedSetIterable iter X.env x=pure x:=by intro _;rfl) :
    PS X (.Assign [.Name x pos'] (.ListComp elt [⟨tg,iter,ifs,0⟩] scope pos) spos) (Qn (yq wi cap g tc te) (zR i)):=by
  intro pins s σ H D I h
  rw [exec_Assign_Name_used _ _ _ _ hsw]
  refine wpAny_bind (wpAny_standAt (wpAny_bind ?_))
  show wpAny _ X.A (do let _ ← comprehension (.ListComp elt [⟨tg,iter,ifs,0⟩] scope pos) scope X.env _ (newList []) false (firstIter [⟨tg,iter,ifs,0⟩] X.env) (some (assign (.Name x pos') X.env))) _ _ s
  refine wpAny_bind (wpAny_mono (uK (use:=some (assign (.Name x pos') X.env)) (R:=fun _ s'=>SP X pins D .next s') kx sc hsc N₀ hN₀ f1 f2 f3 hcalm hi hg hc he hs I h ?_) (fun _ s' hq=>wpAny_pure (wpAny_pure hq)) fun _ _ e=>e)
  intro acc C s' H' m IX hn hC h1 h2 h3 h4 q
  show wpAny _ X.A (assign (.Name x pos') X.env (.ref acc)) _ _ _
  refine wpAny_assign_Name (nQ (v:=.ref acc) IX hnd hix (.inl hx) rfl (fun s2 I2 hsb=>?_) (.inr hx))
  obtain ⟨a,sb,ha⟩:=hsb
  have hCa:C≠a:=by
    rcases ha with z | z
    · rw [z];exact h1
    · exact fun w=>h3 x a z w.symm
  refine ⟨m,hn.sameBut sb hCa,fun h'' hs''=>?_⟩
  exact ⟨_,H',I2.turned (t':=s2.toks) (fun b o hb e=>(hs''.2 b hb).trans e) hC h1 (.inr h2) h3 h4,q⟩
end
end L2
namespace L2
open PySem PySem.Spec PyProof.Rows
theorem Bw {X:Cx} {K:PySem.W.Frag} {tg:Expr} (hK:X.K=K) {l:Expr} {tl:TE} (hl:PE X l tl):PI X tg l (Lf K tl):=hK ▸ cu hl
end L2
namespace Rv
def eX (r:List Int):Prop:=∃ rk:Nat→Nat,(∀ i,i<r.length→rk i<r.length) ∧
  ∀ (i:Nat) (x:Int),r[i]?=some x→x=-1∨(0≤x∧x<r.length∧rk x.toNat<rk i)
def nxt (r:List Int) (p:Int):Int:=r.getD p.toNat (-1)
theorem jK {r:List Int} {p:Int} (h0:0≤p) (h1:p<r.length):r[p.toNat]?=some (nxt r p):=by
  have h:p.toNat<r.length:=by omega
  unfold nxt
  rw [List.getD_eq_getElem?_getD,List.getElem?_eq_getElem h];rfl
theorem eX.step {r:List Int} (h:eX r) {p:Int} (h0:0≤p) (h1:p<r.length):nxt r p=-1∨(0≤nxt r p∧nxt r p<r.length):=by
  obtain ⟨rk,_,h3⟩:=h
  rcases h3 _ _ (jK h0 h1) with e | ⟨a,b,_⟩
  · exact .inl e
  · exact .inr ⟨a,b⟩
def nF (r:List Int):Nat→Int→List Int
  | 0,_=>[]
  | f + 1,p=>if p=-1 then [] else p :: nF r f (nxt r p)
def walk (r:List Int) (p:Int):List Int:=nF r (r.length + 1) p
theorem kZ (r:List Int) (f:Nat):nF r f (-1)=[]:=by
  cases f with
  | zero=>rfl
  | succ f=>unfold nF;rw [if_pos rfl]
theorem jA (r:List Int):walk r (-1)=[]:=kZ r _
theorem mH {r:List Int} {rk:Nat→Nat} (h:∀ (i:Nat) (x:Int),r[i]?=some x→x=-1∨(0≤x∧x<r.length∧rk x.toNat<rk i)) :
    ∀ (f g:Nat) (p:Int),0≤p→p<r.length→rk p.toNat<f→rk p.toNat<g→nF r f p=nF r g p
  | 0,_,_,_,_,hf,_=>by omega
  | _ + 1,0,_,_,_,_,hg=>by omega
  | f + 1,g + 1,p,h0,h1,hf,hg=>by
    unfold nF
    rw [if_neg (by omega),if_neg (by omega)]
    rcases h _ _ (jK h0 h1) with e | ⟨a,b,c⟩
    · rw [e,kZ,kZ]
    · rw [mH h f g _ a b (by omega) (by omega)]
theorem cO {r:List Int} (h:eX r) {p:Int} (h0:0≤p) (h1:p<r.length):walk r p=p :: walk r (nxt r p):=by
  obtain ⟨rk,h2,h3⟩:=h
  show nF r (r.length + 1) p=_
  unfold nF
  rw [if_neg (by omega)]
  rcases h3 _ _ (jK h0 h1) with e | ⟨a,b,c⟩
  · rw [e,kZ,jA]
  · have:=h2 p.toNat (by omega)
    unfold walk
    rw [mH h3 r.length (r.length + 1) _ a b (by omega) (by omega)]
theorem qZ (r:List Int):∀ (f:Nat) (p:Int),(nF r f p).length≤f
  | 0,_=>Nat.le_refl _
  | f + 1,p=>by
    unfold nF
    split
    · exact Nat.zero_le _
    · exact Nat.succ_le_succ (qZ r f _)
theorem uW (r:List Int) (p:Int):(walk r p).length≤r.length + 1:=qZ r _ _
theorem eX.ind {r:List Int} (h:eX r) {P:Int→Prop} (hm:P (-1)) (hs:∀ p:Int,0≤p→p<r.length→P (nxt r p)→P p):∀ p:Int,0≤p→p<r.length→P p:=by
  obtain ⟨rk,_,h3⟩:=h
  have key:∀ (n:Nat) (p:Int),0≤p→p<r.length→rk p.toNat<n→P p:=by
    intro n
    induction n with
    | zero=>intro p _ _ h;omega
    | succ n ih =>
      intro p h0 h1 h2
      refine hs p h0 h1 ?_
      rcases h3 _ _ (jK h0 h1) with e | ⟨a,b,c⟩
      · rw [e];exact hm
      · exact ih _ a b (by omega)
  exact fun p h0 h1=>key _ p h0 h1 (Nat.lt_succ_self _)
theorem uV {r:List Int} (h:eX r):∀ p:Int,0≤p→p<r.length→∀ q∈walk r p,0≤q∧q<r.length:=by
  refine h.ind (P:=fun p=>∀ q∈walk r p,0≤q∧q<r.length) ?_ ?_
  · intro q hq;rw [jA] at hq;cases hq
  · intro p h0 h1 ih q hq
    rw [cO h h0 h1] at hq
    rcases List.mem_cons.mp hq with e | e
    · rw [e];exact ⟨h0,h1⟩
    · exact ih q e
noncomputable def mea (r:List Int) (p:Int):Nat:=(walk r p).length
theorem Dy {r:List Int} (h:eX r) {p:Int} (h0:0≤p) (h1:p<r.length):mea r (nxt r p)<mea r p:=by
  unfold mea;rw [cO h h0 h1];exact Nat.lt_succ_self _
structure Ord (k:Nat) (o:List Nat):Prop where
  perm:o.Perm (List.range k)
theorem Ord.len {k:Nat} {o:List Nat} (h:Ord k o):o.length=k:=by rw [h.perm.length_eq,List.length_range]
theorem Ord.lt {k:Nat} {o:List Nat} (h:Ord k o) {j:Nat} (hj:j∈o):j<k:=by
  have:=h.perm.mem_iff.mp hj;exact List.mem_range.mp this
theorem Ord.nd {k:Nat} {o:List Nat} (h:Ord k o):o.Nodup:=h.perm.nodup_iff.mpr List.nodup_range
theorem Ord.one:Ord 1 [0]:=⟨List.Perm.refl _⟩
theorem Ord.ins {k:Nat} {o:List Nat} (h:Ord k o) (i:Nat):Ord (k + 1) (o.take i++k :: o.drop i):=by
  refine ⟨?_⟩
  have e:(o.take i++k :: o.drop i).Perm (k :: o):=by
    have:=(List.perm_middle (a:=k) (l₁:=o.take i) (l₂:=o.drop i))
    rw [List.take_append_drop] at this
    exact this
  refine e.trans ?_
  rw [List.range_succ]
  exact (List.Perm.cons k h.perm).trans (List.perm_append_singleton k (List.range k)).symm
structure Onw (k:Nat) (w:List Int):Prop where
  len:w.length=k
  lt:∀ (j:Nat) (x:Int),w[j]?=some x→x=-1∨(0≤x∧x<j)
theorem Onw.one:Onw 1 [-1]:=⟨rfl,fun j x h=>by
  cases j with
  | zero=>simp at h;exact .inl h.symm
  | succ j=>simp at h⟩
theorem Onw.app {k:Nat} {w:List Int} (h:Onw k w) {y:Int} (hy:y=-1∨(0≤y∧y<k)):Onw (k + 1) (w++[y]):=by
  refine ⟨by rw [List.length_append,h.len];rfl,fun j x e=>?_⟩
  by_cases hj:j<w.length
  · rw [List.getElem?_append_left hj] at e;exact h.lt j x e
  · rw [List.getElem?_append_right (by omega)] at e
    have hl:=h.len
    have hj':j - w.length=0:=by
      have:=(List.getElem?_eq_some_iff.mp e).1
      simp at this;omega
    rw [hj'] at e
    simp at e
    subst e
    rcases hy with e | ⟨a,b⟩
    · exact .inl e
    · exact .inr ⟨a,by omega⟩
structure Plc (n:Nat) (o:List Nat) (t:Nat) (pl:List Int):Prop where
  len:pl.length=n
  at_:∀ (a:Nat) (j:Nat),a<t→o[a]?=some j→pl[j]?=some (a:Int)
theorem Plc.start (n:Nat) (o:List Nat) (pl:List Int) (h:pl.length=n):Plc n o 0 pl:=⟨h,fun a j h _=>by omega⟩
theorem Plc.turn {n:Nat} {o:List Nat} {t:Nat} {pl:List Int} (h:Plc n o t pl) (O:Ord n o) {j:Nat} (hj:o[t]?=some j):Plc n o (t + 1) (pl.set j (t:Int)):=by
  refine ⟨by rw [List.length_set];exact h.len,fun a j' ha e=>?_⟩
  by_cases hat:a=t
  · subst hat
    rw [hj] at e
    cases e
    have hj2:j<n:=O.lt (List.mem_of_getElem? hj)
    exact List.getElem?_set_self (by rw [h.len];exact hj2)
  · have hne:j'≠j:=by
      intro z
      subst z
      obtain ⟨h1,e1⟩:=List.getElem?_eq_some_iff.mp hj
      obtain ⟨h2,e2⟩:=List.getElem?_eq_some_iff.mp e
      exact hat ((List.getElem_inj O.nd).mp (e2.trans e1.symm))
    rw [List.getElem?_set_ne (Ne.symm hne)]
    exact h.at_ a j' (by omega) e
theorem Plc.all {n:Nat} {o:List Nat} {pl:List Int} (h:Plc n o n pl) (O:Ord n o) {k:Nat} (hk:k<n):∃ a:Nat,a<n∧pl[k]?=some (a:Int)∧o[a]?=some k:=by
  have hm:k∈o:=O.perm.mem_iff.mpr (List.mem_range.mpr hk)
  obtain ⟨a,ha,e⟩:=List.getElem_of_mem hm
  have e':o[a]?=some k:=by rw [List.getElem?_eq_getElem ha,e]
  have hl:=O.len
  exact ⟨a,by omega,h.at_ a k (by omega) e',e'⟩
structure Fnd (n:Nat) (o:List Nat) (_t:Nat) (r:List Int):Prop where
  len:r.length=n
  at_:∀ (i:Nat) (x:Int),r[i]?=some x→x=-1∨∃ (b k j:Nat),x=(b:Int)∧b<n∧o[i]?=some k∧o[b]?=some j∧j<k
theorem Fnd.start (n:Nat) (o:List Nat) (r:List Int) (hl:r.length=n) (h:∀ x∈r,x=-1):Fnd n o 0 r:=⟨hl,fun i x e=>.inl (h x (List.mem_of_getElem? e))⟩
theorem Fnd.turn {n:Nat} {o:List Nat} {t:Nat} {r:List Int} (h:Fnd n o t r) {a b k j:Nat} (hb:b<n) (ha:o[a]?=some k) (hj:o[b]?=some j) (hjk:j<k) (t':Nat):Fnd n o t' (r.set a (b:Int)):=by
  refine ⟨by rw [List.length_set];exact h.len,fun i x e=>?_⟩
  by_cases hia:i=a
  · subst hia
    have hi:i<r.length:=by
      have:=(List.getElem?_eq_some_iff.mp e).1
      rw [List.length_set] at this;exact this
    rw [List.getElem?_set_self hi] at e
    cases e
    exact .inr ⟨b,k,j,rfl,hb,ha,hj,hjk⟩
  · rw [List.getElem?_set_ne (Ne.symm hia)] at e
    exact h.at_ i x e
theorem Fnd.same {n:Nat} {o:List Nat} {t:Nat} {r:List Int} (h:Fnd n o t r) (t':Nat):Fnd n o t' r:=⟨h.len,h.at_⟩
theorem Fnd.Q8 {n:Nat} {o:List Nat} {t:Nat} {r:List Int} (h:Fnd n o t r) (O:Ord n o):eX r:=by
  refine ⟨fun i=>o.getD i 0,fun i hi=>?_,fun i x e=>?_⟩
  · have hl:=O.len
    have hi':i<o.length:=by rw [hl,← h.len];exact hi
    show o.getD i 0<r.length
    rw [List.getD_eq_getElem?_getD,List.getElem?_eq_getElem hi',h.len]
    exact O.lt (List.getElem_mem hi')
  · rcases h.at_ i x e with z | ⟨b,k,j,rfl,hb,h1,h2,h3⟩
    · exact .inl z
    · refine .inr ⟨by omega,by rw [h.len];omega,?_⟩
      show o.getD (b:Int).toNat 0<o.getD i 0
      rw [Int.toNat_natCast,List.getD_eq_getElem?_getD,List.getD_eq_getElem?_getD,h1,h2]
      exact h3
theorem wD {r:List Int} (h:eX r):∃ rk:Nat→Nat,∀ p:Int,0≤p→p<r.length→(walk r p).Nodup∧∀ q∈walk r p,rk q.toNat≤rk p.toNat:=by
  obtain ⟨rk,h2,h3⟩:=id h
  refine ⟨rk,?_⟩
  have key:=h.ind (P:=fun p=>(walk r p).Nodup∧(0≤p→∀ q∈walk r p,rk q.toNat≤rk p.toNat)) ?_ ?_
  · exact fun p h0 h1=>⟨(key p h0 h1).1,(key p h0 h1).2 h0⟩
  · rw [jA];exact ⟨List.nodup_nil,fun h=>by omega⟩
  · intro p h0 h1 ⟨nd,ih⟩
    rw [cO h h0 h1]
    rcases h3 _ _ (jK h0 h1) with e | ⟨a,b,c⟩
    · rw [e,jA]
      refine ⟨by simp,fun _ q hq=>?_⟩
      have:q=p:=by simpa using hq
      rw [this];exact Nat.le_refl _
    · have ih':=ih a
      refine ⟨List.nodup_cons.mpr ⟨fun hm=>?_,nd⟩,fun _ q hq=>?_⟩
      · have:=ih' p hm
        omega
      · rcases List.mem_cons.mp hq with e | e
        · rw [e];exact Nat.le_refl _
        · have:=ih' q e;omega
theorem p8 {r:List Int} (h:eX r) {p:Int} (h0:0≤p) (h1:p<r.length):(walk r p).Nodup:=by
  obtain ⟨rk,k⟩:=wD h
  exact (k p h0 h1).1
end Rv
namespace Rv
def tot:Nat→(Nat→Int)→Int
  | 0,_=>0
  | n + 1,f=>tot n f + f n
theorem jP {n:Nat} {f g:Nat→Int} (h:∀ i,i<n→f i=g i):tot n f=tot n g:=by
  induction n with
  | zero=>rfl
  | succ n ih=>unfold tot;rw [ih fun i hi=>h i (by omega),h n (by omega)]
theorem tU (n:Nat) (f g:Nat→Int):tot n (fun i=>f i + g i)=tot n f + tot n g:=by
  induction n with
  | zero=>rfl
  | succ n ih=>unfold tot;rw [ih];dsimp only;omega
theorem m9 {n:Nat} {f:Nat→Int} (h:∀ i,i<n→f i=0):tot n f=0:=by
  induction n with
  | zero=>rfl
  | succ n ih=>unfold tot;rw [ih fun i hi=>h i (by omega),h n (by omega)];rfl
theorem Bh (n m:Nat) (f:Nat→Nat→Int):tot n (fun i=>tot m (fun j=>f i j))=tot m (fun j=>tot n (fun i=>f i j)):=by
  induction n with
  | zero=>exact (m9 fun _ _=>rfl).symm
  | succ n ih=>show tot n _ + tot m _=_;rw [ih,← tU];rfl
theorem yj {n k:Nat} (f:Nat→Int) (hk:k<n):tot n (fun i=>if i=k then f i else 0)=f k:=by
  induction n with
  | zero=>omega
  | succ n ih =>
    unfold tot
    dsimp only
    by_cases h:k=n
    · subst h
      rw [if_pos rfl,m9 fun i hi=>if_neg (by omega)];omega
    · rw [ih (by omega),if_neg (fun (z:n=k)=>h z.symm)];omega
theorem IK (n:Nat) (c:Int) (f:Nat→Int):tot n (fun i=>c * f i)=c * tot n f:=by
  induction n with
  | zero=>simp [tot]
  | succ n ih=>unfold tot;rw [ih,Int.mul_add]
theorem IV (n:Nat) (f:Nat→Int) (p:Prop) [Decidable p]:tot n (fun i=>if p then f i else 0)=if p then tot n f else 0:=by
  by_cases h:p
  · rw [if_pos h];exact jP fun i _=>if_pos h
  · rw [if_neg h];exact m9 fun i _=>if_neg h
def lsum:List Nat→(Nat→Int)→Int
  | [],_=>0
  | k :: l,f=>f k + lsum l f
theorem j6 (f:Nat→Int):∀ (l m:List Nat),lsum (l++m) f=lsum l f + lsum m f
  | [],m=>by show _=0 + _;rw [Int.zero_add];rfl
  | k :: l,m=>by show f k + lsum (l++m) f=f k + lsum l f + lsum m f;rw [j6 f l m];omega
theorem rQ {f:Nat→Int} {l m:List Nat} (h:l.Perm m):lsum l f=lsum m f:=by
  induction h with
  | nil=>rfl
  | cons k _ ih=>show f k + _=f k + _;rw [ih]
  | swap a b l=>show f b + (f a + _)=f a + (f b + _);omega
  | trans _ _ h1 h2=>exact h1.trans h2
theorem mD (f:Nat→Int):∀ n,lsum (List.range n) f=tot n f
  | 0=>rfl
  | n + 1=>by rw [List.range_succ,j6,mD f n];show _ + (f n + 0)=_ + f n;omega
theorem rP {f:Nat→Int}:∀ {l:List Nat},(∀ k∈l,f k=0)→lsum l f=0
  | [],_=>rfl
  | k :: l,h=>by show f k + lsum l f=0;rw [h k List.mem_cons_self,rP fun j hj=>h j (List.mem_cons_of_mem _ hj)];rfl
def one (p:Prop) [Decidable p]:Int:=if p then 1 else 0
def nj (r s:List Int) (i:Int):Int:=tot r.length fun j=>if i∈walk r (j:Int) then s.getD j 0 else 0
theorem met {r:List Int} (h:eX r) {i:Int} (hi:0≤i):∀ p:Int,0≤p→p<r.length→one (i∈walk r p)=one (p=i) + tot r.length fun k=>if nxt r (k:Int)=i then one ((k:Int)∈walk r p) else 0:=by
  have key:=h.ind (P:=fun p=>(p=-1∨(0≤p∧p<r.length))→one (i∈walk r p)=one (p=i) + tot r.length fun k=>if nxt r (k:Int)=i then one ((k:Int)∈walk r p) else 0) ?_ ?_
  · exact fun p h0 h1=>key p h0 h1 (.inr ⟨h0,h1⟩)
  · intro _
    rw [jA,m9 fun k _=>?_]
    · unfold one;rw [if_neg (by simp),if_neg (by omega)];rfl
    · unfold one;rw [if_neg (show ¬ (k:Int)∈([]:List Int) by simp)];split <;> rfl
  · intro p h0 h1 ih _
    have ih':=ih (h.step h0 h1)
    have nd:=p8 h h0 h1
    rw [cO h h0 h1] at nd ⊢
    obtain ⟨np,_⟩:=List.nodup_cons.mp nd
    have e1:one (i∈p :: walk r (nxt r p))=one (p=i) + one (i∈walk r (nxt r p)):=by
      unfold one
      by_cases hpi:p=i
      · subst hpi
        rw [if_pos List.mem_cons_self,if_pos rfl,if_neg np];rfl
      · rw [if_neg hpi]
        by_cases hm:i∈walk r (nxt r p)
        · rw [if_pos (List.mem_cons_of_mem _ hm),if_pos hm];rfl
        · rw [if_neg hm,if_neg fun z=>?_];· rfl
          rcases List.mem_cons.mp z with z | z
          · exact hpi z.symm
          · exact hm z
    have e2:(tot r.length fun k=>if nxt r (k:Int)=i then one ((k:Int)∈p :: walk r (nxt r p)) else 0) =
        one (nxt r p=i) + tot r.length fun k=>if nxt r (k:Int)=i then one ((k:Int)∈walk r (nxt r p)) else 0:=by
      have:(tot r.length fun k=>if nxt r (k:Int)=i then one ((k:Int)∈p :: walk r (nxt r p)) else 0) =
          tot r.length fun k=>(if k=p.toNat then (fun k=>if nxt r (k:Int)=i then (1:Int) else 0) k else 0) + if nxt r (k:Int)=i then one ((k:Int)∈walk r (nxt r p)) else 0:=by
        refine jP fun k hk=>?_
        by_cases hn:nxt r (k:Int)=i
        · simp only [if_pos hn]
          by_cases hkp:k=p.toNat
          · have hkp':(k:Int)=p:=by omega
            rw [if_pos hkp,hkp']
            unfold one
            rw [if_pos List.mem_cons_self,if_neg np];rfl
          · have hkp':¬ (k:Int)=p:=by omega
            rw [if_neg hkp]
            unfold one
            by_cases hm:(k:Int)∈walk r (nxt r p)
            · rw [if_pos (List.mem_cons_of_mem _ hm),if_pos hm];rfl
            · rw [if_neg hm,if_neg fun z=>?_];· rfl
              rcases List.mem_cons.mp z with z | z
              · exact hkp' z
              · exact hm z
        · simp only [if_neg hn];split <;> rfl
      rw [this,tU,yj _ (by omega)]
      have e:((p.toNat:Nat):Int)=p:=by omega
      show (if nxt r ((p.toNat:Nat):Int)=i then (1:Int) else 0) + _=_
      rw [e];rfl
    rw [e1,e2,ih']
theorem vL {r:List Int} (h:eX r) (s:List Int) {i:Nat} (hi:i<r.length):nj r s (i:Int)=s.getD i 0 + tot r.length fun k=>if nxt r (k:Int)=(i:Int) then nj r s (k:Int) else 0:=by
  have e:nj r s (i:Int)=tot r.length fun j=>(if j=i then s.getD j 0 else 0) + tot r.length fun k=>if nxt r (k:Int)=(i:Int) then (if (k:Int)∈walk r (j:Int) then s.getD j 0 else 0) else 0:=by
    refine jP fun j hj=>?_
    have m:=met h (i:=(i:Int)) (by omega) (j:Int) (by omega) (by omega)
    have e1:(if (i:Int)∈walk r (j:Int) then s.getD j 0 else 0)=s.getD j 0 * one ((i:Int)∈walk r (j:Int)):=by unfold one;split <;> simp
    rw [e1,m,Int.mul_add,← IK]
    congr 1
    · unfold one
      by_cases hji:j=i
      · rw [if_pos (by omega),if_pos hji];simp
      · rw [if_neg (by omega),if_neg hji];simp
    · refine jP fun k hk=>?_
      split
      · unfold one;split <;> simp
      · simp
  rw [e,tU,yj (fun j=>s.getD j 0) hi,Bh]
  congr 1
  refine jP fun k hk=>?_
  rw [IV]
  rfl
def eN (r:List Int) (a b:Int):List Int:=if b=-1 then walk r a else (walk r a).takeWhile (fun x=>!decide (x=b))
def Stop (r:List Int) (a b:Int):Prop:=b=-1∨b∈walk r a
theorem yt {r:List Int} {a b x:Int} (h:x∈eN r a b):x∈walk r a:=by
  unfold eN at h
  split at h
  · exact h
  · exact (List.takeWhile_prefix _).subset h
theorem wM {r:List Int} (h:eX r) {a:Int} (h0:0≤a) (h1:a<r.length):eN r a a=[]:=by
  unfold eN
  rw [if_neg (by omega),cO h h0 h1,List.takeWhile_cons]
  simp
theorem wN {r:List Int} (h:eX r) {a b:Int} (h0:0≤a) (h1:a<r.length) (hb:b≠a):eN r a b=a :: eN r (nxt r a) b:=by
  unfold eN
  split
  · exact cO h h0 h1
  · rw [cO h h0 h1,List.takeWhile_cons]
    have:¬ a=b:=fun z=>hb z.symm
    simp [this]
theorem rD (r:List Int) (b:Int):eN r (-1) b=[]:=by
  unfold eN;rw [jA];split <;> rfl
theorem Bl {r:List Int} (h:eX r) {a b:Int} (h0:0≤a) (h1:a<r.length):(eN r a b).Nodup:=by
  unfold eN
  split
  · exact p8 h h0 h1
  · exact (p8 h h0 h1).sublist (List.takeWhile_sublist _)
end Rv
namespace Rv
structure Fl (n:Nat) (fl:List Int) (g:Nat→Int):Prop where
  len:fl.length=n
  at_:∀ i,i<n→fl[i]?=some (g i)
theorem Fl.of (fl:List Int):Fl fl.length fl (fun i=>fl.getD i 0):=⟨rfl,fun i hi=>by rw [List.getElem?_eq_getElem hi,List.getD_eq_getElem?_getD,List.getElem?_eq_getElem hi];rfl⟩
theorem Fl.uJ {n:Nat} {fl:List Int} {g g':Nat→Int} (h:Fl n fl g) (e:∀ i,i<n→g i=g' i):Fl n fl g':=⟨h.len,fun i hi=>by rw [h.at_ i hi,e i hi]⟩
theorem Fl.set {n:Nat} {fl:List Int} {g g':Nat→Int} {j:Nat} {y:Int} (h:Fl n fl g) (hj:j<n) (e:∀ i,i<n→i≠j→g' i=g i) (ey:y=g' j):Fl n (fl.set j y) g' :=
  ⟨by rw [List.length_set];exact h.len,fun i hi=>by
    by_cases hij:i=j
    · subst hij;rw [List.getElem?_set_self (by rw [h.len];exact hj),ey]
    · rw [List.getElem?_set_ne (Ne.symm hij),h.at_ i hi,e i hi hij]⟩
theorem Fl.ext {n:Nat} {fl fl':List Int} {g:Nat→Int} (h:Fl n fl g) (h':Fl n fl' g):fl=fl':=by
  apply List.ext_getElem?
  intro i
  by_cases hi:i<n
  · rw [h.at_ i hi,h'.at_ i hi]
  · rw [List.getElem?_eq_none (by rw [h.len];omega),List.getElem?_eq_none (by rw [h'.len];omega)]
theorem Fl.getD {n:Nat} {fl:List Int} {g:Nat→Int} (h:Fl n fl g) {i:Nat} (hi:i<n):fl.getD i 0=g i:=by
  rw [List.getD_eq_getElem?_getD,h.at_ i hi];rfl
theorem Fl.map (n:Nat) (g:Nat→Int):Fl n ((List.range n).map g) g:=⟨by simp,fun i hi=>by rw [List.getElem?_map,List.getElem?_range hi];rfl⟩
theorem Fl.rep (n:Nat) (x:Int):Fl n (List.replicate n x) fun _=>x:=⟨by simp,fun i hi=>by rw [List.getElem?_replicate,if_pos hi]⟩
def kap (r:List Int) (i:Nat):Int:=(i:Int) - 64 * ((walk r (i:Int)).length:Int)
structure Bb (r:List Int) (p:List Nat):Prop where
  perm:p.Perm (List.range r.length)
  ord:p.Pairwise fun i j=>kap r i<kap r j
theorem Bb.len {r:List Int} {p:List Nat} (h:Bb r p):p.length=r.length:=by rw [h.perm.length_eq,List.length_range]
theorem Bb.lt {r:List Int} {p:List Nat} (h:Bb r p) {j:Nat} (hj:j∈p):j<r.length:=List.mem_range.mp (h.perm.mem_iff.mp hj)
theorem Bb.first {r:List Int} {p p1 p2:List Nat} {j k:Nat} (h:Bb r p) (hR:eX r) (h64:r.length<64) (e:p=p1++j :: p2) (hk:k<r.length) (hn:nxt r (k:Int)=(j:Int)):k∈p1:=by
  have hjm:j∈p:=by rw [e];simp
  have hj:=h.lt hjm
  have hkm:k∈p:=h.perm.mem_iff.mpr (List.mem_range.mpr hk)
  have hw:(walk r (k:Int)).length=(walk r (j:Int)).length + 1:=by rw [cO hR (p:=(k:Int)) (by omega) (by omega),hn,List.length_cons]
  have hlt:kap r k<kap r j:=by unfold kap;omega
  rw [e] at hkm
  rcases List.mem_append.mp hkm with z | z
  · exact z
  · have ord:=h.ord
    rw [e,List.pairwise_append] at ord
    rcases List.mem_cons.mp z with z | z
    · subst z;omega
    · have:=(List.pairwise_cons.mp ord.2.1).1 k z
      omega
def nats (r s:List Int):List Int:=(List.range r.length).map fun (i:Nat)=>nj r s (i:Int)
theorem zm (r s:List Int):Fl r.length (nats r s) fun i=>nj r s (i:Int):=Fl.map _ _
def wz (r s:List Int) (p:List Nat) (t:Nat) (fl:List Int):Prop:=Fl r.length fl fun i=>s.getD i 0 + lsum (p.take t) fun k=>if nxt r (k:Int)=(i:Int) then nj r s (k:Int) else 0
theorem wz.start (r s:List Int) (p:List Nat) (hs:s.length=r.length):wz r s p 0 s:=by
  have:=Fl.of s
  rw [hs] at this
  exact this.uJ fun i _=>by rw [List.take_zero];show _=_ + 0;omega
theorem take_cons {p:List Nat} {t j:Nat} (h:p[t]?=some j):p.take (t + 1)=p.take t++[j]:=by rw [List.take_add_one,h];rfl
theorem wz.here {r s:List Int} {p:List Nat} {t j:Nat} {fl:List Int} (T:Bb r p) (hR:eX r) (h64:r.length<64) (h:wz r s p t fl) (hj:p[t]?=some j):fl[j]?=some (nj r s (j:Int)):=by
  have hjl:=T.lt (List.mem_of_getElem? hj)
  rw [h.at_ j hjl,vL hR s hjl]
  congr 2
  rw [← mD,← rQ T.perm]
  obtain ⟨ht,et⟩:=List.getElem?_eq_some_iff.mp hj
  have e:p=p.take t++j :: p.drop (t + 1):=by
    rw [← et,List.getElem_cons_drop,List.take_append_drop]
  conv=>rhs;rw [e]
  rw [j6]
  have z:lsum (j :: p.drop (t + 1)) (fun k=>if nxt r (k:Int)=(j:Int) then nj r s (k:Int) else 0)=0:=by
    refine rP fun k hk=>if_neg fun hn=>?_
    have hkp:k∈p:=by rw [e];exact List.mem_append_right _ hk
    have h1:=T.first hR h64 e (T.lt hkp) hn
    have nd:p.Nodup:=T.perm.nodup_iff.mpr List.nodup_range
    rw [e,List.nodup_append] at nd
    exact nd.2.2 k h1 k hk rfl
  rw [z];omega
theorem wz.Rj {r s:List Int} {p:List Nat} {t j:Nat} {fl:List Int} (h:wz r s p t fl) (hj:p[t]?=some j) (hm:nxt r (j:Int)=-1):wz r s p (t + 1) fl :=
  Fl.uJ h fun i _=>by
    rw [take_cons hj,j6]
    show _=_ + (_ + ((if nxt r (j:Int)=(i:Int) then nj r s (j:Int) else 0) + 0))
    rw [if_neg (by omega)];omega
theorem wz.turn {r s:List Int} {p:List Nat} {t j b:Nat} {fl:List Int} (T:Bb r p) (hR:eX r) (h64:r.length<64) (h:wz r s p t fl) (hj:p[t]?=some j) (hb:nxt r (j:Int)=(b:Int)) (hbl:b<r.length) {x:Int} (hx:fl[b]?=some x) :
    wz r s p (t + 1) (fl.set b (x + nj r s (j:Int))):=by
  refine Fl.set h hbl (fun i _ hib=>?_) ?_
  · rw [take_cons hj,j6]
    show _ + (_ + ((if nxt r (j:Int)=(i:Int) then nj r s (j:Int) else 0) + 0))=_
    rw [if_neg (by omega)];omega
  · rw [h.at_ b hbl] at hx
    rw [← Option.some.inj hx,take_cons hj,j6]
    show _=_ + (_ + ((if nxt r (j:Int)=(b:Int) then nj r s (j:Int) else 0) + 0))
    rw [if_pos hb];omega
theorem wz.done {r s:List Int} {p:List Nat} {fl:List Int} (T:Bb r p) (hR:eX r) (h:wz r s p r.length fl):fl=nats r s:=by
  refine Fl.ext (g:=fun i=>nj r s (i:Int)) (Fl.uJ h fun i hi=>?_) (zm r s)
  rw [← T.len,List.take_length,vL hR s hi,← mD,rQ T.perm]
abbrev Mv:=Int × Int × Int
def MvI (r:List Int) (g:Nat→Int) (am:Int) (pre:List Int) (fl:List Int):Prop:=Fl r.length fl fun i=>g i - if (i:Int)∈pre then am else 0
theorem MvI.start {r:List Int} {g:Nat→Int} {fl:List Int} (am:Int) (h:Fl r.length fl g):MvI r g am [] fl:=Fl.uJ h fun i _=>by rw [if_neg (by simp)];omega
theorem MvI.turn {r:List Int} {g:Nat→Int} {am:Int} {pre:List Int} {fl:List Int} (h:MvI r g am pre fl) {j:Nat} (hj:j<r.length) (hn:¬ (j:Int)∈pre) {x:Int} (hx:fl[j]?=some x):MvI r g am (pre++[(j:Int)]) (fl.set j (x - am)):=by
  refine Fl.set h hj (fun i _ hij=>?_) ?_
  · have:((i:Int)∈pre++[(j:Int)])=((i:Int)∈pre):=by
      apply propext;simp;omega
    simp only [this]
  · rw [h.at_ j hj,if_neg hn] at hx
    rw [← Option.some.inj hx,if_pos (by simp)];omega
end Rv
namespace Rv
end Rv
namespace Rv
end Rv
namespace Rv
end Rv
namespace Rv
def wsum (r s:List Int) (t:Nat) (i:Nat):Int:=tot t fun j=>if (i:Int)∈walk r (j:Int) then s.getD j 0 else 0
theorem Bd (r s:List Int) (i:Nat):wsum r s r.length i=nj r s (i:Int):=rfl
theorem xR {r s:List Int} {t:Nat} {fl:List Int} (h:MvI r (wsum r s t) (-(s.getD t 0)) (walk r (t:Int)) fl):Fl r.length fl (wsum r s (t + 1)) :=
  Fl.uJ h fun i _=>by
    show wsum r s t i - (if (i:Int)∈walk r (t:Int) then -(s.getD t 0) else 0)=wsum r s t i + if (i:Int)∈walk r (t:Int) then s.getD t 0 else 0
    split <;> omega
end Rv
namespace Rv
end Rv
namespace Tn
def je:Nat→(Nat→Int)→Int
  | 0,_=>0
  | n + 1,f=>je n f + f n
theorem bO {f g:Nat→Int}:∀ {n:Nat},(∀ k,k<n→f k=g k)→je n f=je n g
  | 0,_=>rfl
  | n + 1,h=>by
    show je n f + f n=je n g + g n
    rw [bO fun k hk=>h k (by omega),h n (by omega)]
theorem nM {f g:Nat→Int}:∀ {n:Nat},(∀ k,k<n→f k≤g k)→je n f≤je n g
  | 0,_=>Int.le_refl _
  | n + 1,h=>by
    show je n f + f n≤je n g + g n
    have a:=nM fun k hk=>h k (Nat.lt_succ_of_lt hk)
    have b:=h n (Nat.lt_succ_self n)
    omega
theorem yr {f g:Nat→Int} {i:Nat}:∀ {n:Nat},i<n→(∀ k,k<n→f k≤g k)→f i<g i→je n f<je n g
  | 0,hi,_,_=>absurd hi (Nat.not_lt_zero _)
  | n + 1,hi,h,hl=>by
    show je n f + f n<je n g + g n
    by_cases e:i=n
    · subst e
      have a:=nM fun k hk=>h k (Nat.lt_succ_of_lt hk)
      omega
    · have a:=yr (n:=n) (by omega) (fun k hk=>h k (Nat.lt_succ_of_lt hk)) hl
      have b:=h n (Nat.lt_succ_self n)
      omega
theorem lB (f g:Nat→Int):∀ n:Nat,je n (fun k=>f k + g k)=je n f + je n g
  | 0=>rfl
  | n + 1=>by
    show je n _ + (f n + g n)=je n f + f n + (je n g + g n)
    rw [lB f g n];omega
theorem qe (f g:Nat→Int):∀ n:Nat,je n (fun k=>f k - g k)=je n f - je n g
  | 0=>rfl
  | n + 1=>by
    show je n _ + (f n - g n)=je n f + f n - (je n g + g n)
    rw [qe f g n];omega
theorem gJ:∀ n:Nat,je n (fun _=>0)=0
  | 0=>rfl
  | n + 1=>by show je n _ + 0=0;rw [gJ n];rfl
theorem lA {i:Nat} (c:Int):∀ {n:Nat},i<n→je n (fun k=>if k=i then c else 0)=c
  | 0,hi=>absurd hi (Nat.not_lt_zero _)
  | n + 1,hi=>by
    show je n _ + (if n=i then c else 0)=c
    by_cases e:n=i
    · subst e
      rw [if_pos rfl,bO (g:=fun _=>0) fun k hk=>if_neg (by omega),gJ];omega
    · rw [if_neg e,lA c (by omega)];omega
theorem tV {f:Nat→Int} {n:Nat} (h:∀ k,k<n→0≤f k):0≤je n f:=by
  have:=nM (f:=fun _=>0) (g:=f) h
  rw [gJ] at this;exact this
theorem nJ {f:Nat→Int} {n i:Nat} (hi:i<n) (h:∀ k,k<n→0≤f k):f i≤je n f:=by
  have:=nM (f:=fun k=>if k=i then f i else 0) (g:=f) (n:=n) fun k hk=>by
    by_cases e:k=i
    · subst e;rw [if_pos rfl];exact Int.le_refl _
    · rw [if_neg e];exact h k hk
  rw [lA _ hi] at this;exact this
def hold (n:Nat) (W:Nat→List Int) (x:Nat→Int) (r:Int):Int:=je n fun k=>if r∈W k then x k else 0
theorem JB {n i:Nat} {W:Nat→List Int} {x y:Nat→Int} {r:Int} (hi:i<n) (hr:r∈W i) (h:∀ k,k<n→r∈W k→x k≤y k) (hl:x i<y i):hold n W x r<hold n W y r :=
  yr hi (fun k hk=>by
    by_cases e:r∈W k
    · rw [if_pos e,if_pos e];exact h k hk e
    · rw [if_neg e,if_neg e];exact Int.le_refl _) (by rw [if_pos hr,if_pos hr];exact hl)
theorem pR {n:Nat} {W:Nat→List Int} {x y:Nat→Int} {r:Int} (h:∀ k,k<n→r∈W k→x k=y k):hold n W x r=hold n W y r :=
  bO fun k hk=>by
    by_cases e:r∈W k
    · rw [if_pos e,if_pos e];exact h k hk e
    · rw [if_neg e,if_neg e]
def put (x:Nat→Int) (i:Nat) (c:Int):Nat→Int:=fun k=>if k=i then x k + c else x k
theorem vC (x:Nat→Int) (i:Nat) (c:Int):put x i c i=x i + c:=if_pos rfl
theorem nU {x:Nat→Int} {i k:Nat} {c:Int} (h:k≠i):put x i c k=x k:=if_neg h
theorem qJ {n i:Nat} {W:Nat→List Int} {x:Nat→Int} {r c:Int} (hi:i<n):hold n W (put x i c) r=hold n W x r + (if r∈W i then c else 0):=by
  have e:∀ k,k<n→(if r∈W k then put x i c k else 0)=(if r∈W k then x k else 0) + (if k=i then (if r∈W i then c else 0) else 0):=fun k _=>by
    by_cases h1:r∈W k
    · by_cases h2:k=i
      · subst h2;simp [put,h1]
      · simp [put,h1,h2]
    · by_cases h2:k=i
      · subst h2;simp [h1]
      · simp [h1,h2]
  unfold hold
  rw [bO e,lB,lA _ hi]
theorem jW (n:Nat) (W:Nat→List Int) (r:Int):hold n W (fun _=>0) r=0:=by
  unfold hold
  rw [bO (g:=fun _=>0) fun k _=>by split <;> rfl,gJ]
def uU (d n i d' m j:Int):Prop:=d<d'∨d=d'∧(n<m∨n=m∧i<j)
structure Fit (n:Nat) (F:Int→Int) (W:Nat→List Int) (want x:Nat→Int):Prop where
  nn:∀ k,k<n→0≤x k
  le:∀ k,k<n→x k≤want k
  fits:∀ r,(∃ k,k<n∧r∈W k)→hold n W x r≤F r
def qT (n:Nat) (F:Int→Int) (W:Nat→List Int) (day x:Nat→Int) (k:Nat) (r:Int):Prop :=
  r∈W k∧hold n W x r=F r∧∀ j,j<n→r∈W j→0<x j→uU (day j) (x j) j (day k) (x k + 1) k
def oW (n:Nat) (F:Int→Int) (W:Nat→List Int) (day want x:Nat→Int):Prop :=
  ∀ k,k<n→x k<want k→∃ r,qT n F W day x k r
theorem pW {P:Nat→Prop} (f:Nat→Nat) (h:∃ k,P k):∃ k,P k∧∀ j,P j→f k≤f j:=by
  obtain ⟨k,hk⟩:=h
  have key:∀ (m k:Nat),f k≤m→P k→∃ k,P k∧∀ j,P j→f k≤f j:=by
    intro m
    induction m with
    | zero=>intro k hk hp;exact ⟨k,hp,fun j _=>by omega⟩
    | succ m ih =>
      intro k hk hp
      by_cases hx:∃ j,P j∧f j<f k
      · obtain ⟨j,hj,hl⟩:=hx
        exact ih j (by omega) hj
      · exact ⟨k,hp,fun j hj=>Classical.byContradiction fun hn=>hx ⟨j,hj,by omega⟩⟩
  exact key (f k) k (Nat.le_refl _) hk
theorem oM {P:Nat→Prop} (f:Nat→Int) (b:Int) (hb:∀ k,P k→b≤f k) (h:∃ k,P k):∃ k,P k∧∀ j,P j→f k≤f j:=by
  obtain ⟨k,hk,hm⟩:=pW (fun k=>(f k - b).toNat) h
  refine ⟨k,hk,fun j hj=>?_⟩
  have a1:=hm j hj
  have a2:=hb k hk
  have a3:=hb j hj
  omega
theorem w5 {n:Nat} {day x y:Nat→Int} (hd:∀ k,k<n→0≤day k) (hx:∀ k,k<n→0≤x k) (hy:∀ k,k<n→0≤y k) (h:∃ k,k<n∧x k≠y k) :
    ∃ k,k<n∧x k≠y k∧∀ j,j<n→x j≠y j→j=k∨uU (day k) (min (x k) (y k)) k (day j) (min (x j) (y j)) j:=by
  obtain ⟨k1,p1,m1⟩:=oM (P:=fun k=>k<n∧x k≠y k) day 0 (fun k hk=>hd k hk.1) h
  obtain ⟨k2,p2,m2⟩:=oM (P:=fun k=>(k<n∧x k≠y k)∧day k=day k1) (fun k=>min (x k) (y k)) 0 (fun k hk=>by
    have a:=hx k hk.1.1
    have b:=hy k hk.1.1
    show (0:Int)≤min (x k) (y k)
    omega) ⟨k1,p1,rfl⟩
  obtain ⟨k3,p3,m3⟩:=pW (P:=fun k=>((k<n∧x k≠y k)∧day k=day k1)∧min (x k) (y k)=min (x k2) (y k2)) (fun k=>k) ⟨k2,p2,rfl⟩
  refine ⟨k3,p3.1.1.1,p3.1.1.2,fun j hj hne=>?_⟩
  have a1:=m1 j ⟨hj,hne⟩
  have a2:=p3.1.2
  by_cases hday:day j=day k1
  · have b1:=m2 j ⟨⟨hj,hne⟩,hday⟩
    have b2:=p3.2
    by_cases hmin:min (x j) (y j)=min (x k2) (y k2)
    · have c1:=m3 j ⟨⟨⟨hj,hne⟩,hday⟩,hmin⟩
      by_cases e:j=k3
      · exact .inl e
      · exact .inr (.inr ⟨by omega,.inr ⟨by omega,by omega⟩⟩)
    · refine .inr (.inr ⟨by omega,.inl ?_⟩)
      have b3:min (x k2) (y k2)≤min (x j) (y j):=b1
      omega
  · exact .inr (.inl (by omega))
theorem kj {n:Nat} {F:Int→Int} {W:Nat→List Int} {day want x y:Nat→Int} (sx:oW n F W day want x) (fy:Fit n F W want y)
    {k:Nat} (hk:k<n) (hne:x k≠y k) (hm:∀ j,j<n→x j≠y j→j=k∨uU (day k) (min (x k) (y k)) k (day j) (min (x j) (y j)) j):y k<x k:=by
  refine Classical.byContradiction fun hn=>?_
  have hlt:x k<y k:=by omega
  obtain ⟨r,hr,hF,hall⟩:=sx k hk (by have:=fy.le k hk;omega)
  have h1:hold n W x r<hold n W y r:=JB hk hr (fun j hj hrj=>by
    refine Classical.byContradiction fun hle=>?_
    have hyx:y j<x j:=by omega
    have hjk:j≠k:=fun e=>by subst e;omega
    have hy0:=fy.nn j hj
    rcases hm j hj (by omega) with e | a
    · exact hjk e
    · rw [show min (x k) (y k)=x k by omega,show min (x j) (y j)=y j by omega] at a
      have b:=hall j hj hrj (by omega)
      unfold uU at a b
      omega) hlt
  have h2:=fy.fits r ⟨k,hk,hr⟩
  omega
theorem unique {n:Nat} {F:Int→Int} {W:Nat→List Int} {day want x y:Nat→Int} (hd:∀ k,k<n→0≤day k) (fx:Fit n F W want x) (sx:oW n F W day want x) (fy:Fit n F W want y) (sy:oW n F W day want y) :
    ∀ k,k<n→x k=y k:=by
  refine Classical.byContradiction fun hn=>?_
  have hex:∃ k,k<n∧x k≠y k:=Classical.byContradiction fun h=>hn fun k hk=>Classical.byContradiction fun hne=>h ⟨k,hk,hne⟩
  obtain ⟨k,hk,hne,hm⟩:=w5 hd fx.nn fy.nn hex
  have a:=kj sx fy hk hne hm
  have b:=kj sy fx hk (Ne.symm hne) fun j hj h=>by
    rw [show min (y k) (x k)=min (x k) (y k) by omega,show min (y j) (x j)=min (x j) (y j) by omega]
    exact hm j hj (Ne.symm h)
  omega
end Tn
namespace Tn
def d0:Nat→Int:=fun _=>0
structure xK (n:Nat) (F:Int→Int) (W:Nat→List Int) (want x:Nat→Int) (G:Nat→Bool) (t:Int):Prop where
  fit:Fit n F W want x
  go:∀ k,G k=true→k<n∧x k=t
  top:∀ k,k<n→x k≤t
  done:∀ k,k<n→G k=false→x k<want k→∃ r,qT n F W d0 x k r
theorem xK.start {n:Nat} {F:Int→Int} {W:Nat→List Int} {want:Nat→Int} (hw:∀ k,k<n→0≤want k) (hF:∀ r,(∃ k,k<n∧r∈W k)→0≤F r) :
    xK n F W want (fun _=>0) (fun k=>decide (k<n)) 0 :=
  ⟨⟨fun _ _=>Int.le_refl _,hw,fun r hr=>by rw [jW];exact hF r hr⟩,fun k hk=>⟨by simpa using hk,rfl⟩,fun _ _=>Int.le_refl _,fun k hk hg=>by simp [hk] at hg⟩
theorem xK.finish {n:Nat} {F:Int→Int} {W:Nat→List Int} {want x:Nat→Int} {G:Nat→Bool} {t:Int} (h:xK n F W want x G t) (hG:∀ k,k<n→G k=false):Fit n F W want x∧oW n F W d0 want x :=
  ⟨h.fit,fun k hk hl=>h.done k hk (hG k hk) hl⟩
def cnt (n:Nat) (W:Nat→List Int) (G:Nat→Bool) (r:Int):Int:=hold n W (fun k=>if G k then 1 else 0) r
def jump (x:Nat→Int) (G:Nat→Bool) (m:Int):Nat→Int:=fun k=>if G k then x k + m else x k
theorem oJ (n:Nat) (W:Nat→List Int) (x:Nat→Int) (G:Nat→Bool) (m r:Int):hold n W (jump x G m) r=hold n W x r + m * cnt n W G r:=by
  unfold cnt hold jump
  induction n with
  | zero=>simp [je]
  | succ n ih =>
    simp only [je]
    rw [ih,Int.mul_add]
    by_cases h1:r∈W n
    · by_cases h2:G n=true
      · simp [h1,h2];omega
      · simp [h1,h2];omega
    · simp [h1]
theorem JM {n:Nat} {W:Nat→List Int} {G:Nat→Bool} {r:Int} {j:Nat} (hj:j<n) (hr:r∈W j) (hg:G j=true):0<cnt n W G r:=by
  have h:=nJ (f:=fun k=>if r∈W k then (if G k then (1:Int) else 0) else 0) hj fun k _=>by
    split
    · split <;> decide
    · decide
  simp only [hr,hg,if_true] at h
  show 0<je n fun k=>if r∈W k then (if G k then (1:Int) else 0) else 0
  omega
theorem Qf (n:Nat) (W:Nat→List Int) (G:Nat→Bool) (r:Int):0≤cnt n W G r:=tV fun k _=>by
  show (0:Int)≤if r∈W k then (if G k then (1:Int) else 0) else 0
  split
  · split <;> decide
  · decide
theorem xK.jump {n:Nat} {F:Int→Int} {W:Nat→List Int} {want x:Nat→Int} {G:Nat→Bool} {t m:Int} (h:xK n F W want x G t) (hm:0≤m) (h1:∀ k,G k=true→x k + m≤want k)
    (h2:∀ r,(∃ k,k<n∧r∈W k)→m * cnt n W G r≤F r - hold n W x r):xK n F W want (jump x G m) G (t + m):=by
  refine ⟨⟨fun k hk=>?_,fun k hk=>?_,fun r hr=>?_⟩,fun k hk=>⟨(h.go k hk).1,?_⟩,fun k hk=>?_,fun k hk hg hl=>?_⟩
  · have:=h.fit.nn k hk
    unfold Tn.jump;split <;> omega
  · unfold Tn.jump
    split
    · rename_i hg;exact h1 k hg
    · exact h.fit.le k hk
  · rw [oJ]
    have:=h2 r hr
    omega
  · unfold Tn.jump
    rw [if_pos hk,(h.go k hk).2]
  · have:=h.top k hk
    unfold Tn.jump;split <;> omega
  · have ek:Tn.jump x G m k=x k:=by unfold Tn.jump;rw [hg];rfl
    rw [ek] at hl
    obtain ⟨r,hr,hF,hall⟩:=h.done k hk hg hl
    by_cases hm0:m=0
    · have e:Tn.jump x G m=x:=by
        funext j
        unfold Tn.jump
        split <;> omega
      rw [e]
      exact ⟨r,hr,hF,hall⟩
    · have hc:=h2 r ⟨k,hk,hr⟩
      have hno:∀ j,j<n→r∈W j→G j=false:=fun j hj hrj=>by
        cases hgj:G j with
        | false=>rfl
        | true =>
          exfalso
          have p:=JM hj hrj hgj
          have q:0<m * cnt n W G r:=Int.mul_pos (by omega) p
          omega
      have same:∀ j,j<n→r∈W j→Tn.jump x G m j=x j:=fun j hj hrj=>by unfold Tn.jump;rw [hno j hj hrj];rfl
      refine ⟨r,hr,?_,fun j hj hrj hp=>?_⟩
      · rw [pR (y:=x) same];exact hF
      · rw [same j hj hrj] at hp ⊢
        rw [ek]
        exact hall j hj hrj hp
structure uQ (n:Nat) (F:Int→Int) (W:Nat→List Int) (want x:Nat→Int) (G S:Nat→Bool) (t:Int) (p:Nat):Prop where
  fit:Fit n F W want x
  still:∀ k,S k=true→k<p∧k<n∧x k=t + 1
  wait:∀ k,k<n→G k=true→p≤k→x k=t
  low:∀ k,k<n→S k=false→x k≤t
  done:∀ k,k<n→S k=false→(k<p∨G k=false)→x k<want k→∃ r,qT n F W d0 x k r
theorem xK.pass {n:Nat} {F:Int→Int} {W:Nat→List Int} {want x:Nat→Int} {G:Nat→Bool} {t:Int} (h:xK n F W want x G t):uQ n F W want x G (fun _=>false) t 0 :=
  ⟨h.fit,(fun _ hk=>by cases hk),fun k _ hg _=>(h.go k hg).2,fun k hk _=>h.top k hk,fun k hk _ hg hl=>by
    rcases hg with z | z
    · exact absurd z (Nat.not_lt_zero _)
    · exact h.done k hk z hl⟩
theorem uQ.skip {n:Nat} {F:Int→Int} {W:Nat→List Int} {want x:Nat→Int} {G S:Nat→Bool} {t:Int} {p q:Nat} (h:uQ n F W want x G S t p) (hpq:p≤q) (hno:∀ k,p≤k→k<q→G k=false):uQ n F W want x G S t q :=
  ⟨h.fit,fun k hk=>⟨by have:=(h.still k hk).1;omega,(h.still k hk).2⟩,fun k hk hg hq=>h.wait k hk hg (by omega),h.low,fun k hk hs hg hl=>by
    refine h.done k hk hs ?_ hl
    rcases hg with z | z
    · by_cases e:k<p
      · exact .inl e
      · exact .inr (hno k (by omega) z)
    · exact .inr z⟩
theorem uQ.gets {n:Nat} {F:Int→Int} {W:Nat→List Int} {want x:Nat→Int} {G S:Nat→Bool} {t:Int} {p:Nat} (h:uQ n F W want x G S t p) (hp:p<n) (hg:G p=true) (hw:x p<want p) (hfree:∀ r,r∈W p→0<F r - hold n W x r) :
    uQ n F W want (put x p 1) G (fun k=>if k=p then true else S k) t (p + 1):=by
  have xp:=h.wait p hp hg (Nat.le_refl _)
  refine ⟨⟨fun k hk=>?_,fun k hk=>?_,fun r hr=>?_⟩,fun k hk=>?_,fun k hk hg hq=>?_,fun k hk hs=>?_,fun k hk hs hq hl=>?_⟩
  · have:=h.fit.nn k hk
    unfold put;split <;> omega
  · by_cases e:k=p
    · subst e;rw [vC];omega
    · rw [nU e];exact h.fit.le k hk
  · rw [qJ hp]
    by_cases e:r∈W p
    · rw [if_pos e];have:=hfree r e;omega
    · rw [if_neg e];have:=h.fit.fits r hr;omega
  · by_cases e:k=p
    · subst e;rw [vC];exact ⟨by omega,hp,by omega⟩
    · simp only [e,if_false] at hk
      obtain ⟨a,b,c⟩:=h.still k hk
      rw [nU e];exact ⟨by omega,b,c⟩
  · rw [nU (by omega)];exact h.wait k hk hg (by omega)
  · by_cases e:k=p
    · simp [e] at hs
    · simp only [e,if_false] at hs
      rw [nU e];exact h.low k hk hs
  · by_cases e:k=p
    · simp [e] at hs
    · simp only [e,if_false] at hs
      rw [nU e] at hl
      obtain ⟨r,hr,hF,hall⟩:=h.done k hk hs (by
        rcases hq with z | z
        · exact .inl (by omega)
        · exact .inr z) hl
      have hrp:¬ r∈W p:=fun z=>by have:=hfree r z;omega
      refine ⟨r,hr,?_,fun j hj hrj hpos=>?_⟩
      · rw [qJ hp,if_neg hrp];omega
      · have hjp:j≠p:=fun z=>hrp (z ▸ hrj)
        rw [nU hjp] at hpos ⊢
        rw [nU e]
        exact hall j hj hrj hpos
theorem uQ.ends {n:Nat} {F:Int→Int} {W:Nat→List Int} {want x:Nat→Int} {G S:Nat→Bool} {t:Int} {p:Nat} (h:uQ n F W want x G S t p) (hp:p<n) (hg:G p=true) (hn:want p≤x p∨∃ r,r∈W p∧F r - hold n W x r≤0) :
    uQ n F W want x G S t (p + 1):=by
  have xp:=h.wait p hp hg (Nat.le_refl _)
  refine ⟨h.fit,fun k hk=>⟨by have:=(h.still k hk).1;omega,(h.still k hk).2⟩,fun k hk hg hq=>h.wait k hk hg (by omega),h.low,fun k hk hs hq hl=>?_⟩
  by_cases e:k=p
  · subst e
    rcases hn with z | ⟨r,hr,hle⟩
    · omega
    · refine ⟨r,hr,?_,fun j hj hrj hpos=>?_⟩
      · have:=h.fit.fits r ⟨k,hk,hr⟩
        omega
      · cases hsj:S j with
        | false =>
          have:=h.low j hj hsj
          exact .inr ⟨rfl,.inl (by omega)⟩
        | true =>
          obtain ⟨a,b,c⟩:=h.still j hsj
          exact .inr ⟨rfl,.inr ⟨by omega,by omega⟩⟩
  · exact h.done k hk hs (by
      rcases hq with z | z
      · exact .inl (by omega)
      · exact .inr z) hl
theorem uQ.finish {n:Nat} {F:Int→Int} {W:Nat→List Int} {want x:Nat→Int} {G S:Nat→Bool} {t:Int} (h:uQ n F W want x G S t n):xK n F W want x S (t + 1) :=
  ⟨h.fit,fun k hk=>(h.still k hk).2,fun k hk=>by
    cases hs:S k with
    | false=>have:=h.low k hk hs;omega
    | true=>have:=(h.still k hs).2.2;omega,fun k hk hs hl=>h.done k hk hs (.inl hk) hl⟩
end Tn
namespace Tn
def bump (xs w:List Int) (c:Int):List Int:=w.foldl (fun xs r=>xs.set r.toNat (xs.getD r.toNat 0 + c)) xs
theorem CZ (xs:List Int) (c:Int):bump xs [] c=xs:=rfl
theorem sI (xs w:List Int) (r c:Int):bump xs (r :: w) c=bump (xs.set r.toNat (xs.getD r.toNat 0 + c)) w c:=rfl
theorem Al (xs w:List Int) (r c:Int):bump xs (w++[r]) c=(bump xs w c).set r.toNat ((bump xs w c).getD r.toNat 0 + c):=by
  unfold bump;rw [List.foldl_append];rfl
theorem iD:∀ (w xs:List Int) (c:Int),(bump xs w c).length=xs.length
  | [],_,_=>rfl
  | r :: w,xs,c=>by rw [sI,iD w,List.length_set]
theorem qK {xs:List Int} {i k:Nat} {v:Int} (hi:i<xs.length):(xs.set i v).getD k 0=if k=i then v else xs.getD k 0:=by
  rw [List.getD_eq_getElem?_getD,List.getElem?_set,List.getD_eq_getElem?_getD]
  by_cases h:i=k
  · subst h;simp [hi]
  · have h':¬ k=i:=fun e=>h e.symm
    simp [h,h']
theorem lV:∀ {w xs:List Int} {c:Int},w.Nodup→(∀ r∈w,0≤r∧r<xs.length)→∀ k:Nat,(bump xs w c).getD k 0=xs.getD k 0 + (if (k:Int)∈w then c else 0)
  | [],xs,c,_,_,k=>by simp [CZ]
  | r :: w,xs,c,hw,hin,k=>by
    rw [List.nodup_cons] at hw
    obtain ⟨r0,r1⟩:=hin r List.mem_cons_self
    have hl:r.toNat<xs.length:=by omega
    rw [sI,lV hw.2 (fun q hq=>by rw [List.length_set];exact hin q (List.mem_cons_of_mem _ hq)) k,qK hl]
    by_cases e:k=r.toNat
    · have ek:(k:Int)=r:=by omega
      have hn:¬ (k:Int)∈w:=by rw [ek];exact hw.1
      rw [if_pos e,if_neg hn,if_pos (by rw [ek];exact List.mem_cons_self),e];omega
    · have ek:¬ (k:Int)=r:=by omega
      rw [if_neg e]
      by_cases h:(k:Int)∈w
      · rw [if_pos h,if_pos (List.mem_cons_of_mem _ h)]
      · rw [if_neg h,if_neg (fun z=>by rcases List.mem_cons.mp z with q | q;exact ek q;exact h q)]
def bumps (xs:List Int) (ps:List (List Int × Int)):List Int:=ps.foldl (fun xs p=>bump xs p.1 p.2) xs
theorem Ak (xs:List Int):bumps xs []=xs:=rfl
theorem p7 (xs:List Int) (p:List Int × Int) (ps:List (List Int × Int)):bumps xs (p :: ps)=bumps (bump xs p.1 p.2) ps:=rfl
theorem pZ (xs:List Int) (ps:List (List Int × Int)) (p:List Int × Int):bumps xs (ps++[p])=bump (bumps xs ps) p.1 p.2:=by
  unfold bumps;rw [List.foldl_append];rfl
theorem jx:∀ (ps:List (List Int × Int)) (xs:List Int),(bumps xs ps).length=xs.length
  | [],_=>rfl
  | p :: ps,xs=>by rw [p7,jx ps,iD]
def WOk (n:Nat) (w:List Int):Prop:=w.Nodup∧∀ r∈w,0≤r∧r<(n:Int)
theorem lU:∀ {ps:List (List Int × Int)} {xs:List Int},(∀ p∈ps,WOk xs.length p.1)→∀ k:Nat,(bumps xs ps).getD k 0=xs.getD k 0 + (ps.map fun p=>if (k:Int)∈p.1 then p.2 else 0).sum
  | [],xs,_,k=>by simp [Ak]
  | p :: ps,xs,h,k=>by
    have hp:=h p List.mem_cons_self
    rw [p7,lU (fun q hq=>by rw [iD];exact h q (List.mem_cons_of_mem _ hq)) k,lV hp.1 hp.2 k,List.map_cons,List.sum_cons]
    omega
theorem Bk {α:Type} (l:List α) (f:α→Int) (g:Nat→Int) (h:∀ k a,l[k]?=some a→g k=f a):(l.map f).sum=je l.length g:=by
  have key:∀ n,n≤l.length→((l.take n).map f).sum=je n g:=by
    intro n
    induction n with
    | zero=>intro _;rfl
    | succ n ih =>
      intro hn
      have e:l[n]?=some l[n]:=List.getElem?_eq_getElem (by omega)
      rw [List.take_succ,e,List.map_append,List.sum_append,ih (by omega)]
      show _ + (f l[n] + 0)=je n g + g n
      rw [h n _ e];omega
  have:=key l.length (Nat.le_refl _)
  rwa [List.take_of_length_le (Nat.le_refl _)] at this
theorem ni {n:Nat} {f:Nat→Int}:∀ {g:List Nat},g.Nodup→(∀ k∈g,k<n)→(g.map f).sum=je n fun k=>if k∈g then f k else 0
  | [],_,_=>by simp [gJ]
  | a :: g,hn,hl=>by
    rw [List.nodup_cons] at hn
    rw [List.map_cons,List.sum_cons,ni hn.2 fun k hk=>hl k (List.mem_cons_of_mem _ hk)]
    have e:∀ k,k<n→(if k∈a :: g then f k else 0)=(if k=a then f a else 0) + (if k∈g then f k else 0):=fun k _=>by
      by_cases h:k=a
      · subst h;simp [hn.1]
      · simp [h]
    rw [bO e,lB,lA _ (hl a List.mem_cons_self)]
def shares (fs cs:List Int):List Int:=((fs.zip cs).filter fun p=>decide (0<p.2)).map fun p=>p.1 / p.2
def WT (fs cs rs:List Int) (M:Int):Prop:=(rs++shares fs cs=[]∧M=0)∨∃ m∈rs++shares fs cs,(∀ a∈rs++shares fs cs,m≤a)∧M=max 0 m
theorem pP {fs cs:List Int} {a:Int}:a∈shares fs cs↔∃ (k:Nat) (f c:Int),fs[k]?=some f∧cs[k]?=some c∧0<c∧a=f / c:=by
  unfold shares
  simp only [List.mem_map,List.mem_filter,decide_eq_true_eq]
  constructor
  · rintro ⟨⟨f,c⟩,⟨hm,hc⟩,rfl⟩
    obtain ⟨k,hk,e⟩:=List.getElem_of_mem hm
    have e':(fs.zip cs)[k]?=some (f,c):=by rw [List.getElem?_eq_getElem hk,e]
    rw [List.getElem?_zip_eq_some] at e'
    exact ⟨k,f,c,e'.1,e'.2,hc,rfl⟩
  · rintro ⟨k,f,c,h1,h2,h3,rfl⟩
    exact ⟨(f,c),⟨List.mem_of_getElem? (i:=k) (List.getElem?_zip_eq_some.mpr ⟨h1,h2⟩),h3⟩,rfl⟩
theorem WT.nn {fs cs rs:List Int} {M:Int} (h:WT fs cs rs M):0≤M:=by
  rcases h with ⟨_,e⟩ | ⟨m,_,_,e⟩ <;> omega
theorem WT.low {fs cs rs:List Int} {M:Int} (h:WT fs cs rs M) (hr:∀ a∈rs,0≤a) (hf:∀ a∈fs,0≤a):(∀ a∈rs,M≤a)∧∀ (k:Nat) (f c:Int),fs[k]?=some f→cs[k]?=some c→0<c→M * c≤f:=by
  have hall:∀ a∈rs++shares fs cs,0≤a:=fun a ha=>by
    rcases List.mem_append.mp ha with z | z
    · exact hr a z
    · obtain ⟨k,f,c,h1,h2,h3,rfl⟩:=pP.mp z
      exact Int.ediv_nonneg (hf f (List.mem_of_getElem? h1)) (by omega)
  have hle:∀ a∈rs++shares fs cs,M≤a:=by
    rcases h with ⟨e,_⟩ | ⟨m,hm,hl,rfl⟩
    · intro a ha;rw [e] at ha;cases ha
    · intro a ha
      have:=hl a ha
      have:=hall m hm
      omega
  refine ⟨fun a ha=>hle a (List.mem_append_left _ ha),fun k f c h1 h2 h3=>?_⟩
  exact (Int.le_ediv_iff_mul_le h3).mp (hle _ (List.mem_append_right _ (pP.mpr ⟨k,f,c,h1,h2,h3,rfl⟩)))
end Tn
namespace Tn
structure xO (n:Nat) (F:Int→Int) (W:Nat→List Int) (day want x:Nat→Int) (Pz:Nat→Prop):Prop where
  fit:Fit n F W want x
  shown:∀ k,k<n→Pz k→x k<want k→∃ r,qT n F W day x k r
  zero:∀ k,k<n→¬ Pz k→x k=0
theorem xO.start {n:Nat} {F:Int→Int} {W:Nat→List Int} {day want:Nat→Int} (hw:∀ k,k<n→0≤want k) (hF:∀ r,(∃ k,k<n∧r∈W k)→0≤F r):xO n F W day want (fun _=>0) (fun _=>False) :=
  ⟨⟨fun _ _=>Int.le_refl _,hw,fun r hr=>by rw [jW];exact hF r hr⟩,fun _ _ z=>z.elim,fun _ _ _=>rfl⟩
def over (x:Nat→Int) (g:List Nat) (y:Nat→Int):Nat→Int:=fun k=>if k∈g then y (g.idxOf k) else x k
theorem jY {g:List Nat} {i:Nat} (h:i<g.length):g.getD i 0=g[i]:=by rw [List.getD_eq_getElem?_getD,List.getElem?_eq_getElem h];rfl
theorem eZ {g:List Nat} (h:g.Pairwise (·<·)):g.Nodup:=h.imp fun e=>Nat.ne_of_lt e
theorem vQ {g:List Nat} (h:g.Nodup) {i:Nat} (hi:i<g.length):g.idxOf g[i]=i:=by
  have h1:g.idxOf g[i]<g.length:=List.idxOf_lt_length_iff.mpr (List.getElem_mem hi)
  exact (List.getElem_inj (h₀:=h1) (h₁:=hi) h).mp (List.getElem_idxOf h1)
theorem mC {x y:Nat→Int} {g:List Nat} (h:g.Nodup) {i:Nat} (hi:i<g.length):over x g y (g.getD i 0)=y i:=by
  unfold over
  rw [jY hi,if_pos (List.getElem_mem hi),vQ h hi]
theorem jE {x y:Nat→Int} {g:List Nat} {k:Nat} (h:¬ k∈g):over x g y k=x k:=if_neg h
theorem rW {n:Nat} {W:Nat→List Int} {x y:Nat→Int} {g:List Nat} (r:Int) (hg:g.Nodup) (hn:∀ k∈g,k<n) (hz:∀ k∈g,x k=0) :
    hold n W (over x g y) r=hold n W x r + hold g.length (fun i=>W (g.getD i 0)) y r:=by
  have e:∀ k,k<n→(if r∈W k then over x g y k else 0)=(if r∈W k then x k else 0) + (if k∈g then (if r∈W k then y (g.idxOf k) else 0) else 0):=fun k _=>by
    by_cases h:k∈g
    · unfold over
      rw [if_pos h,if_pos h,hz k h]
      by_cases h2:r∈W k
      · simp [h2]
      · simp [h2]
    · rw [jE h,if_neg h];omega
  have e2:=ni (n:=n) (f:=fun k=>if r∈W k then y (g.idxOf k) else 0) hg hn
  have e3:=Bk g (fun k=>if r∈W k then y (g.idxOf k) else 0) (fun i=>if r∈W (g.getD i 0) then y i else 0) fun i a ha=>by
    obtain ⟨hi,rfl⟩:=List.getElem?_eq_some_iff.mp ha
    rw [jY hi,vQ hg hi]
  unfold hold
  rw [bO e,lB,← e2,e3]
theorem xO.step {n:Nat} {F:Int→Int} {W:Nat→List Int} {day want x y:Nat→Int} {Pz:Nat→Prop} {g:List Nat} {d:Int} (D:xO n F W day want x Pz) (hg:g.Pairwise (·<·)) (hgn:∀ k∈g,k<n∧day k=d∧¬ Pz k) (hd:∀ k,Pz k→day k<d)
    (fy:Fit g.length (fun r=>F r - hold n W x r) (fun i=>W (g.getD i 0)) (fun i=>want (g.getD i 0)) y) (sy:oW g.length (fun r=>F r - hold n W x r) (fun i=>W (g.getD i 0)) d0 (fun i=>want (g.getD i 0)) y) :
    xO n F W day want (over x g y) (fun k=>Pz k∨k∈g):=by
  have nd:=eZ hg
  have hn:∀ k∈g,k<n:=fun k hk=>(hgn k hk).1
  have hz:∀ k∈g,x k=0:=fun k hk=>D.zero k (hn k hk) (hgn k hk).2.2
  have hh:=fun r=>rW (n:=n) (W:=W) (x:=x) (y:=y) r nd hn hz
  have inv:∀ k∈g,∃ i,i<g.length∧g.getD i 0=k:=fun k hk=>by
    obtain ⟨i,hi,e⟩:=List.getElem_of_mem hk
    exact ⟨i,hi,by rw [jY hi,e]⟩
  have yn:∀ r,0≤hold g.length (fun i=>W (g.getD i 0)) y r:=fun r=>tV fun i hi=>by
    split
    · exact fy.nn i hi
    · exact Int.le_refl _
  refine ⟨⟨fun k hk=>?_,fun k hk=>?_,fun r hr=>?_⟩,fun k hk hp hl=>?_,fun k hk hp=>?_⟩
  · by_cases h:k∈g
    · obtain ⟨i,hi,rfl⟩:=inv k h
      rw [mC nd hi];exact fy.nn i hi
    · rw [jE h];exact D.fit.nn k hk
  · by_cases h:k∈g
    · obtain ⟨i,hi,rfl⟩:=inv k h
      rw [mC nd hi];exact fy.le i hi
    · rw [jE h];exact D.fit.le k hk
  · rw [hh r]
    by_cases h:∃ i,i<g.length∧r∈W (g.getD i 0)
    · have q:hold g.length (fun i=>W (g.getD i 0)) y r≤F r - hold n W x r:=fy.fits r h
      omega
    · have e:hold g.length (fun i=>W (g.getD i 0)) y r=0:=by
        unfold hold
        rw [bO (g:=fun _=>0) fun i hi=>if_neg fun z=>h ⟨i,hi,z⟩,gJ]
      have:=D.fit.fits r hr
      omega
  · by_cases h:k∈g
    · obtain ⟨i,hi,rfl⟩:=inv k h
      rw [mC nd hi] at hl
      obtain ⟨r,hr,hF,hall⟩:=sy i hi hl
      refine ⟨r,hr,?_,fun j hj hrj hpos=>?_⟩
      · have q:hold g.length (fun i=>W (g.getD i 0)) y r=F r - hold n W x r:=hF
        rw [hh r,q];omega
      · rw [mC nd hi]
        have dk:=(hgn _ h).2.1
        by_cases hj':j∈g
        · obtain ⟨i',hi',rfl⟩:=inv j hj'
          rw [mC nd hi'] at hpos ⊢
          have dj:=(hgn _ hj').2.1
          have a:=hall i' hi' hrj hpos
          rcases a with a | ⟨_,a⟩
          · exact absurd a (Int.lt_irrefl _)
          · refine .inr ⟨by rw [dk,dj],?_⟩
            rcases a with a | ⟨a,b⟩
            · exact .inl a
            · refine .inr ⟨a,?_⟩
              have hlt:i'<i:=by omega
              have:=List.pairwise_iff_getElem.mp hg i' i hi' hi hlt
              rw [jY hi,jY hi'];omega
        · rw [jE hj'] at hpos
          by_cases hpj:Pz j
          · have:=hd j hpj
            exact .inl (by rw [dk];exact this)
          · have:=D.zero j hj hpj
            omega
    · have hpk:Pz k:=hp.resolve_right h
      rw [jE h] at hl
      obtain ⟨r,hr,hF,hall⟩:=D.shown k hk hpk hl
      have none:∀ i,i<g.length→r∈W (g.getD i 0)→y i=0:=fun i hi hri=>by
        have a:hold g.length (fun i=>W (g.getD i 0)) y r≤F r - hold n W x r:=fy.fits r ⟨i,hi,hri⟩
        have b:=nJ (f:=fun i=>if r∈W (g.getD i 0) then y i else 0) hi fun j hj=>by
          show (0:Int)≤if r∈W (g.getD j 0) then y j else 0
          split
          · exact fy.nn j hj
          · exact Int.le_refl _
        have c:=fy.nn i hi
        have e:(if r∈W (g.getD i 0) then y i else 0)=y i:=if_pos hri
        have b':y i≤hold g.length (fun i=>W (g.getD i 0)) y r:=by rw [← e];exact b
        omega
      have same:∀ j,j<n→r∈W j→over x g y j=x j:=fun j hj hrj=>by
        by_cases h2:j∈g
        · obtain ⟨i,hi,rfl⟩:=inv j h2
          rw [mC nd hi,none i hi hrj,hz _ h2]
        · exact jE h2
      refine ⟨r,hr,?_,fun j hj hrj hpos=>?_⟩
      · rw [pR (y:=x) same];exact hF
      · rw [same j hj hrj] at hpos ⊢
        rw [jE h]
        exact hall j hj hrj hpos
  · have h:¬ k∈g:=fun z=>hp (.inr z)
    rw [jE h]
    exact D.zero k hk fun z=>hp (.inl z)
theorem xO.finish {n:Nat} {F:Int→Int} {W:Nat→List Int} {day want x:Nat→Int} {Pz:Nat→Prop} (D:xO n F W day want x Pz) (h:∀ k,k<n→Pz k):Fit n F W want x∧oW n F W day want x:=⟨D.fit,fun k hk hl=>D.shown k hk (h k hk) hl⟩
end Tn
namespace Tn
end Tn
namespace Tn
end Tn
namespace Tn
end Tn
namespace Tn
def fW (ws:List (List Int)):Nat→List Int:=fun k=>ws.getD k []
def fX (xs:List Int):Nat→Int:=fun k=>xs.getD k 0
def fF (fs:List Int):Int→Int:=fun r=>fs.getD r.toNat 0
def asI (gs:List Nat):List Int:=gs.map fun k:Nat=>(k:Int)
def fG (gs:List Nat):Nat→Bool:=fun k=>decide (k∈gs)
structure oY (fs:List Int) (ws:List (List Int)) (rs l xs:List Int) (gs:List Nat) (t:Int):Prop where
  ll:l.length=fs.length
  xl:xs.length=ws.length
  left:∀ r:Nat,r<fs.length→l.getD r 0=fs.getD r 0 - hold ws.length (fW ws) (fX xs) (r:Int)
  srt:gs.Pairwise (·<·)
  inv:xK ws.length (fF fs) (fW ws) (fX rs) (fX xs) (fG gs) t
theorem pU (fs:List Int) (r:Nat):fF fs (r:Int)=fs.getD r 0:=by unfold fF;rw [Int.toNat_natCast]
theorem oE {ws:List (List Int)} {k:Nat} (hk:k<ws.length):fW ws k∈ws:=by
  unfold fW
  rw [List.getD_eq_getElem?_getD,List.getElem?_eq_getElem hk];exact List.getElem_mem hk
theorem iC (n k:Nat):(List.replicate n (0:Int)).getD k 0=0:=by
  rw [List.getD_eq_getElem?_getD,List.getElem?_replicate]
  split <;> rfl
theorem oY.start {fs:List Int} {ws:List (List Int)} {rs:List Int} (hf:∀ a∈fs,0≤a) (hr:∀ a∈rs,0≤a) (hws:∀ w∈ws,WOk fs.length w):oY fs ws rs fs (List.replicate ws.length 0) (List.range ws.length) 0:=by
  have e:fX (List.replicate ws.length 0)=fun _=>0:=by
    funext k;exact iC _ _
  have g0:∀ (l:List Int) (k:Nat),(∀ a∈l,0≤a)→0≤l.getD k 0:=fun l k h=>by
    rw [List.getD_eq_getElem?_getD]
    cases hk:l[k]? with
    | none=>exact Int.le_refl _
    | some a=>exact h a (List.mem_of_getElem? hk)
  refine ⟨rfl,by simp,fun r hr=>?_,List.pairwise_lt_range,?_⟩
  · rw [e,jW];omega
  · rw [e,show fG (List.range ws.length)=fun k=>decide (k<ws.length) from by funext k;simp [fG]]
    exact xK.start (fun k _=>g0 rs k hr) fun r _=>g0 fs _ hf
theorem oY.nn {fs:List Int} {ws:List (List Int)} {rs l xs:List Int} {gs:List Nat} {t:Int} (h:oY fs ws rs l xs gs t) (hf:∀ a∈fs,0≤a):∀ a∈l,0≤a:=fun a ha=>by
  obtain ⟨r,hr,rfl⟩:=List.getElem_of_mem ha
  have hr':r<fs.length:=by rw [← h.ll];exact hr
  have e:l[r]=l.getD r 0:=by rw [List.getD_eq_getElem?_getD,List.getElem?_eq_getElem hr];rfl
  rw [e,h.left r hr']
  by_cases hx:∃ k,k<ws.length∧(r:Int)∈fW ws k
  · have:=h.inv.fit.fits r hx
    rw [pU] at this
    omega
  · have e0:hold ws.length (fW ws) (fX xs) (r:Int)=0:=by
      unfold hold
      rw [bO (g:=fun _=>0) fun k hk=>if_neg fun z=>hx ⟨k,hk,z⟩,gJ]
    have:=hf fs[r] (List.getElem_mem hr')
    have e1:fs.getD r 0=fs[r]:=by rw [List.getD_eq_getElem?_getD,List.getElem?_eq_getElem hr'];rfl
    omega
def Ba (n:Nat) (ws:List (List Int)) (gs:List Nat):List Int:=bumps (List.replicate n 0) (gs.map fun k=>(fW ws k,1))
theorem CQ {n:Nat} {ws:List (List Int)} {gs:List Nat} (hws:∀ w∈ws,WOk n w) (hg:gs.Nodup) (hn:∀ k∈gs,k<ws.length) (r:Nat):(Ba n ws gs).getD r 0=cnt ws.length (fW ws) (fG gs) (r:Int):=by
  unfold Ba
  rw [lU (fun p hp=>by
    obtain ⟨k,hk,rfl⟩:=List.mem_map.mp hp
    rw [List.length_replicate]
    exact hws _ (oE (hn k hk))) r,iC,List.map_map]
  have e:=ni (n:=ws.length) (f:=fun k=>if (r:Int)∈fW ws k then (1:Int) else 0) hg hn
  have e':((fun p:List Int × Int=>if (r:Int)∈p.1 then p.2 else 0) ∘ fun k=>(fW ws k,(1:Int)))=fun k=>if (r:Int)∈fW ws k then (1:Int) else 0:=rfl
  rw [e',e]
  unfold cnt hold fG
  rw [Int.zero_add]
  refine bO fun k _=>?_
  by_cases h1:k∈gs
  · simp [h1]
  · simp [h1]
theorem CP (n:Nat) (ws:List (List Int)) (gs:List Nat):(Ba n ws gs).length=n:=by unfold Ba;rw [jx,List.length_replicate]
def unmet (rs xs:List Int) (gs:List Nat):List Int:=gs.map fun k=>rs.getD k 0 - xs.getD k 0
theorem zP {gs:List Nat} {n:Nat} (hg:gs.Nodup) (hn:∀ k∈gs,k<n):WOk n (asI gs):=by
  refine ⟨?_,fun r hr=>?_⟩
  · unfold asI
    exact List.Pairwise.map _ (fun a b h=>by omega) hg
  · obtain ⟨k,hk,rfl⟩:=List.mem_map.mp hr
    have:=hn k hk
    omega
theorem qH {gs:List Nat} {k:Nat}:(k:Int)∈asI gs↔k∈gs:=by
  unfold asI
  rw [List.mem_map]
  constructor
  · rintro ⟨a,ha,e⟩
    have:a=k:=by omega
    rw [← this];exact ha
  · intro h;exact ⟨k,h,rfl⟩
theorem oY.going {fs:List Int} {ws:List (List Int)} {rs l xs:List Int} {gs:List Nat} {t:Int} (h:oY fs ws rs l xs gs t):∀ k∈gs,k<ws.length∧xs.getD k 0=t:=fun k hk=>h.inv.go k (by simpa [fG] using hk)
theorem oY.whole {fs:List Int} {ws:List (List Int)} {rs l xs:List Int} {gs:List Nat} {t M:Int} (h:oY fs ws rs l xs gs t) (hf:∀ a∈fs,0≤a) (hws:∀ w∈ws,WOk fs.length w) (hM:WT l (Ba fs.length ws gs) (unmet rs xs gs) M) :
    oY fs ws rs (bumps l (gs.map fun k=>(fW ws k,-M))) (bump xs (asI gs) M) gs (t + M):=by
  have nd:=eZ h.srt
  have hn:∀ k∈gs,k<ws.length:=fun k hk=>(h.going k hk).1
  have hl:=h.nn hf
  have hun:∀ a∈unmet rs xs gs,0≤a:=fun a ha=>by
    obtain ⟨k,hk,rfl⟩:=List.mem_map.mp ha
    have:fX xs k≤fX rs k:=h.inv.fit.le k (hn k hk)
    unfold fX at this
    omega
  obtain ⟨lo1,lo2⟩:=hM.low hun hl
  have ex:fX (bump xs (asI gs) M)=jump (fX xs) (fG gs) M:=by
    funext k
    show (bump xs (asI gs) M).getD k 0=if fG gs k then fX xs k + M else fX xs k
    have ok:=zP nd (n:=xs.length) fun k hk=>by rw [h.xl];exact hn k hk
    rw [lV ok.1 ok.2 k]
    by_cases hk:k∈gs
    · rw [if_pos (qH.mpr hk)];simp [fG,hk,fX]
    · rw [if_neg (fun z=>hk (qH.mp z))];simp [fG,hk,fX]
  have key:∀ r:Nat,r<fs.length→M * cnt ws.length (fW ws) (fG gs) (r:Int)≤l.getD r 0:=fun r hr=>by
    have c0:=Qf ws.length (fW ws) (fG gs) (r:Int)
    have hlr:r<l.length:=by rw [h.ll];exact hr
    have e1:l[r]?=some (l.getD r 0):=by rw [List.getD_eq_getElem?_getD,List.getElem?_eq_getElem hlr];rfl
    have hcr:r<(Ba fs.length ws gs).length:=by rw [CP];exact hr
    have e2:(Ba fs.length ws gs)[r]?=some (cnt ws.length (fW ws) (fG gs) (r:Int)):=by
      rw [← CQ hws nd hn r,List.getD_eq_getElem?_getD,List.getElem?_eq_getElem hcr];rfl
    by_cases hp:0<cnt ws.length (fW ws) (fG gs) (r:Int)
    · exact lo2 r _ _ e1 e2 hp
    · have:cnt ws.length (fW ws) (fG gs) (r:Int)=0:=by omega
      rw [this,Int.mul_zero]
      exact hl _ (List.mem_of_getElem? e1)
  refine ⟨by rw [jx];exact h.ll,by rw [iD];exact h.xl,fun r hr=>?_,h.srt,?_⟩
  · rw [lU (fun p hp=>by
      obtain ⟨k,hk,rfl⟩:=List.mem_map.mp hp
      rw [h.ll]
      exact hws _ (oE (hn k hk))) r,h.left r hr,ex,oJ,List.map_map]
    have e:=ni (n:=ws.length) (f:=fun k=>if (r:Int)∈fW ws k then -M else 0) nd hn
    have e':((fun p:List Int × Int=>if (r:Int)∈p.1 then p.2 else 0) ∘ fun k=>(fW ws k,-M))=fun k=>if (r:Int)∈fW ws k then -M else 0:=rfl
    rw [e',e]
    have e3:(je ws.length fun k=>if k∈gs then (if (r:Int)∈fW ws k then -M else 0) else 0)=-(M * cnt ws.length (fW ws) (fG gs) (r:Int)):=by
      have a:=oJ ws.length (fW ws) (fun _=>0) (fG gs) (-M) (r:Int)
      rw [jW] at a
      have b:hold ws.length (fW ws) (jump (fun _=>0) (fG gs) (-M)) (r:Int)=je ws.length fun k=>if k∈gs then (if (r:Int)∈fW ws k then -M else 0) else 0:=by
        unfold hold jump fG
        refine bO fun k _=>?_
        by_cases h1:k∈gs
        · simp [h1]
        · simp [h1]
      rw [← b,a,Int.neg_mul];omega
    rw [e3];omega
  · rw [ex]
    refine h.inv.jump hM.nn (fun k hk=>?_) fun r hr=>?_
    · have hk':k∈gs:=by simpa [fG] using hk
      have:=lo1 (rs.getD k 0 - xs.getD k 0) (List.mem_map.mpr ⟨k,hk',rfl⟩)
      unfold fX;omega
    · obtain ⟨k,hk,hr⟩:=hr
      have hw:=hws _ (oE hk)
      obtain ⟨r0,r1⟩:=hw.2 r hr
      obtain ⟨rn,rfl⟩:=Int.eq_ofNat_of_zero_le r0
      have hrn:rn<fs.length:=by omega
      have a:=key rn hrn
      rw [h.left rn hrn] at a
      rw [pU];exact a
end Tn
namespace Tn
def step1 (ws:List (List Int)) (rs:List Int) (s:List Int × List Int × List Nat) (k:Nat):List Int × List Int × List Nat :=
  if s.2.1.getD k 0<rs.getD k 0∧(fW ws k).all (fun r=>decide (0<s.1.getD r.toNat 0))=true then (bump s.1 (fW ws k) (-1),s.2.1.set k (s.2.1.getD k 0 + 1),s.2.2++[k]) else s
def gR (ws:List (List Int)) (rs:List Int) (gs:List Nat) (s:List Int × List Int × List Nat):List Int × List Int × List Nat:=gs.foldl (step1 ws rs) s
theorem pJ (ws:List (List Int)) (rs:List Int) (gs:List Nat) (k:Nat) (s:List Int × List Int × List Nat):gR ws rs (gs++[k]) s=step1 ws rs (gR ws rs gs s) k:=by
  unfold gR;rw [List.foldl_append];rfl
def rem (rs xs:List Int) (n:Nat):Int:=je n fun k=>fX rs k - fX xs k
structure Im (fs:List Int) (ws:List (List Int)) (rs:List Int) (gs:List Nat) (t S0:Int) (i:Nat) (s:List Int × List Int × List Nat):Prop where
  ll:s.1.length=fs.length
  xl:s.2.1.length=ws.length
  left:∀ r:Nat,r<fs.length→s.1.getD r 0=fs.getD r 0 - hold ws.length (fW ws) (fX s.2.1) (r:Int)
  sub:s.2.2.Sublist (gs.take i)
  sum:rem rs s.2.1 ws.length + s.2.2.length=S0
  pv:∃ p,uQ ws.length (fF fs) (fW ws) (fX rs) (fX s.2.1) (fG gs) (fG s.2.2) t p∧p≤ws.length∧(∀ j (h:j<gs.length),i≤j→p≤gs[j])∧∀ j (h:j<gs.length),j<i→gs[j]<p
theorem oY.pass {fs:List Int} {ws:List (List Int)} {rs l xs:List Int} {gs:List Nat} {t:Int} (h:oY fs ws rs l xs gs t):Im fs ws rs gs t (rem rs xs ws.length) 0 (l,xs,[]) :=
  ⟨h.ll,h.xl,h.left,by simp,by simp,0,by
    have:=h.inv.pass
    rw [show fG []=fun _=>false from by funext k;simp [fG]]
    exact this,Nat.zero_le _,fun _ _ _=>Nat.zero_le _,fun j _ hj=>absurd hj (Nat.not_lt_zero _)⟩
theorem Im.step {fs:List Int} {ws:List (List Int)} {rs:List Int} {gs:List Nat} {t S0:Int} {i:Nat} {s:List Int × List Int × List Nat} (h:Im fs ws rs gs t S0 i s) (srt:gs.Pairwise (·<·)) (hn:∀ k∈gs,k<ws.length) (hws:∀ w∈ws,WOk fs.length w) (hi:i<gs.length) :
    Im fs ws rs gs t S0 (i + 1) (step1 ws rs s gs[i]):=by
  obtain ⟨l,xs,st⟩:=s
  obtain ⟨p,P0,pn,hp1,hp2⟩:=h.pv
  have hll:l.length=fs.length:=h.ll
  have hxl:xs.length=ws.length:=h.xl
  have hleft:∀ r:Nat,r<fs.length→l.getD r 0=fs.getD r 0 - hold ws.length (fW ws) (fX xs) (r:Int):=h.left
  have hsum:rem rs xs ws.length + st.length=S0:=h.sum
  have hsub:st.Sublist (gs.take i):=h.sub
  have P0:uQ ws.length (fF fs) (fW ws) (fX rs) (fX xs) (fG gs) (fG st) t p:=P0
  have hk:gs[i]<ws.length:=hn _ (List.getElem_mem hi)
  have inc:=List.pairwise_iff_getElem.mp srt
  have P1:=P0.skip (q:=gs[i]) (hp1 i hi (Nat.le_refl _)) fun k h1 h2=>by
    cases hg:fG gs k with
    | false=>rfl
    | true =>
      exfalso
      have hm:k∈gs:=by simpa [fG] using hg
      obtain ⟨j,hj,rfl⟩:=List.getElem_of_mem hm
      by_cases hji:j<i
      · have:=hp2 j hj hji
        omega
      · by_cases e:j=i
        · subst e;omega
        · have:=inc i j hi hj (by omega)
          omega
  have hG:fG gs gs[i]=true:=by simp [fG]
  have next1:∀ j (h:j<gs.length),i + 1≤j→gs[i] + 1≤gs[j]:=fun j hj hji=>inc i j hi hj (by omega)
  have next2:∀ j (h:j<gs.length),j<i + 1→gs[j]<gs[i] + 1:=fun j hj hji=>by
    by_cases e:j=i
    · subst e;omega
    · have:=inc j i hj hi (by omega)
      omega
  have wk:=hws _ (oE hk)
  have at_:∀ r∈fW ws gs[i],fF fs r - hold ws.length (fW ws) (fX xs) r=l.getD r.toNat 0:=fun r hr=>by
    obtain ⟨r0,r1⟩:=wk.2 r hr
    obtain ⟨rn,rfl⟩:=Int.eq_ofNat_of_zero_le r0
    rw [pU,Int.toNat_natCast,hleft rn (by omega)]
  by_cases hc:xs.getD gs[i] 0<rs.getD gs[i] 0∧(fW ws gs[i]).all (fun r=>decide (0<l.getD r.toNat 0))=true
  · have e:step1 ws rs (l,xs,st) gs[i]=(bump l (fW ws gs[i]) (-1),xs.set gs[i] (xs.getD gs[i] 0 + 1),st++[gs[i]]):=if_pos hc
    rw [e]
    have ex:fX (xs.set gs[i] (xs.getD gs[i] 0 + 1))=put (fX xs) gs[i] 1:=by
      funext k
      show (xs.set gs[i] (xs.getD gs[i] 0 + 1)).getD k 0=if k=gs[i] then xs.getD k 0 + 1 else xs.getD k 0
      rw [qK (by rw [hxl];exact hk)]
      by_cases z:k=gs[i]
      · rw [if_pos z,if_pos z,z]
      · rw [if_neg z,if_neg z]
    have P2:=P1.gets hk hG (by unfold fX;exact hc.1) fun r hr=>by
      rw [at_ r hr]
      have:=List.all_eq_true.mp hc.2 r hr
      simpa using this
    refine ⟨by rw [iD];exact hll,by rw [List.length_set];exact hxl,fun r hr=>?_,?_,?_,gs[i] + 1,?_,by omega,next1,next2⟩
    · show (bump l (fW ws gs[i]) (-1)).getD r 0=fs.getD r 0 - hold ws.length (fW ws) (fX (xs.set gs[i] (xs.getD gs[i] 0 + 1))) (r:Int)
      rw [lV wk.1 (by rw [hll];exact wk.2) r,hleft r hr,ex,qJ hk]
      split <;> omega
    · show (st++[gs[i]]).Sublist (gs.take (i + 1))
      rw [List.take_add_one,List.getElem?_eq_getElem hi]
      exact hsub.append (List.Sublist.refl _)
    · show rem rs (xs.set gs[i] (xs.getD gs[i] 0 + 1)) ws.length + ((st++[gs[i]]).length:Nat)=S0
      have a:rem rs (xs.set gs[i] (xs.getD gs[i] 0 + 1)) ws.length=rem rs xs ws.length - 1:=by
        unfold rem
        rw [ex,qe,qe]
        have:je ws.length (put (fX xs) gs[i] 1)=je ws.length (fX xs) + 1:=by
          have b:∀ k,k<ws.length→put (fX xs) gs[i] 1 k=fX xs k + (if k=gs[i] then 1 else 0):=fun k _=>by
            unfold put;split <;> omega
          rw [bO b,lB,lA _ hk]
        omega
      rw [a,List.length_append,List.length_singleton]
      omega
    · show uQ ws.length (fF fs) (fW ws) (fX rs) (fX (xs.set gs[i] (xs.getD gs[i] 0 + 1))) (fG gs) (fG (st++[gs[i]])) t (gs[i] + 1)
      rw [ex,show fG (st++[gs[i]])=fun k=>if k=gs[i] then true else fG st k from by
        funext k
        by_cases z:k=gs[i]
        · simp [fG,z]
        · simp [fG,z]]
      exact P2
  · have e:step1 ws rs (l,xs,st) gs[i]=(l,xs,st):=if_neg hc
    rw [e]
    refine ⟨hll,hxl,hleft,?_,hsum,gs[i] + 1,P1.ends hk hG ?_,by omega,next1,next2⟩
    · exact hsub.trans (by rw [List.take_add_one];exact List.sublist_append_left _ _)
    · by_cases z:xs.getD gs[i] 0<rs.getD gs[i] 0
      · have hno:¬ (fW ws gs[i]).all (fun r=>decide (0<l.getD r.toNat 0))=true:=fun y=>hc ⟨z,y⟩
        refine .inr ?_
        refine Classical.byContradiction fun hx=>hno (List.all_eq_true.mpr fun r hr=>?_)
        refine decide_eq_true ?_
        refine Classical.byContradiction fun hle=>hx ⟨r,hr,?_⟩
        rw [at_ r hr];omega
      · exact .inl (by unfold fX;omega)
theorem Im.finish {fs:List Int} {ws:List (List Int)} {rs:List Int} {gs:List Nat} {t S0:Int} {s:List Int × List Int × List Nat} (h:Im fs ws rs gs t S0 gs.length s) (srt:gs.Pairwise (·<·)):oY fs ws rs s.1 s.2.1 s.2.2 (t + 1):=by
  obtain ⟨p,P0,pn,hp1,hp2⟩:=h.pv
  have P1:=P0.skip (q:=ws.length) pn fun k h1 h2=>by
    cases hg:fG gs k with
    | false=>rfl
    | true =>
      exfalso
      have hm:k∈gs:=by simpa [fG] using hg
      obtain ⟨j,hj,rfl⟩:=List.getElem_of_mem hm
      have:=hp2 j hj hj
      omega
  have hsub:=h.sub
  rw [List.take_of_length_le (Nat.le_refl _)] at hsub
  exact ⟨h.ll,h.xl,h.left,srt.sublist hsub,P1.finish⟩
theorem yc {fs:List Int} {ws:List (List Int)} {rs l xs:List Int} {gs:List Nat} {t:Int} (h:oY fs ws rs l xs gs t) (hws:∀ w∈ws,WOk fs.length w):∀ i,i≤gs.length→Im fs ws rs gs t (rem rs xs ws.length) i (gR ws rs (gs.take i) (l,xs,[])):=by
  intro i
  induction i with
  | zero=>intro _;exact h.pass
  | succ i ih =>
    intro hi
    rw [List.take_add_one,List.getElem?_eq_getElem (by omega:i<gs.length)]
    show Im fs ws rs gs t _ (i + 1) (gR ws rs (gs.take i++[gs[i]]) (l,xs,[]))
    rw [pJ]
    exact (ih (by omega)).step h.srt (fun k hk=>(h.going k hk).1) hws (by omega)
theorem oY.one {fs:List Int} {ws:List (List Int)} {rs l xs:List Int} {gs:List Nat} {t:Int} (h:oY fs ws rs l xs gs t) (hws:∀ w∈ws,WOk fs.length w) :
    oY fs ws rs (gR ws rs gs (l,xs,[])).1 (gR ws rs gs (l,xs,[])).2.1 (gR ws rs gs (l,xs,[])).2.2 (t + 1)∧rem rs (gR ws rs gs (l,xs,[])).2.1 ws.length + ((gR ws rs gs (l,xs,[])).2.2.length:Nat)=rem rs xs ws.length:=by
  have q:=yc h hws gs.length (Nat.le_refl _)
  rw [List.take_of_length_le (Nat.le_refl _)] at q
  exact ⟨q.finish h.srt,q.sum⟩
theorem oY.Dr {fs:List Int} {ws:List (List Int)} {rs l xs:List Int} {gs:List Nat} {t:Int} (h:oY fs ws rs l xs gs t):0≤rem rs xs ws.length:=tV fun k hk=>by
  have:=h.inv.fit.le k hk
  omega
theorem yO {fs:List Int} {ws:List (List Int)} {rs l xs:List Int} {gs:List Nat} {t M:Int} (h:oY fs ws rs l xs gs t) (hM:0≤M):rem rs (bump xs (asI gs) M) ws.length≤rem rs xs ws.length:=by
  refine nM fun k hk=>?_
  have ok:=zP (eZ h.srt) (n:=xs.length) fun k hk=>by rw [h.xl];exact (h.going k hk).1
  have:fX (bump xs (asI gs) M) k=fX xs k + (if (k:Int)∈asI gs then M else 0):=lV ok.1 ok.2 k
  rw [this]
  split <;> omega
end Tn
namespace Tn
theorem WOk.len {n:Nat} {w:List Int} (h:WOk n w):w.length≤n:=by
  have:=List.Nodup.length_le_of_subset (l₂:=asI (List.range n)) h.1 fun r hr=>by
    obtain ⟨r0,r1⟩:=h.2 r hr
    obtain ⟨k,rfl⟩:=Int.eq_ofNat_of_zero_le r0
    exact qH.mpr (List.mem_range.mpr (by omega))
  simpa [asI] using this
theorem vd (r:Int):∀ ws:List (List Int),((ws.map fun w=>(w,(1:Int))).map fun p=>if r∈p.1 then p.2 else 0).sum≤(ws.length:Int)
  | []=>by simp
  | w :: ws=>by
    have:=vd r ws
    simp only [List.map_cons,List.sum_cons,List.length_cons]
    split <;> omega
theorem cw_bound {n:Nat} {ws:List (List Int)} (hws:∀ w∈ws,WOk n w):∀ c∈bumps (List.replicate n 0) (ws.map fun w=>(w,(1:Int))),c≤(ws.length:Int):=fun c hc=>by
  obtain ⟨k,hk,rfl⟩:=List.getElem_of_mem hc
  have e:(bumps (List.replicate n 0) (ws.map fun w=>(w,(1:Int))))[k]=(bumps (List.replicate n 0) (ws.map fun w=>(w,(1:Int)))).getD k 0:=by
    rw [List.getD_eq_getElem?_getD,List.getElem?_eq_getElem hk];rfl
  rw [e,lU (fun p hp=>by
    obtain ⟨w,hw,rfl⟩:=List.mem_map.mp hp
    rw [List.length_replicate];exact hws w hw) k,iC]
  have:=vd (k:Int) ws
  omega
theorem tY {fs cs:List Int} {i:Nat} {f c:Int} (hf:fs[i]?=some f) (hc:cs[i]?=some c):shares (fs.take (i + 1)) (cs.take (i + 1))=shares (fs.take i) (cs.take i)++(if 0<c then [f / c] else []):=by
  have l1:=(List.getElem?_eq_some_iff.mp hf).1
  have l2:=(List.getElem?_eq_some_iff.mp hc).1
  unfold shares
  rw [List.take_add_one,List.take_add_one,hf,hc,List.zip_append (by rw [List.length_take,List.length_take];omega),List.filter_append,List.map_append]
  congr 1
  by_cases h:0<c
  · simp [h]
  · simp [h]
theorem jc {gs:List Nat} {i:Nat} {z:Int} (h:(asI gs)[i]?=some z):∃ k:Nat,gs[i]?=some k∧z=(k:Int):=by
  unfold asI at h
  rw [List.getElem?_map] at h
  cases e:gs[i]? with
  | none=>rw [e] at h;cases h
  | some k=>rw [e] at h;exact ⟨k,rfl,(Option.some.inj h).symm⟩
theorem rT (gs:List Nat) (i:Nat):(asI gs).take i=asI (gs.take i):=by unfold asI;rw [List.map_take]
theorem jk (gs:List Nat):(asI gs).length=gs.length:=by unfold asI;rw [List.length_map]
theorem wG {rs xs:List Int} {gs:List Nat} {i k:Nat} (h:gs[i]?=some k):unmet rs xs (gs.take (i + 1))=unmet rs xs (gs.take i)++[rs.getD k 0 - xs.getD k 0]:=by
  unfold unmet;rw [List.take_add_one,h,List.map_append];rfl
theorem gw {α β:Type} {f:α→β} {gs:List α} {i:Nat} {k:α} (h:gs[i]?=some k):(gs.take (i + 1)).map f=(gs.take i).map f++[f k]:=by
  rw [List.take_add_one,h,List.map_append];rfl
theorem iT {α:Type} {gs:List α} {i:Nat} {k:α} (h:gs[i]?=some k):gs.take (i + 1)=gs.take i++[k]:=by
  rw [List.take_add_one,h];rfl
theorem wJ {ws:List (List Int)} {rs:List Int} {gs:List Nat} {i k:Nat} {s:List Int × List Int × List Nat} (h:gs[i]?=some k):gR ws rs (gs.take (i + 1)) s=step1 ws rs (gR ws rs (gs.take i) s) k:=by
  rw [iT h];exact pJ _ _ _ _ _
theorem yu (ws:List (List Int)) (rs:List Int) (s:List Int × List Int × List Nat) (k:Nat):(step1 ws rs s k).1.length=s.1.length∧(step1 ws rs s k).2.1.length=s.2.1.length∧(step1 ws rs s k).2.2.length≤s.2.2.length + 1:=by
  unfold step1
  split
  · exact ⟨iD _ _ _,List.length_set,by simp⟩
  · exact ⟨rfl,rfl,by omega⟩
theorem rB (ws:List (List Int)) (rs:List Int):∀ (gs:List Nat) (s:List Int × List Int × List Nat),(gR ws rs gs s).1.length=s.1.length∧(gR ws rs gs s).2.1.length=s.2.1.length∧(gR ws rs gs s).2.2.length≤s.2.2.length + gs.length
  | [],s=>⟨rfl,rfl,by simp [gR]⟩
  | k :: gs,s=>by
    have a:=yu ws rs s k
    have b:=rB ws rs gs (step1 ws rs s k)
    have e:gR ws rs (k :: gs) s=gR ws rs gs (step1 ws rs s k):=rfl
    rw [e]
    refine ⟨by rw [b.1,a.1],by rw [b.2.1,a.2.1],?_⟩
    have:=b.2.2
    rw [List.length_cons];omega
end Tn
namespace Tn
end Tn
namespace Tn
end Tn
namespace Tn
structure Grp (day:Nat→Int) (q:List Nat) (gs:List (Int × List Nat)):Prop where
  flat:(gs.map (·.2)).flatten=q
  ord:(gs.map (·.1)).Pairwise (·<·)
  grp:∀ g∈gs,g.2≠[]∧∀ k∈g.2,day k=g.1
theorem Grp.start (day:Nat→Int):Grp day [] []:=⟨rfl,.nil,fun _ h=>nomatch h⟩
theorem Grp.mem {day:Nat→Int} {q:List Nat} {gs:List (Int × List Nat)} (h:Grp day q gs) {g:Int × List Nat} (hg:g∈gs):∃ k∈q,day k=g.1:=by
  obtain ⟨h1,h2⟩:=h.grp g hg
  cases e:g.2 with
  | nil=>exact absurd e h1
  | cons k r =>
    refine ⟨k,?_,h2 k (by rw [e];exact List.mem_cons_self)⟩
    rw [← h.flat]
    exact List.mem_flatten.mpr ⟨g.2,List.mem_map_of_mem hg,by rw [e];exact List.mem_cons_self⟩
theorem Grp.new {day:Nat→Int} {q:List Nat} {gs:List (Int × List Nat)} {k:Nat} (h:Grp day q gs) (hn:∀ g∈gs,g.1≠day k) (hq:∀ j∈q,day j≤day k):Grp day (q++[k]) (gs++[(day k,[k])]):=by
  refine ⟨?_,?_,fun g hg=>?_⟩
  · rw [List.map_append,List.flatten_append,h.flat];rfl
  · rw [List.map_append,List.pairwise_append]
    refine ⟨h.ord,by simp,fun a ha b hb=>?_⟩
    obtain ⟨g,hg,rfl⟩:=List.mem_map.mp ha
    have hb:b=day k:=by simpa using hb
    subst hb
    obtain ⟨j,hj,e⟩:=h.mem hg
    have:=hq j hj
    have:=hn g hg
    omega
  · rcases List.mem_append.mp hg with e | e
    · exact h.grp g e
    · have:g=(day k,[k]):=by simpa using e
      subst this
      exact ⟨by simp,fun j hj=>by
        have:j=k:=by simpa using hj
        rw [this]⟩
theorem Grp.last {day:Nat→Int} {q:List Nat} {gs:List (Int × List Nat)} {k j:Nat} {g:Int × List Nat} (h:Grp day q gs) (hj:gs[j]?=some g) (hk:g.1=day k) (hq:∀ j∈q,day j≤day k):gs=gs.take j++[g]:=by
  obtain ⟨hl,e⟩:=List.getElem?_eq_some_iff.mp hj
  have hlen:gs.length=j + 1:=by
    refine Nat.le_antisymm (Nat.le_of_not_lt fun hlt=>?_) hl
    have ord:=List.pairwise_iff_getElem.mp h.ord j (j + 1) (by rw [List.length_map];exact hl) (by rw [List.length_map];exact hlt) (by omega)
    rw [List.getElem_map,List.getElem_map,e] at ord
    obtain ⟨i,hi,ei⟩:=h.mem (List.getElem_mem (l:=gs) (n:=j + 1) hlt)
    have:=hq i hi
    omega
  have:gs.take (j + 1)=gs.take j++[g]:=iT hj
  rw [← this,List.take_of_length_le (by omega)]
theorem Grp.more {day:Nat→Int} {q:List Nat} {gs:List (Int × List Nat)} {k j:Nat} {g:Int × List Nat} (h:Grp day q gs) (hj:gs[j]?=some g) (hk:g.1=day k) (hq:∀ j∈q,day j≤day k):Grp day (q++[k]) (gs.set j (g.1,g.2++[k])):=by
  have e:=h.last hj hk hq
  have hl:=(List.getElem?_eq_some_iff.mp hj).1
  have es:gs.set j (g.1,g.2++[k])=gs.take j++[(g.1,g.2++[k])]:=by
    conv=>lhs;rw [e]
    have:(gs.take j).length=j:=by rw [List.length_take];omega
    rw [List.set_append,if_neg (by omega),this,Nat.sub_self];rfl
  have hf:=h.flat
  have ho:=h.ord
  rw [e] at hf ho
  rw [List.map_append,List.flatten_append] at hf
  rw [List.map_append] at ho
  rw [es]
  refine ⟨?_,?_,fun g' hg'=>?_⟩
  · rw [List.map_append,List.flatten_append,← hf];simp
  · rw [List.map_append];exact ho
  · rcases List.mem_append.mp hg' with e' | e'
    · exact h.grp g' (List.mem_of_mem_take e')
    · have:g'=(g.1,g.2++[k]):=by simpa using e'
      subst this
      refine ⟨by simp,fun i hi=>?_⟩
      rcases List.mem_append.mp hi with z | z
      · exact (h.grp g (List.mem_of_getElem? hj)).2 i z
      · have:i=k:=by simpa using z
        rw [this,hk]
structure Rk (day:Nat→Int) (n:Nat) (p:List Nat):Prop where
  perm:p.Perm (List.range n)
  ord:p.Pairwise fun i j=>day i<day j∨day i=day j∧i<j
theorem Rk.len {day:Nat→Int} {n:Nat} {p:List Nat} (h:Rk day n p):p.length=n:=by rw [h.perm.length_eq,List.length_range]
theorem Rk.lt {day:Nat→Int} {n:Nat} {p:List Nat} (h:Rk day n p) {j:Nat} (hj:j∈p):j<n:=List.mem_range.mp (h.perm.mem_iff.mp hj)
theorem Rk.before {day:Nat→Int} {n:Nat} {p:List Nat} (h:Rk day n p) {i k:Nat} (hi:p[i]?=some k):∀ j∈p.take i,day j≤day k:=fun j hj=>by
  obtain ⟨hl,e⟩:=List.getElem?_eq_some_iff.mp hi
  obtain ⟨m,hm,em⟩:=List.getElem_of_mem hj
  rw [List.length_take] at hm
  rw [List.getElem_take] at em
  have:=List.pairwise_iff_getElem.mp h.ord m i (by omega) hl (by omega)
  rw [em,e] at this
  omega
theorem nu {α:Type}:∀ {L:List (List α)} {g:List α},g∈L→g.Sublist L.flatten
  | [],_,h=>nomatch h
  | x :: L,g,h=>by
    rw [List.flatten_cons]
    rcases List.mem_cons.mp h with e | e
    · rw [e];exact List.sublist_append_left _ _
    · exact (nu e).trans (List.sublist_append_right _ _)
theorem Grp.up {day:Nat→Int} {n:Nat} {p:List Nat} {gs:List (Int × List Nat)} (h:Grp day p gs) (r:Rk day n p) {g:Int × List Nat} (hg:g∈gs):g.2.Pairwise (·<·):=by
  have hs:g.2.Sublist p:=by rw [← h.flat];exact nu (List.mem_map_of_mem hg)
  have:=r.ord.sublist hs
  refine List.Pairwise.imp_of_mem (fun {a b} ha hb hab=>?_) this
  have ea:=(h.grp g hg).2 a ha
  have eb:=(h.grp g hg).2 b hb
  omega
def inG (gs:List (Int × List Nat)) (j:Nat) (k:Nat):Prop:=∃ g∈gs.take j,k∈g.2
theorem Cp (gs:List (Int × List Nat)) (k:Nat):¬ inG gs 0 k:=fun ⟨_,h,_⟩=>by simp at h
theorem Cq {gs:List (Int × List Nat)} {j:Nat} {g:Int × List Nat} (h:gs[j]?=some g) (k:Nat):inG gs (j + 1) k↔inG gs j k∨k∈g.2:=by
  unfold inG
  rw [iT h]
  constructor
  · rintro ⟨g',h1,h2⟩
    rcases List.mem_append.mp h1 with e | e
    · exact .inl ⟨g',e,h2⟩
    · have:g'=g:=by simpa using e
      rw [this] at h2;exact .inr h2
  · rintro (⟨g',h1,h2⟩ | h)
    · exact ⟨g',List.mem_append_left _ h1,h2⟩
    · exact ⟨g,List.mem_append_right _ (by simp),h⟩
theorem Grp.all {day:Nat→Int} {n:Nat} {p:List Nat} {gs:List (Int × List Nat)} (h:Grp day p gs) (r:Rk day n p) {k:Nat} (hk:k<n):inG gs gs.length k:=by
  have hm:k∈p:=r.perm.mem_iff.mpr (List.mem_range.mpr hk)
  rw [← h.flat] at hm
  obtain ⟨l,hl,hkl⟩:=List.mem_flatten.mp hm
  obtain ⟨g,hg,rfl⟩:=List.mem_map.mp hl
  exact ⟨g,by rw [List.take_length];exact hg,hkl⟩
theorem Grp.later {day:Nat→Int} {p:List Nat} {gs:List (Int × List Nat)} (h:Grp day p gs) {j:Nat} {g:Int × List Nat} (hj:gs[j]?=some g) {k:Nat} (hk:inG gs j k):day k<g.1:=by
  obtain ⟨g',h1,h2⟩:=hk
  obtain ⟨hl,e⟩:=List.getElem?_eq_some_iff.mp hj
  obtain ⟨m,hm,em⟩:=List.getElem_of_mem h1
  rw [List.length_take] at hm
  rw [List.getElem_take] at em
  have ord:=List.pairwise_iff_getElem.mp h.ord m j (by rw [List.length_map];omega) (by rw [List.length_map];exact hl) (by omega)
  rw [List.getElem_map,List.getElem_map,e,em] at ord
  rw [(h.grp g' (List.mem_of_mem_take h1)).2 k h2];exact ord
end Tn
namespace Tn
theorem jX {n:Nat} {W W':Nat→List Int} {x x':Nat→Int} (hW:∀ k,k<n→W k=W' k) (hx:∀ k,k<n→x k=x' k) (r:Int):hold n W x r=hold n W' x' r :=
  bO fun k hk=>by rw [hW k hk,hx k hk]
theorem Fit.uJ {n:Nat} {F F':Int→Int} {W W':Nat→List Int} {want want' x x':Nat→Int} (h:Fit n F W want x) (hW:∀ k,k<n→W k=W' k) (hw:∀ k,k<n→want k=want' k) (hx:∀ k,k<n→x k=x' k) (hF:∀ r,(∃ k,k<n∧r∈W k)→F r=F' r):Fit n F' W' want' x':=by
  refine ⟨fun k hk=>by rw [← hx k hk];exact h.nn k hk,fun k hk=>by rw [← hx k hk,← hw k hk];exact h.le k hk,fun r hr=>?_⟩
  obtain ⟨k,hk,hm⟩:=hr
  have hr:∃ k,k<n∧r∈W k:=⟨k,hk,by rw [hW k hk];exact hm⟩
  rw [← jX hW hx r,← hF r hr]
  exact h.fits r hr
theorem oW.uJ {n:Nat} {F F':Int→Int} {W W':Nat→List Int} {day want want' x x':Nat→Int} (h:oW n F W day want x) (hW:∀ k,k<n→W k=W' k) (hw:∀ k,k<n→want k=want' k) (hx:∀ k,k<n→x k=x' k) (hF:∀ r,(∃ k,k<n∧r∈W k)→F r=F' r):oW n F' W' day want' x':=by
  intro k hk hl
  rw [← hx k hk,← hw k hk] at hl
  obtain ⟨r,h1,h2,h3⟩:=h k hk hl
  refine ⟨r,by rw [← hW k hk];exact h1,by rw [← jX hW hx r,← hF r ⟨k,hk,h1⟩];exact h2,fun j hj hr hp=>?_⟩
  rw [← hx j hj,← hx k hk]
  exact h3 j hj (by rw [hW j hj];exact hr) (by rw [hx j hj];exact hp)
theorem xO.uJ {n:Nat} {F:Int→Int} {W:Nat→List Int} {day want x x':Nat→Int} {Pz Pz':Nat→Prop} (D:xO n F W day want x Pz) (hx:∀ k,x k=x' k) (hP:∀ k,Pz k↔Pz' k):xO n F W day want x' Pz':=by
  have e:x=x':=funext hx
  have e':Pz=Pz':=funext fun k=>propext (hP k)
  rw [← e,← e'];exact D
structure xM (n:Nat) (fs:List Int) (W:Nat→List Int) (day want:Nat→Int) (gs:List (Int × List Nat)) (j:Nat) (xs fl:List Int):Prop where
  xl:xs.length=n
  fll:fl.length=fs.length
  left:∀ i:Nat,i<fs.length→fl.getD i 0=fs.getD i 0 - hold n W (fX xs) (i:Int)
  inv:xO n (fF fs) W day want (fX xs) (inG gs j)
theorem rO {fs:List Int} {a:Int} (h:a∈fs):∃ i,i<fs.length∧fs.getD i 0=a:=by
  obtain ⟨i,hi,e⟩:=List.getElem_of_mem h
  exact ⟨i,hi,by rw [List.getD_eq_getElem?_getD,List.getElem?_eq_getElem hi];exact e⟩
theorem lO {fs:List Int} {i:Nat} (h:i<fs.length):fs.getD i 0∈fs:=by
  rw [List.getD_eq_getElem?_getD,List.getElem?_eq_getElem h];exact List.getElem_mem h
theorem SM {fs:List Int} (hf:∀ a∈fs,0≤a) (r:Int):0≤fF fs r:=by
  unfold fF
  by_cases h:r.toNat<fs.length
  · exact hf _ (lO h)
  · rw [List.getD_eq_getElem?_getD,List.getElem?_eq_none (by omega)];exact Int.le_refl _
theorem xM.start {n:Nat} {fs:List Int} {W:Nat→List Int} {day want:Nat→Int} (gs:List (Int × List Nat)) (hw:∀ k,k<n→0≤want k) (hf:∀ a∈fs,0≤a):xM n fs W day want gs 0 (List.replicate n 0) fs:=by
  have e:∀ k,fX (List.replicate n 0) k=0:=fun k=>iC n k
  refine ⟨by simp,rfl,fun i _=>?_,?_⟩
  · have:hold n W (fX (List.replicate n 0)) (i:Int)=0:=by
      rw [jX (W':=W) (x':=fun _=>0) (fun _ _=>rfl) (fun k _=>e k),jW]
    omega
  · exact (xO.start (day:=day) hw fun r _=>SM hf r).uJ (fun k=>(e k).symm) fun k=>⟨fun z=>z.elim,fun z=>absurd z (Cp gs k)⟩
theorem rY {n:Nat} {W:Nat→List Int} {x:Nat→Int} {r:Int} (h:¬ ∃ k,k<n∧r∈W k):hold n W x r=0:=by
  unfold hold
  rw [bO (g:=fun _=>0) fun k hk=>if_neg fun z=>h ⟨k,hk,z⟩,gJ]
theorem xM.nn {n:Nat} {fs:List Int} {W:Nat→List Int} {day want:Nat→Int} {gs:List (Int × List Nat)} {j:Nat} {xs fl:List Int} (h:xM n fs W day want gs j xs fl) (hf:∀ a∈fs,0≤a):∀ a∈fl,0≤a:=fun a ha=>by
  obtain ⟨i,hi,rfl⟩:=rO ha
  rw [h.fll] at hi
  rw [h.left i hi]
  by_cases hw:∃ k,k<n∧(i:Int)∈W k
  · have:=h.inv.fit.fits (i:Int) hw
    rw [pU] at this
    omega
  · rw [rY hw]
    have:=hf _ (lO hi)
    omega
theorem xM.step {n:Nat} {fs:List Int} {W:Nat→List Int} {day want:Nat→Int} {gs:List (Int × List Nat)} {j:Nat} {xs fl ys left cur:List Int} {q:List Nat} {t:Int} {g:Int × List Nat} (h:xM n fs W day want gs j xs fl) (G:Grp day q gs) (R:Rk day n q) (hj:gs[j]?=some g)
    (hW:∀ k,k<n→WOk fs.length (W k)) (L:oY fl (g.2.map W) (g.2.map want) left ys [] t) (hcl:cur.length=n) (hc:∀ k,fX cur k=over (fX xs) g.2 (fX ys) k):xM n fs W day want gs (j + 1) cur left:=by
  have hgm:=List.mem_of_getElem? hj
  have up:=G.up R hgm
  have nd:=eZ up
  have hlt:∀ k∈g.2,k<n:=fun k hk=>R.lt (by rw [← G.flat];exact List.mem_flatten.mpr ⟨g.2,List.mem_map_of_mem hgm,hk⟩)
  have hn:∀ k∈g.2,¬ inG gs j k:=fun k hk z=>by
    have:=G.later hj z
    have:=(G.grp g hgm).2 k hk
    omega
  have hz:∀ k∈g.2,fX xs k=0:=fun k hk=>h.inv.zero k (hlt k hk) (hn k hk)
  have hlen:(g.2.map W).length=g.2.length:=List.length_map _
  have eW:∀ i,i<(g.2.map W).length→fW (g.2.map W) i=W (g.2.getD i 0):=fun i hi=>by
    rw [hlen] at hi
    unfold fW
    rw [List.getD_eq_getElem?_getD,List.getElem?_map,List.getElem?_eq_getElem hi,jY hi];rfl
  have ew:∀ i,i<(g.2.map W).length→fX (g.2.map want) i=want (g.2.getD i 0):=fun i hi=>by
    rw [hlen] at hi
    unfold fX
    rw [List.getD_eq_getElem?_getD,List.getElem?_map,List.getElem?_eq_getElem hi,jY hi];rfl
  have eF:∀ r,(∃ k,k<(g.2.map W).length∧r∈fW (g.2.map W) k)→fF fl r=fF fs r - hold n W (fX xs) r:=fun r hr=>by
    obtain ⟨i,hi,hm⟩:=hr
    rw [eW i hi] at hm
    have hk:g.2.getD i 0<n:=hlt _ (by rw [jY (by omega)];exact List.getElem_mem (by omega))
    obtain ⟨r0,r1⟩:=(hW _ hk).2 r hm
    obtain ⟨rn,rfl⟩:=Int.eq_ofNat_of_zero_le r0
    rw [pU,pU]
    exact h.left rn (by omega)
  obtain ⟨fy,sy⟩:=L.inv.finish fun k _=>by simp [fG]
  have fy:=fy.uJ eW ew (x':=fX ys) (fun _ _=>rfl) eF
  have sy:=sy.uJ eW ew (x':=fX ys) (fun _ _=>rfl) eF
  rw [hlen] at fy sy
  have st:=h.inv.step up (d:=g.1) (fun k hk=>⟨hlt k hk,(G.grp g hgm).2 k hk,hn k hk⟩) (fun k hk=>G.later hj hk) fy sy
  refine ⟨hcl,by rw [L.ll,h.fll],fun i hi=>?_,st.uJ (fun k=>(hc k).symm) fun k=>(Cq hj k).symm⟩
  rw [L.left i (by rw [h.fll];exact hi),h.left i hi,jX (W':=W) (x':=over (fX xs) g.2 (fX ys)) (fun _ _=>rfl) (fun k _=>hc k) (i:Int),rW (i:Int) nd hlt hz,jX (x':=fX ys) eW (fun _ _=>rfl) (i:Int),hlen]
  omega
theorem xM.finish {n:Nat} {fs:List Int} {W:Nat→List Int} {day want:Nat→Int} {gs:List (Int × List Nat)} {xs fl:List Int} {q:List Nat} (h:xM n fs W day want gs gs.length xs fl) (G:Grp day q gs) (R:Rk day n q):Fit n (fF fs) W want (fX xs)∧oW n (fF fs) W day want (fX xs) :=
  h.inv.finish fun k hk=>G.all R hk
theorem yW {x y:Nat→Int} {g:List Nat} {i m:Nat} (nd:g.Nodup) (h:g[i]?=some m) (k:Nat):over x (g.take (i + 1)) y k=if k=m then y i else over x (g.take i) y k:=by
  obtain ⟨hi,e⟩:=List.getElem?_eq_some_iff.mp h
  have hm:¬ m∈g.take i:=fun z=>by
    obtain ⟨a,ha,ea⟩:=List.getElem_of_mem z
    rw [List.length_take] at ha
    rw [List.getElem_take] at ea
    have:=(List.getElem_inj nd).mp (ea.trans e.symm)
    omega
  unfold over
  rw [iT h]
  by_cases hk:k=m
  · subst hk
    rw [if_pos rfl,if_pos (by simp),List.idxOf_append,if_neg hm,List.length_take]
    simp
    congr 1
    omega
  · rw [if_neg hk]
    by_cases hb:k∈g.take i
    · rw [if_pos (by simp [hb]),if_pos hb,List.idxOf_append,if_pos hb]
    · rw [if_neg (by simp [hb,hk]),if_neg hb]
end Tn
namespace Rv
theorem qg {r:List Int} (h:eX r) {p b:Int} (h0:0≤p) (h1:p<r.length):Tn.WOk r.length (eN r p b):=⟨Bl h h0 h1,fun q hq=>uV h p h0 h1 q (yt hq)⟩
end Rv
namespace Rv
end Rv
namespace Tn
end Tn
namespace Rv
theorem zX {r s:List Int} {t:Int} (h0:0≤t) (h1:t<r.length):Tn.fF (nats r s) t=nj r s t:=by
  unfold Tn.fF nats
  rw [List.getD_eq_getElem?_getD,List.getElem?_map,List.getElem?_range (by omega)]
  show nj r s (t.toNat:Int)=_
  rw [Int.toNat_of_nonneg h0]
end Rv
namespace Tn
end Tn
namespace Tn
end Tn
namespace Rv
end Rv
namespace Tn
end Tn
namespace Rv
end Rv
namespace Tn
end Tn
namespace Rv
end Rv
namespace My
open PySem L2
local macro_rules | `(tactic| walk_at "new") => `(tactic| (generalize hE : upd _ _ _ = Hn; have On := Ow.mkE (by assumption) (by assumption) hE rfl; clear hE; revert On; revert Hn))
local macro_rules | `(tactic| walk_at "put") => `(tactic| (generalize hE : upd _ _ _ = Hn; (first | have On := Ow.ug (by assumption) 0 rfl hE rfl | have On := Ow.ug (by assumption) 1 rfl hE rfl | have On := Ow.ug (by assumption) 2 rfl hE rfl | have On := Ow.ug (by assumption) 3 rfl hE rfl | have On := Ow.ug (by assumption) 4 rfl hE rfl | have On := Ow.ug (by assumption) 5 rfl hE rfl); clear hE; (try simp only [List.set_cons_zero, List.set_cons_succ] at On); revert On; revert Hn))
set_option hygiene false
local macro_rules | `(tactic| walk_at "get") => `(tactic| first | assumption | exact O.get 0 | exact O.get 1 | exact O.get 2 | exact O.get 3 | exact O.get 4 | exact O.get 5 | exact O.get 6 | exact O.get 7 | exact O.get 8 | exact O.get 9 | exact O.get 10 | exact O.get 11 | exact O.get 12 | fail)
local macro_rules | `(tactic| walk_at "sq") => `(tactic| first | assumption | exact O.sq 0 | exact O.sq 1 | exact O.sq 2 | exact O.sq 3 | exact O.sq 4 | exact O.sq 5 | exact O.sq 6 | exact O.sq 7 | exact O.sq 8 | exact O.sq 9 | exact O.sq 10 | exact O.sq 11 | exact O.sq 12 | exact SqL.mo (by assumption) O.same | exact SqL.mo (by assumption) (s0.trans O.same) | fail)
local macro_rules | `(tactic| walk_at "sqT") => `(tactic| first | assumption | exact O.sqT 0 | exact O.sqT 1 | exact O.sqT 2 | exact O.sqT 3 | exact O.sqT 4 | exact O.sqT 5 | exact O.sqT 6 | exact O.sqT 7 | exact SqT.mo (by assumption) O.same | exact SqT.mo (by assumption) (s0.trans O.same) | fail)
local macro_rules | `(tactic| walk_at "at") => `(tactic| first | rfl | exact bx (by assumption) | exact bW (by assumption) | exact iB (by omega) (by omega) | exact lastV _ _ | exact oH (by omega) | exact iB (ns := [_, _]) (by omega) (by simp only [List.length_cons, List.length_nil]; omega) | exact iB (ns := [_, _, _]) (by omega) (by simp only [List.length_cons, List.length_nil]; omega) | exact iB (ns := [_, _, _, _]) (by omega) (by simp only [List.length_cons, List.length_nil]; omega) | exact iB (ns := [_, _, _, _, _]) (by omega) (by simp only [List.length_cons, List.length_nil]; omega) | exact iB (ns := [_, _, _, _, _, _]) (by omega) (by simp only [List.length_cons, List.length_nil]; omega) | exact iB (ns := [_, _, _, _, _, _, _]) (by omega) (by simp only [List.length_cons, List.length_nil]; omega) | exact iB (ns := [_, _, _, _, _, _, _, _]) (by omega) (by simp only [List.length_cons, List.length_nil]; omega) | fail)
local macro_rules | `(tactic| walk_at "c") => `(tactic| first | omega | (simp only [List.length_map]; omega) | exact szl | (show (0 : Int) < _; decide) | (show (0 : Int) < _; omega) | exact ⟨by decide, by decide⟩ | exact .inl ⟨by decide, by decide⟩ | exact .inr ⟨by decide, by decide⟩ | exact ⟨by decide, by decide, by decide⟩ | exact .inl ⟨by omega, by omega⟩ | exact .inr ⟨by omega, by omega⟩ | exact ⟨by omega, by omega⟩ | (split <;> omega) | fail)
local macro_rules | `(tactic| walk_at "ty") => `(tactic| first | exact .int _ | exact .bl _ | exact .lst (by walk_at "get") | exact .tup (by walk_at "get") | exact .non | fail)
local macro_rules | `(tactic| walk_at "kit") => `(tactic| first | exact DK K | exact DN K | exact DG K | exact kit_bb K | exact kit_bi K | exact Dz K | fail)
local macro_rules | `(tactic| walk_at "sz") => `(tactic| exact aY (by (try simp only [List.length_map, List.length_append, List.length_cons, List.length_nil]); omega))
local macro_rules | `(tactic| walk_at "s") => `(tactic| first | refine Qm ?_ | refine ⟨_, rfl, ?_⟩ | refine ⟨_, _, rfl, rfl, ?_⟩ | refine And.intro rfl ?_ | refine And.intro (by walk_at "c") ?_ | refine ⟨_, _, _, _, rfl, rfl, (show SqL _ _ _ _ by walk_at "sq"), (show atI _ _ = some _ by walk_at "at"), ?_⟩ | refine ⟨_, _, _, _, rfl, rfl, (show SqT _ _ _ _ by walk_at "sqT"), (show atI _ _ = some _ by walk_at "at"), ?_⟩ | refine ⟨_, _, rfl, .inl (show SqL _ _ _ _ by walk_at "sq"), ?_⟩ | refine ⟨_, _, rfl, .inr (show SqT _ _ _ _ by walk_at "sqT"), ?_⟩ | refine ⟨_, _, rfl, (show SqL _ _ _ _ by walk_at "sq"), ?_⟩ | refine And.intro ⟨_, (show SqL _ _ _ _ by walk_at "sq")⟩ ?_ | refine And.intro (.inl ⟨rfl, _, (show SqL _ _ _ _ by walk_at "sq")⟩) ?_ | refine ⟨_, _, _, _, rfl, (show wu _ _ _ _ by walk_at "ty"), (show PySem.W.kitOne _ _ _ = some _ by walk_at "kit"), ?_⟩ | refine ⟨_, _, rfl, ?_⟩ | fail)
local macro_rules | `(tactic| walk_at "w") => `(tactic| repeat walk_at "s")
local macro_rules | `(tactic| walk_at "if") => `(tactic| first | refine Cm ?_ | refine xJ ?_ | refine ifN ?_ | refine ifI (fun hc => ?_) (fun hc => ?_) | refine ifD (fun hc => ?_) (fun hc => ?_) | refine ifB (fun hc => ?_) (fun hc => ?_) | fail)
local macro_rules | `(tactic| walk_at "go") => `(tactic| repeat' (first | walk_at "if" | walk_at "s" | fail))
local macro_rules | `(tactic| walk_at "nw") => `(tactic| (generalize hE : upd _ _ _ = Hn; replace O := Ow.mkE O (by assumption) hE rfl; clear hE))
local macro_rules | `(tactic| walk_at "pt") => `(tactic| (generalize hE : upd _ _ _ = Hn; (first | replace O := Ow.ug O 0 rfl hE rfl | replace O := Ow.ug O 1 rfl hE rfl | replace O := Ow.ug O 2 rfl hE rfl | replace O := Ow.ug O 3 rfl hE rfl | replace O := Ow.ug O 4 rfl hE rfl | replace O := Ow.ug O 5 rfl hE rfl | replace O := Ow.ug O 6 rfl hE rfl | replace O := Ow.ug O 7 rfl hE rfl); clear hE; (try simp only [List.set_cons_zero, List.set_cons_succ] at O)))
local macro_rules | `(tactic| walk_at "app") => `(tactic| (refine ⟨_, _, _, rfl, rfl, (by walk_at "get"), (by walk_at "sz"), ?_⟩; walk_at "pt"))
local macro_rules | `(tactic| walk_at "elt") => `(tactic| (refine ⟨_, (by walk_at "get"), (by walk_at "sz"), ?_⟩; walk_at "pt"))
local macro_rules | `(tactic| walk_at "frz") => `(tactic| (obtain ⟨Hn, On, sn, en⟩ := O.frz; clear O; have O := On; clear On; (try replace s0 := s0.mo sn); (try replace d0 := d0.mo sn); (try replace d1 := d1.mo sn); (try replace d2 := d2.mo sn); (try replace d3 := d3.mo sn); (try replace d4 := d4.mo sn); (try replace d5 := d5.mo sn); (try replace d6 := d6.mo sn); (try replace d7 := d7.mo sn)))
local macro_rules | `(tactic| walk_at "mo") => `(tactic| ((try simp only [List.eraseIdx_cons_zero, List.eraseIdx_cons_succ] at O); (try replace s0 := s0.mo sn); (try replace d0 := d0.mo sn); (try replace d1 := d1.mo sn); (try replace d2 := d2.mo sn); (try replace d3 := d3.mo sn); (try replace d4 := d4.mo sn); (try replace d5 := d5.mo sn); (try replace d6 := d6.mo sn); (try replace d7 := d7.mo sn)))
local macro_rules | `(tactic| walk_at "er") => `(tactic| simp only [List.eraseIdx_cons_zero, List.eraseIdx_cons_succ] at O)
local macro_rules | `(tactic| walk_at "jn") => `(tactic| simp only [List.cons_append, List.nil_append] at O)
def top (i:Nat):Stmt:=PySem.Challenge.pw_sluice_k61_harm.main.body.getD i (.Pass ⟨0,0,0,0⟩)
abbrev bZ:Stmt:=top 31
theorem nT:aX ["script","k"] ["script","k"] (ao bZ):=⟨rfl,rfl,rfl,by decide +kernel,rfl,by decide +kernel,by decide +kernel⟩
def yG (K:PySem.W.Frag):Sp:=fun vs H Q _=>∃ (a:Addr) (ns:List Int) (k:Nat),vs=[.ref a,.int (k:Int)]∧SqL K H a (ns.map V.int)∧Q (.int (ns.getD k 0)) H
theorem Tf {a1:TT} {a2:TS} {a4:TS} {a5:TS} {D:Ends} {σ:St} {H:Hp} (h:let z3:TS:=a2;let z6:TS:=a5;(aP (gU a1 z3 a4) z6) D σ H):(aP (gU a1 a2 a4) a5) D σ H:=h
theorem Te {a1:TS} {a2:TS} {D:Ends} {σ:St} {H:Hp} (h:let z3:TS:=a2;(aP a1 z3) D σ H):(aP a1 a2) D σ H:=h
theorem sl_3 {a1:TS} {a2:TS} {a3:TI} {a4:TG} {a5:TS} {a6:TT} {a7:TS} {a9:TT} {a10:TS} {a12:TS} {a17:TS} {a18:TI} {a19:TG} {a20:TS} {a22:TS} {a23:TI} {a24:TG} {a25:TT} {a26:TS} {a28:TS} {a30:TS} {D:Ends} {σ:St} {H:Hp} (h:let z8:TS:=a7;let z11:TS:=a10;let z13:TS:=a12;let z14:TS:=gU a9 z11 z13;let z15:TS:=gU a6 z8 z14;let z16:TS:=aP a5 z15;let z21:TS:=a20;let z27:TS:=a26;let z29:TS:=gU a25 z27 a28;let z31:TS:=a30;let z32:TS:=aP (iU a23 a24 z29) z31;let z33:TS:=aP a22 z32;let z34:TS:=aP (iU a18 a19 z21) z33;let z35:TS:=aP a17 z34;let z36:TS:=aP (iU a3 a4 z16) z35;let z37:TS:=aP a2 z36;(aP a1 z37) D σ H):(aP a1 (aP a2 (aP (iU a3 a4 (aP a5 (gU a6 a7 (gU a9 a10 a12)))) (aP a17 (aP (iU a18 a19 a20) (aP a22 (aP (iU a23 a24 (gU a25 a26 a28)) a30))))))) D σ H:=h
theorem sl_4 {a1:TS} {a2:TT} {a3:TS} {a5:TS} {D:Ends} {σ:St} {H:Hp} (h:let z4:TS:=a3;let z6:TS:=a5;let z7:TS:=aP (nG a2 z4) z6;(aP a1 z7) D σ H):(aP a1 (aP (nG a2 a3) a5)) D σ H:=h
theorem sl_5 {a1:TS} {a2:TI} {a3:TG} {a4:TT} {a5:TS} {a7:TS} {a9:TS} {D:Ends} {σ:St} {H:Hp} (h:let z6:TS:=a5;let z8:TS:=gU a4 z6 a7;let z10:TS:=a9;let z11:TS:=aP (iU a2 a3 z8) z10;(aP a1 z11) D σ H):(aP a1 (aP (iU a2 a3 (gU a4 a5 a7)) a9)) D σ H:=h
theorem sl_6 {a1:TS} {a2:TT} {a3:TS} {a5:TS} {a6:TT} {a7:TS} {a9:TS} {a10:TS} {D:Ends} {σ:St} {H:Hp} (h:let z4:TS:=a3;let z8:TS:=a7;let z11:TS:=a10;let z12:TS:=aP (gU a6 z8 a9) z11;let z13:TS:=aP (gU a2 z4 a5) z12;(aP a1 z13) D σ H):(aP a1 (aP (gU a2 a3 a5) (aP (gU a6 a7 a9) a10))) D σ H:=h
theorem sl_7 {a1:TS} {a2:TI} {a3:TG} {a4:TI} {a5:TG} {a6:TS} {a9:TS} {D:Ends} {σ:St} {H:Hp} (h:let z7:TS:=a6;let z8:TS:=iU a4 a5 z7;let z10:TS:=a9;let z11:TS:=aP (iU a2 a3 z8) z10;(aP a1 z11) D σ H):(aP a1 (aP (iU a2 a3 (iU a4 a5 a6)) a9)) D σ H:=h
theorem Td {a1:TS} {a2:TS} {a3:TS} {D:Ends} {σ:St} {H:Hp} (h:let z4:TS:=a3;let z5:TS:=aP a2 z4;(aP a1 z5) D σ H):(aP a1 (aP a2 a3)) D σ H:=h
theorem sl_9 {a1:TI} {a2:TG} {a3:TS} {D:Ends} {σ:St} {H:Hp} (h:let z4:TS:=a3;(iU a1 a2 z4) D σ H):(iU a1 a2 a3) D σ H:=h
theorem Q6 {a1:TS} {a2:TS} {a3:TI} {a4:TG} {a5:TS} {a6:TS} {D:Ends} {σ:St} {H:Hp} (h:let z7:TS:=a6;let z8:TS:=aP a5 z7;let z9:TS:=iU a3 a4 z8;let z10:TS:=aP a2 z9;(aP a1 z10) D σ H):(aP a1 (aP a2 (iU a3 a4 (aP a5 a6)))) D σ H:=h
theorem Q5 {a1:TS} {a2:TI} {a3:TG} {a4:TT} {a5:TS} {a6:TS} {a7:TS} {a11:TS} {a13:TS} {D:Ends} {σ:St} {H:Hp} (h:let z8:TS:=a7;let z9:TS:=aP a6 z8;let z10:TS:=aP a5 z9;let z12:TS:=gU a4 z10 a11;let z14:TS:=a13;let z15:TS:=aP (iU a2 a3 z12) z14;(aP a1 z15) D σ H):(aP a1 (aP (iU a2 a3 (gU a4 (aP a5 (aP a6 a7)) a11)) a13)) D σ H:=h
theorem Q0 {a1:TS} {a2:TS} {a3:TS} {a4:TT} {a5:TS} {a6:TS} {a9:TS} {D:Ends} {σ:St} {H:Hp} (h:let z7:TS:=a6;let z8:TS:=aP a5 z7;let z10:TS:=a9;let z11:TS:=aP (nG a4 z8) z10;let z12:TS:=aP a3 z11;let z13:TS:=aP a2 z12;(aP a1 z13) D σ H):(aP a1 (aP a2 (aP a3 (aP (nG a4 (aP a5 a6)) a9)))) D σ H:=h
theorem QZ {a1:TS} {a2:TI} {a3:TG} {a4:TS} {a6:TS} {D:Ends} {σ:St} {H:Hp} (h:let z5:TS:=a4;let z7:TS:=a6;let z8:TS:=aP (iU a2 a3 z5) z7;(aP a1 z8) D σ H):(aP a1 (aP (iU a2 a3 a4) a6)) D σ H:=h
theorem QX {a1:TS} {a2:TS} {a3:TS} {a4:TI} {a5:TG} {a6:TS} {a7:TS} {a8:TI} {a9:TG} {a10:TS} {a15:TS} {D:Ends} {σ:St} {H:Hp} (h:let z11:TS:=a10;let z12:TS:=iU a8 a9 z11;let z13:TS:=aP a7 z12;let z14:TS:=aP a6 z13;let z16:TS:=a15;let z17:TS:=aP (iU a4 a5 z14) z16;let z18:TS:=aP a3 z17;let z19:TS:=aP a2 z18;(aP a1 z19) D σ H):(aP a1 (aP a2 (aP a3 (aP (iU a4 a5 (aP a6 (aP a7 (iU a8 a9 a10)))) a15)))) D σ H:=h
theorem QW {a1:TS} {a2:TI} {a3:TG} {a4:TS} {a5:TS} {a6:TS} {a7:TS} {a8:TI} {a9:TG} {a10:TT} {a11:TS} {a13:TS} {a20:TS} {D:Ends} {σ:St} {H:Hp} (h:let z12:TS:=a11;let z14:TS:=gU a10 z12 a13;let z15:TS:=iU a8 a9 z14;let z16:TS:=aP a7 z15;let z17:TS:=aP a6 z16;let z18:TS:=aP a5 z17;let z19:TS:=aP a4 z18;let z21:TS:=a20;let z22:TS:=aP (iU a2 a3 z19) z21;(aP a1 z22) D σ H):(aP a1 (aP (iU a2 a3 (aP a4 (aP a5 (aP a6 (aP a7 (iU a8 a9 (gU a10 a11 a13))))))) a20)) D σ H:=h
theorem QV {a1:TS} {a2:TS} {a3:TT} {a4:TS} {a5:TS} {a8:TS} {D:Ends} {σ:St} {H:Hp} (h:let z6:TS:=a5;let z7:TS:=aP a4 z6;let z9:TS:=a8;let z10:TS:=aP (nG a3 z7) z9;let z11:TS:=aP a2 z10;(aP a1 z11) D σ H):(aP a1 (aP a2 (aP (nG a3 (aP a4 a5)) a8))) D σ H:=h
theorem Kd {a1:TS} {a2:TS} {a3:TS} {a4:TT} {a5:TS} {a7:TS} {a8:TS} {D:Ends} {σ:St} {H:Hp} (h:let z6:TS:=a5;let z9:TS:=a8;let z10:TS:=nH (gU a4 z6 a7) z9;let z11:TS:=aP a3 z10;let z12:TS:=aP a2 z11;(aP a1 z12) D σ H):(aP a1 (aP a2 (aP a3 (nH (gU a4 a5 a7) a8)))) D σ H:=h
theorem QT {a1:TS} {a2:TI} {a3:TG} {a4:TI} {a5:TG} {a6:TS} {a9:TI} {a10:TG} {a11:TI} {a12:TG} {a13:TS} {a16:TS} {D:Ends} {σ:St} {H:Hp} (h:let z7:TS:=a6;let z8:TS:=iU a4 a5 z7;let z14:TS:=a13;let z15:TS:=iU a11 a12 z14;let z17:TS:=a16;let z18:TS:=aP (iU a9 a10 z15) z17;let z19:TS:=aP (iU a2 a3 z8) z18;(aP a1 z19) D σ H):(aP a1 (aP (iU a2 a3 (iU a4 a5 a6)) (aP (iU a9 a10 (iU a11 a12 a13)) a16))) D σ H:=h
theorem QS {a1:TS} {a2:TS} {a3:TI} {a4:TG} {a5:TS} {a6:TI} {a7:TG} {a8:TS} {a9:TT} {a10:TS} {a12:TS} {a15:TT} {a16:TS} {a18:TS} {a22:TS} {D:Ends} {σ:St} {H:Hp} (h:let z11:TS:=a10;let z13:TS:=gU a9 z11 a12;let z14:TS:=aP a8 z13;let z17:TS:=a16;let z19:TS:=gU a15 z17 a18;let z20:TS:=aP (iU a6 a7 z14) z19;let z21:TS:=aP a5 z20;let z23:TS:=a22;let z24:TS:=aP (iU a3 a4 z21) z23;let z25:TS:=aP a2 z24;(aP a1 z25) D σ H):(aP a1 (aP a2 (aP (iU a3 a4 (aP a5 (aP (iU a6 a7 (aP a8 (gU a9 a10 a12))) (gU a15 a16 a18)))) a22))) D σ H:=h
theorem QM {a1:TS} {a2:TT} {a3:TS} {a5:TS} {a6:TS} {a7:TI} {a8:TG} {a9:TS} {a10:TT} {a11:TS} {a13:TS} {a14:TT} {a15:TS} {a17:TS} {a21:TT} {a22:TS} {a24:TS} {a25:TS} {D:Ends} {σ:St} {H:Hp} (h:let z4:TS:=a3;let z12:TS:=a11;let z16:TS:=a15;let z18:TS:=gU a14 z16 a17;let z19:TS:=aP (gU a10 z12 a13) z18;let z20:TS:=aP a9 z19;let z23:TS:=a22;let z26:TS:=a25;let z27:TS:=aP (gU a21 z23 a24) z26;let z28:TS:=aP (iU a7 a8 z20) z27;let z29:TS:=aP a6 z28;let z30:TS:=aP (gU a2 z4 a5) z29;(aP a1 z30) D σ H):(aP a1 (aP (gU a2 a3 a5) (aP a6 (aP (iU a7 a8 (aP a9 (aP (gU a10 a11 a13) (gU a14 a15 a17)))) (aP (gU a21 a22 a24) a25))))) D σ H:=h
theorem QL {a1:TS} {a2:TS} {a3:TI} {a4:TG} {a5:TS} {a6:TS} {a7:TS} {a8:TS} {a9:TT} {a10:TS} {a12:TS} {a13:TI} {a14:TG} {a15:TT} {a16:TS} {a18:TS} {a26:TS} {D:Ends} {σ:St} {H:Hp} (h:let z11:TS:=a10;let z17:TS:=a16;let z19:TS:=gU a15 z17 a18;let z20:TS:=iU a13 a14 z19;let z21:TS:=aP (gU a9 z11 a12) z20;let z22:TS:=aP a8 z21;let z23:TS:=aP a7 z22;let z24:TS:=aP a6 z23;let z25:TS:=aP a5 z24;let z27:TS:=a26;let z28:TS:=aP (iU a3 a4 z25) z27;let z29:TS:=aP a2 z28;(aP a1 z29) D σ H):(aP a1 (aP a2 (aP (iU a3 a4 (aP a5 (aP a6 (aP a7 (aP a8 (aP (gU a9 a10 a12) (iU a13 a14 (gU a15 a16 a18)))))))) a26))) D σ H:=h
theorem QK {a1:TT} {a2:TS} {a4:TS} {a5:TT} {a6:TS} {a8:TS} {a9:TS} {D:Ends} {σ:St} {H:Hp} (h:let z3:TS:=a2;let z7:TS:=a6;let z10:TS:=a9;let z11:TS:=aP (gU a5 z7 a8) z10;(aP (gU a1 z3 a4) z11) D σ H):(aP (gU a1 a2 a4) (aP (gU a5 a6 a8) a9)) D σ H:=h
theorem QJ {a1:TS} {a2:TS} {a3:TS} {a4:TS} {a5:TT} {a6:TS} {a7:TS} {a10:TS} {a11:TS} {a12:TS} {a13:TT} {a14:TS} {a16:TS} {a17:TS} {a18:TT} {a19:TS} {a20:TS} {a23:TS} {a24:TS} {a25:TS} {a26:TS} {a27:TS} {a28:TT} {a29:TS} {a31:TS} {a32:TS} {a33:TS} {a34:TT} {a35:TS} {a37:TS} {a38:TS} {D:Ends} {σ:St} {H:Hp} (h:let z8:TS:=a7;let z9:TS:=aP a6 z8;let z15:TS:=a14;let z21:TS:=a20;let z22:TS:=aP a19 z21;let z30:TS:=a29;let z36:TS:=a35;let z39:TS:=a38;let z40:TS:=aP (gU a34 z36 a37) z39;let z41:TS:=aP a33 z40;let z42:TS:=aP a32 z41;let z43:TS:=nH (gU a28 z30 a31) z42;let z44:TS:=aP a27 z43;let z45:TS:=aP a26 z44;let z46:TS:=aP a25 z45;let z47:TS:=aP a24 z46;let z48:TS:=nH (gU a18 z22 a23) z47;let z49:TS:=aP a17 z48;let z50:TS:=nH (gU a13 z15 a16) z49;let z51:TS:=aP a12 z50;let z52:TS:=aP a11 z51;let z53:TS:=nH (gU a5 z9 a10) z52;let z54:TS:=aP a4 z53;let z55:TS:=aP a3 z54;let z56:TS:=aP a2 z55;(aP a1 z56) D σ H):(aP a1 (aP a2 (aP a3 (aP a4 (nH (gU a5 (aP a6 a7) a10) (aP a11 (aP a12 (nH (gU a13 a14 a16) (aP a17 (nH (gU a18 (aP a19 a20) a23) (aP a24 (aP a25 (aP a26 (aP a27 (nH (gU a28 a29 a31) (aP a32 (aP a33 (aP (gU a34 a35 a37) a38)))))))))))))))))) D σ H:=h
theorem Jq {f:Addr} {fd:FuncData} (D:Df K mg "_law_cell_at" bZ ["script","k"] f fd) (B:Blt mg):cI P w K mg base CX0 1 f fd ["script","k"] (yG K):=by
  refine D.F.ok nT (fun vs H Q E h=>?_) (fun cdv A outer s H vs Q E hr h=>?_)
  · obtain ⟨a,ns,k,rfl,_⟩:=h;rfl
  · obtain ⟨a,ns,k,rfl,hS,q⟩:=h
    refine ⟨_,(au (gD (aZ ux (pv 1) (aJ aC rfl B.len PySem.boot_len (ak (pv 0) aq)) (bD _))
        (aB (bw (aQ aH (pv 0) (pv 1) (fun _ _=>rfl))))
        bR)
      (aB (bw aA))),?_⟩
    refine Tf ?_
    intro zu0 zu1
    refine ⟨_,rfl,_,rfl,a,_,rfl,.inl hS,_,_,rfl,rfl,_,rfl,?_⟩
    refine Qp (fun h=>?_) (fun h=>?_)
    · have hk:k<ns.length:=by
        have:=of_decide_eq_true h
        rw [List.length_map] at this;omega
      have e:ns[k]?=some (ns.getD k 0):=by rw [List.getD_eq_getElem?_getD,List.getElem?_eq_getElem hk];rfl
      exact ⟨_,rfl,_,rfl,a,_,_,_,rfl,rfl,hS,bx e,q⟩
    · have hk:¬ k<ns.length:=fun z=>h (decide_eq_true (by rw [List.length_map];omega))
      have e:ns.getD k 0=0:=by rw [List.getD_eq_getElem?_getD,List.getElem?_eq_none (by omega)];rfl
      rw [e] at q
      exact q
abbrev bU:Stmt:=top 33
theorem j8:aX ["cell","k","mark"] ["cell","k"] (ao bU):=⟨rfl,rfl,rfl,by decide +kernel,rfl,by decide +kernel,by decide +kernel⟩
def peb (c k:Int):Int:=((c % 8589934583 + 4409) * (2 * k + 3) + 90001 * k) ^ 3 % 68719476731 / 32
theorem Ko (c k:Int):0≤peb c k:=Int.ediv_nonneg (Int.emod_nonneg _ (by decide)) (by decide)
theorem Kp (c k:Int):peb c k<2147483648:=by
  unfold peb
  have h:=Int.emod_lt_of_pos (((c % 8589934583 + 4409) * (2 * k + 3) + 90001 * k) ^ 3) (show (0:Int)<68719476731 by decide)
  omega
theorem wV (c k:Int) (h0:0≤k) (h1:k≤1000):((c % 8589934583 + 4409) * (2 * k + 3) + 90001 * k).natAbs<2 ^ 64:=by
  have a0:=Int.emod_nonneg c (show (8589934583:Int)≠0 by decide)
  have a1:=Int.emod_lt_of_pos c (show (0:Int)<8589934583 by decide)
  have hp:0≤(c % 8589934583 + 4409) * (2 * k + 3):=Int.mul_nonneg (by omega) (by omega)
  have hq:(c % 8589934583 + 4409) * (2 * k + 3)≤8589939000 * 2003:=Int.mul_le_mul (by omega) (by omega) (by omega) (by decide)
  omega
def yC:Sp:=fun vs H Q _=>∃ (c k:Int),vs=[.int c,.int k]∧0≤k∧k≤1000∧Q (.int (peb c k)) H
theorem Ky {f:Addr} {fd:FuncData} (D:Df K mg "_law_pebble" bU ["cell","k"] f fd):cI P w K mg base CX0 1 f fd ["cell","k"] yC:=by
  refine D.F.ok j8 (fun vs H Q E h=>?_) (fun cdv A outer s H vs Q E hr h=>?_)
  · obtain ⟨c,k,rfl,_⟩:=h;rfl
  · obtain ⟨c,k,rfl,h0,h1,q⟩:=h
    refine ⟨_,(au (aO (i:=2) j8.nd rfl (Or.inl rfl) (bf ji (bf mZ (bf ji (bf d8 (pv 0) aA) aA) (bf ji (bf mZ aA (pv 1)) aA)) (bf mZ aA (pv 1))))
      (aB (bw (bf jq (bf d8 (bf Dv (pv 2) aA) aA) aA)))),?_⟩
    refine Te ?_
    intro zu0
    refine ⟨_,rfl,_,_,rfl,rfl,(by show (0:Int)<8589934583;decide),_,_,rfl,rfl,?_⟩
    refine ⟨_,rfl,_,_,rfl,rfl,.inl ⟨by decide,by decide⟩,_,_,rfl,rfl,_,_,rfl,rfl,.inr ⟨by omega,by omega⟩,?_⟩
    refine ⟨_,rfl,_,_,rfl,rfl,.inl ⟨by decide,by decide⟩,_,_,rfl,rfl,?_⟩
    refine ⟨_,rfl,_,_,rfl,rfl,⟨by decide,by decide,wV c k h0 h1⟩,_,_,rfl,rfl,(by show (0:Int)<68719476731;decide),_,_,rfl,rfl,⟨by decide,by decide⟩,?_⟩
    exact q
abbrev bB:Stmt:=top 34
theorem nR:aX ["cell","many"] ["cell","many"] (ao bB):=⟨rfl,rfl,rfl,by decide +kernel,rfl,by decide +kernel,by decide +kernel⟩
def wR (c:Int) (n:Nat):List Int:=(List.range n).map fun (i:Nat)=>peb c (i:Int)
theorem yU (c:Int) (n:Nat):wR c (n + 1)=wR c n++[peb c (n:Int)]:=by
  unfold wR;rw [List.range_succ,List.map_append];rfl
theorem j5 (c:Int) (n:Nat):(wR c n).length=n:=by unfold wR;simp
def qp:Sp:=fun vs H Q _=>∃ (c m:Int),vs=[.int c,.int m]∧-1000≤m∧m≤1000∧JZ H (fun xs=>xs=(wR c m.toNat).map V.int) Q
theorem Jk {f fP:Addr} {fd fdP:FuncData} (D:Df K mg "_law_pebbles" bB ["cell","many"] f fd) (B:Blt mg) (bH:Df K mg "_law_pebble" bU ["cell","k"] fP fdP)
    (jM:cI P w K mg base CX0 1 fP fdP ["cell","k"] yC):cI P w K mg base CX0 2 f fd ["cell","many"] qp:=by
  refine D.F.ok nR (fun vs H Q E h=>?_) (fun cdv A outer s H vs Q E hr h=>?_)
  · obtain ⟨c,k,rfl,_⟩:=h;rfl
  · obtain ⟨c,m,rfl,h0,h1,q⟩:=h
    refine ⟨_,(aB (bw (jD (ao bB) rfl ["cell","many"] rfl ["k","cell"] [none,some 0] (by decide +kernel) (by decide +kernel) (by decide +kernel) rfl (gO rfl B.range (ak (pv 1) aq)) (fun _ _ _=>(aL (i:=0) (show (["k","cell"]:List Str).Nodup by decide +kernel) rfl (Or.inl rfl))) (fun _ _ _=>gk) (fun _ _ _=>(aK jM (hr.mono (by decide)) rfl bH.m bH.F.kp bH.b .nil bK (ak (pv 1) (ak (pv 0) aq))))))),?_⟩
    refine ⟨_,rfl,m,rfl,by omega,by omega,fun acc hacc=>?_⟩
    refine xg (fun i τ H2=>∃ v,τ=[v,some (.int c)]∧Same H H2∧H2 acc=some (.lst ((wR c i).map V.int))) ⟨none,rfl,(Same.refl H).upd hacc,aV⟩ ?_ ?_
    · rintro i τ H2 hi ⟨v,rfl,s2,h2⟩
      refine xQ ?_
      refine ⟨_,rfl,_,rfl,c,_,rfl,by omega,by omega,?_⟩
      refine ⟨_,h2,aY (by rw [List.length_map,j5];omega),_,rfl,s2.upd hacc,?_⟩
      rw [aV,yU,List.map_append,show (0:Int) + (i:Int)=(i:Int) by omega];rfl
    · rintro τ H2 ⟨v,rfl,s2,h2⟩
      exact q acc H2 _ s2 hacc h2 rfl
abbrev dw:Stmt:=top 35
theorem cB:aX ["xs","cell","order","onward","k","place","at","found"] ["xs","cell"] (ao dw):=⟨rfl,rfl,rfl,by decide +kernel,rfl,by decide +kernel,by decide +kernel⟩
def vo (K:PySem.W.Frag):Sp:=fun vs H Q _=>∃ (a:Addr) (ns:List Int) (c:Int),vs=[.ref a,.int c]∧SqL K H a (ns.map V.int)∧ns.length≤900 ∧
  JZ H (fun xs=>∃ r,xs=r.map V.int∧Rv.eX r∧r.length=ns.length + 1) Q
theorem CT (o:List Nat) (i k:Nat):((o.map fun j:Nat=>V.int (j:Int)).take i++V.int (k:Int) :: (o.map fun j:Nat=>V.int (j:Int)).drop i)=(o.take i++k :: o.drop i).map fun j:Nat=>V.int (j:Int):=by
  rw [List.map_append,List.map_cons,List.map_take,List.map_drop]
theorem BP {f fP:Addr} {fd fdP:FuncData} (D:Df K mg "_law_river" dw ["xs","cell"] f fd) (B:Blt mg) (bH:Df K mg "_law_pebble" bU ["cell","k"] fP fdP)
    (jM:cI P w K mg base CX0 1 fP fdP ["cell","k"] yC):cI P w K mg base CX0 2 f fd ["xs","cell"] (vo K):=by
  refine D.F.ok cB (fun vs H Q E h=>?_) (fun cdv A outer s H vs Q E hr h=>?_)
  · obtain ⟨a,ns,k,rfl,_⟩:=h;rfl
  · obtain ⟨a,ns,c,rfl,hS,hn,q⟩:=h
    refine ⟨_,(au (aO (i:=2) cB.nd rfl (Or.inl rfl) (gP (ak aA aq)))
      (au (aO (i:=3) cB.nd rfl (Or.inl rfl) (gP (ak (kI iR aA) aq)))
      (au (dZ PassesOwn.never rfl (gO rfl B.range (ak (aJ aC rfl B.len PySem.boot_len (ak (pv 0) aq)) aq)) (aL (i:=4) cB.nd rfl (Or.inl rfl))
        (au (iW (qD PySem.F.plainAttrs_list PySem.F.slot_list_insert PySem.F.type_list_insert zq (pv 2) (ak (bf d8 (aK jM (hr.mono (by decide)) rfl bH.m bH.F.kp bH.b .nil bK (ak (pv 1) (ak (pv 4) aq))) (bf ji (pv 4) aA)) (ak (bf ji (pv 4) aA) aq))))
        (aB (gD (aZ pA (bf d8 (aQ aH (pv 0) (pv 4) (fun _ _=>rfl)) aA) aA (bD _))
          (aB (iW (qD PySem.F.plainAttrs_list PySem.F.slot_list_append PySem.F.type_list_append gq (pv 3) (ak (kI iR aA) aq))))
          (aB (gD (aZ pA (bf d8 (bf jq (aQ aH (pv 0) (pv 4) (fun _ _=>rfl)) aA) aA) aA (bD _))
            (aB (iW (qD PySem.F.plainAttrs_list PySem.F.slot_list_append PySem.F.type_list_append gq (pv 3) (ak (pv 4) aq))))
            (aB (iW (qD PySem.F.plainAttrs_list PySem.F.slot_list_append PySem.F.type_list_append gq (pv 3) (ak (bf d8 (bf jq (aQ aH (pv 0) (pv 4) (fun _ _=>rfl)) aA) (bf ji (pv 4) aA)) aq))))))))))
      (au (aO (i:=5) cB.nd rfl (Or.inl rfl) (bf mX (gP (ak aA aq)) (aJ aC rfl B.len PySem.boot_len (ak (pv 2) aq))))
      (au (dZ PassesOwn.never rfl (gO rfl B.range (ak (aJ aC rfl B.len PySem.boot_len (ak (pv 2) aq)) aq)) (aL (i:=6) cB.nd rfl (Or.inl rfl))
        (aB (j9 (pv 6) (n6 (pv 5) (aQ aH (pv 2) (pv 6) (fun _ _=>rfl)) set_list))))
      (au (aO (i:=7) cB.nd rfl (Or.inl rfl) (bf mX (gP (ak (kI iR aA) aq)) (aJ aC rfl B.len PySem.boot_len (ak (pv 2) aq))))
      (au (dZ PassesOwn.never rfl (yR rfl B.range (ak aA (ak (aJ aC rfl B.len PySem.boot_len (ak (pv 2) aq)) aq))) (aL (i:=4) cB.nd rfl (Or.inl rfl))
        (aB (gD (aZ pq (aQ aH (pv 3) (pv 4) (fun _ _=>rfl)) (kI iR aA) (bD _))
          (aB (j9 (aQ aH (pv 5) (aQ aH (pv 3) (pv 4) (fun _ _=>rfl)) (fun _ _=>rfl)) (n6 (pv 7) (aQ aH (pv 5) (pv 4) (fun _ _=>rfl)) set_list)))
          bR)))
      (aB (bw (pv 7)))))))))),?_⟩
    refine sl_3 ?_
    intro zu0 zu1 zu2 zu3 zu4 zu5 zu6 zu7 zu8 zu9 zu10 zu11 zu12 zu13 zu14 zu15
    refine ⟨by decide,fun lo hlo=>?_⟩
    refine ⟨_,rfl,by decide,fun lw hlw=>?_⟩
    have nlo:H lo=none:=hlo
    have nlw:H lw=none:=((Same.refl H).upd hlo).free hlw
    have now:lo≠lw:=aR (H:=upd H lo _) aV hlw
    have s1:Same H (upd (upd H lo (.lst [V.int 0])) lw (.lst [V.int (-1)])):=((Same.refl H).upd nlo).upd nlw
    refine ⟨_,rfl,a,_,rfl,.inl (s1.seq hS),_,rfl,by rw [List.length_map];omega,by rw [List.length_map];omega,?_⟩
    rw [List.length_map,Int.toNat_natCast]
    refine gQ (n:=ns.length) (fun i σ H2=>∃ (o:List Nat) (wd:List Int) (v4:Option V),σ=[some (.ref a),some (.int c),some (.ref lo),some (.ref lw),v4,none,none,none]∧Same H H2 ∧
      H2 lo=some (.lst (o.map fun j:Nat=>V.int (j:Int)))∧H2 lw=some (.lst (wd.map V.int))∧Rv.Ord (i + 1) o∧Rv.Onw (i + 1) wd)
      ⟨[0],[-1],none,rfl,s1,by rw [aN now,aV];rfl,by rw [aV];rfl,Rv.Ord.one,Rv.Onw.one⟩ ?_ ?_
    · rintro i σ H2 hi ⟨o,wd,v4,rfl,s2,hO,hW,O,W⟩
      have zi:(0:Int) + (i:Int)=(i:Int):=by omega
      rw [zi]
      have xi:ns[i]?=some (ns.getD i 0):=by rw [List.getD_eq_getElem?_getD,List.getElem?_eq_getElem hi];rfl
      refine ⟨_,rfl,.inl ⟨rfl,_,SqL.of hO⟩,_,rfl,_,rfl,c,_,rfl,by omega,by omega,_,rfl,_,_,rfl,rfl,_,_,rfl,rfl,by omega,_,rfl,_,_,rfl,rfl,?_⟩
      have m0:=Int.emod_nonneg (peb c (i:Int)) (show ((i:Int) + 2)≠0 by omega)
      have m1:=Int.emod_lt_of_pos (peb c (i:Int)) (show (0:Int)<(i:Int) + 2 by omega)
      have hol:=O.len
      refine ⟨lo,_,V.int ((i + 1:Nat):Int),peb c (i:Int) % ((i:Int) + 2),rfl,rfl,hO,m0,by rw [List.length_map];omega,aY (by rw [List.length_map];omega),?_⟩
      generalize (peb c (i:Int) % ((i:Int) + 2)).toNat=j
      have O2:=O.ins j
      rw [CT]
      have s3:=s2.upd (o:=.lst ((o.take j++(i + 1) :: o.drop j).map fun j:Nat=>V.int (j:Int))) nlo
      have hW3:(upd H2 lo (.lst ((o.take j++(i + 1) :: o.drop j).map fun j:Nat=>V.int (j:Int)))) lw=some (.lst (wd.map V.int)):=by rw [aN now.symm];exact hW
      have fin:∀ y:Int,(y=-1∨(0≤y∧y<(i + 1:Nat)))→∃ (o':List Nat) (wd':List Int) (v4':Option V),
          ([some (.ref a),some (.int c),some (.ref lo),some (.ref lw),some (V.int (i:Int)),none,none,none]:St)=[some (.ref a),some (.int c),some (.ref lo),some (.ref lw),v4',none,none,none] ∧
          Same H (upd (upd H2 lo (.lst ((o.take j++(i + 1) :: o.drop j).map fun j:Nat=>V.int (j:Int)))) lw (.lst (wd.map V.int++[V.int y]))) ∧
          (upd (upd H2 lo (.lst ((o.take j++(i + 1) :: o.drop j).map fun j:Nat=>V.int (j:Int)))) lw (.lst (wd.map V.int++[V.int y]))) lo=some (.lst (o'.map fun j:Nat=>V.int (j:Int))) ∧
          (upd (upd H2 lo (.lst ((o.take j++(i + 1) :: o.drop j).map fun j:Nat=>V.int (j:Int)))) lw (.lst (wd.map V.int++[V.int y]))) lw=some (.lst (wd'.map V.int))∧Rv.Ord (i + 1 + 1) o'∧Rv.Onw (i + 1 + 1) wd' :=
        fun y hy=>⟨_,wd++[y],_,rfl,s3.upd nlw,by rw [aN now,aV],by rw [aV,List.map_append];rfl,O2,W.app hy⟩
      have hwl:=W.len
      have hz:(wd.map V.int).length<sizeLine:=aY (by rw [List.length_map];omega)
      refine ⟨_,rfl,_,rfl,a,_,_,_,rfl,rfl,s3.seq hS,bx xi,_,_,rfl,rfl,(by show (0:Int)<7;decide),rfl,_,rfl,?_⟩
      refine Qp (fun _=>?_) (fun _=>?_)
      · exact ⟨_,rfl,.inl ⟨rfl,_,SqL.of hW3⟩,_,rfl,lw,_,_,rfl,rfl,hW3,hz,fin (-1) (.inl rfl)⟩
      · refine ⟨_,rfl,_,rfl,a,_,_,_,rfl,rfl,s3.seq hS,bx xi,_,_,rfl,rfl,⟨by decide,by decide⟩,_,_,rfl,rfl,(by show (0:Int)<2;decide),rfl,_,rfl,?_⟩
        refine Qp (fun _=>?_) (fun _=>?_)
        · exact ⟨_,rfl,.inl ⟨rfl,_,SqL.of hW3⟩,_,rfl,lw,_,_,rfl,rfl,hW3,hz,fin (i:Int) (.inr ⟨by omega,by omega⟩)⟩
        · refine ⟨_,rfl,.inl ⟨rfl,_,SqL.of hW3⟩,_,rfl,_,rfl,a,_,_,_,rfl,rfl,s3.seq hS,bx xi,_,_,rfl,rfl,⟨by decide,by decide⟩,_,rfl,_,_,rfl,rfl,_,_,rfl,rfl,by omega,lw,_,_,rfl,rfl,hW3,hz,fin _ (.inr ⟨?_,?_⟩)⟩
          · exact Int.emod_nonneg _ (by omega)
          · have:=Int.emod_lt_of_pos (ns.getD i 0 / 14) (show (0:Int)<(i:Int) + 1 by omega)
            omega
    · rintro σ H2 ⟨o,wd,v4,rfl,s2,hO,hW,O,W⟩
      have hol:=O.len
      have hwl:=W.len
      refine ⟨by decide,fun l0 hl0=>?_⟩
      have n0:H l0=none:=s2.free hl0
      have nO:lo≠l0:=aR hO hl0
      have nW:lw≠l0:=aR hW hl0
      have hO3:(upd H2 l0 (.lst [V.int 0])) lo=some (.lst (o.map fun j:Nat=>V.int (j:Int))):=by rw [aN nO];exact hO
      refine ⟨_,rfl,lo,_,rfl,.inl (SqL.of hO3),l0,_,_,rfl,rfl,aV,by omega,?_,?_,fun lp hlp=>?_⟩
      · rw [List.length_map,hol];omega
      · rw [List.length_map,hol];exact ig (by rw [Int.toNat_natCast];simp;omega)
      have s3:Same H (upd H2 l0 (.lst [V.int 0])):=s2.upd n0
      have np:H lp=none:=s3.free hlp
      have nOp:lo≠lp:=aR hO3 hlp
      have hW3:(upd H2 l0 (.lst [V.int 0])) lw=some (.lst (wd.map V.int)):=by rw [aN nW];exact hW
      have nWp:lw≠lp:=aR hW3 hlp
      have e0:(List.replicate ((o.map fun j:Nat=>V.int (j:Int)).length:Int).toNat [V.int 0]).flatten=(List.replicate (ns.length + 1) (0:Int)).map V.int:=by
        rw [List.length_map,hol,Int.toNat_natCast,List.map_replicate]
        exact uf _ _
      generalize hH4:(upd (upd H2 l0 (.lst [V.int 0])) lp (.lst (List.replicate ((o.map fun j:Nat=>V.int (j:Int)).length:Int).toNat [V.int 0]).flatten))=H4
      have s4:Same H H4:=by rw [← hH4];exact s3.upd np
      have hO4:H4 lo=some (.lst (o.map fun j:Nat=>V.int (j:Int))):=by rw [← hH4,aN nOp];exact hO3
      have hW4:H4 lw=some (.lst (wd.map V.int)):=by rw [← hH4,aN nWp];exact hW3
      have hP4:H4 lp=some (.lst ((List.replicate (ns.length + 1) (0:Int)).map V.int)):=by rw [← hH4,aV,e0]
      refine ⟨_,rfl,lo,_,rfl,.inl (SqL.of hO4),_,rfl,by rw [List.length_map];omega,by rw [List.length_map];omega,?_⟩
      rw [List.length_map,hol,Int.toNat_natCast]
      refine gQ (n:=ns.length + 1) (fun i σ H5=>∃ (pl:List Int) (v6:Option V),σ=[some (.ref a),some (.int c),some (.ref lo),some (.ref lw),v4,some (.ref lp),v6,none]∧Same H H5 ∧
        H5 lo=some (.lst (o.map fun j:Nat=>V.int (j:Int)))∧H5 lw=some (.lst (wd.map V.int))∧H5 lp=some (.lst (pl.map V.int))∧Rv.Plc (ns.length + 1) o i pl)
        ⟨_,none,rfl,s4,hO4,hW4,hP4,Rv.Plc.start _ _ _ (by simp)⟩ ?_ ?_
      · rintro i σ H5 hi ⟨pl,v6,rfl,s5,hO5,hW5,hP5,PL⟩
        have zi:(0:Int) + (i:Int)=(i:Int):=by omega
        rw [zi]
        have hio:i<o.length:=by omega
        have hj:o[i]<ns.length + 1:=O.lt (List.getElem_mem hio)
        have oj:o[i]?=some o[i]:=List.getElem?_eq_getElem hio
        have pll:=PL.len
        refine ⟨_,rfl,_,rfl,_,rfl,_,rfl,lo,_,_,_,rfl,rfl,SqL.of hO5,bW (v:=V.int (o[i]:Int)) (by rw [List.getElem?_map,oj];rfl),lp,_,_,_,rfl,rfl,hP5,gW (by rw [List.length_map,pll];exact hj),?_⟩
        refine ⟨_,_,rfl,s5.upd np,by rw [aN nOp];exact hO5,by rw [aN nWp];exact hW5,by rw [aV,← List.map_set],PL.turn O oj⟩
      · rintro σ H5 ⟨pl,v6,rfl,s5,hO5,hW5,hP5,PL⟩
        have pll:=PL.len
        refine ⟨_,rfl,by decide,fun l1 hl1=>?_⟩
        have n1:H l1=none:=s5.free hl1
        have mO:lo≠l1:=aR hO5 hl1
        have mW:lw≠l1:=aR hW5 hl1
        have mP:lp≠l1:=aR hP5 hl1
        have hO6:(upd H5 l1 (.lst [V.int (-1)])) lo=some (.lst (o.map fun j:Nat=>V.int (j:Int))):=by rw [aN mO];exact hO5
        refine ⟨_,rfl,lo,_,rfl,.inl (SqL.of hO6),l1,_,_,rfl,rfl,aV,by omega,?_,?_,fun lf hlf=>?_⟩
        · rw [List.length_map,hol];omega
        · rw [List.length_map,hol];exact ig (by rw [Int.toNat_natCast];simp;omega)
        have s6:Same H (upd H5 l1 (.lst [V.int (-1)])):=s5.upd n1
        have nf:H lf=none:=s6.free hlf
        have hW6:(upd H5 l1 (.lst [V.int (-1)])) lw=some (.lst (wd.map V.int)):=by rw [aN mW];exact hW5
        have hP6:(upd H5 l1 (.lst [V.int (-1)])) lp=some (.lst (pl.map V.int)):=by rw [aN mP];exact hP5
        have nOf:lo≠lf:=aR hO6 hlf
        have nWf:lw≠lf:=aR hW6 hlf
        have nPf:lp≠lf:=aR hP6 hlf
        have e1:(List.replicate ((o.map fun j:Nat=>V.int (j:Int)).length:Int).toNat [V.int (-1)]).flatten=(List.replicate (ns.length + 1) (-1:Int)).map V.int:=by
          rw [List.length_map,hol,Int.toNat_natCast,List.map_replicate]
          exact uf _ _
        generalize hH7:(upd (upd H5 l1 (.lst [V.int (-1)])) lf (.lst (List.replicate ((o.map fun j:Nat=>V.int (j:Int)).length:Int).toNat [V.int (-1)]).flatten))=H7
        have s7:Same H H7:=by rw [← hH7];exact s6.upd nf
        have hO7:H7 lo=some (.lst (o.map fun j:Nat=>V.int (j:Int))):=by rw [← hH7,aN nOf];exact hO6
        have hW7:H7 lw=some (.lst (wd.map V.int)):=by rw [← hH7,aN nWf];exact hW6
        have hP7:H7 lp=some (.lst (pl.map V.int)):=by rw [← hH7,aN nPf];exact hP6
        have hF7:H7 lf=some (.lst ((List.replicate (ns.length + 1) (-1:Int)).map V.int)):=by rw [← hH7,aV,e1]
        refine ⟨_,rfl,lo,_,rfl,.inl (SqL.of hO7),_,_,rfl,⟨by decide,by decide,by rw [List.length_map];omega,by rw [List.length_map];omega⟩,?_⟩
        rw [List.length_map,hol,show (((ns.length + 1:Nat):Int) - 1).toNat=ns.length by omega]
        refine gQ (n:=ns.length) (fun i σ H8=>∃ (r:List Int) (v4':Option V),σ=[some (.ref a),some (.int c),some (.ref lo),some (.ref lw),v4',some (.ref lp),v6,some (.ref lf)]∧Same H H8 ∧
          H8 lo=some (.lst (o.map fun j:Nat=>V.int (j:Int)))∧H8 lw=some (.lst (wd.map V.int))∧H8 lp=some (.lst (pl.map V.int))∧H8 lf=some (.lst (r.map V.int))∧Rv.Fnd (ns.length + 1) o i r)
          ⟨_,v4,rfl,s7,hO7,hW7,hP7,hF7,Rv.Fnd.start _ _ _ (by simp) (fun x hx=>(List.mem_replicate.mp hx).2)⟩ ?_ ?_
        · rintro i σ H8 hi ⟨r,v4',rfl,s8,hO8,hW8,hP8,hF8,FD⟩
          have zi:(1:Int) + (i:Int)=((i + 1:Nat):Int):=by omega
          rw [zi]
          have hiw:i + 1<wd.length:=by omega
          have wi:wd[i + 1]?=some wd[i + 1]:=List.getElem?_eq_getElem hiw
          have fl:=FD.len
          refine ⟨_,rfl,_,rfl,lw,_,_,_,rfl,rfl,SqL.of hW8,bx wi,_,rfl,rfl,_,rfl,?_⟩
          by_cases hm:wd[i + 1]=-1
          · rw [hm]
            refine Jy rfl ?_
            exact ⟨r,_,rfl,s8,hO8,hW8,hP8,hF8,FD.same _⟩
          · have hd:(!decide (V.int wd[i + 1]=V.int (-1)))=true:=by simp [hm]
            rw [hd]
            refine Cm ?_
            obtain ⟨w0,w1⟩:=(W.lt _ _ wi).resolve_left hm
            obtain ⟨ka,hka,pa,oa⟩:=PL.all O (k:=i + 1) (by omega)
            obtain ⟨kb,hkb,pb,ob⟩:=PL.all O (k:=wd[i + 1].toNat) (by omega)
            refine ⟨_,rfl,_,rfl,_,rfl,lw,_,_,_,rfl,rfl,SqL.of hW8,bx wi,lp,_,_,_,rfl,rfl,SqL.of hP8,jJ w0 pb,_,rfl,_,rfl,_,rfl,lp,_,_,_,rfl,rfl,SqL.of hP8,bx pa,lf,_,_,_,rfl,rfl,hF8,gW (by rw [List.length_map,fl];exact hka),?_⟩
            refine ⟨_,_,rfl,s8.upd nf,by rw [aN nOf];exact hO8,by rw [aN nWf];exact hW8,by rw [aN nPf];exact hP8,by rw [aV,← List.map_set],FD.turn hkb oa ob (by omega) _⟩
        · rintro σ H8 ⟨r,v4',rfl,s8,hO8,hW8,hP8,hF8,FD⟩
          exact ⟨_,rfl,q lf H8 _ s8 nf hF8 ⟨r,rfl,FD.Q8 O,FD.len⟩⟩
abbrev cD:Stmt:=top 32
theorem qx:aX ["found"] ["found"] (ao cD):=⟨rfl,rfl,rfl,by decide +kernel,rfl,by decide +kernel,by decide +kernel⟩
def ql:Sp:=fun vs H Q _=>∃ (z:Int),vs=[.int z]∧Q (.bl true) H
theorem DK (K:PySem.W.Frag):PySem.W.kitOne K (.type "int") (.type "int")=some true:=by rfl
theorem DN (K:PySem.W.Frag):PySem.W.kitOne K (.type "int") (.type "bool")=some false:=by rfl
theorem DG (K:PySem.W.Frag):PySem.W.kitOne K (.type "list") (.type "list")=some true:=by rfl
theorem BJ {f:Addr} {fd:FuncData} (D:Df K mg "_law_whole" cD ["found"] f fd) (B:Blt mg):cI P w K mg base CX0 1 f fd ["found"] ql:=by
  refine D.F.ok qx (fun vs H Q E h=>?_) (fun cdv A outer s H vs Q E hr h=>?_)
  · obtain ⟨z,rfl,_⟩:=h;rfl
  · obtain ⟨z,rfl,q⟩:=h
    refine ⟨_,(aB (bw (Du (aJ jL rfl B.isinstance PyProof.Rows.boot_isinstance (ak (pv 0) (ak (qF (v:=.ty "int") rfl B.int PyProof.Rows.boot_int rfl) aq))) (Dt (Kr (aJ jL rfl B.isinstance PyProof.Rows.boot_isinstance (ak (pv 0) (ak (qF (v:=.ty "bool") rfl B.bool PyProof.Rows.boot_bool rfl) aq)))))))),?_⟩
    refine ⟨_,rfl,_,_,_,true,rfl,.int _,DK K,_,rfl,Cm ?_⟩
    exact ⟨_,rfl,_,_,_,false,rfl,.int _,DN K,_,rfl,q⟩
theorem jt (n:Nat) (x:Int):(List.replicate n [V.int x]).flatten=(List.replicate n x).map V.int:=by rw [List.map_replicate];exact uf _ _
theorem oO {w cur:List Int} {c z:Int} {j:Nat} (hz:w[j]?=some z):Tn.bump cur (w.take (j + 1)) c=(Tn.bump cur (w.take j) c).set z.toNat ((Tn.bump cur (w.take j) c).getD z.toNat 0 + c):=by
  rw [List.take_add_one,hz];exact Tn.Al _ _ _ _
abbrev iw:Stmt:=top 5
theorem rH:aX ["below","reach","way"] ["below","reach"] (ao iw):=⟨rfl,rfl,rfl,by decide +kernel,rfl,by decide +kernel,by decide +kernel⟩
def yw (K:PySem.W.Frag):Sp:=fun vs H Q _=>∃ (a:Addr) (r:List Int) (p:Int),vs=[.ref a,.int p]∧SqL K H a (r.map V.int)∧Rv.eX r∧0≤p∧p<r.length∧r.length≤900 ∧
  JZ H (fun xs=>xs=(Rv.walk r p).map V.int) Q
theorem Ao (pre:List Int) (z:Int):atI ((pre++[z]).map V.int) (-1)=some (V.int z):=by
  rw [List.map_append];exact Dc _ _
theorem Kw {f:Addr} {fd:FuncData} (D:Df K mg "way_of" iw ["below","reach"] f fd) (C:Mth mg):cI P w K mg base CX0 1 f fd ["below","reach"] (yw K):=by
  obtain ⟨tM,hMOUTH⟩:=C.MOUTH
  refine D.F.ok rH (fun vs H Q E h=>?_) (fun cdv A outer s H vs Q E hr h=>?_)
  · obtain ⟨a,r,p,rfl,_⟩:=h;rfl
  · obtain ⟨a,r,p,rfl,hS,hR,p0,p1,hn,q⟩:=h
    refine ⟨_,(au (aO (i:=2) rH.nd rfl (Or.inl rfl) (gP (ak (pv 1) aq)))
      (au (qz PassesOwn.never (aZ pq (aQ aH (pv 0) (aQ aH (pv 2) (kI iR aA) (fun _ _=>rfl)) (fun _ _=>rfl)) (uq (v:=.int (-1)) rfl hMOUTH ⟨_,rfl⟩) (bD _))
        (aB (iW (qD PySem.F.plainAttrs_list PySem.F.slot_list_append PySem.F.type_list_append gq (pv 2) (ak (aQ aH (pv 0) (aQ aH (pv 2) (kI iR aA) (fun _ _=>rfl)) (fun _ _=>rfl)) aq)))))
      (aB (bw (pv 2))))),?_⟩
    refine sl_4 ?_
    intro zu0 zu1 zu2
    refine ⟨_,rfl,(by show 1≤sizeLine;decide),fun lw hlw=>?_⟩
    refine ⟨fun m σ H'=>∃ (pre:List Int) (z:Int),σ=[some (.ref a),some (.int p),some (.ref lw)]∧Same H H'∧H' lw=some (.lst ((pre++[z]).map V.int))∧0≤z∧z<r.length∧pre++Rv.walk r z=Rv.walk r p∧m=Rv.mea r z,
      ⟨_,[],p,rfl,(Same.refl H).upd hlw,aV,p0,p1,rfl,rfl⟩,?_⟩
    rintro m σ H2 ⟨pre,z,rfl,s2,h2,z0,z1,e,rfl⟩
    have g:=Rv.jK z0 z1
    have hlen:pre.length + (Rv.walk r z).length≤r.length + 1:=by
      have:=Rv.uW r p
      rw [← e,List.length_append] at this;exact this
    refine ⟨_,rfl,_,rfl,_,rfl,lw,_,_,_,rfl,rfl,SqL.of h2,Ao pre z,a,_,_,_,rfl,rfl,s2.seq hS,jJ z0 g,rfl,_,rfl,?_⟩
    rcases hR.step z0 z1 with hm | ⟨n0,n1⟩
    · rw [hm]
      refine Jy rfl ?_
      refine ⟨_,rfl,q lw H2 _ s2 hlw h2 ?_⟩
      have ew:Rv.walk r z=[z]:=by rw [Rv.cO hR z0 z1,hm,Rv.jA]
      rw [← e,ew]
    · have hd:(!decide (V.int (Rv.nxt r z)=V.int (-1)))=true:=by
        have:¬ Rv.nxt r z=-1:=by omega
        simp [this]
      rw [hd]
      refine Cm ?_
      refine ⟨fun σ' H'=>∃ m',m'<Rv.mea r z∧∃ (pre:List Int) (z:Int),σ'=[some (.ref a),some (.int p),some (.ref lw)]∧Same H H'∧H' lw=some (.lst ((pre++[z]).map V.int))∧0≤z∧z<r.length∧pre++Rv.walk r z=Rv.walk r p∧m'=Rv.mea r z,fun _ _ x=>x,?_⟩
      refine ⟨_,rfl,.inl ⟨rfl,_,SqL.of h2⟩,_,rfl,_,rfl,_,rfl,lw,_,_,_,rfl,rfl,SqL.of h2,Ao pre z,a,_,_,_,rfl,rfl,s2.seq hS,jJ z0 g,lw,_,_,rfl,rfl,h2,aY ?_,?_⟩
      · rw [List.length_map,List.length_append]
        have:1≤(Rv.walk r z).length:=by rw [Rv.cO hR z0 z1];exact Nat.succ_le_succ (Nat.zero_le _)
        show pre.length + 1≤_
        omega
      · refine ⟨_,Rv.Dy hR z0 z1,pre++[z],Rv.nxt r z,rfl,s2.upd hlw,?_,n0,n1,?_,rfl⟩
        · rw [aV,List.map_append (l₁:=pre++[z])];rfl
        · rw [List.append_assoc]
          show pre++(z :: Rv.walk r (Rv.nxt r z))=_
          rw [← Rv.cO hR z0 z1];exact e
abbrev cC:Stmt:=top 6
theorem qw:aX ["below"] ["below"] (ao cC):=⟨rfl,rfl,rfl,by decide +kernel,rfl,by decide +kernel,by decide +kernel⟩
def JW (K:PySem.W.Frag) (H:Hp) (a:Addr) (r:List Int):Prop:=SqL K H a (r.map V.int)∧Rv.eX r∧r.length<64
def cN:Pos × Str:=(⟨14,41,14,90⟩,"tops_first.<locals>.<lambda>")
def TT1 (P:Addr) (T:fU):Prop:=(P,cN.1,cN.2)∈T∧(T.map (·.1)).Nodup
def yx (K:PySem.W.Frag) (T:fU):Sp:=fun vs H Q _=>∃ (a:Addr) (r:List Int),vs=[.ref a]∧JW K H a r∧TabsOk T H ∧
  oX T H (fun xs=>∃ p,xs=p.map (fun (i:Nat)=>V.int (i:Int))∧Rv.Bb r p) Q
theorem Jv {r:List Int} {i j:Nat} (hi:i<64) (hj:j<64):HT.lexLt [-((Rv.walk r (i:Int)).length:Int),(i:Int)] [-((Rv.walk r (j:Int)).length:Int),(j:Int)]=decide (Rv.kap r i<Rv.kap r j):=by
  unfold Rv.kap
  rw [HT.iJ,HT.iJ,HT.jG]
  rw [Bool.eq_iff_iff]
  split
  · split
    · simp only [Bool.false_eq_true,decide_eq_true_eq,false_iff];omega
    · simp only [decide_eq_true_eq];omega
  · simp only [decide_eq_true_eq];omega
theorem Jj {f fW:Addr} {fd fdW:FuncData} {pT cT:Addr} {T:fU} (D:Df K mg "tops_first" cC ["below"] f fd) (hcd:fd.code=.ref cT) (hhd:PySem.W.codeHdIn K cT pT=true) (hT:TT1 pT T) (hbm:BM mg base) (B:Blt mg)
    (gB:Df K mg "way_of" iw ["below","reach"] fW fdW) (qW:cI P w K mg base CX0 1 fW fdW ["below","reach"] (yw K)):cI P w K mg base CX0 5 f fd ["below"] (yx K T):=by
  refine D.F.okC hcd qw (fun vs H Q E h=>?_) (fun A outer s H vs Q E hr h=>?_)
  · obtain ⟨a,r,rfl,_⟩:=h;rfl
  · obtain ⟨a,r,rfl,⟨hS,hR,h64⟩,tk,q⟩:=h
    refine ⟨_,(aB (bw (mV (P:=pT) (c:=cT) (p:="reach") (ao cC) rfl ["below"] rfl ["below"] [some 0] (by decide +kernel) (by decide +kernel) (by decide +kernel) rfl hbm rfl hhd (vO (hr.mono (by decide))) rfl B.sorted rfl B.range (ak (aJ aC rfl B.len PySem.boot_len (ak (pv 0) aq)) aq) (fun A f cv s H hh hd hu=>(jw (ak (kI iR (aJ (qR (K:=K) rfl) rfl B.len PySem.boot_len (ak (aK qW (vN (hr.mono (by decide)) hh hd hu) rfl gB.m gB.F.kp gB.b .nil bK (ak (pv 1) (ak (pv 0) aq))) aq))) (ak (pv 0) aq)))) (fun _ _ _ _=>rfl)))),?_⟩
    have hl:(r.map V.int).length=r.length:=List.length_map _
    refine ⟨_,rfl,a,_,rfl,.inl hS,r.length,by rw [hl],h64,tk _ hT.1,fun H2 k1 k2 t2=>?_⟩
    have sT:bA T H H2:=bA.tab tk hT.1 hT.2 k1 t2
    refine ⟨fun i ts H3=>bA T H2 H3∧ts.length=i∧∀ (j:Nat) (t:Addr),ts[j]?=some t→H3 t=some (.tup ([-((Rv.walk r (j:Int)).length:Int),(j:Int)].map V.int)),fun i=>[-((Rv.walk r (i:Int)).length:Int),(i:Int)],Rv.kap r,1,⟨bA.refl sT.t1,rfl,fun j t e=>by simp at e⟩,?_,?_,fun _ _=>rfl,fun i j hi hj=>Jv (by omega) (by omega),?_,?_⟩
    · rintro i ts H3 hi ⟨s3,htl,h3⟩
      refine ⟨fun c' e=>s3.keep c' _ e fun ps z=>(by cases z),?_⟩
      refine ⟨_,rfl,_,rfl,a,r,(i:Int),rfl,(sT.trans s3).seq hS,hR,by omega,by omega,by omega,fun l H4 xs s4 n4 h4 e4=>?_⟩
      subst e4
      refine ⟨l,_,rfl,.inl (SqL.of h4),_,rfl,_,rfl,(by show 2≤sizeLine;decide),fun t ht=>⟨t,rfl,?_⟩⟩
      have sT4:bA T H2 H4:=s3.trans (bA.of s3.t1 s4)
      have nt:H2 t=none:=sT4.free ht
      refine ⟨sT4.upd nt (.inl ht),by rw [List.length_append,htl];rfl,fun j t' e=>?_⟩
      by_cases hj:j<ts.length
      · rw [List.getElem?_append_left hj] at e
        have h4':=s4 _ _ (h3 j t' e)
        rw [aN (aR h4' ht)];exact h4'
      · rw [List.getElem?_append_right (by omega)] at e
        have hj0:j - ts.length=0:=by
          have:=(List.getElem?_eq_some_iff.mp e).1
          simp at this;omega
        have hji:j=i:=by omega
        rw [hj0] at e
        simp at e
        subst e
        subst hji
        rw [aV,List.length_map];rfl
    · rintro ts H3 ⟨_,_,h3⟩
      exact h3
    · intro i j hi hj hij e
      unfold Rv.kap at e
      omega
    · rintro ts H3 D' ys ⟨s3,_,_⟩ hD ⟨p,hp,rfl,ho⟩
      have hbl:(gC r.length).length=r.length:=by unfold gC;simp
      rw [hbl] at hp
      refine q D' _ _ ((sT.trans s3).upd ((sT.trans s3).free hD) (.inl hD)) ((sT.trans s3).free hD) aV ⟨p,?_,hp,ho⟩
      refine List.map_congr_left fun i hi=>?_
      have hi':i<r.length:=List.mem_range.mp (hp.mem_iff.mp hi)
      show (gC r.length).getD i .non=_
      unfold gC
      rw [List.getD_eq_getElem?_getD,List.getElem?_map,List.getElem?_range hi'];rfl
abbrev cY:Stmt:=top 9
theorem jB:aX ["below","springs","flows","reach"] ["below","springs"] (ao cY):=⟨rfl,rfl,rfl,by decide +kernel,rfl,by decide +kernel,by decide +kernel⟩
def Dg (K:PySem.W.Frag) (T:fU):Sp:=fun vs H Q _=>∃ (a b:Addr) (r s:List Int),vs=[.ref a,.ref b]∧JW K H a r∧SqL K H b (s.map V.int)∧s.length=r.length∧TabsOk T H ∧
  oX T H (fun xs=>xs=(Rv.nats r s).map V.int) Q
theorem Kz {f fT:Addr} {fd fdT:FuncData} {T:fU} (D:Df K mg "natural_of" cY ["below","springs"] f fd) (B:Blt mg) (C:Mth mg)
    (fC:Df K mg "tops_first" cC ["below"] fT fdT) (sX:cI P w K mg base CX0 5 fT fdT ["below"] (yx K T)):cI P w K mg base CX0 6 f fd ["below","springs"] (Dg K T):=by
  obtain ⟨tM,hMOUTH⟩:=C.MOUTH
  refine D.F.ok jB (fun vs H Q E h=>?_) (fun cdv A outer s H vs Q E hr h=>?_)
  · obtain ⟨a,b,r,s,rfl,_⟩:=h;rfl
  · obtain ⟨a,b,r,sp,rfl,⟨hS,hR,h64⟩,hB,hl,tk,q⟩:=h
    refine ⟨_,(au (aO (i:=2) jB.nd rfl (Or.inl rfl) (cP cH rfl B.list PyProof.Rows.boot_list (ak (pv 1) aq)))
      (au (dZ PassesOwn.never rfl (cu (aK sX (hr.mono (by decide)) rfl fC.m fC.F.kp fC.b .nil bK (ak (pv 0) aq))) (aL (i:=3) jB.nd rfl (Or.inl rfl))
        (aB (gD (aZ pq (aQ aH (pv 0) (pv 3) (fun _ _=>rfl)) (uq (v:=.int (-1)) rfl hMOUTH ⟨_,rfl⟩) (bD _))
          (aB (nY (pv 2) (aQ aH (pv 0) (pv 3) (fun _ _=>rfl)) lM (aQ aH (pv 2) (pv 3) (fun _ _=>rfl)) vP set_list))
          bR)))
      (aB (bw (pv 2))))),?_⟩
    refine sl_5 ?_
    intro zu0 zu1 zu2 zu3
    have O:=Ow.refl tk
    refine ⟨_,rfl,b,_,rfl,.inl hB,fun lf hlf=>?_⟩
    walk_at "new";intro H1 O
    refine ⟨_,rfl,a,r,rfl,⟨O.same.seq hS,hR,h64⟩,O.same.t1,O.tL fun lt H2 xs O ⟨p,ep,hp⟩=>?_⟩
    subst ep
    refine ⟨lt,rfl,⟨_,O.sq 0⟩,?_⟩
    refine gA (K:=K) (a:=lt) (xs:=p.map fun (i:Nat)=>V.int (i:Int)) (fun t σ H3=>∃ (v3:Option V) (fl:List Int),σ=[some (.ref a),some (.ref b),some (.ref lf),v3]∧Ow T H H3 [(lt,.lst (p.map fun (i:Nat)=>V.int (i:Int))),(lf,.lst (fl.map V.int))]∧Rv.wz r sp p t fl)
      ⟨none,sp,rfl,O,Rv.wz.start r sp p hl⟩ (fun _ _ _ _ ⟨_,_,_,O,_⟩=>O.sq 0) ?_ ?_
    · rintro t y σ H3 hy ⟨v3,fl,rfl,O,N⟩
      rw [List.getElem?_map] at hy
      obtain ⟨j,hj,rfl⟩:∃ j,p[t]?=some j∧y=V.int (j:Int):=by
        cases e:p[t]? with
        | none=>rw [e] at hy;cases hy
        | some j=>rw [e] at hy;exact ⟨j,rfl,(Option.some.inj hy).symm⟩
      have hjr:=hp.lt (List.mem_of_getElem? hj)
      have gj:=Rv.jK (r:=r) (p:=(j:Int)) (by omega) (by omega)
      have aj:=jJ (ns:=r) (i:=(j:Int)) (by omega) gj
      have here:=N.here hp hR h64 hj
      refine ⟨_,rfl,_,rfl,a,_,_,_,rfl,rfl,O.same.seq hS,aj,rfl,_,rfl,?_⟩
      rcases hR.step (p:=(j:Int)) (by omega) (by omega) with hm | ⟨n0,n1⟩
      · rw [hm]
        refine Jy rfl ?_
        exact ⟨_,fl,rfl,O,N.Rj hj hm⟩
      · have hd:(!decide (V.int (Rv.nxt r (j:Int))=V.int (-1)))=true:=by
          have:¬ Rv.nxt r (j:Int)=-1:=by omega
          simp [this]
        rw [hd]
        refine Cm ?_
        obtain ⟨bn,ebn⟩:=Int.eq_ofNat_of_zero_le n0
        have hbl:bn<r.length:=by omega
        rw [ebn] at aj
        obtain ⟨x,hx⟩:∃ x,fl[bn]?=some x:=⟨_,N.at_ bn hbl⟩
        refine ⟨_,rfl,_,rfl,_,rfl,a,_,_,_,rfl,rfl,O.same.seq hS,aj,lf,_,bn,V.int x,rfl,rfl,O.sq 1,by rw [List.getElem?_map,hx];rfl,_,rfl,_,rfl,lf,_,_,_,rfl,rfl,O.sq 1,bx here,_,_,rfl,rfl,?_⟩
        refine vH O 1 rfl (gW (by rw [List.length_map,N.len];exact hbl)) fun H4 O=>?_
        refine ⟨_,fl.set bn (x + Rv.nj r sp (j:Int)),rfl,?_,N.turn hp hR h64 hj ebn hbl hx⟩
        rw [List.map_set];exact O
    · rintro σ H3 ⟨v3,fl,rfl,O,N⟩
      rw [List.length_map,hp.len] at N
      exact ⟨_,rfl,O.ret 1 rfl q (by rw [N.done hp hR])⟩
abbrev cW:Stmt:=top 7
theorem lE:aX ["below","start","stop","way"] ["below","start","stop"] (ao cW):=⟨rfl,rfl,rfl,by decide +kernel,rfl,by decide +kernel,by decide +kernel⟩
theorem u9 (b:Int):∀ l:List Int,l.take (l.idxOf b)=l.takeWhile (fun x=>!decide (x=b))
  | []=>rfl
  | x :: l=>by
    rw [List.idxOf_cons,List.takeWhile_cons]
    by_cases h:x=b
    · simp [h]
    · have e:(x == b)=false:=by simp [h]
      rw [e,cond_false,List.take_succ_cons,u9 b l]
      simp [h]
theorem qO (ns:List Int) (k:Nat):pF (ns.map V.int) none (some (k:Int))=(ns.take k).map V.int:=by
  unfold pF
  rw [HT.Bp,HT.mq,List.drop_zero,List.length_map,Nat.sub_zero,← List.map_take]
  congr 1
  rw [List.take_eq_take_iff];omega
def vm (K:PySem.W.Frag):Sp:=fun vs H Q _=>∃ (a:Addr) (r:List Int) (p b:Int),vs=[.ref a,.int p,.int b]∧SqL K H a (r.map V.int)∧Rv.eX r∧0≤p∧p<r.length∧r.length≤900∧Rv.Stop r p b ∧
  JZ H (fun xs=>xs=(Rv.eN r p b).map V.int) Q
theorem BL {f fW:Addr} {fd fdW:FuncData} (D:Df K mg "stretch_of" cW ["below","start","stop"] f fd) (C:Mth mg) (gB:Df K mg "way_of" iw ["below","reach"] fW fdW)
    (qW:cI P w K mg base CX0 1 fW fdW ["below","reach"] (yw K)):cI P w K mg base CX0 2 f fd ["below","start","stop"] (vm K):=by
  obtain ⟨tM,hMOUTH⟩:=C.MOUTH
  refine D.F.ok lE (fun vs H Q E h=>?_) (fun cdv A outer s H vs Q E hr h=>?_)
  · obtain ⟨a,r,p,b,rfl,_⟩:=h;rfl
  · obtain ⟨a,r,p,b,rfl,hS,hR,p0,p1,hn,st,q⟩:=h
    refine ⟨_,(au (aO (i:=3) lE.nd rfl (Or.inl rfl) (aK qW (hr.mono (by decide)) rfl gB.m gB.F.kp gB.b .nil bK (ak (pv 0) (ak (pv 1) aq))))
      (au (gD (aZ pA (pv 2) (uq (v:=.int (-1)) rfl hMOUTH ⟨_,rfl⟩) (bD _))
        (aB (bw (pv 3)))
        bR)
      (au (gD (aZ mY (pv 2) (pv 3) (by rfl))
        (aB Bv)
        bR)
      (aB (bw (jh jQ (pv 3) nZ (iY (qD PySem.F.plainAttrs_list PySem.F.slot_list_index PySem.F.type_list_index BZ (pv 3) (ak (pv 2) aq))))))))),?_⟩
    refine sl_6 ?_
    intro zu0 zu1 zu2 zu3 zu4
    refine ⟨_,rfl,_,rfl,a,r,p,rfl,hS,hR,p0,p1,hn,fun lw H1 xs s1 n1 h1 e1=>?_⟩
    subst e1
    refine ⟨_,rfl,rfl,_,rfl,Qp (fun h=>?_) fun h=>?_⟩
    · have hb:b=-1:=V.int.inj (of_decide_eq_true h)
      refine ⟨_,rfl,q lw H1 _ s1 n1 h1 ?_⟩
      unfold Rv.eN;rw [if_pos hb]
    · have hb:¬ b=-1:=fun z=>h (decide_eq_true (by rw [z]))
      have hm:b∈Rv.walk r p:=st.resolve_left hb
      refine ⟨_,rfl,_,rfl,lw,_,rfl,.inl (SqL.of h1),rfl,oK _,_,rfl,?_⟩
      rw [if_pos rfl,uF,decide_eq_true hm]
      refine xJ ?_
      refine ⟨_,rfl,_,rfl,.inl ⟨rfl,_,SqL.of h1⟩,_,rfl,lw,_,b,rfl,rfl,SqL.of h1,hm,_,rfl,lw,_,rfl,SqL.of h1,fun l hl=>?_⟩
      refine q l _ _ (s1.upd (s1.free hl)) (s1.free hl) aV ?_
      rw [qO,u9]
      unfold Rv.eN;rw [if_neg hb]
abbrev cX:Stmt:=top 11
theorem fV:aX ["below","one","day","start","back","most"] ["below","one"] (ao cX):=⟨rfl,rfl,rfl,by decide +kernel,rfl,by decide +kernel,by decide +kernel⟩
def Qj (r:List Int) (l:Lic):Prop:=0≤l.start∧l.start<r.length∧Rv.Stop r l.start l.back
def pL (K:PySem.W.Frag):Sp:=fun vs H Q _=>∃ (a t:Addr) (r:List Int) (l:Lic),vs=[.ref a,.ref t]∧SqL K H a (r.map V.int)∧Rv.eX r∧r.length≤900∧SqT K H t (m8 l)∧Qj r l∧JZ H (fun xs=>xs=(Rv.eN r l.start l.back).map V.int) Q
theorem wU {f f1:Addr} {fd fd1:FuncData} (D:Df K mg "reaches_of" cX ["below","one"] f fd) (fD:Df K mg "stretch_of" cW ["below","start","stop"] f1 fd1) (sY:cI P w K mg base CX0 2 f1 fd1 ["below","start","stop"] (vm K)) :
    cI P w K mg base CX0 3 f fd ["below","one"] (pL K):=by
  refine D.F.ok fV (fun vs H Q E h=>?_) (fun cdv A outer s H vs Q E hr h=>?_)
  · obtain ⟨_,_,_,_,rfl,_⟩:=h;rfl
  · obtain ⟨a,t,r,l,rfl,hA,hR,hn,hT,ok,q⟩:=h
    refine ⟨_,(au (j9 (pv 1) (mU rfl (bC (aL (i:=2) fV.nd rfl (Or.inl rfl)) (bC (aL (i:=3) fV.nd rfl (Or.inl rfl)) (bC (aL (i:=4) fV.nd rfl (Or.inl rfl)) (bC (aL (i:=5) fV.nd rfl (Or.inl rfl)) iZ))))))
      (aB (bw (aK sY (hr.mono (by decide)) rfl fD.m fD.F.kp fD.b .nil bK (ak (pv 0) (ak (pv 3) (ak (pv 4) aq))))))),?_⟩
    refine Te ?_
    intro zu0
    refine ⟨_,rfl,t,_,rfl,hT,rfl,_,_,rfl,_,_,rfl,_,_,rfl,_,_,rfl,rfl,?_⟩
    exact ⟨_,rfl,_,rfl,_,rfl,a,r,l.start,l.back,rfl,hA,hR,ok.1,ok.2.1,hn,ok.2.2,q⟩
abbrev gK:Stmt:=top 13
theorem wO:aX ["one"] ["one"] (ao gK):=⟨rfl,rfl,rfl,by decide +kernel,rfl,by decide +kernel,by decide +kernel⟩
def yD (K:PySem.W.Frag):Sp:=fun vs H Q _=>∃ (a:Addr) (l:Lic),vs=[.ref a]∧SqT K H a (m8 l)∧Q (.int l.most) H
theorem Jl {f:Addr} {fd:FuncData} (D:Df K mg "most_of" gK ["one"] f fd):cI P w K mg base CX0 1 f fd ["one"] (yD K):=by
  refine D.F.ok wO (fun vs H Q E h=>?_) (fun cdv A outer s H vs Q E hr h=>?_)
  · obtain ⟨c,k,rfl,_⟩:=h;rfl
  · obtain ⟨a,l,rfl,hT,q⟩:=h
    refine ⟨_,(aB (bw (aQ d9 (pv 0) aA (fun _ _=>rfl)))),?_⟩
    exact ⟨_,rfl,_,_,_,_,rfl,rfl,hT,rfl,q⟩
abbrev eG:Stmt:=top 17
theorem tZ:aX ["roll","calls"] ["roll","calls"] (ao eG):=⟨rfl,rfl,rfl,by decide +kernel,rfl,by decide +kernel,by decide +kernel⟩
def jd (ls:List Lic) (cs:List Int):List Int:=List.zipWith (fun l c=>min c l.most) ls cs
theorem Le (i j:Int):(if j<i then j else i)=min i j:=by
  by_cases h:j<i
  · rw [if_pos h];omega
  · rw [if_neg h];omega
theorem Bc {α β γ:Type} (f:α→β→γ) {as:List α} {bs:List β} {i:Nat} {a:α} {b:β} (ha:as[i]?=some a) (hb:bs[i]?=some b):List.zipWith f (as.take (i + 1)) (bs.take (i + 1))=List.zipWith f (as.take i) (bs.take i)++[f a b]:=by
  have h1:=(List.getElem?_eq_some_iff.mp ha)
  have h2:=(List.getElem?_eq_some_iff.mp hb)
  obtain ⟨l1,e1⟩:=h1
  obtain ⟨l2,e2⟩:=h2
  rw [List.take_succ,List.take_succ,ha,hb,List.zipWith_append (by rw [List.length_take,List.length_take];omega)]
  rfl
def vh (K:PySem.W.Frag) (T:fU):Sp:=fun vs H Q _=>∃ (v:V) (b:Addr) (ls:List Lic) (cs:List Int),vs=[v,.ref b]∧Den K H v (su ls)∧SqL K H b (cs.map V.int)∧ls.length=cs.length∧ls.length≤1000∧TabsOk T H∧oX T H (fun xs=>xs=(jd ls cs).map V.int) Q
theorem BK {f f1:Addr} {fd fd1:FuncData} (D:Df K mg "wants_of" eG ["roll","calls"] f fd) (B:Blt mg) (jy:Df K mg "most_of" gK ["one"] f1 fd1) (Av:cI P w K mg base CX0 1 f1 fd1 ["one"] (yD K)) :
    cI P w K mg base CX0 2 f fd ["roll","calls"] (vh K T):=by
  refine D.F.ok tZ (fun vs H Q E h=>?_) (fun cdv A outer s H vs Q E hr h=>?_)
  · obtain ⟨_,_,_,_,rfl,_⟩:=h;rfl
  · obtain ⟨v,b,ls,cs,rfl,hd,hb,hlc,hlen,tk,q⟩:=h
    obtain ⟨a,xs,rfl,hL,hds⟩:=hd.iz
    have hxl:xs.length=ls.length:=by rw [hds.length,List.length_map]
    refine ⟨_,(aB (bw (jD (ao eG) rfl ["roll","calls"] rfl ["one","call"] [none,none] (by decide +kernel) (by decide +kernel) (by decide +kernel) rfl (vG rfl B.zip (ak (pv 0) (ak (pv 1) aq))) (fun _ _ _=>(qC (K:=K) (n:=2) rfl rfl (bC (aL (i:=0) (show (["one","call"]:List Str).Nodup by decide +kernel) rfl (Or.inl rfl)) (bC (aL (i:=1) (show (["one","call"]:List Str).Nodup by decide +kernel) rfl (Or.inl rfl)) iZ)))) (fun _ _ _=>gk) (fun _ _ _=>(aJ (sG rfl) rfl B.min PyProof.Rows.boot_min (ak (pv 1) (ak (aK Av (hr.mono (by decide)) rfl jy.m jy.F.kp jy.b .nil bK (ak (pv 0) aq)) aq))))))),?_⟩
    have O:=Ow.refl tk
    refine ⟨_,rfl,_,rfl,a,b,_,_,rfl,hL,hb,fun acc hacc=>?_⟩
    refine vX (K:=K) (fun i τ H'=>Iv (∃ (v0 v1:Option V),τ=[v0,v1]∧Ow T H H' [(acc,.lst ((List.zipWith (fun l c=>min c l.most) (ls.take i) (cs.take i)).map V.int))])) (by rw [List.length_map];omega)
      ⟨trivial,none,none,rfl,O.mk' hacc rfl⟩ (fun i τ H' _ ⟨_,_,_,_,O⟩=>⟨O.same.seq hL,O.same.seq hb⟩) ?_ ?_
    · rintro i x y t τ H' hx hy ⟨-,v0,v1,rfl,O⟩ ht
      obtain ⟨z,hz,rfl⟩:=ints_get hy
      obtain ⟨al,l,rfl,hl,hT⟩:=hds.zE hx
      have hi:=(List.getElem?_eq_some_iff.mp hz).1
      walk_at "nw"
      refine ⟨t,_,rfl,O.sqT 0,rfl,_,_,rfl,_,_,rfl,rfl,?_⟩
      refine Qm ?_
      refine ⟨_,rfl,_,rfl,al,l,rfl,hT.mo O.same,_,_,rfl,?_⟩
      refine ⟨_,O.get 1,aY (by rw [List.length_map,List.length_zipWith,List.length_take];omega),?_⟩
      walk_at "pt"
      refine ⟨trivial,_,_,rfl,?_⟩
      rw [Bc _ hl hz,List.map_append,← Le]
      exact O.tail
    · rintro τ H' ⟨-,v0,v1,rfl,O⟩
      refine O.ret 0 rfl q ?_
      rw [hxl,List.take_of_length_le (Nat.le_refl _),List.take_of_length_le (by omega)];rfl
abbrev dh:Stmt:=top 19
theorem iu:aX ["free","ways","counts","way","reach"] ["free","ways"] (ao dh):=⟨rfl,rfl,rfl,by decide +kernel,rfl,by decide +kernel,by decide +kernel⟩
def vq (K:PySem.W.Frag) (T:fU):Sp:=fun vs H Q _=>∃ (a:Addr) (v:V) (fs:List Int) (ws:List (List Int)),vs=[.ref a,v]∧SqL K H a (fs.map V.int)∧fs.length≤1000∧Den K H v (vW ws)∧(∀ w∈ws,Tn.WOk fs.length w)∧TabsOk T H ∧
  oX T H (fun xs=>xs=(Tn.bumps (List.replicate fs.length 0) (ws.map fun w=>(w,1))).map V.int) Q
theorem BR {f:Addr} {fd:FuncData} (D:Df K mg "count_ways" dh ["free","ways"] f fd) (B:Blt mg):cI P w K mg base CX0 1 f fd ["free","ways"] (vq K T):=by
  refine D.F.ok iu (fun vs H Q E h=>?_) (fun cdv A outer s H vs Q E hr h=>?_)
  · obtain ⟨_,_,_,_,rfl,_⟩:=h;rfl
  · obtain ⟨a,v,fs,ws,rfl,hA,hfl,hd,hws,tk,q⟩:=h
    obtain ⟨b,xs,rfl,hL,hds⟩:=hd.iz
    have hxl:xs.length=ws.length:=by rw [hds.length,List.length_map]
    refine ⟨_,(au (aO (i:=2) iu.nd rfl (Or.inl rfl) (bf mX (gP (ak aA aq)) (aJ aC rfl B.len PySem.boot_len (ak (pv 0) aq))))
      (au (dZ PassesOwn.never rfl (cu (pv 1)) (aL (i:=3) iu.nd rfl (Or.inl rfl))
        (aB (dZ PassesOwn.never rfl (cu (pv 3)) (aL (i:=4) iu.nd rfl (Or.inl rfl))
          (aB (nY (pv 2) (pv 4) lM aA vP set_list)))))
      (aB (bw (pv 2))))),?_⟩
    refine sl_7 ?_
    intro zu0 zu1 zu2 zu3
    have O:=Ow.refl tk
    have s0:=O.same
    walk_at "w"
    intro l1 h1
    walk_at "nw"
    walk_at "w"
    refine ⟨l1,_,_,rfl,rfl,O.get 0,by rw [List.length_map];omega,by rw [List.length_map];omega,ig (by rw [List.length_map,Int.toNat_natCast];simp;omega),fun lc hlc=>?_⟩
    walk_at "nw"
    rw [List.length_map,Int.toNat_natCast,jt] at O
    have O:=O.two
    refine ⟨_,rfl,b,rfl,⟨_,O.same.seq hL⟩,?_⟩
    refine gA (K:=K) (xs:=xs) (fun i σ H'=>Iv (∃ v3 v4:Option V,σ=[some (.ref a),some (.ref b),some (.ref lc),v3,v4]∧Ow T H H' [(lc,.lst ((Tn.bumps (List.replicate fs.length 0) ((ws.take i).map fun w=>(w,1))).map V.int))]))
      ⟨trivial,none,none,rfl,O⟩ (fun i σ H' _ ⟨_,_,_,_,O⟩=>O.same.seq hL) ?_ ?_
    · rintro i x σ H2 hx ⟨-,v3,v4,rfl,O⟩
      obtain ⟨wa,w,rfl,hw,hW⟩:=hds.Iw hx
      have ok:=hws w (List.mem_of_getElem? hw)
      have hnext:Tn.bumps (List.replicate fs.length 0) ((ws.take (i + 1)).map fun w=>(w,(1:Int)))=Tn.bump (Tn.bumps (List.replicate fs.length 0) ((ws.take i).map fun w=>(w,1))) w 1:=by
        rw [List.take_add_one,hw,List.map_append];exact Tn.pZ _ _ _
      have hcl:(Tn.bumps (List.replicate fs.length 0) ((ws.take i).map fun w=>(w,(1:Int)))).length=fs.length:=by rw [Tn.jx,List.length_replicate]
      generalize Tn.bumps (List.replicate fs.length 0) ((ws.take i).map fun w=>(w,(1:Int)))=cur at O hnext hcl
      refine ⟨_,rfl,wa,rfl,⟨_,O.same.seq hW⟩,?_⟩
      refine gA (K:=K) (xs:=w.map V.int) (fun j σ H'=>Iv (∃ v4:Option V,σ=[some (.ref a),some (.ref b),some (.ref lc),some (.ref wa),v4]∧Ow T H H' [(lc,.lst ((Tn.bump cur (w.take j) 1).map V.int))]))
        ⟨trivial,v4,rfl,O⟩ (fun i σ H' _ ⟨_,_,_,O⟩=>O.same.seq hW) ?_ ?_
      · rintro j y σ H3 hy ⟨-,v4,rfl,O⟩
        obtain ⟨z,hz,rfl⟩:=ints_get hy
        obtain ⟨z0,z1⟩:=ok.2 z (List.mem_of_getElem? hz)
        obtain ⟨zn,rfl⟩:=Int.eq_ofNat_of_zero_le z0
        have hbl:(Tn.bump cur (w.take j) 1).length=fs.length:=by rw [Tn.iD,hcl]
        refine ⟨_,rfl,_,rfl,lc,_,zn,_,rfl,rfl,O.sq 0,by rw [List.getElem?_map,bF (by omega)];rfl,?_⟩
        refine ⟨_,_,rfl,rfl,lc,_,_,zn,rfl,rfl,O.get 0,gW (by rw [List.length_map];omega),?_⟩
        walk_at "pt"
        refine ⟨trivial,_,rfl,?_⟩
        rw [oO hz,Int.toNat_natCast,List.map_set];exact O
      · rintro σ H3 ⟨-,v4,rfl,O⟩
        rw [List.length_map,List.take_of_length_le (Nat.le_refl _)] at O
        refine ⟨trivial,_,_,rfl,?_⟩
        rw [hnext];exact O
    rintro σ H2 ⟨-,v3,v4,rfl,O⟩
    refine ⟨_,rfl,O.ret 0 rfl q ?_⟩
    rw [hxl,List.take_of_length_le (Nat.le_refl _)]
abbrev bT:Stmt:=top 20
theorem jm:aX ["free","ways","rests","counts","shares"] ["free","ways","rests"] (ao bT):=⟨rfl,rfl,rfl,by decide +kernel,rfl,by decide +kernel,by decide +kernel⟩
def J7 (K:PySem.W.Frag) (T:fU):Sp:=fun vs H Q _=>∃ (a b:Addr) (v:V) (fs rs:List Int) (ws:List (List Int)),vs=[.ref a,v,.ref b]∧SqL K H a (fs.map V.int)∧Den K H v (vW ws)∧SqL K H b (rs.map V.int)∧fs.length≤1000∧rs.length≤1000∧ws.length≤1000 ∧
  (∀ w∈ws,Tn.WOk fs.length w)∧TabsOk T H∧∀ (M:Int) (H':Hp),bA T H H'→Tn.WT fs (Tn.bumps (List.replicate fs.length 0) (ws.map fun w=>(w,1))) rs M→Q (.int M) H'
theorem Ra {f f1:Addr} {fd fd1:FuncData} (D:Df K mg "whole_turns" bT ["free","ways","rests"] f fd) (B:Blt mg) (fM:Df K mg "count_ways" dh ["free","ways"] f1 fd1) (tE:cI P w K mg base CX0 1 f1 fd1 ["free","ways"] (vq K T)) :
    cI P w K mg base CX0 2 f fd ["free","ways","rests"] (J7 K T):=by
  refine D.F.ok jm (fun vs H Q E h=>?_) (fun cdv A outer s H vs Q E hr h=>?_)
  · obtain ⟨_,_,_,_,_,_,rfl,_⟩:=h;rfl
  · obtain ⟨a,b,v,fs,rs,ws,rfl,hA,hd,hB,hfl,hrl,hwl,hws,tk,q⟩:=h
    refine ⟨_,(au (aO (i:=3) jm.nd rfl (Or.inl rfl) (aK tE (hr.mono (by decide)) rfl fM.m fM.F.kp fM.b .nil bK (ak (pv 0) (ak (pv 1) aq))))
      (au (iH (i:=4) (ao bT) rfl ["free","ways","rests","counts","shares"] rfl ["drops","count"] [none,none] (by decide +kernel) (by decide +kernel) (by decide +kernel) rfl jm.nd rfl rfl (vG rfl B.zip (ak (pv 0) (ak (pv 3) aq))) (fun _ _ _=>(qC (K:=K) (n:=2) rfl rfl (bC (aL (i:=0) (show (["drops","count"]:List Str).Nodup by decide +kernel) rfl (Or.inl rfl)) (bC (aL (i:=1) (show (["drops","count"]:List Str).Nodup by decide +kernel) rfl (Or.inl rfl)) iZ)))) (fun _ _ _=>(yP (aZ uy (pv 1) aA (bD _)))) (fun _ _ _=>(bf jq (pv 0) (pv 1))) rfl)
      (aB (bw (aJ (Aj rfl) rfl B.max PyProof.Rows.boot_max (ak aA (ak (Jg rfl rfl B.min (bf vJ (cP cH rfl B.list PyProof.Rows.boot_list (ak (pv 2) aq)) (pv 4))) aq))))))),?_⟩
    refine Td ?_
    intro zu0 zu1
    have O:=Ow.refl tk
    have s0:=O.same
    refine ⟨_,rfl,_,rfl,a,v,fs,ws,rfl,hA,hfl,hd,hws,tk,O.tL fun lc H2 xs O e=>?_⟩
    subst e
    have hcb:=Tn.cw_bound hws
    have hcl:(Tn.bumps (List.replicate fs.length 0) (ws.map fun w=>(w,(1:Int)))).length=fs.length:=by rw [Tn.jx,List.length_replicate]
    generalize Tn.bumps (List.replicate fs.length 0) (ws.map fun w=>(w,(1:Int)))=cs at O hcb hcl q
    refine ⟨_,rfl,_,rfl,a,lc,_,_,rfl,O.same.seq hA,O.sq 0,fun acc hacc=>?_⟩
    refine vX (K:=K) (fun i τ H'=>Iv (∃ (v0 v1:Option V),τ=[v0,v1]∧Ow T H H' [(acc,.lst ((Tn.shares (fs.take i) (cs.take i)).map V.int)),(lc,.lst (cs.map V.int))])) (by rw [List.length_map,List.length_map];omega)
      ⟨trivial,none,none,rfl,O.mk' hacc rfl⟩ (fun i τ H' _ ⟨_,_,_,_,O⟩=>⟨O.same.seq hA,O.sq 1⟩) ?_ ?_
    · rintro i x y t τ H' hx hy ⟨-,v0,v1,rfl,O⟩ ht
      obtain ⟨z,hz,rfl⟩:=ints_get hx
      obtain ⟨c,hc,rfl⟩:=ints_get hy
      have hi:=(List.getElem?_eq_some_iff.mp hz).1
      have hcm:=hcb c (List.mem_of_getElem? hc)
      have hnext:=Tn.tY hz hc
      have hsl:(Tn.shares (fs.take i) (cs.take i)).length≤1000:=by
        unfold Tn.shares
        rw [List.length_map]
        refine Nat.le_trans (List.length_filter_le _ _) ?_
        rw [List.length_zip,List.length_take];omega
      walk_at "nw"
      refine ⟨t,_,rfl,O.sqT 0,rfl,_,_,rfl,_,_,rfl,rfl,?_⟩
      refine ⟨_,rfl,_,_,rfl,rfl,_,rfl,ifD (fun hp=>?_) fun hp=>?_⟩
      · rw [if_pos hp] at hnext
        refine ⟨_,rfl,_,rfl,_,_,rfl,rfl,⟨hp,by omega⟩,?_⟩
        refine ⟨_,O.get 1,aY (by rw [List.length_map];omega),?_⟩
        walk_at "pt"
        refine ⟨trivial,_,_,rfl,?_⟩
        rw [hnext,List.map_append];exact O.tail
      · rw [if_neg hp,List.append_nil] at hnext
        refine ⟨trivial,_,_,rfl,?_⟩
        rw [hnext];exact O.tail
    rintro τ H' ⟨-,v0,v1,rfl,O⟩
    rw [List.length_map,List.take_of_length_le (Nat.le_refl _),List.take_of_length_le (by omega)] at O
    have hsl:(Tn.shares fs cs).length≤1000:=by
      unfold Tn.shares
      rw [List.length_map]
      refine Nat.le_trans (List.length_filter_le _ _) ?_
      rw [List.length_zip];omega
    refine ⟨_,rfl,b,_,rfl,.inl (O.same.seq hB),fun lr hlr=>?_⟩
    walk_at "nw"
    refine ⟨_,rfl,lr,acc,_,_,rfl,rfl,O.get 0,O.get 1,ig (by rw [List.length_map,List.length_map];omega),fun l2 hl2=>?_⟩
    walk_at "nw"
    rw [← List.map_append] at O
    refine ⟨l2,rs++Tn.shares fs cs,rfl,O.sq 0,fun e0=>?_,fun m hm hle=>?_⟩
    · exact ⟨_,_,rfl,q _ _ O.same (.inl ⟨e0,rfl⟩)⟩
    · refine ⟨_,_,rfl,q _ _ O.same (.inr ⟨m,hm,hle,?_⟩)⟩
      by_cases h:m > 0
      · rw [if_pos h];omega
      · rw [if_neg h];omega
abbrev lG:Stmt:=top 21
theorem yM:aX ["left","way","drops","reach"] ["left","way","drops"] (ao lG):=⟨rfl,rfl,rfl,by decide +kernel,rfl,by decide +kernel,by decide +kernel⟩
def tW (K:PySem.W.Frag) (T:fU):Sp:=fun vs H Q _=>∃ (a b:Addr) (fs w:List Int) (c:Int) (Hb:Hp),vs=[.ref a,.ref b,.int c]∧Ow T Hb H [(a,.lst (fs.map V.int))]∧SqL K Hb b (w.map V.int)∧Tn.WOk fs.length w ∧
  ∀ H',Ow T Hb H' [(a,.lst ((Tn.bump fs w (-c)).map V.int))]→Q .non H'
theorem Jo {f:Addr} {fd:FuncData} (D:Df K mg "draw" lG ["left","way","drops"] f fd):cI P w K mg base CX0 1 f fd ["left","way","drops"] (tW K T):=by
  refine D.F.ok yM (fun vs H Q E h=>?_) (fun cdv A outer s H vs Q E hr h=>?_)
  · obtain ⟨_,_,_,_,_,_,rfl,_⟩:=h;rfl
  · obtain ⟨a,b,fs,w,c,Hb,rfl,O,hW,ok,q⟩:=h
    refine ⟨_,(aB (dZ PassesOwn.never rfl (cu (pv 1)) (aL (i:=3) yM.nd rfl (Or.inl rfl))
        (aB (nY (pv 0) (pv 3) lM (pv 2) Lb set_list)))),?_⟩
    refine sl_9 ?_
    intro zu0
    refine ⟨_,rfl,b,rfl,⟨_,O.same.seq hW⟩,?_⟩
    refine gA (K:=K) (xs:=w.map V.int) (fun j σ H'=>Iv (∃ v3:Option V,σ=[some (.ref a),some (.ref b),some (.int c),v3]∧Ow T Hb H' [(a,.lst ((Tn.bump fs (w.take j) (-c)).map V.int))]))
      ⟨trivial,none,rfl,O⟩ (fun i σ H' _ ⟨_,_,_,O⟩=>O.same.seq hW) ?_ ?_
    · rintro j y σ H3 hy ⟨-,v4,rfl,O⟩
      obtain ⟨z,hz,rfl⟩:=ints_get hy
      obtain ⟨z0,z1⟩:=ok.2 z (List.mem_of_getElem? hz)
      obtain ⟨zn,rfl⟩:=Int.eq_ofNat_of_zero_le z0
      have hbl:(Tn.bump fs (w.take j) (-c)).length=fs.length:=Tn.iD _ _ _
      refine ⟨_,rfl,_,rfl,a,_,zn,_,rfl,rfl,O.sq 0,by rw [List.getElem?_map,bF (by omega)];rfl,?_⟩
      refine ⟨_,rfl,_,_,rfl,rfl,a,_,_,zn,rfl,rfl,O.get 0,gW (by rw [List.length_map];omega),?_⟩
      walk_at "pt"
      refine ⟨trivial,_,rfl,?_⟩
      rw [oO hz,Int.toNat_natCast,List.map_set];exact O
    · rintro σ H3 ⟨-,v4,rfl,O⟩
      rw [List.length_map,List.take_of_length_le (Nat.le_refl _)] at O
      exact q _ O
abbrev aW:Stmt:=top 22
theorem dF:aX ["left","ways","rests","takes","going","unmet","turns","taker"] ["left","ways","rests","takes","going"] (ao aW):=⟨rfl,rfl,rfl,by decide +kernel,rfl,by decide +kernel,by decide +kernel⟩
structure T9 (K:PySem.W.Frag) (T:fU) (H Hb:Hp) (a b t g:Addr) (v:V) (fs rs xs:List Int) (ws:List (List Int)) (gs:List Nat):Prop where
  O:Ow T Hb H [(a,.lst (fs.map V.int)),(t,.lst (xs.map V.int))]
  d0:Den K Hb v (vW ws)
  d1:SqL K Hb b (rs.map V.int)
  d2:SqL K Hb g ((Tn.asI gs).map V.int)
  rl:rs.length=ws.length
  xl:xs.length=ws.length
  gn:∀ k∈gs,k<ws.length
  nd:gs.Nodup
  wok:∀ w∈ws,Tn.WOk fs.length w
  fl:fs.length≤1000
  wl:ws.length≤1000
  gl:gs.length≤1000
def J9 (K:PySem.W.Frag) (T:fU):Sp:=fun vs H Q _=>∃ (a b t g:Addr) (v:V) (fs rs xs:List Int) (ws:List (List Int)) (gs:List Nat) (Hb:Hp),vs=[.ref a,v,.ref b,.ref t,.ref g]∧T9 K T H Hb a b t g v fs rs xs ws gs ∧
  ∀ (M:Int) (H':Hp),Tn.WT fs (Tn.Ba fs.length ws gs) (Tn.unmet rs xs gs) M→Ow T Hb H' [(a,.lst ((Tn.bumps fs (gs.map fun k=>(Tn.fW ws k,-M))).map V.int)),(t,.lst ((Tn.bump xs (Tn.asI gs) M).map V.int))]→Q .non H'
theorem uH {ws:List (List Int)} {k:Nat} (h:k<ws.length):ws[k]?=some (Tn.fW ws k):=by
  unfold Tn.fW;rw [List.getD_eq_getElem?_getD,List.getElem?_eq_getElem h];rfl
theorem Rf {f f1 f2:Addr} {fd fd1 fd2:FuncData} (D:Df K mg "take_whole_turns" aW ["left","ways","rests","takes","going"] f fd) (B:Blt mg)
    (eH:Df K mg "whole_turns" bT ["free","ways","rests"] f1 fd1) (qU:cI P w K mg base CX0 2 f1 fd1 ["free","ways","rests"] (J7 K T))
    (j4:Df K mg "draw" lG ["left","way","drops"] f2 fd2) (Ax:cI P w K mg base CX0 1 f2 fd2 ["left","way","drops"] (tW K T)) :
    cI P w K mg base CX0 3 f fd ["left","ways","rests","takes","going"] (J9 K T):=by
  refine D.F.ok dF (fun vs H Q E h=>?_) (fun cdv A outer s H vs Q E hr h=>?_)
  · obtain ⟨_,_,_,_,_,_,_,_,_,_,_,rfl,_⟩:=h;rfl
  · obtain ⟨a,b,t,g,v,fs,rs,xs,ws,gs,Hb,rfl,⟨O,d0,d1,d2,rl,xl,gn,nd,wok,fl,wl,gl⟩,q⟩:=h
    obtain ⟨va,vs,rfl,hV,hds⟩:=d0.iz
    have hil:((Tn.asI gs).map V.int).length=gs.length:=by rw [List.length_map,Tn.jk]
    refine ⟨_,(au (iH (i:=5) (ao aW) rfl ["left","ways","rests","takes","going","unmet","turns","taker"] rfl ["taker","rests","takes"] [none,some 2,some 3] (by decide +kernel) (by decide +kernel) (by decide +kernel) rfl dF.nd rfl rfl (cu (pv 4)) (fun _ _ _=>(aL (i:=0) (show (["taker","rests","takes"]:List Str).Nodup by decide +kernel) rfl (Or.inl rfl))) (fun _ _ _=>gk) (fun _ _ _=>(bf rN (aQ (jH (K:=K) rfl) (pv 1) (pv 0) (fun _ _=>rfl)) (aQ (jH (K:=K) rfl) (pv 2) (pv 0) (fun _ _=>rfl)))) rfl)
      (au (aO (i:=6) dF.nd rfl (Or.inl rfl) (aK qU (hr.mono (by decide)) rfl eH.m eH.F.kp eH.b .nil bK (ak (pv 0) (ak (jD (ao aW) rfl ["left","ways","rests","takes","going","unmet","turns","taker"] rfl ["taker","ways"] [none,some 1] (by decide +kernel) (by decide +kernel) (by decide +kernel) rfl (cu (pv 4)) (fun _ _ _=>(aL (i:=0) (show (["taker","ways"]:List Str).Nodup by decide +kernel) rfl (Or.inl rfl))) (fun _ _ _=>gk) (fun _ _ _=>(aQ (jH (K:=K) rfl) (pv 1) (pv 0) (fun _ _=>rfl)))) (ak (pv 5) aq)))))
      (aB (dZ PassesOwn.never rfl (cu (pv 4)) (aL (i:=7) dF.nd rfl (Or.inl rfl))
        (au (iW (aK Ax (hr.mono (by decide)) rfl j4.m j4.F.kp j4.b .nil bK (ak (pv 0) (ak (aQ aH (pv 1) (pv 7) (fun _ _=>rfl)) (ak (pv 6) aq)))))
        (aB (nY (pv 3) (pv 7) lM (pv 6) vP set_list))))))),?_⟩
    refine Q6 ?_
    intro zu0 zu1 zu2 zu3
    /- unmet -/
    refine ⟨_,rfl,g,rfl,⟨_,O.same.seq d2⟩,fun lu hlu=>?_⟩
    refine eE (K:=K) (xs:=(Tn.asI gs).map V.int) (fun i τ H'=>Iv (∃ v0:Option V,τ=[v0,some (.ref b),some (.ref t)]∧Ow T Hb H' [(lu,.lst ((Tn.unmet rs xs (gs.take i)).map V.int)),(a,.lst (fs.map V.int)),(t,.lst (xs.map V.int))]))
      ⟨trivial,none,rfl,O.mk' hlu rfl⟩ (fun i τ H' _ ⟨_,_,_,O⟩=>O.same.seq d2) ?_ ?_
    · rintro i y τ H2 hy ⟨-,v0,rfl,O⟩
      obtain ⟨z,hz,rfl⟩:=ints_get hy
      obtain ⟨k,hk,rfl⟩:=Tn.jc hz
      have hkn:=gn k (List.mem_of_getElem? hk)
      have hi:=(List.getElem?_eq_some_iff.mp hk).1
      refine xQ ?_
      refine ⟨_,rfl,_,rfl,b,_,_,_,rfl,rfl,O.same.seq d1,bx (bF (by omega)),_,rfl,_,rfl,t,_,_,_,rfl,rfl,O.sq 2,bx (bF (by omega)),_,_,rfl,rfl,?_⟩
      refine ⟨_,O.get 0,aY (by rw [List.length_map];unfold Tn.unmet;rw [List.length_map,List.length_take];omega),?_⟩
      walk_at "pt"
      refine ⟨trivial,_,rfl,?_⟩
      rw [Tn.wG hk,List.map_append];exact O
    rintro τ H2 ⟨-,v0,rfl,O⟩
    rw [hil,List.take_of_length_le (Nat.le_refl _)] at O
    have hul:(Tn.unmet rs xs gs).length=gs.length:=by unfold Tn.unmet;rw [List.length_map]
    /- whole_turns(left, .., unmet) -/
    refine ⟨_,rfl,_,rfl,g,rfl,⟨_,O.same.seq d2⟩,fun lw hlw=>?_⟩
    refine eE (K:=K) (xs:=(Tn.asI gs).map V.int) (fun i τ H'=>Iv (∃ (v0:Option V) (us:List V),τ=[v0,some (.ref va)]∧cU K Hb us ((gs.take i).map fun k=>jO (Tn.fW ws k))∧Ow T Hb H' [(lw,.lst us),(lu,.lst ((Tn.unmet rs xs gs).map V.int)),(a,.lst (fs.map V.int)),(t,.lst (xs.map V.int))]))
      ⟨trivial,none,[],rfl,.nil,O.mk' hlw rfl⟩ (fun i τ H' _ ⟨_,_,_,_,_,O⟩=>O.same.seq d2) ?_ ?_
    · rintro i y τ H3 hy ⟨-,v0,us,rfl,hus,O⟩
      obtain ⟨z,hz,rfl⟩:=ints_get hy
      obtain ⟨k,hk,rfl⟩:=Tn.jc hz
      have hkn:=gn k (List.mem_of_getElem? hk)
      have hi:=(List.getElem?_eq_some_iff.mp hk).1
      obtain ⟨wa,hwa,hW⟩:=hds.xT (uH hkn)
      refine xQ ?_
      refine ⟨_,rfl,_,rfl,va,_,_,_,rfl,rfl,O.same.seq hV,bW hwa,?_⟩
      refine ⟨_,O.get 0,aY (by rw [hus.length,List.length_map,List.length_take];omega),?_⟩
      walk_at "pt"
      refine ⟨trivial,_,us++[.ref wa],rfl,?_,O⟩
      rw [Tn.gw hk]
      exact hus.append (.cons (Den.ints hW) .nil)
    rintro τ H3 ⟨-,v0,us,rfl,hus,O⟩
    rw [hil,List.take_of_length_le (Nat.le_refl _)] at hus
    have hus':cU K Hb us ((gs.map fun k=>Tn.fW ws k).map jO):=by rw [List.map_map];exact hus
    refine ⟨_,rfl,a,lu,.ref lw,fs,Tn.unmet rs xs gs,gs.map fun k=>Tn.fW ws k,rfl,O.sq 2,.list (O.sq 0) (hus'.mo O.same),O.sq 1,fl,by omega,by rw [List.length_map];omega,fun w hw=>?_,O.same.t1,fun M H4 sm hM=>?_⟩
    · obtain ⟨k,hk,rfl⟩:=List.mem_map.mp hw
      exact wok _ (Tn.oE (gn k hk))
    have hM:Tn.WT fs (Tn.Ba fs.length ws gs) (Tn.unmet rs xs gs) M:=by
      unfold Tn.Ba
      rw [List.map_map] at hM
      exact hM
    have O:=((O.uM sm).tail).tail
    /- the loop -/
    refine ⟨_,rfl,g,rfl,⟨_,O.same.seq d2⟩,?_⟩
    refine gA (K:=K) (xs:=(Tn.asI gs).map V.int) (fun i σ H'=>Iv (∃ v7:Option V,σ=[some (.ref a),some (.ref va),some (.ref b),some (.ref t),some (.ref g),some (.ref lu),some (.int M),v7] ∧
      Ow T Hb H' [(a,.lst ((Tn.bumps fs ((gs.take i).map fun k=>(Tn.fW ws k,-M))).map V.int)),(t,.lst ((Tn.bump xs (Tn.asI (gs.take i)) M).map V.int))]))
      ⟨trivial,none,rfl,O⟩ (fun i σ H' _ ⟨_,_,_,O⟩=>O.same.seq d2) ?_ ?_
    · rintro i y σ H5 hy ⟨-,v7,rfl,O⟩
      obtain ⟨z,hz,rfl⟩:=ints_get hy
      obtain ⟨k,hk,rfl⟩:=Tn.jc hz
      have hkn:=gn k (List.mem_of_getElem? hk)
      obtain ⟨wa,hwa,hW⟩:=hds.xT (uH hkn)
      have hn1:Tn.bumps fs ((gs.take (i + 1)).map fun k=>(Tn.fW ws k,-M))=Tn.bump (Tn.bumps fs ((gs.take i).map fun k=>(Tn.fW ws k,-M))) (Tn.fW ws k) (-M):=by
        rw [Tn.gw hk];exact Tn.pZ _ _ _
      have hl1:(Tn.bumps fs ((gs.take i).map fun k=>(Tn.fW ws k,-M))).length=fs.length:=Tn.jx _ _
      have hl2:(Tn.bump xs (Tn.asI (gs.take i)) M).length=ws.length:=by rw [Tn.iD];exact xl
      have hn2:Tn.bump xs (Tn.asI (gs.take (i + 1))) M=(Tn.bump xs (Tn.asI (gs.take i)) M).set k ((Tn.bump xs (Tn.asI (gs.take i)) M).getD k 0 + M):=by
        rw [← Tn.rT,← Tn.rT,oO hz,Int.toNat_natCast]
      obtain ⟨H1,O1,s1,hB,back⟩:=Ow.lend (A:=[(a,.lst ((Tn.bumps fs ((gs.take i).map fun k=>(Tn.fW ws k,-M))).map V.int))]) (B:=[(t,.lst ((Tn.bump xs (Tn.asI (gs.take i)) M).map V.int))]) O
      refine ⟨_,rfl,_,rfl,_,rfl,va,_,_,_,rfl,rfl,O.same.seq hV,bW hwa,_,rfl,a,wa,_,_,M,H1,rfl,O1,hW.mo s1,by rw [hl1];exact wok _ (Tn.oE hkn),fun H6 O6=>?_⟩
      have O:=back _ _ O6
      refine ⟨_,rfl,_,rfl,t,_,k,_,rfl,rfl,O.sq 1,by rw [List.getElem?_map,bF (by omega)];rfl,_,rfl,_,_,rfl,rfl,t,_,_,k,rfl,rfl,O.get 1,gW (by rw [List.length_map];omega),?_⟩
      walk_at "pt"
      refine ⟨trivial,_,rfl,?_⟩
      rw [hn1,hn2,List.map_set];exact O
    rintro σ H5 ⟨-,v7,rfl,O⟩
    rw [hil,List.take_of_length_le (Nat.le_refl _)] at O
    exact q M _ hM O
abbrev bG:Stmt:=top 23
theorem gV:aX ["left","ways","rests","takes","going","still","taker"] ["left","ways","rests","takes","going"] (ao bG):=⟨rfl,rfl,rfl,by decide +kernel,rfl,by decide +kernel,by decide +kernel⟩
def Ka (K:PySem.W.Frag) (T:fU):Sp:=fun vs H Q _=>∃ (a b t g:Addr) (v:V) (fs rs xs:List Int) (ws:List (List Int)) (gs:List Nat) (Hb:Hp),vs=[.ref a,v,.ref b,.ref t,.ref g]∧T9 K T H Hb a b t g v fs rs xs ws gs ∧
  ∀ (l:Addr) (H':Hp),Ow T Hb H' [(l,.lst ((Tn.asI (Tn.gR ws rs gs (fs,xs,[])).2.2).map V.int)),(a,.lst ((Tn.gR ws rs gs (fs,xs,[])).1.map V.int)),(t,.lst ((Tn.gR ws rs gs (fs,xs,[])).2.1.map V.int))]→Q (.ref l) H'
theorem JN {w l:List Int}:((w.map fun r:Int=>decide (0<l.getD r.toNat 0)).all id)=w.all (fun r=>decide (0<l.getD r.toNat 0)):=by rw [List.all_map];rfl
theorem Rg {f f2:Addr} {fd fd2:FuncData} (D:Df K mg "take_one_turn" bG ["left","ways","rests","takes","going"] f fd) (B:Blt mg)
    (j4:Df K mg "draw" lG ["left","way","drops"] f2 fd2) (Ax:cI P w K mg base CX0 1 f2 fd2 ["left","way","drops"] (tW K T)) :
    cI P w K mg base CX0 2 f fd ["left","ways","rests","takes","going"] (Ka K T):=by
  refine D.F.ok gV (fun vs H Q E h=>?_) (fun cdv A outer s H vs Q E hr h=>?_)
  · obtain ⟨_,_,_,_,_,_,_,_,_,_,_,rfl,_⟩:=h;rfl
  · obtain ⟨a,b,t,g,v,fs,rs,xs,ws,gs,Hb,rfl,⟨O,d0,d1,d2,rl,xl,gn,nd,wok,fl,wl,gl⟩,q⟩:=h
    obtain ⟨va,vs,rfl,hV,hds⟩:=d0.iz
    have hil:((Tn.asI gs).map V.int).length=gs.length:=by rw [List.length_map,Tn.jk]
    refine ⟨_,(au (aO (i:=5) gV.nd rfl (Or.inl rfl) (gP aq))
      (au (dZ PassesOwn.never rfl (cu (pv 4)) (aL (i:=6) gV.nd rfl (Or.inl rfl))
        (aB (gD (PW.pt (pw_and (aZ ux (aQ aH (pv 3) (pv 6) (fun _ _=>rfl)) (aQ aH (pv 2) (pv 6) (fun _ _=>rfl)) (bD _)) (pw_and1 (mR (aJ (CW rfl) rfl B.all PyProof.Rows.boot_all (ak (jD (ao bG) rfl ["left","ways","rests","takes","going","still","taker"] rfl ["reach","left"] [none,some 0] (by decide +kernel) (by decide +kernel) (by decide +kernel) rfl (cu (aQ aH (pv 1) (pv 6) (fun _ _=>rfl))) (fun _ _ _=>(aL (i:=0) (show (["reach","left"]:List Str).Nodup by decide +kernel) rfl (Or.inl rfl))) (fun _ _ _=>gk) (fun _ _ _=>(kJ uy (aQ (jH (K:=K) rfl) (pv 1) (pv 0) (fun _ _=>rfl)) aA (bD _)))) aq))))))
          (au (iW (aK Ax (hr.mono (by decide)) rfl j4.m j4.F.kp j4.b .nil bK (ak (pv 0) (ak (aQ aH (pv 1) (pv 6) (fun _ _=>rfl)) (ak aA aq)))))
          (au (nY (pv 3) (pv 6) lM aA vP set_list)
          (aB (iW (qD PySem.F.plainAttrs_list PySem.F.slot_list_append PySem.F.type_list_append gq (pv 5) (ak (pv 6) aq))))))
          bR)))
      (aB (bw (pv 5))))),?_⟩
    refine Q5 ?_
    intro zu0 zu1 zu2 zu3 zu4 zu5
    refine ⟨szl,fun ls hls=>?_⟩
    walk_at "nw"
    refine ⟨_,rfl,g,rfl,⟨_,O.same.seq d2⟩,?_⟩
    refine gA (K:=K) (xs:=(Tn.asI gs).map V.int) (fun i σ H'=>Iv (∃ v6:Option V,σ=[some (.ref a),some (.ref va),some (.ref b),some (.ref t),some (.ref g),some (.ref ls),v6] ∧
      Ow T Hb H' [(ls,.lst ((Tn.asI (Tn.gR ws rs (gs.take i) (fs,xs,[])).2.2).map V.int)),(a,.lst ((Tn.gR ws rs (gs.take i) (fs,xs,[])).1.map V.int)),(t,.lst ((Tn.gR ws rs (gs.take i) (fs,xs,[])).2.1.map V.int))]))
      ⟨trivial,none,rfl,O⟩ (fun i σ H' _ ⟨_,_,_,O⟩=>O.same.seq d2) ?_ ?_
    · rintro i y σ H5 hy ⟨-,v7,rfl,O⟩
      obtain ⟨z,hz,rfl⟩:=ints_get hy
      obtain ⟨k,hk,rfl⟩:=Tn.jc hz
      have hkn:=gn k (List.mem_of_getElem? hk)
      have hi:=(List.getElem?_eq_some_iff.mp hk).1
      obtain ⟨wa,hwa,hW⟩:=hds.xT (uH hkn)
      have hnext:=Tn.wJ (ws:=ws) (rs:=rs) (s:=(fs,xs,[])) hk
      have hlen:=Tn.rB ws rs (gs.take i) (fs,xs,[])
      rw [hnext]
      generalize Tn.gR ws rs (gs.take i) (fs,xs,[])=S at O hlen ⊢
      obtain ⟨l,x,st⟩:=S
      obtain ⟨hl1,hl2,hl3⟩:=hlen
      have hl1:l.length=fs.length:=hl1
      have hl2:x.length=xs.length:=hl2
      have hl3:st.length≤i:=by
        have:st.length≤0 + (gs.take i).length:=hl3
        rw [List.length_take] at this;omega
      have O:Ow T Hb H5 [(ls,.lst ((Tn.asI st).map V.int)),(a,.lst (l.map V.int)),(t,.lst (x.map V.int))]:=O
      have ok:=wok _ (Tn.oE hkn)
      have no:¬ (x.getD k 0<rs.getD k 0∧(Tn.fW ws k).all (fun r=>decide (0<l.getD r.toNat 0))=true)→Tn.step1 ws rs (l,x,st) k=(l,x,st):=fun h=>if_neg h
      have yes:(x.getD k 0<rs.getD k 0∧(Tn.fW ws k).all (fun r=>decide (0<l.getD r.toNat 0))=true)→Tn.step1 ws rs (l,x,st) k=(Tn.bump l (Tn.fW ws k) (-1),x.set k (x.getD k 0 + 1),st++[k]):=fun h=>if_pos h
      generalize Tn.step1 ws rs (l,x,st) k=S' at no yes ⊢
      refine ⟨_,rfl,_,rfl,t,_,_,_,rfl,rfl,O.sq 2,bx (bF (by omega)),_,rfl,_,rfl,b,_,_,_,rfl,rfl,O.same.seq d1,bx (bF (by omega)),_,_,rfl,rfl,_,rfl,ifD (fun hc1=>?_) fun hc1=>?_⟩
      · refine ⟨_,rfl,_,rfl,va,_,_,_,rfl,rfl,O.same.seq hV,bW hwa,wa,rfl,⟨_,O.same.seq hW⟩,fun lb hlb=>?_⟩
        refine eE (K:=K) (xs:=(Tn.fW ws k).map V.int) (fun j τ H'=>Iv (∃ v0:Option V,τ=[v0,some (.ref a)]∧Ow T Hb H' [(lb,.lst ((((Tn.fW ws k).take j).map fun r:Int=>decide (0<l.getD r.toNat 0)).map V.bl)),(ls,.lst ((Tn.asI st).map V.int)),(a,.lst (l.map V.int)),(t,.lst (x.map V.int))]))
          ⟨trivial,none,rfl,O.mk' hlb rfl⟩ (fun i τ H' _ ⟨_,_,_,O⟩=>O.same.seq hW) ?_ ?_
        · rintro j y τ H6 hy ⟨-,v0,rfl,O⟩
          obtain ⟨r,hr,rfl⟩:=ints_get hy
          have hj:=(List.getElem?_eq_some_iff.mp hr).1
          obtain ⟨r0,r1⟩:=ok.2 r (List.mem_of_getElem? hr)
          refine xQ ?_
          refine ⟨_,rfl,_,rfl,a,_,_,_,rfl,rfl,O.sq 2,iB r0 (by omega),_,_,rfl,rfl,?_⟩
          refine ⟨_,O.get 0,aY (by rw [List.length_map,List.length_map,List.length_take];have:=ok.len;omega),?_⟩
          walk_at "pt"
          refine ⟨trivial,_,rfl,?_⟩
          rw [Tn.gw hr,List.map_append];exact O
        rintro τ H6 ⟨-,v0,rfl,O⟩
        rw [List.length_map,List.take_of_length_le (Nat.le_refl _)] at O
        refine ⟨lb,_,rfl,O.sq 0,?_⟩
        rw [JN]
        have O:=O.tail
        refine ⟨_,rfl,ifB (fun hc2=>?_) fun hc2=>?_⟩
        · rw [yes ⟨hc1,hc2⟩]
          obtain ⟨H1,O1,s1,hB,back⟩:=Ow.lend (A:=[(a,.lst (l.map V.int))]) (B:=[(ls,.lst ((Tn.asI st).map V.int)),(t,.lst (x.map V.int))]) (O.pull 1)
          refine ⟨_,rfl,_,rfl,_,rfl,va,_,_,_,rfl,rfl,O.same.seq hV,bW hwa,a,wa,l,_,1,H1,rfl,O1,hW.mo s1,by rw [hl1];exact ok,fun H7 O7=>?_⟩
          have O:=back _ _ O7
          have O:Ow T Hb H7 [(a,.lst ((Tn.bump l (Tn.fW ws k) (-1)).map V.int)),(ls,.lst ((Tn.asI st).map V.int)),(t,.lst (x.map V.int))]:=O
          refine ⟨_,rfl,_,rfl,t,_,k,_,rfl,rfl,O.sq 2,by rw [List.getElem?_map,bF (by omega)];rfl,_,_,rfl,rfl,t,_,_,k,rfl,rfl,O.get 2,gW (by rw [List.length_map];omega),?_⟩
          walk_at "pt"
          refine ⟨_,rfl,.inl ⟨rfl,_,O.sq 1⟩,_,rfl,ls,_,_,rfl,rfl,O.get 1,aY (by rw [List.length_map,Tn.jk];omega),?_⟩
          walk_at "pt"
          refine ⟨trivial,_,rfl,?_⟩
          have O:=O.pull 1
          show Ow T Hb _ [(ls,.lst ((Tn.asI (st++[k])).map V.int)),(a,.lst ((Tn.bump l (Tn.fW ws k) (-1)).map V.int)),(t,.lst ((x.set k (x.getD k 0 + 1)).map V.int))]
          rw [List.map_set]
          unfold Tn.asI
          rw [List.map_append,List.map_append]
          exact O
        · rw [no fun z=>by rw [z.2] at hc2;cases hc2]
          exact ⟨trivial,_,rfl,O⟩
      · refine xJ ?_
        rw [no fun z=>hc1 z.1]
        exact ⟨trivial,_,rfl,O⟩
    rintro σ H5 ⟨-,v7,rfl,O⟩
    rw [hil,List.take_of_length_le (Nat.le_refl _)] at O
    exact ⟨_,rfl,q _ _ O⟩
abbrev cZ:Stmt:=top 24
theorem fY:aX ["free","ways","rests","left","takes","going"] ["free","ways","rests"] (ao cZ):=⟨rfl,rfl,rfl,by decide +kernel,rfl,by decide +kernel,by decide +kernel⟩
def Kc (K:PySem.W.Frag) (T:fU):Sp:=fun vs H Q _=>∃ (a b:Addr) (v:V) (fs rs:List Int) (ws:List (List Int)),vs=[.ref a,v,.ref b]∧SqL K H a (fs.map V.int)∧Den K H v (vW ws)∧SqL K H b (rs.map V.int)∧rs.length=ws.length∧fs.length≤1000∧ws.length<64 ∧
  (∀ w∈ws,Tn.WOk fs.length w)∧(∀ x∈fs,0≤x)∧(∀ x∈rs,0≤x)∧TabsOk T H ∧
  ∀ (l lt ll:Addr) (xs left:List Int) (t:Int) (H':Hp),Ow T H H' [(l,.tup [.ref lt,.ref ll]),(lt,.lst (xs.map V.int)),(ll,.lst (left.map V.int))]→Tn.oY fs ws rs left xs [] t→Q (.ref l) H'
theorem Rh {f f1 f2:Addr} {fd fd1 fd2:FuncData} (D:Df K mg "deal_turns" cZ ["free","ways","rests"] f fd) (B:Blt mg)
    (bQ:Df K mg "take_whole_turns" aW ["left","ways","rests","takes","going"] f1 fd1) (lY:cI P w K mg base CX0 3 f1 fd1 ["left","ways","rests","takes","going"] (J9 K T))
    (cQ:Df K mg "take_one_turn" bG ["left","ways","rests","takes","going"] f2 fd2) (oZ:cI P w K mg base CX0 2 f2 fd2 ["left","ways","rests","takes","going"] (Ka K T)) :
    cI P w K mg base CX0 4 f fd ["free","ways","rests"] (Kc K T):=by
  refine D.F.ok fY (fun vs H Q E h=>?_) (fun cdv A outer s H vs Q E hr h=>?_)
  · obtain ⟨_,_,_,_,_,_,rfl,_⟩:=h;rfl
  · obtain ⟨a,b,v,fs,rs,ws,rfl,hA,d0,hB,rl,fl,wl,wok,hf,hrs,tk,q⟩:=h
    obtain ⟨va,vs,rfl,hV,hds⟩:=d0.iz
    have hvl:vs.length=ws.length:=by rw [hds.length,List.length_map]
    refine ⟨_,(au (aO (i:=3) fY.nd rfl (Or.inl rfl) (cP cH rfl B.list PyProof.Rows.boot_list (ak (pv 0) aq)))
      (au (aO (i:=4) fY.nd rfl (Or.inl rfl) (bf mX (gP (ak aA aq)) (aJ aC rfl B.len PySem.boot_len (ak (pv 1) aq))))
      (au (aO (i:=5) fY.nd rfl (Or.inl rfl) (rM rfl rfl B.list rfl B.range (ak (aJ aC rfl B.len PySem.boot_len (ak (pv 1) aq)) aq)))
      (au (qz PassesOwn.never (Bu (pv 5) (fun _=>rfl))
        (au (iW (aK lY (hr.mono (by decide)) rfl bQ.m bQ.F.kp bQ.b .nil bK (ak (pv 3) (ak (pv 1) (ak (pv 2) (ak (pv 4) (ak (pv 5) aq)))))))
        (aB (aO (i:=5) fY.nd rfl (Or.inl rfl) (aK oZ (hr.mono (by decide)) rfl cQ.m cQ.F.kp cQ.b .nil bK (ak (pv 3) (ak (pv 1) (ak (pv 2) (ak (pv 4) (ak (pv 5) aq))))))))))
      (aB (bw (jw (ak (pv 4) (ak (pv 3) aq))))))))),?_⟩
    refine Q0 ?_
    intro zu0 zu1 zu2 zu3 zu4 zu5
    have O:=Ow.refl tk
    refine ⟨_,rfl,a,_,rfl,.inl (O.same.seq hA),fun ll hll=>?_⟩
    walk_at "nw"
    refine ⟨szl,fun l1 h1=>?_⟩
    walk_at "nw"
    refine ⟨_,rfl,va,_,rfl,.inl (O.same.seq hV),l1,_,_,rfl,rfl,O.get 0,by omega,by omega,ig (by rw [hvl,Int.toNat_natCast];simp;omega),fun lt hlt=>?_⟩
    walk_at "nw"
    rw [hvl,Int.toNat_natCast,jt] at O
    have O:=O.two
    refine ⟨_,rfl,va,_,rfl,.inl (O.same.seq hV),ws.length,by rw [hvl],wl,fun lg hlg=>?_⟩
    walk_at "nw"
    have eg:gC ws.length=(Tn.asI (List.range ws.length)).map V.int:=by unfold gC Tn.asI;rw [List.map_map];rfl
    rw [eg] at O
    refine ⟨fun m σ H'=>Iv (∃ (lg:Addr) (gs:List Nat) (l xs:List Int) (t:Int),σ=[some (.ref a),some (.ref va),some (.ref b),some (.ref ll),some (.ref lt),some (.ref lg)]∧Tn.oY fs ws rs l xs gs t∧m=(Tn.rem rs xs ws.length + (gs.length:Int)).toNat ∧
      Ow T H H' [(lg,.lst ((Tn.asI gs).map V.int)),(lt,.lst (xs.map V.int)),(ll,.lst (l.map V.int))]),⟨_,trivial,lg,_,fs,_,0,rfl,Tn.oY.start hf hrs wok,rfl,O⟩,?_⟩
    rintro m σ H2 ⟨-,lg,gs,l,xs,t,rfl,LI,rfl,O⟩
    have nd:=Tn.eZ LI.srt
    have gn:∀ k∈gs,k<ws.length:=fun k hk=>(LI.going k hk).1
    have gl:gs.length≤1000:=by
      have:gs.length≤ws.length:=by
        have:=List.Nodup.length_le_of_subset (l₂:=List.range ws.length) nd fun k hk=>List.mem_range.mpr (gn k hk)
        simpa using this
      omega
    refine ⟨_,rfl,_,.inl ⟨_,O.sq 0,rfl⟩,ifB (fun hc=>?_) fun hc=>?_⟩
    · have hne:0<gs.length:=by
        cases gs with
        | nil=>simp [Tn.asI] at hc
        | cons x gs=>simp
      refine ⟨_,fun σ' H' h=>h,?_⟩
      obtain ⟨H1,O1,s1,hBk,back⟩:=Ow.lend (A:=[(ll,.lst (l.map V.int)),(lt,.lst (xs.map V.int))]) (B:=[(lg,.lst ((Tn.asI gs).map V.int))]) (((O.pull 1).pull 2))
      refine ⟨_,rfl,_,rfl,_,rfl,_,rfl,_,rfl,ll,b,lt,lg,.ref va,l,rs,xs,ws,gs,H1,rfl,⟨O1,.list (hV.mo s1) (hds.mo s1),hB.mo s1,SqL.of (hBk (lg,.lst ((Tn.asI gs).map V.int)) (by simp)),rl,LI.xl,gn,nd,by rw [LI.ll];exact wok,by rw [LI.ll];exact fl,by omega,gl⟩,fun M H3 hM O3=>?_⟩
      rw [LI.ll] at hM
      have L2:=LI.whole hf wok hM
      have M0:=hM.nn
      have rw1:=Tn.yO LI M0
      have O:=back _ _ O3
      have hll2:=L2.ll
      obtain ⟨L3,hsum⟩:=L2.one wok
      obtain ⟨H4,O4,s4,hBk4,back4⟩:=Ow.lend (A:=[(ll,.lst ((Tn.bumps l (gs.map fun k=>(Tn.fW ws k,-M))).map V.int)),(lt,.lst ((Tn.bump xs (Tn.asI gs) M).map V.int))]) (B:=[(lg,.lst ((Tn.asI gs).map V.int))]) O
      refine ⟨_,rfl,_,rfl,_,rfl,_,rfl,_,rfl,ll,b,lt,lg,.ref va,_,rs,_,ws,gs,H4,rfl,⟨O4,.list (hV.mo s4) (hds.mo s4),hB.mo s4,SqL.of (hBk4 (lg,.lst ((Tn.asI gs).map V.int)) (by simp)),rl,L2.xl,gn,nd,by rw [L2.ll];exact wok,by rw [L2.ll];exact fl,by omega,gl⟩,fun l5 H5 O5=>?_⟩
      have O:=back4 _ _ O5
      have O:=(O.del 3)
      have O:=O.pull 2
      have O:=(O.pull 1)
      refine ⟨_,?_,trivial,l5,_,_,_,_,rfl,L3,rfl,?_⟩
      · have a1:=L3.Dr
        have a2:=LI.Dr
        omega
      · exact O
    · have hg:gs=[]:=by
        cases gs with
        | nil=>rfl
        | cons x gs=>simp [Tn.asI] at hc
      subst hg
      refine ⟨_,rfl,_,rfl,szl,fun l5 hl5=>?_⟩
      walk_at "nw"
      exact q l5 lt ll xs l t _ (O.two) LI
abbrev dG:Stmt:=top 12
theorem rJ:aX ["one"] ["one"] (ao dG):=⟨rfl,rfl,rfl,by decide +kernel,rfl,by decide +kernel,by decide +kernel⟩
def yF (K:PySem.W.Frag):Sp:=fun vs H Q _=>∃ (t:Addr) (l:Lic),vs=[.ref t]∧SqT K H t (m8 l)∧Q (.int l.day) H
theorem KZ {f:Addr} {fd:FuncData} (D:Df K mg "day_filed" dG ["one"] f fd):cI P w K mg base CX0 1 f fd ["one"] (yF K):=by
  refine D.F.ok rJ (fun vs H Q E h=>?_) (fun cdv A outer s H vs Q E hr h=>?_)
  · obtain ⟨_,_,rfl,_⟩:=h;rfl
  · obtain ⟨t,l,rfl,hT,q⟩:=h
    refine ⟨_,(aB (bw (aQ d9 (pv 0) aA (fun _ _=>rfl)))),?_⟩
    exact ⟨_,rfl,t,_,0,_,rfl,rfl,hT,rfl,q⟩
abbrev iy:Stmt:=top 15
theorem yL:aX ["roll"] ["roll"] (ao iy):=⟨rfl,rfl,rfl,by decide +kernel,rfl,by decide +kernel,by decide +kernel⟩
def bI:Pos × Str:=(⟨40,40,40,88⟩,"ranked.<locals>.<lambda>")
def TT2 (P:Addr) (T:fU):Prop:=(P,bI.1,bI.2)∈T∧(T.map (·.1)).Nodup
def oN (ls:List Lic):Nat→Int:=fun k=>(ls[k]?.map Lic.day).getD 0
theorem qN {ls:List Lic} {k:Nat} {l:Lic} (h:ls[k]?=some l):oN ls k=l.day:=by unfold oN;rw [h];rfl
def rE (K:PySem.W.Frag) (T:fU):Sp:=fun vs H Q _=>∃ (v:V) (ls:List Lic),vs=[v]∧Den K H v (su ls)∧ls.length<64∧TabsOk T H ∧
  oX T H (fun xs=>∃ p,xs=p.map (fun (i:Nat)=>V.int (i:Int))∧Tn.Rk (oN ls) ls.length p) Q
def JX (day:Nat→Int) (i:Nat):Int:=64 * day i + (i:Int)
theorem Ce {day:Nat→Int} {i j:Nat} (hi:i<64) (hj:j<64):HT.lexLt [day i,(i:Int)] [day j,(j:Int)]=decide (JX day i<JX day j):=by
  unfold JX
  rw [HT.iJ,HT.iJ,HT.jG]
  rw [Bool.eq_iff_iff]
  split
  · split
    · simp only [Bool.false_eq_true,decide_eq_true_eq,false_iff];omega
    · simp only [decide_eq_true_eq];omega
  · simp only [decide_eq_true_eq];omega
theorem yZ {f fW:Addr} {fd fdW:FuncData} {pT cT:Addr} {T:fU} (D:Df K mg "ranked" iy ["roll"] f fd) (hcd:fd.code=.ref cT) (hhd:PySem.W.codeHdIn K cT pT=true) (hT:TT2 pT T) (hbm:BM mg base) (B:Blt mg)
    (cj:Df K mg "day_filed" dG ["one"] fW fdW) (kY:cI P w K mg base CX0 1 fW fdW ["one"] (yF K)):cI P w K mg base CX0 5 f fd ["roll"] (rE K T):=by
  refine D.F.okC hcd yL (fun vs H Q E h=>?_) (fun A outer s H vs Q E hr h=>?_)
  · obtain ⟨_,_,rfl,_⟩:=h;rfl
  · obtain ⟨v,ls,rfl,hd,h64,tk,q⟩:=h
    obtain ⟨va,vs,rfl,hV,d0⟩:=hd.iz
    have hvl:vs.length=ls.length:=by rw [d0.length,List.length_map]
    refine ⟨_,(aB (bw (mV (P:=pT) (c:=cT) (p:="number") (ao iy) rfl ["roll"] rfl ["roll"] [some 0] (by decide +kernel) (by decide +kernel) (by decide +kernel) rfl hbm rfl hhd (vO (hr.mono (by decide))) rfl B.sorted rfl B.range (ak (aJ aC rfl B.len PySem.boot_len (ak (pv 0) aq)) aq) (fun A f cv s H hh hd hu=>(jw (ak (aK kY (vN (hr.mono (by decide)) hh hd hu) rfl cj.m cj.F.kp cj.b .nil bK (ak (aQ (jH (K:=K) rfl) (pv 1) (pv 0) (fun _ _=>rfl)) aq)) (ak (pv 0) aq)))) (fun _ _ _ _=>rfl)))),?_⟩
    refine ⟨_,rfl,va,_,rfl,.inl hV,ls.length,by rw [hvl],h64,tk _ hT.1,fun H2 k1 k2 t2=>?_⟩
    have sT:bA T H H2:=bA.tab tk hT.1 hT.2 k1 t2
    refine ⟨fun i ts H3=>bA T H2 H3∧ts.length=i∧∀ (j:Nat) (t:Addr),ts[j]?=some t→H3 t=some (.tup ([oN ls j,(j:Int)].map V.int)),fun i=>[oN ls i,(i:Int)],JX (oN ls),1,⟨bA.refl sT.t1,rfl,fun j t e=>by simp at e⟩,?_,?_,fun _ _=>rfl,fun i j hi hj=>Ce (by omega) (by omega),?_,?_⟩
    · rintro i ts H3 hi ⟨s3,htl,h3⟩
      refine ⟨fun c' e=>s3.keep c' _ e fun ps z=>(by cases z),?_⟩
      obtain ⟨al,hal,hTl⟩:=d0.lK (List.getElem?_eq_getElem hi)
      have hTl:=hTl.mo (sT.trans s3)
      have edl:=qN (List.getElem?_eq_getElem hi)
      refine ⟨_,rfl,_,rfl,va,_,(i:Int),_,rfl,rfl,(sT.trans s3).seq hV,bW hal,al,_,rfl,hTl,?_⟩
      refine ⟨_,rfl,(by show 2≤sizeLine;decide),fun t ht=>⟨t,rfl,?_⟩⟩
      have nt:H2 t=none:=s3.free ht
      refine ⟨s3.upd nt (.inl ht),by rw [List.length_append,htl];rfl,fun j t' e=>?_⟩
      by_cases hj:j<ts.length
      · rw [List.getElem?_append_left hj] at e
        have h4':=h3 j t' e
        rw [aN (aR h4' ht)];exact h4'
      · rw [List.getElem?_append_right (by omega)] at e
        have hj0:j - ts.length=0:=by
          have:=(List.getElem?_eq_some_iff.mp e).1
          simp at this;omega
        have hji:j=i:=by omega
        rw [hj0] at e
        simp at e
        subst e
        subst hji
        rw [aV,edl];rfl
    · rintro ts H3 ⟨_,_,h3⟩
      exact h3
    · intro i j hi hj hij e
      unfold JX at e
      omega
    · rintro ts H3 D' ys ⟨s3,_,_⟩ hD ⟨p,hp,rfl,ho⟩
      have hbl:(gC ls.length).length=ls.length:=by unfold gC;simp
      rw [hbl] at hp
      refine q D' _ _ ((sT.trans s3).upd ((sT.trans s3).free hD) (.inl hD)) ((sT.trans s3).free hD) aV ⟨p,?_,hp,?_⟩
      · refine List.map_congr_left fun i hi=>?_
        have hi':i<ls.length:=List.mem_range.mp (hp.mem_iff.mp hi)
        show (gC ls.length).getD i .non=_
        unfold gC
        rw [List.getD_eq_getElem?_getD,List.getElem?_map,List.getElem?_range hi'];rfl
      · refine List.Pairwise.imp_of_mem (fun {a b} ha hb hab=>?_) ho
        have ha:=List.mem_range.mp (hp.mem_iff.mp ha)
        have hb:=List.mem_range.mp (hp.mem_iff.mp hb)
        unfold JX at hab
        omega
abbrev dX:Stmt:=top 16
theorem jR:aX ["roll","groups","number"] ["roll"] (ao dX):=⟨rfl,rfl,rfl,by decide +kernel,rfl,by decide +kernel,by decide +kernel⟩
abbrev Pg:=Addr × Int × List Nat
def Ay (ps:List Pg):List (Addr × HO):=ps.map fun p=>(p.1,.lst ((Tn.asI p.2.2).map V.int))
def kvG (ps:List Pg):List (Key × V):=ps.map fun p=>(Sum.inl p.2.1,V.ref p.1)
def rF (K:PySem.W.Frag) (T:fU):Sp:=fun vs H Q _=>∃ (v:V) (ls:List Lic),vs=[v]∧Den K H v (su ls)∧ls.length<64∧TabsOk T H ∧
  ∀ (l:Addr) (H':Hp) (ps:List Pg) (p:List Nat),Ow T H H' ((l,.lst (ps.map fun p=>V.ref p.1)) :: Ay ps)→Tn.Rk (oN ls) ls.length p→Tn.Grp (oN ls) p (ps.map (·.2))→Q (.ref l) H'
theorem Cj {ps:List Pg} {d:Int} {v:V} (h:tK (kvG ps) (Sum.inl d)=some v):∃ (j:Nat) (p:Pg),ps[j]?=some p∧p.2.1=d∧v=.ref p.1:=by
  unfold tK kvG at h
  rw [List.find?_map,Option.map_map] at h
  cases e:ps.find? ((fun kv:Key × V=>decide (kv.1=Sum.inl d)) ∘ fun p:Pg=>(Sum.inl p.2.1,V.ref p.1)) with
  | none=>rw [e] at h;cases h
  | some p =>
    rw [e] at h
    obtain ⟨j,hj⟩:=List.getElem?_of_mem (List.mem_of_find?_eq_some e)
    have hp:=List.find?_some e
    simp only [Function.comp,decide_eq_true_eq] at hp
    exact ⟨j,p,hj,Sum.inl.inj hp,(Option.some.inj h).symm⟩
theorem Ck {ps:List Pg} {d:Int} (h:tK (kvG ps) (Sum.inl d)=none):∀ p∈ps,p.2.1≠d:=fun p hp e=>by
  unfold tK kvG at h
  rw [Option.map_eq_none_iff,List.find?_eq_none] at h
  have:=h _ (List.mem_map_of_mem hp)
  simp [e] at this
theorem zF {ps:List Pg} {j:Nat} {p:Pg} (h:ps[j]?=some p):(Ay ps)[j]?=some (p.1,.lst ((Tn.asI p.2.2).map V.int)):=by
  unfold Ay;rw [List.getElem?_map,h];rfl
theorem mK {α β:Type} {f:α→β}:∀ {ps:List α} {j:Nat} {p q:α},ps[j]?=some p→f q=f p→(ps.set j q).map f=ps.map f
  | [],_,_,_,h,_=>by simp at h
  | a :: ps,0,p,q,h,e=>by
    have:a=p:=by simpa using h
    subst this
    simp [e]
  | a :: ps,j + 1,p,q,h,e=>by
    rw [List.set_cons_succ,List.map_cons,List.map_cons,mK (by simpa using h) e]
theorem za {f f1 f2:Addr} {fd fd1 fd2:FuncData} (D:Df K mg "groups_of" dX ["roll"] f fd) (B:Blt mg)
    (cj:Df K mg "day_filed" dG ["one"] f1 fd1) (kY:cI P w K mg base CX0 1 f1 fd1 ["one"] (yF K))
    (j7:Df K mg "ranked" iy ["roll"] f2 fd2) (Dd:cI P w K mg base CX0 5 f2 fd2 ["roll"] (rE K T)):cI P w K mg base CX0 6 f fd ["roll"] (rF K T):=by
  refine D.F.ok jR (fun vs H Q E h=>?_) (fun cdv A outer s H vs Q E hr h=>?_)
  · obtain ⟨_,_,rfl,_⟩:=h;rfl
  · obtain ⟨v,ls,rfl,hd,h64,tk,q⟩:=h
    obtain ⟨va,vs,rfl,hV,d0⟩:=hd.iz
    have hvl:vs.length=ls.length:=by rw [d0.length,List.length_map]
    refine ⟨_,(au (aO (i:=1) jR.nd rfl (Or.inl rfl) Bx)
      (au (dZ PassesOwn.never rfl (cu (aK Dd (hr.mono (by decide)) rfl j7.m j7.F.kp j7.b .nil bK (ak (pv 0) aq))) (aL (i:=2) jR.nd rfl (Or.inl rfl))
        (aB (iW (qD PySem.F.plainAttrs_list PySem.F.slot_list_append PySem.F.type_list_append gq (Jh (pv 1) (aK kY (hr.mono (by decide)) rfl cj.m cj.F.kp cj.b .nil bK (ak (aQ aH (pv 0) (pv 2) (fun _ _=>rfl)) aq)) (gP aq) ⟨rfl,rfl,rfl,rfl⟩) (ak (pv 2) aq)))))
      (aB (bw (uo rfl rfl B.list (pv 1)))))),?_⟩
    refine QZ ?_
    intro zu0 zu1 zu2
    have O:=Ow.refl tk
    intro dg hdg
    walk_at "nw"
    refine ⟨_,rfl,.ref va,ls,rfl,hd.qG O.same,h64,O.same.t1,O.tL fun lt H2 xs O ⟨p,ep,hp⟩=>?_⟩
    subst ep
    refine ⟨lt,rfl,⟨_,O.sq 0⟩,?_⟩
    refine gA (K:=K) (xs:=p.map fun (i:Nat)=>V.int (i:Int)) (fun i σ H'=>Iv (∃ (v2:Option V) (ps:List Pg),σ=[some (.ref va),some (.ref dg),v2]∧ps.length≤i ∧
      Ow T H H' ((lt,.lst (p.map fun (i:Nat)=>V.int (i:Int))) :: (dg,.dK (kvG ps)) :: Ay ps)∧Tn.Grp (oN ls) (p.take i) (ps.map (·.2))))
      ⟨trivial,none,[],rfl,Nat.le_refl _,O,Tn.Grp.start _⟩ (fun i σ H' _ ⟨_,_,_,_,_,O,_⟩=>O.sq 0) ?_ ?_
    · rintro i y σ H3 hy ⟨-,v2,ps,rfl,hpl,O,G⟩
      rw [List.getElem?_map] at hy
      obtain ⟨k,hk,rfl⟩:∃ k,p[i]?=some k∧y=V.int (k:Int):=by
        cases e:p[i]? with
        | none=>rw [e] at hy;cases hy
        | some j=>rw [e] at hy;exact ⟨j,rfl,(Option.some.inj hy).symm⟩
      have hi:=(List.getElem?_eq_some_iff.mp hk).1
      have hpn:=hp.len
      have hkl:=hp.lt (List.mem_of_getElem? hk)
      have hbe:=hp.before hk
      obtain ⟨al,hal,hTl⟩:=d0.lK (List.getElem?_eq_getElem hkl)
      have edl:=qN (List.getElem?_eq_getElem hkl)
      have hvk:vs[k]?=some (.ref al):=hal
      refine ⟨_,rfl,dg,rfl,.inl ⟨_,.inl (O.get 1)⟩,_,rfl,_,rfl,va,_,(k:Int),_,rfl,rfl,O.same.seq hV,bW hvk,al,_,rfl,hTl.mo O.same,?_⟩
      rw [← edl]
      refine ⟨szl,fun l1 h1=>?_⟩
      walk_at "nw"
      refine ⟨kvG ps,Sum.inl (oN ls k),O.get 2,rfl,?_,fun v hv=>?_,fun hn=>?_⟩
      · unfold kvG
        exact aY (by rw [List.length_map];omega)
      · have O:=O.tail
        obtain ⟨j,pj,hj,ej,rfl⟩:=Cj hv
        have hgj:(ps.map (·.2))[j]?=some pj.2:=by rw [List.getElem?_map,hj];rfl
        have lat:((lt,HO.lst (p.map fun (i:Nat)=>V.int (i:Int))) :: (dg,HO.dK (kvG ps)) :: Ay ps)[j + 2]?=some (pj.1,.lst ((Tn.asI pj.2.2).map V.int)):=by
          rw [List.getElem?_cons_succ,List.getElem?_cons_succ];exact zF hj
        have hgl:pj.2.2.length≤1000:=by
          have hs:pj.2.2.Sublist (p.take i):=by rw [← G.flat];exact Tn.nu (List.mem_map_of_mem (List.mem_of_getElem? hgj))
          have:=hs.length_le
          rw [List.length_take] at this;omega
        refine ⟨.inl ⟨rfl,_,SqL.of (O.get (j + 2) lat)⟩,_,rfl,pj.1,_,_,rfl,rfl,O.get (j + 2) lat,aY (by rw [List.length_map,Tn.jk];omega),?_⟩
        generalize hE:upd _ _ _=Hn
        have O:=Ow.ug O (j + 2) lat hE rfl
        clear hE
        refine ⟨trivial,_,ps.set j (pj.1,pj.2.1,pj.2.2++[k]),rfl,by rw [List.length_set];omega,?_,?_⟩
        · rw [show kvG (ps.set j (pj.1,pj.2.1,pj.2.2++[k]))=kvG ps from mK hj rfl]
          rw [List.set_cons_succ,List.set_cons_succ] at O
          unfold Ay
          rw [List.map_set]
          unfold Ay at O
          simp only [Tn.asI,List.map_append,List.map_cons,List.map_nil]
          exact O
        · rw [Tn.iT hk,List.map_set]
          exact G.more hgj ej hbe
      · rw [Bt _ hn]
        walk_at "pt"
        refine ⟨.inl ⟨rfl,_,O.sq 0⟩,_,rfl,l1,_,_,rfl,rfl,O.get 0,aY (by simp),?_⟩
        walk_at "pt"
        refine ⟨trivial,_,ps++[(l1,oN ls k,[k])],rfl,by rw [List.length_append];simp;omega,?_,?_⟩
        · unfold kvG Ay
          rw [List.map_append,List.map_append]
          unfold kvG Ay at O
          refine O.perm ?_
          have e:((lt,HO.lst (p.map fun (i:Nat)=>V.int (i:Int))) :: (dg,HO.dK (ps.map (fun p=>((Sum.inl p.2.1:Key),V.ref p.1))++[(l1,oN ls k,[k])].map (fun p:Pg=>((Sum.inl p.2.1:Key),V.ref p.1)))) :: (ps.map (fun p=>(p.1,HO.lst ((Tn.asI p.2.2).map V.int)))++[(l1,oN ls k,[k])].map (fun p:Pg=>(p.1,HO.lst ((Tn.asI p.2.2).map V.int)))))
            = ((lt,HO.lst (p.map fun (i:Nat)=>V.int (i:Int))) :: (dg,HO.dK (ps.map (fun p=>((Sum.inl p.2.1:Key),V.ref p.1))++[(Sum.inl (oN ls k),V.ref l1)])) :: ps.map (fun p=>(p.1,HO.lst ((Tn.asI p.2.2).map V.int))))++[(l1,HO.lst ([]++[V.int (k:Int)]))]:=rfl
          rw [e]
          exact List.perm_append_comm
        · rw [Tn.iT hk,List.map_append]
          exact G.new (fun g hg=>by
            obtain ⟨p',hp',rfl⟩:=List.mem_map.mp hg
            exact Ck hn p' hp') hbe
    · rintro σ H3 ⟨-,v2,ps,rfl,hpl,O,G⟩
      rw [List.length_map,List.take_of_length_le (Nat.le_refl _)] at G
      refine ⟨_,rfl,dg,kvG ps,rfl,.inl (O.get 1),fun l hl=>?_⟩
      walk_at "nw"
      have e:(kvG ps).map (·.2)=ps.map fun p=>V.ref p.1:=by unfold kvG;rw [List.map_map];rfl
      rw [e] at O
      exact q l _ ps p (O.sub ((List.Sublist.cons _ (List.Sublist.cons _ (List.Sublist.refl _))).cons₂ _)) hp G
abbrev jU:Stmt:=top 26
theorem jo:aX ["below","springs","roll","calls","free","wants","takes","group","ways","dealt","number","take"] ["below","springs","roll","calls"] (ao jU):=⟨rfl,rfl,rfl,by decide +kernel,rfl,by decide +kernel,by decide +kernel⟩
def o8 (r:List Int) (ls:List Lic):Nat→List Int:=Tn.fW (ls.map fun l=>Rv.eN r l.start l.back)
theorem nC {r:List Int} {ls:List Lic} {k:Nat} {l:Lic} (h:ls[k]?=some l):o8 r ls k=Rv.eN r l.start l.back:=by
  unfold o8 Tn.fW;rw [List.getD_eq_getElem?_getD,List.getElem?_map,h];rfl
def gZ (r:List Int) (l:Lic):Prop:=Qj r l∧0≤l.most
theorem xU {r:List Int} (hR:Rv.eX r) {ls:List Lic} (h:∀ l∈ls,gZ r l) {k:Nat} (hk:k<ls.length):Tn.WOk r.length (o8 r ls k):=by
  obtain ⟨h0,h1,_⟩:=(h _ (List.getElem_mem hk)).1
  rw [nC (List.getElem?_eq_getElem hk)]
  exact Rv.qg hR h0 h1
structure xH (r s:List Int) (ls:List Lic) (cs xs:List Int):Prop where
  len:xs.length=ls.length
  fit:Tn.Fit ls.length (Tn.fF (Rv.nats r s)) (o8 r ls) (Tn.fX (jd ls cs)) (Tn.fX xs)
  shown:Tn.oW ls.length (Tn.fF (Rv.nats r s)) (o8 r ls) (oN ls) (Tn.fX (jd ls cs)) (Tn.fX xs)
theorem zp {r s:List Int} (h:∀ x∈s,0≤x) (i:Int):0≤Rv.nj r s i:=by
  have key:∀ (n:Nat) (f:Nat→Int),(∀ j,j<n→0≤f j)→0≤Rv.tot n f:=by
    intro n f
    induction n with
    | zero=>intro _;exact Int.le_refl _
    | succ n ih =>
      intro hf
      have:=ih fun j hj=>hf j (by omega)
      have:=hf n (by omega)
      show 0≤Rv.tot n f + f n
      omega
  refine key _ _ fun j _=>?_
  by_cases hj:j<s.length
  · have:=h _ (Tn.lO hj)
    split
    · exact this
    · exact Int.le_refl _
  · rw [List.getD_eq_getElem?_getD,List.getElem?_eq_none (by omega)]
    split <;> exact Int.le_refl _
theorem Jt {r s:List Int} (h:∀ x∈s,0≤x):∀ x∈Rv.nats r s,0≤x:=fun x hx=>by
  obtain ⟨i,_,rfl⟩:=List.mem_map.mp hx
  exact zp h _
theorem wC {ls:List Lic} {cs:List Int} (h:ls.length=cs.length):(jd ls cs).length=ls.length:=by
  unfold jd;rw [List.length_zipWith];omega
theorem xW {ls:List Lic} {cs:List Int} {k:Nat} {l:Lic} {c:Int} (hl:ls[k]?=some l) (hc:cs[k]?=some c):(jd ls cs)[k]?=some (min c l.most):=by
  unfold jd;rw [List.getElem?_zipWith,hl,hc]
theorem xV {r:List Int} {ls:List Lic} {cs:List Int} (h:∀ l∈ls,gZ r l) (hc:∀ c∈cs,0≤c):∀ x∈jd ls cs,0≤x:=fun x hx=>by
  obtain ⟨k,hk⟩:=List.getElem?_of_mem hx
  unfold jd at hk
  rw [List.getElem?_zipWith] at hk
  cases e1:ls[k]? with
  | none=>rw [e1] at hk;simp at hk
  | some l =>
    cases e2:cs[k]? with
    | none=>rw [e1,e2] at hk;simp at hk
    | some c =>
      rw [e1,e2] at hk
      have:=(h l (List.mem_of_getElem? e1)).2
      have:=hc c (List.mem_of_getElem? e2)
      have:x=min c l.most:=(Option.some.inj hk).symm
      omega
def tX (K:PySem.W.Frag) (T:fU):Sp:=fun vs H Q _=>∃ (a b c:Addr) (v:V) (r s:List Int) (ls:List Lic) (cs:List Int),vs=[.ref a,.ref b,v,.ref c]∧JW K H a r∧SqL K H b (s.map V.int)∧s.length=r.length∧(∀ x∈s,0≤x)∧Den K H v (su ls)∧ls.length<64∧SqL K H c (cs.map V.int)∧ls.length=cs.length∧(∀ l∈ls,gZ r l)∧(∀ c∈cs,0≤c)∧TabsOk T H ∧
  oX T H (fun ys=>∃ xs,ys=xs.map V.int∧xH r s ls cs xs) Q
theorem Jp {f f1 f2 f3 f4 f5:Addr} {fd fd1 fd2 fd3 fd4 fd5:FuncData} (D:Df K mg "deal" jU ["below","springs","roll","calls"] f fd) (B:Blt mg)
    (fJ:Df K mg "natural_of" cY ["below","springs"] f1 fd1) (tu:cI P w K mg base CX0 6 f1 fd1 ["below","springs"] (Dg K T))
    (iK:Df K mg "wants_of" eG ["roll","calls"] f2 fd2) (xr:cI P w K mg base CX0 2 f2 fd2 ["roll","calls"] (vh K T))
    (gF:Df K mg "groups_of" dX ["roll"] f3 fd3) (uR:cI P w K mg base CX0 6 f3 fd3 ["roll"] (rF K T))
    (fH:Df K mg "reaches_of" cX ["below","one"] f4 fd4) (sZ:cI P w K mg base CX0 3 f4 fd4 ["below","one"] (pL K))
    (fL:Df K mg "deal_turns" cZ ["free","ways","rests"] f5 fd5) (tD:cI P w K mg base CX0 4 f5 fd5 ["free","ways","rests"] (Kc K T)) :
    cI P w K mg base CX0 7 f fd ["below","springs","roll","calls"] (tX K T):=by
  refine D.F.ok jo (fun vs H Q E h=>?_) (fun cdv A outer s H vs Q E hr h=>?_)
  · obtain ⟨_,_,_,_,_,_,_,_,rfl,_⟩:=h;rfl
  · obtain ⟨a,b,c,v,r,sp,ls,cs,rfl,⟨hA,hR,h64⟩,hB,hsl,hsn,hd,hl64,hC,hlc,ok,hcn,tk,q⟩:=h
    obtain ⟨va,vs,rfl,hV,d0⟩:=hd.iz
    have hvl:vs.length=ls.length:=by rw [d0.length,List.length_map]
    refine ⟨_,(au (aO (i:=4) jo.nd rfl (Or.inl rfl) (aK tu (hr.mono (by decide)) rfl fJ.m fJ.F.kp fJ.b .nil bK (ak (pv 0) (ak (pv 1) aq))))
      (au (aO (i:=5) jo.nd rfl (Or.inr rfl) (aK xr (hr.mono (by decide)) rfl iK.m iK.F.kp iK.b .nil bK (ak (pv 2) (ak (pv 3) aq))))
      (au (aO (i:=6) jo.nd rfl (Or.inl rfl) (bf mX (gP (ak aA aq)) (aJ aC rfl B.len PySem.boot_len (ak (pv 2) aq))))
      (au (dZ PassesOwn.never rfl (cu (aK uR (hr.mono (by decide)) rfl gF.m gF.F.kp gF.b .nil bK (ak (pv 2) aq))) (aL (i:=7) jo.nd rfl (Or.inl rfl))
        (au (iH (i:=8) (ao jU) rfl ["below","springs","roll","calls","free","wants","takes","group","ways","dealt","number","take"] rfl ["number","below","roll"] [none,some 0,some 2] (by decide +kernel) (by decide +kernel) (by decide +kernel) rfl jo.nd rfl rfl (cu (pv 7)) (fun _ _ _=>(aL (i:=0) (show (["number","below","roll"]:List Str).Nodup by decide +kernel) rfl (Or.inl rfl))) (fun _ _ _=>gk) (fun _ _ _=>(aK sZ (hr.mono (by decide)) rfl fH.m fH.F.kp fH.b .nil bK (ak (pv 1) (ak (aQ (jH (K:=K) rfl) (pv 2) (pv 0) (fun _ _=>rfl)) aq)))) rfl)
        (au (j9 (aK tD (hr.mono (by decide)) rfl fL.m fL.F.kp fL.b .nil bK (ak (pv 4) (ak (pv 8) (ak (jD (ao jU) rfl ["below","springs","roll","calls","free","wants","takes","group","ways","dealt","number","take"] rfl ["number","wants"] [none,some 5] (by decide +kernel) (by decide +kernel) (by decide +kernel) rfl (cu (pv 7)) (fun _ _ _=>(aL (i:=0) (show (["number","wants"]:List Str).Nodup by decide +kernel) rfl (Or.inl rfl))) (fun _ _ _=>gk) (fun _ _ _=>(aQ (jH (K:=K) rfl) (pv 1) (pv 0) (fun _ _=>rfl)))) aq)))) (mU rfl (bC (aL (i:=9) jo.nd rfl (Or.inl rfl)) (bC (aL (i:=4) jo.nd rfl (Or.inl rfl)) iZ))))
        (aB (dZ PassesOwn.never rfl (vG rfl B.zip (ak (pv 7) (ak (pv 9) aq))) (mU rfl (bC (aL (i:=10) jo.nd rfl (Or.inl rfl)) (bC (aL (i:=11) jo.nd rfl (Or.inl rfl)) iZ)))
          (aB (j9 (pv 11) (n6 (pv 6) (pv 10) set_list))))))))
      (aB (bw (pv 6))))))),?_⟩
    refine QX ?_
    intro zu0 zu1 zu2 zu3 zu4 zu5 zu6 zu7
    have O:=Ow.refl tk
    refine ⟨_,rfl,_,rfl,a,b,r,sp,rfl,⟨hA,hR,h64⟩,hB,hsl,tk,O.tL fun lf H1 ys O e=>?_⟩
    subst e
    refine ⟨_,rfl,_,rfl,.ref va,c,ls,cs,rfl,hd.qG O.same,O.same.seq hC,hlc,by omega,O.same.t1,O.tL fun lw H2 ys O e=>?_⟩
    subst e
    have hnl:(Rv.nats r sp).length=r.length:=(Rv.zm r sp).len
    have hnn:=Jt (r:=r) hsn
    have hwl:=wC hlc
    have hwn:=xV ok hcn
    have hW:=fun k (hk:k<ls.length)=>xU hR ok hk
    have hwk:∀ k,k<ls.length→0≤Tn.fX (jd ls cs) k:=fun k hk=>hwn _ (Tn.lO (by omega))
    generalize hwa:jd ls cs=wa at O hwl hwn hwk
    refine ⟨szl,fun l1 h1=>?_⟩
    walk_at "nw"
    refine ⟨_,rfl,va,_,rfl,.inl (O.same.seq hV),l1,_,_,rfl,rfl,O.get 0,by omega,by omega,ig (by rw [Int.toNat_natCast];simp;omega),fun lt hlt=>?_⟩
    walk_at "nw"
    rw [Int.toNat_natCast,jt,hvl] at O
    have O:=O.two
    refine ⟨_,rfl,.ref va,ls,rfl,hd.qG O.same,hl64,O.same.t1,fun lg H3 ps p OG R G=>?_⟩
    have nin:∀ q∈((lg,HO.lst (ps.map fun p=>V.ref p.1)) :: Ay ps),∀ z∈[(lt,HO.lst ((List.replicate ls.length 0).map V.int)),(lw,.lst (wa.map V.int)),(lf,.lst ((Rv.nats r sp).map V.int))],z.1≠q.1:=fun q hq z hz e=>by
      have h1:=OG.new q hq
      have h2:=O.at_ z hz
      rw [e,h1] at h2;cases h2
    obtain ⟨Hb,O,sb,kb⟩:=(O.uM OG.same).reb
    have hG:SqL K Hb lg (ps.map fun p=>V.ref p.1):=SqL.of (kb lg _ (OG.get 0) (nin _ List.mem_cons_self))
    have hP:∀ (j:Nat) (pj:Pg),ps[j]?=some pj→SqL K Hb pj.1 ((Tn.asI pj.2.2).map V.int):=fun j pj hj=>by
      have:=zF hj
      have hm:=List.mem_of_getElem? this
      exact SqL.of (kb _ _ (OG.at_ _ (List.mem_cons_of_mem _ hm)) (nin _ (List.mem_cons_of_mem _ hm)))
    clear nin kb OG
    have hA:=sb.seq hA
    have hV:=sb.seq hV
    have d0:=d0.mo sb
    refine ⟨lg,rfl,⟨_,O.same.seq hG⟩,?_⟩
    refine gA (K:=K) (xs:=ps.map fun p=>V.ref p.1) (fun j σ H'=>Iv (∃ (lf:Addr) (v7 v8 v9 v10 v11:Option V) (xs fl:List Int),σ=[some (.ref a),some (.ref b),some (.ref va),some (.ref c),some (.ref lf),some (.ref lw),some (.ref lt),v7,v8,v9,v10,v11] ∧
      Ow T Hb H' [(lt,.lst (xs.map V.int)),(lw,.lst (wa.map V.int)),(lf,.lst (fl.map V.int))]∧Tn.xM ls.length (Rv.nats r sp) (o8 r ls) (oN ls) (Tn.fX wa) (ps.map (·.2)) j xs fl))
      ⟨trivial,lf,none,none,none,none,none,_,_,rfl,O,Tn.xM.start _ hwk hnn⟩ (fun i σ H' _ ⟨_,_,_,_,_,_,_,_,_,_,O,_⟩=>O.same.seq hG) ?_ ?_
    · rintro j y σ H4 hy ⟨-,lf,v7,v8,v9,v10,v11,xs,fl,rfl,O,GI⟩
      rw [List.getElem?_map] at hy
      obtain ⟨pj,hj,rfl⟩:∃ pj,ps[j]?=some pj∧y=V.ref pj.1:=by
        cases e:ps[j]? with
        | none=>rw [e] at hy;cases hy
        | some j=>rw [e] at hy;exact ⟨j,rfl,(Option.some.inj hy).symm⟩
      have hgj:(ps.map (·.2))[j]?=some pj.2:=by rw [List.getElem?_map,hj];rfl
      have hPj:=hP j pj hj
      have up:=G.up R (List.mem_of_getElem? hgj)
      have nd:=Tn.eZ up
      have hlt:∀ k∈pj.2.2,k<ls.length:=fun k hk=>R.lt (by rw [← G.flat];exact List.mem_flatten.mpr ⟨pj.2.2,List.mem_map_of_mem (List.mem_of_getElem? hgj),hk⟩)
      have hgl:pj.2.2.length≤ls.length:=by
        have hs:pj.2.2.Sublist p:=by rw [← G.flat];exact Tn.nu (List.mem_map_of_mem (List.mem_of_getElem? hgj))
        have:=hs.length_le
        rw [R.len] at this;exact this
      have hfl:=GI.fll
      have hxl:=GI.xl
      have hfn:=GI.nn hnn
      /- ways -/
      refine ⟨_,rfl,pj.1,rfl,⟨_,O.same.seq hPj⟩,fun acc hacc=>?_⟩
      refine eE (K:=K) (xs:=(Tn.asI pj.2.2).map V.int) (fun i τ H'=>Iv (∃ (v0:Option V) (Hc:Hp) (us:List V),τ=[v0,some (.ref a),some (.ref va)]∧Ow T Hc H' [(acc,.lst us),(lt,.lst (xs.map V.int)),(lw,.lst (wa.map V.int)),(lf,.lst (fl.map V.int))]∧bA T Hb Hc∧cU K Hc us ((pj.2.2.take i).map fun k=>jO (o8 r ls k))))
        ⟨trivial,none,Hb,[],rfl,O.mk' hacc rfl,bA.refl O.same.t0,.nil⟩ (fun i τ H' _ ⟨_,_,_,_,_,O,sc,_⟩=>(sc.trans O.same).seq hPj) ?_ ?_
      · rintro i y τ H5 hy ⟨-,v0,Hc,us,rfl,O,sc,d1⟩
        obtain ⟨z,hz,rfl⟩:=ints_get hy
        obtain ⟨k,hk,rfl⟩:=Tn.jc hz
        have hi:=(List.getElem?_eq_some_iff.mp hk).1
        have hkl:=hlt k (List.mem_of_getElem? hk)
        obtain ⟨al,hal,hTl⟩:=d0.lK (List.getElem?_eq_getElem hkl)
        refine xQ ?_
        refine ⟨_,rfl,_,rfl,_,rfl,va,_,(k:Int),_,rfl,rfl,(sc.trans O.same).seq hV,bW hal,a,al,r,_,rfl,(sc.trans O.same).seq hA,hR,by omega,hTl.mo (sc.trans O.same),(ok _ (List.getElem_mem hkl)).1,O.got fun lx H6 ys O e=>?_⟩
        subst e
        refine ⟨_,O.get 1,aY (by rw [d1.length,List.length_map,List.length_take];omega),?_⟩
        walk_at "pt"
        obtain ⟨Hn2,O,sn,en2⟩:=O.frz
        refine ⟨trivial,_,Hn2,us++[.ref lx],rfl,O,sc.trans sn,?_⟩
        rw [Tn.gw hk]
        refine (d1.mo sn).append (.cons ?_ .nil)
        rw [nC (List.getElem?_eq_getElem hkl)]
        exact Den.ints (SqL.of en2)
      rintro τ H5 ⟨-,v0,Hc,us,rfl,O,sc,d1⟩
      rw [List.length_map,Tn.jk,List.take_of_length_le (Nat.le_refl _)] at d1
      /- rests -/
      refine ⟨_,rfl,_,rfl,_,rfl,pj.1,rfl,⟨_,(sc.trans O.same).seq hPj⟩,fun ac2 hac2=>?_⟩
      refine eE (K:=K) (xs:=(Tn.asI pj.2.2).map V.int) (fun i τ H'=>Iv (∃ (v0:Option V),τ=[v0,some (.ref lw)]∧Ow T Hc H' [(ac2,.lst (((pj.2.2.take i).map (Tn.fX wa)).map V.int)),(acc,.lst us),(lt,.lst (xs.map V.int)),(lw,.lst (wa.map V.int)),(lf,.lst (fl.map V.int))]))
        ⟨trivial,none,rfl,O.mk' hac2 rfl⟩ (fun i τ H' _ ⟨_,_,_,O⟩=>(sc.trans O.same).seq hPj) ?_ ?_
      · rintro i y τ H6 hy ⟨-,v0,rfl,O⟩
        obtain ⟨z,hz,rfl⟩:=ints_get hy
        obtain ⟨k,hk,rfl⟩:=Tn.jc hz
        have hi:=(List.getElem?_eq_some_iff.mp hk).1
        have hkl:=hlt k (List.mem_of_getElem? hk)
        refine xQ ?_
        refine ⟨_,rfl,_,rfl,lw,_,(k:Int),_,rfl,rfl,O.sq 3,bx (bF (ns:=wa) (k:=k) (by omega)),?_⟩
        refine ⟨_,O.get 0,aY (by rw [List.length_map,List.length_map,List.length_take];omega),?_⟩
        walk_at "pt"
        refine ⟨trivial,_,rfl,?_⟩
        rw [Tn.gw hk,List.map_append];exact O
      rintro τ H6 ⟨-,v0,rfl,O⟩
      rw [List.length_map,Tn.jk,List.take_of_length_le (Nat.le_refl _)] at O
      have dws:cU K Hc us ((pj.2.2.map (o8 r ls)).map jO):=by rw [List.map_map];exact d1
      refine ⟨lf,ac2,.ref acc,fl,pj.2.2.map (Tn.fX wa),pj.2.2.map (o8 r ls),rfl,O.sq 4,.list (O.sq 1) (dws.mo O.same),O.sq 0,by rw [List.length_map,List.length_map],by omega,by rw [List.length_map];omega,fun w hw=>?_,hfn,fun x hx=>?_,O.same.t1,fun l lt2 ll ys left t H7 OD L=>?_⟩
      · obtain ⟨k,hk,rfl⟩:=List.mem_map.mp hw
        rw [hfl,hnl]
        exact hW k (hlt k hk)
      · obtain ⟨k,hk,rfl⟩:=List.mem_map.mp hx
        exact hwk k (hlt k hk)
      have O:=O.join OD
      walk_at "jn"
      refine ⟨l,_,rfl,O.sqT 0,rfl,_,_,rfl,_,_,rfl,rfl,?_⟩
      have O:=((((O.del 0).del 2).del 2).del 4)
      walk_at "er"
      have hyl:ys.length=pj.2.2.length:=by rw [L.xl,List.length_map]
      refine ⟨_,rfl,_,rfl,pj.1,lt2,_,_,rfl,(sc.trans O.same).seq hPj,O.sq 0,?_⟩
      refine zU (K:=K) (fun i σ H'=>Iv (∃ (v10 v11:Option V) (cur:List Int),σ=[some (.ref a),some (.ref b),some (.ref va),some (.ref c),some (.ref ll),some (.ref lw),some (.ref lt),some (.ref pj.1),some (.ref acc),some (.ref lt2),v10,v11]∧cur.length=ls.length∧(∀ k,Tn.fX cur k=Tn.over (Tn.fX xs) (pj.2.2.take i) (Tn.fX ys) k) ∧
        Ow T Hc H' [(lt2,.lst (ys.map V.int)),(ll,.lst (left.map V.int)),(lt,.lst (cur.map V.int)),(lw,.lst (wa.map V.int))])) (by rw [List.length_map,List.length_map,Tn.jk];omega)
        ⟨trivial,_,_,xs,rfl,hxl,fun k=>by rw [List.take_zero,Tn.jE (by simp)],O⟩ (fun i σ H' _ ⟨_,_,_,_,_,_,_,O⟩=>⟨(sc.trans O.same).seq hPj,O.sq 0⟩) ?_ ?_
      · rintro i x y t' σ H8 hx hy ⟨-,v10,v11,cur,rfl,hcl,hov,O⟩ ht
        obtain ⟨z,hz,rfl⟩:=ints_get hx
        obtain ⟨k,hk,rfl⟩:=Tn.jc hz
        obtain ⟨u,hu,rfl⟩:=ints_get hy
        have hkl:=hlt k (List.mem_of_getElem? hk)
        walk_at "nw"
        refine ⟨t',_,rfl,O.sqT 0,rfl,_,_,rfl,_,_,rfl,rfl,?_⟩
        refine ⟨_,rfl,_,rfl,_,rfl,lt,_,_,k,rfl,rfl,O.get 3,gW (by rw [List.length_map];omega),?_⟩
        walk_at "pt"
        have O:=O.tail
        refine ⟨trivial,_,_,cur.set k u,rfl,by rw [List.length_set];exact hcl,fun m=>?_,by rw [List.map_set];exact O⟩
        rw [Tn.yW nd hk m,← hov m]
        unfold Tn.fX
        rw [Tn.qK (by omega)]
        by_cases hm:m=k
        · rw [if_pos hm,if_pos hm,List.getD_eq_getElem?_getD,hu];rfl
        · rw [if_neg hm,if_neg hm]
      · rintro σ H8 ⟨-,v10,v11,cur,rfl,hcl,hov,O⟩
        rw [List.length_map,Tn.jk,List.take_of_length_le (Nat.le_refl _)] at hov
        have O:=(O.base sc).tail
        have O:=O.pull 2
        walk_at "er"
        have O:=O.pull 2
        walk_at "er"
        refine ⟨trivial,ll,_,_,_,_,_,cur,left,rfl,O,?_⟩
        exact GI.step G R hgj (by rw [hnl];exact hW) L hcl hov
    · rintro σ H4 ⟨-,lf,v7,v8,v9,v10,v11,xs,fl,rfl,O,GI⟩
      rw [List.length_map] at GI
      have GI:Tn.xM ls.length (Rv.nats r sp) (o8 r ls) (oN ls) (Tn.fX wa) (ps.map (·.2)) (ps.map (·.2)).length xs fl:=by rw [List.length_map];exact GI
      obtain ⟨F1,F2⟩:=GI.finish G R
      rw [← hwa] at F1 F2
      exact ⟨_,rfl,(O.base sb).ret 0 rfl q ⟨xs,rfl,GI.xl,F1,F2⟩⟩
theorem CG {ls:List Lic} (h:∀ l∈ls,0≤l.day) (k:Nat):0≤oN ls k:=by
  unfold oN
  cases e:ls[k]? with
  | none=>exact Int.le_refl _
  | some l=>exact h l (List.mem_of_getElem? e)
theorem vV {r s:List Int} {ls:List Lic} {cs xs ys:List Int} (hd:∀ l∈ls,0≤l.day) (a:xH r s ls cs xs) (b:xH r s ls cs ys):ys=xs:=by
  have xl:=a.len
  have yl:=b.len
  refine List.ext_getElem? fun i=>?_
  by_cases hi:i<ls.length
  · have:=Tn.unique (fun k _=>CG hd k) b.fit b.shown a.fit a.shown i hi
    rw [bF (ns:=ys) (by omega),bF (ns:=xs) (by omega)]
    exact congrArg some this
  · rw [List.getElem?_eq_none (by omega),List.getElem?_eq_none (by omega)]
def gY (l:Lic) (s:Int):Lic:=⟨l.day,s,l.back,l.most⟩
abbrev cV:Stmt:=top 14
theorem qu:aX ["one","start"] ["one","start"] (ao cV):=⟨rfl,rfl,rfl,by decide +kernel,rfl,by decide +kernel,by decide +kernel⟩
def J8 (K:PySem.W.Frag) (T:fU):Sp:=fun vs H Q _=>∃ (a:Addr) (l:Lic) (s:Int),vs=[.ref a,.int s]∧SqT K H a (m8 l)∧TabsOk T H∧uO T H (fun xs=>xs=m8 (gY l s)) Q
theorem Rb {f:Addr} {fd:FuncData} (D:Df K mg "with_start" cV ["one","start"] f fd):cI P w K mg base CX0 1 f fd ["one","start"] (J8 K T):=by
  refine D.F.ok qu (fun vs H Q E h=>?_) (fun cdv A outer s H vs Q E hr h=>?_)
  · obtain ⟨_,_,_,rfl,_⟩:=h;rfl
  · obtain ⟨a,l,s,rfl,hT,tk,q⟩:=h
    have O:=Ow.refl tk
    refine ⟨_,(aB (bw (jw (ak (aQ d9 (pv 0) aA (fun _ _=>rfl)) (ak (pv 1) (ak (aQ d9 (pv 0) aA (fun _ _=>rfl)) (ak (aQ d9 (pv 0) aA (fun _ _=>rfl)) aq))))))),?_⟩
    refine ⟨_,rfl,a,_,0,_,rfl,rfl,hT,rfl,_,rfl,_,rfl,a,_,2,_,rfl,rfl,hT,rfl,_,rfl,a,_,3,_,rfl,rfl,hT,rfl,szl,fun t ht=>?_⟩
    walk_at "nw"
    exact O.Qo 0 rfl q rfl
abbrev jT:Stmt:=top 28
theorem vA:aX ["roll","number","start","changed"] ["roll","number","start"] (ao jT):=⟨rfl,rfl,rfl,by decide +kernel,rfl,by decide +kernel,by decide +kernel⟩
def Dh (K:PySem.W.Frag) (T:fU):Sp:=fun vs H Q _=>∃ (a:Addr) (us:List V) (ls:List Lic) (k:Nat) (l:Lic) (s:Int),vs=[.ref a,.int (k:Int),.int s]∧SqL K H a us∧cU K H us (ls.map qX)∧ls[k]?=some l∧ls.length<1000∧TabsOk T H ∧
  ∀ (m t:Addr) (H':Hp),Ow T H H' [(m,.lst (us.set k (.ref t))),(t,.tup (m8 (gY l s)))]→Q (.ref m) H'
theorem KC {f f1:Addr} {fd fd1:FuncData} (D:Df K mg "moved" jT ["roll","number","start"] f fd) (B:Blt mg) (fB:Df K mg "with_start" cV ["one","start"] f1 fd1) (sW:cI P w K mg base CX0 1 f1 fd1 ["one","start"] (J8 K T)):cI P w K mg base CX0 2 f fd ["roll","number","start"] (Dh K T):=by
  refine D.F.ok vA (fun vs H Q E h=>?_) (fun cdv A outer s H vs Q E hr h=>?_)
  · obtain ⟨_,_,_,_,_,_,rfl,_⟩:=h;rfl
  · obtain ⟨a,us,ls,k,l,s,rfl,hA,d0,hk,hl,tk,q⟩:=h
    have O:=Ow.refl tk
    obtain ⟨al,hal,hT⟩:=d0.lK hk
    have hkl:=(List.getElem?_eq_some_iff.mp hk).1
    have hul:us.length=ls.length:=by rw [d0.length,List.length_map]
    refine ⟨_,(au (aO (i:=3) vA.nd rfl (Or.inl rfl) (cP cH rfl B.list PyProof.Rows.boot_list (ak (pv 0) aq)))
      (au (j9 (aK sW (hr.mono (by decide)) rfl fB.m fB.F.kp fB.b .nil bK (ak (aQ aH (pv 0) (pv 1) (fun _ _=>rfl)) (ak (pv 2) aq))) (n6 (pv 3) (pv 1) set_list))
      (aB (bw (pv 3))))),?_⟩
    refine Td ?_
    intro zu0 zu1
    refine ⟨_,rfl,a,_,rfl,.inl hA,fun m hm=>?_⟩
    walk_at "nw"
    refine ⟨_,rfl,_,rfl,a,_,_,_,rfl,rfl,O.same.seq hA,bW hal,_,rfl,al,l,s,rfl,hT.mo O.same,O.same.t1,O.PX fun t H2 xs O e=>?_⟩
    subst e
    refine ⟨_,rfl,_,rfl,m,_,_,k,rfl,rfl,O.get 1,gW (by omega),?_⟩
    walk_at "pt"
    refine ⟨_,rfl,q m t _ (O.pull 1)⟩
theorem pO {K:PySem.W.Frag} {H:Hp} {us:List V} {ls:List Lic} {k:Nat} {l:Lic} {t:Addr} (d:cU K H us (ls.map qX)) (h:SqT K H t (m8 l)):cU K H (us.set k (.ref t)) ((ls.set k l).map qX):=by
  induction us generalizing ls k with
  | nil =>
    cases ls with
    | nil=>exact .nil
    | cons x ls=>cases d
  | cons u us ih =>
    cases ls with
    | nil=>cases d
    | cons x ls =>
      cases d with
      | cons d0 ds =>
        cases k with
        | zero=>exact .cons (Den.lic h) ds
        | succ k=>exact .cons d0 (ih ds)
def cG (n:Nat):Nat→List Int→List Int→Option (Nat × Int × Int)
  | i,b :: bs,a :: as=>if i≠n∧a<b then some (i,b,a) else cG n (i + 1) bs as
  | _,_,_=>none
theorem zV {n k:Nat} {xs ys:List Int} {x y:Int} (hx:xs[k]?=some x) (hy:ys[k]?=some y):cG n k (xs.drop k) (ys.drop k)=if k≠n∧y<x then some (k,x,y) else cG n (k + 1) (xs.drop (k + 1)) (ys.drop (k + 1)):=by
  obtain ⟨h1,e1⟩:=List.getElem?_eq_some_iff.mp hx
  obtain ⟨h2,e2⟩:=List.getElem?_eq_some_iff.mp hy
  rw [List.drop_eq_getElem_cons h1,List.drop_eq_getElem_cons h2,e1,e2,cG]
theorem Ii {n k:Nat} {xs ys:List Int} (h:xs.length≤k):cG n k (xs.drop k) (ys.drop k)=none:=by
  rw [List.drop_eq_nil_of_le h];cases ys.drop k <;> rfl
abbrev gM:Stmt:=top 29
theorem cA:aX ["below","roll","number","start","record","other_roll","day","one_day","springs","calls","all_calls","takes","other_takes","other","before","after"] ["below","roll","number","start","record"] (ao gM):=⟨rfl,rfl,rfl,by decide +kernel,rfl,by decide +kernel,by decide +kernel⟩
def Qe (ds:List (List Int × List Int)):PyData:=.list (ds.map fun p=>.tuple [jO p.1,jO p.2])
def tO (m:Nat) (cs:List Int):List Int:=cs++List.replicate (m - cs.length) 0
def eU (r:List Int) (ls ls':List Lic) (n:Nat) (d:List Int × List Int) (o:Option (Nat × Int × Int)):Prop:=∃ xs ys,xH r d.1 ls (tO ls.length d.2) xs∧xH r d.1 ls' (tO ls.length d.2) ys∧cG n 0 xs ys=o
def xq (r:List Int) (m:Nat) (ds:List (List Int × List Int)):Prop:=∀ d∈ds,d.1.length=r.length∧(∀ x∈d.1,0≤x)∧d.2.length≤m∧∀ c∈d.2,0≤c
def yE (K:PySem.W.Frag) (T:fU):Sp:=fun vs H Q _=>∃ (a b:Addr) (v:V) (us:List V) (r:List Int) (ls:List Lic) (n:Nat) (l:Lic) (st:Int) (ds:List (List Int × List Int)),vs=[.ref a,.ref b,.int (n:Int),.int st,v]∧JW K H a r∧SqL K H b us∧cU K H us (ls.map qX)∧ls[n]?=some l∧ls.length<64∧(∀ l∈ls,gZ r l)∧gZ r (gY l st)∧Den K H v (Qe ds)∧ds.length≤1000∧xq r ls.length ds∧TabsOk T H ∧
  ((∀ d∈ds,eU r ls (ls.set n (gY l st)) n d none)→∀ H',bA T H H'→Q .non H') ∧
  (∀ (i:Nat) (d:List Int × List Int) (o:Nat) (x y:Int),ds[i]?=some d→(∀ j d',j<i→ds[j]?=some d'→eU r ls (ls.set n (gY l st)) n d' none)→eU r ls (ls.set n (gY l st)) n d (some (o,x,y))→uO T H (fun xs=>xs=[.int (i:Int),.int (o:Int),.int x,.int y]) Q)
theorem Jm {f f1 f2:Addr} {fd fd1 fd2:FuncData} (D:Df K mg "harm_of" gM ["below","roll","number","start","record"] f fd) (B:Blt mg)
    (mF:Df K mg "moved" jT ["roll","number","start"] f1 fd1) (JT:cI P w K mg base CX0 2 f1 fd1 ["roll","number","start"] (Dh K T))
    (jl:Df K mg "deal" jU ["below","springs","roll","calls"] f2 fd2) (wA:cI P w K mg base CX0 7 f2 fd2 ["below","springs","roll","calls"] (tX K T)):cI P w K mg base CX0 8 f fd ["below","roll","number","start","record"] (yE K T):=by
  refine D.F.ok cA (fun vs H Q E h=>?_) (fun cdv A outer s H vs Q E hr h=>?_)
  · obtain ⟨_,_,_,_,_,_,_,_,_,_,rfl,_⟩:=h;rfl
  · obtain ⟨a,b,v,us,r,ls,n,l,st,ds,rfl,hA,hB,d0,hk,hl,hlo,hlo',dR,hdl,hrec,tk,q0,q⟩:=h
    have O:=Ow.refl tk
    refine ⟨_,(au (aO (i:=5) cA.nd rfl (Or.inl rfl) (aK JT (hr.mono (by decide)) rfl mF.m mF.F.kp mF.b .nil bK (ak (pv 1) (ak (pv 2) (ak (pv 3) aq)))))
      (au (dZ PassesOwn.never rfl (yS rfl B.enumerate (ak (pv 4) aq)) (mU rfl (bC (aL (i:=6) cA.nd rfl (Or.inl rfl)) (bC (aL (i:=7) cA.nd rfl (Or.inl rfl)) iZ)))
        (au (j9 (pv 7) (mU rfl (bC (aL (i:=8) cA.nd rfl (Or.inl rfl)) (bC (aL (i:=9) cA.nd rfl (Or.inl rfl)) iZ))))
        (au (aO (i:=10) cA.nd rfl (Or.inl rfl) (bf vJ (cP cH rfl B.list PyProof.Rows.boot_list (ak (pv 9) aq)) (bf mX (gP (ak aA aq)) (bf rN (aJ aC rfl B.len PySem.boot_len (ak (pv 1) aq)) (aJ aC rfl B.len PySem.boot_len (ak (pv 9) aq))))))
        (au (aO (i:=11) cA.nd rfl (Or.inl rfl) (aK wA (hr.mono (by decide)) rfl jl.m jl.F.kp jl.b .nil bK (ak (pv 0) (ak (pv 8) (ak (pv 1) (ak (pv 10) aq))))))
        (au (aO (i:=12) cA.nd rfl (Or.inl rfl) (aK wA (hr.mono (by decide)) rfl jl.m jl.F.kp jl.b .nil bK (ak (pv 0) (ak (pv 8) (ak (pv 5) (ak (pv 10) aq))))))
        (aB (dZ PassesOwn.never rfl (Jf rfl B.zip (ak (cP CV rfl B.range PyProof.Rows.boot_range (ak (aJ aC rfl B.len PySem.boot_len (ak (pv 1) aq)) aq)) (ak (pv 11) (ak (pv 12) aq)))) (mU rfl (bC (aL (i:=13) cA.nd rfl (Or.inl rfl)) (bC (aL (i:=14) cA.nd rfl (Or.inl rfl)) (bC (aL (i:=15) cA.nd rfl (Or.inl rfl)) iZ))))
          (aB (gD (PW.pt (pw_and (aZ pq (pv 13) (pv 2) (bD _)) (pw_and1 (aZ ux (pv 15) (pv 14) (bD _)))))
            (aB (bw (jw (ak (pv 6) (ak (pv 13) (ak (pv 14) (ak (pv 15) aq)))))))
            bR)))))))))
      (aB (bw kh)))),?_⟩
    refine QW ?_
    intro zu0 zu1 zu2 zu3 zu4 zu5 zu6 zu7 zu8
    have hnl:=(List.getElem?_eq_some_iff.mp hk).1
    have hul:us.length=ls.length:=by rw [d0.length,List.length_map]
    refine ⟨_,rfl,_,rfl,_,rfl,b,us,ls,n,l,st,rfl,hB,d0,hk,by omega,tk,fun m t H1 O=>?_⟩
    obtain ⟨av,vs,rfl,hV,dV⟩:=dR.iz
    have hvl:vs.length=ds.length:=by rw [dV.length,List.length_map]
    generalize hls':ls.set n (gY l st)=ls' at q0 q
    have hl':ls'.length=ls.length:=by rw [← hls',List.length_set]
    have hlo2:∀ l∈ls',gZ r l:=fun x hx=>by
      rw [← hls'] at hx
      rcases List.mem_or_eq_of_mem_set hx with h | h
      · exact hlo x h
      · rw [h];exact hlo'
    have Dall:∀ {H'},Ow T H H' [(m,.lst (us.set n (.ref t))),(t,.tup (m8 (gY l st)))]→cU K H' (us.set n (.ref t)) (ls'.map qX):=fun O=>by
      rw [← hls'];exact pO (d0.mo O.same) (O.sqT 1)
    refine ⟨_,rfl,av,vs,rfl,O.same.seq hV,?_⟩
    refine Cw (K:=K) (xs:=vs) (fun i σ H'=>Iv (∃ (v6 v7 v8 v9 v10 v11 v12 v13 v14 v15:Option V),σ=[some (.ref a),some (.ref b),some (.int (n:Int)),some (.int st),some (.ref av),some (.ref m),v6,v7,v8,v9,v10,v11,v12,v13,v14,v15]∧(∀ j d',j<i→ds[j]?=some d'→eU r ls ls' n d' none)∧Ow T H H' [(m,.lst (us.set n (.ref t))),(t,.tup (m8 (gY l st)))]))
      ⟨trivial,_,_,_,_,_,_,_,_,_,_,rfl,fun j d' hj=>absurd hj (Nat.not_lt_zero _),O⟩ (fun i σ H' _ ⟨_,_,_,_,_,_,_,_,_,_,_,_,_,O⟩=>O.same.seq hV) ?_ ?_
    · clear O
      rintro i y tt σ H4 hy ⟨-,v6,v7,v8,v9,v10,v11,v12,v13,v14,v15,rfl,hno,O⟩ ht
      walk_at "nw"
      obtain ⟨d,hd,dd⟩:=dV.get' hy
      rw [List.getElem?_map] at hd
      obtain ⟨dy,hdy,rfl⟩:=Option.map_eq_some_iff.mp hd
      obtain ⟨ay,zs,rfl,hTy,dz⟩:=dd.yd
      obtain ⟨c1,c2,c3,c4⟩:=hrec dy (List.mem_of_getElem? hdy)
      cases dz with
      | cons e1 e2=>cases e2 with
        | cons e2 e3 =>
          cases e3
          obtain ⟨asp,rfl,hSp⟩:=e1.nq
          obtain ⟨acl,rfl,hCl⟩:=e2.nq
          refine ⟨tt,_,rfl,O.sqT 0,rfl,_,_,rfl,_,_,rfl,rfl,?_⟩
          have O:=O.tail
          refine ⟨_,rfl,ay,_,rfl,O.same.Jc hTy,rfl,_,_,rfl,_,_,rfl,rfl,?_⟩
          refine ⟨_,rfl,acl,_,rfl,.inl (O.same.seq hCl),fun lc hlc=>?_⟩
          walk_at "nw"
          refine ⟨szl,fun lz hlz=>?_⟩
          walk_at "nw"
          have hk1:((us.length:Int) - (((dy.2.map V.int).length:Nat):Int)).toNat=ls.length - dy.2.length:=by rw [List.length_map];omega
          have hk2:(dy.2.map V.int).length=dy.2.length:=List.length_map _
          refine ⟨_,rfl,b,_,rfl,.inl (O.same.seq hB),_,rfl,acl,_,rfl,.inl (O.same.seq hCl),_,_,rfl,rfl,lz,_,_,rfl,rfl,O.get 0,by omega,by omega,(by rw [hk1,sizeLine_eq];show 1 * _≤_;omega),fun lr hlr=>?_⟩
          walk_at "nw"
          rw [hk1,show [V.int 0]=[V.int (0:Int)] from rfl,jt] at O
          refine ⟨lc,lr,_,_,rfl,rfl,O.get 2,O.get 0,(by rw [List.length_map,List.length_map,List.length_replicate,sizeLine_eq];omega),fun la hla=>?_⟩
          walk_at "nw"
          rw [← List.map_append] at O
          have hcl:(tO ls.length dy.2).length=ls.length:=by unfold tO;rw [List.length_append,List.length_replicate];omega
          have hcn:∀ c∈tO ls.length dy.2,0≤c:=fun c hc=>by
            rcases List.mem_append.mp hc with h | h
            · exact c4 c h
            · rw [(List.mem_replicate.mp h).2];decide
          rw [show dy.2++List.replicate (ls.length - dy.2.length) 0=tO ls.length dy.2 from rfl] at O
          have O:Ow T H _ [(la,.lst ((tO ls.length dy.2).map V.int)),(m,.lst (us.set n (.ref t))),(t,.tup (m8 (gY l st)))]:=O.sub (List.Sublist.cons₂ _ (List.sublist_append_right [_,_,_] _))
          refine ⟨_,rfl,_,rfl,_,rfl,_,rfl,a,asp,la,.ref b,r,dy.1,ls,tO ls.length dy.2,rfl,⟨O.same.seq hA.1,hA.2⟩,O.same.seq hSp,c1,c2,.list (O.same.seq hB) (d0.mo O.same),hl,O.sq 0,hcl.symm,hlo,hcn,O.same.t1,O.tL fun lx H5 xs O e=>?_⟩
          obtain ⟨xs,rfl,DX⟩:=e
          refine ⟨_,rfl,_,rfl,_,rfl,_,rfl,a,asp,la,.ref m,r,dy.1,ls',tO ls.length dy.2,rfl,⟨O.same.seq hA.1,hA.2⟩,O.same.seq hSp,c1,c2,.list (O.sq 2) (Dall O.tail.tail),by omega,O.sq 1,by omega,hlo2,hcn,O.same.t1,O.tL fun ly H6 ys O e=>?_⟩
          obtain ⟨ys,rfl,DY⟩:=e
          have hxl:=DX.len
          have hyl:=DY.len
          refine ⟨_,rfl,b,_,rfl,.inl (O.same.seq hB),_,rfl,fun lr2 hr2=>?_⟩
          walk_at "nw"
          refine ⟨_,rfl,_,rfl,lr2,lx,ly,us.length,_,_,rfl,O.get 0,by omega,O.sq 2,O.sq 1,?_⟩
          refine Cv (K:=K) (fun k σ H'=>Iv (∃ (v13 v14 v15:Option V),σ=[some (.ref a),some (.ref b),some (.int (n:Int)),some (.int st),some (.ref av),some (.ref m),some (.int (i:Int)),some (.ref ay),some (.ref asp),some (.ref acl),some (.ref la),some (.ref lx),some (.ref ly),v13,v14,v15]∧cG n 0 xs ys=cG n k (xs.drop k) (ys.drop k) ∧
            Ow T H H' [(ly,.lst (ys.map V.int)),(lx,.lst (xs.map V.int)),(m,.lst (us.set n (.ref t))),(t,.tup (m8 (gY l st)))]))
            ⟨trivial,_,_,_,rfl,rfl,O.sub (List.Sublist.cons _ (List.Sublist.cons₂ _ (List.Sublist.cons₂ _ (List.sublist_cons_self _ _))))⟩ (by rw [List.length_map];omega) (by rw [List.length_map];omega) (fun k σ H' _ ⟨_,_,_,_,_,_,O⟩=>⟨O.sq 1,O.sq 0⟩) ?_ ?_
          · clear O
            rintro k x y T7 σ H7 hkl hx1 hy1 ⟨-,v13,v14,v15,rfl,hfh,O⟩ hT7
            obtain ⟨x,hx2,rfl⟩:=ints_get hx1
            obtain ⟨y,hy2,rfl⟩:=ints_get hy1
            walk_at "nw"
            refine ⟨T7,_,rfl,O.sqT 0,rfl,_,_,rfl,_,_,rfl,_,_,rfl,rfl,?_⟩
            have O:=O.tail
            rw [zV hx2 hy2] at hfh
            have go:¬ (k≠n∧y<x)→Iv (∃ (v13 v14 v15:Option V),[some (V.ref a),some (.ref b),some (.int (n:Int)),some (.int st),some (.ref av),some (.ref m),some (.int (i:Int)),some (.ref ay),some (.ref asp),some (.ref acl),some (.ref la),some (.ref lx),some (.ref ly),some (.int (k:Int)),some (.int x),some (.int y)]=[some (V.ref a),some (.ref b),some (.int (n:Int)),some (.int st),some (.ref av),some (.ref m),some (.int (i:Int)),some (.ref ay),some (.ref asp),some (.ref acl),some (.ref la),some (.ref lx),some (.ref ly),v13,v14,v15]∧cG n 0 xs ys=cG n (k + 1) (xs.drop (k + 1)) (ys.drop (k + 1))∧Ow T H _ [(ly,.lst (ys.map V.int)),(lx,.lst (xs.map V.int)),(m,.lst (us.set n (.ref t))),(t,.tup (m8 (gY l st)))]):=fun h=>by
              rw [if_neg h] at hfh
              exact ⟨trivial,_,_,_,rfl,hfh,O⟩
            refine ⟨_,rfl,_,rfl,rfl,_,rfl,ifN (ifI (fun h1=>?_) (fun h1=>?_))⟩
            · exact go fun z=>z.1 (by have h1:(k:Int)=(n:Int):=h1;omega)
            refine ⟨_,rfl,_,rfl,_,_,rfl,rfl,_,rfl,ifD (fun h2=>?_) (fun h2=>?_)⟩
            rotate_left
            · exact go fun z=>h2 z.2
            refine ⟨_,rfl,_,rfl,_,rfl,_,rfl,szl,fun tR hR=>?_⟩
            walk_at "nw"
            rw [if_pos ⟨fun z=>h1 (by rw [z]),h2⟩] at hfh
            exact O.Qo 0 rfl (q i dy k x y hdy hno ⟨xs,ys,DX,DY,hfh⟩) rfl
          clear O
          rintro σ H7 ⟨-,v13,v14,v15,rfl,hfh,O⟩
          rw [Ii (by omega)] at hfh
          refine ⟨trivial,_,_,_,_,_,_,_,_,_,_,rfl,fun j d' hj hd'=>?_,O.tail.tail⟩
          by_cases hji:j<i
          · exact hno j d' hji hd'
          · have:j=i:=by omega
            rw [this,hdy] at hd'
            rw [← Option.some.inj hd']
            exact ⟨xs,ys,DX,DY,hfh⟩
    clear O
    rintro σ H5 ⟨-,v6,v7,v8,v9,v10,v11,v12,v13,v14,v15,rfl,hno,O⟩
    refine q0 (fun d hd=>?_) _ O.same
    obtain ⟨j,hj,e⟩:=List.mem_iff_getElem.mp hd
    exact hno j d (by omega) (by rw [List.getElem?_eq_getElem hj,e])
abbrev cL:Stmt:=top 36
theorem jf:aX ["river","start","stop","walk","place"] ["river","start","stop"] (ao cL):=⟨rfl,rfl,rfl,by decide +kernel,rfl,by decide +kernel,by decide +kernel⟩
def Bo (K:PySem.W.Frag) (T:fU):Sp:=fun vs H Q _=>∃ (a:Addr) (r:List Int) (p b:Int),vs=[.ref a,.int p,.int b]∧SqL K H a (r.map V.int)∧Rv.eX r∧0≤p∧p<r.length∧r.length≤900∧TabsOk T H∧oX T H (fun xs=>xs=(Rv.eN r p b).map V.int) Q
theorem Rc {f:Addr} {fd:FuncData} (D:Df K mg "_law_walk" cL ["river","start","stop"] f fd):cI P w K mg base CX0 1 f fd ["river","start","stop"] (Bo K T):=by
  refine D.F.ok jf (fun vs H Q E h=>?_) (fun cdv A outer s H vs Q E hr h=>?_)
  · obtain ⟨_,_,_,_,rfl,_⟩:=h;rfl
  · obtain ⟨a,r,p,b,rfl,hS,hR,p0,p1,hn,tk,q⟩:=h
    refine ⟨_,(au (aO (i:=3) jf.nd rfl (Or.inl rfl) (gP aq))
      (au (aO (i:=4) jf.nd rfl (Or.inl rfl) (pv 1))
      (au (qz PassesOwn.never (PW.pt (pw_and (aZ pq (pv 4) (pv 2) (bD _)) (pw_and1 (aZ pq (pv 4) (kI iR aA) (bD _)))))
        (au (iW (qD PySem.F.plainAttrs_list PySem.F.slot_list_append PySem.F.type_list_append gq (pv 3) (ak (pv 4) aq)))
        (aB (aO (i:=4) jf.nd rfl (Or.inl rfl) (aQ aH (pv 0) (pv 4) (fun _ _=>rfl))))))
      (aB (bw (pv 3)))))),?_⟩
    refine QV ?_
    intro zu0 zu1 zu2 zu3 zu4
    have O:=Ow.refl tk
    refine ⟨szl,fun lw hlw=>?_⟩
    walk_at "nw"
    refine ⟨_,rfl,?_⟩
    have hsl:(Rv.eN r p b).length≤r.length + 1:=by
      have h1:=Rv.uW r p
      unfold Rv.eN
      split
      · exact h1
      · exact Nat.le_trans (List.takeWhile_sublist _).length_le h1
    refine ⟨fun m σ H2=>Iv (∃ (pre:List Int) (z:Int),σ=[some (.ref a),some (.int p),some (.int b),some (.ref lw),some (.int z)]∧Ow T H H2 [(lw,.lst (pre.map V.int))]∧(z=-1∨(0≤z∧z<r.length))∧pre++Rv.eN r z b=Rv.eN r p b∧m=Rv.mea r z),
      ⟨_,trivial,[],p,rfl,O,.inr ⟨p0,p1⟩,rfl,rfl⟩,?_⟩
    clear O
    rintro m σ H2 ⟨-,pre,z,rfl,O,hz,e,rfl⟩
    refine ⟨_,rfl,_,rfl,rfl,_,rfl,ifN (ifI (fun h1=>?_) (fun h1=>?_))⟩
    · have h1:z=b:=h1
      dsimp only
      rw [if_neg Bool.false_ne_true]
      refine ⟨_,rfl,O.ret 0 rfl q ?_⟩
      have e2:Rv.eN r z b=[]:=by
        rcases hz with rfl | ⟨z0,z1⟩
        · exact Rv.rD r b
        · rw [← h1];exact Rv.wM hR z0 z1
      rw [e2,List.append_nil] at e
      rw [e]
    refine ⟨_,rfl,_,rfl,rfl,_,rfl,ifN (ifI (fun h2=>?_) (fun h2=>?_))⟩
    · have h2:z=-1:=h2
      refine ⟨_,rfl,O.ret 0 rfl q ?_⟩
      rw [h2,Rv.rD,List.append_nil] at e
      rw [e]
    have h1:¬ z=b:=h1
    have h2:¬ z=-1:=h2
    obtain ⟨z0,z1⟩:=hz.resolve_left h2
    have hlen:pre.length≤r.length + 1:=by
      have:=hsl
      rw [← e,List.length_append] at this;omega
    refine ⟨fun σ' H'=>∃ m',m'<Rv.mea r z∧Iv (∃ (pre:List Int) (z:Int),σ'=[some (.ref a),some (.int p),some (.int b),some (.ref lw),some (.int z)]∧Ow T H H' [(lw,.lst (pre.map V.int))]∧(z=-1∨(0≤z∧z<r.length))∧pre++Rv.eN r z b=Rv.eN r p b∧m'=Rv.mea r z),fun _ _ x=>x,?_⟩
    have g:=Rv.jK z0 z1
    refine ⟨_,rfl,.inl ⟨rfl,_,O.sq 0⟩,_,rfl,lw,_,_,rfl,rfl,O.get 0,aY (by rw [List.length_map];omega),?_⟩
    walk_at "pt"
    refine ⟨_,rfl,_,rfl,a,_,_,_,rfl,rfl,O.same.seq hS,jJ z0 g,?_⟩
    refine ⟨_,Rv.Dy hR z0 z1,trivial,pre++[z],Rv.nxt r z,rfl,?_,hR.step z0 z1,?_,rfl⟩
    · rw [List.map_append];exact O
    · rw [List.append_assoc]
      show pre++(z :: Rv.eN r (Rv.nxt r z) b)=_
      rw [← Rv.wN hR z0 z1 (fun z=>h1 z.symm)];exact e
abbrev bV:Stmt:=top 37
theorem o9:aX ["x","great"] ["x","great"] (ao bV):=⟨rfl,rfl,rfl,by decide +kernel,rfl,by decide +kernel,by decide +kernel⟩
def Jb:Sp:=fun vs H Q _=>∃ (x:Int) (g:Bool),vs=[.int x,.bl g]∧0≤x∧x<8589934592∧∀ y:Int,0≤y→y≤10 ^ 12→Q (.int y) H
theorem Ri {f:Addr} {fd:FuncData} (D:Df K mg "_law_amount" bV ["x","great"] f fd):cI P w K mg base CX0 1 f fd ["x","great"] Jb:=by
  refine D.F.ok o9 (fun vs H Q E h=>?_) (fun cdv A outer s H vs Q E hr h=>?_)
  · obtain ⟨_,_,rfl,_⟩:=h;rfl
  · obtain ⟨x,g,rfl,x0,x1,q⟩:=h
    refine ⟨_,(au (gD (mR (pv 1))
        (aB (bw (bf d8 (bf mZ (pv 0) (pv 0)) (bf ji (bf Dv aA aA) aA))))
        bR)
      (aB (bw (bf d8 (pv 0) aA)))),?_⟩
    refine Tf ?_
    intro zu0 zu1
    have e12:(10:Int) ^ (12:Int).toNat + 1=1000000000001:=by decide
    refine ⟨_,rfl,_,rfl,?_⟩
    cases g with
    | true =>
      refine Cm ⟨_,rfl,_,rfl,_,_,rfl,rfl,.inl ⟨by omega,by omega⟩,_,_,rfl,rfl,⟨by decide,by decide,by decide⟩,_,_,rfl,rfl,_,_,rfl,rfl,(by show (0:Int)<10 ^ (12:Int).toNat + 1;rw [e12];decide),?_⟩
      have a0:=Int.emod_nonneg (x * x) (show (1000000000001:Int)≠0 by decide)
      have a1:=Int.emod_lt_of_pos (x * x) (show (0:Int)<1000000000001 by decide)
      show Q (.int (x * x % (10 ^ (12:Int).toNat + 1))) H
      rw [e12]
      exact q _ a0 (by omega)
    | false =>
      exact xJ ⟨_,rfl,_,_,rfl,rfl,(by show (0:Int)<8;decide),q _ (by omega) (by omega)⟩
theorem Ds {c:Int} {n:Nat}:∀ y∈wR c n,0≤y∧y<8589934592:=fun y hy=>by
  obtain ⟨i,_,rfl⟩:=List.mem_map.mp hy
  have:=Kp c (i:Int)
  exact ⟨Ko _ _,by omega⟩
theorem Bm {r:List Int} (h:Rv.eX r) {a:Int} (h0:0≤a) (h1:a<r.length):Rv.Stop r a (Rv.nxt r a):=by
  rcases h.step h0 h1 with e | ⟨e0,e1⟩
  · exact .inl e
  · refine .inr ?_
    rw [Rv.cO h h0 h1,Rv.cO h e0 e1]
    exact List.mem_cons_of_mem _ List.mem_cons_self
abbrev bY:Stmt:=top 38
theorem dN:aX ["river","cell","great","xs","start","back"] ["river","cell","great"] (ao bY):=⟨rfl,rfl,rfl,by decide +kernel,rfl,by decide +kernel,by decide +kernel⟩
def Di (K:PySem.W.Frag) (T:fU):Sp:=fun vs H Q _=>∃ (a:Addr) (r:List Int) (c:Int) (g:Bool),vs=[.ref a,.int c,.bl g]∧SqL K H a (r.map V.int)∧Rv.eX r∧1≤r.length∧r.length≤900∧TabsOk T H∧uO T H (fun xs=>∃ l,xs=m8 l∧gZ r l∧0≤l.day) Q
theorem KD {f f1 f2:Addr} {fd fd1 fd2:FuncData} (D:Df K mg "_law_licence" bY ["river","cell","great"] f fd) (B:Blt mg) (aM:Df K mg "_law_pebbles" bB ["cell","many"] f1 fd1) (dJ:cI P w K mg base CX0 2 f1 fd1 ["cell","many"] qp)
    (bh:Df K mg "_law_amount" bV ["x","great"] f2 fd2) (iG:cI P w K mg base CX0 1 f2 fd2 ["x","great"] Jb):cI P w K mg base CX0 3 f fd ["river","cell","great"] (Di K T):=by
  refine D.F.ok dN (fun vs H Q E h=>?_) (fun cdv A outer s H vs Q E hr h=>?_)
  · obtain ⟨_,_,_,_,rfl,_⟩:=h;rfl
  · obtain ⟨a,r,c,gr,rfl,hA,hR,hr1,hr9,tk,q⟩:=h
    have O:=Ow.refl tk
    have hml:((r.map V.int).length:Int)=(r.length:Int):=by rw [List.length_map]
    refine ⟨_,(au (aO (i:=3) dN.nd rfl (Or.inl rfl) (aK dJ (hr.mono (by decide)) rfl aM.m aM.F.kp aM.b .nil bK (ak (pv 1) (ak aA aq))))
      (au (aO (i:=4) dN.nd rfl (Or.inl rfl) (bf d8 (aQ aH (pv 3) aA (fun _ _=>rfl)) (aJ aC rfl B.len PySem.boot_len (ak (pv 0) aq))))
      (au (aO (i:=5) dN.nd rfl (Or.inl rfl) (aQ aH (pv 0) (pv 4) (fun _ _=>rfl)))
      (ju (gD (aZ uy (bf d8 (aQ aH (pv 3) aA (fun _ _=>rfl)) aA) aA (bD _))
        (aB (aO (i:=5) dN.nd rfl (Or.inl rfl) (kI iR aA)))
        bR)
      (aB (bw (jw (ak (bf mZ (bf d8 (aQ aH (pv 3) aA (fun _ _=>rfl)) aA) aA) (ak (pv 4) (ak (pv 5) (ak (aK iG (hr.mono (by decide)) rfl bh.m bh.F.kp bh.b .nil bK (ak (aQ aH (pv 3) aA (fun _ _=>rfl)) (ak (pv 2) aq))) aq))))))))))),?_⟩
    refine Kd ?_
    intro zu0 zu1 zu2 zu3 zu4
    refine ⟨_,rfl,c,5,rfl,by decide,by decide,O.got fun lx H1 xs O e=>?_⟩
    subst e
    have hyb:=Ds (c:=c) (n:=(5:Int).toNat)
    have hyl:(wR c (5:Int).toNat).length=5:=j5 _ _
    generalize wR c (5:Int).toNat=ys at O hyb hyl
    have g:∀ k:Nat,k<5→ys[k]?=some (ys.getD k 0):=fun k hk=>bF (by omega)
    have gb:∀ k:Nat,k<5→0≤ys.getD k 0∧ys.getD k 0<8589934592:=fun k hk=>hyb _ (getD_mem' (by omega))
    have b2:=gb 2 (by decide)
    have b3:=gb 3 (by decide)
    have p0:=Int.emod_nonneg (ys.getD 0 0) (show (r.length:Int)≠0 by omega)
    have p1:=Int.emod_lt_of_pos (ys.getD 0 0) (show (0:Int)<(r.length:Int) by omega)
    refine ⟨_,rfl,lx,_,0,_,rfl,rfl,O.sq 0,bx (i:=0) (g 0 (by decide)),_,rfl,a,_,rfl,.inl (O.same.seq hA),_,_,rfl,rfl,(by rw [hml];omega),?_⟩
    dsimp only
    rw [hml]
    generalize ys.getD 0 0 % (r.length:Int)=st at p0 p1
    refine ⟨_,rfl,_,rfl,a,_,st,_,rfl,rfl,O.same.seq hA,jJ p0 (Rv.jK p0 p1),?_⟩
    refine ⟨fun σ H'=>Iv (∃ bk:Int,σ=[some (.ref a),some (.int c),some (.bl gr),some (.ref lx),some (.int st),some (.int bk)]∧Rv.Stop r st bk∧H'=H1),?_,?_⟩
    · refine ⟨_,rfl,lx,_,1,_,rfl,rfl,O.sq 0,bx (i:=1) (g 1 (by decide)),_,_,rfl,rfl,(by show (0:Int)<4;decide),_,_,rfl,rfl,_,rfl,ifD (fun _=>?_) (fun _=>?_)⟩
      · exact ⟨1,rfl,trivial,-1,rfl,.inl rfl,rfl⟩
      · exact ⟨trivial,_,rfl,Bm hR p0 p1,rfl⟩
    rintro σ H' ⟨-,bk,rfl,hst,rfl⟩
    refine ⟨_,rfl,lx,_,2,_,rfl,rfl,O.sq 0,bx (i:=2) (g 2 (by decide)),_,_,rfl,rfl,(by show (0:Int)<3;decide),_,_,rfl,rfl,.inr ⟨by decide,by decide⟩,_,rfl,_,rfl,_,rfl,lx,_,3,_,rfl,rfl,O.sq 0,bx (i:=3) (g 3 (by decide)),_,rfl,_,gr,rfl,b3.1,b3.2,fun y y0 y1=>?_⟩
    refine ⟨szl,fun t ht=>?_⟩
    walk_at "nw"
    refine O.Qo 0 rfl q ⟨⟨ys.getD 2 0 % 3 * 4321,st,bk,y⟩,rfl,⟨⟨p0,p1,hst⟩,y0⟩,?_⟩
    have:=Int.emod_nonneg (ys.getD 2 0) (show (3:Int)≠0 by decide)
    show 0≤ys.getD 2 0 % 3 * 4321
    omega
theorem ou {l:List Int} (nd:l.Nodup) {i:Nat} {z:Int} (hz:l[i]?=some z):¬ z∈l.take i:=fun hmm=>by
  obtain ⟨h1,h2⟩:=List.getElem?_eq_some_iff.mp hz
  obtain ⟨j,hj,ej⟩:=List.getElem_of_mem hmm
  rw [List.getElem_take] at ej
  rw [List.length_take] at hj
  have:=(List.getElem_inj nd).mp (ej.trans h2.symm)
  omega
theorem nP (r:List Int) (p:Int):Rv.eN r p (-1)=Rv.walk r p:=if_pos rfl
abbrev dY:Stmt:=top 40
theorem dU:aX ["river","springs","roll","takes","free","place","lower","one","take"] ["river","springs","roll","takes"] (ao dY):=⟨rfl,rfl,rfl,by decide +kernel,rfl,by decide +kernel,by decide +kernel⟩
def Dk (K:PySem.W.Frag) (T:fU):Sp:=fun vs H Q _=>∃ (a b c d:Addr) (r s xs:List Int) (us:List V) (ls:List Lic),vs=[.ref a,.ref b,.ref c,.ref d]∧SqL K H a (r.map V.int)∧Rv.eX r∧r.length<64∧SqL K H b (s.map V.int)∧s.length=r.length∧SqL K H c us∧cU K H us (ls.map qX)∧SqL K H d (xs.map V.int)∧xs.length=ls.length∧(∀ l∈ls,gZ r l)∧TabsOk T H ∧
  oX T H (fun ys=>∃ fl,ys=fl.map V.int∧Rv.Fl r.length fl fun i=>Rv.nj r s (i:Int) - Tn.hold ls.length (o8 r ls) (Tn.fX xs) (i:Int)) Q
theorem KN {f fW:Addr} {fd fdW:FuncData} (D:Df K mg "_law_free" dY ["river","springs","roll","takes"] f fd) (B:Blt mg) (aU:Df K mg "_law_walk" cL ["river","start","stop"] fW fdW) (eY:cI P w K mg base CX0 1 fW fdW ["river","start","stop"] (Bo K T)) :
    cI P w K mg base CX0 2 f fd ["river","springs","roll","takes"] (Dk K T):=by
  refine D.F.ok dU (fun vs H Q E h=>?_) (fun cdv A outer s H vs Q E hr h=>?_)
  · obtain ⟨_,_,_,_,_,_,_,_,_,rfl,_⟩:=h;rfl
  · obtain ⟨a,b,c,d,r,sp,xs,us,ls,rfl,hS,hR,h64,hB,hl,hC,dls,hD,hxw,hok,tk,q⟩:=h
    refine ⟨_,(au (aO (i:=4) dU.nd rfl (Or.inl rfl) (bf mX (gP (ak aA aq)) (aJ aC rfl B.len PySem.boot_len (ak (pv 0) aq))))
      (au (dZ PassesOwn.never rfl (gO rfl B.range (ak (aJ aC rfl B.len PySem.boot_len (ak (pv 0) aq)) aq)) (aL (i:=5) dU.nd rfl (Or.inl rfl))
        (aB (dZ PassesOwn.never rfl (cu (aK eY (hr.mono (by decide)) rfl aU.m aU.F.kp aU.b .nil bK (ak (pv 0) (ak (pv 5) (ak (kI iR aA) aq))))) (aL (i:=6) dU.nd rfl (Or.inl rfl))
          (aB (j9 (bf ji (aQ aH (pv 4) (pv 6) (fun _ _=>rfl)) (aQ aH (pv 1) (pv 5) (fun _ _=>rfl))) (n6 (pv 4) (pv 6) set_list))))))
      (au (dZ PassesOwn.never rfl (vG rfl B.zip (ak (pv 2) (ak (pv 3) aq))) (mU rfl (bC (aL (i:=7) dU.nd rfl (Or.inl rfl)) (bC (aL (i:=8) dU.nd rfl (Or.inl rfl)) iZ)))
        (aB (dZ PassesOwn.never rfl (cu (aK eY (hr.mono (by decide)) rfl aU.m aU.F.kp aU.b .nil bK (ak (pv 0) (ak (aQ d9 (pv 7) aA (fun _ _=>rfl)) (ak (aQ d9 (pv 7) aA (fun _ _=>rfl)) aq))))) (aL (i:=6) dU.nd rfl (Or.inl rfl))
          (aB (j9 (bf rN (aQ aH (pv 4) (pv 6) (fun _ _=>rfl)) (pv 8)) (n6 (pv 4) (pv 6) set_list))))))
      (aB (bw (pv 4)))))),?_⟩
    refine QT ?_
    intro zu0 zu1 zu2 zu3 zu4 zu5 zu6
    have hml:(r.map V.int).length=r.length:=List.length_map _
    have hmi:(((r.map V.int).length:Nat):Int)=(r.length:Int):=by rw [hml]
    have O:=Ow.refl tk
    refine ⟨szl,fun l0 hl0=>?_⟩
    walk_at "nw"
    refine ⟨_,rfl,a,_,rfl,.inl (O.same.seq hS),l0,_,_,rfl,rfl,O.get 0,by rw [hml];omega,by rw [hml];omega,ig (by rw [hml,Int.toNat_natCast];simp;omega),fun ld hld=>?_⟩
    walk_at "nw"
    rw [hml,Int.toNat_natCast,jt] at O
    have O:=O.two
    refine ⟨_,rfl,a,_,rfl,.inl (O.same.seq hS),(r.length:Int),congrArg (fun z=>[V.int z]) hmi,by omega,by omega,?_⟩
    rw [Int.toNat_natCast]
    refine gQ (n:=r.length) (fun t σ H3=>Iv (∃ (v5 v6:Option V) (fl:List Int),σ=[some (.ref a),some (.ref b),some (.ref c),some (.ref d),some (.ref ld),v5,v6,none,none]∧Ow T H H3 [(ld,.lst (fl.map V.int))]∧Rv.Fl r.length fl (Rv.wsum r sp t)))
      ⟨trivial,none,none,_,rfl,O,(Rv.Fl.rep r.length 0).uJ fun i _=>rfl⟩ ?_ ?_
    · clear O
      rintro t σ H3 ht ⟨-,v5,v6,fl,rfl,O,FL⟩
      have ht:t<r.length:=ht
      rw [Int.zero_add]
      have hu:sp[t]?=some (sp.getD t 0):=bF (by omega)
      refine ⟨_,rfl,_,rfl,1,rfl,a,r,(t:Int),-1,rfl,O.same.seq hS,hR,by omega,by omega,by omega,O.same.t1,O.tL fun lw H4 ws O ew=>?_⟩
      rw [nP] at ew
      subst ew
      refine ⟨lw,rfl,⟨_,O.sq 0⟩,?_⟩
      refine gA (K:=K) (a:=lw) (xs:=(Rv.walk r (t:Int)).map V.int) (fun i σ H5=>Iv (∃ (v6:Option V) (fl:List Int),σ=[some (.ref a),some (.ref b),some (.ref c),some (.ref d),some (.ref ld),some (.int (t:Int)),v6,none,none] ∧
        Ow T H H5 [(lw,.lst ((Rv.walk r (t:Int)).map V.int)),(ld,.lst (fl.map V.int))]∧Rv.MvI r (Rv.wsum r sp t) (-(sp.getD t 0)) ((Rv.walk r (t:Int)).take i) fl))
        ⟨trivial,v6,fl,rfl,O,Rv.MvI.start _ FL⟩ (fun _ _ _ _ ⟨_,_,_,_,O,_⟩=>O.sq 0) ?_ ?_
      · clear O
        rintro i y σ H5 hy ⟨-,v6,fl,rfl,O,MI⟩
        obtain ⟨z,hz,rfl⟩:=ints_get hy
        obtain ⟨z0,z1⟩:=Rv.uV hR (t:Int) (by omega) (by omega) z (List.mem_of_getElem? hz)
        obtain ⟨zn,rfl⟩:=Int.eq_ofNat_of_zero_le z0
        have hzl:zn<r.length:=by omega
        obtain ⟨x,hx⟩:∃ x,fl[zn]?=some x:=⟨_,MI.at_ zn hzl⟩
        refine ⟨_,rfl,_,rfl,ld,_,_,_,rfl,rfl,O.sq 1,bx hx,_,rfl,_,rfl,b,_,_,_,rfl,rfl,O.same.seq hB,bx hu,_,_,rfl,rfl,_,rfl,_,rfl,?_⟩
        refine vH O 1 rfl (gW (by rw [List.length_map,MI.len];exact hzl)) fun H6 O=>?_
        refine ⟨trivial,_,fl.set zn (x + sp.getD t 0),rfl,?_,?_⟩
        · rw [List.map_set];exact O
        · rw [List.take_add_one,hz,show x + sp.getD t 0=x - -(sp.getD t 0) by omega]
          exact MI.turn hzl (ou (Rv.p8 hR (by omega) (by omega)) hz) hx
      · clear O
        rintro σ H5 ⟨-,v6,fl,rfl,O,MI⟩
        rw [List.length_map,List.take_length] at MI
        exact ⟨trivial,_,_,fl,rfl,O.tail,Rv.xR MI⟩
    clear O
    rintro σ H3 ⟨-,v5,v6,fl,rfl,O,FL⟩
    have FL:Rv.Fl r.length fl fun i=>Rv.nj r sp (i:Int) - Tn.hold 0 (o8 r ls) (Tn.fX xs) (i:Int):=FL.uJ fun i _=>by
      show Rv.wsum r sp r.length i=Rv.nj r sp (i:Int) - 0
      rw [Rv.Bd];omega
    have hul:us.length=ls.length:=by rw [dls.length,List.length_map]
    refine ⟨_,rfl,_,rfl,c,d,_,_,rfl,O.same.seq hC,O.same.seq hD,?_⟩
    refine zU (K:=K) (fun t σ H4=>Iv (∃ (v5 v6 v7 v8:Option V) (fl:List Int),σ=[some (.ref a),some (.ref b),some (.ref c),some (.ref d),some (.ref ld),v5,v6,v7,v8]∧Ow T H H4 [(ld,.lst (fl.map V.int))]∧Rv.Fl r.length fl fun i=>Rv.nj r sp (i:Int) - Tn.hold t (o8 r ls) (Tn.fX xs) (i:Int)))
      (by rw [List.length_map];omega) ⟨trivial,_,_,_,_,fl,rfl,O,FL⟩ (fun _ _ _ _ ⟨_,_,_,_,_,_,_,O,_⟩=>⟨O.same.seq hC,O.same.seq hD⟩) ?_ ?_
    · clear O
      rintro t x y t' σ H4 hx hy ⟨-,v5,v6,v7,v8,fl,rfl,O,FL⟩ ht'
      obtain ⟨u,hu,rfl⟩:=ints_get hy
      obtain ⟨al,l,rfl,hlt,hT⟩:=dls.zE hx
      have lok:=(hok l (List.mem_of_getElem? hlt)).1
      have eu:Tn.fX xs t=u:=by unfold Tn.fX;rw [List.getD_eq_getElem?_getD,hu];rfl
      have ew:o8 r ls t=Rv.eN r l.start l.back:=nC hlt
      obtain ⟨wnd,wrn⟩:=Rv.qg hR (b:=l.back) lok.1 lok.2.1
      walk_at "nw"
      refine ⟨t',_,rfl,O.sqT 0,rfl,_,_,rfl,_,_,rfl,rfl,?_⟩
      have O:=O.tail
      refine ⟨_,rfl,_,rfl,al,_,1,_,rfl,rfl,hT.mo O.same,rfl,_,rfl,al,_,2,_,rfl,rfl,hT.mo O.same,rfl,a,r,l.start,l.back,rfl,O.same.seq hS,hR,lok.1,lok.2.1,by omega,O.same.t1,O.tL fun wa H5 ws O e=>?_⟩
      subst e
      generalize Rv.eN r l.start l.back=wj at ew wnd wrn O
      refine ⟨wa,rfl,⟨_,O.sq 0⟩,?_⟩
      refine gA (K:=K) (a:=wa) (xs:=wj.map V.int) (fun i σ H5=>Iv (∃ (v6:Option V) (fl:List Int),σ=[some (.ref a),some (.ref b),some (.ref c),some (.ref d),some (.ref ld),v5,v6,some (.ref al),some (.int u)] ∧
        Ow T H H5 [(wa,.lst (wj.map V.int)),(ld,.lst (fl.map V.int))]∧Rv.MvI r (fun i=>Rv.nj r sp (i:Int) - Tn.hold t (o8 r ls) (Tn.fX xs) (i:Int)) u (wj.take i) fl))
        ⟨trivial,v6,fl,rfl,O,Rv.MvI.start _ FL⟩ (fun _ _ _ _ ⟨_,_,_,_,O,_⟩=>O.sq 0) ?_ ?_
      · clear O
        rintro i y σ H5 hy ⟨-,v6,fl,rfl,O,MI⟩
        obtain ⟨z,hz,rfl⟩:=ints_get hy
        obtain ⟨z0,z1⟩:=wrn z (List.mem_of_getElem? hz)
        obtain ⟨zn,rfl⟩:=Int.eq_ofNat_of_zero_le z0
        have hzl:zn<r.length:=by omega
        obtain ⟨x,hx⟩:∃ x,fl[zn]?=some x:=⟨_,MI.at_ zn hzl⟩
        refine ⟨_,rfl,_,rfl,ld,_,_,_,rfl,rfl,O.sq 1,bx hx,_,rfl,_,_,rfl,rfl,_,rfl,_,rfl,?_⟩
        refine vH O 1 rfl (gW (by rw [List.length_map,MI.len];exact hzl)) fun H6 O=>?_
        refine ⟨trivial,_,fl.set zn (x - u),rfl,?_,?_⟩
        · rw [List.map_set];exact O
        · rw [List.take_add_one,hz]
          exact MI.turn hzl (ou wnd hz) hx
      · clear O
        rintro σ H5 ⟨-,v6,fl,rfl,O,MI⟩
        rw [List.length_map,List.take_length] at MI
        refine ⟨trivial,_,_,_,_,fl,rfl,O.tail,Rv.Fl.uJ MI fun i _=>?_⟩
        show _=Rv.nj r sp (i:Int) - (Tn.hold t (o8 r ls) (Tn.fX xs) (i:Int) + if (i:Int)∈o8 r ls t then Tn.fX xs t else 0)
        rw [ew,eu];exact Int.sub_sub _ _ _
    clear O
    rintro σ H4 ⟨-,v5,v6,v7,v8,fl,rfl,O,FL⟩
    rw [hul] at FL
    exact ⟨_,rfl,O.ret 0 rfl q ⟨fl,rfl,FL⟩⟩
theorem Ar {d n i d' m j:Int} (h:Tn.uU d n i d' m j):HT.lexLt [d',m,j] [d,n,i]=false:=by
  by_cases e:HT.lexLt [d',m,j] [d,n,i]=true
  · rw [lex3] at e
    unfold Tn.uU at h
    omega
  · simpa using e
abbrev bL:Stmt:=top 41
theorem bJ:aX ["river","free","roll","takes","number","one","after","place","good","other","last"] ["river","free","roll","takes","number"] (ao bL):=⟨rfl,rfl,rfl,by decide +kernel,rfl,by decide +kernel,by decide +kernel⟩
def Wit (r:List Int) (ls:List Lic) (xs fl:List Int) (k:Nat) (z:Int):Prop:=fl.getD z.toNat 0=0∧∀ j,j<ls.length→z∈o8 r ls j→0<Tn.fX xs j→Tn.uU (oN ls j) (Tn.fX xs j) j (oN ls k) (Tn.fX xs k + 1) k
def Dj (K:PySem.W.Frag) (T:fU):Sp:=fun vs H Q _=>∃ (a b c d:Addr) (r fl xs:List Int) (us:List V) (ls:List Lic) (k:Nat),vs=[.ref a,.ref b,.ref c,.ref d,.int (k:Int)]∧SqL K H a (r.map V.int)∧Rv.eX r∧r.length<64∧SqL K H b (fl.map V.int)∧fl.length=r.length∧SqL K H c us∧cU K H us (ls.map qX)∧ls.length<64∧SqL K H d (xs.map V.int)∧xs.length=ls.length∧(∀ l∈ls,gZ r l)∧k<ls.length∧(∃ z∈o8 r ls k,Wit r ls xs fl k z)∧TabsOk T H ∧
  ∀ H',bA T H H'→Q (.bl true) H'
theorem KJ {f fW:Addr} {fd fdW:FuncData} (D:Df K mg "_law_is_shown" bL ["river","free","roll","takes","number"] f fd) (B:Blt mg) (aU:Df K mg "_law_walk" cL ["river","start","stop"] fW fdW) (eY:cI P w K mg base CX0 1 fW fdW ["river","start","stop"] (Bo K T)) :
    cI P w K mg base CX0 2 f fd ["river","free","roll","takes","number"] (Dj K T):=by
  refine D.F.ok bJ (fun vs H Q E h=>?_) (fun cdv A outer s H vs Q E hr h=>?_)
  · obtain ⟨_,_,_,_,_,_,_,_,_,_,rfl,_⟩:=h;rfl
  · obtain ⟨a,b,c,d,r,fl,xs,us,ls,k,rfl,hS,hR,h64,hB,hfl,hC,dls,hl64,hD,hxl,hok,hk,hwit,tk,q⟩:=h
    have hu:=hr.units
    have O:=Ow.refl tk
    have hul:us.length=ls.length:=by rw [dls.length,List.length_map]
    have hui:((us.length:Nat):Int)=(ls.length:Int):=by rw [hul]
    obtain ⟨l,hlk⟩:∃ l,ls[k]?=some l:=⟨_,List.getElem?_eq_getElem hk⟩
    obtain ⟨al,hal,hT⟩:=dls.lK hlk
    have lok:=(hok l (List.mem_of_getElem? hlk)).1
    have ew:o8 r ls k=Rv.eN r l.start l.back:=nC hlk
    obtain ⟨wnd,wrn⟩:=Rv.qg hR (b:=l.back) lok.1 lok.2.1
    have gx:∀ j,j<ls.length→xs[j]?=some (xs.getD j 0):=fun j hj=>bF (by omega)
    refine ⟨_,(au (aO (i:=5) bJ.nd rfl (Or.inl rfl) (aQ aH (pv 2) (pv 4) (fun _ _=>rfl)))
      (au (aO (i:=6) bJ.nd rfl (Or.inl rfl) (jw (ak (aQ d9 (pv 5) aA (fun _ _=>rfl)) (ak (bf ji (aQ aH (pv 3) (pv 4) (fun _ _=>rfl)) aA) (ak (pv 4) aq)))))
      (au (dZ PassesOwn.never rfl (cu (aK eY (hr.mono (by decide)) rfl aU.m aU.F.kp aU.b .nil bK (ak (pv 0) (ak (aQ d9 (pv 5) aA (fun _ _=>rfl)) (ak (aQ d9 (pv 5) aA (fun _ _=>rfl)) aq))))) (aL (i:=7) bJ.nd rfl (Or.inl rfl))
        (au (aO (i:=8) bJ.nd rfl (Or.inl rfl) (kJ pA (aQ aH (pv 1) (pv 7) (fun _ _=>rfl)) aA (bD _)))
        (au (dZ PassesOwn.never rfl (gO rfl B.range (ak (aJ aC rfl B.len PySem.boot_len (ak (pv 2) aq)) aq)) (aL (i:=9) bJ.nd rfl (Or.inl rfl))
          (au (aO (i:=10) bJ.nd rfl (Or.inl rfl) (jw (ak (aQ d9 (aQ aH (pv 2) (pv 9) (fun _ _=>rfl)) aA (fun _ _=>rfl)) (ak (aQ aH (pv 3) (pv 9) (fun _ _=>rfl)) (ak (pv 9) aq)))))
          (aB (gD (PW.pt (pw_and (aZ uy (aQ aH (pv 3) (pv 9) (fun _ _=>rfl)) aA (bD _)) (pw_and (aZ (Ku (Nat.lt_of_le_of_lt (Nat.le_add_right _ 64) hu)) (pv 10) (pv 6) (bD _)) (pw_and1 (aZ yX (pv 7) (aK eY (hr.mono (by decide)) rfl aU.m aU.F.kp aU.b .nil bK (ak (pv 0) (ak (aQ d9 (aQ aH (pv 2) (pv 9) (fun _ _=>rfl)) aA (fun _ _=>rfl)) (ak (aQ d9 (aQ aH (pv 2) (pv 9) (fun _ _=>rfl)) aA (fun _ _=>rfl)) aq)))) (by rfl))))))
            (aB (aO (i:=8) bJ.nd rfl (Or.inl rfl) ur))
            bR))))
        (aB (gD (mR (pv 8))
          (aB (bw ur))
          bR)))))
      (aB (bw ur))))),?_⟩
    refine QS ?_
    intro zu0 zu1 zu2 zu3 zu4 zu5 zu6 zu7 zu8 zu9
    refine ⟨_,rfl,_,rfl,c,_,_,_,rfl,rfl,hC,bW hal,?_⟩
    refine ⟨_,rfl,al,_,0,_,rfl,rfl,hT,rfl,_,rfl,_,rfl,d,_,_,_,rfl,rfl,hD,bx (gx k hk),_,_,rfl,rfl,_,rfl,szl,fun ta hta=>?_⟩
    walk_at "nw"
    refine ⟨_,rfl,_,rfl,al,_,1,_,rfl,rfl,hT.mo O.same,rfl,_,rfl,al,_,2,_,rfl,rfl,hT.mo O.same,rfl,a,r,l.start,l.back,rfl,O.same.seq hS,hR,lok.1,lok.2.1,by omega,O.same.t1,O.tL fun wa H5 ws O e=>?_⟩
    subst e
    rw [ew] at hwit
    generalize Rv.eN r l.start l.back=wj at wnd wrn O hwit
    refine ⟨wa,rfl,⟨_,O.sq 0⟩,?_⟩
    refine gA (K:=K) (a:=wa) (xs:=wj.map V.int) (fun i σ H5=>Iv (∃ (v7 v8 v9 v10:Option V),σ=[some (.ref a),some (.ref b),some (.ref c),some (.ref d),some (.int (k:Int)),some (.ref al),some (.ref ta),v7,v8,v9,v10]∧(∃ j z,i≤j∧wj[j]?=some z∧Wit r ls xs fl k z)∧Ow T H H5 [(wa,.lst (wj.map V.int)),(ta,.tup [.int l.day,.int (xs.getD k 0 + 1),.int (k:Int)])]))
      ⟨trivial,_,_,_,_,rfl,?_,O⟩ (fun _ _ _ _ ⟨_,_,_,_,_,_,_,O⟩=>O.sq 0) ?_ ?_
    · obtain ⟨z,hz,hw⟩:=hwit
      obtain ⟨j,hj,e⟩:=List.mem_iff_getElem.mp hz
      exact ⟨j,z,Nat.zero_le _,by rw [List.getElem?_eq_getElem hj,e],hw⟩
    · clear O
      rintro i y σ H6 hy ⟨-,v7,v8,v9,v10,rfl,⟨j,zj,hij,hzj,hwj⟩,O⟩
      obtain ⟨z,hz,rfl⟩:=ints_get hy
      obtain ⟨z0,z1⟩:=wrn z (List.mem_of_getElem? hz)
      obtain ⟨zn,rfl⟩:=Int.eq_ofNat_of_zero_le z0
      refine ⟨_,rfl,_,rfl,b,_,_,_,rfl,rfl,O.same.seq hB,bx (bF (ns:=fl) (k:=zn) (by omega)),rfl,?_⟩
      refine ⟨_,rfl,c,_,rfl,.inl (O.same.seq hC),(ls.length:Int),congrArg (fun z=>[V.int z]) hui,by omega,by omega,?_⟩
      rw [Int.toNat_natCast]
      refine gQ (n:=ls.length) (fun t σ H7=>Iv (∃ (g:Bool) (v9 v10:Option V),σ=[some (.ref a),some (.ref b),some (.ref c),some (.ref d),some (.int (k:Int)),some (.ref al),some (.ref ta),some (.int (zn:Int)),some (.bl g),v9,v10]∧(Wit r ls xs fl k (zn:Int)→g=true)∧Ow T H H7 [(wa,.lst (wj.map V.int)),(ta,.tup [.int l.day,.int (xs.getD k 0 + 1),.int (k:Int)])]))
        ⟨trivial,_,_,_,rfl,fun hw=>?_,O⟩ ?_ ?_
      · have:=hw.1
        rw [Int.toNat_natCast] at this
        rw [this];rfl
      · clear O
        rintro t σ H7 ht ⟨-,g,v9,v10,rfl,hg,O⟩
        have ht:t<ls.length:=ht
        rw [Int.zero_add]
        obtain ⟨lt,hlt⟩:∃ l,ls[t]?=some l:=⟨_,List.getElem?_eq_getElem ht⟩
        obtain ⟨at',hat,hTt⟩:=dls.lK hlt
        have ltok:=(hok lt (List.mem_of_getElem? hlt)).1
        have hday:oN ls t=lt.day:=qN hlt
        have hdayk:oN ls k=l.day:=qN hlk
        refine ⟨_,rfl,_,rfl,c,_,_,_,rfl,rfl,O.same.seq hC,bW hat,at',_,0,_,rfl,rfl,hTt.mo O.same,rfl,_,rfl,_,rfl,d,_,_,_,rfl,rfl,O.same.seq hD,bx (gx t ht),_,rfl,szl,fun tl htl=>?_⟩
        walk_at "nw"
        refine ⟨_,rfl,_,rfl,d,_,_,_,rfl,rfl,O.same.seq hD,bx (gx t ht),_,_,rfl,rfl,_,rfl,ifD (fun h1=>?_) (fun h1=>?_)⟩
        rotate_left
        · exact ⟨trivial,g,_,_,rfl,hg,O.tail⟩
        refine ⟨_,rfl,_,rfl,tl,ta,[lt.day,xs.getD t 0,(t:Int)],[l.day,xs.getD k 0 + 1,(k:Int)],rfl,rfl,O.sqT 0,O.sqT 2,_,rfl,ifB (fun h2=>?_) (fun h2=>?_)⟩
        rotate_left
        · exact ⟨trivial,g,_,_,rfl,hg,O.tail⟩
        refine ⟨_,rfl,_,rfl,_,rfl,_,rfl,c,_,_,_,rfl,rfl,O.same.seq hC,bW hat,at',_,1,_,rfl,rfl,hTt.mo O.same,rfl,_,rfl,_,rfl,c,_,_,_,rfl,rfl,O.same.seq hC,bW hat,at',_,2,_,rfl,rfl,hTt.mo O.same,rfl,a,r,lt.start,lt.back,rfl,O.same.seq hS,hR,ltok.1,ltok.2.1,by omega,O.same.t1,O.tL fun wb H8 ws O e=>?_⟩
        subst e
        refine ⟨wb,_,rfl,.inl (O.sq 0),rfl,oK _,?_⟩
        rw [if_neg Bool.false_ne_true,uF]
        refine ⟨_,rfl,ifD (fun h3=>?_) (fun h3=>?_)⟩
        rotate_left
        · exact ⟨trivial,g,_,_,rfl,hg,O.tail.tail⟩
        refine ⟨trivial,false,_,_,rfl,fun hw=>?_,O.tail.tail⟩
        have h1:xs.getD t 0 > 0:=h1
        have:=hw.2 t ht (by rw [nC hlt];exact h3) h1
        rw [hday,hdayk] at this
        rw [Ar (n:=xs.getD t 0) (m:=xs.getD k 0 + 1) this] at h2
        cases h2
      clear O
      rintro σ H7 ⟨-,g,v9,v10,rfl,hg,O⟩
      refine ⟨_,rfl,_,rfl,?_⟩
      cases g with
      | true=>exact Cm (q _ O.same)
      | false =>
        refine xJ ⟨trivial,_,_,_,_,rfl,⟨j,zj,?_,hzj,hwj⟩,O⟩
        rcases Nat.lt_or_ge i j with h | h
        · exact h
        · have:j=i:=by omega
          rw [this,hz] at hzj
          rw [← Option.some.inj hzj] at hwj
          exact nomatch hg hwj
    clear O
    rintro σ H7 ⟨-,v7,v8,v9,v10,rfl,⟨j,zj,hij,hzj,-⟩,O⟩
    have:=(List.getElem?_eq_some_iff.mp hzj).1
    rw [List.length_map] at hij
    omega
theorem zW {ls:List Lic} {cs:List Int} {k:Nat} {l:Lic} (hl:ls[k]?=some l) (hlc:ls.length=cs.length):Tn.fX (jd ls cs) k=min (cs.getD k 0) l.most:=by
  have hk:=(List.getElem?_eq_some_iff.mp hl).1
  unfold Tn.fX
  rw [List.getD_eq_getElem?_getD,xW hl (bF (ns:=cs) (by omega))];rfl
abbrev dB:Stmt:=top 42
theorem fZ:aX ["river","springs","roll","calls","takes","free","number","want"] ["river","springs","roll","calls"] (ao dB):=⟨rfl,rfl,rfl,by decide +kernel,rfl,by decide +kernel,by decide +kernel⟩
def Dn (K:PySem.W.Frag) (T:fU):Sp:=fun vs H Q _=>∃ (a b c d:Addr) (r s cs:List Int) (us:List V) (ls:List Lic),vs=[.ref a,.ref b,.ref c,.ref d]∧JW K H a r∧1≤r.length∧SqL K H b (s.map V.int)∧s.length=r.length∧(∀ x∈s,0≤x)∧SqL K H c us∧cU K H us (ls.map qX)∧ls.length<64∧SqL K H d (cs.map V.int)∧ls.length=cs.length∧(∀ l∈ls,gZ r l)∧(∀ c∈cs,0≤c)∧TabsOk T H ∧
  oX T H (fun ys=>∃ xs,ys=xs.map V.int∧xH r s ls cs xs) Q
theorem KY {f f1 f2 f3 f4:Addr} {fd fd1 fd2 fd3 fd4:FuncData} (D:Df K mg "_law_dealt" dB ["river","springs","roll","calls"] f fd) (B:Blt mg)
    (jl:Df K mg "deal" jU ["below","springs","roll","calls"] f1 fd1) (wA:cI P w K mg base CX0 7 f1 fd1 ["below","springs","roll","calls"] (tX K T))
    (gG:Df K mg "_law_free" dY ["river","springs","roll","takes"] f2 fd2) (uT:cI P w K mg base CX0 2 f2 fd2 ["river","springs","roll","takes"] (Dk K T))
    (cR:Df K mg "_law_is_shown" bL ["river","free","roll","takes","number"] f3 fd3) (o7:cI P w K mg base CX0 2 f3 fd3 ["river","free","roll","takes","number"] (Dj K T))
    (bN:Df K mg "_law_whole" cD ["found"] f4 fd4) (jZ:cI P w K mg base CX0 1 f4 fd4 ["found"] ql):cI P w K mg base CX0 8 f fd ["river","springs","roll","calls"] (Dn K T):=by
  refine D.F.ok fZ (fun vs H Q E h=>?_) (fun cdv A outer s H vs Q E hr h=>?_)
  · obtain ⟨_,_,_,_,_,_,_,_,_,rfl,_⟩:=h;rfl
  · obtain ⟨a,b,c,d,r,sp,cs,us,ls,rfl,hA,hr1,hB,hsl,hsn,hC,dls,hl64,hD,hlc,hok,hcn,tk,q⟩:=h
    have O:=Ow.refl tk
    have hul:us.length=ls.length:=by rw [dls.length,List.length_map]
    have hui:((us.length:Nat):Int)=(ls.length:Int):=by rw [hul]
    refine ⟨_,(au (aO (i:=4) fZ.nd rfl (Or.inl rfl) (aK wA (hr.mono (by decide)) rfl jl.m jl.F.kp jl.b .nil bK (ak (pv 0) (ak (pv 1) (ak (pv 2) (ak (pv 3) aq))))))
      (au (gD (PW.pt (pw_or (vD (mR (aJ jL rfl B.isinstance PyProof.Rows.boot_isinstance (ak (pv 4) (ak (qF (v:=.ty "list") rfl B.list PyProof.Rows.boot_list rfl) aq))))) (pw_or1 (aZ pq (aJ aC rfl B.len PySem.boot_len (ak (pv 4) aq)) (aJ aC rfl B.len PySem.boot_len (ak (pv 2) aq)) (bD _)))))
        (aB (bw kh))
        bR)
      (au (aO (i:=5) fZ.nd rfl (Or.inl rfl) (aK uT (hr.mono (by decide)) rfl gG.m gG.F.kp gG.b .nil bK (ak (pv 0) (ak (pv 1) (ak (pv 2) (ak (pv 4) aq))))))
      (au (dZ PassesOwn.never rfl (gO rfl B.range (ak (aJ aC rfl B.len PySem.boot_len (ak (pv 2) aq)) aq)) (aL (i:=6) fZ.nd rfl (Or.inl rfl))
        (au (aO (i:=7) fZ.nd rfl (Or.inl rfl) (aJ (sG rfl) rfl B.min PyProof.Rows.boot_min (ak (aQ d9 (aQ aH (pv 2) (pv 6) (fun _ _=>rfl)) aA (fun _ _=>rfl)) (ak (aQ aH (pv 3) (pv 6) (fun _ _=>rfl)) aq))))
        (au (gD (PW.pt (pw_or (vD (mR (aK jZ (hr.mono (by decide)) rfl bN.m bN.F.kp bN.b .nil bK (ak (aQ aH (pv 4) (pv 6) (fun _ _=>rfl)) aq)))) (pw_or (aZ ux (aQ aH (pv 4) (pv 6) (fun _ _=>rfl)) aA (bD _)) (pw_or1 (aZ uy (aQ aH (pv 4) (pv 6) (fun _ _=>rfl)) (pv 7) (bD _))))))
          (aB (bw kh))
          bR)
        (aB (gD (PW.pt (pw_and (aZ ux (aQ aH (pv 4) (pv 6) (fun _ _=>rfl)) (pv 7) (bD _)) (pw_and1 (vD (mR (aK o7 (hr.mono (by decide)) rfl cR.m cR.F.kp cR.b .nil bK (ak (pv 0) (ak (pv 5) (ak (pv 2) (ak (pv 4) (ak (pv 6) aq)))))))))))
          (aB (bw kh))
          bR)))))
      (au (gD (aZ ux (aJ (Ai rfl) rfl B.min PyProof.Rows.boot_min (ak (pv 5) aq)) aA (bD _))
        (aB (bw kh))
        bR)
      (aB (bw (pv 4)))))))),?_⟩
    refine QM ?_
    intro zu0 zu1 zu2 zu3 zu4 zu5 zu6 zu7 zu8 zu9 zu10 zu11
    refine ⟨_,rfl,_,rfl,_,rfl,_,rfl,a,b,d,.ref c,r,sp,ls,cs,rfl,hA,hB,hsl,hsn,.list hC dls,hl64,hD,hlc,hok,hcn,tk,O.tL fun lx H1 xs O e=>?_⟩
    obtain ⟨xs,rfl,DX⟩:=e
    have hxl:=DX.len
    refine ⟨_,rfl,_,_,_,true,rfl,.lst (O.get 0),DG K,_,rfl,xJ ?_⟩
    have hln:(((xs.map V.int).length:Nat):Int)=((us.length:Nat):Int):=by rw [List.length_map];omega
    refine ⟨_,rfl,lx,_,rfl,.inl (O.sq 0),_,rfl,c,_,rfl,.inl (O.same.seq hC),rfl,_,rfl,ifN (ifI (fun _=>?_) (fun hc=>absurd hln hc))⟩
    refine ⟨_,rfl,_,rfl,_,rfl,_,rfl,a,b,c,lx,r,sp,xs,us,ls,rfl,O.same.seq hA.1,hA.2.1,hA.2.2,O.same.seq hB,hsl,O.same.seq hC,dls.mo O.same,O.sq 0,hxl,hok,O.same.t1,O.tL fun lf H2 ys O e=>?_⟩
    obtain ⟨fl,rfl,FL⟩:=e
    have hfll:fl.length=r.length:=FL.len
    have fat:∀ i:Nat,i<r.length→fl.getD i 0=Tn.fF (Rv.nats r sp) (i:Int) - Tn.hold ls.length (o8 r ls) (Tn.fX xs) (i:Int):=fun i hi=>by
      rw [Rv.zX (by omega) (by omega)];exact FL.getD hi
    refine ⟨_,rfl,c,_,rfl,.inl (O.same.seq hC),(ls.length:Int),congrArg (fun z=>[V.int z]) hui,by omega,by omega,?_⟩
    rw [Int.toNat_natCast]
    refine gQ (n:=ls.length) (fun k σ H'=>Iv (∃ (v6 v7:Option V),σ=[some (.ref a),some (.ref b),some (.ref c),some (.ref d),some (.ref lx),some (.ref lf),v6,v7]∧Ow T H H' [(lf,.lst (fl.map V.int)),(lx,.lst (xs.map V.int))])) ⟨trivial,_,_,rfl,O⟩ ?_ ?_
    · clear O
      rintro k σ H3 hk ⟨-,v6,v7,rfl,O⟩
      have hk:k<ls.length:=hk
      rw [Int.zero_add]
      obtain ⟨l,hlk⟩:∃ l,ls[k]?=some l:=⟨_,List.getElem?_eq_getElem hk⟩
      obtain ⟨al,hal,hT⟩:=dls.lK hlk
      have gx:xs[k]?=some (xs.getD k 0):=bF (by omega)
      have gc:cs[k]?=some (cs.getD k 0):=bF (by omega)
      have hwant:Tn.fX (jd ls cs) k=min (cs.getD k 0) l.most:=zW hlk hlc
      have hx0:=DX.fit.nn k hk
      have hx1:=DX.fit.le k hk
      have hx0:0≤xs.getD k 0:=hx0
      rw [hwant] at hx1
      have hx1:xs.getD k 0≤min (cs.getD k 0) l.most:=hx1
      refine ⟨_,rfl,_,rfl,c,_,_,_,rfl,rfl,O.same.seq hC,bW hal,al,_,3,_,rfl,rfl,hT.mo O.same,rfl,_,rfl,_,rfl,d,_,_,_,rfl,rfl,O.same.seq hD,bx gc,_,_,rfl,?_⟩
      have hmn:(if cs.getD k 0<l.most then cs.getD k 0 else l.most)=min (cs.getD k 0) l.most:=by
        rw [Int.min_def];split <;> split <;> omega
      dsimp only
      rw [hmn,← hwant]
      rw [← hwant] at hx1
      refine ⟨_,rfl,_,rfl,lx,_,_,_,rfl,rfl,O.sq 1,bx gx,_,rfl,_,rfl,xJ ?_⟩
      refine ⟨_,rfl,_,rfl,lx,_,_,_,rfl,rfl,O.sq 1,bx gx,_,_,rfl,rfl,_,rfl,ifD (fun h1=>absurd hx0 (by have h1:xs.getD k 0<0:=h1;omega)) (fun _=>?_)⟩
      refine ⟨_,rfl,_,rfl,lx,_,_,_,rfl,rfl,O.sq 1,bx gx,_,rfl,_,_,rfl,rfl,_,rfl,ifD (fun h1=>absurd hx1 (by have h1:Tn.fX (jd ls cs) k<xs.getD k 0:=h1;omega)) (fun _=>?_)⟩
      refine ⟨_,rfl,_,rfl,lx,_,_,_,rfl,rfl,O.sq 1,bx gx,_,rfl,_,_,rfl,rfl,_,rfl,ifD (fun h1=>?_) (fun _=>?_)⟩
      rotate_left
      · exact ⟨trivial,_,_,rfl,O⟩
      obtain ⟨z,hzw,hz1,hz2⟩:=DX.shown k hk h1
      refine ⟨_,rfl,_,rfl,_,rfl,_,rfl,_,rfl,a,lf,c,lx,r,fl,xs,us,ls,k,rfl,O.same.seq hA.1,hA.2.1,hA.2.2,O.sq 0,hfll,O.same.seq hC,dls.mo O.same,hl64,O.sq 1,hxl,hok,hk,⟨z,hzw,?_,hz2⟩,O.same.t1,fun H4 s4=>?_⟩
      · obtain ⟨z0,z1⟩:=(xU hA.2.1 hok hk).2 z hzw
        obtain ⟨zn,rfl⟩:=Int.eq_ofNat_of_zero_le z0
        rw [Int.toNat_natCast,fat zn (by omega),hz1];omega
      exact ⟨_,rfl,xJ ⟨trivial,_,_,rfl,O.uM s4⟩⟩
    clear O
    rintro σ H3 ⟨-,v6,v7,rfl,O⟩
    refine ⟨_,rfl,lf,fl,rfl,O.sq 0,by omega,fun M hM hle=>?_⟩
    refine ⟨_,_,rfl,rfl,_,rfl,ifD (fun hc=>?_) fun _=>?_⟩
    · exfalso
      have hc:M<0:=hc
      obtain ⟨i,hi,e⟩:=Tn.rO hM
      rw [fat i (by omega)] at e
      by_cases hw:∃ k,k<ls.length∧(i:Int)∈o8 r ls k
      · have:=DX.fit.fits (i:Int) hw
        omega
      · rw [Tn.rY hw,Rv.zX (by omega) (by omega)] at e
        have:=zp (r:=r) hsn (i:Int)
        omega
    exact ⟨_,rfl,O.ret 1 rfl q ⟨xs,rfl,DX⟩⟩
def Qi (H:Hp) (v:V) (d:List Int × List Int):Prop:=∃ t s c,v=.ref t∧H t=some (.tup [.ref s,.ref c])∧H s=some (.lst (d.1.map V.int))∧H c=some (.lst (d.2.map V.int))
def uP (H:Hp) (vs:List V) (ds:List (List Int × List Int)):Prop:=vs.length=ds.length∧∀ (i:Nat) (v:V) (d:List Int × List Int),vs[i]?=some v→ds[i]?=some d→Qi H v d
theorem Qi.mo {T:fU} {H H':Hp} {v:V} {d:List Int × List Int} (h:Qi H v d) (s:bA T H H'):Qi H' v d:=by
  obtain ⟨t,a,c,e,h1,h2,h3⟩:=h
  exact ⟨t,a,c,e,s.keep _ _ h1 (fun _ z=>nomatch z),s.keep _ _ h2 (fun _ z=>nomatch z),s.keep _ _ h3 (fun _ z=>nomatch z)⟩
theorem uP.mo {T:fU} {H H':Hp} {vs:List V} {ds:List (List Int × List Int)} (h:uP H vs ds) (s:bA T H H'):uP H' vs ds:=⟨h.1,fun i v d hv hd=>(h.2 i v d hv hd).mo s⟩
abbrev fu:Stmt:=top 43
theorem dW:aX ["river","roll","number","start","record","other_roll","day","springs","calls","before","after","other"] ["river","roll","number","start","record"] (ao fu):=⟨rfl,rfl,rfl,by decide +kernel,rfl,by decide +kernel,by decide +kernel⟩
def Dm (K:PySem.W.Frag) (T:fU):Sp:=fun vs H Q _=>∃ (a b v:Addr) (us vs':List V) (r:List Int) (ls:List Lic) (n:Nat) (l:Lic) (st:Int) (ds:List (List Int × List Int)),vs=[.ref a,.ref b,.int (n:Int),.int st,.ref v]∧JW K H a r∧1≤r.length∧SqL K H b us∧cU K H us (ls.map qX)∧ls[n]?=some l∧ls.length<64∧(∀ l∈ls,gZ r l)∧gZ r (gY l st)∧SqL K H v vs'∧uP H vs' ds∧ds.length≤1000∧xq r ls.length ds∧TabsOk T H ∧
  ((∀ d∈ds,eU r ls (ls.set n (gY l st)) n d none)→∀ H',bA T H H'→Q .non H') ∧
  (∀ (i:Nat) (d:List Int × List Int) (o:Nat) (x y:Int),ds[i]?=some d→(∀ j d',j<i→ds[j]?=some d'→eU r ls (ls.set n (gY l st)) n d' none)→eU r ls (ls.set n (gY l st)) n d (some (o,x,y))→uO T H (fun xs=>xs=[.int (i:Int),.int (o:Int),.int x,.int y]) Q)
theorem KR {f f2:Addr} {fd fd2:FuncData} (D:Df K mg "_law_due" fu ["river","roll","number","start","record"] f fd) (B:Blt mg)
    (cJ:Df K mg "_law_dealt" dB ["river","springs","roll","calls"] f2 fd2) (m7:cI P w K mg base CX0 8 f2 fd2 ["river","springs","roll","calls"] (Dn K T)):cI P w K mg base CX0 9 f fd ["river","roll","number","start","record"] (Dm K T):=by
  refine D.F.ok dW (fun vs H Q E h=>?_) (fun cdv A outer s H vs Q E hr h=>?_)
  · obtain ⟨_,_,_,_,_,_,_,_,_,_,_,rfl,_⟩:=h;rfl
  · obtain ⟨a,b,av,us,vs,r,ls,n,l,st,ds,rfl,hA,hr1,hB,d0,hk,hl,hlo,hlo',hV,dV,hdl,hrec,tk,q0,q⟩:=h
    have O:=Ow.refl tk
    refine ⟨_,(au (aO (i:=5) dW.nd rfl (Or.inl rfl) (cP cH rfl B.list PyProof.Rows.boot_list (ak (pv 1) aq)))
      (au (j9 (jw (ak (aQ d9 (aQ aH (pv 1) (pv 2) (fun _ _=>rfl)) aA (fun _ _=>rfl)) (ak (pv 3) (ak (aQ d9 (aQ aH (pv 1) (pv 2) (fun _ _=>rfl)) aA (fun _ _=>rfl)) (ak (aQ d9 (aQ aH (pv 1) (pv 2) (fun _ _=>rfl)) aA (fun _ _=>rfl)) aq))))) (n6 (pv 5) (pv 2) set_list))
      (au (dZ PassesOwn.never rfl (gO rfl B.range (ak (aJ aC rfl B.len PySem.boot_len (ak (pv 4) aq)) aq)) (aL (i:=6) dW.nd rfl (Or.inl rfl))
        (au (aO (i:=7) dW.nd rfl (Or.inl rfl) (aQ d9 (aQ aH (pv 4) (pv 6) (fun _ _=>rfl)) aA (fun _ _=>rfl)))
        (au (aO (i:=8) dW.nd rfl (Or.inl rfl) (bf vJ (aQ d9 (aQ aH (pv 4) (pv 6) (fun _ _=>rfl)) aA (fun _ _=>rfl)) (bf mX (gP (ak aA aq)) (bf rN (aJ aC rfl B.len PySem.boot_len (ak (pv 1) aq)) (aJ aC rfl B.len PySem.boot_len (ak (aQ d9 (aQ aH (pv 4) (pv 6) (fun _ _=>rfl)) aA (fun _ _=>rfl)) aq))))))
        (au (aO (i:=9) dW.nd rfl (Or.inl rfl) (aK m7 (hr.mono (by decide)) rfl cJ.m cJ.F.kp cJ.b .nil bK (ak (pv 0) (ak (pv 7) (ak (pv 1) (ak (pv 8) aq))))))
        (au (aO (i:=10) dW.nd rfl (Or.inl rfl) (aK m7 (hr.mono (by decide)) rfl cJ.m cJ.F.kp cJ.b .nil bK (ak (pv 0) (ak (pv 7) (ak (pv 5) (ak (pv 8) aq))))))
        (au (gD (PW.pt (pw_or (aZ vI (pv 9) kh (bD _)) (pw_or1 (aZ vI (pv 10) kh (bD _)))))
          (aB (bw ur))
          bR)
        (aB (dZ PassesOwn.never rfl (gO rfl B.range (ak (aJ aC rfl B.len PySem.boot_len (ak (pv 1) aq)) aq)) (aL (i:=11) dW.nd rfl (Or.inl rfl))
          (aB (gD (PW.pt (pw_and (aZ pq (pv 11) (pv 2) (bD _)) (pw_and1 (aZ ux (aQ aH (pv 10) (pv 11) (fun _ _=>rfl)) (aQ aH (pv 9) (pv 11) (fun _ _=>rfl)) (bD _)))))
            (aB (bw (jw (ak (pv 6) (ak (pv 11) (ak (aQ aH (pv 9) (pv 11) (fun _ _=>rfl)) (ak (aQ aH (pv 10) (pv 11) (fun _ _=>rfl)) aq)))))))
            bR))))))))))
      (aB (bw kh))))),?_⟩
    refine QL ?_
    intro zu0 zu1 zu2 zu3 zu4 zu5 zu6 zu7 zu8 zu9 zu10 zu11
    have hnl:=(List.getElem?_eq_some_iff.mp hk).1
    have hul:us.length=ls.length:=by rw [d0.length,List.length_map]
    have hui:((us.length:Nat):Int)=(ls.length:Int):=by rw [hul]
    have hvi:((vs.length:Nat):Int)=(ds.length:Int):=by rw [dV.1]
    obtain ⟨al,hal,hT⟩:=d0.lK hk
    refine ⟨_,rfl,b,_,rfl,.inl hB,fun m hm=>?_⟩
    walk_at "nw"
    refine ⟨_,rfl,_,rfl,b,_,_,_,rfl,rfl,O.same.seq hB,bW hal,al,_,0,_,rfl,rfl,hT.mo O.same,rfl,_,rfl,_,rfl,_,rfl,b,_,_,_,rfl,rfl,O.same.seq hB,bW hal,al,_,2,_,rfl,rfl,hT.mo O.same,rfl,_,rfl,_,rfl,b,_,_,_,rfl,rfl,O.same.seq hB,bW hal,al,_,3,_,rfl,rfl,hT.mo O.same,rfl,szl,fun t ht=>?_⟩
    walk_at "nw"
    refine ⟨_,rfl,_,rfl,?_⟩
    refine vH O 1 rfl (gW (by omega)) fun H1 O=>?_
    have O:Ow T H H1 [(m,.lst (us.set n (.ref t))),(t,.tup (m8 (gY l st)))]:=O.pull 1
    generalize hls':ls.set n (gY l st)=ls' at q0 q
    have hl':ls'.length=ls.length:=by rw [← hls',List.length_set]
    have hlo2:∀ l∈ls',gZ r l:=fun x hx=>by
      rw [← hls'] at hx
      rcases List.mem_or_eq_of_mem_set hx with h | h
      · exact hlo x h
      · rw [h];exact hlo'
    have Dall:∀ {H'},Ow T H H' [(m,.lst (us.set n (.ref t))),(t,.tup (m8 (gY l st)))]→cU K H' (us.set n (.ref t)) (ls'.map qX):=fun O=>by
      rw [← hls'];exact pO (d0.mo O.same) (O.sqT 1)
    refine ⟨_,rfl,av,_,rfl,.inl (O.same.seq hV),(ds.length:Int),congrArg (fun z=>[V.int z]) hvi,by omega,by omega,?_⟩
    rw [Int.toNat_natCast]
    refine gQ (n:=ds.length) (fun i σ H'=>Iv (∃ (v6 v7 v8 v9 v10 v11:Option V),σ=[some (.ref a),some (.ref b),some (.int (n:Int)),some (.int st),some (.ref av),some (.ref m),v6,v7,v8,v9,v10,v11]∧(∀ j d',j<i→ds[j]?=some d'→eU r ls ls' n d' none)∧Ow T H H' [(m,.lst (us.set n (.ref t))),(t,.tup (m8 (gY l st)))]))
      ⟨trivial,_,_,_,_,_,_,rfl,fun j d' hj=>absurd hj (Nat.not_lt_zero _),O⟩ ?_ ?_
    · clear O
      rintro i σ H4 hi ⟨-,v6,v7,v8,v9,v10,v11,rfl,hno,O⟩
      have hi:i<ds.length:=hi
      rw [Int.zero_add]
      obtain ⟨dy,hdy⟩:∃ d,ds[i]?=some d:=⟨_,List.getElem?_eq_getElem hi⟩
      obtain ⟨y,hy⟩:∃ v,vs[i]?=some v:=⟨_,List.getElem?_eq_getElem (by rw [dV.1];exact hi)⟩
      obtain ⟨ay,asp,acl,rfl,hTy,hSp,hCl⟩:=dV.2 i _ _ hy hdy
      have rd:∀ {H'},bA T H H'→H' ay=some (.tup [.ref asp,.ref acl])∧H' asp=some (.lst (dy.1.map V.int))∧H' acl=some (.lst (dy.2.map V.int)):=fun s=>⟨s.keep _ _ hTy (fun _ z=>nomatch z),s.keep _ _ hSp (fun _ z=>nomatch z),s.keep _ _ hCl (fun _ z=>nomatch z)⟩
      obtain ⟨c1,c2,c3,c4⟩:=hrec dy (List.mem_of_getElem? hdy)
      refine ⟨_,rfl,_,rfl,av,_,_,_,rfl,rfl,O.same.seq hV,bW hy,ay,_,0,_,rfl,rfl,SqT.of (rd O.same).1,rfl,?_⟩
      refine ⟨_,rfl,_,rfl,av,_,_,_,rfl,rfl,O.same.seq hV,bW hy,ay,_,1,_,rfl,rfl,SqT.of (rd O.same).1,rfl,szl,fun lz hlz=>?_⟩
      walk_at "nw"
      have hk1:((us.length:Int) - (((dy.2.map V.int).length:Nat):Int)).toNat=ls.length - dy.2.length:=by rw [List.length_map];omega
      have hk2:(dy.2.map V.int).length=dy.2.length:=List.length_map _
      refine ⟨_,rfl,b,_,rfl,.inl (O.same.seq hB),_,rfl,_,rfl,av,_,_,_,rfl,rfl,O.same.seq hV,bW hy,ay,_,1,_,rfl,rfl,SqT.of (rd O.same).1,rfl,acl,_,rfl,.inl (SqL.of (rd O.same).2.2),_,_,rfl,rfl,lz,_,_,rfl,rfl,O.get 0,by omega,by omega,(by rw [hk1,sizeLine_eq];show 1 * _≤_;omega),fun lr hlr=>?_⟩
      walk_at "nw"
      rw [hk1,show [V.int 0]=[V.int (0:Int)] from rfl,jt] at O
      refine ⟨acl,lr,_,_,rfl,rfl,(rd O.same).2.2,O.get 0,(by rw [List.length_map,List.length_map,List.length_replicate,sizeLine_eq];omega),fun la hla=>?_⟩
      walk_at "nw"
      rw [← List.map_append] at O
      have hcl:(tO ls.length dy.2).length=ls.length:=by unfold tO;rw [List.length_append,List.length_replicate];omega
      have hcn:∀ c∈tO ls.length dy.2,0≤c:=fun c hc=>by
        rcases List.mem_append.mp hc with h | h
        · exact c4 c h
        · rw [(List.mem_replicate.mp h).2];decide
      rw [show dy.2++List.replicate (ls.length - dy.2.length) 0=tO ls.length dy.2 from rfl] at O
      have O:Ow T H _ [(la,.lst ((tO ls.length dy.2).map V.int)),(m,.lst (us.set n (.ref t))),(t,.tup (m8 (gY l st)))]:=O.sub (List.Sublist.cons₂ _ (List.sublist_append_right [_,_] _))
      refine ⟨_,rfl,_,rfl,_,rfl,_,rfl,a,asp,b,la,r,dy.1,tO ls.length dy.2,us,ls,rfl,⟨O.same.seq hA.1,hA.2⟩,hr1,SqL.of (rd O.same).2.1,c1,c2,O.same.seq hB,d0.mo O.same,hl,O.sq 0,hcl.symm,hlo,hcn,O.same.t1,O.tL fun lx H5 xs O e=>?_⟩
      obtain ⟨xs,rfl,DX⟩:=e
      refine ⟨_,rfl,_,rfl,_,rfl,_,rfl,a,asp,m,la,r,dy.1,tO ls.length dy.2,us.set n (.ref t),ls',rfl,⟨O.same.seq hA.1,hA.2⟩,hr1,SqL.of (rd O.same).2.1,c1,c2,O.sq 2,Dall O.tail.tail,by omega,O.sq 1,by omega,hlo2,hcn,O.same.t1,O.tL fun ly H6 ys O e=>?_⟩
      obtain ⟨ys,rfl,DY⟩:=e
      have hxl:=DX.len
      have hyl:=DY.len
      have gx:∀ k,k<ls.length→xs[k]?=some (xs.getD k 0):=fun k hk=>bF (by omega)
      have gy:∀ k,k<ls.length→ys[k]?=some (ys.getD k 0):=fun k hk=>bF (by omega)
      refine ⟨_,rfl,rfl,_,rfl,ifD (fun h=>nomatch h) (fun _=>?_)⟩
      refine ⟨_,rfl,rfl,_,rfl,ifD (fun h=>nomatch h) (fun _=>?_)⟩
      refine ⟨_,rfl,b,_,rfl,.inl (O.same.seq hB),(ls.length:Int),congrArg (fun z=>[V.int z]) hui,by omega,by omega,?_⟩
      rw [Int.toNat_natCast]
      refine gQ (n:=ls.length) (fun k σ H'=>Iv (∃ (v11:Option V),σ=[some (.ref a),some (.ref b),some (.int (n:Int)),some (.int st),some (.ref av),some (.ref m),some (.int (i:Int)),some (.ref asp),some (.ref la),some (.ref lx),some (.ref ly),v11]∧cG n 0 xs ys=cG n k (xs.drop k) (ys.drop k) ∧
        Ow T H H' [(ly,.lst (ys.map V.int)),(lx,.lst (xs.map V.int)),(m,.lst (us.set n (.ref t))),(t,.tup (m8 (gY l st)))]))
        ⟨trivial,_,rfl,rfl,O.sub (List.Sublist.cons₂ _ (List.Sublist.cons₂ _ (List.sublist_cons_self _ _)))⟩ ?_ ?_
      · clear O
        rintro k σ H7 hkl ⟨-,v11,rfl,hfh,O⟩
        have hkl:k<ls.length:=hkl
        rw [Int.zero_add]
        rw [zV (gx k hkl) (gy k hkl)] at hfh
        have go:¬ (k≠n∧ys.getD k 0<xs.getD k 0)→Iv (∃ (v11:Option V),[some (V.ref a),some (.ref b),some (.int (n:Int)),some (.int st),some (.ref av),some (.ref m),some (.int (i:Int)),some (.ref asp),some (.ref la),some (.ref lx),some (.ref ly),some (.int (k:Int))]=[some (V.ref a),some (.ref b),some (.int (n:Int)),some (.int st),some (.ref av),some (.ref m),some (.int (i:Int)),some (.ref asp),some (.ref la),some (.ref lx),some (.ref ly),v11]∧cG n 0 xs ys=cG n (k + 1) (xs.drop (k + 1)) (ys.drop (k + 1)) ∧
          Ow T H H7 [(ly,.lst (ys.map V.int)),(lx,.lst (xs.map V.int)),(m,.lst (us.set n (.ref t))),(t,.tup (m8 (gY l st)))]):=fun h=>by
          rw [if_neg h] at hfh
          exact ⟨trivial,_,rfl,hfh,O⟩
        refine ⟨_,rfl,_,rfl,rfl,_,rfl,ifN (ifI (fun h1=>?_) (fun h1=>?_))⟩
        · exact go fun z=>z.1 (by have h1:(k:Int)=(n:Int):=h1;omega)
        refine ⟨_,rfl,_,rfl,ly,_,_,_,rfl,rfl,O.sq 0,bx (gy k hkl),_,rfl,_,rfl,lx,_,_,_,rfl,rfl,O.sq 1,bx (gx k hkl),_,_,rfl,rfl,_,rfl,ifD (fun h2=>?_) (fun h2=>?_)⟩
        rotate_left
        · exact go fun z=>h2 z.2
        refine ⟨_,rfl,_,rfl,_,rfl,_,rfl,lx,_,_,_,rfl,rfl,O.sq 1,bx (gx k hkl),_,rfl,_,rfl,ly,_,_,_,rfl,rfl,O.sq 0,bx (gy k hkl),szl,fun tR hR=>?_⟩
        walk_at "nw"
        rw [if_pos ⟨fun z=>h1 (by rw [z]),h2⟩] at hfh
        exact O.Qo 0 rfl (q i dy k _ _ hdy hno ⟨xs,ys,DX,DY,hfh⟩) rfl
      clear O
      rintro σ H7 ⟨-,v11,rfl,hfh,O⟩
      rw [Ii (by omega)] at hfh
      refine ⟨trivial,_,_,_,_,_,_,rfl,fun j d' hj hd'=>?_,O.tail.tail⟩
      by_cases hji:j<i
      · exact hno j d' hji hd'
      · have:j=i:=by omega
        rw [this,hdy] at hd'
        rw [← Option.some.inj hd']
        exact ⟨xs,ys,DX,DY,hfh⟩
    clear O
    rintro σ H5 ⟨-,v6,v7,v8,v9,v10,v11,rfl,hno,O⟩
    refine q0 (fun d hd=>?_) _ O.same
    obtain ⟨j,hj,e⟩:=List.mem_iff_getElem.mp hd
    exact hno j d (by omega) (by rw [List.getElem?_eq_getElem hj,e])
theorem CK (xs:List Int) (i m:Nat) (h:xs.length=i + m + 1):pF (xs.map V.int) (some (i:Int)) (some (-1))=((xs.drop i).take m).map V.int:=by
  have e1:HT.sIx xs.length 0 (some (i:Int))=min i xs.length:=HT.mq xs.length 0 i
  have e2:HT.sIx xs.length xs.length (some (-1))=i + m:=by
    show (if (-1:Int)<0 then (-1 + (xs.length:Int)).toNat else min (-1:Int).toNat xs.length)=i + m
    rw [if_pos (by decide)];omega
  unfold pF
  rw [List.length_map,e1,e2,← List.map_drop,← List.map_take,Nat.min_eq_left (by omega),show i + m - i=m by omega]
abbrev dI:Stmt:=top 39
theorem iV:aX ["river","roll","cell","great","xs","springs","calls"] ["river","roll","cell","great"] (ao dI):=⟨rfl,rfl,rfl,by decide +kernel,rfl,by decide +kernel,by decide +kernel⟩
def Dl (K:PySem.W.Frag) (T:fU):Sp:=fun vs H Q _=>∃ (a b:Addr) (r:List Int) (us:List V) (c:Int) (gr:Bool),vs=[.ref a,.ref b,.int c,.bl gr]∧SqL K H a (r.map V.int)∧r.length≤60∧SqL K H b us∧us.length≤60∧TabsOk T H ∧
  ∀ (t sp cl:Addr) (d:List Int × List Int) (H':Hp),Ow T H H' [(t,.tup [.ref sp,.ref cl]),(cl,.lst (d.2.map V.int)),(sp,.lst (d.1.map V.int))]→d.1.length=r.length→(∀ x∈d.1,0≤x)→d.2.length≤us.length→(∀ x∈d.2,0≤x)→Q (.ref t) H'
theorem KQ {f f1 f2:Addr} {fd fd1 fd2:FuncData} (D:Df K mg "_law_day" dI ["river","roll","cell","great"] f fd) (B:Blt mg) (aM:Df K mg "_law_pebbles" bB ["cell","many"] f1 fd1) (dJ:cI P w K mg base CX0 2 f1 fd1 ["cell","many"] qp)
    (bh:Df K mg "_law_amount" bV ["x","great"] f2 fd2) (iG:cI P w K mg base CX0 1 f2 fd2 ["x","great"] Jb):cI P w K mg base CX0 3 f fd ["river","roll","cell","great"] (Dl K T):=by
  refine D.F.ok iV (fun vs H Q E h=>?_) (fun cdv A outer s H vs Q E hr h=>?_)
  · obtain ⟨_,_,_,_,_,_,rfl,_⟩:=h;rfl
  · obtain ⟨a,b,r,us,c,gr,rfl,hA,hr6,hB,hu6,tk,q⟩:=h
    have O:=Ow.refl tk
    refine ⟨_,(au (aO (i:=4) iV.nd rfl (Or.inl rfl) (aK dJ (hr.mono (by decide)) rfl aM.m aM.F.kp aM.b .nil bK (ak (pv 2) (ak (bf ji (bf ji (aJ aC rfl B.len PySem.boot_len (ak (pv 0) aq)) (aJ aC rfl B.len PySem.boot_len (ak (pv 1) aq))) aA) aq))))
      (au (iH (i:=5) (ao dI) rfl ["river","roll","cell","great","xs","springs","calls"] rfl ["x","great"] [none,some 3] (by decide +kernel) (by decide +kernel) (by decide +kernel) rfl iV.nd rfl rfl (cu (jh jQ (pv 4) nZ (iY (aJ aC rfl B.len PySem.boot_len (ak (pv 0) aq))))) (fun _ _ _=>(aL (i:=0) (show (["x","great"]:List Str).Nodup by decide +kernel) rfl (Or.inl rfl))) (fun _ _ _=>gk) (fun _ _ _=>(aK iG (hr.mono (by decide)) rfl bh.m bh.F.kp bh.b .nil bK (ak (pv 0) (ak (pv 1) aq)))) rfl)
      (au (iH (i:=6) (ao dI) rfl ["river","roll","cell","great","xs","springs","calls"] rfl ["x","great"] [none,some 3] (by decide +kernel) (by decide +kernel) (by decide +kernel) rfl iV.nd rfl rfl (cu (jh jQ (pv 4) (iY (aJ aC rfl B.len PySem.boot_len (ak (pv 0) aq))) (iY (kI iR aA)))) (fun _ _ _=>(aL (i:=0) (show (["x","great"]:List Str).Nodup by decide +kernel) rfl (Or.inl rfl))) (fun _ _ _=>gk) (fun _ _ _=>(bf ji (aK iG (hr.mono (by decide)) rfl bh.m bh.F.kp bh.b .nil bK (ak (pv 0) (ak (pv 1) aq))) (bf mZ (bf d8 (pv 0) aA) (bf rN aA (bf mZ aA (cP sH rfl B.int PyProof.Rows.boot_int (ak (pv 1) aq))))))) rfl)
      (ju (gD (aZ pA (bf d8 (aQ aH (pv 4) (kI iR aA) (fun _ _=>rfl)) aA) aA (bD _))
        (aB (aO (i:=6) iV.nd rfl (Or.inl rfl) (jh jQ (pv 6) nZ (iY (bf d8 (bf jq (aQ aH (pv 4) (kI iR aA) (fun _ _=>rfl)) aA) (bf ji (aJ aC rfl B.len PySem.boot_len (ak (pv 1) aq)) aA))))))
        bR)
      (aB (bw (jw (ak (pv 5) (ak (pv 6) aq))))))))),?_⟩
    refine Kd ?_
    intro zu0 zu1 zu2 zu3 zu4
    have hml:(r.map V.int).length=r.length:=List.length_map _
    have hm:(((r.map V.int).length:Nat):Int) + ((us.length:Nat):Int) + 1=((r.length + us.length + 1:Nat):Int):=by rw [hml];omega
    refine ⟨_,rfl,_,rfl,a,_,rfl,.inl hA,_,rfl,b,_,rfl,.inl hB,_,_,rfl,rfl,_,_,rfl,rfl,c,((r.length + us.length + 1:Nat):Int),congrArg (fun z=>[V.int c,V.int z]) hm,by omega,by omega,O.got fun lx H1 xs O e=>?_⟩
    rw [Int.toNat_natCast] at e
    subst e
    have hyb:=Ds (c:=c) (n:=r.length + us.length + 1)
    have hyl:(wR c (r.length + us.length + 1)).length=r.length + us.length + 1:=j5 _ _
    generalize wR c (r.length + us.length + 1)=ys at O hyb hyl
    refine ⟨_,rfl,_,rfl,a,_,rfl,.inl (O.same.seq hA),?_⟩
    refine ⟨_,rfl,lx,_,rfl,O.sq 0,fun ls1 hls1=>?_⟩
    walk_at "nw"
    rw [show pF (ys.map V.int) none (some (((r.map V.int).length:Nat):Int))=(ys.take r.length).map V.int from by rw [hml];exact qO ys r.length] at O
    refine ⟨ls1,rfl,⟨_,O.sq 0⟩,fun lS hlS=>?_⟩
    have htk:(ys.take r.length).length=r.length:=by rw [List.length_take];omega
    refine eE (K:=K) (xs:=(ys.take r.length).map V.int) (fun i τ H'=>Iv (∃ (v0:Option V) (ms:List Int),τ=[v0,some (.bl gr)]∧Ow T H H' [(lS,.lst (ms.map V.int)),(ls1,.lst ((ys.take r.length).map V.int)),(lx,.lst (ys.map V.int))]∧ms.length=i∧∀ x∈ms,0≤x))
      ⟨trivial,none,[],rfl,O.mk' hlS rfl,rfl,fun x hx=>nomatch hx⟩ (fun i τ H' _ ⟨_,_,_,_,O,_⟩=>O.sq 1) ?_ ?_
    · clear O
      rintro i y τ H4 hy ⟨-,v0,ms,rfl,O,hms,hmn⟩
      obtain ⟨z,hz,rfl⟩:=ints_get hy
      have hi:=(List.getElem?_eq_some_iff.mp hz).1
      have zb:=hyb z (List.mem_of_mem_take (List.mem_of_getElem? hz))
      refine xQ ?_
      refine ⟨_,rfl,_,rfl,z,gr,rfl,zb.1,zb.2,fun y y0 y1=>?_⟩
      refine ⟨_,O.get 0,aY (by rw [List.length_map];omega),?_⟩
      walk_at "pt"
      refine ⟨trivial,_,ms++[y],rfl,?_,by rw [List.length_append,hms];rfl,fun x hx=>?_⟩
      · rw [List.map_append];exact O
      · rcases List.mem_append.mp hx with h | h
        · exact hmn x h
        · rw [List.mem_singleton.mp h];exact y0
    clear O
    rintro τ H4 ⟨-,v0,ms,rfl,O,hms,hmn⟩
    rw [List.length_map,htk] at hms
    have O:Ow T H H4 [(lS,.lst (ms.map V.int)),(lx,.lst (ys.map V.int))]:=O.sub (List.Sublist.cons₂ _ (List.sublist_cons_self _ _))
    refine ⟨_,rfl,_,rfl,a,_,rfl,.inl (O.same.seq hA),_,rfl,1,rfl,_,rfl,lx,_,rfl,O.sq 1,fun ls2 hls2=>?_⟩
    walk_at "nw"
    rw [show pF (ys.map V.int) (some (((r.map V.int).length:Nat):Int)) (some (-1))=((ys.drop r.length).take us.length).map V.int from by rw [hml];exact CK ys r.length us.length hyl] at O
    have hdk:((ys.drop r.length).take us.length).length=us.length:=by rw [List.length_take,List.length_drop];omega
    refine ⟨ls2,rfl,⟨_,O.sq 0⟩,fun lC hlC=>?_⟩
    refine eE (K:=K) (xs:=((ys.drop r.length).take us.length).map V.int) (fun i τ H'=>Iv (∃ (v0:Option V) (ns:List Int),τ=[v0,some (.bl gr)]∧Ow T H H' [(lC,.lst (ns.map V.int)),(ls2,.lst (((ys.drop r.length).take us.length).map V.int)),(lS,.lst (ms.map V.int)),(lx,.lst (ys.map V.int))]∧ns.length=i∧∀ x∈ns,0≤x))
      ⟨trivial,none,[],rfl,O.mk' hlC rfl,rfl,fun x hx=>nomatch hx⟩ (fun i τ H' _ ⟨_,_,_,_,O,_⟩=>O.sq 1) ?_ ?_
    · clear O
      rintro i y τ H5 hy ⟨-,v0,ns,rfl,O,hns,hnn⟩
      obtain ⟨z,hz,rfl⟩:=ints_get hy
      have hi:=(List.getElem?_eq_some_iff.mp hz).1
      have zb:=hyb z (List.mem_of_mem_drop (List.mem_of_mem_take (List.mem_of_getElem? hz)))
      refine xQ ?_
      refine ⟨_,rfl,_,rfl,z,gr,rfl,zb.1,zb.2,fun y y0 y1=>?_⟩
      refine ⟨_,rfl,_,_,rfl,rfl,(by show (0:Int)<2;decide),_,rfl,.inr ⟨gr,rfl,_,_,rfl,rfl,.inl ⟨by decide,by decide⟩,_,_,rfl,rfl,_,_,rfl,rfl,.inl ⟨by omega,by omega⟩,_,_,rfl,rfl,?_⟩⟩
      have hv:0≤y + z % 2 * (9 - 9 * (if gr=true then 1 else 0)):=by
        cases gr
        · show 0≤y + z % 2 * (9 - 9 * 0);omega
        · show 0≤y + z % 2 * (9 - 9 * 1);omega
      refine ⟨_,O.get 0,aY (by rw [List.length_map];omega),?_⟩
      walk_at "pt"
      refine ⟨trivial,_,ns++[y + z % 2 * (9 - 9 * (if gr=true then 1 else 0))],rfl,?_,by rw [List.length_append,hns];rfl,fun x hx=>?_⟩
      · rw [List.map_append];exact O
      · rcases List.mem_append.mp hx with h | h
        · exact hnn x h
        · rw [List.mem_singleton.mp h];exact hv
    clear O
    rintro τ H5 ⟨-,v0,ns,rfl,O,hns,hnn⟩
    rw [List.length_map,hdk] at hns
    have O:Ow T H H5 [(lC,.lst (ns.map V.int)),(lS,.lst (ms.map V.int)),(lx,.lst (ys.map V.int))]:=O.sub (List.Sublist.cons₂ _ (List.sublist_cons_self _ _))
    refine ⟨fun σ H'=>Iv (∃ (lD:Addr) (ns:List Int),σ=[some (.ref a),some (.ref b),some (.int c),some (.bl gr),some (.ref lx),some (.ref lS),some (.ref lD)]∧Ow T H H' [(lD,.lst (ns.map V.int)),(lS,.lst (ms.map V.int))]∧ns.length≤us.length∧∀ x∈ns,0≤x),?_,?_⟩
    · have lb:=hyb _ (getD_mem' (ns:=ys) (k:=ys.length - 1) (by omega))
      refine ⟨_,rfl,1,rfl,lx,_,_,_,rfl,rfl,O.sq 2,oH (by omega),_,_,rfl,rfl,(by show (0:Int)<3;decide),rfl,_,rfl,ifI (fun _=>?_) (fun _=>?_)⟩
      · have k0:=Int.emod_nonneg (ys.getD (ys.length - 1) 0 / 3) (show (us.length:Int) + 1≠0 by omega)
        have k1:=Int.emod_lt_of_pos (ys.getD (ys.length - 1) 0 / 3) (show (0:Int)<(us.length:Int) + 1 by omega)
        obtain ⟨kk,hkk⟩:∃ k:Nat,ys.getD (ys.length - 1) 0 / 3 % ((us.length:Int) + 1)=(k:Int):=⟨_,(Int.toNat_of_nonneg k0).symm⟩
        refine ⟨_,rfl,_,rfl,1,rfl,lx,_,_,_,rfl,rfl,O.sq 2,oH (by omega),_,_,rfl,rfl,⟨by decide,by decide⟩,_,rfl,b,_,rfl,.inl (O.same.seq hB),_,_,rfl,rfl,_,_,rfl,rfl,(by show (0:Int)<(us.length:Int) + 1;omega),_,rfl,lC,_,rfl,O.sq 0,fun l3 hl3=>?_⟩
        walk_at "nw"
        rw [hkk,qO] at O
        exact ⟨trivial,l3,ns.take kk,rfl,O.sub (List.Sublist.cons₂ _ (List.Sublist.cons _ (List.Sublist.cons₂ _ (List.nil_sublist _)))),by rw [List.length_take];omega,fun x hx=>hnn x (List.mem_of_mem_take hx)⟩
      · exact ⟨trivial,lC,ns,rfl,O.sub (List.Sublist.cons₂ _ (List.Sublist.cons₂ _ (List.nil_sublist _))),by omega,hnn⟩
    clear O
    rintro σ H6 ⟨-,lD,ns,rfl,O,hnl,hnn⟩
    refine ⟨_,rfl,_,rfl,szl,fun t ht=>?_⟩
    walk_at "nw"
    exact q t lS lD (ms,ns) _ O hms hmn hnl hnn
theorem Dz (K:PySem.W.Frag):PySem.W.kitOne K (.type "tuple") (.type "tuple")=some true:=by rfl
abbrev cF:Stmt:=top 44
theorem qy:aX ["found","due"] ["found","due"] (ao cF):=⟨rfl,rfl,rfl,by decide +kernel,rfl,by decide +kernel,by decide +kernel⟩
def Dp (T:fU):Sp:=fun vs H Q _=>TabsOk T H∧((vs=[.non,.non]∧Q (.bl true) H)∨∃ (t u:Addr) (ns:List Int),vs=[.ref t,.ref u]∧ns.length=4∧H t=some (.tup (ns.map V.int))∧H u=some (.tup (ns.map V.int))∧∀ H',bA T H H'→Q (.bl true) H')
theorem BW {f f1:Addr} {fd fd1:FuncData} (D:Df K mg "_law_alike" cF ["found","due"] f fd) (B:Blt mg) (bN:Df K mg "_law_whole" cD ["found"] f1 fd1) (jZ:cI P w K mg base CX0 1 f1 fd1 ["found"] ql):cI P w K mg base CX0 2 f fd ["found","due"] (Dp T):=by
  refine D.F.ok qy (fun vs H Q E h=>?_) (fun cdv A outer s H vs Q E hr h=>?_)
  · obtain ⟨-,⟨rfl,_⟩ | ⟨_,_,_,rfl,_⟩⟩:=h <;> rfl
  · obtain ⟨tk,h⟩:=h
    have hu:=hr.units
    have O:=Ow.refl tk
    refine ⟨_,(au (gD (aZ vI (pv 1) kh (bD _))
        (aB (bw (kJ vI (pv 0) kh (bD _))))
        bR)
      (au (gD (PW.pt (pw_or (vD (mR (aJ jL rfl B.isinstance PyProof.Rows.boot_isinstance (ak (pv 0) (ak (qF (v:=.ty "tuple") rfl B.tuple PyProof.Rows.boot_tuple rfl) aq))))) (pw_or (aZ pq (aJ aC rfl B.len PySem.boot_len (ak (pv 0) aq)) aA (bD _)) (pw_or1 (aZ Ji (pv 1) ur (bD _))))))
        (aB (bw ur))
        bR)
      (aB (bw (Du (kJ (Kv hu) (pv 0) (pv 1) (bD _)) (Dt (kJ pA (aJ aC rfl B.len PySem.boot_len (ak (jD (ao cF) rfl ["found","due"] rfl ["part"] [none] (by decide +kernel) (by decide +kernel) (by decide +kernel) rfl (Km (pv 0)) (fun _ _ _=>(aL (i:=0) (show (["part"]:List Str).Nodup by decide +kernel) rfl (Or.inl rfl))) (fun _ _ _=>(yP (mR (aK jZ (hr.mono (by decide)) rfl bN.m bN.F.kp bN.b .nil bK (ak (pv 0) aq))))) (fun _ _ _=>(pv 0))) aq)) aA (bD _)))))))),?_⟩
    refine QK ?_
    intro zu0 zu1 zu2 zu3
    rcases h with ⟨rfl,q⟩ | ⟨t,u,ns,rfl,n4,hT,hU,q⟩
    · exact ⟨_,rfl,rfl,_,rfl,ifD (fun _=>⟨_,rfl,rfl,q⟩) (fun h=>absurd rfl h)⟩
    refine ⟨_,rfl,rfl,_,rfl,ifD (fun h=>nomatch h) (fun _=>?_)⟩
    have hml:(ns.map V.int).length=4:=by rw [List.length_map];exact n4
    have hmi:(((ns.map V.int).length:Nat):Int)=4:=by rw [hml];rfl
    refine ⟨_,rfl,_,_,_,true,rfl,.tup hT,Dz K,_,rfl,xJ ?_⟩
    refine ⟨_,rfl,t,_,rfl,.inr (SqT.of hT),rfl,_,rfl,ifN (ifI (fun _=>?_) (fun h=>absurd hmi h))⟩
    refine ⟨_,rfl,u,false,rfl,rfl,_,rfl,xJ ?_⟩
    have hsh:Sh 1 (.tuple (ns.map PyData.int)):=.tuple fun d hd=>by
      obtain ⟨n,hn,rfl⟩:=List.mem_map.mp hd
      exact .int 0 n
    refine ⟨_,rfl,_,rfl,_,_,.tuple (SqT.of hT) (cU.ints ns),.tuple (SqT.of hU) (cU.ints ns),hsh.ok (by decide),hsh.ok (by decide),?_⟩
    rw [if_neg Bool.false_ne_true,vU hsh]
    refine ⟨_,rfl,Cm ?_⟩
    refine ⟨_,rfl,t,rfl,⟨_,SqT.of hT⟩,fun lw hlw=>?_⟩
    refine CN (K:=K) (xs:=ns.map V.int) (fun i τ H'=>Iv (∃ (v0:Option V),τ=[v0]∧Ow T H H' [(lw,.lst ((ns.take i).map V.int))])) ⟨trivial,none,rfl,O.mk' hlw rfl⟩ (fun i τ H' _ ⟨_,_,_,O⟩=>O.same.Jc (SqT.of hT)) ?_ ?_
    · clear O
      rintro i y τ H4 hy ⟨-,v0,rfl,O⟩
      obtain ⟨z,hz,rfl⟩:=ints_get hy
      refine ⟨_,rfl,z,rfl,_,rfl,Cm ?_⟩
      refine ⟨_,rfl,_,O.get 0,aY (by rw [List.length_map,List.length_take];omega),?_⟩
      walk_at "pt"
      refine ⟨trivial,_,rfl,?_⟩
      rw [Tn.iT hz,List.map_append];exact O
    clear O
    rintro τ H4 ⟨-,v0,rfl,O⟩
    rw [List.length_map,List.take_length] at O
    refine ⟨lw,_,rfl,.inl (O.sq 0),rfl,?_⟩
    rw [hmi]
    exact q _ O.same
abbrev lF:Stmt:=top 45
theorem fj:aX ["script","first","great","size","cells","river","roll","record","wet","pick","number","start","back","handed","found"] ["script"] (ao lF):=⟨rfl,rfl,rfl,by decide +kernel,rfl,by decide +kernel,by decide +kernel⟩
def vp (K:PySem.W.Frag) (T:fU):Sp:=fun vs H Q _=>∃ (a:Addr) (ns:List Int),vs=[.ref a]∧SqL K H a (ns.map V.int)∧ns.length≤63∧TabsOk T H∧∀ H',Q (.bl true) H'
theorem uP.JG {K:PySem.W.Frag} {H:Hp}:∀ {vs:List V} {ds:List (List Int × List Int)},uP H vs ds→cU K H vs (ds.map fun p=>.tuple [jO p.1,jO p.2])
  | [],[],_=>.nil
  | [],_ :: _,h=>nomatch h.1
  | _ :: _,[],h=>nomatch h.1
  | v :: vs,d :: ds,h=>by
    obtain ⟨t,a,c,e,h1,h2,h3⟩:=h.2 0 v d rfl rfl
    subst e
    refine .cons (.tuple (SqT.of h1) (.cons (.list (SqL.of h2) (cU.ints _)) (.cons (.list (SqL.of h3) (cU.ints _)) .nil))) (uP.JG ⟨by have:=h.1;simpa using this,fun i v d hv hd=>h.2 (i + 1) v d hv hd⟩)
theorem uP.snoc {H:Hp} {vs:List V} {ds:List (List Int × List Int)} {v:V} {d:List Int × List Int} (h:uP H vs ds) (hd:Qi H v d):uP H (vs++[v]) (ds++[d]):=by
  refine ⟨by rw [List.length_append,List.length_append,h.1];rfl,fun i w e hw he=>?_⟩
  by_cases hi:i<vs.length
  · rw [List.getElem?_append_left hi] at hw
    rw [List.getElem?_append_left (by rw [← h.1];exact hi)] at he
    exact h.2 i w e hw he
  · rw [List.getElem?_append_right (by omega)] at hw
    rw [List.getElem?_append_right (by rw [← h.1];omega),← h.1] at he
    cases hz:i - vs.length with
    | zero =>
      rw [hz] at hw he
      cases hw;cases he;exact hd
    | succ n=>rw [hz] at hw;cases hw
theorem Sh.rec (ds:List (List Int × List Int)):Sh 3 (Qe ds):=.list fun d hd=>by
  obtain ⟨p,_,rfl⟩:=List.mem_map.mp hd
  refine .tuple fun e he=>?_
  simp only [List.mem_cons,List.not_mem_nil,or_false] at he
  rcases he with rfl | rfl
  · exact Sh.ints 0 _
  · exact Sh.ints 0 _
theorem rZ {r:List Int} {ls ls':List Lic} {n:Nat} {d:List Int × List Int} {o o':Option (Nat × Int × Int)} (h1:∀ l∈ls,0≤l.day) (h2:∀ l∈ls',0≤l.day) (a:eU r ls ls' n d o) (b:eU r ls ls' n d o'):o=o':=by
  obtain ⟨xs,ys,a1,a2,a3⟩:=a
  obtain ⟨xs',ys',b1,b2,b3⟩:=b
  rw [vV h1 a1 b1,vV h2 a2 b2] at b3
  rw [← a3,← b3]
theorem dD.take {H:Hp} {us:List V} {os:List HO} (h:dD H us os) (k:Nat):dD H (us.take k) (os.take k):=by
  refine ⟨by rw [List.length_take,List.length_take,h.1],fun i o ho=>?_⟩
  by_cases hi:i<k
  · rw [List.getElem?_take_of_lt hi] at ho ⊢
    exact h.2 i o ho
  · rw [List.getElem?_take,if_neg hi] at ho;cases ho
def J0 (r:List Int) (ls ls':List Lic) (n:Nat) (ds:List (List Int × List Int)) (fv:V) (H:Hp):Prop:=(fv=.non∧∀ d∈ds,eU r ls ls' n d none) ∨
  ∃ (t:Addr) (i:Nat) (d:List Int × List Int) (o:Nat) (x y:Int),fv=.ref t∧H t=some (.tup [.int (i:Int),.int (o:Int),.int x,.int y])∧ds[i]?=some d∧(∀ j d',j<i→ds[j]?=some d'→eU r ls ls' n d' none)∧eU r ls ls' n d (some (o,x,y))
theorem vR {T:fU} {H:Hp} {Q:VK} {r:List Int} {ls ls':List Lic} {n:Nat} {ds:List (List Int × List Int)} (h:∀ fv H',bA T H H'→J0 r ls ls' n ds fv H'→Q fv H') :
  (∀ (i:Nat) (d:List Int × List Int) (o:Nat) (x y:Int),ds[i]?=some d→(∀ j d',j<i→ds[j]?=some d'→eU r ls ls' n d' none)→eU r ls ls' n d (some (o,x,y))→uO T H (fun xs=>xs=[.int (i:Int),.int (o:Int),.int x,.int y]) Q)∧((∀ d∈ds,eU r ls ls' n d none)→∀ H',bA T H H'→Q .non H') :=
  ⟨fun i d o x y h1 h2 h3 t H' xs s _ ht e=>h _ _ s (.inr ⟨t,i,d,o,x,y,rfl,by rw [ht,e],h1,h2,h3⟩),fun h1 H' s=>h _ _ s (.inl ⟨rfl,h1⟩)⟩
theorem J0.mo {T:fU} {r:List Int} {ls ls':List Lic} {n:Nat} {ds:List (List Int × List Int)} {fv:V} {H H':Hp} (h:J0 r ls ls' n ds fv H) (s:bA T H H'):J0 r ls ls' n ds fv H':=by
  rcases h with h | ⟨t,i,d,o,x,y,e,ht,h⟩
  · exact .inl h
  · exact .inr ⟨t,i,d,o,x,y,e,s.keep _ _ ht (fun _ z=>nomatch z),h⟩
theorem Cr {r:List Int} {ls ls':List Lic} {n:Nat} {ds:List (List Int × List Int)} {fv gv:V} {H:Hp} (h1:∀ l∈ls,0≤l.day) (h2:∀ l∈ls',0≤l.day) (a:J0 r ls ls' n ds fv H) (b:J0 r ls ls' n ds gv H) :
    (fv=.non∧gv=.non)∨∃ (t u:Addr) (ns:List Int),fv=.ref t∧gv=.ref u∧ns.length=4∧H t=some (.tup (ns.map V.int))∧H u=some (.tup (ns.map V.int)):=by
  rcases a with ⟨e,a⟩ | ⟨t,i,d,o,x,y,e,ht,ha,hb,hc⟩ <;> rcases b with ⟨e',a'⟩ | ⟨t',i',d',o',x',y',e',ht',ha',hb',hc'⟩
  · exact .inl ⟨e,e'⟩
  · exact nomatch rZ h1 h2 (a d' (List.mem_of_getElem? ha')) hc'
  · exact nomatch rZ h1 h2 (a' d (List.mem_of_getElem? ha)) hc
  · have hi:i=i':=by
      rcases Nat.lt_trichotomy i i' with z | z | z
      · exact nomatch rZ h1 h2 (hb' i d z ha) hc
      · exact z
      · exact nomatch rZ h1 h2 (hb i' d' z ha') hc'
    subst hi
    rw [ha] at ha'
    cases ha'
    cases rZ h1 h2 hc hc'
    exact .inr ⟨t,t',[(i:Int),(o:Int),x,y],e,e',rfl,ht,ht'⟩
theorem cU.three {K:PySem.W.Frag} {H:Hp} {u v w:V} {d e f:PyData} (h1:Den K H u d) (h2:Den K H v e) (h3:Den K H w f):cU K H [u,v,w] [d,e,f]:=.cons h1 (.cons h2 (.cons h3 .nil))
theorem KH {f f1 f2 f3 f4 f5 f6 f7 f8 f9:Addr} {fd fd1 fd2 fd3 fd4 fd5 fd6 fd7 fd8 fd9:FuncData} (D:Df K mg "law" lF ["script"] f fd) (B:Blt mg)
    (aG:Df K mg "_law_cell_at" bZ ["script","k"] f1 fd1) (cM:cI P w K mg base CX0 1 f1 fd1 ["script","k"] (yG K))
    (aM:Df K mg "_law_pebbles" bB ["cell","many"] f2 fd2) (dJ:cI P w K mg base CX0 2 f2 fd2 ["cell","many"] qp)
    (fO:Df K mg "_law_river" dw ["xs","cell"] f3 fd3) (tG:cI P w K mg base CX0 2 f3 fd3 ["xs","cell"] (vo K))
    (dM:Df K mg "_law_licence" bY ["river","cell","great"] f4 fd4) (pI:cI P w K mg base CX0 3 f4 fd4 ["river","cell","great"] (Di K T))
    (iQ:Df K mg "_law_day" dI ["river","roll","cell","great"] f5 fd5) (xG:cI P w K mg base CX0 3 f5 fd5 ["river","roll","cell","great"] (Dl K T))
    (aU:Df K mg "_law_walk" cL ["river","start","stop"] f6 fd6) (eY:cI P w K mg base CX0 1 f6 fd6 ["river","start","stop"] (Bo K T))
    (jz:Df K mg "harm_of" gM ["below","roll","number","start","record"] f7 fd7) (Aw:cI P w K mg base CX0 8 f7 fd7 ["below","roll","number","start","record"] (yE K T))
    (iM:Df K mg "_law_due" fu ["river","roll","number","start","record"] f8 fd8) (xu:cI P w K mg base CX0 9 f8 fd8 ["river","roll","number","start","record"] (Dm K T))
    (fQ:Df K mg "_law_alike" cF ["found","due"] f9 fd9) (tH:cI P w K mg base CX0 2 f9 fd9 ["found","due"] (Dp T)):cI P w K mg base CX0 10 f fd ["script"] (vp K T):=by
  refine D.F.ok fj (fun vs H Q E h=>?_) (fun cdv A outer s H vs Q E hr h=>?_)
  · obtain ⟨_,_,rfl,_⟩:=h;rfl
  · obtain ⟨a,ns,rfl,hS,hlen,tk,k⟩:=h
    have hu:=hr.units
    refine ⟨_,(au (aO (i:=1) fj.nd rfl (Or.inl rfl) (aK cM (hr.mono (by decide)) rfl aG.m aG.F.kp aG.b .nil bK (ak (pv 0) (ak aA aq))))
      (au (aO (i:=2) fj.nd rfl (Or.inr rfl) (kJ pA (bf d8 (bf jq (pv 1) aA) aA) aA (bD _)))
      (au (aO (i:=3) fj.nd rfl (Or.inl rfl) (bf d8 (pv 1) aA))
      (au (aO (i:=4) fj.nd rfl (Or.inl rfl) (jh jQ (pv 0) (iY aA) (iY aA)))
      (ju (gD (aZ pA (bf d8 (bf jq (pv 1) aA) aA) aA (bD _))
        (au (aO (i:=3) fj.nd rfl (Or.inl rfl) (bf d8 (pv 1) aA))
        (aB (aO (i:=4) fj.nd rfl (Or.inl rfl) (aK dJ (hr.mono (by decide)) rfl aM.m aM.F.kp aM.b .nil bK (ak (aK cM (hr.mono (by decide)) rfl aG.m aG.F.kp aG.b .nil bK (ak (pv 0) (ak aA aq))) (ak (bf ji aA (bf d8 (bf jq (pv 1) aA) aA)) aq))))))
        bR)
      (au (aO (i:=5) fj.nd rfl (Or.inr rfl) (aK tG (hr.mono (by decide)) rfl fO.m fO.F.kp fO.b .nil bK (ak (aK dJ (hr.mono (by decide)) rfl aM.m aM.F.kp aM.b .nil bK (ak (aK cM (hr.mono (by decide)) rfl aG.m aG.F.kp aG.b .nil bK (ak (pv 0) (ak aA aq))) (ak (pv 3) aq))) (ak (aK cM (hr.mono (by decide)) rfl aG.m aG.F.kp aG.b .nil bK (ak (pv 0) (ak aA aq))) aq))))
      (au (aO (i:=6) fj.nd rfl (Or.inr rfl) (jD (ao lF) rfl ["script","first","great","size","cells","river","roll","record","wet","pick","number","start","back","handed","found"] rfl ["cell","river","great"] [none,some 5,some 2] (by decide +kernel) (by decide +kernel) (by decide +kernel) rfl (cu (bf vJ (gP (ak (pv 1) aq)) (jh jQ (pv 0) (iY aA) (iY aA)))) (fun _ _ _=>(aL (i:=0) (show (["cell","river","great"]:List Str).Nodup by decide +kernel) rfl (Or.inl rfl))) (fun _ _ _=>gk) (fun _ _ _=>(aK pI (hr.mono (by decide)) rfl dM.m dM.F.kp dM.b .nil bK (ak (pv 1) (ak (pv 0) (ak (pv 2) aq)))))))
      (ju (gD (aZ uy (aJ aC rfl B.len PySem.boot_len (ak (pv 4) aq)) aA (bD _))
        (aB (aO (i:=6) fj.nd rfl (Or.inr rfl) (jh jQ (pv 6) nZ (iY aA))))
        bR)
      (au (iH (i:=7) (ao lF) rfl ["script","first","great","size","cells","river","roll","record","wet","pick","number","start","back","handed","found"] rfl ["cell","river","roll","great"] [none,some 5,some 6,some 2] (by decide +kernel) (by decide +kernel) (by decide +kernel) rfl fj.nd rfl rfl (cu (pv 4)) (fun _ _ _=>(aL (i:=0) (show (["cell","river","roll","great"]:List Str).Nodup by decide +kernel) rfl (Or.inl rfl))) (fun _ _ _=>gk) (fun _ _ _=>(aK xG (hr.mono (by decide)) rfl iQ.m iQ.F.kp iQ.b .nil bK (ak (pv 1) (ak (pv 2) (ak (pv 0) (ak (pv 3) aq)))))) rfl)
      (ju (gD (PW.pt (pw_and (aZ uy (aJ aC rfl B.len PySem.boot_len (ak (pv 4) aq)) aA (bD _)) (pw_and1 (aZ pA (bf d8 (aK cM (hr.mono (by decide)) rfl aG.m aG.F.kp aG.b .nil bK (ak (pv 0) (ak aA aq))) aA) aA (bD _)))))
        (au (aO (i:=8) fj.nd rfl (Or.inr rfl) (bf d8 (bf jq (aK cM (hr.mono (by decide)) rfl aG.m aG.F.kp aG.b .nil bK (ak (pv 0) (ak aA aq))) aA) (aJ aC rfl B.len PySem.boot_len (ak (pv 7) aq))))
        (aB (uh (i:=7) "k" (ao lF) rfl ["script","first","great","size","cells","river","roll","record","wet","pick","number","start","back","handed","found"] rfl ["k","day","wet"] [none,none,some 8] (by decide +kernel) (by decide +kernel) (by decide +kernel) rfl fj.nd rfl rfl (yS rfl B.enumerate (ak (pv 7) aq)) (fun _ _ _=>(qC (K:=K) (n:=2) rfl rfl (bC (aL (i:=0) (show (["k","day","wet"]:List Str).Nodup by decide +kernel) rfl (Or.inr rfl)) (bC (aL (i:=1) (show (["k","day","wet"]:List Str).Nodup by decide +kernel) rfl (Or.inl rfl)) iZ)))) (fun _ _ _=>gk) (fun _ _ _=>(jw (ak (jD _ rfl ["k","day","wet"] rfl ["x","k","wet"] [none,some 0,some 2] rfl (by decide +kernel) (by decide +kernel) rfl (Bw (K:=K) rfl (aQ (zL (K:=K) rfl) (pv 1) aA (fun _ _=>rfl))) (fun _ _ _=>(aL (i:=0) (show (["x","k","wet"]:List Str).Nodup by decide +kernel) rfl (Or.inl rfl))) (fun _ _ _=>gk) (fun _ _ _=>(bf mZ (pv 0) (cP sH rfl B.int PyProof.Rows.boot_int (ak (kJ pA (pv 1) (pv 2) (bD _)) aq))))) (ak (aQ (zL (K:=K) rfl) (pv 1) aA (fun _ _=>rfl)) aq)))) rfl)))
        bR)
      (au (aO (i:=9) fj.nd rfl (Or.inl rfl) (aK cM (hr.mono (by decide)) rfl aG.m aG.F.kp aG.b .nil bK (ak (pv 0) (ak aA aq))))
      (au (aO (i:=10) fj.nd rfl (Or.inl rfl) (bf d8 (pv 9) (aJ aC rfl B.len PySem.boot_len (ak (pv 6) aq))))
      (au (aO (i:=11) fj.nd rfl (Or.inl rfl) (bf d8 (bf jq (pv 9) aA) (aJ aC rfl B.len PySem.boot_len (ak (pv 5) aq))))
      (au (aO (i:=12) fj.nd rfl (Or.inl rfl) (aQ d9 (aQ aH (pv 6) (pv 10) (fun _ _=>rfl)) aA (fun _ _=>rfl)))
      (ju (gD (PW.pt (pw_and (aZ pq (pv 12) (kI iR aA) (bD _)) (pw_and1 (aZ mY (pv 12) (jh jQ (aK eY (hr.mono (by decide)) rfl aU.m aU.F.kp aU.b .nil bK (ak (pv 5) (ak (pv 11) (ak (kI iR aA) aq)))) (iY aA) nZ) (by rfl)))))
        (aB (aO (i:=11) fj.nd rfl (Or.inl rfl) (aQ d9 (aQ aH (pv 6) (pv 10) (fun _ _=>rfl)) aA (fun _ _=>rfl))))
        bR)
      (au (aO (i:=13) fj.nd rfl (Or.inl rfl) (gP (ak (cP cH rfl B.list PyProof.Rows.boot_list (ak (pv 5) aq)) (ak (cP cH rfl B.list PyProof.Rows.boot_list (ak (pv 6) aq)) (ak (jD (ao lF) rfl ["script","first","great","size","cells","river","roll","record","wet","pick","number","start","back","handed","found"] rfl ["springs","calls"] [none,none] (by decide +kernel) (by decide +kernel) (by decide +kernel) rfl (cu (pv 7)) (fun _ _ _=>(qC (K:=K) (n:=2) rfl rfl (bC (aL (i:=0) (show (["springs","calls"]:List Str).Nodup by decide +kernel) rfl (Or.inl rfl)) (bC (aL (i:=1) (show (["springs","calls"]:List Str).Nodup by decide +kernel) rfl (Or.inl rfl)) iZ)))) (fun _ _ _=>gk) (fun _ _ _=>(jw (ak (cP (lQ (K:=K) rfl) rfl B.list PyProof.Rows.boot_list (ak (pv 0) aq)) (ak (cP (lQ (K:=K) rfl) rfl B.list PyProof.Rows.boot_list (ak (pv 1) aq)) aq))))) aq)))))
      (au (aO (i:=14) fj.nd rfl (Or.inl rfl) (aK Aw (hr.mono (by decide)) rfl jz.m jz.F.kp jz.b .nil bK (ak (aQ aH (pv 13) aA (fun _ _=>rfl)) (ak (aQ aH (pv 13) aA (fun _ _=>rfl)) (ak (pv 10) (ak (pv 11) (ak (aQ aH (pv 13) aA (fun _ _=>rfl)) aq)))))))
      (au (gD (aZ (Ks hu) (pv 13) (gP (ak (pv 5) (ak (pv 6) (ak (pv 7) aq)))) (bD _))
        (aB (bw ur))
        bR)
      (aB (bw (aK tH (hr.mono (by decide)) rfl fQ.m fQ.F.kp fQ.b .nil bK (ak (pv 14) (ak (aK xu (hr.mono (by decide)) rfl iM.m iM.F.kp iM.b .nil bK (ak (pv 5) (ak (pv 6) (ak (pv 10) (ak (pv 11) (ak (pv 7) aq)))))) aq))))))))))))))))))))))),?_⟩
    refine QJ ?_
    intro zu0 zu1 zu2 zu3 zu4 zu5 zu6 zu7 zu8 zu9 zu10 zu11 zu12 zu13 zu14 zu15 zu16 zu17 zu18 zu19 zu20 zu21 zu22 zu23 zu24
    have O:=Ow.refl tk
    have s0:=O.same
    refine ⟨_,rfl,a,ns,0,rfl,hS,?_⟩
    generalize ns.getD 0 0=first
    refine ⟨_,rfl,_,_,rfl,rfl,⟨by decide,by decide⟩,_,_,rfl,rfl,(by show (0:Int)<2;decide),rfl,?_⟩
    dsimp only
    generalize decide (V.int (first / 7 % 2)=V.int 1)=gr
    refine ⟨_,rfl,_,_,rfl,rfl,(by show (0:Int)<7;decide),?_⟩
    refine ⟨_,rfl,9,rfl,12,rfl,a,_,rfl,hS,fun lc hlc=>?_⟩
    walk_at "nw"
    rw [show pF (ns.map V.int) (some 9) (some 12)=((ns.drop 9).take 3).map V.int from Il ns 9 12] at O
    have hcl:((ns.drop 9).take 3).length≤12:=by rw [List.length_take];omega
    generalize (ns.drop 9).take 3=cs at O hcl
    have f0:=Int.emod_nonneg first (show (7:Int)≠0 by decide)
    have f1':=Int.emod_lt_of_pos first (show (0:Int)<7 by decide)
    dsimp only
    refine ⟨fun σ H'=>Iv (∃ (sz:Int) (lc:Addr) (cs:List Int),σ=[some (.ref a),some (.int first),some (.bl gr),some (.int sz),some (.ref lc),none,none,none,none,none,none,none,none,none,none]∧0≤sz∧sz<7∧cs.length≤12∧Ow T H H' [(lc,.lst (cs.map V.int))]),?_,?_⟩
    · refine ⟨_,rfl,_,_,rfl,rfl,⟨by decide,by decide⟩,_,_,rfl,rfl,(by show (0:Int)<3;decide),rfl,_,rfl,ifI (fun _=>?_) (fun _=>?_)⟩
      · have g0:=Int.emod_nonneg first (show (3:Int)≠0 by decide)
        have g1:=Int.emod_lt_of_pos first (show (0:Int)<3 by decide)
        have h0:=Int.emod_nonneg (first / 42) (show (9:Int)≠0 by decide)
        have h1:=Int.emod_lt_of_pos (first / 42) (show (0:Int)<9 by decide)
        refine ⟨_,rfl,_,_,rfl,rfl,(by show (0:Int)<3;decide),?_⟩
        refine ⟨_,rfl,a,ns,9,rfl,O.same.seq hS,_,rfl,_,_,rfl,rfl,⟨by decide,by decide⟩,_,_,rfl,rfl,(by show (0:Int)<9;decide),_,_,rfl,rfl,_,_,rfl,by omega,by omega,O.got fun lp H1 xs O e=>?_⟩
        subst e
        exact ⟨trivial,_,lp,_,rfl,g0,by omega,by rw [j5];omega,O.sub (List.Sublist.cons₂ _ (List.nil_sublist _))⟩
      · exact ⟨trivial,_,lc,cs,rfl,f0,f1',hcl,O⟩
    clear O
    rintro σ H1 ⟨-,sz,lc,cs,rfl,z0,z1,hcl,O⟩
    refine ⟨_,rfl,a,ns,1,rfl,O.same.seq hS,_,rfl,_,sz,rfl,by omega,by omega,O.got fun lp H2 xs O e=>?_⟩
    subst e
    refine ⟨_,rfl,a,ns,2,rfl,O.same.seq hS,lp,wR (ns.getD 1 0) sz.toNat,_,rfl,O.sq 0,by rw [j5];omega,O.got fun lv H3 rs O ⟨r,er,hR,hrl⟩=>?_⟩
    subst er
    rw [j5] at hrl
    have O:=O.two
    have hr1:1≤r.length:=by omega
    have hr60:r.length≤60:=by omega
    have hml:((r.map V.int).length:Int)=(r.length:Int):=by rw [List.length_map]
    refine ⟨_,rfl,szl,fun l1 h1=>?_⟩
    walk_at "nw"
    refine ⟨_,rfl,4,rfl,9,rfl,a,_,rfl,O.same.seq hS,fun l2 h2=>?_⟩
    walk_at "nw"
    rw [show pF (ns.map V.int) (some 4) (some 9)=((ns.drop 4).take 5).map V.int from Il ns 4 9] at O
    have hal:((ns.drop 4).take 5).length≤5:=by rw [List.length_take];omega
    generalize (ns.drop 4).take 5=as at O hal
    refine ⟨l1,l2,_,_,rfl,rfl,O.get 1,O.get 0,ig (by simp only [List.length_map,List.length_cons,List.length_nil];omega),fun lq hlq=>?_⟩
    walk_at "nw"
    rw [show [V.int first]++as.map V.int=(first :: as).map V.int from rfl] at O
    have hc2:(first :: as).length≤6:=by simp only [List.length_cons];omega
    have hc1:1≤(first :: as).length:=by simp only [List.length_cons];omega
    generalize first :: as=qs at O hc1 hc2
    have O:=(O.del 1).del 1
    walk_at "er"
    refine ⟨lq,rfl,⟨_,O.sq 0⟩,fun lr hlr=>?_⟩
    refine eE (K:=K) (xs:=qs.map V.int) (fun i τ H'=>Iv (∃ (v0:Option V) (Hc:Hp) (us:List V) (ls:List Lic),τ=[v0,some (.ref lv),some (.bl gr)]∧bA T H Hc∧dD Hc us (ls.map K1)∧ls.length=i∧(∀ l∈ls,gZ r l∧0≤l.day)∧Ow T Hc H' [(lr,.lst us),(lq,.lst (qs.map V.int)),(lv,.lst (r.map V.int)),(lc,.lst (cs.map V.int))]))
      ⟨trivial,none,H,[],[],rfl,s0,dD.nil _,rfl,(fun l hl=>nomatch hl),O.mk' hlr rfl⟩ (fun i τ H' _ ⟨_,_,_,_,_,_,_,_,_,_,O⟩=>O.sq 1) ?_ ?_
    · clear O
      rintro i y τ H5 hy ⟨-,v0,Hc,us,ls,rfl,sc,d1,hli,hok,O⟩
      obtain ⟨z,hz,rfl⟩:=ints_get hy
      have hi:=(List.getElem?_eq_some_iff.mp hz).1
      have hul:us.length=ls.length:=by rw [d1.1,List.length_map]
      refine xQ ?_
      refine ⟨_,rfl,_,rfl,_,rfl,lv,r,z,gr,rfl,O.sq 2,hR,hr1,by omega,O.same.t1,O.PX fun t H6 ts O e=>?_⟩
      obtain ⟨l,rfl,hl1,hl2⟩:=e
      refine ⟨_,O.get 1,aY (by omega),?_⟩
      walk_at "pt"
      obtain ⟨Hd,O,sd,en⟩:=O.frz
      refine ⟨trivial,_,Hd,us++[.ref t],ls++[l],rfl,sc.trans sd,?_,by rw [List.length_append,hli];rfl,fun x hx=>?_,O⟩
      · rw [List.map_append]
        exact (d1.mo sd).snoc en
      · rcases List.mem_append.mp hx with h | h
        · exact hok x h
        · rw [List.mem_singleton.mp h];exact ⟨hl1,hl2⟩
    clear O
    rintro τ H5 ⟨-,v0,Hc,us,ls,rfl,sc,dO,hli,hok,O⟩
    rw [List.length_map] at hli
    have O:=O.two
    clear s0
    refine ⟨fun σ H'=>Iv (∃ (lr:Addr) (us:List V) (ls:List Lic),σ=[some (.ref a),some (.int first),some (.bl gr),some (.int sz),some (.ref lc),some (.ref lv),some (.ref lr),none,none,none,none,none,none,none,none]∧dD Hc us (ls.map K1)∧1≤ls.length∧ls.length≤6∧(∀ l∈ls,gZ r l∧0≤l.day)∧Ow T Hc H' [(lr,.lst us),(lv,.lst (r.map V.int)),(lc,.lst (cs.map V.int))]),?_,?_⟩
    · refine ⟨_,rfl,lc,_,rfl,.inl (O.sq 2),_,_,rfl,rfl,_,rfl,ifD (fun _=>?_) (fun _=>?_)⟩
      · refine ⟨_,rfl,3,rfl,lr,_,rfl,O.sq 0,fun l3 hl3=>?_⟩
        walk_at "nw"
        rw [show pF us none (some 3)=us.take 3 from Ac us 3] at O
        refine ⟨trivial,l3,us.take 3,ls.take 3,rfl,?_,?_,?_,fun l hl=>hok l (List.mem_of_mem_take hl),O.two⟩
        · rw [List.map_take];exact dD.take dO 3
        · rw [List.length_take];omega
        · rw [List.length_take];omega
      · exact ⟨trivial,lr,us,ls,rfl,dO,by omega,by omega,hok,O⟩
    clear O dO hli hok
    rintro σ H6 ⟨-,lr,us,ls,rfl,dO,hl1,hl6,hok,O⟩
    have hul:us.length=ls.length:=by rw [dO.1,List.length_map]
    have hui:((us.length:Nat):Int)=(ls.length:Int):=by rw [hul]
    refine ⟨_,rfl,lc,rfl,⟨_,O.sq 2⟩,fun lR hlR=>?_⟩
    refine eE (K:=K) (xs:=cs.map V.int) (fun i τ H'=>Iv (∃ (v0:Option V) (Hb:Hp) (vs:List V) (ds:List (List Int × List Int)),τ=[v0,some (.ref lv),some (.ref lr),some (.bl gr)]∧bA T Hc Hb∧uP Hb vs ds∧ds.length=i∧xq r ls.length ds∧Ow T Hb H' [(lR,.lst vs),(lr,.lst us),(lv,.lst (r.map V.int)),(lc,.lst (cs.map V.int))]))
      ⟨trivial,none,Hc,[],[],rfl,bA.refl O.same.t0,⟨rfl,fun i v d hv=>nomatch hv⟩,rfl,(fun d hd=>nomatch hd),O.mk' hlR rfl⟩ (fun i τ H' _ ⟨_,_,_,_,_,_,_,_,_,_,O⟩=>O.sq 3) ?_ ?_
    · clear O
      rintro i y τ H7 hy ⟨-,v0,Hb,vs,ds,rfl,sb,dR,hdi,hrec,O⟩
      obtain ⟨z,hz,rfl⟩:=ints_get hy
      have hi:=(List.getElem?_eq_some_iff.mp hz).1
      refine xQ ?_
      refine ⟨_,rfl,_,rfl,_,rfl,_,rfl,lv,lr,r,us,z,gr,rfl,O.sq 2,hr60,O.sq 1,by omega,O.same.t1,fun t sp cl d H8 OM c1 c2 c3 c4=>?_⟩
      have O:=O.join OM
      walk_at "jn"
      refine ⟨_,O.get 3,aY (by rw [dR.1];omega),?_⟩
      walk_at "pt"
      obtain ⟨Hd,O,sd,e1⟩:=O.frz
      obtain ⟨Hd2,O,sd2,e2⟩:=O.frz
      obtain ⟨Hd3,O,sd3,e3⟩:=O.frz
      refine ⟨trivial,_,Hd3,vs++[.ref t],ds++[d],rfl,sb.trans (sd.trans (sd2.trans sd3)),?_,by rw [List.length_append,hdi];rfl,fun x hx=>?_,O⟩
      · exact (dR.mo (sd.trans (sd2.trans sd3))).snoc ⟨t,sp,cl,rfl,(sd2.trans sd3).keep _ _ e1 (fun _ z=>nomatch z),e3,sd3.keep _ _ e2 (fun _ z=>nomatch z)⟩
      · rcases List.mem_append.mp hx with h | h
        · exact hrec x h
        · rw [List.mem_singleton.mp h];exact ⟨c1,c2,by omega,c4⟩
    clear O
    rintro τ H7 ⟨-,v0,Hb,vs,ds,rfl,sb,dR,hdi,hrec,O⟩
    rw [List.length_map] at hdi
    have dO:=dO.mo sb
    have sc:=sc.trans sb
    refine ⟨fun σ H'=>Iv (∃ (v8:Option V) (lR:Addr) (Hb:Hp) (vs:List V) (ds:List (List Int × List Int)),σ=[some (.ref a),some (.int first),some (.bl gr),some (.int sz),some (.ref lc),some (.ref lv),some (.ref lr),some (.ref lR),v8,none,none,none,none,none,none]∧bA T H Hb∧dD Hb us (ls.map K1)∧uP Hb vs ds∧ds.length≤12∧xq r ls.length ds∧Ow T Hb H' [(lR,.lst vs),(lr,.lst us),(lv,.lst (r.map V.int))]),?_,?_⟩
    · have again:∀ {H'},Ow T Hb H' [(lR,.lst vs),(lr,.lst us),(lv,.lst (r.map V.int)),(lc,.lst (cs.map V.int))]→Iv (∃ (v8:Option V) (lR':Addr) (Hb:Hp) (vs:List V) (ds:List (List Int × List Int)),[some (V.ref a),some (.int first),some (.bl gr),some (.int sz),some (.ref lc),some (.ref lv),some (.ref lr),some (.ref lR),none,none,none,none,none,none,none]=[some (.ref a),some (.int first),some (.bl gr),some (.int sz),some (.ref lc),some (.ref lv),some (.ref lr),some (.ref lR'),v8,none,none,none,none,none,none]∧bA T H Hb∧dD Hb us (ls.map K1)∧uP Hb vs ds∧ds.length≤12∧xq r ls.length ds∧Ow T Hb H' [(lR',.lst vs),(lr,.lst us),(lv,.lst (r.map V.int))]):=fun O =>
        ⟨trivial,none,lR,Hb,vs,ds,rfl,sc,dO,dR,by omega,hrec,O.sub (List.Sublist.cons₂ _ (List.Sublist.cons₂ _ (List.Sublist.cons₂ _ (List.nil_sublist _))))⟩
      refine ⟨_,rfl,lc,_,rfl,.inl (O.sq 3),_,_,rfl,rfl,_,rfl,ifD (fun h3=>?_) (fun _=>again O)⟩
      have hvs:3<ds.length:=by have h3:(3:Int)<(((cs.map V.int).length:Nat):Int):=h3;rw [List.length_map] at h3;omega
      have hvi:((vs.length:Nat):Int)=(ds.length:Int):=by rw [dR.1]
      refine ⟨_,rfl,a,ns,10,rfl,(sc.trans O.same).seq hS,_,_,rfl,rfl,(by show (0:Int)<2;decide),rfl,_,rfl,ifI (fun _=>?_) (fun _=>again O)⟩
      clear again
      refine ⟨_,rfl,a,ns,10,rfl,(sc.trans O.same).seq hS,_,_,rfl,rfl,⟨by decide,by decide⟩,_,rfl,lR,_,rfl,.inl (O.sq 0),_,_,rfl,rfl,(by omega),?_⟩
      dsimp only
      generalize ns.getD 10 0 / 2 % (vs.length:Int)=wet
      refine ⟨_,rfl,lR,vs,rfl,O.sq 0,fun lN hlN=>?_⟩
      refine Ad (K:=K) (xs:=vs) (fun i τ H'=>Iv (∃ (v0 v1:Option V) (He:Hp) (ws:List V) (es:List (List Int × List Int)),τ=[v0,v1,some (.int wet)]∧bA T Hb He∧uP He ws es∧es.length=i∧xq r ls.length es∧Ow T He H' [(lN,.lst ws),(lR,.lst vs),(lr,.lst us),(lv,.lst (r.map V.int)),(lc,.lst (cs.map V.int))]))
        ⟨trivial,none,none,Hb,[],[],rfl,bA.refl O.same.t0,⟨rfl,fun i v d hv=>nomatch hv⟩,rfl,(fun d hd=>nomatch hd),O.mk' hlN rfl⟩ (fun i τ H' _ ⟨_,_,_,_,_,_,_,_,_,_,_,O⟩=>O.sq 1) ?_ ?_
      · clear O
        rintro i y T0 τ H8 hy ⟨-,v0,v1,He,ws,es,rfl,se,dE,hei,hrE,O⟩ hT0
        have hi:=(List.getElem?_eq_some_iff.mp hy).1
        walk_at "nw"
        refine ⟨T0,_,rfl,O.sqT 0,rfl,_,_,rfl,_,_,rfl,rfl,?_⟩
        obtain ⟨d,hd⟩:∃ d,ds[i]?=some d:=⟨_,List.getElem?_eq_getElem (by rw [← dR.1];exact hi)⟩
        obtain ⟨c1,c2,c3,c4⟩:=hrec d (List.mem_of_getElem? hd)
        obtain ⟨ay,asp,acl,rfl,a1,a2,a3⟩:=(dR.2 i y d hy hd).mo se
        have O:=O.tail
        have b1:SqT K _ ay [.ref asp,.ref acl]:=O.same.Jc (SqT.of a1)
        have b2:SqL K _ asp (d.1.map V.int):=O.same.seq (SqL.of a2)
        refine Qm ?_
        refine ⟨_,rfl,ay,_,0,_,rfl,rfl,b1,rfl,asp,rfl,⟨_,b2⟩,fun lX hlX=>?_⟩
        refine eE (K:=K) (xs:=d.1.map V.int) (fun j τ H'=>Iv (∃ (v0:Option V) (xs:List Int),τ=[v0,some (.int (i:Int)),some (.int wet)]∧xs.length=j∧(∀ x∈xs,0≤x)∧Ow T He H' [(lX,.lst (xs.map V.int)),(lN,.lst ws),(lR,.lst vs),(lr,.lst us),(lv,.lst (r.map V.int)),(lc,.lst (cs.map V.int))]))
          ⟨trivial,none,[],rfl,rfl,(fun x hx=>nomatch hx),O.mk' hlX rfl⟩ (fun i τ H' _ ⟨_,_,_,_,_,_,O⟩=>O.same.seq (SqL.of a2)) ?_ ?_
        · clear O b1 b2
          rintro j y τ H9 hy ⟨-,v0,xs,rfl,hxl,hxn,O⟩
          obtain ⟨z,hz,rfl⟩:=ints_get hy
          have hj:=(List.getElem?_eq_some_iff.mp hz).1
          have z0:=c2 z (List.mem_of_getElem? hz)
          refine xQ ?_
          refine ⟨_,rfl,_,rfl,_,rfl,rfl,.inr ⟨_,rfl,?_⟩⟩
          generalize decide (V.int (i:Int)=V.int wet)=b
          have hb:0≤z * (if b=true then 1 else 0):=by cases b <;> simp [z0]
          refine ⟨_,_,rfl,rfl,.inr (by cases b <;> exact ⟨by decide,by decide⟩),?_⟩
          dsimp only
          generalize z * (if b=true then 1 else 0)=zz at hb
          refine ⟨_,O.get 0,aY (by rw [List.length_map];omega),?_⟩
          walk_at "pt"
          refine ⟨trivial,_,xs++[zz],rfl,by rw [List.length_append,hxl];rfl,fun x hx=>?_,?_⟩
          · rcases List.mem_append.mp hx with h | h
            · exact hxn x h
            · rw [List.mem_singleton.mp h];exact hb
          · rw [← Ca];exact O
        clear O b1 b2
        rintro τ H9 ⟨-,v0,xs,rfl,hxl,hxn,O⟩
        rw [List.length_map] at hxl
        refine ⟨_,rfl,ay,_,1,_,rfl,rfl,O.same.Jc (SqT.of a1),rfl,szl,fun tN htN=>?_⟩
        walk_at "nw"
        refine ⟨_,O.get 2,aY (by rw [dE.1];omega),?_⟩
        walk_at "pt"
        obtain ⟨Hd,O,sd,e1⟩:=O.frz
        obtain ⟨Hd2,O,sd2,e2⟩:=O.frz
        refine ⟨trivial,_,_,Hd2,ws++[.ref tN],es++[(xs,d.2)],rfl,se.trans (sd.trans sd2),?_,by rw [List.length_append,hei];rfl,fun x hx=>?_,O⟩
        · exact (dE.mo (sd.trans sd2)).snoc ⟨tN,lX,acl,rfl,sd2.keep _ _ e1 (fun _ z=>nomatch z),e2,(sd.trans sd2).keep _ _ a3 (fun _ z=>nomatch z)⟩
        · rcases List.mem_append.mp hx with h | h
          · exact hrE x h
          · rw [List.mem_singleton.mp h];exact ⟨by rw [← c1];exact hxl,hxn,c3,c4⟩
      clear O
      rintro τ H8 ⟨-,v0,v1,He,ws,es,rfl,se,dE,hei,hrE,O⟩
      exact ⟨trivial,_,lN,He,ws,es,rfl,sc.trans se,dO.mo se,dE,by rw [hei,dR.1];omega,hrE,O.sub (List.Sublist.cons₂ _ (List.Sublist.cons _ (List.Sublist.cons₂ _ (List.Sublist.cons₂ _ (List.nil_sublist _)))))⟩
    clear O dO dR hrec hdi sc sb
    rintro σ H8 ⟨-,v8,lR,Hb,vs,ds,rfl,sc,dO,dR,hdl,hrec,O⟩
    have d0:=dO.lics (K:=K)
    refine ⟨_,rfl,a,ns,3,rfl,(sc.trans O.same).seq hS,?_⟩
    generalize ns.getD 3 0=pick
    have n0:=Int.emod_nonneg pick (show (us.length:Int)≠0 by omega)
    have n1:=Int.emod_lt_of_pos pick (show (0:Int)<(us.length:Int) by omega)
    refine ⟨_,rfl,_,rfl,lr,_,rfl,.inl (O.sq 1),_,_,rfl,rfl,(by omega),?_⟩
    dsimp only
    generalize pick % (us.length:Int)=nb at n0 n1
    obtain ⟨nk,rfl⟩:=Int.eq_ofNat_of_zero_le n0
    obtain ⟨lk,hlk⟩:∃ lk,ls[nk]?=some lk:=⟨ls[nk]'(by omega),List.getElem?_eq_getElem (by omega)⟩
    obtain ⟨al,hal,hT⟩:=d0.lK hlk
    obtain ⟨hok1,hok2⟩:=hok lk (List.mem_of_getElem? hlk)
    have q0:=Int.emod_nonneg (pick / 6) (show (r.length:Int)≠0 by omega)
    have q1:=Int.emod_lt_of_pos (pick / 6) (show (0:Int)<(r.length:Int) by omega)
    refine ⟨_,rfl,_,_,rfl,rfl,⟨by decide,by decide⟩,_,rfl,lv,_,rfl,.inl (O.sq 2),_,_,rfl,rfl,(by rw [hml];omega),?_⟩
    dsimp only
    rw [hml]
    generalize pick / 6 % (r.length:Int)=st at q0 q1
    refine ⟨_,rfl,_,rfl,lr,_,_,_,rfl,rfl,O.sq 1,bW hal,al,_,2,_,rfl,rfl,hT.mo O.same,rfl,?_⟩
    refine ⟨fun σ H'=>Iv (∃ (st:Int),σ=[some (.ref a),some (.int first),some (.bl gr),some (.int sz),some (.ref lc),some (.ref lv),some (.ref lr),some (.ref lR),v8,some (.int pick),some (.int (nk:Int)),some (.int st),some (.int lk.back),none,none]∧gZ r (gY lk st)∧Ow T Hb H' [(lR,.lst vs),(lr,.lst us),(lv,.lst (r.map V.int))]),?_,?_⟩
    · refine ⟨_,rfl,1,rfl,rfl,_,rfl,ifN (ifI (fun h1=>?_) (fun h1=>?_))⟩
      · exact ⟨trivial,st,rfl,⟨⟨q0,q1,.inl h1⟩,hok1.2⟩,O⟩
      refine ⟨_,rfl,_,rfl,_,rfl,1,rfl,lv,r,st,-1,rfl,O.sq 2,hR,q0,q1,by omega,O.same.t1,O.tL fun lw H9 xs O e=>?_⟩
      subst e
      refine ⟨1,rfl,lw,_,rfl,O.sq 0,fun l9 h9=>?_⟩
      walk_at "nw"
      rw [show pF ((Rv.eN r st (-1)).map V.int) (some 1) none=((Rv.walk r st).drop 1).map V.int from by rw [nP];exact CJ _ 1] at O
      refine ⟨l9,_,rfl,.inl (O.sq 0),rfl,oK _,_,rfl,?_⟩
      rw [if_pos rfl,uF]
      refine ifN (ifD (fun h2=>?_) (fun h2=>?_))
      · exact ⟨trivial,st,rfl,⟨⟨q0,q1,.inr (List.mem_of_mem_drop h2)⟩,hok1.2⟩,O.tail.tail⟩
      · refine ⟨_,rfl,_,rfl,lr,_,_,_,rfl,rfl,O.sq 3,bW hal,al,_,1,_,rfl,rfl,hT.mo O.same,rfl,?_⟩
        exact ⟨trivial,lk.start,rfl,hok1,O.tail.tail⟩
    clear O q0 q1 st
    rintro σ H9 ⟨-,st,rfl,hok',O⟩
    have hls':∀ l∈ls.set nk (gY lk st),0≤l.day:=fun x hx=>by
      rcases List.mem_or_eq_of_mem_set hx with h | h
      · exact (hok x h).2
      · rw [h];exact hok2
    refine ⟨_,rfl,lv,_,rfl,.inl (O.sq 2),fun h1 hh1=>?_⟩
    walk_at "nw"
    refine ⟨_,rfl,lr,_,rfl,.inl (O.sq 2),fun h2 hh2=>?_⟩
    walk_at "nw"
    refine ⟨_,rfl,lR,rfl,⟨_,O.sq 2⟩,fun h3 hh3=>?_⟩
    refine eE (K:=K) (xs:=vs) (fun i τ H'=>Iv (∃ (v0 v1:Option V) (He:Hp) (ws:List V),τ=[v0,v1]∧bA T Hb He∧uP He ws (ds.take i)∧Ow T He H' [(h3,.lst ws),(h2,.lst us),(h1,.lst (r.map V.int)),(lR,.lst vs),(lr,.lst us),(lv,.lst (r.map V.int))]))
      ⟨trivial,none,none,Hb,[],rfl,bA.refl O.same.t0,⟨rfl,fun i v d hv=>nomatch hv⟩,O.mk' hh3 rfl⟩ (fun i τ H' _ ⟨_,_,_,_,_,_,_,_,O⟩=>O.sq 3) ?_ ?_
    · clear O
      rintro i y τ H10 hy ⟨-,v0,v1,He,ws,rfl,se,dE,O⟩
      have hi:=(List.getElem?_eq_some_iff.mp hy).1
      obtain ⟨d,hd⟩:∃ d,ds[i]?=some d:=⟨_,List.getElem?_eq_getElem (by rw [← dR.1];exact hi)⟩
      obtain ⟨ay,asp,acl,rfl,a1,a2,a3⟩:=(dR.2 i y d hy hd).mo se
      refine ⟨ay,_,rfl,O.same.Jc (SqT.of a1),rfl,_,_,rfl,_,_,rfl,rfl,?_⟩
      refine Qm ?_
      refine ⟨_,rfl,asp,_,rfl,.inl (O.same.seq (SqL.of a2)),fun g1 hg1=>?_⟩
      walk_at "nw"
      refine ⟨_,rfl,acl,_,rfl,.inl (O.same.seq (SqL.of a3)),fun g2 hg2=>?_⟩
      walk_at "nw"
      refine ⟨szl,fun tN htN=>?_⟩
      walk_at "nw"
      have hwl:ws.length≤ds.length:=by rw [dE.1,List.length_take];omega
      refine ⟨_,O.get 3,aY (by omega),?_⟩
      walk_at "pt"
      obtain ⟨Hd,O,sd,e1⟩:=O.frz
      obtain ⟨Hd2,O,sd2,e2⟩:=O.frz
      obtain ⟨Hd3,O,sd3,e3⟩:=O.frz
      refine ⟨trivial,_,_,Hd3,ws++[.ref tN],rfl,se.trans (sd.trans (sd2.trans sd3)),?_,O⟩
      rw [List.take_add_one,hd]
      exact (dE.mo (sd.trans (sd2.trans sd3))).snoc ⟨tN,g1,g2,rfl,(sd2.trans sd3).keep _ _ e1 (fun _ z=>nomatch z),e3,sd3.keep _ _ e2 (fun _ z=>nomatch z)⟩
    clear O
    rintro τ H10 ⟨-,v0,v1,He,ws,rfl,se,dE,O⟩
    rw [dR.1,List.take_length] at dE
    have dR:=dR.mo se
    have d0:=d0.mo se
    have dO:=dO.mo se
    clear hT
    refine ⟨szl,fun lh hlh=>?_⟩
    walk_at "nw"
    refine ⟨_,rfl,lh,_,0,_,rfl,rfl,O.sq 0,rfl,_,rfl,lh,_,1,_,rfl,rfl,O.sq 0,rfl,_,rfl,_,rfl,_,rfl,lh,_,2,_,rfl,rfl,O.sq 0,rfl,h1,h2,.ref h3,us,r,ls,nk,lk,st,ds,rfl,⟨O.sq 3,hR,by omega⟩,O.sq 2,d0.mo O.same,hlk,by omega,(fun l hl=>(hok l hl).1),hok',.list (O.sq 1) (dE.mo O.same).JG,by omega,hrec,O.same.t1,And.comm.mp (vR fun fv H11 s11 hfv=>?_)⟩
    have O:=O.uM s11
    refine ⟨_,rfl,_,rfl,_,rfl,_,rfl,szl,fun ld hld=>?_⟩
    generalize hE:upd _ _ _=Hn
    have s12:bA T H11 Hn:=hE ▸ (bA.refl O.same.t1).upd hld (.inl hld)
    replace O:=Ow.mkE O hld hE rfl
    clear hE
    have e1:Den K Hn (.ref lh) (.list [jO r,su ls,Qe ds]):=.list (O.sq 1) (cU.three (.list (O.sq 4) (cU.ints r)) (.list (O.sq 3) (d0.mo O.same)) (.list (O.sq 2) (dE.mo O.same).JG))
    have e2:Den K Hn (.ref ld) (.list [jO r,su ls,Qe ds]):=.list (O.sq 0) (cU.three (.list (O.sq 7) (cU.ints r)) (.list (O.sq 6) (d0.mo O.same)) (.list (O.sq 5) (dR.mo O.same).JG))
    have hsh:Sh 4 (.list [jO r,su ls,Qe ds]):=Sh.three ((Sh.ints 0 r).up (by decide)) ((Sh.roll 0 ls).up (by decide)) (Sh.rec ds)
    refine ⟨_,_,e1,e2,hsh.ok (by decide),hsh.ok (by decide),_,rfl,?_⟩
    rw [if_pos rfl,vU hsh]
    refine xJ ?_
    refine ⟨_,rfl,_,rfl,_,rfl,_,rfl,_,rfl,_,rfl,lv,lr,lR,us,vs,r,ls,nk,lk,st,ds,rfl,⟨O.sq 7,hR,by omega⟩,hr1,O.sq 6,d0.mo O.same,hlk,by omega,(fun l hl=>(hok l hl).1),hok',O.sq 5,dR.mo O.same,by omega,hrec,O.same.t1,And.comm.mp (vR fun dv H13 s13 hdv=>?_)⟩
    have tk13:=(O.uM s13).same.t1
    rcases Cr (fun l hl=>(hok l hl).2) hls' ((hfv.mo s12).mo s13) hdv with ⟨rfl,rfl⟩ | ⟨t,u,ms,rfl,rfl,n4,ht,hu4⟩
    · exact ⟨tk13,.inl ⟨rfl,k _⟩⟩
    · exact ⟨tk13,.inr ⟨t,u,ms,rfl,n4,ht,hu4,fun H' _=>k H'⟩⟩
theorem oU {K:PySem.W.Frag} {x qual:Str} {st:Stmt} {f:Addr} {fd:FuncData} {n0:Str} (F:Fun K x qual st f fd) (h:∀ (kV doc pm:Value) (an:Option Addr) (cdv ct u0:Value),bindArgs (PySem.W.fnOf x qual (aF st) (aD st) (ao st) .none kV doc pm an cdv ct) ⟨[u0],[]⟩=pure (([n0]:List Str).zip [u0])):Binds K fd [n0] [] :=
  F.binds (ps:=[n0]) fun kV doc pm an cdv ct us hl=>match us,hl with | [u0],_=>h kV doc pm an cdv ct u0
theorem jN {K:PySem.W.Frag} {x qual:Str} {st:Stmt} {f:Addr} {fd:FuncData} {n0 n1:Str} (F:Fun K x qual st f fd) (h:∀ (kV doc pm:Value) (an:Option Addr) (cdv ct u0 u1:Value),bindArgs (PySem.W.fnOf x qual (aF st) (aD st) (ao st) .none kV doc pm an cdv ct) ⟨[u0,u1],[]⟩=pure (([n0,n1]:List Str).zip [u0,u1])):Binds K fd [n0,n1] [] :=
  F.binds (ps:=[n0,n1]) fun kV doc pm an cdv ct us hl=>match us,hl with | [u0,u1],_=>h kV doc pm an cdv ct u0 u1
theorem oR {K:PySem.W.Frag} {x qual:Str} {st:Stmt} {f:Addr} {fd:FuncData} {n0 n1 n2:Str} (F:Fun K x qual st f fd) (h:∀ (kV doc pm:Value) (an:Option Addr) (cdv ct u0 u1 u2:Value),bindArgs (PySem.W.fnOf x qual (aF st) (aD st) (ao st) .none kV doc pm an cdv ct) ⟨[u0,u1,u2],[]⟩=pure (([n0,n1,n2]:List Str).zip [u0,u1,u2])):Binds K fd [n0,n1,n2] [] :=
  F.binds (ps:=[n0,n1,n2]) fun kV doc pm an cdv ct us hl=>match us,hl with | [u0,u1,u2],_=>h kV doc pm an cdv ct u0 u1 u2
theorem wg {K:PySem.W.Frag} {x qual:Str} {st:Stmt} {f:Addr} {fd:FuncData} {n0 n1 n2 n3:Str} (F:Fun K x qual st f fd) (h:∀ (kV doc pm:Value) (an:Option Addr) (cdv ct u0 u1 u2 u3:Value),bindArgs (PySem.W.fnOf x qual (aF st) (aD st) (ao st) .none kV doc pm an cdv ct) ⟨[u0,u1,u2,u3],[]⟩=pure (([n0,n1,n2,n3]:List Str).zip [u0,u1,u2,u3])):Binds K fd [n0,n1,n2,n3] [] :=
  F.binds (ps:=[n0,n1,n2,n3]) fun kV doc pm an cdv ct us hl=>match us,hl with | [u0,u1,u2,u3],_=>h kV doc pm an cdv ct u0 u1 u2 u3
theorem sS {K:PySem.W.Frag} {x qual:Str} {st:Stmt} {f:Addr} {fd:FuncData} {n0 n1 n2 n3 n4:Str} (F:Fun K x qual st f fd) (h:∀ (kV doc pm:Value) (an:Option Addr) (cdv ct u0 u1 u2 u3 u4:Value),bindArgs (PySem.W.fnOf x qual (aF st) (aD st) (ao st) .none kV doc pm an cdv ct) ⟨[u0,u1,u2,u3,u4],[]⟩=pure (([n0,n1,n2,n3,n4]:List Str).zip [u0,u1,u2,u3,u4])):Binds K fd [n0,n1,n2,n3,n4] [] :=
  F.binds (ps:=[n0,n1,n2,n3,n4]) fun kV doc pm an cdv ct us hl=>match us,hl with | [u0,u1,u2,u3,u4],_=>h kV doc pm an cdv ct u0 u1 u2 u3 u4
theorem all_mk {l:PySem.W.OpenLaw} {w:World} {K:PySem.W.Frag} {h:Heap} {mg:Str→Option Value} {fa f0 f1 f2 f3 f4 f5 f6 f7 f8 f9 f10 f11 f12 f13 f14 f15 f16 f17 f18 f19 f20 f21 f22 f23 f24 f25 f26 f27 f28 f29 f30 f31 f32 f33 f34 pT0 cT0 pT1 cT1:Addr} (X:K.In h) (G:h.Ns mainGlobals mg) (hfa:mg "law"=some (.ref fa))
    {od0 an0 od1 an1 od2 an2 od3 an3 od4 an4 od5 an5 od6 an6 od7 an7 od8 an8 od9 an9 od10 an10 od11 an11 od12 an12 od13 an13 od14 an14 od15 an15 od16 an16 od17 an17 od18 an18 od19 an19 od20 an20 od21 an21 od22 an22 od23 an23 od24 an24 od25 an25 od26 an26 od27 an27 od28 an28 od29 an29 od30 an30 od31 an31 od32 an32 od33 an33 od34 an34:Option Addr} {sl0 sl1 sl2 sl3 sl4 sl5 sl6 sl7 sl8 sl9 sl10 sl11 sl12 sl13 sl14 sl15 sl16 sl17 sl18 sl19 sl20 sl21 sl22 sl23 sl24 sl25 sl26 sl27 sl28 sl29 sl30 sl31 sl32 sl33 sl34:Array (Option Value)} {oc0 kV0 dc0 pm0 cd0 ct0 oc1 kV1 dc1 pm1 ct1 oc2 kV2 dc2 pm2 cd2 ct2 oc3 kV3 dc3 pm3 cd3 ct3 oc4 kV4 dc4 pm4 cd4 ct4 oc5 kV5 dc5 pm5 cd5 ct5 oc6 kV6 dc6 pm6 cd6 ct6 oc7 kV7 dc7 pm7 cd7 ct7 oc8 kV8 dc8 pm8 ct8 oc9 kV9 dc9 pm9 cd9 ct9 oc10 kV10 dc10 pm10 cd10 ct10 oc11 kV11 dc11 pm11 cd11 ct11 oc12 kV12 dc12 pm12 cd12 ct12 oc13 kV13 dc13 pm13 cd13 ct13 oc14 kV14 dc14 pm14 cd14 ct14 oc15 kV15 dc15 pm15 cd15 ct15 oc16 kV16 dc16 pm16 cd16 ct16 oc17 kV17 dc17 pm17 cd17 ct17 oc18 kV18 dc18 pm18 cd18 ct18 oc19 kV19 dc19 pm19 cd19 ct19 oc20 kV20 dc20 pm20 cd20 ct20 oc21 kV21 dc21 pm21 cd21 ct21 oc22 kV22 dc22 pm22 cd22 ct22 oc23 kV23 dc23 pm23 cd23 ct23 oc24 kV24 dc24 pm24 cd24 ct24 oc25 kV25 dc25 pm25 cd25 ct25 oc26 kV26 dc26 pm26 cd26 ct26 oc27 kV27 dc27 pm27 cd27 ct27 oc28 kV28 dc28 pm28 cd28 ct28 oc29 kV29 dc29 pm29 cd29 ct29 oc30 kV30 dc30 pm30 cd30 ct30 oc31 kV31 dc31 pm31 cd31 ct31 oc32 kV32 dc32 pm32 cd32 ct32 oc33 kV33 dc33 pm33 cd33 ct33 oc34 kV34 dc34 pm34 cd34 ct34:Value} {t0:Tok}
    (a0:PySem.W.nsIn K mainGlobals "way_of"=some (some (.ref f0))) (l0:K.lookup f0=some ⟨oc0,od0,.func (PySem.W.fnOf "way_of" "way_of" (aF iw) (aD iw) (ao iw) .none kV0 dc0 pm0 an0 cd0 ct0),sl0⟩) (c0:PySem.W.codeIn K cd0 "way_of"=true) (k0:PySem.W.keepIn K (.ref f0)=true)
    (a1:PySem.W.nsIn K mainGlobals "tops_first"=some (some (.ref f1))) (l1:K.lookup f1=some ⟨oc1,od1,.func (PySem.W.fnOf "tops_first" "tops_first" (aF cC) (aD cC) (ao cC) .none kV1 dc1 pm1 an1 (.ref cT1) ct1),sl1⟩) (c1:PySem.W.codeIn K (.ref cT1) "tops_first"=true) (k1:PySem.W.keepIn K (.ref f1)=true)
    (a2:PySem.W.nsIn K mainGlobals "stretch_of"=some (some (.ref f2))) (l2:K.lookup f2=some ⟨oc2,od2,.func (PySem.W.fnOf "stretch_of" "stretch_of" (aF cW) (aD cW) (ao cW) .none kV2 dc2 pm2 an2 cd2 ct2),sl2⟩) (c2:PySem.W.codeIn K cd2 "stretch_of"=true) (k2:PySem.W.keepIn K (.ref f2)=true)
    (a3:PySem.W.nsIn K mainGlobals "natural_of"=some (some (.ref f3))) (l3:K.lookup f3=some ⟨oc3,od3,.func (PySem.W.fnOf "natural_of" "natural_of" (aF cY) (aD cY) (ao cY) .none kV3 dc3 pm3 an3 cd3 ct3),sl3⟩) (c3:PySem.W.codeIn K cd3 "natural_of"=true) (k3:PySem.W.keepIn K (.ref f3)=true)
    (a4:PySem.W.nsIn K mainGlobals "reaches_of"=some (some (.ref f4))) (l4:K.lookup f4=some ⟨oc4,od4,.func (PySem.W.fnOf "reaches_of" "reaches_of" (aF cX) (aD cX) (ao cX) .none kV4 dc4 pm4 an4 cd4 ct4),sl4⟩) (c4:PySem.W.codeIn K cd4 "reaches_of"=true) (k4:PySem.W.keepIn K (.ref f4)=true)
    (a5:PySem.W.nsIn K mainGlobals "day_filed"=some (some (.ref f5))) (l5:K.lookup f5=some ⟨oc5,od5,.func (PySem.W.fnOf "day_filed" "day_filed" (aF dG) (aD dG) (ao dG) .none kV5 dc5 pm5 an5 cd5 ct5),sl5⟩) (c5:PySem.W.codeIn K cd5 "day_filed"=true) (k5:PySem.W.keepIn K (.ref f5)=true)
    (a6:PySem.W.nsIn K mainGlobals "most_of"=some (some (.ref f6))) (l6:K.lookup f6=some ⟨oc6,od6,.func (PySem.W.fnOf "most_of" "most_of" (aF gK) (aD gK) (ao gK) .none kV6 dc6 pm6 an6 cd6 ct6),sl6⟩) (c6:PySem.W.codeIn K cd6 "most_of"=true) (k6:PySem.W.keepIn K (.ref f6)=true)
    (a7:PySem.W.nsIn K mainGlobals "with_start"=some (some (.ref f7))) (l7:K.lookup f7=some ⟨oc7,od7,.func (PySem.W.fnOf "with_start" "with_start" (aF cV) (aD cV) (ao cV) .none kV7 dc7 pm7 an7 cd7 ct7),sl7⟩) (c7:PySem.W.codeIn K cd7 "with_start"=true) (k7:PySem.W.keepIn K (.ref f7)=true)
    (a8:PySem.W.nsIn K mainGlobals "ranked"=some (some (.ref f8))) (l8:K.lookup f8=some ⟨oc8,od8,.func (PySem.W.fnOf "ranked" "ranked" (aF iy) (aD iy) (ao iy) .none kV8 dc8 pm8 an8 (.ref cT0) ct8),sl8⟩) (c8:PySem.W.codeIn K (.ref cT0) "ranked"=true) (k8:PySem.W.keepIn K (.ref f8)=true)
    (a9:PySem.W.nsIn K mainGlobals "groups_of"=some (some (.ref f9))) (l9:K.lookup f9=some ⟨oc9,od9,.func (PySem.W.fnOf "groups_of" "groups_of" (aF dX) (aD dX) (ao dX) .none kV9 dc9 pm9 an9 cd9 ct9),sl9⟩) (c9:PySem.W.codeIn K cd9 "groups_of"=true) (k9:PySem.W.keepIn K (.ref f9)=true)
    (a10:PySem.W.nsIn K mainGlobals "wants_of"=some (some (.ref f10))) (l10:K.lookup f10=some ⟨oc10,od10,.func (PySem.W.fnOf "wants_of" "wants_of" (aF eG) (aD eG) (ao eG) .none kV10 dc10 pm10 an10 cd10 ct10),sl10⟩) (c10:PySem.W.codeIn K cd10 "wants_of"=true) (k10:PySem.W.keepIn K (.ref f10)=true)
    (a11:PySem.W.nsIn K mainGlobals "count_ways"=some (some (.ref f11))) (l11:K.lookup f11=some ⟨oc11,od11,.func (PySem.W.fnOf "count_ways" "count_ways" (aF dh) (aD dh) (ao dh) .none kV11 dc11 pm11 an11 cd11 ct11),sl11⟩) (c11:PySem.W.codeIn K cd11 "count_ways"=true) (k11:PySem.W.keepIn K (.ref f11)=true)
    (a12:PySem.W.nsIn K mainGlobals "whole_turns"=some (some (.ref f12))) (l12:K.lookup f12=some ⟨oc12,od12,.func (PySem.W.fnOf "whole_turns" "whole_turns" (aF bT) (aD bT) (ao bT) .none kV12 dc12 pm12 an12 cd12 ct12),sl12⟩) (c12:PySem.W.codeIn K cd12 "whole_turns"=true) (k12:PySem.W.keepIn K (.ref f12)=true)
    (a13:PySem.W.nsIn K mainGlobals "draw"=some (some (.ref f13))) (l13:K.lookup f13=some ⟨oc13,od13,.func (PySem.W.fnOf "draw" "draw" (aF lG) (aD lG) (ao lG) .none kV13 dc13 pm13 an13 cd13 ct13),sl13⟩) (c13:PySem.W.codeIn K cd13 "draw"=true) (k13:PySem.W.keepIn K (.ref f13)=true)
    (a14:PySem.W.nsIn K mainGlobals "take_whole_turns"=some (some (.ref f14))) (l14:K.lookup f14=some ⟨oc14,od14,.func (PySem.W.fnOf "take_whole_turns" "take_whole_turns" (aF aW) (aD aW) (ao aW) .none kV14 dc14 pm14 an14 cd14 ct14),sl14⟩) (c14:PySem.W.codeIn K cd14 "take_whole_turns"=true) (k14:PySem.W.keepIn K (.ref f14)=true)
    (a15:PySem.W.nsIn K mainGlobals "take_one_turn"=some (some (.ref f15))) (l15:K.lookup f15=some ⟨oc15,od15,.func (PySem.W.fnOf "take_one_turn" "take_one_turn" (aF bG) (aD bG) (ao bG) .none kV15 dc15 pm15 an15 cd15 ct15),sl15⟩) (c15:PySem.W.codeIn K cd15 "take_one_turn"=true) (k15:PySem.W.keepIn K (.ref f15)=true)
    (a16:PySem.W.nsIn K mainGlobals "deal_turns"=some (some (.ref f16))) (l16:K.lookup f16=some ⟨oc16,od16,.func (PySem.W.fnOf "deal_turns" "deal_turns" (aF cZ) (aD cZ) (ao cZ) .none kV16 dc16 pm16 an16 cd16 ct16),sl16⟩) (c16:PySem.W.codeIn K cd16 "deal_turns"=true) (k16:PySem.W.keepIn K (.ref f16)=true)
    (a17:PySem.W.nsIn K mainGlobals "deal"=some (some (.ref f17))) (l17:K.lookup f17=some ⟨oc17,od17,.func (PySem.W.fnOf "deal" "deal" (aF jU) (aD jU) (ao jU) .none kV17 dc17 pm17 an17 cd17 ct17),sl17⟩) (c17:PySem.W.codeIn K cd17 "deal"=true) (k17:PySem.W.keepIn K (.ref f17)=true)
    (a18:PySem.W.nsIn K mainGlobals "moved"=some (some (.ref f18))) (l18:K.lookup f18=some ⟨oc18,od18,.func (PySem.W.fnOf "moved" "moved" (aF jT) (aD jT) (ao jT) .none kV18 dc18 pm18 an18 cd18 ct18),sl18⟩) (c18:PySem.W.codeIn K cd18 "moved"=true) (k18:PySem.W.keepIn K (.ref f18)=true)
    (a19:PySem.W.nsIn K mainGlobals "harm_of"=some (some (.ref f19))) (l19:K.lookup f19=some ⟨oc19,od19,.func (PySem.W.fnOf "harm_of" "harm_of" (aF gM) (aD gM) (ao gM) .none kV19 dc19 pm19 an19 cd19 ct19),sl19⟩) (c19:PySem.W.codeIn K cd19 "harm_of"=true) (k19:PySem.W.keepIn K (.ref f19)=true)
    (a20:PySem.W.nsIn K mainGlobals "_law_cell_at"=some (some (.ref f20))) (l20:K.lookup f20=some ⟨oc20,od20,.func (PySem.W.fnOf "_law_cell_at" "_law_cell_at" (aF bZ) (aD bZ) (ao bZ) .none kV20 dc20 pm20 an20 cd20 ct20),sl20⟩) (c20:PySem.W.codeIn K cd20 "_law_cell_at"=true) (k20:PySem.W.keepIn K (.ref f20)=true)
    (a21:PySem.W.nsIn K mainGlobals "_law_whole"=some (some (.ref f21))) (l21:K.lookup f21=some ⟨oc21,od21,.func (PySem.W.fnOf "_law_whole" "_law_whole" (aF cD) (aD cD) (ao cD) .none kV21 dc21 pm21 an21 cd21 ct21),sl21⟩) (c21:PySem.W.codeIn K cd21 "_law_whole"=true) (k21:PySem.W.keepIn K (.ref f21)=true)
    (a22:PySem.W.nsIn K mainGlobals "_law_pebble"=some (some (.ref f22))) (l22:K.lookup f22=some ⟨oc22,od22,.func (PySem.W.fnOf "_law_pebble" "_law_pebble" (aF bU) (aD bU) (ao bU) .none kV22 dc22 pm22 an22 cd22 ct22),sl22⟩) (c22:PySem.W.codeIn K cd22 "_law_pebble"=true) (k22:PySem.W.keepIn K (.ref f22)=true)
    (a23:PySem.W.nsIn K mainGlobals "_law_pebbles"=some (some (.ref f23))) (l23:K.lookup f23=some ⟨oc23,od23,.func (PySem.W.fnOf "_law_pebbles" "_law_pebbles" (aF bB) (aD bB) (ao bB) .none kV23 dc23 pm23 an23 cd23 ct23),sl23⟩) (c23:PySem.W.codeIn K cd23 "_law_pebbles"=true) (k23:PySem.W.keepIn K (.ref f23)=true)
    (a24:PySem.W.nsIn K mainGlobals "_law_river"=some (some (.ref f24))) (l24:K.lookup f24=some ⟨oc24,od24,.func (PySem.W.fnOf "_law_river" "_law_river" (aF dw) (aD dw) (ao dw) .none kV24 dc24 pm24 an24 cd24 ct24),sl24⟩) (c24:PySem.W.codeIn K cd24 "_law_river"=true) (k24:PySem.W.keepIn K (.ref f24)=true)
    (a25:PySem.W.nsIn K mainGlobals "_law_walk"=some (some (.ref f25))) (l25:K.lookup f25=some ⟨oc25,od25,.func (PySem.W.fnOf "_law_walk" "_law_walk" (aF cL) (aD cL) (ao cL) .none kV25 dc25 pm25 an25 cd25 ct25),sl25⟩) (c25:PySem.W.codeIn K cd25 "_law_walk"=true) (k25:PySem.W.keepIn K (.ref f25)=true)
    (a26:PySem.W.nsIn K mainGlobals "_law_amount"=some (some (.ref f26))) (l26:K.lookup f26=some ⟨oc26,od26,.func (PySem.W.fnOf "_law_amount" "_law_amount" (aF bV) (aD bV) (ao bV) .none kV26 dc26 pm26 an26 cd26 ct26),sl26⟩) (c26:PySem.W.codeIn K cd26 "_law_amount"=true) (k26:PySem.W.keepIn K (.ref f26)=true)
    (a27:PySem.W.nsIn K mainGlobals "_law_licence"=some (some (.ref f27))) (l27:K.lookup f27=some ⟨oc27,od27,.func (PySem.W.fnOf "_law_licence" "_law_licence" (aF bY) (aD bY) (ao bY) .none kV27 dc27 pm27 an27 cd27 ct27),sl27⟩) (c27:PySem.W.codeIn K cd27 "_law_licence"=true) (k27:PySem.W.keepIn K (.ref f27)=true)
    (a28:PySem.W.nsIn K mainGlobals "_law_day"=some (some (.ref f28))) (l28:K.lookup f28=some ⟨oc28,od28,.func (PySem.W.fnOf "_law_day" "_law_day" (aF dI) (aD dI) (ao dI) .none kV28 dc28 pm28 an28 cd28 ct28),sl28⟩) (c28:PySem.W.codeIn K cd28 "_law_day"=true) (k28:PySem.W.keepIn K (.ref f28)=true)
    (a29:PySem.W.nsIn K mainGlobals "_law_free"=some (some (.ref f29))) (l29:K.lookup f29=some ⟨oc29,od29,.func (PySem.W.fnOf "_law_free" "_law_free" (aF dY) (aD dY) (ao dY) .none kV29 dc29 pm29 an29 cd29 ct29),sl29⟩) (c29:PySem.W.codeIn K cd29 "_law_free"=true) (k29:PySem.W.keepIn K (.ref f29)=true)
    (a30:PySem.W.nsIn K mainGlobals "_law_is_shown"=some (some (.ref f30))) (l30:K.lookup f30=some ⟨oc30,od30,.func (PySem.W.fnOf "_law_is_shown" "_law_is_shown" (aF bL) (aD bL) (ao bL) .none kV30 dc30 pm30 an30 cd30 ct30),sl30⟩) (c30:PySem.W.codeIn K cd30 "_law_is_shown"=true) (k30:PySem.W.keepIn K (.ref f30)=true)
    (a31:PySem.W.nsIn K mainGlobals "_law_dealt"=some (some (.ref f31))) (l31:K.lookup f31=some ⟨oc31,od31,.func (PySem.W.fnOf "_law_dealt" "_law_dealt" (aF dB) (aD dB) (ao dB) .none kV31 dc31 pm31 an31 cd31 ct31),sl31⟩) (c31:PySem.W.codeIn K cd31 "_law_dealt"=true) (k31:PySem.W.keepIn K (.ref f31)=true)
    (a32:PySem.W.nsIn K mainGlobals "_law_due"=some (some (.ref f32))) (l32:K.lookup f32=some ⟨oc32,od32,.func (PySem.W.fnOf "_law_due" "_law_due" (aF fu) (aD fu) (ao fu) .none kV32 dc32 pm32 an32 cd32 ct32),sl32⟩) (c32:PySem.W.codeIn K cd32 "_law_due"=true) (k32:PySem.W.keepIn K (.ref f32)=true)
    (a33:PySem.W.nsIn K mainGlobals "_law_alike"=some (some (.ref f33))) (l33:K.lookup f33=some ⟨oc33,od33,.func (PySem.W.fnOf "_law_alike" "_law_alike" (aF cF) (aD cF) (ao cF) .none kV33 dc33 pm33 an33 cd33 ct33),sl33⟩) (c33:PySem.W.codeIn K cd33 "_law_alike"=true) (k33:PySem.W.keepIn K (.ref f33)=true)
    (a34:PySem.W.nsIn K mainGlobals "law"=some (some (.ref f34))) (l34:K.lookup f34=some ⟨oc34,od34,.func (PySem.W.fnOf "law" "law" (aF lF) (aD lF) (ao lF) .none kV34 dc34 pm34 an34 cd34 ct34),sl34⟩) (c34:PySem.W.codeIn K cd34 "law"=true) (k34:PySem.W.keepIn K (.ref f34)=true)
    (e0:PySem.W.nsIn K mainGlobals "MOUTH"=some (some (.int (-1) t0)))
    (z_len:PySem.W.nsIn K mainGlobals "len"=some none)
    (z_range:PySem.W.nsIn K mainGlobals "range"=some none)
    (z_list:PySem.W.nsIn K mainGlobals "list"=some none)
    (z_isinstance:PySem.W.nsIn K mainGlobals "isinstance"=some none)
    (z_bool:PySem.W.nsIn K mainGlobals "bool"=some none)
    (z_int:PySem.W.nsIn K mainGlobals "int"=some none)
    (z_all:PySem.W.nsIn K mainGlobals "all"=some none)
    (z_min:PySem.W.nsIn K mainGlobals "min"=some none)
    (z_max:PySem.W.nsIn K mainGlobals "max"=some none)
    (z_sum:PySem.W.nsIn K mainGlobals "sum"=some none)
    (z_sorted:PySem.W.nsIn K mainGlobals "sorted"=some none)
    (z_zip:PySem.W.nsIn K mainGlobals "zip"=some none)
    (z_tuple:PySem.W.nsIn K mainGlobals "tuple"=some none)
    (z_str:PySem.W.nsIn K mainGlobals "str"=some none)
    (z_any:PySem.W.nsIn K mainGlobals "any"=some none)
    (z_enumerate:PySem.W.nsIn K mainGlobals "enumerate"=some none)
    (z_reversed:PySem.W.nsIn K mainGlobals "reversed"=some none)
    (z_abs:PySem.W.nsIn K mainGlobals "abs"=some none)
    (z_ValueError:PySem.W.nsIn K mainGlobals "ValueError"=some none)
    (z_set:PySem.W.nsIn K mainGlobals "set"=some none)
    (y0:PySem.W.codeHdIn K cT0 pT0=true)
    (y1:PySem.W.codeHdIn K cT1 pT1=true)
    (dd0_1:pT0≠pT1)
    : ∃ fd:FuncData,(∀ (s:Shared) (v:Value),BindsTo s fd ⟨[v],[]⟩ [("script",v)])∧∀ base:Heap,K.In base→base.Ns mainGlobals mg→BM mg base→cI l.prog w K mg base CX0 10 fa fd ["script"] (vp K [(pT0,bI.1,bI.2),(pT1,cN.1,cN.2)]):=by
  have e:=hfa.symm.trans (PySem.W.mg_of X G a34)
  cases e
  have B:Blt mg:=⟨PySem.W.mg_none_of X G z_len,PySem.W.mg_none_of X G z_range,PySem.W.mg_none_of X G z_list,PySem.W.mg_none_of X G z_isinstance,PySem.W.mg_none_of X G z_bool,PySem.W.mg_none_of X G z_int,PySem.W.mg_none_of X G z_all,PySem.W.mg_none_of X G z_min,PySem.W.mg_none_of X G z_max,PySem.W.mg_none_of X G z_sum,PySem.W.mg_none_of X G z_sorted,PySem.W.mg_none_of X G z_zip,PySem.W.mg_none_of X G z_tuple,PySem.W.mg_none_of X G z_str,PySem.W.mg_none_of X G z_any,PySem.W.mg_none_of X G z_enumerate,PySem.W.mg_none_of X G z_reversed,PySem.W.mg_none_of X G z_abs,PySem.W.mg_none_of X G z_ValueError,PySem.W.mg_none_of X G z_set⟩
  have h_MOUTH:∃ t,mg "MOUTH"=some (.int (-1) t):=⟨_,PySem.W.mg_of X G e0⟩
  have F0:=bM (st:=iw) l0 c0 k0
  have gB:Df K mg "way_of" iw ["below","reach"] _ _:=⟨F0,jN F0 (fun _ _ _ _ _ _ _ _=>rfl),PySem.W.mg_of X G a0⟩
  have F1:=bM (st:=cC) l1 c1 k1
  have fC:Df K mg "tops_first" cC ["below"] _ _:=⟨F1,oU F1 (fun _ _ _ _ _ _ _=>rfl),PySem.W.mg_of X G a1⟩
  have F2:=bM (st:=cW) l2 c2 k2
  have fD:Df K mg "stretch_of" cW ["below","start","stop"] _ _:=⟨F2,oR F2 (fun _ _ _ _ _ _ _ _ _=>rfl),PySem.W.mg_of X G a2⟩
  have F3:=bM (st:=cY) l3 c3 k3
  have fJ:Df K mg "natural_of" cY ["below","springs"] _ _:=⟨F3,jN F3 (fun _ _ _ _ _ _ _ _=>rfl),PySem.W.mg_of X G a3⟩
  have F4:=bM (st:=cX) l4 c4 k4
  have fH:Df K mg "reaches_of" cX ["below","one"] _ _:=⟨F4,jN F4 (fun _ _ _ _ _ _ _ _=>rfl),PySem.W.mg_of X G a4⟩
  have F5:=bM (st:=dG) l5 c5 k5
  have cj:Df K mg "day_filed" dG ["one"] _ _:=⟨F5,oU F5 (fun _ _ _ _ _ _ _=>rfl),PySem.W.mg_of X G a5⟩
  have F6:=bM (st:=gK) l6 c6 k6
  have jy:Df K mg "most_of" gK ["one"] _ _:=⟨F6,oU F6 (fun _ _ _ _ _ _ _=>rfl),PySem.W.mg_of X G a6⟩
  have F7:=bM (st:=cV) l7 c7 k7
  have fB:Df K mg "with_start" cV ["one","start"] _ _:=⟨F7,jN F7 (fun _ _ _ _ _ _ _ _=>rfl),PySem.W.mg_of X G a7⟩
  have F8:=bM (st:=iy) l8 c8 k8
  have j7:Df K mg "ranked" iy ["roll"] _ _:=⟨F8,oU F8 (fun _ _ _ _ _ _ _=>rfl),PySem.W.mg_of X G a8⟩
  have F9:=bM (st:=dX) l9 c9 k9
  have gF:Df K mg "groups_of" dX ["roll"] _ _:=⟨F9,oU F9 (fun _ _ _ _ _ _ _=>rfl),PySem.W.mg_of X G a9⟩
  have F10:=bM (st:=eG) l10 c10 k10
  have iK:Df K mg "wants_of" eG ["roll","calls"] _ _:=⟨F10,jN F10 (fun _ _ _ _ _ _ _ _=>rfl),PySem.W.mg_of X G a10⟩
  have F11:=bM (st:=dh) l11 c11 k11
  have fM:Df K mg "count_ways" dh ["free","ways"] _ _:=⟨F11,jN F11 (fun _ _ _ _ _ _ _ _=>rfl),PySem.W.mg_of X G a11⟩
  have F12:=bM (st:=bT) l12 c12 k12
  have eH:Df K mg "whole_turns" bT ["free","ways","rests"] _ _:=⟨F12,oR F12 (fun _ _ _ _ _ _ _ _ _=>rfl),PySem.W.mg_of X G a12⟩
  have F13:=bM (st:=lG) l13 c13 k13
  have j4:Df K mg "draw" lG ["left","way","drops"] _ _:=⟨F13,oR F13 (fun _ _ _ _ _ _ _ _ _=>rfl),PySem.W.mg_of X G a13⟩
  have F14:=bM (st:=aW) l14 c14 k14
  have bQ:Df K mg "take_whole_turns" aW ["left","ways","rests","takes","going"] _ _:=⟨F14,sS F14 (fun _ _ _ _ _ _ _ _ _ _ _=>rfl),PySem.W.mg_of X G a14⟩
  have F15:=bM (st:=bG) l15 c15 k15
  have cQ:Df K mg "take_one_turn" bG ["left","ways","rests","takes","going"] _ _:=⟨F15,sS F15 (fun _ _ _ _ _ _ _ _ _ _ _=>rfl),PySem.W.mg_of X G a15⟩
  have F16:=bM (st:=cZ) l16 c16 k16
  have fL:Df K mg "deal_turns" cZ ["free","ways","rests"] _ _:=⟨F16,oR F16 (fun _ _ _ _ _ _ _ _ _=>rfl),PySem.W.mg_of X G a16⟩
  have F17:=bM (st:=jU) l17 c17 k17
  have jl:Df K mg "deal" jU ["below","springs","roll","calls"] _ _:=⟨F17,wg F17 (fun _ _ _ _ _ _ _ _ _ _=>rfl),PySem.W.mg_of X G a17⟩
  have F18:=bM (st:=jT) l18 c18 k18
  have mF:Df K mg "moved" jT ["roll","number","start"] _ _:=⟨F18,oR F18 (fun _ _ _ _ _ _ _ _ _=>rfl),PySem.W.mg_of X G a18⟩
  have F19:=bM (st:=gM) l19 c19 k19
  have jz:Df K mg "harm_of" gM ["below","roll","number","start","record"] _ _:=⟨F19,sS F19 (fun _ _ _ _ _ _ _ _ _ _ _=>rfl),PySem.W.mg_of X G a19⟩
  have F20:=bM (st:=bZ) l20 c20 k20
  have aG:Df K mg "_law_cell_at" bZ ["script","k"] _ _:=⟨F20,jN F20 (fun _ _ _ _ _ _ _ _=>rfl),PySem.W.mg_of X G a20⟩
  have F21:=bM (st:=cD) l21 c21 k21
  have bN:Df K mg "_law_whole" cD ["found"] _ _:=⟨F21,oU F21 (fun _ _ _ _ _ _ _=>rfl),PySem.W.mg_of X G a21⟩
  have F22:=bM (st:=bU) l22 c22 k22
  have bH:Df K mg "_law_pebble" bU ["cell","k"] _ _:=⟨F22,jN F22 (fun _ _ _ _ _ _ _ _=>rfl),PySem.W.mg_of X G a22⟩
  have F23:=bM (st:=bB) l23 c23 k23
  have aM:Df K mg "_law_pebbles" bB ["cell","many"] _ _:=⟨F23,jN F23 (fun _ _ _ _ _ _ _ _=>rfl),PySem.W.mg_of X G a23⟩
  have F24:=bM (st:=dw) l24 c24 k24
  have fO:Df K mg "_law_river" dw ["xs","cell"] _ _:=⟨F24,jN F24 (fun _ _ _ _ _ _ _ _=>rfl),PySem.W.mg_of X G a24⟩
  have F25:=bM (st:=cL) l25 c25 k25
  have aU:Df K mg "_law_walk" cL ["river","start","stop"] _ _:=⟨F25,oR F25 (fun _ _ _ _ _ _ _ _ _=>rfl),PySem.W.mg_of X G a25⟩
  have F26:=bM (st:=bV) l26 c26 k26
  have bh:Df K mg "_law_amount" bV ["x","great"] _ _:=⟨F26,jN F26 (fun _ _ _ _ _ _ _ _=>rfl),PySem.W.mg_of X G a26⟩
  have F27:=bM (st:=bY) l27 c27 k27
  have dM:Df K mg "_law_licence" bY ["river","cell","great"] _ _:=⟨F27,oR F27 (fun _ _ _ _ _ _ _ _ _=>rfl),PySem.W.mg_of X G a27⟩
  have F28:=bM (st:=dI) l28 c28 k28
  have iQ:Df K mg "_law_day" dI ["river","roll","cell","great"] _ _:=⟨F28,wg F28 (fun _ _ _ _ _ _ _ _ _ _=>rfl),PySem.W.mg_of X G a28⟩
  have F29:=bM (st:=dY) l29 c29 k29
  have gG:Df K mg "_law_free" dY ["river","springs","roll","takes"] _ _:=⟨F29,wg F29 (fun _ _ _ _ _ _ _ _ _ _=>rfl),PySem.W.mg_of X G a29⟩
  have F30:=bM (st:=bL) l30 c30 k30
  have cR:Df K mg "_law_is_shown" bL ["river","free","roll","takes","number"] _ _:=⟨F30,sS F30 (fun _ _ _ _ _ _ _ _ _ _ _=>rfl),PySem.W.mg_of X G a30⟩
  have F31:=bM (st:=dB) l31 c31 k31
  have cJ:Df K mg "_law_dealt" dB ["river","springs","roll","calls"] _ _:=⟨F31,wg F31 (fun _ _ _ _ _ _ _ _ _ _=>rfl),PySem.W.mg_of X G a31⟩
  have F32:=bM (st:=fu) l32 c32 k32
  have iM:Df K mg "_law_due" fu ["river","roll","number","start","record"] _ _:=⟨F32,sS F32 (fun _ _ _ _ _ _ _ _ _ _ _=>rfl),PySem.W.mg_of X G a32⟩
  have F33:=bM (st:=cF) l33 c33 k33
  have fQ:Df K mg "_law_alike" cF ["found","due"] _ _:=⟨F33,jN F33 (fun _ _ _ _ _ _ _ _=>rfl),PySem.W.mg_of X G a33⟩
  have F34:=bM (st:=lF) l34 c34 k34
  have S8:Df K mg "law" lF ["script"] _ _:=⟨F34,oU F34 (fun _ _ _ _ _ _ _=>rfl),PySem.W.mg_of X G a34⟩
  refine ⟨PySem.W.fnOf "law" "law" (aF lF) (aD lF) (ao lF) .none kV34 dc34 pm34 an34 cd34 ct34,fun s v=>.of_eq rfl,fun base _ _ hbm=>?_⟩
  have C:Mth mg:=⟨h_MOUTH⟩
  have nd:([(pT0,bI.1,bI.2),(pT1,cN.1,cN.2)].map (·.1)).Nodup:=by
    show ([pT0,pT1]:List Addr).Nodup
    simp [dd0_1]
  have hT2:TT2 pT0 [(pT0,bI.1,bI.2),(pT1,cN.1,cN.2)]:=⟨List.mem_cons_self,nd⟩
  have hT:TT1 pT1 [(pT0,bI.1,bI.2),(pT1,cN.1,cN.2)]:=⟨List.mem_cons_of_mem _ List.mem_cons_self,nd⟩
  clear nd
  generalize ([(pT0,bI.1,bI.2),(pT1,cN.1,cN.2)]:fU)=T at hT hT2 ⊢
  have g1:=Jq (P:=l.prog) (w:=w) (base:=base) aG B
  have g2:=Ky (P:=l.prog) (w:=w) (base:=base) bH
  have g3:=Jk aM B bH g2
  have g4:=BP fO B bH g2
  have g5:=BJ (P:=l.prog) (w:=w) (base:=base) bN B
  have g6:=Kw (P:=l.prog) (w:=w) (base:=base) gB C
  have g7:=Jj (T:=T) fC rfl y1 hT hbm B gB g6
  have g8:=Kz (T:=T) fJ B C fC g7
  have g9:=BL fD C gB g6
  have g10:=wU fH fD g9
  have g11:=Jl (P:=l.prog) (w:=w) (base:=base) jy
  have g12:=BK (T:=T) iK B jy g11
  have g13:=BR (P:=l.prog) (w:=w) (base:=base) (T:=T) fM B
  have g14:=Ra (T:=T) eH B fM g13
  have g15:=Jo (P:=l.prog) (w:=w) (base:=base) (T:=T) j4
  have g16:=Rf (T:=T) bQ B eH g14 j4 g15
  have g17:=Rg (T:=T) cQ B j4 g15
  have g18:=Rh (T:=T) fL B bQ g16 cQ g17
  have g19:=KZ (P:=l.prog) (w:=w) (base:=base) cj
  have g20:=yZ (T:=T) j7 rfl y0 hT2 hbm B cj g19
  have g21:=za (T:=T) gF B cj g19 j7 g20
  have g22:=Jp (T:=T) jl B fJ g8 iK g12 gF g21 fH g10 fL g18
  have g23:=Rb (P:=l.prog) (w:=w) (base:=base) (T:=T) fB
  have g24:=KC (T:=T) mF B fB g23
  have g25:=Jm (T:=T) jz B mF g24 jl g22
  have g26:=Rc (P:=l.prog) (w:=w) (base:=base) (T:=T) aU
  have g27:=Ri (P:=l.prog) (w:=w) (base:=base) bh
  have g28:=KD (T:=T) dM B aM g3 bh g27
  have g29:=KN (T:=T) gG B aU g26
  have g30:=KJ (T:=T) cR B aU g26
  have g31:=KY (T:=T) cJ B jl g22 gG g29 cR g30 bN g5
  have g32:=KR (T:=T) iM B cJ g31
  have g33:=KQ (T:=T) iQ B aM g3 bh g27
  have g34:=BW (T:=T) fQ B bN g5
  exact KH S8 B aG g1 aM g3 fO g4 dM g28 iQ g33 aU g26 jz g25 iM g32 fQ g34
def codeOf (K:PySem.W.Frag) (x:Str):Addr:=match PySem.W.nsIn K mainGlobals x with
  | some (some (.ref f))=>match K.lookup f with
    | some ⟨_,_,.func fd,_⟩=>match fd.code with
      | .ref c=>c
      | _=>0
    | _=>0
  | _=>0
theorem Ae {K:PySem.W.Frag} {P:Addr} (x:Str) (h:PySem.W.codeHdIn K (codeOf K x) P=true):∃ c,PySem.W.codeHdIn K c P=true:=⟨_,h⟩
theorem walk {l:PySem.W.OpenLaw} {q:Program} {loose:List Str} {XP:(Str→Option Value)→Heap→Prop} {YP:World→Heap→Prop} {d:DefRec} {K:Params→PySem.W.Frag} {P0 P1:Addr} (hn:l.most=some 63) (hdf:d.params.defaults=[])
    (hY:∀ (w:World) (h:Heap),YP w h→(K w.params).In h) (hYt:∀ (w:World) (h:Heap),YP w h→∀ P∈([P0,P1]:List Addr),h.get? P=some (PySem.W.tabObj #[])) (hts:∀ (w:World),∀ P∈([P0,P1]:List Addr),(K w.params).lookup P=none∧∃ c,PySem.W.codeHdIn (K w.params) c P=true)
    (F:∀ (w:World) (mg:Str→Option Value) (fa:Addr) (h:Heap),(K w.params).In h→h.Ns mainGlobals mg→mg d.name=some (.ref fa) →
      ∃ fd:FuncData,(∀ (s:Shared) (u:Value),BindsTo s fd ⟨[u],[]⟩ [("script",u)])∧∀ base:Heap,(K w.params).In base→base.Ns mainGlobals mg→BM mg base→cI l.prog w (K w.params) mg base CX0 10 fa fd ["script"] (vp (K w.params) [(P0,bI.1,bI.2),(P1,cN.1,cN.2)])) :
    PySem.W.WalkO q loose XP YP l.row.toRowW d [] (fun f vs=>PySem.call f vs) :=
  L2.Bf (n:=63) (k:=10) (x:="script") (CX:=fun _=>CX0) (sp:=fun w=>vp (K w.params) [(P0,bI.1,bI.2),(P1,cN.1,cN.2)]) (ts:=([P0,P1]:List Addr)) hn (by decide) hdf ⟨rfl,by decide,by decide⟩ hY hYt hts F (fun _ H a ns hl _ hT hS=>⟨a,ns,rfl,hS,hl,fun t ht=>.inl (hT t.1 (by simp only [List.mem_cons,List.not_mem_nil,or_false] at ht ⊢;(try rcases ht with rfl | ht) <;> (try subst ht) <;> simp)),fun _=>rfl⟩) fun _ _ _ _ _ z=>z
end My
open PySem PySem.W PyProof.Rows
set_option maxRecDepth 100000 in
set_option maxHeartbeats 0 in
theorem PySem.Challenge.cw_sluice_k61_harm_holds : PySem.Challenge.rw_sluice_k61_harm.Holds := by
  w_on;o_law
  refine PySem.W.holds_open (q:=My.qv) (loose:=My.vM) (Xt:=(fun s=>PySem.W.xlAt My.qv [] s && PySem.W.recOk (PySem.W.RowW.records PySem.Challenge.rw_sluice_k61_harm.row.toRowW) s)) (XP:=PySem.W.XL My.qv []) (Yf:=PySem.W.Hook.obs (PySem.W.kmHook My.Kf My.asK My.hkE My.tsK)) (Ya:=PySem.W.Hook.val (PySem.W.kmHook My.Kf My.asK My.hkE My.tsK)) (YP:=PySem.W.Hook.says (PySem.W.kmHook My.Kf My.asK My.hkE My.tsK)) (N:=3280) My.hlE (PySem.W.Hook.of (PySem.W.kmHook My.Kf My.asK My.hkE My.tsK)) (PySem.W.Hook.keeps (PySem.W.kmHook My.Kf My.asK My.hkE My.tsK)) (fun s e=>PySem.W.xl_of s (Bool.and_eq_true_iff.mp e).1) PySem.W.XL.keeps (by rfl) (by rfl) (by rfl) (fun s e=>PySem.W.recFacts_of (Bool.and_eq_true_iff.mp e).2) (by rfl) (by first | assumption | decide +kernel) (by decide +kernel) ⟨rfl,rfl,rfl,rfl,rfl,by decide +kernel⟩ ?hw ?hc
  case hw=>w_witness2
  k_fill
  refine' My.walk (l:=PySem.Challenge.rw_sluice_k61_harm) rfl rfl (fun w h Y=>PySem.W.km_in_of Y) (fun w h Y=>PySem.W.km_tabs_of Y) ?hts ?F
  case F =>
    intro w mg fa h KX G hmg
    refine' My.all_mk KX G hmg ?a0 ?l0 ?c0 ?k0 ?a1 ?l1 ?c1 ?k1 ?a2 ?l2 ?c2 ?k2 ?a3 ?l3 ?c3 ?k3 ?a4 ?l4 ?c4 ?k4 ?a5 ?l5 ?c5 ?k5 ?a6 ?l6 ?c6 ?k6 ?a7 ?l7 ?c7 ?k7 ?a8 ?l8 ?c8 ?k8 ?a9 ?l9 ?c9 ?k9 ?a10 ?l10 ?c10 ?k10 ?a11 ?l11 ?c11 ?k11 ?a12 ?l12 ?c12 ?k12 ?a13 ?l13 ?c13 ?k13 ?a14 ?l14 ?c14 ?k14 ?a15 ?l15 ?c15 ?k15 ?a16 ?l16 ?c16 ?k16 ?a17 ?l17 ?c17 ?k17 ?a18 ?l18 ?c18 ?k18 ?a19 ?l19 ?c19 ?k19 ?a20 ?l20 ?c20 ?k20 ?a21 ?l21 ?c21 ?k21 ?a22 ?l22 ?c22 ?k22 ?a23 ?l23 ?c23 ?k23 ?a24 ?l24 ?c24 ?k24 ?a25 ?l25 ?c25 ?k25 ?a26 ?l26 ?c26 ?k26 ?a27 ?l27 ?c27 ?k27 ?a28 ?l28 ?c28 ?k28 ?a29 ?l29 ?c29 ?k29 ?a30 ?l30 ?c30 ?k30 ?a31 ?l31 ?c31 ?k31 ?a32 ?l32 ?c32 ?k32 ?a33 ?l33 ?c33 ?k33 ?a34 ?l34 ?c34 ?k34 ?e0 ?z_len ?z_range ?z_list ?z_isinstance ?z_bool ?z_int ?z_all ?z_min ?z_max ?z_sum ?z_sorted ?z_zip ?z_tuple ?z_str ?z_any ?z_enumerate ?z_reversed ?z_abs ?z_ValueError ?z_set ?y0 ?y1 ?dd0_1
    (case a0=>k_is)
    (case l0=>k_is)
    (case c0=>k_is)
    (case k0=>k_is)
    (case a1=>k_is)
    (case l1=>k_is)
    (case c1=>k_is)
    (case k1=>k_is)
    (case a2=>k_is)
    (case l2=>k_is)
    (case c2=>k_is)
    (case k2=>k_is)
    (case a3=>k_is)
    (case l3=>k_is)
    (case c3=>k_is)
    (case k3=>k_is)
    (case a4=>k_is)
    (case l4=>k_is)
    (case c4=>k_is)
    (case k4=>k_is)
    (case a5=>k_is)
    (case l5=>k_is)
    (case c5=>k_is)
    (case k5=>k_is)
    (case a6=>k_is)
    (case l6=>k_is)
    (case c6=>k_is)
    (case k6=>k_is)
    (case a7=>k_is)
    (case l7=>k_is)
    (case c7=>k_is)
    (case k7=>k_is)
    (case a8=>k_is)
    (case l8=>k_is)
    (case c8=>k_is)
    (case k8=>k_is)
    (case a9=>k_is)
    (case l9=>k_is)
    (case c9=>k_is)
    (case k9=>k_is)
    (case a10=>k_is)
    (case l10=>k_is)
    (case c10=>k_is)
    (case k10=>k_is)
    (case a11=>k_is)
    (case l11=>k_is)
    (case c11=>k_is)
    (case k11=>k_is)
    (case a12=>k_is)
    (case l12=>k_is)
    (case c12=>k_is)
    (case k12=>k_is)
    (case a13=>k_is)
    (case l13=>k_is)
    (case c13=>k_is)
    (case k13=>k_is)
    (case a14=>k_is)
    (case l14=>k_is)
    (case c14=>k_is)
    (case k14=>k_is)
    (case a15=>k_is)
    (case l15=>k_is)
    (case c15=>k_is)
    (case k15=>k_is)
    (case a16=>k_is)
    (case l16=>k_is)
    (case c16=>k_is)
    (case k16=>k_is)
    (case a17=>k_is)
    (case l17=>k_is)
    (case c17=>k_is)
    (case k17=>k_is)
    (case a18=>k_is)
    (case l18=>k_is)
    (case c18=>k_is)
    (case k18=>k_is)
    (case a19=>k_is)
    (case l19=>k_is)
    (case c19=>k_is)
    (case k19=>k_is)
    (case a20=>k_is)
    (case l20=>k_is)
    (case c20=>k_is)
    (case k20=>k_is)
    (case a21=>k_is)
    (case l21=>k_is)
    (case c21=>k_is)
    (case k21=>k_is)
    (case a22=>k_is)
    (case l22=>k_is)
    (case c22=>k_is)
    (case k22=>k_is)
    (case a23=>k_is)
    (case l23=>k_is)
    (case c23=>k_is)
    (case k23=>k_is)
    (case a24=>k_is)
    (case l24=>k_is)
    (case c24=>k_is)
    (case k24=>k_is)
    (case a25=>k_is)
    (case l25=>k_is)
    (case c25=>k_is)
    (case k25=>k_is)
    (case a26=>k_is)
    (case l26=>k_is)
    (case c26=>k_is)
    (case k26=>k_is)
    (case a27=>k_is)
    (case l27=>k_is)
    (case c27=>k_is)
    (case k27=>k_is)
    (case a28=>k_is)
    (case l28=>k_is)
    (case c28=>k_is)
    (case k28=>k_is)
    (case a29=>k_is)
    (case l29=>k_is)
    (case c29=>k_is)
    (case k29=>k_is)
    (case a30=>k_is)
    (case l30=>k_is)
    (case c30=>k_is)
    (case k30=>k_is)
    (case a31=>k_is)
    (case l31=>k_is)
    (case c31=>k_is)
    (case k31=>k_is)
    (case a32=>k_is)
    (case l32=>k_is)
    (case c32=>k_is)
    (case k32=>k_is)
    (case a33=>k_is)
    (case l33=>k_is)
    (case c33=>k_is)
    (case k33=>k_is)
    (case a34=>k_is)
    (case l34=>k_is)
    (case c34=>k_is)
    (case k34=>k_is)
    (case e0=>k_is)
    (case z_len=>k_is)
    (case z_range=>k_is)
    (case z_list=>k_is)
    (case z_isinstance=>k_is)
    (case z_bool=>k_is)
    (case z_int=>k_is)
    (case z_all=>k_is)
    (case z_min=>k_is)
    (case z_max=>k_is)
    (case z_sum=>k_is)
    (case z_sorted=>k_is)
    (case z_zip=>k_is)
    (case z_tuple=>k_is)
    (case z_str=>k_is)
    (case z_any=>k_is)
    (case z_enumerate=>k_is)
    (case z_reversed=>k_is)
    (case z_abs=>k_is)
    (case z_ValueError=>k_is)
    (case z_set=>k_is)
    (case y0=>kernel_rfl)
    (case y1=>kernel_rfl)
    (case dd0_1=>(first | decide | (intro h;cases h) | (intro h;simp at h)))
  case hts =>
    intro w P hP
    simp only [List.mem_cons,List.not_mem_nil,or_false] at hP
    rcases hP with rfl | rfl
    · exact ⟨by kernel_rfl,My.Ae "ranked" (by kernel_rfl)⟩
    · exact ⟨by kernel_rfl,My.Ae "tops_first" (by kernel_rfl)⟩
