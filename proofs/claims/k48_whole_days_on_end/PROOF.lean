import PyProof.Rows.All
import Wide.All
import OpenK.AllK
import Wide.FinOn
import Lean
import PyProof.EqAt
import PyProof.EqKinds
import PyProof.TupleCall
import KE.KSortTup
import PySem.Challenge.RW_sluice_k48_whole_days_on_end
set_option Elab.async false
set_option linter.all false
set_option maxRecDepth 100000
set_option maxHeartbeats 4000000
local macro_rules | `(tactic| omega) => `(tactic| first | lia | omega (splitDisjunctions := true))
namespace L2
open PySem
def aD (s:Stmt):Arguments:=match s with
  | .FunctionDef _ a _ _ _ _ _ _ _ _=>a
  | _=>{ posonlyargs:=[],args:=[],vararg:=none,kwonlyargs:=[],kw_defaults:=[],kwarg:=none,defaults:=[] }
def aC (s:Stmt):List Stmt:=match s with
  | .FunctionDef _ _ b _ _ _ _ _ _ _=>b
  | _=>[]
def ao (s:Stmt):Scope:=match s with
  | .FunctionDef _ _ _ _ _ _ sc _ _ _=>sc
  | _=>{ kind:=.function,names:=[],isGenerator:=false,isCoroutine:=false }
end L2
namespace My
open PySem L2
noncomputable def top0 (i:Nat):Stmt:=PySem.Challenge.pw_sluice_k48_whole_days_on_end.main.body.getD i (.Pass ⟨0,0,0,0⟩)
noncomputable def en (P:Params) (x:Str) (t:Tok) (v:Value):DictEntry:=⟨PyData.keyHash P x,.str x t,v⟩
noncomputable section
def tq (a:Array Value):Obj:={ cls:=.type "tuple",data:=.seq a }
def fc (a:Array Value):Obj:={ cls:=.type "code",data:=.fields a }
def cp (n:Nat):Value:=.str "/claim/cut.py" n
def pr0 (x:Str) (i:Nat):Obj:={ cls:=.none,data:=.func { name:=x,qualname:=x,params:=aD (top0 i),body:=.stmts (aC (top0 i)),scope:=ao (top0 i),globals:=0,closure:=[],defaults:=.none,kwdefaults:=.none } }
def Yx (P:Params):Obj:={ cls:=.type "dict",data:=Data.dict #[en P "__name__" 1 (.str "builtins" 160),en P "__doc__" 2 (.builtin "builtins.__doc__:str#opaque"),en P "__package__" 3 (.builtin "builtins.__package__:str#opaque"),en P "__loader__" 4 (.builtin "builtins.__loader__:shared#opaque"),en P "__spec__" 5 (.builtin "builtins.__spec__#opaque"),en P "__build_class__" 6 (.builtin "__build_class__"),en P "__import__" 7 (.builtin "__import__"),en P "abs" 8 (.builtin "abs"),en P "all" 9 (.builtin "all"),en P "any" 10 (.builtin "any"),en P "ascii" 11 (.builtin "ascii"),en P "bin" 12 (.builtin "bin"),en P "breakpoint" 13 (.builtin "breakpoint"),en P "callable" 14 (.builtin "callable"),en P "chr" 15 (.builtin "chr"),en P "compile" 16 (.builtin "compile"),en P "delattr" 17 (.builtin "delattr"),en P "dir" 18 (.builtin "dir"),en P "divmod" 19 (.builtin "divmod"),en P "eval" 20 (.builtin "eval"),en P "exec" 21 (.builtin "exec"),en P "format" 22 (.builtin "format"),en P "getattr" 23 (.builtin "getattr"),en P "globals" 24 (.builtin "globals"),en P "hasattr" 25 (.builtin "hasattr"),en P "hash" 26 (.builtin "hash"),en P "hex" 27 (.builtin "hex"),en P "id" 28 (.builtin "id"),en P "input" 29 (.builtin "input"),en P "isinstance" 30 (.builtin "isinstance"),en P "issubclass" 31 (.builtin "issubclass"),en P "iter" 32 (.builtin "iter"),en P "aiter" 33 (.builtin "aiter"),en P "len" 34 (.builtin "len"),en P "locals" 35 (.builtin "locals"),en P "max" 36 (.builtin "max"),en P "min" 37 (.builtin "min"),en P "next" 38 (.builtin "next"),en P "anext" 39 (.builtin "anext"),en P "oct" 40 (.builtin "oct"),en P "ord" 41 (.builtin "ord"),en P "pow" 42 (.builtin "pow"),en P "print" 43 (.builtin "print"),en P "repr" 44 (.builtin "repr"),en P "round" 45 (.builtin "round"),en P "setattr" 46 (.builtin "setattr"),en P "sorted" 47 (.builtin "sorted"),en P "sum" 48 (.builtin "sum"),en P "vars" 49 (.builtin "vars"),en P "None" 50 .none,en P "Ellipsis" 51 .ellipsis,en P "NotImplemented" 52 .notImplemented,en P "False" 53 (.bool false),en P "True" 54 (.bool true),en P "bool" 55 (.type "bool"),en P "memoryview" 56 (.type "memoryview"),en P "bytearray" 57 (.type "bytearray"),en P "bytes" 58 (.type "bytes"),en P "classmethod" 59 (.type "classmethod"),en P "complex" 60 (.type "complex"),en P "dict" 61 (.type "dict"),en P "enumerate" 62 (.type "enumerate"),en P "filter" 63 (.type "filter"),en P "float" 64 (.type "float"),en P "frozenset" 65 (.type "frozenset"),en P "property" 66 (.type "property"),en P "int" 67 (.type "int"),en P "list" 68 (.type "list"),en P "map" 69 (.type "map"),en P "object" 70 (.type "object"),en P "range" 71 (.type "range"),en P "reversed" 72 (.type "reversed"),en P "set" 73 (.type "set"),en P "slice" 74 (.type "slice"),en P "staticmethod" 75 (.type "staticmethod"),en P "str" 76 (.type "str"),en P "super" 77 (.type "super"),en P "tuple" 78 (.type "tuple"),en P "type" 79 (.type "type"),en P "zip" 80 (.type "zip"),en P "__debug__" 81 (.bool true),en P "BaseException" 82 (.type "BaseException"),en P "BaseExceptionGroup" 83 (.type "BaseExceptionGroup"),en P "Exception" 84 (.type "Exception"),en P "GeneratorExit" 85 (.type "GeneratorExit"),en P "KeyboardInterrupt" 86 (.type "KeyboardInterrupt"),en P "SystemExit" 87 (.type "SystemExit"),en P "ArithmeticError" 88 (.type "ArithmeticError"),en P "AssertionError" 89 (.type "AssertionError"),en P "AttributeError" 90 (.type "AttributeError"),en P "BufferError" 91 (.type "BufferError"),en P "EOFError" 92 (.type "EOFError"),en P "ImportError" 93 (.type "ImportError"),en P "LookupError" 94 (.type "LookupError"),en P "MemoryError" 95 (.type "MemoryError"),en P "NameError" 96 (.type "NameError"),en P "OSError" 97 (.type "OSError"),en P "ReferenceError" 98 (.type "ReferenceError"),en P "RuntimeError" 99 (.type "RuntimeError"),en P "StopAsyncIteration" 100 (.type "StopAsyncIteration"),en P "StopIteration" 101 (.type "StopIteration"),en P "SyntaxError" 102 (.type "SyntaxError"),en P "SystemError" 103 (.type "SystemError"),en P "TypeError" 104 (.type "TypeError"),en P "ValueError" 105 (.type "ValueError"),en P "Warning" 106 (.type "Warning"),en P "FloatingPointError" 107 (.type "FloatingPointError"),en P "OverflowError" 108 (.type "OverflowError"),en P "ZeroDivisionError" 109 (.type "ZeroDivisionError"),en P "BytesWarning" 110 (.type "BytesWarning"),en P "DeprecationWarning" 111 (.type "DeprecationWarning"),en P "EncodingWarning" 112 (.type "EncodingWarning"),en P "FutureWarning" 113 (.type "FutureWarning"),en P "ImportWarning" 114 (.type "ImportWarning"),en P "PendingDeprecationWarning" 115 (.type "PendingDeprecationWarning"),en P "ResourceWarning" 116 (.type "ResourceWarning"),en P "RuntimeWarning" 117 (.type "RuntimeWarning"),en P "SyntaxWarning" 118 (.type "SyntaxWarning"),en P "UnicodeWarning" 119 (.type "UnicodeWarning"),en P "UserWarning" 120 (.type "UserWarning"),en P "BlockingIOError" 121 (.type "BlockingIOError"),en P "ChildProcessError" 122 (.type "ChildProcessError"),en P "ConnectionError" 123 (.type "ConnectionError"),en P "FileExistsError" 124 (.type "FileExistsError"),en P "FileNotFoundError" 125 (.type "FileNotFoundError"),en P "InterruptedError" 126 (.type "InterruptedError"),en P "IsADirectoryError" 127 (.type "IsADirectoryError"),en P "NotADirectoryError" 128 (.type "NotADirectoryError"),en P "PermissionError" 129 (.type "PermissionError"),en P "ProcessLookupError" 130 (.type "ProcessLookupError"),en P "TimeoutError" 131 (.type "TimeoutError"),en P "IndentationError" 132 (.type "IndentationError"),en P "_IncompleteInputError" 133 (.type "_IncompleteInputError"),en P "IndexError" 134 (.type "IndexError"),en P "KeyError" 135 (.type "KeyError"),en P "ModuleNotFoundError" 136 (.type "ModuleNotFoundError"),en P "NotImplementedError" 137 (.type "NotImplementedError"),en P "PythonFinalizationError" 138 (.type "PythonFinalizationError"),en P "RecursionError" 139 (.type "RecursionError"),en P "UnboundLocalError" 140 (.type "UnboundLocalError"),en P "UnicodeError" 141 (.type "UnicodeError"),en P "BrokenPipeError" 142 (.type "BrokenPipeError"),en P "ConnectionAbortedError" 143 (.type "ConnectionAbortedError"),en P "ConnectionRefusedError" 144 (.type "ConnectionRefusedError"),en P "ConnectionResetError" 145 (.type "ConnectionResetError"),en P "TabError" 146 (.type "TabError"),en P "UnicodeDecodeError" 147 (.type "UnicodeDecodeError"),en P "UnicodeEncodeError" 148 (.type "UnicodeEncodeError"),en P "UnicodeTranslateError" 149 (.type "UnicodeTranslateError"),en P "ExceptionGroup" 150 (.type "ExceptionGroup"),en P "EnvironmentError" 151 (.type "OSError"),en P "IOError" 152 (.type "OSError"),en P "open" 153 (.builtin "open"),en P "quit" 154 (.builtin "builtins.quit#opaque"),en P "exit" 155 (.builtin "builtins.exit#opaque"),en P "copyright" 156 (.builtin "builtins.copyright#opaque"),en P "credits" 157 (.builtin "builtins.credits#opaque"),en P "license" 158 (.builtin "builtins.license#opaque"),en P "help" 159 (.builtin "builtins.help#opaque")] 159 }
def Yw (P:Params):Obj:={ cls:=.type "dict",data:=Data.dict #[en P "builtins" 162 (.ref 4),en P "__main__" 163 (.ref 5)] 2 }
def Xw (P:Params):Obj:={ cls:=.none,data:=Data.dict #[] }
def ho_4 (P:Params):Obj:={ cls:=.type "dict",data:=Data.dict #[en P "__name__" 165 (.str "__main__" 164),en P "__doc__" 166 .none,en P "__package__" 167 .none,en P "__loader__" 168 (.builtin "__main__.__loader__#opaque"),en P "__spec__" 169 .none,en P "__annotations__" 170 (.ref 6),en P "__builtins__" 171 (.ref 4),en P "__file__" 173 (cp 172),en P "__cached__" 174 .none] 9 }
def Yv (P:Params):Obj:={ cls:=.type "module",dict:=some 0 }
def Yu (P:Params):Obj:={ cls:=.type "module",dict:=some 3 }
def Yt (P:Params):Obj:={ cls:=.type "dict",data:=Data.dict #[] }
def Ys (P:Params):Obj:=(tq #[])
def Yr (P:Params):Obj:={ cls:=.none,data:=Data.fields #[] }
def U7 (P:Params):Obj:=(fc #[.str "<module>" 176,.str "<module>" 177,cp 178,.int 1 0,.int 0 0,.int 0 0,.int 0 0,.int 0 0,.ref 7,.bool false,.int 175 0,.ref 8,.none,.none,.none,.none,.int 179 0,.int 1 0,cp 180])
def U3 (P:Params):Obj:={ cls:=.type "frame",slots:=#[some (.ref 9),some (.ref 3),some (.ref 3),none,some (.str "__main__" 164),none,some (.ref 0)] }
def Uy (P:Params):Obj:={ cls:=.type "dict",data:=Data.dict #[en P "__name__" 165 (.str "law_sluice_k48_whole_days_on_end" 571),en P "__doc__" 166 .none,en P "__package__" 167 .none,en P "__loader__" 168 (.builtin "__main__.__loader__#opaque"),en P "__spec__" 169 .none,en P "__annotations__" 170 (.ref 6),en P "__builtins__" 171 (.ref 4),en P "__file__" 173 (cp 172),en P "__cached__" 174 .none,en P "SluiceError" 206 (.ref 24),en P "NoReach" 222 (.ref 37),en P "TooMuch" 238 (.ref 49),en P "NoPond" 254 (.ref 61),en P "MOUTH" 259 (.int (-1) 258),en P "way_of" 268 (.ref 70),en P "tops_first" 276 (.ref 77),en P "mouths_of" 282 (.ref 82),en P "stretch_of" 292 (.ref 89),en P "natural_of" 304 (.ref 96),en P "flows_of" 318 (.ref 103),en P "reaches_of" 332 (.ref 110),en P "day_filed" 339 (.ref 117),en P "start_of" 346 (.ref 124),en P "gives_back" 353 (.ref 131),en P "most_of" 360 (.ref 138),en P "ranked" 368 (.ref 145),en P "groups_of" 377 (.ref 152),en P "wants_of" 383 (.ref 157),en P "count_ways" 396 (.ref 164),en P "whole_turns" 402 (.ref 169),en P "draw" 412 (.ref 176),en P "take_whole_turns" 418 (.ref 181),en P "take_one_turn" 424 (.ref 186),en P "deal_turns" 436 (.ref 193),en P "deal" 444 (.ref 198),en P "WHOLE" 448 (.int 1000 447),en P "pond_start" 459 (.ref 205),en P "look_at_let" 473 (.ref 212),en P "let_out" 489 (.ref 219),en P "pond_calls" 505 (.ref 226),en P "evening" 523 (.ref 233),en P "morning_of" 538 (.ref 240),en P "moves_of" 558 (.ref 247),en P "used_of" 564 (.ref 252),en P "day_of" 570 (.ref 257),en P "_law_nth" 581 (.ref 264),en P "_law_draws" 592 (.ref 271),en P "_law_river" 598 (.ref 276),en P "_law_way" 608 (.ref 283),en P "_law_amount" 616 (.ref 290),en P "_law_some" 624 (.ref 297),en P "_law_line" 636 (.ref 304),en P "_law_roll" 651 (.ref 311),en P "_law_ponds" 657 (.ref 316),en P "_law_numbers" 663 (.ref 321),en P "_law_right" 669 (.ref 326),en P "_law_day" 675 (.ref 331),en P "_law_lost" 689 (.ref 338),en P "_law_used" 695 (.ref 343),en P "law" 701 (.ref 348)] 60 }
def XR (P:Params):Obj:=(tq #[])
def XQ (P:Params):Obj:={ cls:=.none,data:=Data.fields #[.int 2 0,.int 0 0,.ref 20,.int 4 0,.int 0 0,.ref 33,.int 6 0,.int 0 0,.ref 45,.int 8 0,.int 0 0,.ref 57,.int 12 0,.int 0 0,.ref 69,.int 17 0,.int 0 0,.ref 76,.int 19 0,.int 0 0,.ref 81,.int 21 0,.int 0 0,.ref 88,.int 29 0,.int 0 0,.ref 95,.int 35 0,.int 0 0,.ref 102,.int 42 0,.int 0 0,.ref 109,.int 45 0,.int 0 0,.ref 116,.int 47 0,.int 0 0,.ref 123,.int 49 0,.int 0 0,.ref 130,.int 51 0,.int 0 0,.ref 137,.int 53 0,.int 0 0,.ref 144,.int 55 0,.int 0 0,.ref 151,.int 60 0,.int 0 0,.ref 156,.int 63 0,.int 0 0,.ref 163,.int 69 0,.int 0 0,.ref 168,.int 73 0,.int 0 0,.ref 175,.int 76 0,.int 0 0,.ref 180,.int 82 0,.int 0 0,.ref 185,.int 90 0,.int 0 0,.ref 192,.int 99 0,.int 0 0,.ref 197,.int 111 0,.int 0 0,.ref 204,.int 114 0,.int 0 0,.ref 211,.int 122 0,.int 0 0,.ref 218,.int 129 0,.int 0 0,.ref 225,.int 135 0,.int 0 0,.ref 232,.int 146 0,.int 0 0,.ref 239,.int 149 0,.int 0 0,.ref 246,.int 157 0,.int 0 0,.ref 251,.int 161 0,.int 0 0,.ref 256,.int 170 0,.int 0 0,.ref 263,.int 174 0,.int 0 0,.ref 270,.int 180 0,.int 0 0,.ref 275,.int 198 0,.int 0 0,.ref 282,.int 205 0,.int 0 0,.ref 289,.int 213 0,.int 0 0,.ref 296,.int 219 0,.int 0 0,.ref 303,.int 226 0,.int 0 0,.ref 310,.int 238 0,.int 0 0,.ref 315,.int 245 0,.int 0 0,.ref 320,.int 249 0,.int 0 0,.ref 325,.int 257 0,.int 0 0,.ref 330,.int 275 0,.int 0 0,.ref 337,.int 285 0,.int 0 0,.ref 342,.int 292 0,.int 0 0,.ref 347] }
def XM (P:Params):Obj:=(fc #[.str "<module>" 182,.str "<module>" 183,cp 184,.int 1 0,.int 0 0,.int 0 0,.int 0 0,.int 0 0,.ref 11,.bool false,.int 181 0,.ref 12,.none,.none,.none,.none,.int 185 0,.int 1 0,cp 186])
def XJ (P:Params):Obj:={ cls:=.type "frame",slots:=#[some (.ref 13),some (.ref 3),some (.ref 3),none,some (.str "__main__" 164),none,some (.ref 0)] }
def Ug (P:Params):Obj:=(tq #[.type "ValueError"])
def XH (P:Params):Obj:={ cls:=.type "builtin_function_or_method",data:=Data.fields #[.builtin "type.__prepare__",.type "type"] }
def XF (P:Params):Obj:={ cls:=.type "dict",data:=Data.dict #[en P "__module__" 196 (.str "sluice.errors" 187),en P "__qualname__" 198 (.str "SluiceError" 197),en P "__firstlineno__" 200 (.int 2 199),en P "__static_attributes__" 201 (.ref 22)] 4 }
def XD (P:Params):Obj:=(tq #[])
def XC (P:Params):Obj:={ cls:=.none,data:=Data.fields #[] }
def Xz (P:Params):Obj:=(fc #[.str "SluiceError" 191,.str "SluiceError" 192,cp 193,.int 2 0,.int 0 0,.int 0 0,.int 0 0,.int 0 0,.ref 18,.bool false,.int 181 0,.ref 19,.none,.none,.none,.none,.int 194 0,.int 2 0,cp 195])
def Xy (P:Params):Obj:={ cls:=.type "frame",slots:=#[some (.ref 20),some (.ref 3),some (.ref 17),none,some (.str "sluice.errors" 187),none,some (.ref 0)] }
def Tp (P:Params):Obj:=(tq #[])
def Te (P:Params):Obj:={ cls:=.type "dict",data:=Data.dict #[en P "__module__" 196 (.str "sluice.errors" 187),en P "__firstlineno__" 200 (.int 2 199),en P "__static_attributes__" 201 (.ref 22),en P "__weakref__" 203 (.ref 25),en P "__doc__" 204 .none] 3 }
def S8 (P:Params):Obj:={ cls:=.type "type",data:=Data.cls { name:="SluiceError",bases:=[.type "ValueError"],mro:=[.ref 24,.type "ValueError",.type "Exception",.type "BaseException",.type "object"],ns:=23,qualname:="SluiceError",subclasses:=[.ref 37,.ref 49,.ref 61] },slots:=#[some (.ref 15),none,some (.str "SluiceError" 189),some (.str "SluiceError" 197),some (.builtin "ValueError.__new__"),some (.bool true)] }
def SX (P:Params):Obj:={ cls:=.type "getset_descriptor",data:=Data.fields #[.str "__weakref__" 202,.ref 24,.builtin "ExceptionGroup.__weakref__",.none] }
def Xx (P:Params):Obj:={ cls:=.type "super",data:=Data.fields #[.ref 24,.ref 24,.ref 24] }
def Xv (P:Params):Obj:={ cls:=.type "builtin_function_or_method",data:=Data.fields #[.builtin "object.__init_subclass__",.ref 24] }
def Sq (P:Params):Obj:=(tq #[.ref 24])
def Xu (P:Params):Obj:={ cls:=.type "builtin_function_or_method",data:=Data.fields #[.builtin "type.__prepare__",.type "type"] }
def Xr (P:Params):Obj:={ cls:=.type "dict",data:=Data.dict #[en P "__module__" 214 (.str "sluice.errors" 187),en P "__qualname__" 216 (.str "NoReach" 215),en P "__firstlineno__" 218 (.int 4 217),en P "__static_attributes__" 219 (.ref 35)] 4 }
def Xq (P:Params):Obj:=(tq #[])
def Xp (P:Params):Obj:={ cls:=.none,data:=Data.fields #[] }
def Xo (P:Params):Obj:=(fc #[.str "NoReach" 209,.str "NoReach" 210,cp 211,.int 4 0,.int 0 0,.int 0 0,.int 0 0,.int 0 0,.ref 31,.bool false,.int 181 0,.ref 32,.none,.none,.none,.none,.int 212 0,.int 4 0,cp 213])
def Xn (P:Params):Obj:={ cls:=.type "frame",slots:=#[some (.ref 33),some (.ref 3),some (.ref 30),none,some (.str "sluice.errors" 187),none,some (.ref 0)] }
def RQ (P:Params):Obj:=(tq #[])
def RP (P:Params):Obj:={ cls:=.type "dict",data:=Data.dict #[en P "__module__" 214 (.str "sluice.errors" 187),en P "__firstlineno__" 218 (.int 4 217),en P "__static_attributes__" 219 (.ref 35),en P "__doc__" 220 .none] 2 }
def RN (P:Params):Obj:={ cls:=.type "type",data:=Data.cls { name:="NoReach",bases:=[.ref 24],mro:=[.ref 37,.ref 24,.type "ValueError",.type "Exception",.type "BaseException",.type "object"],ns:=36,qualname:="NoReach" },slots:=#[some (.ref 28),none,some (.str "NoReach" 207),some (.str "NoReach" 215),some (.builtin "ValueError.__new__"),some (.bool true)] }
def Xm (P:Params):Obj:={ cls:=.type "super",data:=Data.fields #[.ref 37,.ref 37,.ref 37] }
def Xl (P:Params):Obj:={ cls:=.type "builtin_function_or_method",data:=Data.fields #[.builtin "object.__init_subclass__",.ref 37] }
def RM (P:Params):Obj:=(tq #[.ref 24])
def Xk (P:Params):Obj:={ cls:=.type "builtin_function_or_method",data:=Data.fields #[.builtin "type.__prepare__",.type "type"] }
def Xj (P:Params):Obj:={ cls:=.type "dict",data:=Data.dict #[en P "__module__" 230 (.str "sluice.errors" 187),en P "__qualname__" 232 (.str "TooMuch" 231),en P "__firstlineno__" 234 (.int 6 233),en P "__static_attributes__" 235 (.ref 47)] 4 }
def Xi (P:Params):Obj:=(tq #[])
def Xh (P:Params):Obj:={ cls:=.none,data:=Data.fields #[] }
def Xg (P:Params):Obj:=(fc #[.str "TooMuch" 225,.str "TooMuch" 226,cp 227,.int 6 0,.int 0 0,.int 0 0,.int 0 0,.int 0 0,.ref 43,.bool false,.int 181 0,.ref 44,.none,.none,.none,.none,.int 228 0,.int 6 0,cp 229])
def Xf (P:Params):Obj:={ cls:=.type "frame",slots:=#[some (.ref 45),some (.ref 3),some (.ref 42),none,some (.str "sluice.errors" 187),none,some (.ref 0)] }
def RL (P:Params):Obj:=(tq #[])
def RK (P:Params):Obj:={ cls:=.type "dict",data:=Data.dict #[en P "__module__" 230 (.str "sluice.errors" 187),en P "__firstlineno__" 234 (.int 6 233),en P "__static_attributes__" 235 (.ref 47),en P "__doc__" 236 .none] 2 }
def RJ (P:Params):Obj:={ cls:=.type "type",data:=Data.cls { name:="TooMuch",bases:=[.ref 24],mro:=[.ref 49,.ref 24,.type "ValueError",.type "Exception",.type "BaseException",.type "object"],ns:=48,qualname:="TooMuch" },slots:=#[some (.ref 40),none,some (.str "TooMuch" 223),some (.str "TooMuch" 231),some (.builtin "ValueError.__new__"),some (.bool true)] }
def Xe (P:Params):Obj:={ cls:=.type "super",data:=Data.fields #[.ref 49,.ref 49,.ref 49] }
def Xd (P:Params):Obj:={ cls:=.type "builtin_function_or_method",data:=Data.fields #[.builtin "object.__init_subclass__",.ref 49] }
def RG (P:Params):Obj:=(tq #[.ref 24])
def Xc (P:Params):Obj:={ cls:=.type "builtin_function_or_method",data:=Data.fields #[.builtin "type.__prepare__",.type "type"] }
def Xb (P:Params):Obj:={ cls:=.type "dict",data:=Data.dict #[en P "__module__" 246 (.str "sluice.errors" 187),en P "__qualname__" 248 (.str "NoPond" 247),en P "__firstlineno__" 250 (.int 8 249),en P "__static_attributes__" 251 (.ref 59)] 4 }
def Xa (P:Params):Obj:=(tq #[])
def W9 (P:Params):Obj:={ cls:=.none,data:=Data.fields #[] }
def W8 (P:Params):Obj:=(fc #[.str "NoPond" 241,.str "NoPond" 242,cp 243,.int 8 0,.int 0 0,.int 0 0,.int 0 0,.int 0 0,.ref 55,.bool false,.int 181 0,.ref 56,.none,.none,.none,.none,.int 244 0,.int 8 0,cp 245])
def W7 (P:Params):Obj:={ cls:=.type "frame",slots:=#[some (.ref 57),some (.ref 3),some (.ref 54),none,some (.str "sluice.errors" 187),none,some (.ref 0)] }
def RD (P:Params):Obj:=(tq #[])
def RB (P:Params):Obj:={ cls:=.type "dict",data:=Data.dict #[en P "__module__" 246 (.str "sluice.errors" 187),en P "__firstlineno__" 250 (.int 8 249),en P "__static_attributes__" 251 (.ref 59),en P "__doc__" 252 .none] 2 }
def Rz (P:Params):Obj:={ cls:=.type "type",data:=Data.cls { name:="NoPond",bases:=[.ref 24],mro:=[.ref 61,.ref 24,.type "ValueError",.type "Exception",.type "BaseException",.type "object"],ns:=60,qualname:="NoPond" },slots:=#[some (.ref 52),none,some (.str "NoPond" 239),some (.str "NoPond" 247),some (.builtin "ValueError.__new__"),some (.bool true)] }
def W6 (P:Params):Obj:={ cls:=.type "super",data:=Data.fields #[.ref 61,.ref 61,.ref 61] }
def W5 (P:Params):Obj:={ cls:=.type "builtin_function_or_method",data:=Data.fields #[.builtin "object.__init_subclass__",.ref 61] }
def Ry (P:Params):Obj:=(tq #[])
def W4 (P:Params):Obj:={ cls:=.none,data:=Data.fields #[] }
def Rx (P:Params):Obj:=(tq #[.str "below" 263,.str "reach" 264,.str "way" 265])
def Rw (P:Params):Obj:=(tq #[])
def W3 (P:Params):Obj:=(pr0 "way_of" 7)
def Ru (P:Params):Obj:=(fc #[.str "way_of" 260,.str "way_of" 261,cp 262,.int 12 0,.int 2 0,.int 0 0,.int 0 0,.int 3 0,.ref 64,.bool true,.int 181 0,.ref 65,.none,.ref 66,.ref 67,.ref 68,.int 266 0,.int 12 0,cp 267])
def Rt (P:Params):Obj:=⟨.type "function",none,.func (PySem.W.fnOf "way_of" "way_of" (aD (top0 7)) (aC (top0 7)) (ao (top0 7)) .none .none .none (.str "sluice.rivers" 255) none (.ref 69) .none),#[]⟩
def Rr (P:Params):Obj:=(tq #[])
def W2 (P:Params):Obj:={ cls:=.none,data:=Data.fields #[] }
def Rq (P:Params):Obj:=(tq #[.str "below" 272])
def Rp (P:Params):Obj:=(tq #[.str "below" 273])
def W0 (P:Params):Obj:=(pr0 "tops_first" 8)
def Ro (P:Params):Obj:=(fc #[.str "tops_first" 269,.str "tops_first" 270,cp 271,.int 17 0,.int 1 0,.int 0 0,.int 0 0,.int 3 0,.ref 71,.bool true,.int 181 0,.ref 72,.none,.ref 73,.ref 74,.ref 75,.int 274 0,.int 17 0,cp 275])
def Rn (P:Params):Obj:=⟨.type "function",none,.func (PySem.W.fnOf "tops_first" "tops_first" (aD (top0 8)) (aC (top0 8)) (ao (top0 8)) .none .none .none (.str "sluice.rivers" 255) none (.ref 76) .none),#[]⟩
def Rm (P:Params):Obj:=(tq #[])
def WY (P:Params):Obj:={ cls:=.none,data:=Data.fields #[] }
def WX (P:Params):Obj:=(pr0 "mouths_of" 9)
def Rj (P:Params):Obj:=(fc #[.str "mouths_of" 277,.str "mouths_of" 278,cp 279,.int 19 0,.int 1 0,.int 0 0,.int 0 0,.int 3 0,.ref 78,.bool true,.int 181 0,.ref 79,.none,.none,.none,.ref 80,.int 280 0,.int 19 0,cp 281])
def Ri (P:Params):Obj:=⟨.type "function",none,.func (PySem.W.fnOf "mouths_of" "mouths_of" (aD (top0 9)) (aC (top0 9)) (ao (top0 9)) .none .none .none (.str "sluice.rivers" 255) none (.ref 81) .none),#[]⟩
def Rh (P:Params):Obj:=(tq #[])
def WW (P:Params):Obj:={ cls:=.none,data:=Data.fields #[] }
def Rg (P:Params):Obj:=(tq #[.str "below" 286,.str "start" 287,.str "stop" 288,.str "way" 289])
def Rf (P:Params):Obj:=(tq #[])
def WR (P:Params):Obj:=(pr0 "stretch_of" 10)
def Rc (P:Params):Obj:=(fc #[.str "stretch_of" 283,.str "stretch_of" 284,cp 285,.int 21 0,.int 3 0,.int 0 0,.int 0 0,.int 3 0,.ref 83,.bool true,.int 181 0,.ref 84,.none,.ref 85,.ref 86,.ref 87,.int 290 0,.int 21 0,cp 291])
def Rb (P:Params):Obj:=⟨.type "function",none,.func (PySem.W.fnOf "stretch_of" "stretch_of" (aD (top0 10)) (aC (top0 10)) (ao (top0 10)) .none .none .none (.str "sluice.rivers" 255) none (.ref 88) .none),#[]⟩
def Ra (P:Params):Obj:=(tq #[])
def WQ (P:Params):Obj:={ cls:=.none,data:=Data.fields #[] }
def Q9 (P:Params):Obj:=(tq #[.str "below" 298,.str "springs" 299,.str "flows" 300,.str "reach" 301])
def Q8 (P:Params):Obj:=(tq #[])
def WM (P:Params):Obj:=(pr0 "natural_of" 12)
def Q7 (P:Params):Obj:=(fc #[.str "natural_of" 295,.str "natural_of" 296,cp 297,.int 29 0,.int 2 0,.int 0 0,.int 0 0,.int 3 0,.ref 90,.bool true,.int 181 0,.ref 91,.none,.ref 92,.ref 93,.ref 94,.int 302 0,.int 29 0,cp 303])
def Q6 (P:Params):Obj:=⟨.type "function",none,.func (PySem.W.fnOf "natural_of" "natural_of" (aD (top0 12)) (aC (top0 12)) (ao (top0 12)) .none .none .none (.str "sluice.flows" 293) none (.ref 95) .none),#[]⟩
def Ms (P:Params):Obj:=(tq #[])
def U6 (P:Params):Obj:={ cls:=.none,data:=Data.fields #[] }
def Mr (P:Params):Obj:=(tq #[.str "below" 308,.str "springs" 309,.str "moves" 310,.str "flows" 311,.str "start" 312,.str "stop" 313,.str "amount" 314,.str "reach" 315])
def Mq (P:Params):Obj:=(tq #[])
def U5 (P:Params):Obj:=(pr0 "flows_of" 13)
def Mp (P:Params):Obj:=(fc #[.str "flows_of" 305,.str "flows_of" 306,cp 307,.int 35 0,.int 3 0,.int 0 0,.int 0 0,.int 3 0,.ref 97,.bool true,.int 181 0,.ref 98,.none,.ref 99,.ref 100,.ref 101,.int 316 0,.int 35 0,cp 317])
def Ml (P:Params):Obj:=⟨.type "function",none,.func (PySem.W.fnOf "flows_of" "flows_of" (aD (top0 13)) (aC (top0 13)) (ao (top0 13)) .none .none .none (.str "sluice.flows" 293) none (.ref 102) .none),#[]⟩
def Mj (P:Params):Obj:=(tq #[])
def U4 (P:Params):Obj:={ cls:=.none,data:=Data.fields #[] }
def Mi (P:Params):Obj:=(tq #[.str "below" 324,.str "one" 325,.str "day" 326,.str "start" 327,.str "back" 328,.str "most" 329])
def Mh (P:Params):Obj:=(tq #[])
def U0 (P:Params):Obj:=(pr0 "reaches_of" 15)
def Mg (P:Params):Obj:=(fc #[.str "reaches_of" 321,.str "reaches_of" 322,cp 323,.int 42 0,.int 2 0,.int 0 0,.int 0 0,.int 3 0,.ref 104,.bool true,.int 181 0,.ref 105,.none,.ref 106,.ref 107,.ref 108,.int 330 0,.int 42 0,cp 331])
def Mf (P:Params):Obj:=⟨.type "function",none,.func (PySem.W.fnOf "reaches_of" "reaches_of" (aD (top0 15)) (aC (top0 15)) (ao (top0 15)) .none .none .none (.str "sluice.licences" 319) none (.ref 109) .none),#[]⟩
def Ma (P:Params):Obj:=(tq #[])
def UW (P:Params):Obj:={ cls:=.none,data:=Data.fields #[] }
def LR (P:Params):Obj:=(tq #[.str "one" 336])
def LQ (P:Params):Obj:=(tq #[])
def UL (P:Params):Obj:=(pr0 "day_filed" 16)
def LK (P:Params):Obj:=(fc #[.str "day_filed" 333,.str "day_filed" 334,cp 335,.int 45 0,.int 1 0,.int 0 0,.int 0 0,.int 3 0,.ref 111,.bool true,.int 181 0,.ref 112,.none,.ref 113,.ref 114,.ref 115,.int 337 0,.int 45 0,cp 338])
def LC (P:Params):Obj:=⟨.type "function",none,.func (PySem.W.fnOf "day_filed" "day_filed" (aD (top0 16)) (aC (top0 16)) (ao (top0 16)) .none .none .none (.str "sluice.licences" 319) none (.ref 116) .none),#[]⟩
def Lz (P:Params):Obj:=(tq #[])
def UJ (P:Params):Obj:={ cls:=.none,data:=Data.fields #[] }
def Ly (P:Params):Obj:=(tq #[.str "one" 343])
def Lx (P:Params):Obj:=(tq #[])
def UG (P:Params):Obj:=(pr0 "start_of" 17)
def Lw (P:Params):Obj:=(fc #[.str "start_of" 340,.str "start_of" 341,cp 342,.int 47 0,.int 1 0,.int 0 0,.int 0 0,.int 3 0,.ref 118,.bool true,.int 181 0,.ref 119,.none,.ref 120,.ref 121,.ref 122,.int 344 0,.int 47 0,cp 345])
def Ls (P:Params):Obj:=⟨.type "function",none,.func (PySem.W.fnOf "start_of" "start_of" (aD (top0 17)) (aC (top0 17)) (ao (top0 17)) .none .none .none (.str "sluice.licences" 319) none (.ref 123) .none),#[]⟩
def Lr (P:Params):Obj:=(tq #[])
def Uz (P:Params):Obj:={ cls:=.none,data:=Data.fields #[] }
def Lq (P:Params):Obj:=(tq #[.str "one" 350])
def Lp (P:Params):Obj:=(tq #[])
def Ux (P:Params):Obj:=(pr0 "gives_back" 18)
def Ln (P:Params):Obj:=(fc #[.str "gives_back" 347,.str "gives_back" 348,cp 349,.int 49 0,.int 1 0,.int 0 0,.int 0 0,.int 3 0,.ref 125,.bool true,.int 181 0,.ref 126,.none,.ref 127,.ref 128,.ref 129,.int 351 0,.int 49 0,cp 352])
def Lk (P:Params):Obj:=⟨.type "function",none,.func (PySem.W.fnOf "gives_back" "gives_back" (aD (top0 18)) (aC (top0 18)) (ao (top0 18)) .none .none .none (.str "sluice.licences" 319) none (.ref 130) .none),#[]⟩
def Lj (P:Params):Obj:=(tq #[])
def Uw (P:Params):Obj:={ cls:=.none,data:=Data.fields #[] }
def Li (P:Params):Obj:=(tq #[.str "one" 357])
def Lh (P:Params):Obj:=(tq #[])
def Uv (P:Params):Obj:=(pr0 "most_of" 19)
def Lg (P:Params):Obj:=(fc #[.str "most_of" 354,.str "most_of" 355,cp 356,.int 51 0,.int 1 0,.int 0 0,.int 0 0,.int 3 0,.ref 132,.bool true,.int 181 0,.ref 133,.none,.ref 134,.ref 135,.ref 136,.int 358 0,.int 51 0,cp 359])
def Lf (P:Params):Obj:=⟨.type "function",none,.func (PySem.W.fnOf "most_of" "most_of" (aD (top0 19)) (aC (top0 19)) (ao (top0 19)) .none .none .none (.str "sluice.licences" 319) none (.ref 137) .none),#[]⟩
def Le (P:Params):Obj:=(tq #[])
def Uu (P:Params):Obj:={ cls:=.none,data:=Data.fields #[] }
def Ld (P:Params):Obj:=(tq #[.str "roll" 364])
def Lb (P:Params):Obj:=(tq #[.str "roll" 365])
def Ut (P:Params):Obj:=(pr0 "ranked" 20)
def La (P:Params):Obj:=(fc #[.str "ranked" 361,.str "ranked" 362,cp 363,.int 53 0,.int 1 0,.int 0 0,.int 0 0,.int 3 0,.ref 139,.bool true,.int 181 0,.ref 140,.none,.ref 141,.ref 142,.ref 143,.int 366 0,.int 53 0,cp 367])
def K9 (P:Params):Obj:=⟨.type "function",none,.func (PySem.W.fnOf "ranked" "ranked" (aD (top0 20)) (aC (top0 20)) (ao (top0 20)) .none .none .none (.str "sluice.licences" 319) none (.ref 144) .none),#[]⟩
def K8 (P:Params):Obj:=(tq #[])
def Us (P:Params):Obj:={ cls:=.none,data:=Data.fields #[] }
def K7 (P:Params):Obj:=(tq #[.str "roll" 372,.str "groups" 373,.str "number" 374])
def K6 (P:Params):Obj:=(tq #[])
def Ur (P:Params):Obj:=(pr0 "groups_of" 21)
def K5 (P:Params):Obj:=(fc #[.str "groups_of" 369,.str "groups_of" 370,cp 371,.int 55 0,.int 1 0,.int 0 0,.int 0 0,.int 3 0,.ref 146,.bool true,.int 181 0,.ref 147,.none,.ref 148,.ref 149,.ref 150,.int 375 0,.int 55 0,cp 376])
def K4 (P:Params):Obj:=⟨.type "function",none,.func (PySem.W.fnOf "groups_of" "groups_of" (aD (top0 21)) (aC (top0 21)) (ao (top0 21)) .none .none .none (.str "sluice.licences" 319) none (.ref 151) .none),#[]⟩
def K1 (P:Params):Obj:=(tq #[])
def Uq (P:Params):Obj:={ cls:=.none,data:=Data.fields #[] }
def Uo (P:Params):Obj:=(pr0 "wants_of" 22)
def KZ (P:Params):Obj:=(fc #[.str "wants_of" 378,.str "wants_of" 379,cp 380,.int 60 0,.int 2 0,.int 0 0,.int 0 0,.int 3 0,.ref 153,.bool true,.int 181 0,.ref 154,.none,.none,.none,.ref 155,.int 381 0,.int 60 0,cp 382])
def KY (P:Params):Obj:=⟨.type "function",none,.func (PySem.W.fnOf "wants_of" "wants_of" (aD (top0 22)) (aC (top0 22)) (ao (top0 22)) .none .none .none (.str "sluice.licences" 319) none (.ref 156) .none),#[]⟩
def KR (P:Params):Obj:=(tq #[])
def Um (P:Params):Obj:={ cls:=.none,data:=Data.fields #[] }
def KQ (P:Params):Obj:=(tq #[.str "free" 389,.str "ways" 390,.str "counts" 391,.str "way" 392,.str "reach" 393])
def KN (P:Params):Obj:=(tq #[])
def Ul (P:Params):Obj:=(pr0 "count_ways" 24)
def KJ (P:Params):Obj:=(fc #[.str "count_ways" 386,.str "count_ways" 387,cp 388,.int 63 0,.int 2 0,.int 0 0,.int 0 0,.int 3 0,.ref 158,.bool true,.int 181 0,.ref 159,.none,.ref 160,.ref 161,.ref 162,.int 394 0,.int 63 0,cp 395])
def KH (P:Params):Obj:=⟨.type "function",none,.func (PySem.W.fnOf "count_ways" "count_ways" (aD (top0 24)) (aC (top0 24)) (ao (top0 24)) .none .none .none (.str "sluice.turns" 384) none (.ref 163) .none),#[]⟩
def KD (P:Params):Obj:=(tq #[])
def Uk (P:Params):Obj:={ cls:=.none,data:=Data.fields #[] }
def Uj (P:Params):Obj:=(pr0 "whole_turns" 25)
def KC (P:Params):Obj:=(fc #[.str "whole_turns" 397,.str "whole_turns" 398,cp 399,.int 69 0,.int 3 0,.int 0 0,.int 0 0,.int 3 0,.ref 165,.bool true,.int 181 0,.ref 166,.none,.none,.none,.ref 167,.int 400 0,.int 69 0,cp 401])
def Kz (P:Params):Obj:=⟨.type "function",none,.func (PySem.W.fnOf "whole_turns" "whole_turns" (aD (top0 25)) (aC (top0 25)) (ao (top0 25)) .none .none .none (.str "sluice.turns" 384) none (.ref 168) .none),#[]⟩
def Ky (P:Params):Obj:=(tq #[])
def Ui (P:Params):Obj:={ cls:=.none,data:=Data.fields #[] }
def Kw (P:Params):Obj:=(tq #[.str "left" 406,.str "way" 407,.str "drops" 408,.str "reach" 409])
def Kv (P:Params):Obj:=(tq #[])
def Uh (P:Params):Obj:=(pr0 "draw" 26)
def Ku (P:Params):Obj:=(fc #[.str "draw" 403,.str "draw" 404,cp 405,.int 73 0,.int 3 0,.int 0 0,.int 0 0,.int 3 0,.ref 170,.bool true,.int 181 0,.ref 171,.none,.ref 172,.ref 173,.ref 174,.int 410 0,.int 73 0,cp 411])
def Ks (P:Params):Obj:=⟨.type "function",none,.func (PySem.W.fnOf "draw" "draw" (aD (top0 26)) (aC (top0 26)) (ao (top0 26)) .none .none .none (.str "sluice.turns" 384) none (.ref 175) .none),#[]⟩
def Kr (P:Params):Obj:=(tq #[])
def Ue (P:Params):Obj:={ cls:=.none,data:=Data.fields #[] }
def Ud (P:Params):Obj:=(pr0 "take_whole_turns" 27)
def Kq (P:Params):Obj:=(fc #[.str "take_whole_turns" 413,.str "take_whole_turns" 414,cp 415,.int 76 0,.int 5 0,.int 0 0,.int 0 0,.int 3 0,.ref 177,.bool true,.int 181 0,.ref 178,.none,.none,.none,.ref 179,.int 416 0,.int 76 0,cp 417])
def Ko (P:Params):Obj:=⟨.type "function",none,.func (PySem.W.fnOf "take_whole_turns" "take_whole_turns" (aD (top0 27)) (aC (top0 27)) (ao (top0 27)) .none .none .none (.str "sluice.turns" 384) none (.ref 180) .none),#[]⟩
def Km (P:Params):Obj:=(tq #[])
def Uc (P:Params):Obj:={ cls:=.none,data:=Data.fields #[] }
def Ub (P:Params):Obj:=(pr0 "take_one_turn" 28)
def Kl (P:Params):Obj:=(fc #[.str "take_one_turn" 419,.str "take_one_turn" 420,cp 421,.int 82 0,.int 5 0,.int 0 0,.int 0 0,.int 3 0,.ref 182,.bool true,.int 181 0,.ref 183,.none,.none,.none,.ref 184,.int 422 0,.int 82 0,cp 423])
def Kh (P:Params):Obj:=⟨.type "function",none,.func (PySem.W.fnOf "take_one_turn" "take_one_turn" (aD (top0 28)) (aC (top0 28)) (ao (top0 28)) .none .none .none (.str "sluice.turns" 384) none (.ref 185) .none),#[]⟩
def Kg (P:Params):Obj:=(tq #[])
def Ua (P:Params):Obj:={ cls:=.none,data:=Data.fields #[] }
def Ke (P:Params):Obj:=(tq #[.str "free" 428,.str "ways" 429,.str "rests" 430,.str "left" 431,.str "takes" 432,.str "going" 433])
def Kd (P:Params):Obj:=(tq #[])
def T9 (P:Params):Obj:=(pr0 "deal_turns" 29)
def Kc (P:Params):Obj:=(fc #[.str "deal_turns" 425,.str "deal_turns" 426,cp 427,.int 90 0,.int 3 0,.int 0 0,.int 0 0,.int 3 0,.ref 187,.bool true,.int 181 0,.ref 188,.none,.ref 189,.ref 190,.ref 191,.int 434 0,.int 90 0,cp 435])
def Ka (P:Params):Obj:=⟨.type "function",none,.func (PySem.W.fnOf "deal_turns" "deal_turns" (aD (top0 29)) (aC (top0 29)) (ao (top0 29)) .none .none .none (.str "sluice.turns" 384) none (.ref 192) .none),#[]⟩
def J9 (P:Params):Obj:=(tq #[])
def T8 (P:Params):Obj:={ cls:=.none,data:=Data.fields #[] }
def T7 (P:Params):Obj:=(pr0 "deal" 31)
def J8 (P:Params):Obj:=(fc #[.str "deal" 439,.str "deal" 440,cp 441,.int 99 0,.int 4 0,.int 0 0,.int 0 0,.int 3 0,.ref 194,.bool true,.int 181 0,.ref 195,.none,.none,.none,.ref 196,.int 442 0,.int 99 0,cp 443])
def J7 (P:Params):Obj:=⟨.type "function",none,.func (PySem.W.fnOf "deal" "deal" (aD (top0 31)) (aC (top0 31)) (ao (top0 31)) .none .none .none (.str "sluice.dealing" 437) none (.ref 197) .none),#[]⟩
def J6 (P:Params):Obj:=(tq #[])
def T6 (P:Params):Obj:={ cls:=.none,data:=Data.fields #[] }
def J5 (P:Params):Obj:=(tq #[.str "roll" 452,.str "pond" 453,.str "number" 454,.str "room" 455,.str "leak" 456])
def J4 (P:Params):Obj:=(tq #[])
def T5 (P:Params):Obj:=(pr0 "pond_start" 34)
def J3 (P:Params):Obj:=(fc #[.str "pond_start" 449,.str "pond_start" 450,cp 451,.int 111 0,.int 2 0,.int 0 0,.int 0 0,.int 3 0,.ref 199,.bool true,.int 181 0,.ref 200,.none,.ref 201,.ref 202,.ref 203,.int 457 0,.int 111 0,cp 458])
def J2 (P:Params):Obj:=⟨.type "function",none,.func (PySem.W.fnOf "pond_start" "pond_start" (aD (top0 34)) (aC (top0 34)) (ao (top0 34)) .none .none .none (.str "sluice.ponds" 445) none (.ref 204) .none),#[]⟩
def J1 (P:Params):Obj:=(tq #[])
def T4 (P:Params):Obj:={ cls:=.none,data:=Data.fields #[] }
def J0 (P:Params):Obj:=(tq #[.str "below" 463,.str "roll" 464,.str "ponds" 465,.str "kept" 466,.str "let" 467,.str "place" 468,.str "reach" 469,.str "amount" 470])
def JZ (P:Params):Obj:=(tq #[])
def T3 (P:Params):Obj:=(pr0 "look_at_let" 35)
def JX (P:Params):Obj:=(fc #[.str "look_at_let" 460,.str "look_at_let" 461,cp 462,.int 114 0,.int 5 0,.int 0 0,.int 0 0,.int 3 0,.ref 206,.bool true,.int 181 0,.ref 207,.none,.ref 208,.ref 209,.ref 210,.int 471 0,.int 114 0,cp 472])
def JW (P:Params):Obj:=⟨.type "function",none,.func (PySem.W.fnOf "look_at_let" "look_at_let" (aD (top0 35)) (aC (top0 35)) (ao (top0 35)) .none .none .none (.str "sluice.ponds" 445) none (.ref 211) .none),#[]⟩
def JV (P:Params):Obj:=(tq #[])
def TY (P:Params):Obj:={ cls:=.none,data:=Data.fields #[] }
def JT (P:Params):Obj:=(tq #[.str "below" 477,.str "roll" 478,.str "ponds" 479,.str "kept" 480,.str "lets" 481,.str "left" 482,.str "let" 483,.str "place" 484,.str "reach" 485,.str "amount" 486])
def JR (P:Params):Obj:=(tq #[])
def TV (P:Params):Obj:=(pr0 "let_out" 36)
def JQ (P:Params):Obj:=(fc #[.str "let_out" 474,.str "let_out" 475,cp 476,.int 122 0,.int 5 0,.int 0 0,.int 0 0,.int 3 0,.ref 213,.bool true,.int 181 0,.ref 214,.none,.ref 215,.ref 216,.ref 217,.int 487 0,.int 122 0,cp 488])
def JN (P:Params):Obj:=⟨.type "function",none,.func (PySem.W.fnOf "let_out" "let_out" (aD (top0 36)) (aC (top0 36)) (ao (top0 36)) .none .none .none (.str "sluice.ponds" 445) none (.ref 218) .none),#[]⟩
def JM (P:Params):Obj:=(tq #[])
def TQ (P:Params):Obj:={ cls:=.none,data:=Data.fields #[] }
def JL (P:Params):Obj:=(tq #[.str "roll" 493,.str "ponds" 494,.str "kept" 495,.str "calls" 496,.str "lessened" 497,.str "pond" 498,.str "keeps" 499,.str "number" 500,.str "room" 501,.str "leak" 502])
def JK (P:Params):Obj:=(tq #[])
def TJ (P:Params):Obj:=(pr0 "pond_calls" 37)
def JH (P:Params):Obj:=(fc #[.str "pond_calls" 490,.str "pond_calls" 491,cp 492,.int 129 0,.int 4 0,.int 0 0,.int 0 0,.int 3 0,.ref 220,.bool true,.int 181 0,.ref 221,.none,.ref 222,.ref 223,.ref 224,.int 503 0,.int 129 0,cp 504])
def JG (P:Params):Obj:=⟨.type "function",none,.func (PySem.W.fnOf "pond_calls" "pond_calls" (aD (top0 37)) (aC (top0 37)) (ao (top0 37)) .none .none .none (.str "sluice.ponds" 445) none (.ref 225) .none),#[]⟩
def JF (P:Params):Obj:=(tq #[])
def TF (P:Params):Obj:={ cls:=.none,data:=Data.fields #[] }
def JD (P:Params):Obj:=(tq #[.str "ponds" 509,.str "kept" 510,.str "takes" 511,.str "after" 512,.str "lost" 513,.str "pond" 514,.str "keeps" 515,.str "number" 516,.str "room" 517,.str "leak" 518,.str "full" 519,.str "loss" 520])
def JC (P:Params):Obj:=(tq #[])
def Tw (P:Params):Obj:=(pr0 "evening" 38)
def JB (P:Params):Obj:=(fc #[.str "evening" 506,.str "evening" 507,cp 508,.int 135 0,.int 3 0,.int 0 0,.int 0 0,.int 3 0,.ref 227,.bool true,.int 181 0,.ref 228,.none,.ref 229,.ref 230,.ref 231,.int 521 0,.int 135 0,cp 522])
def Jz (P:Params):Obj:=⟨.type "function",none,.func (PySem.W.fnOf "evening" "evening" (aD (top0 38)) (aC (top0 38)) (ao (top0 38)) .none .none .none (.str "sluice.ponds" 445) none (.ref 232) .none),#[]⟩
def Jy (P:Params):Obj:=(tq #[])
def Tv (P:Params):Obj:={ cls:=.none,data:=Data.fields #[] }
def Jx (P:Params):Obj:=(tq #[.str "below" 529,.str "roll" 530,.str "ponds" 531,.str "kept" 532,.str "calls" 533,.str "lets" 534,.str "left" 535])
def Jw (P:Params):Obj:=(tq #[])
def Tt (P:Params):Obj:=(pr0 "morning_of" 40)
def Jv (P:Params):Obj:=(fc #[.str "morning_of" 526,.str "morning_of" 527,cp 528,.int 146 0,.int 6 0,.int 0 0,.int 0 0,.int 3 0,.ref 234,.bool true,.int 181 0,.ref 235,.none,.ref 236,.ref 237,.ref 238,.int 536 0,.int 146 0,cp 537])
def Ju (P:Params):Obj:=⟨.type "function",none,.func (PySem.W.fnOf "morning_of" "morning_of" (aD (top0 40)) (aC (top0 40)) (ao (top0 40)) .none .none .none (.str "sluice.days" 524) none (.ref 239) .none),#[]⟩
def Jt (P:Params):Obj:=(tq #[])
def Tr (P:Params):Obj:={ cls:=.none,data:=Data.fields #[] }
def Js (P:Params):Obj:=(tq #[.str "roll" 542,.str "ponds" 543,.str "takes" 544,.str "lets" 545,.str "moves" 546,.str "one" 547,.str "take" 548,.str "day" 549,.str "start" 550,.str "back" 551,.str "most" 552,.str "place" 553,.str "reach" 554,.str "amount" 555])
def Jr (P:Params):Obj:=(tq #[])
def Tq (P:Params):Obj:=(pr0 "moves_of" 41)
def Jq (P:Params):Obj:=(fc #[.str "moves_of" 539,.str "moves_of" 540,cp 541,.int 149 0,.int 4 0,.int 0 0,.int 0 0,.int 3 0,.ref 241,.bool true,.int 181 0,.ref 242,.none,.ref 243,.ref 244,.ref 245,.int 556 0,.int 149 0,cp 557])
def Jp (P:Params):Obj:=⟨.type "function",none,.func (PySem.W.fnOf "moves_of" "moves_of" (aD (top0 41)) (aC (top0 41)) (ao (top0 41)) .none .none .none (.str "sluice.days" 524) none (.ref 246) .none),#[]⟩
def Jo (P:Params):Obj:=(tq #[])
def Tj (P:Params):Obj:={ cls:=.none,data:=Data.fields #[] }
def Ti (P:Params):Obj:=(pr0 "used_of" 42)
def Jm (P:Params):Obj:=(fc #[.str "used_of" 559,.str "used_of" 560,cp 561,.int 157 0,.int 4 0,.int 0 0,.int 0 0,.int 3 0,.ref 248,.bool true,.int 181 0,.ref 249,.none,.none,.none,.ref 250,.int 562 0,.int 157 0,cp 563])
def Jl (P:Params):Obj:=⟨.type "function",none,.func (PySem.W.fnOf "used_of" "used_of" (aD (top0 42)) (aC (top0 42)) (ao (top0 42)) .none .none .none (.str "sluice.days" 524) none (.ref 251) .none),#[]⟩
def Jk (P:Params):Obj:=(tq #[])
def Tg (P:Params):Obj:={ cls:=.none,data:=Data.fields #[] }
def Tf (P:Params):Obj:=(pr0 "day_of" 43)
def Jj (P:Params):Obj:=(fc #[.str "day_of" 565,.str "day_of" 566,cp 567,.int 161 0,.int 7 0,.int 0 0,.int 0 0,.int 3 0,.ref 253,.bool true,.int 181 0,.ref 254,.none,.none,.none,.ref 255,.int 568 0,.int 161 0,cp 569])
def Ji (P:Params):Obj:=⟨.type "function",none,.func (PySem.W.fnOf "day_of" "day_of" (aD (top0 43)) (aC (top0 43)) (ao (top0 43)) .none .none .none (.str "sluice.days" 524) none (.ref 256) .none),#[]⟩
def Jh (P:Params):Obj:=(tq #[])
def Td (P:Params):Obj:={ cls:=.none,data:=Data.fields #[] }
def Jg (P:Params):Obj:=(tq #[.str "script" 576,.str "k" 577,.str "cell" 578])
def Jf (P:Params):Obj:=(tq #[])
def Tc (P:Params):Obj:=(pr0 "_law_nth" 45)
def Je (P:Params):Obj:=(fc #[.str "_law_nth" 573,.str "_law_nth" 574,cp 575,.int 170 0,.int 2 0,.int 0 0,.int 0 0,.int 3 0,.ref 258,.bool true,.int 181 0,.ref 259,.none,.ref 260,.ref 261,.ref 262,.int 579 0,.int 170 0,cp 580])
def Jd (P:Params):Obj:=⟨.type "function",none,.func (PySem.W.fnOf "_law_nth" "_law_nth" (aD (top0 45)) (aC (top0 45)) (ao (top0 45)) .none .none .none (.str "law_sluice_k48_whole_days_on_end" 571) none (.ref 263) .none),#[]⟩
def Jc (P:Params):Obj:=(tq #[])
def S9 (P:Params):Obj:={ cls:=.none,data:=Data.fields #[] }
def Jb (P:Params):Obj:=(tq #[.str "cell" 585,.str "many" 586,.str "drawn" 587,.str "k" 588,.str "base" 589])
def Ja (P:Params):Obj:=(tq #[])
def S7 (P:Params):Obj:=(pr0 "_law_draws" 46)
def IW (P:Params):Obj:=(fc #[.str "_law_draws" 582,.str "_law_draws" 583,cp 584,.int 174 0,.int 2 0,.int 0 0,.int 0 0,.int 3 0,.ref 265,.bool true,.int 181 0,.ref 266,.none,.ref 267,.ref 268,.ref 269,.int 590 0,.int 174 0,cp 591])
def IV (P:Params):Obj:=⟨.type "function",none,.func (PySem.W.fnOf "_law_draws" "_law_draws" (aD (top0 46)) (aC (top0 46)) (ao (top0 46)) .none .none .none (.str "law_sluice_k48_whole_days_on_end" 571) none (.ref 270) .none),#[]⟩
def IK (P:Params):Obj:=(tq #[])
def S6 (P:Params):Obj:={ cls:=.none,data:=Data.fields #[] }
def S5 (P:Params):Obj:=(pr0 "_law_river" 47)
def Iz (P:Params):Obj:=(fc #[.str "_law_river" 593,.str "_law_river" 594,cp 595,.int 180 0,.int 1 0,.int 0 0,.int 0 0,.int 3 0,.ref 272,.bool true,.int 181 0,.ref 273,.none,.none,.none,.ref 274,.int 596 0,.int 180 0,cp 597])
def Iw (P:Params):Obj:=⟨.type "function",none,.func (PySem.W.fnOf "_law_river" "_law_river" (aD (top0 47)) (aC (top0 47)) (ao (top0 47)) .none .none .none (.str "law_sluice_k48_whole_days_on_end" 571) none (.ref 275) .none),#[]⟩
def Iu (P:Params):Obj:=(tq #[])
def SQ (P:Params):Obj:={ cls:=.none,data:=Data.fields #[] }
def Ir (P:Params):Obj:=(tq #[.str "below" 602,.str "start" 603,.str "way" 604,.str "at" 605])
def Ip (P:Params):Obj:=(tq #[])
def SN (P:Params):Obj:=(pr0 "_law_way" 48)
def Io (P:Params):Obj:=(fc #[.str "_law_way" 599,.str "_law_way" 600,cp 601,.int 198 0,.int 2 0,.int 0 0,.int 0 0,.int 3 0,.ref 277,.bool true,.int 181 0,.ref 278,.none,.ref 279,.ref 280,.ref 281,.int 606 0,.int 198 0,cp 607])
def Im (P:Params):Obj:=⟨.type "function",none,.func (PySem.W.fnOf "_law_way" "_law_way" (aD (top0 48)) (aC (top0 48)) (ao (top0 48)) .none .none .none (.str "law_sluice_k48_whole_days_on_end" 571) none (.ref 282) .none),#[]⟩
def Il (P:Params):Obj:=(tq #[])
def SM (P:Params):Obj:={ cls:=.none,data:=Data.fields #[] }
def Ik (P:Params):Obj:=(tq #[.str "number" 612,.str "kind" 613])
def Ij (P:Params):Obj:=(tq #[])
def SJ (P:Params):Obj:=(pr0 "_law_amount" 49)
def Ii (P:Params):Obj:=(fc #[.str "_law_amount" 609,.str "_law_amount" 610,cp 611,.int 205 0,.int 2 0,.int 0 0,.int 0 0,.int 3 0,.ref 284,.bool true,.int 181 0,.ref 285,.none,.ref 286,.ref 287,.ref 288,.int 614 0,.int 205 0,cp 615])
def Ih (P:Params):Obj:=⟨.type "function",none,.func (PySem.W.fnOf "_law_amount" "_law_amount" (aD (top0 49)) (aC (top0 49)) (ao (top0 49)) .none .none .none (.str "law_sluice_k48_whole_days_on_end" 571) none (.ref 289) .none),#[]⟩
def Ig (P:Params):Obj:=(tq #[])
def Sy (P:Params):Obj:={ cls:=.none,data:=Data.fields #[] }
def Ie (P:Params):Obj:=(tq #[.str "number" 620,.str "most" 621])
def Ib (P:Params):Obj:=(tq #[])
def Sx (P:Params):Obj:=(pr0 "_law_some" 50)
def Ia (P:Params):Obj:=(fc #[.str "_law_some" 617,.str "_law_some" 618,cp 619,.int 213 0,.int 2 0,.int 0 0,.int 0 0,.int 3 0,.ref 291,.bool true,.int 181 0,.ref 292,.none,.ref 293,.ref 294,.ref 295,.int 622 0,.int 213 0,cp 623])
def HY (P:Params):Obj:=⟨.type "function",none,.func (PySem.W.fnOf "_law_some" "_law_some" (aD (top0 50)) (aC (top0 50)) (ao (top0 50)) .none .none .none (.str "law_sluice_k48_whole_days_on_end" 571) none (.ref 296) .none),#[]⟩
def HX (P:Params):Obj:=(tq #[])
def Sw (P:Params):Obj:={ cls:=.none,data:=Data.fields #[] }
def HW (P:Params):Obj:=(tq #[.str "xs" 628,.str "below" 629,.str "kind" 630,.str "start" 631,.str "way" 632,.str "back" 633])
def HS (P:Params):Obj:=(tq #[])
def Sv (P:Params):Obj:=(pr0 "_law_line" 51)
def HN (P:Params):Obj:=(fc #[.str "_law_line" 625,.str "_law_line" 626,cp 627,.int 219 0,.int 3 0,.int 0 0,.int 0 0,.int 3 0,.ref 298,.bool true,.int 181 0,.ref 299,.none,.ref 300,.ref 301,.ref 302,.int 634 0,.int 219 0,cp 635])
def HJ (P:Params):Obj:=⟨.type "function",none,.func (PySem.W.fnOf "_law_line" "_law_line" (aD (top0 51)) (aC (top0 51)) (ao (top0 51)) .none .none .none (.str "law_sluice_k48_whole_days_on_end" 571) none (.ref 303) .none),#[]⟩
def HF (P:Params):Obj:=(tq #[])
def Ss (P:Params):Obj:={ cls:=.none,data:=Data.fields #[] }
def HD (P:Params):Obj:=(tq #[.str "cell" 640,.str "cells" 641,.str "below" 642,.str "kind" 643,.str "many" 644,.str "roll" 645,.str "k" 646,.str "one" 647,.str "xs" 648])
def HB (P:Params):Obj:=(tq #[])
def Sg (P:Params):Obj:=(pr0 "_law_roll" 52)
def Hz (P:Params):Obj:=(fc #[.str "_law_roll" 637,.str "_law_roll" 638,cp 639,.int 226 0,.int 4 0,.int 0 0,.int 0 0,.int 3 0,.ref 305,.bool true,.int 181 0,.ref 306,.none,.ref 307,.ref 308,.ref 309,.int 649 0,.int 226 0,cp 650])
def Hy (P:Params):Obj:=⟨.type "function",none,.func (PySem.W.fnOf "_law_roll" "_law_roll" (aD (top0 52)) (aC (top0 52)) (ao (top0 52)) .none .none .none (.str "law_sluice_k48_whole_days_on_end" 571) none (.ref 310) .none),#[]⟩
def Hx (P:Params):Obj:=(tq #[])
def Sd (P:Params):Obj:={ cls:=.none,data:=Data.fields #[] }
def R9 (P:Params):Obj:=(pr0 "_law_ponds" 53)
def Hw (P:Params):Obj:=(fc #[.str "_law_ponds" 652,.str "_law_ponds" 653,cp 654,.int 238 0,.int 3 0,.int 0 0,.int 0 0,.int 3 0,.ref 312,.bool true,.int 181 0,.ref 313,.none,.none,.none,.ref 314,.int 655 0,.int 238 0,cp 656])
def Hv (P:Params):Obj:=⟨.type "function",none,.func (PySem.W.fnOf "_law_ponds" "_law_ponds" (aD (top0 53)) (aC (top0 53)) (ao (top0 53)) .none .none .none (.str "law_sluice_k48_whole_days_on_end" 571) none (.ref 315) .none),#[]⟩
def Hu (P:Params):Obj:=(tq #[])
def R8 (P:Params):Obj:={ cls:=.none,data:=Data.fields #[] }
def R7 (P:Params):Obj:=(pr0 "_law_numbers" 54)
def Ht (P:Params):Obj:=(fc #[.str "_law_numbers" 658,.str "_law_numbers" 659,cp 660,.int 245 0,.int 2 0,.int 0 0,.int 0 0,.int 3 0,.ref 317,.bool true,.int 181 0,.ref 318,.none,.none,.none,.ref 319,.int 661 0,.int 245 0,cp 662])
def Hs (P:Params):Obj:=⟨.type "function",none,.func (PySem.W.fnOf "_law_numbers" "_law_numbers" (aD (top0 54)) (aC (top0 54)) (ao (top0 54)) .none .none .none (.str "law_sluice_k48_whole_days_on_end" 571) none (.ref 320) .none),#[]⟩
def Hr (P:Params):Obj:=(tq #[])
def R6 (P:Params):Obj:={ cls:=.none,data:=Data.fields #[] }
def R5 (P:Params):Obj:=(pr0 "_law_right" 55)
def Hq (P:Params):Obj:=(fc #[.str "_law_right" 664,.str "_law_right" 665,cp 666,.int 249 0,.int 4 0,.int 0 0,.int 0 0,.int 3 0,.ref 322,.bool true,.int 181 0,.ref 323,.none,.none,.none,.ref 324,.int 667 0,.int 249 0,cp 668])
def Ho (P:Params):Obj:=⟨.type "function",none,.func (PySem.W.fnOf "_law_right" "_law_right" (aD (top0 55)) (aC (top0 55)) (ao (top0 55)) .none .none .none (.str "law_sluice_k48_whole_days_on_end" 571) none (.ref 325) .none),#[]⟩
def Hl (P:Params):Obj:=(tq #[])
def R4 (P:Params):Obj:={ cls:=.none,data:=Data.fields #[] }
def R3 (P:Params):Obj:=(pr0 "_law_day" 56)
def Hj (P:Params):Obj:=(fc #[.str "_law_day" 670,.str "_law_day" 671,cp 672,.int 257 0,.int 7 0,.int 0 0,.int 0 0,.int 3 0,.ref 327,.bool true,.int 181 0,.ref 328,.none,.none,.none,.ref 329,.int 673 0,.int 257 0,cp 674])
def Hi (P:Params):Obj:=⟨.type "function",none,.func (PySem.W.fnOf "_law_day" "_law_day" (aD (top0 56)) (aC (top0 56)) (ao (top0 56)) .none .none .none (.str "law_sluice_k48_whole_days_on_end" 571) none (.ref 330) .none),#[]⟩
def Hh (P:Params):Obj:=(tq #[])
def R0 (P:Params):Obj:={ cls:=.none,data:=Data.fields #[] }
def Hg (P:Params):Obj:=(tq #[.str "told" 679,.str "ponds" 680,.str "left" 681,.str "lost" 682,.str "k" 683,.str "take" 684,.str "gone" 685,.str "rest" 686])
def Hf (P:Params):Obj:=(tq #[])
def RZ (P:Params):Obj:=(pr0 "_law_lost" 57)
def G9 (P:Params):Obj:=(fc #[.str "_law_lost" 676,.str "_law_lost" 677,cp 678,.int 275 0,.int 3 0,.int 0 0,.int 0 0,.int 3 0,.ref 332,.bool true,.int 181 0,.ref 333,.none,.ref 334,.ref 335,.ref 336,.int 687 0,.int 275 0,cp 688])
def G8 (P:Params):Obj:=⟨.type "function",none,.func (PySem.W.fnOf "_law_lost" "_law_lost" (aD (top0 57)) (aC (top0 57)) (ao (top0 57)) .none .none .none (.str "law_sluice_k48_whole_days_on_end" 571) none (.ref 337) .none),#[]⟩
def G7 (P:Params):Obj:=(tq #[])
def RX (P:Params):Obj:={ cls:=.none,data:=Data.fields #[] }
def RW (P:Params):Obj:=(pr0 "_law_used" 58)
def G6 (P:Params):Obj:=(fc #[.str "_law_used" 690,.str "_law_used" 691,cp 692,.int 285 0,.int 4 0,.int 0 0,.int 0 0,.int 3 0,.ref 339,.bool true,.int 181 0,.ref 340,.none,.none,.none,.ref 341,.int 693 0,.int 285 0,cp 694])
def G5 (P:Params):Obj:=⟨.type "function",none,.func (PySem.W.fnOf "_law_used" "_law_used" (aD (top0 58)) (aC (top0 58)) (ao (top0 58)) .none .none .none (.str "law_sluice_k48_whole_days_on_end" 571) none (.ref 342) .none),#[]⟩
def G4 (P:Params):Obj:=(tq #[])
def RV (P:Params):Obj:={ cls:=.none,data:=Data.fields #[] }
def RT (P:Params):Obj:=(pr0 "law" 59)
def G3 (P:Params):Obj:=(fc #[.str "law" 696,.str "law" 697,cp 698,.int 292 0,.int 1 0,.int 0 0,.int 0 0,.int 3 0,.ref 344,.bool true,.int 181 0,.ref 345,.none,.none,.none,.ref 346,.int 699 0,.int 292 0,cp 700])
def GZ (P:Params):Obj:=⟨.type "function",none,.func (PySem.W.fnOf "law" "law" (aD (top0 59)) (aC (top0 59)) (ao (top0 59)) .none .none .none (.str "law_sluice_k48_whole_days_on_end" 571) none (.ref 347) .none),#[]⟩
def H0:Params→Heap:=fun P=>{ objs:=⟨Yx P :: Yw P :: Xw P :: ho_4 P :: Yv P :: Yu P :: Yt P :: Ys P :: Yr P :: U7 P :: U3 P :: []⟩ }
def H1:Params→Heap:=fun P=>{ objs:=⟨Yx P :: Yw P :: Xw P :: Uy P :: Yv P :: Yu P :: Yt P :: Ys P :: Yr P :: U7 P :: U3 P :: XR P :: XQ P :: XM P :: XJ P :: Ug P :: XH P :: XF P :: XD P :: XC P :: Xz P :: Xy P :: Tp P :: Te P :: S8 P :: SX P :: Xx P :: Xv P :: Sq P :: Xu P :: Xr P :: Xq P :: Xp P :: Xo P :: Xn P :: RQ P :: RP P :: RN P :: Xm P :: Xl P :: RM P :: Xk P :: Xj P :: Xi P :: Xh P :: Xg P :: Xf P :: RL P :: RK P :: RJ P :: Xe P :: Xd P :: RG P :: Xc P :: Xb P :: Xa P :: W9 P :: W8 P :: W7 P :: RD P :: RB P :: Rz P :: W6 P :: W5 P :: Ry P :: W4 P :: Rx P :: Rw P :: W3 P :: Ru P :: Rt P :: Rr P :: W2 P :: Rq P :: Rp P :: W0 P :: Ro P :: Rn P :: Rm P :: WY P :: WX P :: Rj P :: Ri P :: Rh P :: WW P :: Rg P :: Rf P :: WR P :: Rc P :: Rb P :: Ra P :: WQ P :: Q9 P :: Q8 P :: WM P :: Q7 P :: Q6 P :: Ms P :: U6 P :: Mr P :: Mq P :: U5 P :: Mp P :: Ml P :: Mj P :: U4 P :: Mi P :: Mh P :: U0 P :: Mg P :: Mf P :: Ma P :: UW P :: LR P :: LQ P :: UL P :: LK P :: LC P :: Lz P :: UJ P :: Ly P :: Lx P :: UG P :: Lw P :: Ls P :: Lr P :: Uz P :: Lq P :: Lp P :: Ux P :: Ln P :: Lk P :: Lj P :: Uw P :: Li P :: Lh P :: Uv P :: Lg P :: Lf P :: Le P :: Uu P :: Ld P :: Lb P :: Ut P :: La P :: K9 P :: K8 P :: Us P :: K7 P :: K6 P :: Ur P :: K5 P :: K4 P :: K1 P :: Uq P :: Uo P :: KZ P :: KY P :: KR P :: Um P :: KQ P :: KN P :: Ul P :: KJ P :: KH P :: KD P :: Uk P :: Uj P :: KC P :: Kz P :: Ky P :: Ui P :: Kw P :: Kv P :: Uh P :: Ku P :: Ks P :: Kr P :: Ue P :: Ud P :: Kq P :: Ko P :: Km P :: Uc P :: Ub P :: Kl P :: Kh P :: Kg P :: Ua P :: Ke P :: Kd P :: T9 P :: Kc P :: Ka P :: J9 P :: T8 P :: T7 P :: J8 P :: J7 P :: J6 P :: T6 P :: J5 P :: J4 P :: T5 P :: J3 P :: J2 P :: J1 P :: T4 P :: J0 P :: JZ P :: T3 P :: JX P :: JW P :: JV P :: TY P :: JT P :: JR P :: TV P :: JQ P :: JN P :: JM P :: TQ P :: JL P :: JK P :: TJ P :: JH P :: JG P :: JF P :: TF P :: JD P :: JC P :: Tw P :: JB P :: Jz P :: Jy P :: Tv P :: Jx P :: Jw P :: Tt P :: Jv P :: Ju P :: Jt P :: Tr P :: Js P :: Jr P :: Tq P :: Jq P :: Jp P :: Jo P :: Tj P :: Ti P :: Jm P :: Jl P :: Jk P :: Tg P :: Tf P :: Jj P :: Ji P :: Jh P :: Td P :: Jg P :: Jf P :: Tc P :: Je P :: Jd P :: Jc P :: S9 P :: Jb P :: Ja P :: S7 P :: IW P :: IV P :: IK P :: S6 P :: S5 P :: Iz P :: Iw P :: Iu P :: SQ P :: Ir P :: Ip P :: SN P :: Io P :: Im P :: Il P :: SM P :: Ik P :: Ij P :: SJ P :: Ii P :: Ih P :: Ig P :: Sy P :: Ie P :: Ib P :: Sx P :: Ia P :: HY P :: HX P :: Sw P :: HW P :: HS P :: Sv P :: HN P :: HJ P :: HF P :: Ss P :: HD P :: HB P :: Sg P :: Hz P :: Hy P :: Hx P :: Sd P :: R9 P :: Hw P :: Hv P :: Hu P :: R8 P :: R7 P :: Ht P :: Hs P :: Hr P :: R6 P :: R5 P :: Hq P :: Ho P :: Hl P :: R4 P :: R3 P :: Hj P :: Hi P :: Hh P :: R0 P :: Hg P :: Hf P :: RZ P :: G9 P :: G8 P :: G7 P :: RX P :: RW P :: G6 P :: G5 P :: G4 P :: RV P :: RT P :: G3 P :: GZ P :: []⟩ }
def Kf:Params→PySem.W.Frag:=fun P=>(nat_lit 2,Xw P) ::
 (nat_lit 3,Uy P) ::
 (nat_lit 15,Ug P) ::
 (nat_lit 22,Tp P) ::
 (nat_lit 23,Te P) ::
 (nat_lit 24,S8 P) ::
 (nat_lit 25,SX P) ::
 (nat_lit 28,Sq P) ::
 (nat_lit 35,RQ P) ::
 (nat_lit 36,RP P) ::
 (nat_lit 37,RN P) ::
 (nat_lit 40,RM P) ::
 (nat_lit 47,RL P) ::
 (nat_lit 48,RK P) ::
 (nat_lit 49,RJ P) ::
 (nat_lit 52,RG P) ::
 (nat_lit 59,RD P) ::
 (nat_lit 60,RB P) ::
 (nat_lit 61,Rz P) ::
 (nat_lit 64,Ry P) ::
 (nat_lit 66,Rx P) ::
 (nat_lit 67,Rw P) ::
 (nat_lit 69,Ru P) ::
 (nat_lit 70,Rt P) ::
 (nat_lit 71,Rr P) ::
 (nat_lit 73,Rq P) ::
 (nat_lit 74,Rp P) ::
 (nat_lit 76,Ro P) ::
 (nat_lit 77,Rn P) ::
 (nat_lit 78,Rm P) ::
 (nat_lit 81,Rj P) ::
 (nat_lit 82,Ri P) ::
 (nat_lit 83,Rh P) ::
 (nat_lit 85,Rg P) ::
 (nat_lit 86,Rf P) ::
 (nat_lit 88,Rc P) ::
 (nat_lit 89,Rb P) ::
 (nat_lit 90,Ra P) ::
 (nat_lit 92,Q9 P) ::
 (nat_lit 93,Q8 P) ::
 (nat_lit 95,Q7 P) ::
 (nat_lit 96,Q6 P) ::
 (nat_lit 97,Ms P) ::
 (nat_lit 99,Mr P) ::
 (nat_lit 100,Mq P) ::
 (nat_lit 102,Mp P) ::
 (nat_lit 103,Ml P) ::
 (nat_lit 104,Mj P) ::
 (nat_lit 106,Mi P) ::
 (nat_lit 107,Mh P) ::
 (nat_lit 109,Mg P) ::
 (nat_lit 110,Mf P) ::
 (nat_lit 111,Ma P) ::
 (nat_lit 113,LR P) ::
 (nat_lit 114,LQ P) ::
 (nat_lit 116,LK P) ::
 (nat_lit 117,LC P) ::
 (nat_lit 118,Lz P) ::
 (nat_lit 120,Ly P) ::
 (nat_lit 121,Lx P) ::
 (nat_lit 123,Lw P) ::
 (nat_lit 124,Ls P) ::
 (nat_lit 125,Lr P) ::
 (nat_lit 127,Lq P) ::
 (nat_lit 128,Lp P) ::
 (nat_lit 130,Ln P) ::
 (nat_lit 131,Lk P) ::
 (nat_lit 132,Lj P) ::
 (nat_lit 134,Li P) ::
 (nat_lit 135,Lh P) ::
 (nat_lit 137,Lg P) ::
 (nat_lit 138,Lf P) ::
 (nat_lit 139,Le P) ::
 (nat_lit 141,Ld P) ::
 (nat_lit 142,Lb P) ::
 (nat_lit 144,La P) ::
 (nat_lit 145,K9 P) ::
 (nat_lit 146,K8 P) ::
 (nat_lit 148,K7 P) ::
 (nat_lit 149,K6 P) ::
 (nat_lit 151,K5 P) ::
 (nat_lit 152,K4 P) ::
 (nat_lit 153,K1 P) ::
 (nat_lit 156,KZ P) ::
 (nat_lit 157,KY P) ::
 (nat_lit 158,KR P) ::
 (nat_lit 160,KQ P) ::
 (nat_lit 161,KN P) ::
 (nat_lit 163,KJ P) ::
 (nat_lit 164,KH P) ::
 (nat_lit 165,KD P) ::
 (nat_lit 168,KC P) ::
 (nat_lit 169,Kz P) ::
 (nat_lit 170,Ky P) ::
 (nat_lit 172,Kw P) ::
 (nat_lit 173,Kv P) ::
 (nat_lit 175,Ku P) ::
 (nat_lit 176,Ks P) ::
 (nat_lit 177,Kr P) ::
 (nat_lit 180,Kq P) ::
 (nat_lit 181,Ko P) ::
 (nat_lit 182,Km P) ::
 (nat_lit 185,Kl P) ::
 (nat_lit 186,Kh P) ::
 (nat_lit 187,Kg P) ::
 (nat_lit 189,Ke P) ::
 (nat_lit 190,Kd P) ::
 (nat_lit 192,Kc P) ::
 (nat_lit 193,Ka P) ::
 (nat_lit 194,J9 P) ::
 (nat_lit 197,J8 P) ::
 (nat_lit 198,J7 P) ::
 (nat_lit 199,J6 P) ::
 (nat_lit 201,J5 P) ::
 (nat_lit 202,J4 P) ::
 (nat_lit 204,J3 P) ::
 (nat_lit 205,J2 P) ::
 (nat_lit 206,J1 P) ::
 (nat_lit 208,J0 P) ::
 (nat_lit 209,JZ P) ::
 (nat_lit 211,JX P) ::
 (nat_lit 212,JW P) ::
 (nat_lit 213,JV P) ::
 (nat_lit 215,JT P) ::
 (nat_lit 216,JR P) ::
 (nat_lit 218,JQ P) ::
 (nat_lit 219,JN P) ::
 (nat_lit 220,JM P) ::
 (nat_lit 222,JL P) ::
 (nat_lit 223,JK P) ::
 (nat_lit 225,JH P) ::
 (nat_lit 226,JG P) ::
 (nat_lit 227,JF P) ::
 (nat_lit 229,JD P) ::
 (nat_lit 230,JC P) ::
 (nat_lit 232,JB P) ::
 (nat_lit 233,Jz P) ::
 (nat_lit 234,Jy P) ::
 (nat_lit 236,Jx P) ::
 (nat_lit 237,Jw P) ::
 (nat_lit 239,Jv P) ::
 (nat_lit 240,Ju P) ::
 (nat_lit 241,Jt P) ::
 (nat_lit 243,Js P) ::
 (nat_lit 244,Jr P) ::
 (nat_lit 246,Jq P) ::
 (nat_lit 247,Jp P) ::
 (nat_lit 248,Jo P) ::
 (nat_lit 251,Jm P) ::
 (nat_lit 252,Jl P) ::
 (nat_lit 253,Jk P) ::
 (nat_lit 256,Jj P) ::
 (nat_lit 257,Ji P) ::
 (nat_lit 258,Jh P) ::
 (nat_lit 260,Jg P) ::
 (nat_lit 261,Jf P) ::
 (nat_lit 263,Je P) ::
 (nat_lit 264,Jd P) ::
 (nat_lit 265,Jc P) ::
 (nat_lit 267,Jb P) ::
 (nat_lit 268,Ja P) ::
 (nat_lit 270,IW P) ::
 (nat_lit 271,IV P) ::
 (nat_lit 272,IK P) ::
 (nat_lit 275,Iz P) ::
 (nat_lit 276,Iw P) ::
 (nat_lit 277,Iu P) ::
 (nat_lit 279,Ir P) ::
 (nat_lit 280,Ip P) ::
 (nat_lit 282,Io P) ::
 (nat_lit 283,Im P) ::
 (nat_lit 284,Il P) ::
 (nat_lit 286,Ik P) ::
 (nat_lit 287,Ij P) ::
 (nat_lit 289,Ii P) ::
 (nat_lit 290,Ih P) ::
 (nat_lit 291,Ig P) ::
 (nat_lit 293,Ie P) ::
 (nat_lit 294,Ib P) ::
 (nat_lit 296,Ia P) ::
 (nat_lit 297,HY P) ::
 (nat_lit 298,HX P) ::
 (nat_lit 300,HW P) ::
 (nat_lit 301,HS P) ::
 (nat_lit 303,HN P) ::
 (nat_lit 304,HJ P) ::
 (nat_lit 305,HF P) ::
 (nat_lit 307,HD P) ::
 (nat_lit 308,HB P) ::
 (nat_lit 310,Hz P) ::
 (nat_lit 311,Hy P) ::
 (nat_lit 312,Hx P) ::
 (nat_lit 315,Hw P) ::
 (nat_lit 316,Hv P) ::
 (nat_lit 317,Hu P) ::
 (nat_lit 320,Ht P) ::
 (nat_lit 321,Hs P) ::
 (nat_lit 322,Hr P) ::
 (nat_lit 325,Hq P) ::
 (nat_lit 326,Ho P) ::
 (nat_lit 327,Hl P) ::
 (nat_lit 330,Hj P) ::
 (nat_lit 331,Hi P) ::
 (nat_lit 332,Hh P) ::
 (nat_lit 334,Hg P) ::
 (nat_lit 335,Hf P) ::
 (nat_lit 337,G9 P) ::
 (nat_lit 338,G8 P) ::
 (nat_lit 339,G7 P) ::
 (nat_lit 342,G6 P) ::
 (nat_lit 343,G5 P) ::
 (nat_lit 344,G4 P) ::
 (nat_lit 347,G3 P) ::
 (nat_lit 348,GZ P) :: []
def asK:List Addr:=[2,3,15,22,23,24,25,28,35,36,37,40,47,48,49,52,59,60,61,64,66,67,69,70,71,73,74,76,77,78,81,82,83,85,86,88,89,90,92,93,95,96,97,99,100,102,103,104,106,107,109,110,111,113,114,116,117,118,120,121,123,124,125,127,128,130,131,132,134,135,137,138,139,141,142,144,145,146,148,149,151,152,153,156,157,158,160,161,163,164,165,168,169,170,172,173,175,176,177,180,181,182,185,186,187,189,190,192,193,194,197,198,199,201,202,204,205,206,208,209,211,212,213,215,216,218,219,220,222,223,225,226,227,229,230,232,233,234,236,237,239,240,241,243,244,246,247,248,251,252,253,256,257,258,260,261,263,264,265,267,268,270,271,272,275,276,277,279,280,282,283,284,286,287,289,290,291,293,294,296,297,298,300,301,303,304,305,307,308,310,311,312,315,316,317,320,321,322,325,326,327,330,331,332,334,335,337,338,339,342,343,344,347,348]
def tsK:List Addr:=[140,72]
theorem hkE:∀ P,asK=(Kf P).map (·.1):=fun _=>by kernel_rfl
def qv:Program:={ PySem.Challenge.pw_sluice_k48_whole_days_on_end with main:={ PySem.Challenge.pw_sluice_k48_whole_days_on_end.main with body:=[top0 59] } }
def yd:List Str:=("SluiceError":Str) :: ("NoReach":Str) :: ("TooMuch":Str) :: ("NoPond":Str) :: ("MOUTH":Str) :: ("way_of":Str) :: ("tops_first":Str) :: ("mouths_of":Str) :: ("stretch_of":Str) :: ("natural_of":Str) :: ("flows_of":Str) :: ("reaches_of":Str) :: ("day_filed":Str) :: ("start_of":Str) :: ("gives_back":Str) :: ("most_of":Str) :: ("ranked":Str) :: ("groups_of":Str) :: ("wants_of":Str) :: ("count_ways":Str) :: ("whole_turns":Str) :: ("draw":Str) :: ("take_whole_turns":Str) :: ("take_one_turn":Str) :: ("deal_turns":Str) :: ("deal":Str) :: ("WHOLE":Str) :: ("pond_start":Str) :: ("look_at_let":Str) :: ("let_out":Str) :: ("pond_calls":Str) :: ("evening":Str) :: ("morning_of":Str) :: ("moves_of":Str) :: ("used_of":Str) :: ("day_of":Str) :: ("_law_nth":Str) :: ("_law_draws":Str) :: ("_law_river":Str) :: ("_law_way":Str) :: ("_law_amount":Str) :: ("_law_some":Str) :: ("_law_line":Str) :: ("_law_roll":Str) :: ("_law_ponds":Str) :: ("_law_numbers":Str) :: ("_law_right":Str) :: ("_law_day":Str) :: ("_law_lost":Str) :: ("_law_used":Str) :: []
end
theorem hp1:∀ w:World,(PySem.W.fencedOpening PySem.treeTable PySem.Challenge.rw_sluice_k48_whole_days_on_end.row.toRowW.prog w 4756).map (fun s=>(s.heap,s.gens,s.drawn,s.toks))=some (H0 w.params,#[],{},181):=by
  intro w;kernel_rfl
theorem hp2:∀ w:World,((H0 w.params).isNs mainGlobals && (#[]:Array GenState).size == 0,(H0 w.params).objs.size,(H0 w.params).nsMap mainGlobals "__annotations__")=(true,11,some (Value.ref 6)):=by
  intro w;kernel_rfl
theorem hp3:∀ (w:World) (os:OsState),PySem.W.topRun PySem.treeTable PySem.Challenge.rw_sluice_k48_whole_days_on_end.row.toRowW.prog w 11 (some (Value.ref 6)) 4756 ⟨H0 w.params,#[],{},181,os⟩ (PySem.W.topStub PySem.Challenge.rw_sluice_k48_whole_days_on_end.row.toRowW.prog)=some ⟨H1 w.params,#[],{},702,os⟩:=by
  intro w os;kernel_rfl
theorem hp4:∀ w:World,(fun os=>((PySem.W.staticsOk (importedModules PySem.Challenge.rw_sluice_k48_whole_days_on_end.row.toRowW.prog.main.body) (H0 w.params) (H1 w.params) && PySem.W.namesBound PySem.Challenge.rw_sluice_k48_whole_days_on_end.row.toRowW.prog (H1 w.params) && PySem.W.gensDone ⟨H1 w.params,#[],{},702,os⟩ && PySem.W.laidKept (H0 w.params) (H1 w.params)),PySem.W.openSeen qv yd (importedModules PySem.Challenge.rw_sluice_k48_whole_days_on_end.row.toRowW.prog.main.body) (fun s=>PySem.W.xlAt My.qv [] s && PySem.W.recOk (PySem.W.RowW.records PySem.Challenge.rw_sluice_k48_whole_days_on_end.row.toRowW) s) true ⟨H1 w.params,#[],{},702,os⟩,(PySem.W.Hook.obs (PySem.W.kmHook My.Kf My.asK My.hkE My.tsK)) ⟨H1 w.params,#[],{},702,os⟩))=fun _=>(true,PySem.W.openGood qv yd,(PySem.W.Hook.val (PySem.W.kmHook My.Kf My.asK My.hkE My.tsK)) w):=by
  intro w;kernel_rfl
theorem hlE:PySem.W.LeftO PySem.Challenge.rw_sluice_k48_whole_days_on_end.row.toRowW.prog qv My.yd (fun s=>PySem.W.xlAt My.qv [] s && PySem.W.recOk (PySem.W.RowW.records PySem.Challenge.rw_sluice_k48_whole_days_on_end.row.toRowW) s) (PySem.W.Hook.obs (PySem.W.kmHook My.Kf My.asK My.hkE My.tsK)) (PySem.W.Hook.val (PySem.W.kmHook My.Kf My.asK My.hkE My.tsK)) 4756:=PySem.W.LeftO.of_pieces hp1 hp2 hp3 (by decide) hp4
end My
namespace L2
open PySem PySem.Spec PyProof.Rows
abbrev Key:=Sum Int Str
def zm:Key→Value→Bool
  | .inl k,v=>Value.isInt k v
  | .inr x,v=>Value.isStrOf x v
def keyH (w:World):Key→Int
  | .inl k=>hashInt k
  | .inr x=>hashStr w x
theorem eO:∀ {k:Key} {v:Value},zm k v=true→(∃ i t,k=Sum.inl i∧v=Value.int i t)∨(∃ x t,k=Sum.inr x∧v=Value.str x t)
  | .inl i,v,h=>by
    obtain ⟨t,e⟩:=Value.isInt_shape (k:=i) (v:=v) h
    exact .inl ⟨i,t,rfl,e⟩
  | .inr x,v,h=>by
    obtain ⟨t,e⟩:=Value.isStrOf_shape (x:=x) (v:=v) h
    exact .inr ⟨x,t,rfl,e⟩
theorem Cj (i:Int) (t:Tok):zm (.inl i) (.int i t)=true:=by simp [zm,Value.isInt]
theorem Ci (x:Str) (t:Tok):zm (.inr x) (.str x t)=true:=by simp [zm,Value.isStrOf]
theorem QZ (a b:Int):decide ((Sum.inl a:Key)=Sum.inl b)=(a == b):=by
  by_cases e:a=b
  · subst e;simp
  · have h:¬ (Sum.inl a:Key)=Sum.inl b:=fun q=>e (Sum.inl.inj q)
    rw [decide_eq_false h]
    exact (beq_eq_false_iff_ne.mpr e).symm
theorem QT (a b:Str):decide ((Sum.inr a:Key)=Sum.inr b)=decide (a=b):=by
  by_cases e:a=b
  · subst e;simp
  · have h:¬ (Sum.inr a:Key)=Sum.inr b:=fun q=>e (Sum.inr.inj q)
    rw [decide_eq_false h,decide_eq_false e]
theorem QX (a:Int) (b:Str):decide ((Sum.inl a:Key)=Sum.inr b)=false:=decide_eq_false (fun q=>nomatch q)
theorem QV (a:Str) (b:Int):decide ((Sum.inr a:Key)=Sum.inl b)=false:=decide_eq_false (fun q=>nomatch q)
def gA (prog:Program) (w:World):PySem.KeyKind prog w Key where
  is:=zm
  hash:=keyH w
  inj:=fun v a b ha hb=>by
    rcases eO ha with ⟨i,t,rfl,rfl⟩ | ⟨x,t,rfl,rfl⟩
    · rcases eO hb with ⟨j,u,rfl,e⟩ | ⟨y,u,rfl,e⟩
      · injection e with e1 _;rw [e1]
      · exact nomatch e
    · rcases eO hb with ⟨j,u,rfl,e⟩ | ⟨y,u,rfl,e⟩
      · exact nomatch e
      · injection e with e1 _;rw [e1]
  byValue:=fun k v h=>by
    rcases eO h with ⟨i,t,rfl,rfl⟩ | ⟨x,t,rfl,rfl⟩ <;> rfl
  pyHash:=fun hv h=>by
    rcases eO hv with ⟨i,t,rfl,rfl⟩ | ⟨x,t,rfl,rfl⟩
    · exact wpAny_pyHash_int h
    · exact wpAny_pyHash_str h
  eqBool:=fun hu hv h=>by
    rcases eO hu with ⟨i,t,rfl,rfl⟩ | ⟨x,t,rfl,rfl⟩
    · rcases eO hv with ⟨j,u,rfl,rfl⟩ | ⟨y,u,rfl,rfl⟩
      · rw [QZ] at h;exact wpAny_eqBool_int h
      · rw [QX] at h;exact SeqAt.EqAt.int_str i t y u _ _ _ _ h
    · rcases eO hv with ⟨j,u,rfl,rfl⟩ | ⟨y,u,rfl,rfl⟩
      · rw [QV] at h;exact SeqAt.EqAt.str_int x t j u _ _ _ _ h
      · rw [QT] at h;exact wpAny_eqBool_str h
  «strs»:=fun k x t v h=>by
    rcases eO h with ⟨i,u,rfl,e⟩ | ⟨y,u,rfl,e⟩
    · exact nomatch e
    · injection e with e1 _
      subst e1
      cases v <;> rfl
theorem wz (prog:Program) (w:World) (i:Int) (t:Tok):(gA prog w).is (.inl i) (.int i t)=true:=Cj i t
theorem wu (prog:Program) (w:World) (x:Str) (t:Tok):(gA prog w).is (.inr x) (.str x t)=true:=Ci x t
end L2
namespace L2
open PySem PySem.Spec PyProof.Rows
inductive V where
  | non | bl (b:Bool) | int (i:Int) | str (x:Str) | byt (b:Array UInt8) | flt (b:UInt64) | ref (a:Addr) | ty (n:String)
  deriving DecidableEq
def RelV:V→Value→Prop
  | .non,u=>u=Value.none
  | .bl b,u=>u=Value.bool b
  | .int i,u=>∃ t,u=Value.int i t
  | .str x,u=>∃ t,u=Value.str x t
  | .byt b,u=>∃ t,u=Value.bytes b t
  | .flt b,u=>∃ t,u=Value.float b t
  | .ref a,u=>u=Value.ref a
  | .ty n,u=>u=Value.type n
abbrev Vals:List V→List Value→Prop:=Paired RelV
theorem Vals.length {xs:List V} {us:List Value} (r:Vals xs us):xs.length=us.length:=Paired.length r
theorem Vals.get:∀ {xs:List V} {us:List Value} {i:Nat} {x:V},Vals xs us→xs[i]?=some x→∃ u,us[i]?=some u∧RelV x u
  | _,_,_,_,.nil,e=>by simp at e
  | _,_,0,_,.cons r _,e=>by simp at e;subst e;exact ⟨_,rfl,r⟩
  | _,_,i + 1,x,.cons _ t,e=>by
    obtain ⟨u,h1,h2⟩:=Vals.get (i:=i) (x:=x) t (by simpa using e)
    exact ⟨u,by simpa using h1,h2⟩
theorem Vals.set {x:V} {u:Value} (r:RelV x u):∀ {xs:List V} {us:List Value} (i:Nat),Vals xs us→Vals (xs.set i x) (us.set i u)
  | _,_,_,.nil=>.nil
  | _,_,0,.cons _ t=>.cons r t
  | _,_,i + 1,.cons q t=>.cons q (Vals.set r i t)
theorem Vals.append:∀ {xs ys:List V} {us ws:List Value},Vals xs us→Vals ys ws→Vals (xs++ys) (us++ws)
  | _,_,_,_,.nil,s=>s
  | _,_,_,_,.cons r t,s=>.cons r (Vals.append t s)
theorem Vals.take:∀ {xs:List V} {us:List Value} (n:Nat),Vals xs us→Vals (xs.take n) (us.take n)
  | _,_,0,_=>.nil
  | _,_,_ + 1,.nil=>.nil
  | _,_,n + 1,.cons r t=>.cons r (Vals.take n t)
theorem Vals.drop:∀ {xs:List V} {us:List Value} (n:Nat),Vals xs us→Vals (xs.drop n) (us.drop n)
  | _,_,0,r=>r
  | _,_,_ + 1,.nil=>.nil
  | _,_,n + 1,.cons _ t=>Vals.drop n t
def Vt:Option V→Option Value→Prop
  | some v,some u=>RelV v u
  | none,none=>True
  | _,_=>False
def KV {κ:Type}:List (κ × V)→List (κ × Value)→Prop:=Paired fun (p:κ × V) (q:κ × Value)=>p.1=q.1∧RelV p.2 q.2
def kV:Key→V
  | .inl i=>.int i
  | .inr x=>.str x
inductive HO where
  /-- a list -/
  | lst (xs:List V)
  /-- a tuple (never changes) -/
  | tup (xs:List V)
  /-- a dict whose keys are ints and texts; one whose keys are tuples of ints and texts (the empty one is both) -/
  | dK (kvs:List (Key × V)) | dT (kvs:List (List Key × V))
  /-- a set of ints: its members, its size -/
  | set (S:Int→Bool) (n:Nat)
  /-- an instance of the class at C, its dict at dx, its attributes -/
  | ins (C dx:Addr) (fs:List (Str × V))
  /-- the dict of the instance at x -/
  | own (x:Addr)
  /-- the dict of an exception -/
  | xd (fs:List (Str × V))
  /-- a bound method, f of x -/
  | met (f x:Addr)
  /-- a range object lo, lo + 1, .. below hi -/
  | rng (lo hi:Int)
  /-- a thing that is known to the object (the script; a dict while a loop walks it): read, never written while it is so -/
  | frz (o:Obj) (u:HO)
  /-- a code object's table -/
  | tbl (ps:Array Value)
  /-- any other thing, by what is true of its one object (a def of one's own: SetO a S n := HO.ext fun h => ..) -/
  | ext (φ:Heap→Prop)
abbrev Hp:=Addr→Option HO
def upd (H:Hp) (a:Addr) (o:HO):Hp:=fun b=>if b=a then some o else H b
theorem cF {H:Hp} {a:Addr} {o:HO}:upd H a o a=some o:=by unfold upd;rw [if_pos rfl]
theorem bA {H:Hp} {a b:Addr} {o:HO} (h:b≠a):upd H a o b=H b:=by unfold upd;rw [if_neg h]
theorem bT {H:Hp} {a b:Addr} {o:HO} (h:H a=some o) (h':H b=none):a≠b:=by
  intro e;subst e;rw [h] at h';cases h'
section
variable (P:Program) (w:World)
def gB (H:Hp) (h:Heap) (a:Addr):HO→Prop
  | .lst xs=>xs.length≤sizeLine∧∃ (its:List Value) (n:Nat),Vals xs its∧h.get? a=some { cls:=.type "list",data:=.seq its.toArray n }
  | .tup xs=>xs.length≤sizeLine∧∃ its:List Value,Vals xs its∧IsTup h a its.toArray
  | .dK kvs=>kvs.length≤sizeLine∧(a == sysModules)=false∧∃ vs,KV kvs vs∧h.DictOf (gA P w) a vs
  | .dT kvs=>kvs.length≤sizeLine∧(a == sysModules)=false∧∃ xs:List (List Key × Addr × Value),
      Paired (fun (p:List Key × V) (q:List Key × Addr × Value)=>p.1=q.1∧H q.2.1=some (.tup (p.1.map kV))∧RelV p.2 q.2.2) kvs xs ∧
      ∃ o es ep,h.get? a=some o∧o.ExactDict∧o.data=.dict es ep∧es.toList=xs.map (entryOfKey (tupleKind (gA P w)))∧(xs.map (·.1)).Nodup
  | .set S n=>h.SetOf (intKind P w) a S n
  | .ins C dx fs=>H dx=some (.own a)∧fs.length≤1000∧dx≠a∧h.get? a=some (PySem.W.instObj C dx) ∧
      ∃ mA,h.Ns1 dx mA∧(∀ f,Vt (fs.lookup f) (mA f))∧PySem.Within mA (fs.map (·.1))
  | .own _=>∃ o,h.get? a=some o
  | .xd fs=>∃ mA,h.Ns1 a mA∧∀ f,Vt (fs.lookup f) (mA f)
  | .rng lo hi=>∃ t u v,h.get? a=some { cls:=.type "range",data:=.fields #[.int lo t,.int hi u,.int 1 v] }
  | .frz o u=>h.get? a=some o∧gB H h a u
  | .tbl ps=>h.get? a=some { cls:=.none,data:=.fields ps }
  | .met f x=>h.get? a=some (PySem.W.methodObj (.ref f) (.ref x))
  | .ext φ=>φ h∧(∃ o,h.get? a=some o)∧∀ h1 h2:Heap,φ h1→(∀ o,h1.get? a=some o→h2.get? a=some o)→φ h2
def HOk (H:Hp) (h:Heap):Prop:=∀ a o,H a=some o→gB P w H h a o
end
section
variable {P:Program} {w:World} {H H':Hp} {h h':Heap} {a:Addr} {o:HO}
theorem gB.lt (x:gB P w H h a o):a<h.objs.size:=by
  cases o with
  | lst xs=>obtain ⟨_,_,_,_,e⟩:=x;exact Heap.lt_size e
  | tup xs=>obtain ⟨_,_,_,p⟩:=x;exact p.lt
  | dK kvs=>obtain ⟨_,_,_,_,o,_,_,e,_⟩:=x;exact Heap.lt_size e
  | dT kvs=>obtain ⟨_,_,_,_,o,_,_,e,_⟩:=x;exact Heap.lt_size e
  | set S n=>obtain ⟨o,_,_,_,e,_⟩:=x;exact Heap.lt_size e
  | ins C dx fs=>obtain ⟨_,_,_,e,_⟩:=x;exact Heap.lt_size e
  | own y=>obtain ⟨_,e⟩:=x;exact Heap.lt_size e
  | xd fs=>obtain ⟨_,⟨_,_,_,e,_⟩,_⟩:=x;exact Heap.lt_size e
  | rng lo hi=>obtain ⟨_,_,_,e⟩:=x;exact Heap.lt_size e
  | frz ob u=>obtain ⟨e,_⟩:=x;exact Heap.lt_size e
  | tbl ps=>exact Heap.lt_size (show h.get? a=some _ from x)
  | met f y=>exact Heap.lt_size (show h.get? a=some _ from x)
  | ext φ=>obtain ⟨_,⟨_,e⟩,_⟩:=x;exact Heap.lt_size e
theorem Paired.Yp {α β:Type} {F G:α→β→Prop}:∀ {l₁:List α} {l₂:List β},Paired F l₁ l₂→(∀ a b,F a b→G a b)→Paired G l₁ l₂
  | _,_,.nil,_=>.nil
  | _,_,.cons r t,f=>.cons (f _ _ r) (Paired.Yp t f)
theorem gB.stay (x:gB P w H h a o) (k:∀ b u,(b=a∨H b=some (.own a))→h.get? b=some u→h'.get? b=some u)
    (ho:∀ b,H b=some (.own a)→H' b=some (.own a)) (ht:∀ b xs,H b=some (.tup xs)→H' b=some (.tup xs)):gB P w H' h' a o:=by
  induction o with
  | lst xs=>obtain ⟨z,its,n,r,e⟩:=x;exact ⟨z,its,n,r,k _ _ (.inl rfl) e⟩
  | tup xs=>obtain ⟨z,its,r,ob,e,c⟩:=x;exact ⟨z,its,r,ob,k _ _ (.inl rfl) e,c⟩
  | dK kvs=>obtain ⟨z,y,vs,r,ob,es,ep,e,c⟩:=x;exact ⟨z,y,vs,r,ob,es,ep,k _ _ (.inl rfl) e,c⟩
  | dT kvs =>
    obtain ⟨z,y,xs,r,ob,es,ep,e,c⟩:=x
    exact ⟨z,y,xs,Paired.Yp r fun p q z=>⟨z.1,ht _ _ z.2.1,z.2.2⟩,ob,es,ep,k _ _ (.inl rfl) e,c⟩
  | set S n=>obtain ⟨ob,es,ep,t,e,c⟩:=x;exact ⟨ob,es,ep,t,k _ _ (.inl rfl) e,c⟩
  | ins C dx fs =>
    obtain ⟨d,z,ne,e,mA,⟨od,es,ep,e2,c⟩,r⟩:=x
    exact ⟨ho _ d,z,ne,k _ _ (.inl rfl) e,mA,⟨od,es,ep,k _ _ (.inr d) e2,c⟩,r⟩
  | own y=>obtain ⟨ob,e⟩:=x;exact ⟨ob,k _ _ (.inl rfl) e⟩
  | xd fs=>obtain ⟨mA,⟨od,es,ep,e,c⟩,r⟩:=x;exact ⟨mA,⟨od,es,ep,k _ _ (.inl rfl) e,c⟩,r⟩
  | rng lo hi=>obtain ⟨t,u,v,e⟩:=x;exact ⟨t,u,v,k _ _ (.inl rfl) e⟩
  | frz ob u ih=>obtain ⟨e,q⟩:=x;exact ⟨k _ _ (.inl rfl) e,ih q⟩
  | tbl ps =>
    have e:h.get? a=some { cls:=.none,data:=.fields ps }:=x
    show h'.get? a=some { cls:=.none,data:=.fields ps }
    exact k a _ (.inl rfl) e
  | met f y =>
    have e:h.get? a=some (PySem.W.methodObj (.ref f) (.ref y)):=x
    show h'.get? a=some (PySem.W.methodObj (.ref f) (.ref y))
    exact k a _ (.inl rfl) e
  | ext φ=>obtain ⟨p,⟨o,e⟩,st⟩:=x;exact ⟨st _ _ p fun o q=>k _ _ (.inl rfl) q,⟨o,k _ _ (.inl rfl) e⟩,st⟩
theorem HOk.lt (x:HOk P w H h) (e:H a=some o):a<h.objs.size:=(x a o e).lt
theorem HOk.fresh (x:HOk P w H h) (e:h.objs.size≤a):H a=none:=by
  cases q:H a with
  | none=>rfl
  | some u=>exact absurd (Nat.lt_of_lt_of_le (x.lt q) e) (Nat.lt_irrefl _)
theorem HOk.kept (x:HOk P w H h) (k:∀ b u,h.get? b=some u→h'.get? b=some u):HOk P w H h':=fun a o e =>
  (x a o e).stay (fun b u _ q=>k b u q) (fun _ q=>q) fun _ _ q=>q
theorem HOk.laid (x:HOk P w H h) (k:∀ b u,h.get? b=some u→h'.get? b=some u) (hp:h.objs.size≤a) (new:gB P w (upd H a o) h' a o):HOk P w (upd H a o) h':=fun b u e=>by
  have hn:=x.fresh hp
  by_cases hb:b=a
  · subst hb;rw [cF] at e;cases e;exact new
  · rw [bA hb] at e
    exact (x b u e).stay (fun c v _ q=>k c v q) (fun c q=>by rw [bA (bT q hn)];exact q) fun c xs q=>by rw [bA (bT q hn)];exact q
end
def Rd (H:Hp) (a:Addr) (u:HO):Prop:=H a=some u∨∃ o,H a=some (.frz o u)
theorem Rd.ok {P:Program} {w:World} {H:Hp} {h:Heap} {a:Addr} {u:HO} (r:Rd H a u) (x:HOk P w H h):gB P w H h a u:=by
  rcases r with r | ⟨o,r⟩
  · exact x a u r
  · obtain ⟨_,q⟩:=x a _ r
    exact q
def Mut:Option HO→Prop
  | some (.lst _)=>True
  | some (.dK _)=>True
  | some (.dT _)=>True
  | some (.set _ _)=>True
  | some (.ins _ _ _)=>True
  | some (.ext _)=>True
  | _=>False
section
variable {P:Program} {w:World} {H:Hp} {h h':Heap} {x e:Addr} {o':HO}
theorem HOk.write (ok:HOk P w H h) (mu:Mut (H x)) (he:e=x∨H e=some (.own x)) (k:∀ b u,b≠e→h.get? b=some u→h'.get? b=some u) (heo:∃ u,h'.get? e=some u)
    (new:gB P w (upd H x o') h' x o'):HOk P w (upd H x o') h':=fun b u q=>by
  have nown:∀ c y,H c=some (.own y)→c≠x:=fun c y r z=>by subst z;rw [r] at mu;exact mu
  have ntup:∀ c xs,H c=some (.tup xs)→c≠x:=fun c xs r z=>by subst z;rw [r] at mu;exact mu
  by_cases hb:b=x
  · subst hb;rw [cF] at q;cases q;exact new
  · rw [bA hb] at q
    by_cases hbe:b=e
    · have q':H b=some (.own x):=by
        rcases he with z | z
        · exact absurd (hbe.trans z) hb
        · rw [hbe];exact z
      rw [q] at q';cases q'
      obtain ⟨v,hv⟩:=heo
      exact ⟨v,by rw [hbe];exact hv⟩
    · refine (ok b u q).stay (fun c v hc r=>k c v ?_ r) (fun c r=>by rw [bA (nown c b r)];exact r) fun c xs r=>by rw [bA (ntup c xs r)];exact r
      rcases hc with rfl | hc
      · exact hbe
      · rintro rfl
        rcases he with z | z
        · exact nown c b hc z
        · rw [hc] at z;cases z;exact hb rfl
end
structure Un (fs ex:List Addr) (H H':Hp) (h h':Heap):Prop where
  keep:∀ b o,h.get? b=some o→H b=none→b ∉ fs→b ∉ ex→h'.get? b=some o
  slot:∀ b o,h.get? b=some o→H b=none→b∈fs→b ∉ ex→∃ sl,h'.get? b=some { o with slots:=sl }
  free:∀ b o,h.get? b=some o→H b=none→b ∉ ex→H' b=none
  there:∀ b o,h.get? b=some o→b ∉ ex→∃ o',h'.get? b=some o'
  tups:∀ b xs,H b=some (.tup xs)→H' b=some (.tup xs)
  frzs:∀ b o u,H b=some (.frz o u)→H' b=some (.frz o u)
  tbls:∀ b ps,H b=some (.tbl ps)→∃ more,H' b=some (.tbl (ps++more))
section
variable {fs fs' ex ex':List Addr} {H H1 H2:Hp} {h h1 h2 h':Heap} {a x e:Addr} {o:HO}
theorem Un.any (u:Un fs ex H H1 h h1) {b:Addr} {ob:Obj} (q:h.get? b=some ob) (n:H b=none) (hx:b ∉ ex):∃ sl,h1.get? b=some { ob with slots:=sl }:=by
  by_cases hb:b∈fs
  · exact u.slot b ob q n hb hx
  · exact ⟨ob.slots,u.keep b ob q n hb hx⟩
theorem Un.kept (k:∀ b u,h.get? b=some u→h'.get? b=some u):Un fs ex H H h h' :=
  ⟨fun b ob q _ _ _=>k b ob q,fun b ob q _ _ _=>⟨ob.slots,k b ob q⟩,fun _ _ _ n _=>n,fun b ob q _=>⟨ob,k b ob q⟩,fun _ _ q=>q,fun _ _ _ q=>q,fun _ ps q=>⟨#[],by rw [q];simp⟩⟩
theorem Un.refl:Un fs ex H H h h:=Un.kept fun _ _ q=>q
theorem Un.laid (k:∀ b u,h.get? b=some u→h'.get? b=some u) (hp:h.objs.size≤a) (hn:H a=none):Un fs ex H (upd H a o) h h' where
  keep:=fun b u q _ _ _=>k b u q
  slot:=fun b u q _ _ _=>⟨u.slots,k b u q⟩
  free:=fun b u q n _=>by rw [bA (Nat.ne_of_lt (Nat.lt_of_lt_of_le (Heap.lt_size q) hp))];exact n
  there:=fun b u q _=>⟨u,k b u q⟩
  tups:=fun b xs q=>by rw [bA (bT q hn)];exact q
  frzs:=fun b u xs q=>by rw [bA (bT q hn)];exact q
  tbls:=fun b ps q=>⟨#[],by rw [bA (bT q hn),q];simp⟩
theorem Un.write (mu:Mut (H x)) (he:e=x∨H e=some (.own x)) (k:∀ b u,b≠e→h.get? b=some u→h'.get? b=some u) (heo:∃ u,h'.get? e=some u):Un fs ex H (upd H x o) h h':=by
  have hx:∀ b,H b=none→b≠x:=fun b n z=>by subst z;rw [n] at mu;exact mu
  have hb:∀ b,H b=none→b≠e:=fun b n z=>by
    subst z
    rcases he with r | r
    · exact hx b n r
    · rw [n] at r;cases r
  have hm:∀ b u,H b=some u→¬ Mut (some u)→b≠x:=fun b u q nm z=>by subst z;rw [q] at mu;exact nm mu
  refine ⟨fun b u q n _ _=>k b u (hb b n) q,fun b u q n _ _=>⟨u.slots,k b u (hb b n) q⟩,fun b u q n _=>by rw [bA (hx b n)];exact n,fun b u q _=>?_,
    fun b xs q=>by rw [bA (hm b _ q fun z=>z)];exact q,fun b u xs q=>by rw [bA (hm b _ q fun z=>z)];exact q,fun b ps q=>⟨#[],by rw [bA (hm b _ q fun z=>z),q];simp⟩⟩
  by_cases hbe:b=e
  · subst hbe;exact heo
  · exact ⟨u,k b u hbe q⟩
end
def trk (h:Heap) (H:Hp):List Addr:=(List.range h.objs.size).filter fun a=>(H a).isSome
def Dz (h:Heap) (H:Hp):Heap:=PySem.W.hideAll h (trk h H)
theorem Cy (h:Heap) (H:Hp):(Dz h H).objs.size=h.objs.size:=PySem.W.hideAll_size _ _
theorem Fp {h:Heap} {H:Hp} {b:Addr} {o:Obj} (e:h.get? b=some o) (n:H b=none):(Dz h H).get? b=some o :=
  PySem.W.hideAll_get _ e fun hm=>by
    have q:(H b).isSome=true:=(List.mem_filter.mp hm).2
    rw [n] at q;simp at q
theorem Nr {h:Heap} {H:Hp} {b:Addr} {o:Obj} (e:(Dz h H).get? b=some o):h.get? b=some o∧H b=none:=by
  have e':h.get? b=some o:=PySem.W.of_hideAll (trk h H) e
  refine ⟨e',?_⟩
  cases q:H b with
  | none=>rfl
  | some x =>
    have hm:b∈trk h H:=List.mem_filter.mpr ⟨List.mem_range.mpr (Heap.lt_size e'),by simp [q]⟩
    have z:(Dz h H).get? b=none:=PySem.W.hideAll_none (trk h H) hm
    rw [z] at e;cases e
end L2
namespace L2
open PySem PySem.Spec PyProof.Rows
structure Mod (K:PySem.W.Frag) (mg:Str→Option Value) (base:Heap):Prop where
  kin:K.In base
  glob:base.Ns mainGlobals mg
  blt:∃ mb,base.Ns builtinsNs mb∧∀ x:Str,x≠"__name__"→mb x=bootBuiltins x
  nolimit:base.NoLimit
structure Cx where
  prog:Program
  w:World
  K:PySem.W.Frag
  mg:Str→Option Value
  base:Heap
  A:Around
  N:List Str
  s₀:Shared
  H₀:Hp
  env:Env
  outer:List Env
  stack:List Env
  ex:List Addr
  fn:Str→Bool
  calm:Bool
  pn:List (Addr × Obj)
  xe:Value→Shared→Prop
def frs (l:List Env):List Addr:=l.filterMap (·.frame)
abbrev Cx.fs (X:Cx):List Addr:=frs X.outer
def Vis (sc:Scope) (x:Str):Prop:=sc.names.lookup x=some .local∨sc.names.lookup x=some .cell∨sc.names.lookup x=some .free
def Loc (sc:Scope) (x:Str):Prop:=sc.names.lookup x=some .local∨sc.names.lookup x=some .cell
def Look (env:Env) (h:Heap) (m:Str→Option Value) (x:Str) (u:Value):Prop :=
  (env.kindOf x=some .local∧m x=some u)∨((env.kindOf x=some .cell∨env.kindOf x=some .free)∧∃ c,env.cells.lookup x=some c∧h.IsCell c (some u))
structure Cx.Ok (X:Cx):Prop where
  mod:Mod X.K X.mg X.base
  kind:X.env.scope.kind=.function
  glob:X.env.globals=mainGlobals
  blt:X.env.builtins=builtinsNs
  above:X.s₀.heap.objs.size≤X.env.locals
  inj:∀ x y c,X.env.cells.lookup x=some c→X.env.cells.lookup y=some c→x=y
  has:∀ x,(X.env.kindOf x=some .cell∨X.env.kindOf x=some .free)→∃ c,X.env.cells.lookup x=some c
  cab:∀ x c,X.fn x=true→X.env.cells.lookup x=some c→X.s₀.heap.objs.size≤c
  hd:X.calm=true→X.A.handled=none
  frames:X.A.frames=some X.stack
  stk:X.stack=X.outer∨(X.stack=X.env :: X.outer∧X.env.frame=some X.env.locals)
  exf:∀ b∈X.ex,b≠X.env.locals∧∀ x c,X.env.cells.lookup x=some c→c≠b
  bs:∀ b o,X.base.get? b=some o→X.s₀.heap.get? b=some o∧X.H₀ b=none
  bsz:X.base.objs.size≤X.s₀.heap.objs.size
  noex:∀ b o,X.base.get? b=some o→b ∉ X.ex
  exfs:∀ b∈X.ex,b ∉ X.fs
  Cz:X.s₀.heap.FunFrames X.base X.outer
  frf:∀ b∈X.fs,X.H₀ b=none
structure Inv (X:Cx) (pins:List (Addr × Obj)) (σ:List (Option V)) (H:Hp) (s:Shared):Prop where
  ok:X.Ok
  os:s.os=X.s₀.os
  bare:AllBare s.gens
  base:Un X.fs X.ex X.H₀ H X.s₀.heap s.heap
  loc:∃ m,s.heap.Ns X.env.locals m∧∀ (i:Nat) (x:Str) (v:V),X.N[i]?=some x→σ[i]?=some (some v)→Vis X.env.scope x→∃ u,RelV v u∧Look X.env s.heap m x u
  cell:∀ x c,X.env.cells.lookup x=some c→∃ v,s.heap.IsCell c v
  free:H X.env.locals=none
  freeC:∀ x c,X.env.cells.lookup x=some c→H c=none
  pin:∀ p∈X.pn++pins,s.heap.get? p.1=some p.2∧H p.1=none∧p.1≠X.env.locals∧p.1 ∉ X.fs∧∀ v,p.2.data≠.cell v
  hok:HOk X.prog X.w H s.heap
  len:σ.length=X.N.length
section
variable {X:Cx} {pins:List (Addr × Obj)} {σ:List (Option V)} {H H':Hp} {s:Shared} {h':Heap}
theorem Cx.Ok.nofr (ok:X.Ok) {b:Addr} {o:Obj} (e:X.base.get? b=some o):b ∉ X.fs:=fun hb=>by
  have:=(ok.Cz.mem hb).1
  rw [e] at this;cases this
theorem Inv.bs (I:Inv X pins σ H s):∀ b o,X.base.get? b=some o→s.heap.get? b=some o∧H b=none:=fun b o e =>
  ⟨I.base.keep b o (I.ok.bs b o e).1 (I.ok.bs b o e).2 (I.ok.nofr e) (I.ok.noex b o e),I.base.free b o (I.ok.bs b o e).1 (I.ok.bs b o e).2 (I.ok.noex b o e)⟩
theorem Inv.bk (I:Inv X pins σ H s):∀ b o,X.base.get? b=some o→s.heap.get? b=some o:=fun b o e=>(I.bs b o e).1
theorem Inv.mod (I:Inv X pins σ H s):Mod X.K X.mg X.base:=I.ok.mod
theorem Inv.kIn (I:Inv X pins σ H s):X.K.In s.heap:=I.ok.mod.kin.keeps I.bk
theorem Inv.nolimit (I:Inv X pins σ H s):s.heap.NoLimit:=I.ok.mod.nolimit.keeps I.bk
theorem Inv.lt (I:Inv X pins σ H s):X.env.locals<s.heap.objs.size:=let ⟨_,hn,_⟩:=I.loc;hn.lt
theorem Inv.sz (I:Inv X pins σ H s):X.s₀.heap.objs.size≤s.heap.objs.size:=Nat.le_trans I.ok.above (Nat.le_of_lt I.lt)
theorem Inv.nofs (I:Inv X pins σ H s) {a:Addr} (h:s.heap.objs.size≤a):a ∉ X.fs:=fun hb=>by
  obtain ⟨_,o,ho,_⟩:=I.ok.Cz.mem hb
  exact absurd (Nat.lt_of_lt_of_le (Heap.lt_size ho) (Nat.le_trans I.sz h)) (Nat.lt_irrefl _)
theorem Inv.cne (I:Inv X pins σ H s):∀ x c,X.env.cells.lookup x=some c→c≠X.env.locals:=fun x c e z=>by
  obtain ⟨v,o,ho,hd⟩:=I.cell x c e
  obtain ⟨m,⟨o',es,ep,ho',hd',_⟩,_⟩:=I.loc
  rw [z,ho'] at ho;cases ho;rw [hd'] at hd;cases hd
theorem Inv.Cz (I:Inv X pins σ H s):s.heap.FunFrames X.base X.outer:=by
  have all:∀ (l:List Env),(∀ b∈frs l,b∈X.fs)→X.s₀.heap.FunFrames X.base l→s.heap.FunFrames X.base l:=by
    intro l
    induction l with
    | nil=>intro _ _;trivial
    | cons env r ih =>
      intro hs hl
      obtain ⟨hk,⟨L,o,hf,hn,ho,hd⟩,hr⟩:=hl
      have hL:L∈X.fs:=hs L (by unfold frs;rw [List.filterMap_cons,hf];exact List.mem_cons_self)
      obtain ⟨sl,e⟩:=I.base.slot L o ho (I.ok.frf L hL) hL fun z=>I.ok.exfs L z hL
      exact ⟨hk,⟨L,_,hf,hn,e,hd⟩,ih (fun b hb=>hs b (by unfold frs;rw [List.filterMap_cons,hf];exact List.mem_cons_of_mem _ hb)) hr⟩
  exact all X.outer (fun _ hb=>hb) I.ok.Cz
theorem Inv.stack (I:Inv X pins σ H s):s.heap.FunFrames X.base X.stack:=by
  rcases I.ok.stk with e | ⟨e,hf⟩
  · rw [e];exact I.Cz
  · rw [e]
    obtain ⟨m,hn,_⟩:=I.loc
    refine .cons (by rw [I.ok.kind];decide) hf hn ?_ I.Cz
    exact Heap.get?_none_of_le (Nat.le_trans I.ok.bsz I.ok.above)
theorem Inv.Ae (I:Inv X pins σ H s):∀ b∈frs X.stack,b∈X.env.locals :: X.fs:=fun b hb=>by
  rcases I.ok.stk with e | ⟨e,hf⟩
  · rw [e] at hb;exact List.mem_cons_of_mem _ hb
  · rw [e] at hb
    unfold frs at hb
    rw [List.filterMap_cons,hf] at hb
    exact hb
theorem Inv.vL (I:Inv X pins σ H s):∀ b∈frs X.stack,H b=none:=fun b hb=>by
  rcases List.mem_cons.mp (I.Ae b hb) with e | hb
  · rw [e];exact I.free
  · obtain ⟨_,o,ho,_⟩:=I.ok.Cz.mem hb
    exact I.base.free b o ho (I.ok.frf b hb) fun z=>I.ok.exfs b z hb
theorem Inv.step {g':Array GenState} {t':Nat} {d':Drawn} {ch:List Addr} (I:Inv X pins σ H s)
    (hch:∀ b∈ch,(b∈X.ex∨X.s₀.heap.objs.size≤b)∧b≠X.env.locals∧(∀ x c,X.env.cells.lookup x=some c→c≠b)∧∀ p∈X.pn++pins,p.1≠b)
    (keep:∀ b o,b≠X.env.locals→b ∉ X.fs→b ∉ ch→s.heap.get? b=some o→H b=none→h'.get? b=some o)
    (slot:∀ b o,b≠X.env.locals→b∈X.fs→b ∉ ch→s.heap.get? b=some o→H b=none→∃ sl,h'.get? b=some { o with slots:=sl }) (free:∀ b o,b ∉ ch→s.heap.get? b=some o→H b=none→H' b=none)
    (there:∀ b o,b ∉ ch→s.heap.get? b=some o→∃ o',h'.get? b=some o')
    (tups:∀ b xs,H b=some (.tup xs)→H' b=some (.tup xs)) (frzs:∀ b o u,H b=some (.frz o u)→H' b=some (.frz o u)) (tbls:∀ b ps,H b=some (.tbl ps)→∃ more,H' b=some (.tbl (ps++more)))
    (ns:∀ m,s.heap.Ns X.env.locals m→h'.Ns X.env.locals m) (hok:HOk X.prog X.w H' h') (hg:AllBare g') :
    Inv X pins σ H' { s with heap:=h',gens:=g',drawn:=d',toks:=t' }:=by
  have neL:∀ b o,X.s₀.heap.get? b=some o→b≠X.env.locals:=fun b o e=>Nat.ne_of_lt (Nat.lt_of_lt_of_le (Heap.lt_size e) I.ok.above)
  have neC:∀ b o,X.s₀.heap.get? b=some o→b ∉ X.ex→b ∉ ch:=fun b o e hx hb=>by
    rcases (hch b hb).1 with z | z
    · exact hx z
    · exact absurd (Nat.lt_of_lt_of_le (Heap.lt_size e) z) (Nat.lt_irrefl _)
  have cellK:∀ x c,X.env.cells.lookup x=some c→∀ v,s.heap.IsCell c v→h'.IsCell c v:=fun x c e v ⟨o,ho,hd⟩=>by
    have nch:c ∉ ch:=fun z=>(hch c z).2.2.1 x c e rfl
    by_cases hc:c∈X.fs
    · obtain ⟨sl,q⟩:=slot c o (I.cne x c e) hc nch ho (I.freeC x c e)
      exact ⟨_,q,hd⟩
    · exact ⟨o,keep c o (I.cne x c e) hc nch ho (I.freeC x c e),hd⟩
  refine ⟨I.ok,I.os,hg,⟨fun b o e n hb hx=>?_,fun b o e n hb hx=>?_,fun b o e n hx=>?_,fun b o e hx=>?_,fun b xs e=>tups b xs (I.base.tups b xs e),fun b o xs e=>frzs b o xs (I.base.frzs b o xs e),fun b ps e=>?_⟩,?_,fun x c e=>?_,?_,fun x c e=>?_,fun p hp=>?_,hok,I.len⟩
  · exact keep b o (neL b o e) hb (neC b o e hx) (I.base.keep b o e n hb hx) (I.base.free b o e n hx)
  · obtain ⟨sl,e1⟩:=I.base.slot b o e n hb hx
    obtain ⟨sl',e2⟩:=slot b _ (neL b o e) hb (neC b o e hx) e1 (I.base.free b o e n hx)
    exact ⟨sl',e2⟩
  · obtain ⟨o',e1⟩:=I.base.there b o e hx
    exact free b o' (neC b o e hx) e1 (I.base.free b o e n hx)
  · obtain ⟨o',e1⟩:=I.base.there b o e hx
    exact there b o' (neC b o e hx) e1
  · obtain ⟨m1,e1⟩:=I.base.tbls b ps e
    obtain ⟨m2,e2⟩:=tbls b _ e1
    exact ⟨m1++m2,by rw [e2,Array.append_assoc]⟩
  · obtain ⟨m,hn,hl⟩:=I.loc
    refine ⟨m,ns m hn,fun i x v e1 e2 e3=>?_⟩
    obtain ⟨u,r,l⟩:=hl i x v e1 e2 e3
    refine ⟨u,r,?_⟩
    rcases l with l | ⟨k,c,e,z⟩
    · exact .inl l
    · exact .inr ⟨k,c,e,cellK x c e _ z⟩
  · obtain ⟨v,z⟩:=I.cell x c e
    exact ⟨v,cellK x c e v z⟩
  · obtain ⟨m,⟨o,_,_,ho,_⟩,_⟩:=I.loc
    exact free _ o (fun z=>(hch _ z).2.1 rfl) ho I.free
  · obtain ⟨v,o,ho,hd⟩:=I.cell x c e
    exact free c o (fun z=>(hch c z).2.2.1 x c e rfl) ho (I.freeC x c e)
  · obtain ⟨e,n,ne,nf,d⟩:=I.pin p hp
    have nch:p.1 ∉ ch:=fun z=>(hch p.1 z).2.2.2 p hp rfl
    exact ⟨keep p.1 p.2 ne nf nch e n,free p.1 p.2 nch e n,ne,nf,d⟩
theorem Inv.un {t':Nat} (I:Inv X pins σ H s) (u:Un X.fs [] H H' s.heap h') (hok:HOk X.prog X.w H' h'):Inv X pins σ H' { s with heap:=h',toks:=t' }:=by
  obtain ⟨m,⟨o,es,ep,ho,r⟩,_⟩:=id I.loc
  obtain ⟨sl,hL⟩:=u.any ho I.free (by simp)
  exact I.step (g':=s.gens) (d':=s.drawn) (ch:=[]) (fun _ z=>nomatch z) (fun b o _ hb _ e n=>u.keep b o e n hb (by simp)) (fun b o _ hb _ e n=>u.slot b o e n hb (by simp)) (fun b o _ e n=>u.free b o e n (by simp)) (fun b o _ e=>u.there b o e (by simp)) u.tups u.frzs u.tbls (fun m' hm=>by
    obtain ⟨o',es',ep',ho',r'⟩:=hm
    rw [ho] at ho';cases ho'
    exact ⟨_,es',ep',hL,r'⟩) hok I.bare
theorem Inv.call {g':Array GenState} {t':Nat} {d':Drawn} {ch:List Addr} (I:Inv X pins σ H s) (u:Un (frs X.stack) ch H H' s.heap h') (hok:HOk X.prog X.w H' h') (hg:AllBare g')
    (hch:∀ b∈ch,(b∈X.ex∨X.s₀.heap.objs.size≤b)∧b≠X.env.locals∧(∀ x c,X.env.cells.lookup x=some c→c≠b)∧∀ p∈X.pn++pins,p.1≠b) :
    Inv X pins σ H' { s with heap:=h',gens:=g',drawn:=d',toks:=t' }:=by
  obtain ⟨m,⟨o,es,ep,ho,r⟩,_⟩:=id I.loc
  obtain ⟨sl,hL⟩:=u.any ho I.free fun z=>(hch _ z).2.1 rfl
  exact I.step (ch:=ch) hch (fun b o hL hb hc e n=>u.keep b o e n (fun z=>(List.mem_cons.mp (I.Ae b z)).elim hL hb) hc) (fun b o _ _ hc e n=>u.any e n hc) (fun b o hc e n=>u.free b o e n hc) (fun b o hc e=>u.there b o e hc) u.tups u.frzs u.tbls (fun m' hm=>by
    obtain ⟨o',es',ep',ho',r'⟩:=hm
    rw [ho] at ho';cases ho'
    exact ⟨_,es',ep',hL,r'⟩) hok hg
theorem Inv.turned {t':Nat} {it:Addr} (I:Inv X pins σ H s) (k:∀ b o,b≠it→s.heap.get? b=some o→h'.get? b=some o) (hn:H it=none) (hL:it≠X.env.locals)
    (h1:it∈X.ex∨X.s₀.heap.objs.size≤it) (h2:∀ x c,X.env.cells.lookup x=some c→c≠it) (h3:∀ p∈X.pn++pins,p.1≠it):Inv X pins σ H { s with heap:=h',toks:=t' }:=by
  have nit:∀ b u,H b=some u→b≠it:=fun b u e z=>by rw [z,hn] at e;cases e
  refine I.step (g':=s.gens) (d':=s.drawn) (ch:=[it]) (fun b hb=>?_) (fun b o _ _ hc e _=>k b o (fun z=>hc (by simp [z])) e) (fun b o _ _ hc e _=>⟨o.slots,k b o (fun z=>hc (by simp [z])) e⟩) (fun _ _ _ _ n=>n)
    (fun b o hc e=>⟨o,k b o (fun z=>hc (by simp [z])) e⟩) (fun _ _ e=>e) (fun _ _ _ e=>e) (fun b ps e=>⟨#[],by rw [e];simp⟩) (fun m hm=>?_) (fun b u e=>?_) I.bare
  · have e:b=it:=by simpa using hb
    subst e
    exact ⟨h1,hL,h2,h3⟩
  · obtain ⟨o,es,ep,ho,r⟩:=hm
    exact ⟨o,es,ep,k _ o (Ne.symm hL) ho,r⟩
  · refine (I.hok b u e).stay (fun c v hc q=>k c v ?_ q) (fun _ q=>q) fun _ _ q=>q
    rcases hc with z | z
    · rw [z];exact nit b u e
    · exact nit c _ z
theorem Inv.tok (I:Inv X pins σ H s) (t:Nat):Inv X pins σ H { s with toks:=t }:=I.un (h':=s.heap) (t':=t) Un.refl I.hok
theorem Inv.kept {t':Nat} (I:Inv X pins σ H s) (k:∀ b u,s.heap.get? b=some u→h'.get? b=some u):Inv X pins σ H { s with heap:=h',toks:=t' }:=I.un (Un.kept k) (I.hok.kept k)
theorem Inv.laid {a:Addr} {o:HO} {t':Nat} (I:Inv X pins σ H s) (k:∀ b u,s.heap.get? b=some u→h'.get? b=some u) (hp:s.heap.objs.size≤a) (new:gB X.prog X.w (upd H a o) h' a o) :
    Inv X pins σ (upd H a o) { s with heap:=h',toks:=t' }:=I.un (Un.laid k hp (I.hok.fresh hp)) (I.hok.laid k hp new)
theorem Inv.write {x e:Addr} {o:HO} {t':Nat} (I:Inv X pins σ H s) (mu:Mut (H x)) (he:e=x∨H e=some (.own x)) (k:∀ b u,b≠e→s.heap.get? b=some u→h'.get? b=some u) (heo:∃ u,h'.get? e=some u)
    (new:gB X.prog X.w (upd H x o) h' x o):Inv X pins σ (upd H x o) { s with heap:=h',toks:=t' }:=I.un (Un.write mu he k heo) (I.hok.write mu he k heo new)
theorem Inv.vX {pins':List (Addr × Obj)} (I:Inv X pins σ H s) (h:∀ p∈pins',s.heap.get? p.1=some p.2∧H p.1=none∧p.1≠X.env.locals∧p.1 ∉ X.fs∧∀ v,p.2.data≠.cell v):Inv X pins' σ H s :=
  ⟨I.ok,I.os,I.bare,I.base,I.loc,I.cell,I.free,I.freeC,fun p hp=>(List.mem_append.mp hp).elim (fun z=>I.pin p (List.mem_append_left _ z)) (h p),I.hok,I.len⟩
theorem xY {N:List Str} (hN:N.Nodup) {i j:Nat} {x:Str} (a:N[i]?=some x) (b:N[j]?=some x):i=j:=by
  obtain ⟨h1,e1⟩:=List.getElem?_eq_some_iff.mp a
  obtain ⟨h2,e2⟩:=List.getElem?_eq_some_iff.mp b
  exact (List.getElem_inj hN).mp (e1.trans e2.symm)
theorem ud {M:Model} {A:Around} {E:Value→Shared→Prop} {i:Nat} {x:Str} {v:V} {u:Value} {Q:Unit→Shared→Prop} (I:Inv X pins σ H s) (hN:X.N.Nodup) (hi:X.N[i]?=some x) (hx:Loc X.env.scope x) (r:RelV v u)
    (h:∀ s',Inv X pins (σ.set i (some v)) H s'→(∃ a,Heap.SameBut a s.heap s'.heap∧(a=X.env.locals∨X.env.cells.lookup x=some a))→Q () s') (hf:X.fn x=true∨X.env.scope.names.lookup x=some .local:=by first | exact .inl rfl | exact .inr rfl | assumption):wpAny M A (storeName X.env x u) Q E s:=by
  obtain ⟨m,hn,hl⟩:=id I.loc
  have hcls:(X.env.scope.kind == .class || (X.env.scope.kind == .module && X.env.locals != X.env.globals))=false:=by rw [I.ok.kind];rfl
  have hiσ:i<σ.length:=by rw [I.len];exact (List.getElem?_eq_some_iff.mp hi).1
  have cne:=I.cne
  have tracked:∀ {a:Addr} {h':Heap},(∃ o,s.heap.get? a=some o∧H a=none)→Heap.SameBut a s.heap h'→HOk X.prog X.w H h':=fun {a h'} ha hs b ob e=>by
    obtain ⟨_,_,hfree⟩:=ha
    refine (I.hok b ob e).stay (fun c w' hc q=>(hs.2 c ?_).trans q) (fun _ q=>q) fun _ _ q=>q
    rintro rfl
    rcases hc with rfl | hc
    · rw [hfree] at e;cases e
    · rw [hfree] at hc;cases hc
  rcases hx with hk | hk
  · refine wpAny_storeName_local hk hn (fun h' hn' hs=>?_) hcls
    obtain ⟨oL,_,_,hoL,_⟩:=id hn
    refine h _ ⟨I.ok,I.os,I.bare,⟨fun b o e n hb hx=>?_,fun b o e n hb hx=>?_,I.base.free,fun b o e hx=>?_,I.base.tups,I.base.frzs,I.base.tbls⟩,⟨_,hn',fun j y v' e1 e2 e3=>?_⟩,fun y c e=>?_,I.free,I.freeC,fun p hp=>?_,tracked ⟨oL,hoL,I.free⟩ hs,by simpa using I.len⟩ ⟨_,hs,.inl rfl⟩
    · exact (hs.2 b (Nat.ne_of_lt (Nat.lt_of_lt_of_le (Heap.lt_size e) I.ok.above))).trans (I.base.keep b o e n hb hx)
    · obtain ⟨sl,e1⟩:=I.base.slot b o e n hb hx
      exact ⟨sl,(hs.2 b (Nat.ne_of_lt (Nat.lt_of_lt_of_le (Heap.lt_size e) I.ok.above))).trans e1⟩
    · obtain ⟨o',e1⟩:=I.base.there b o e hx
      exact ⟨o',(hs.2 b (Nat.ne_of_lt (Nat.lt_of_lt_of_le (Heap.lt_size e) I.ok.above))).trans e1⟩
    · by_cases hj:j=i
      · subst hj
        rw [hi] at e1;cases e1
        rw [List.getElem?_set_self hiσ] at e2
        cases e2
        exact ⟨u,r,.inl ⟨hk,by simp⟩⟩
      · rw [List.getElem?_set_ne (Ne.symm hj)] at e2
        obtain ⟨u',r',q⟩:=hl j y v' e1 e2 e3
        refine ⟨u',r',?_⟩
        rcases q with ⟨k,e⟩ | ⟨k,c,e,z⟩
        · refine .inl ⟨k,?_⟩
          have:y≠x:=fun e=>hj (xY hN e1 (e ▸ hi))
          simp [this,e]
        · exact .inr ⟨k,c,e,z.sameBut hs (cne y c e)⟩
    · obtain ⟨w',z⟩:=I.cell y c e
      exact ⟨w',z.sameBut hs (cne y c e)⟩
    · obtain ⟨e,n,ne,nf,d⟩:=I.pin p hp
      exact ⟨(hs.2 p.1 ne).trans e,n,ne,nf,d⟩
  · have hfn:X.fn x=true:=by
      rcases hf with z | z
      · exact z
      · rw [z] at hk;cases hk
    obtain ⟨c,hc⟩:=I.ok.has x (.inl hk)
    obtain ⟨w',z⟩:=I.cell x c hc
    refine wpAny_storeName_cell I.ok.kind hk hc z (fun h' hc' hs=>?_)
    obtain ⟨oc,hoc,hocd⟩:=id z
    refine h { s with heap:=h' } ⟨I.ok,I.os,I.bare,⟨fun b o e n hb hx=>?_,fun b o e n hb hx=>?_,I.base.free,fun b o e hx=>?_,I.base.tups,I.base.frzs,I.base.tbls⟩,⟨m,hn.sameBut hs (Ne.symm (cne x c hc)),fun j y v' e1 e2 e3=>?_⟩,fun y c' e=>?_,I.free,I.freeC,fun p hp=>?_,tracked ⟨oc,hoc,I.freeC x c hc⟩ hs,by simpa using I.len⟩ ⟨c,hs,.inr hc⟩
    · exact (hs.2 b (Nat.ne_of_lt (Nat.lt_of_lt_of_le (Heap.lt_size e) (I.ok.cab x c hfn hc)))).trans (I.base.keep b o e n hb hx)
    · obtain ⟨sl,e1⟩:=I.base.slot b o e n hb hx
      exact ⟨sl,(hs.2 b (Nat.ne_of_lt (Nat.lt_of_lt_of_le (Heap.lt_size e) (I.ok.cab x c hfn hc)))).trans e1⟩
    · obtain ⟨o',e1⟩:=I.base.there b o e hx
      exact ⟨o',(hs.2 b (Nat.ne_of_lt (Nat.lt_of_lt_of_le (Heap.lt_size e) (I.ok.cab x c hfn hc)))).trans e1⟩
    · by_cases hj:j=i
      · subst hj
        rw [hi] at e1;cases e1
        rw [List.getElem?_set_self hiσ] at e2
        cases e2
        exact ⟨u,r,.inr ⟨.inl hk,c,hc,hc'⟩⟩
      · rw [List.getElem?_set_ne (Ne.symm hj)] at e2
        obtain ⟨u',r',q⟩:=hl j y v' e1 e2 e3
        refine ⟨u',r',?_⟩
        rcases q with q | ⟨k,c',e,z'⟩
        · exact .inl q
        · refine .inr ⟨k,c',e,z'.sameBut hs ?_⟩
          rintro rfl
          exact hj (xY hN e1 (I.ok.inj _ _ _ e hc ▸ hi))
    · by_cases hcc:c'=c
      · subst hcc;exact ⟨_,hc'⟩
      · obtain ⟨w2,z2⟩:=I.cell y c' e
        exact ⟨w2,z2.sameBut hs hcc⟩
    · obtain ⟨e,n,ne,nf,d⟩:=I.pin p hp
      refine ⟨(hs.2 p.1 ?_).trans e,n,ne,nf,d⟩
      intro q
      rw [q,hoc] at e
      have q':oc=p.2:=Option.some.inj e
      exact d w' (by rw [← q'];exact hocd)
theorem xr {M:Model} {A:Around} {E:Value→Shared→Prop} {i:Nat} {x:Str} {v:V} {u:Value} {Q:Unit→Shared→Prop} (I:Inv X pins σ H s) (hN:X.N.Nodup) (hi:X.N[i]?=some x) (hx:Loc X.env.scope x) (r:RelV v u)
    (h:∀ s',Inv X pins (σ.set i (some v)) H s'→Q () s') (hf:X.fn x=true∨X.env.scope.names.lookup x=some .local:=by first | exact .inl rfl | exact .inr rfl | assumption):wpAny M A (storeName X.env x u) Q E s :=
  ud I hN hi hx r (fun s' I' _=>h s' I') hf
theorem Inv.call' {s':Shared} {ch:List Addr} (I:Inv X pins σ H s) (ho:s'.os=s.os) (u:Un (frs X.stack) ch H H' s.heap s'.heap) (hok:HOk X.prog X.w H' s'.heap) (hg:AllBare s'.gens)
    (hch:∀ b∈ch,(b∈X.ex∨X.s₀.heap.objs.size≤b)∧b≠X.env.locals∧(∀ x c,X.env.cells.lookup x=some c→c≠b)∧∀ p∈X.pn++pins,p.1≠b):Inv X pins σ H' s':=by
  obtain ⟨h',g',d',t',o'⟩:=s'
  have e:o'=s.os:=ho
  subst e
  exact I.call (g':=g') (t':=t') (d':=d') u hok hg hch
end
abbrev XK:=Value→Option Addr→Hp→Prop
abbrev St:=List (Option V)
abbrev VK:=V→Hp→Prop
abbrev TE:=St→Hp→VK→Prop
abbrev TT:=St→Hp→(Bool→Hp→Prop)→Prop
abbrev TA:=St→Hp→(List V→Hp→Prop)→Prop
structure Ends where
  nx:St→Hp→Prop
  rt:VK
  bk:St→Hp→Prop:=fun _ _=>False
  ct:St→Hp→Prop:=fun _ _=>False
abbrev TS:=Ends→St→Hp→Prop
def EP (X:Cx) (pins:List (Addr × Obj)) (σ:St) (Q:VK) (u:Value) (s':Shared):Prop:=∃ v H',Inv X pins σ H' s'∧RelV v u∧Q v H'
def TP (X:Cx) (pins:List (Addr × Obj)) (σ:St) (Q:Bool→Hp→Prop) (b:Bool) (s':Shared):Prop:=∃ H',Inv X pins σ H' s'∧Q b H'
def AP (X:Cx) (pins:List (Addr × Obj)) (σ:St) (Q:List V→Hp→Prop) (us:List Value) (s':Shared):Prop:=∃ vs H',Inv X pins σ H' s'∧Vals vs us∧Q vs H'
def SP (X:Cx) (pins:List (Addr × Obj)) (D:Ends) (f:Flow) (s':Shared):Prop :=
  match f with
  | .next=>∃ σ' H',Inv X pins σ' H' s'∧D.nx σ' H'
  | .brk=>∃ σ' H',Inv X pins σ' H' s'∧D.bk σ' H'
  | .cont=>∃ σ' H',Inv X pins σ' H' s'∧D.ct σ' H'
  | .ret u=>∃ v σ' H',Inv X pins σ' H' s'∧RelV v u∧D.rt v H'
def PE (X:Cx) (e:Expr) (t:TE):Prop :=
  ∀ (pins:List (Addr × Obj)) (s:Shared) (σ:St) (H:Hp) (Q:VK),Inv X pins σ H s→t σ H Q→wpAny (model X.prog X.w) X.A (eval e X.env) (EP X pins σ Q) X.xe s
def PT (X:Cx) (e:Expr) (t:TT):Prop :=
  ∀ (pins:List (Addr × Obj)) (s:Shared) (σ:St) (H:Hp) (Q:Bool→Hp→Prop),Inv X pins σ H s→t σ H Q→wpAny (model X.prog X.w) X.A (isTrue e X.env (eval e X.env)) (TP X pins σ Q) X.xe s
def PW (X:Cx) (e:Expr) (t:TT):Prop :=
  ∀ (whole:Sem Value) (pins:List (Addr × Obj)) (s:Shared) (σ:St) (H:Hp) (Q:Bool→Hp→Prop),Inv X pins σ H s→t σ H Q→wpAny (model X.prog X.w) X.A (isTrue e X.env whole) (TP X pins σ Q) X.xe s
theorem PW.pt {X:Cx} {e:Expr} {t:TT} (h:PW X e t):PT X e t:=h _
def PA (X:Cx) (es:List Expr) (t:TA):Prop :=
  ∀ (pos:Pos) (pins:List (Addr × Obj)) (s:Shared) (σ:St) (H:Hp) (Q:List V→Hp→Prop),Inv X pins σ H s→t σ H Q→wpAny (model X.prog X.w) X.A (spliced (backTo pos (starEach es X.env))) (AP X pins σ Q) X.xe s
def PS (X:Cx) (st:Stmt) (t:TS):Prop :=
  ∀ (pins:List (Addr × Obj)) (s:Shared) (σ:St) (H:Hp) (D:Ends),Inv X pins σ H s→t D σ H→wpAny (model X.prog X.w) X.A (exec st X.env) (SP X pins D) X.xe s
def PSs (X:Cx) (st:List Stmt) (t:TS):Prop :=
  ∀ (pins:List (Addr × Obj)) (s:Shared) (σ:St) (H:Hp) (D:Ends),Inv X pins σ H s→t D σ H→wpAny (model X.prog X.w) X.A (execs st X.env) (SP X pins D) X.xe s
theorem thn {α:Type} {t:Sem α} {Q Q':α→Shared→Prop} {M:Model} {A:Around} {E:Value→Shared→Prop} {s:Shared} (h:wpAny M A t Q E s) (hQ:∀ a s,Q a s→Q' a s):wpAny M A t Q' E s:=wpAny_mono h hQ fun _ _ x=>x
end L2
namespace L2
open PySem PySem.Spec PyProof.Rows
section
variable {X:Cx}
def Ye (i:Nat):TE:=fun σ H Q=>∃ v,σ[i]?=some (some v)∧Q v H
def tC (v:V):TE:=fun _ H Q=>Q v H
theorem Qe {i:Nat} {x:Str} {pos:Pos} (hN:X.N[i]?=some x) (hv:Vis X.env.scope x) (hd:(x == ("__debug__":Str))=false:=by decide) (hcd:(x == ("__classdict__":Str))=false:=by decide):PE X (.Name x pos) (Ye i):=by
  intro pins s σ H Q I h
  obtain ⟨v,e,h⟩:=h
  obtain ⟨m,hn,hl⟩:=I.loc
  obtain ⟨u,r,l⟩:=hl i x v hN e hv
  have fin:EP X pins σ Q u s:=⟨v,H,I,r,h⟩
  rcases l with ⟨hk,hm⟩ | ⟨hk,c,hc,hcell⟩
  · exact wpAny_Name (wpAny_loadName_local I.ok.kind hk hn hm fin) hd
  · rcases hk with hk | hk
    · exact wpAny_Name (wpAny_loadName_cell I.ok.kind hk hc hcell fin) hd
    · exact wpAny_Name (wpAny_loadName_free I.ok.kind hk hc hcell fin hcd) hd
theorem aA {i j pos}:PE X (.Constant (.int i) j pos) (tC (.int i)):=fun _ _ _ H _ I h=>wpAny_Constant_int ⟨.int i,H,I.tok _,⟨_,rfl⟩,h⟩
theorem za {b j pos}:PE X (.Constant (.bool b) j pos) (tC (.bl b)):=fun _ _ _ H _ I h=>Constant_bool ⟨.bl b,H,I,rfl,h⟩
theorem GD {j pos}:PE X (.Constant .none j pos) (tC .non):=fun _ _ _ H _ I h=>Constant_none ⟨.non,H,I,rfl,h⟩
def Gl (X:Cx) (x:Str):Prop:=X.env.kindOf x=some .globalImplicit
theorem Cd {E:Value→Shared→Prop} {pins:List (Addr × Obj)} {s:Shared} {σ:St} {H:Hp} {x:Str} {u:Value} {pos:Pos} {Q:Value→Shared→Prop} (I:Inv X pins σ H s) (hg:Gl X x) (hm:X.mg x=some u) (h:Q u s)
    (hd:(x == ("__debug__":Str))=false:=by decide):wpAny (model X.prog X.w) X.A (eval (.Name x pos) X.env) Q E s :=
  Calls.Name_function_global I.ok.kind hg (Calls.loadGlobal_global (by rw [I.ok.glob];exact I.mod.glob.keeps I.bk) hm h) hd
theorem lK {E:Value→Shared→Prop} {pins:List (Addr × Obj)} {s:Shared} {σ:St} {H:Hp} {x:Str} {u:Value} {pos:Pos} {Q:Value→Shared→Prop} (I:Inv X pins σ H s) (hg:Gl X x) (hm:X.mg x=none) (hv:bootBuiltins x=some u) (h:Q u s)
    (hn:x≠"__name__":=by decide) (hd:(x == ("__debug__":Str))=false:=by decide):wpAny (model X.prog X.w) X.A (eval (.Name x pos) X.env) Q E s:=by
  obtain ⟨mb,h1,h2⟩:=I.mod.blt
  exact Calls.Name_function_global I.ok.kind hg (Calls.loadGlobal_builtin (by rw [I.ok.glob];exact I.mod.glob.keeps I.bk) hm (by rw [I.ok.blt];exact h1.keeps I.bk) ((h2 x hn).trans hv) h) hd
theorem lR {x:Str} {v:V} {u:Value} {pos:Pos} (hg:Gl X x) (hm:X.mg x=some u) (r:RelV v u) (hd:(x == ("__debug__":Str))=false:=by decide):PE X (.Name x pos) (tC v) :=
  fun _ _ _ H _ I h=>Cd I hg hm ⟨v,H,I,r,h⟩ hd
theorem pY {x:Str} {v:V} {u:Value} {pos:Pos} (hg:Gl X x) (hm:X.mg x=none) (hv:bootBuiltins x=some u) (r:RelV v u) (hn:x≠"__name__":=by decide) (hd:(x == ("__debug__":Str))=false:=by decide):PE X (.Name x pos) (tC v) :=
  fun _ _ _ H _ I h=>lK I hg hm hv ⟨v,H,I,r,h⟩ hn hd
def t2I (ta tb:TE) (k:Int→Int→Hp→Prop):St→Hp→Prop:=fun σ H=>ta σ H fun x H1=>tb σ H1 fun y H2=>∃ i j,x=.int i∧y=.int j∧k i j H2
variable {a b:Expr} {ta tb:TE} {pos:Pos}
def Oq (p:Int→Int→Bool) (ta tb:TE):TE:=fun σ H Q=>t2I ta tb (fun i j H2=>Q (.bl (p i j)) H2) σ H
abbrev tLt:TE→TE→TE:=Oq fun i j=>decide (i<j)
abbrev tLe:TE→TE→TE:=Oq fun i j=>decide (i≤j)
abbrev tGt:TE→TE→TE:=Oq fun i j=>decide (j<i)
abbrev tGe:TE→TE→TE:=Oq fun i j=>decide (j≤i)
abbrev tEqI:TE→TE→TE:=Oq fun i j=>decide (i=j)
abbrev tNeI:TE→TE→TE:=Oq fun i j=>!decide (i=j)
def tB (t:TE):TT:=fun σ H Q=>t σ H fun x H1=>∃ c,x=.bl c∧Q c H1
theorem mQ {e:Expr} {t:TE} (h:PE X e t) (he:∀ whole,isTrue e X.env whole=(do let v ← whole;standAt e.pos;holding [v] (truthy v)):=by intro _;rfl):PT X e (tB t):=by
  intro pins s σ H Q I hw
  refine isTrue_plain (thn (h pins s σ H _ I hw) fun v s1 ⟨x,H1,I1,r1,q1⟩=>?_) (he _)
  obtain ⟨d,rfl,q⟩:=q1
  cases r1
  exact wpAny_truthy_bool ⟨H1,I1,q⟩
variable {tA tB':TT} {rest:List Expr}
def tAnd (t u:TT):TT:=fun σ H Q=>t σ H fun c H1=>if c=true then u σ H1 Q else Q false H1
def tOr (t u:TT):TT:=fun σ H Q=>t σ H fun c H1=>if c=true then Q true H1 else u σ H1 Q
def tNot (t:TT):TT:=fun σ H Q=>t σ H fun c H1=>Q (!c) H1
theorem pw_and1 (ha:PT X a tA):PW X (.BoolOp .And [a] pos) tA:=by
  intro wh pins s σ H Q I h
  refine isTrue_and (thn (ha pins s σ H Q I h) fun c s1 e=>?_)
  cases c with
  | true=>exact isTrue_and_nil e
  | false=>exact e
theorem pw_or1 (ha:PT X a tA):PW X (.BoolOp .Or [a] pos) tA:=by
  intro wh pins s σ H Q I h
  refine isTrue_or (thn (ha pins s σ H Q I h) fun c s1 e=>?_)
  cases c with
  | false=>exact isTrue_or_nil e
  | true=>exact e
theorem pw_and (ha:PT X a tA) (hb:PW X (.BoolOp .And (b :: rest) pos) tB'):PW X (.BoolOp .And (a :: b :: rest) pos) (tAnd tA tB'):=by
  intro wh pins s σ H Q I h
  refine isTrue_and (thn (ha pins s σ H _ I h) fun c s1 ⟨H1,I1,q1⟩=>?_)
  cases c with
  | true=>exact hb wh pins s1 σ H1 Q I1 q1
  | false=>exact ⟨H1,I1,q1⟩
theorem pw_or (ha:PT X a tA) (hb:PW X (.BoolOp .Or (b :: rest) pos) tB'):PW X (.BoolOp .Or (a :: b :: rest) pos) (tOr tA tB'):=by
  intro wh pins s σ H Q I h
  refine isTrue_or (thn (ha pins s σ H _ I h) fun c s1 ⟨H1,I1,q1⟩=>?_)
  cases c with
  | true=>exact ⟨H1,I1,q1⟩
  | false=>exact hb wh pins s1 σ H1 Q I1 q1
theorem mR (ha:PT X a tA):PT X (.UnaryOp .Not a pos) (tNot tA):=by
  intro pins s σ H Q I h
  exact isTrue_not (ha pins s σ H (fun c H1=>Q (!c) H1) I h)
def VN (ta tb:TE):TE:=fun σ H Q=>ta σ H fun x H1=>∃ c,x=.bl c∧if c=true then tb σ H1 Q else Q (.bl false) H1
theorem GC {op} {t:TE} (h:PE X a t):PE X (.BoolOp op [a] pos) t:=fun pins s σ H Q I hw=>BoolOp_one (h pins s σ H Q I hw)
theorem Bp (ha:PE X a ta) (hb:PE X (.BoolOp .And (b :: rest) pos) tb):PE X (.BoolOp .And (a :: b :: rest) pos) (VN ta tb):=by
  intro pins s σ H Q I h
  refine BoolOp_and (thn (ha pins s σ H _ I h) fun v s1 ⟨x,H1,I1,r1,q1⟩=>?_)
  obtain ⟨c,rfl,q1⟩:=q1
  cases r1
  refine wpAny_truthy_bool ?_
  cases c with
  | true=>exact hb pins s1 σ H1 Q I1 q1
  | false=>exact ⟨.bl false,H1,I1,rfl,q1⟩
end
end L2
namespace L2
open PySem PySem.Spec PyProof.Rows
def SqL (K:PySem.W.Frag) (H:Hp) (a:Addr) (xs:List V):Prop :=
  Rd H a (.lst xs) ∨
    ∃ (o:Obj) (its:Array Value) (n:Nat),K.lookup a=some o∧o.cls=.type "list"∧o.dict=none∧o.data=.seq its n∧its.size≤sizeLine∧Vals xs its.toList
def SqT (K:PySem.W.Frag) (H:Hp) (a:Addr) (xs:List V):Prop :=
  Rd H a (.tup xs) ∨
    ∃ (o:Obj) (its:Array Value) (n:Nat),K.lookup a=some o∧o.cls=.type "tuple"∧o.data=.seq its n∧its.size≤sizeLine∧Vals xs its.toList
def absV:Value→Option V
  | .none=>some .non
  | .bool b=>some (.bl b)
  | .int i _=>some (.int i)
  | .str x _=>some (.str x)
  | .bytes b _=>some (.byt b)
  | .float b _=>some (.flt b)
  | .ref a=>some (.ref a)
  | .type n=>some (.ty n)
  | _=>none
theorem RelV.abs {x:V} {u:Value} (r:RelV x u):absV u=some x:=by
  cases x with
  | non=>cases r;rfl
  | bl _=>cases r;rfl
  | int _=>obtain ⟨t,rfl⟩:=r;rfl
  | str _=>obtain ⟨t,rfl⟩:=r;rfl
  | byt _=>obtain ⟨t,rfl⟩:=r;rfl
  | flt _=>obtain ⟨t,rfl⟩:=r;rfl
  | ref _=>cases r;rfl
  | ty _=>cases r;rfl
theorem RelV.inj {x y:V} {u:Value} (r:RelV x u) (q:RelV y u):x=y:=Option.some.inj (r.abs.symm.trans q.abs)
theorem Vals.inj:∀ {xs ys:List V} {us:List Value},Vals xs us→Vals ys us→xs=ys
  | _,_,_,.nil,.nil=>rfl
  | _,_,_,.cons r t,.cons r' t'=>by rw [r.inj r',Vals.inj t t']
section
variable {X:Cx} {pins:List (Addr × Obj)} {σ:St} {H:Hp} {s:Shared} {a:Addr} {xs ys:List V}
theorem SqL.of {K:PySem.W.Frag} (h:H a=some (.lst xs)):SqL K H a xs:=.inl (.inl h)
theorem SqT.of {K:PySem.W.Frag} (h:H a=some (.tup xs)):SqT K H a xs:=.inl (.inl h)
theorem Inv.list (I:Inv X pins σ H s) (h:SqL X.K H a xs):∃ its:List Value,Vals xs its∧PlainL s.heap a its.toArray∧xs.length≤sizeLine:=by
  rcases h with h | ⟨o,its,n,hk,hc,hd,hs,hz,r⟩
  · obtain ⟨z,its,n,r,e⟩:=h.ok I.hok
    exact ⟨its,r,⟨_,n,e,rfl,rfl,rfl⟩,z⟩
  · refine ⟨its.toList,r,⟨o,n,I.kIn a o hk,hc,hd,by simpa using hs⟩,?_⟩
    have e:=r.length
    simp only [Array.length_toList] at e
    omega
theorem Inv.tuple (I:Inv X pins σ H s) (h:SqT X.K H a xs):∃ its:List Value,Vals xs its∧IsTup s.heap a its.toArray∧xs.length≤sizeLine:=by
  rcases h with h | ⟨o,its,n,hk,hc,hs,hz,r⟩
  · obtain ⟨z,its,r,p⟩:=h.ok I.hok
    exact ⟨its,r,p,z⟩
  · refine ⟨its.toList,r,⟨o,I.kIn a o hk,hc,n,by simpa using hs⟩,?_⟩
    have e:=r.length
    simp only [Array.length_toList] at e
    omega
theorem Inv.Ez (I:Inv X pins σ H s) (h:SqL X.K H a xs) (h':SqL X.K H a ys):xs=ys:=by
  obtain ⟨its,r,⟨o,n,e,_,_,d⟩,_⟩:=I.list h
  obtain ⟨its',r',⟨o',n',e',_,_,d'⟩,_⟩:=I.list h'
  rw [e] at e';cases e'
  rw [d] at d'
  injection d' with d1 _
  have:its=its':=by simpa using congrArg Array.toList d1
  subst this
  exact r.inj r'
end
abbrev Cx.wish (X:Cx) (E:Value→Shared→Prop):Cx:={ X with xe:=E }
abbrev Cx.nox (X:Cx):Cx:=X.wish fun _ _=>False
theorem Cx.Ok.wish {X:Cx} (ok:X.Ok) (E:Value→Shared→Prop):(X.wish E).Ok :=
  ⟨ok.mod,ok.kind,ok.glob,ok.blt,ok.above,ok.inj,ok.has,ok.cab,ok.hd,ok.frames,ok.stk,ok.exf,ok.bs,ok.bsz,ok.noex,ok.exfs,ok.Cz,ok.frf⟩
theorem Cx.Ok.oN {X:Cx} {E:Value→Shared→Prop} (ok:(X.wish E).Ok):X.Ok :=
  ⟨ok.mod,ok.kind,ok.glob,ok.blt,ok.above,ok.inj,ok.has,ok.cab,ok.hd,ok.frames,ok.stk,ok.exf,ok.bs,ok.bsz,ok.noex,ok.exfs,ok.Cz,ok.frf⟩
section
variable {X:Cx} {pins:List (Addr × Obj)} {σ:St} {H:Hp} {s:Shared} {E:Value→Shared→Prop}
theorem Inv.wish (I:Inv X pins σ H s) (E:Value→Shared→Prop):Inv (X.wish E) pins σ H s:=⟨I.ok.wish E,I.os,I.bare,I.base,I.loc,I.cell,I.free,I.freeC,I.pin,I.hok,I.len⟩
theorem Inv.oN (I:Inv (X.wish E) pins σ H s):Inv X pins σ H s:=⟨I.ok.oN,I.os,I.bare,I.base,I.loc,I.cell,I.free,I.freeC,I.pin,I.hok,I.len⟩
theorem SP.oN {D:Ends} {f:Flow} {s':Shared} (h:SP (X.wish E) pins D f s'):SP X pins D f s':=by
  cases f with
  | next=>obtain ⟨σ',H',I,q⟩:=h;exact ⟨σ',H',I.oN,q⟩
  | brk=>obtain ⟨σ',H',I,q⟩:=h;exact ⟨σ',H',I.oN,q⟩
  | cont=>obtain ⟨σ',H',I,q⟩:=h;exact ⟨σ',H',I.oN,q⟩
  | ret u=>obtain ⟨v,σ',H',I,r,q⟩:=h;exact ⟨v,σ',H',I.oN,r,q⟩
theorem PSs.nox {st:List Stmt} {t:TS} (h:PSs X.nox st t):PSs X st t:=fun pins s σ H D I hw =>
  wpAny_mono (h pins s σ H D (I.wish _) hw) (fun _ _ q=>q.oN) fun _ _ z=>False.elim z
end
section
variable {X:Cx} {st:Stmt} {rest:List Stmt} {t u:TS} {e:Expr} {te:TE} {pos:Pos}
def Vz:TS:=fun D σ H=>D.nx σ H
def aO (t u:TS):TS:=fun D σ H=>t { D with nx:=u D } σ H
theorem bY:PSs X [] Vz:=fun _ _ σ H _ I h=>wpAny_execs_nil ⟨σ,H,I,h⟩
theorem aq (h1:PS X st t) (h2:PSs X rest u):PSs X (st :: rest) (aO t u):=by
  intro pins s σ H D I h
  refine wpAny_execs_cons (thn (h1 pins s σ H { D with nx:=u D } I h) fun f s1 q=>?_)
  cases f with
  | next =>
    obtain ⟨σ',H',I',q⟩:=q
    exact h2 pins s1 σ' H' D I' q
  | ret v=>exact q
  | brk=>exact q
  | cont=>exact q
theorem aB (h1:PS X st t):PSs X [st] t:=by
  intro pins s σ H D I h
  refine wpAny_execs_cons (thn (h1 pins s σ H D I h) fun f s1 q=>?_)
  cases f with
  | next=>exact wpAny_execs_nil q
  | ret v=>exact q
  | brk=>exact q
  | cont=>exact q
theorem Inv.quiet {pins:List (Addr × Obj)} {σ:St} {H:Hp} {s:Shared} (I:Inv X pins σ H s):interactive X.env=false:=by simp [interactive,I.ok.kind]
def VD (te:TE):TS:=fun D σ H=>te σ H fun _ H1=>D.nx σ H1
theorem eN (he:PE X e te) (hs:swapsWith e none pos.line X.env=pure false:=by rfl):PS X (.Expr e pos) (VD te):=by
  intro pins s σ H D I h
  exact wpAny_Expr_any (thn (he pins s σ H _ I h) fun v s1 ⟨x,H1,I1,r1,q1⟩=>⟨σ,H1,I1,q1⟩) I.quiet hs
def tRet (te:TE):TS:=fun D σ H=>te σ H D.rt
theorem aZ (he:PE X e te):PS X (.Return (some e) pos) (tRet te):=by
  intro pins s σ H D I h
  exact wpAny_Return_some (thn (he pins s σ H _ I h) fun v s1 ⟨x,H1,I1,r1,q1⟩=>⟨x,σ,H1,I1,r1,q1⟩)
def iH (c:TT) (t u:TS):TS:=fun D σ H=>c σ H fun b H1=>if b=true then t D σ H1 else u D σ H1
theorem gZ {c:Expr} {a b:List Stmt} {tc:TT} (hc:PT X c tc) (ha:PSs X a t) (hb:PSs X b u):PS X (.If c a b pos) (iH tc t u):=by
  intro pins s σ H D I h
  refine wpAny_If (thn (hc pins s σ H _ I h) fun d s1 ⟨H1,I1,q1⟩=>?_)
  cases d with
  | true=>exact ha pins s1 σ H1 D I1 q1
  | false=>exact hb pins s1 σ H1 D I1 q1
def Pa:TS:=fun _ _ _=>False
theorem o9:PS X st Pa:=fun _ _ _ _ _ _ h=>h.elim
end
abbrev TG:=V→St→Hp→(St→Hp→Prop)→Prop
abbrev TGs:=List V→St→Hp→(St→Hp→Prop)→Prop
def PG (X:Cx) (target:Expr) (t:TG):Prop :=
  ∀ (pins:List (Addr × Obj)) (s:Shared) (σ:St) (H:Hp) (v:V) (u:Value) (Q:St→Hp→Prop),Inv X pins σ H s→RelV v u→t v σ H Q →
    wpAny (model X.prog X.w) X.A (assign target X.env u) (fun _ s'=>∃ σ' H',Inv X pins σ' H' s'∧Q σ' H') X.xe s
def PGs (X:Cx) (ts:List Expr) (t:TGs):Prop :=
  ∀ (pins:List (Addr × Obj)) (s:Shared) (σ:St) (H:Hp) (vs:List V) (us:List Value) (Q:St→Hp→Prop),Inv X pins σ H s→Vals vs us→t vs σ H Q →
    wpAny (model X.prog X.w) X.A (assignInOrder ((assignEach ts X.env).map (·.2)) us) (fun _ s'=>∃ σ' H',Inv X pins σ' H' s'∧Q σ' H') X.xe s
abbrev Vi:=V→V→V→Hp→(Hp→Prop)→Prop
def X8 (X:Cx) (t:Vi):Prop :=
  ∀ (pins:List (Addr × Obj)) (s:Shared) (σ:St) (H:Hp) (o i v:V) (ov iv u:Value) (Q:Hp→Prop),Inv X pins σ H s→RelV o ov→RelV i iv→RelV v u→t o i v H Q →
    wpAny (model X.prog X.w) X.A (setItem ov iv u) (fun _ s'=>∃ H',Inv X pins σ H' s'∧Q H') X.xe s
abbrev TIp:=V→V→Hp→VK→Prop
def PIp (X:Cx) (op:Operator) (t:TIp):Prop :=
  ∀ (pins:List (Addr × Obj)) (s:Shared) (σ:St) (H:Hp) (x y:V) (v u:Value) (Q:VK),Inv X pins σ H s→RelV x v→RelV y u→t x y H Q →
    wpAny (model X.prog X.w) X.A (inplaceOp op v u) (EP X pins σ Q) X.xe s
section
variable {X:Cx} {pos:Pos}
def Fq (i:Nat):TG:=fun v σ H Q=>Q (σ.set i (some v)) H
theorem aF {i:Nat} {x:Str} (hN:X.N.Nodup) (hi:X.N[i]?=some x) (hx:Loc X.env.scope x) (hf:X.fn x=true∨X.env.scope.names.lookup x=some .local:=by first | exact .inl rfl | exact .inr rfl | assumption):PG X (.Name x pos) (Fq i):=by
  intro pins s σ H v u Q I r h
  exact wpAny_assign_Name (xr I hN hi hx r (fun s' I'=>⟨_,H,I',h⟩) hf)
def gNil:TGs:=fun vs σ H Q=>vs=[]∧Q σ H
def XS (t:TG) (u:TGs):TGs:=fun vs σ H Q=>∃ v r,vs=v :: r∧t v σ H fun σ' H'=>u r σ' H' Q
theorem cJ:PGs X [] gNil:=by
  intro pins s σ H vs us Q I r h
  obtain ⟨e,h⟩:=h
  subst e
  cases r
  exact assignInOrder_nil ⟨σ,H,I,h⟩
theorem aH {e:Expr} {es:List Expr} {t:TG} {u:TGs} (h1:PG X e t) (h2:PGs X es u)
    (hs:(assignEach (e :: es) X.env).map (·.2)=assign e X.env :: (assignEach es X.env).map (·.2):=by rfl):PGs X (e :: es) (XS t u):=by
  intro pins s σ H vs us Q I r h
  obtain ⟨v,vr,e1,h⟩:=h
  subst e1
  cases r with
  | cons r rr =>
    rw [hs]
    refine assignInOrder_cons (thn (h1 pins s σ H _ _ _ I r h) fun _ s1 ⟨σ1,H1,I1,q1⟩=>?_)
    exact h2 pins s1 σ1 H1 _ _ Q I1 rr q1
def Yy (K:PySem.W.Frag) (n:Nat) (t:TGs):TG:=fun v σ H Q=>∃ a xs,v=.ref a∧SqT K H a xs∧xs.length=n∧t xs σ H Q
theorem iB {es:List Expr} {k:Nat} {t:TGs} {n:Nat} (hc:X.calm=true) (h:PGs X es t)
    (hn:(assignEach es X.env).length=n:=by rfl) (hst:(assignEach es X.env).findIdx? (·.1)=none:=by rfl):PG X (.Tuple es k pos) (Yy X.K n t):=by
  intro pins s σ H v u Q I r hw
  obtain ⟨a,xs,e1,hq,hl,hw⟩:=hw
  subst e1
  cases r
  obtain ⟨its,rv,ht,hz⟩:=I.tuple hq
  refine assign_Tuple_tuple (I.ok.hd hc) ht (by simp [hn,← hl,rv.length]) hst fun h' hx=>?_
  have I1:Inv X pins σ H { s with heap:=h' }:=I.kept (t':=s.toks) fun b o e=>hx b o (Nat.ne_of_lt (Heap.lt_size e)) e
  exact h pins _ σ H xs _ Q I1 (by simpa using rv) hw
def gSub (to ti:TE) (t:Vi):TG:=fun v σ H Q=>to σ H fun o H1=>ti σ H1 fun i H2=>t o i v H2 fun H3=>Q σ H3
theorem pX {o i:Expr} {to ti:TE} {t:Vi} (ho:PE X o to) (hi:PE X i ti) (hs:X8 X t)
    (ha:∀ v,assign (.Subscript o i pos) X.env v=(do
      let ov ← holding [v] (eval o X.env)
      let iv ← holding [v,ov] (eval i X.env)
      standAt pos
      holding [v,ov,iv] (setItem ov iv v)
      release [v,ov,iv] []):=by intro _;rfl):PG X (.Subscript o i pos) (gSub to ti t):=by
  intro pins s σ H v u Q I r h
  rw [ha]
  refine wpAny_bind (wpAny_holding (thn (ho pins s σ H _ I h) fun ov s1 ⟨x,H1,I1,r1,q1⟩=>?_))
  refine wpAny_bind (wpAny_holding (thn (hi pins s1 σ H1 _ I1 q1) fun iv s2 ⟨y,H2,I2,r2,q2⟩=>?_))
  refine wpAny_bind (wpAny_standAt (wpAny_bind (wpAny_holding (thn (hs pins s2 σ H2 x y v ov iv u _ I2 r1 r2 r q2) fun _ s3 ⟨H3,I3,q3⟩=>?_))))
  exact wpAny_release ⟨σ,H3,I3,q3⟩
def VL (te:TE) (g:TG):TS:=fun D σ H=>te σ H fun x H1=>g x σ H1 D.nx
theorem iD {tg e:Expr} {te:TE} {g:TG} (he:PE X e te) (hg:PG X tg g) (hs:swapsWithSole [tg] e pos.line X.env=pure false:=by rfl) (hw:swappedStores [tg] e X.env=pure none:=by rfl)
    (h1:(assignEach [tg] X.env).map (·.2)=[assign tg X.env]:=by rfl):PS X (.Assign [tg] e pos) (VL te g):=by
  intro pins s σ H D I h
  refine wpAny_Assign_stores (thn (he pins s σ H _ I h) fun v s1 ⟨x,H1,I1,r1,q1⟩=>?_) hs hw
  rw [h1]
  exact thn (hg pins s1 σ H1 x v _ I1 r1 q1) fun _ s2 q=>q
theorem aR {i:Nat} {x:Str} {e:Expr} {te:TE} {pos':Pos} (hN:X.N.Nodup) (hi:X.N[i]?=some x) (hx:Loc X.env.scope x) (he:PE X e te) (hs:swapsWith e (some (.Name x pos')) pos.line X.env=pure false:=by rfl) (hf:X.fn x=true∨X.env.scope.names.lookup x=some .local:=by first | exact .inl rfl | exact .inr rfl | assumption) :
    PS X (.Assign [.Name x pos'] e pos) (VL te (Fq i)):=by
  intro pins s σ H D I h
  refine wpAny_Assign_Name (thn (he pins s σ H _ I h) fun v s1 ⟨y,H1,I1,r1,q1⟩=>?_) hs
  exact xr I1 hN hi hx r1 (fun s2 I2=>⟨_,H1,I2,q1⟩) hf
def VJ (to ti te:TE) (tget:V→V→Hp→VK→Prop) (tip:TIp) (tset:Vi):TS:=fun D σ H=>to σ H fun o H1=>ti σ H1 fun i H2=>tget o i H2 fun x H3=>te σ H3 fun y H4=>tip x y H4 fun z H5=>tset o i z H5 fun H6=>D.nx σ H6
def YC (X:Cx) (t:V→V→Hp→VK→Prop):Prop :=
  ∀ (pins:List (Addr × Obj)) (s:Shared) (σ:St) (H:Hp) (o i:V) (ov iv:Value) (Q:VK),Inv X pins σ H s→RelV o ov→RelV i iv→t o i H Q →
    wpAny (model X.prog X.w) X.A (getItem ov iv) (EP X pins σ Q) X.xe s
theorem mY {o i e:Expr} {to ti te:TE} {tget:V→V→Hp→VK→Prop} {tip:TIp} {tset:Vi} {op:Operator} {tpos:Pos} (ho:PE X o to) (hi:PE X i ti) (hg:YC X tget) (he:PE X e te) (hp:PIp X op tip) (hs:X8 X tset)
    (ha:∀ ov iv new,augStore i ov iv new=(do holding [new,ov,iv] (setItem ov iv new);release [new,ov,iv] [];pure .next):=by intros;rfl):PS X (.AugAssign (.Subscript o i tpos) op e pos) (VJ to ti te tget tip tset):=by
  intro pins s σ H D I h
  refine wpAny_AugAssign_SubscriptAny (thn (ho pins s σ H _ I h) fun ov s1 ⟨x1,H1,I1,r1,q1⟩=>?_) ha
  refine thn (hi pins s1 σ H1 _ I1 q1) fun iv s2 ⟨x2,H2,I2,r2,q2⟩=>?_
  refine thn (hg pins s2 σ H2 x1 x2 ov iv _ I2 r1 r2 q2) fun old s3 ⟨x3,H3,I3,r3,q3⟩=>?_
  refine thn (he pins s3 σ H3 _ I3 q3) fun v s4 ⟨x4,H4,I4,r4,q4⟩=>?_
  refine thn (hp pins s4 σ H4 x3 x4 old v _ I4 r3 r4 q4) fun new s5 ⟨x5,H5,I5,r5,q5⟩=>?_
  exact thn (hs pins s5 σ H5 x1 x2 x5 ov iv new _ I5 r1 r2 r5 q5) fun _ s6 ⟨H6,I6,q6⟩=>⟨σ,H6,I6,q6⟩
def ipI (f:Int→Int→Int):TIp:=fun x y H Q=>∃ i j,x=.int i∧y=.int j∧Q (.int (f i j)) H
theorem yr:PIp X .Add (ipI fun i j=>i + j):=by
  intro pins s σ H x y v u Q I r1 r2 h
  obtain ⟨i,j,e1,e2,q⟩:=h
  subst e1;subst e2
  obtain ⟨t,rfl⟩:=r1
  obtain ⟨t',rfl⟩:=r2
  exact iadd_int ⟨.int _,H,I.tok _,⟨_,rfl⟩,q⟩
theorem Cr:PIp X .Sub (ipI fun i j=>i - j):=by
  intro pins s σ H x y v u Q I r1 r2 h
  obtain ⟨i,j,e1,e2,q⟩:=h
  subst e1;subst e2
  obtain ⟨t,rfl⟩:=r1
  obtain ⟨t',rfl⟩:=r2
  exact isub_int ⟨.int _,H,I.tok _,⟨_,rfl⟩,q⟩
end
section
variable {X:Cx} {pos:Pos}
def pH (c:TT) (tb:TS):TS:=fun D σ H=>∃ W:Nat→St→Hp→Prop,(∃ m,W m σ H)∧∀ m σ H,W m σ H →
  c σ H fun b H1=>if b=true then ∃ N:St→Hp→Prop,(∀ σ' H',N σ' H'→∃ m',m'<m∧W m' σ' H')∧tb { D with nx:=N,ct:=N,bk:=D.nx } σ H1 else D.nx σ H1
theorem rT {c:Expr} {body:List Stmt} {tc:TT} {tb:TS} (hp:PassesOwn (model X.prog X.w) X.A X.env X.xe) (hc:PT X c tc) (hb:PSs X body tb):PS X (.While c body [] pos) (pH tc tb):=by
  intro pins s σ H D I h
  obtain ⟨W,⟨m0,w0⟩,turn⟩:=h
  refine wpAny_While (codeAny_whileLoop (fun n s'=>∃ σ' H',Inv X pins σ' H' s'∧W n σ' H') ?_ m0 ⟨σ,H,I,w0⟩)
  rintro n s1 ⟨σ1,H1,I1,w1⟩
  refine wpAny_passesOwn hp (thn (hc pins s1 σ1 H1 _ I1 (turn n σ1 H1 w1)) fun b s2 ⟨H2,I2,q2⟩=>?_)
  cases b with
  | true =>
    obtain ⟨N,hN,q2⟩:=q2
    rw [if_pos rfl]
    refine wpAny_passesOwn hp (thn (hb pins s2 σ1 H2 _ I2 q2) fun f s3 q3=>?_)
    cases f with
    | next =>
      obtain ⟨σ3,H3,I3,n3⟩:=q3
      obtain ⟨m',hm,w3⟩:=hN σ3 H3 n3
      exact ⟨m',hm,σ3,H3,I3,w3⟩
    | cont =>
      obtain ⟨σ3,H3,I3,n3⟩:=q3
      obtain ⟨m',hm,w3⟩:=hN σ3 H3 n3
      exact ⟨m',hm,σ3,H3,I3,w3⟩
    | brk=>exact q3
    | ret v=>exact q3
  | false =>
    rw [if_neg Bool.false_ne_true]
    exact wpAny_execs_nil ⟨σ1,H2,I2,q2⟩
end
structure It where
  go:Nat→Hp→Prop
  yld:Nat→Hp→V→Hp→Prop
  stop:Nat→Hp→Prop
def vD (X:Cx) (pins:List (Addr × Obj)) (H:Hp) (b:Addr):Prop :=
  H b=none∧b≠X.env.locals∧b ∉ X.fs∧(b∈X.ex∨X.s₀.heap.objs.size≤b)∧(∀ x c,X.env.cells.lookup x=some c→c≠b)∧∀ p∈X.pn++pins,p.1≠b
theorem Inv.zH {X:Cx} {pins:List (Addr × Obj)} {σ:St} {H H':Hp} {s:Shared} {b:Addr} (I:Inv X pins σ H s) (hb:s.heap.objs.size≤b) (hn:H' b=none):vD X pins H' b:=by
  refine ⟨hn,Nat.ne_of_gt (Nat.lt_of_lt_of_le I.lt hb),I.nofs hb,.inr (Nat.le_trans I.sz hb),fun x c e z=>?_,fun p hp z=>?_⟩
  · obtain ⟨v,q⟩:=I.cell x c e
    exact absurd (Nat.lt_of_lt_of_le q.lt (by rw [z];exact hb)) (Nat.lt_irrefl _)
  · exact absurd (Nat.lt_of_lt_of_le (Heap.lt_size (I.pin p hp).1) (by rw [z];exact hb)) (Nat.lt_irrefl _)
structure Turn (P:Program) (w:World) (K:PySem.W.Frag) (tg:Expr) (J:It) (fp:List Addr) (it:Addr) (tn:Nat→Heap→Prop):Prop where
  mem:it∈fp
  obj:∀ i h,tn i h→∀ b∈fp,∃ o,h.get? b=some o∧∀ v,o.data≠.cell v
  keep:∀ i h h',tn i h→(∀ b∈fp,∀ o,h.get? b=some o→h'.get? b=some o)→tn i h'
  item:∀ (X:Cx),X.prog=P→X.w=w→X.K=K→X.calm=true→∀ (i:Nat) (pins:List (Addr × Obj)) (s:Shared) (σ:St) (H:Hp) (E:Value→Shared→Prop),Inv X pins σ H s→(∀ b∈fp,vD X pins H b)→tn i s.heap→J.go i H →
    wpAny (model P w) X.A (pyNext (.ref it)) (fun r s1=>∃ u,r=some u ∧
      wpAny (model P w) X.A (letOwnedTupleGo tg (.ref it) u) (fun _ s2=>∃ x H',Inv X pins σ H' s2∧RelV x u∧J.yld i H x H'∧tn (i + 1) s2.heap∧∀ b∈fp,H' b=none) E s1) E s
  done:∀ (X:Cx),X.prog=P→X.w=w→X.K=K→X.calm=true→∀ (i:Nat) (pins:List (Addr × Obj)) (s:Shared) (σ:St) (H:Hp) (E:Value→Shared→Prop),Inv X pins σ H s→(∀ b∈fp,vD X pins H b)→tn i s.heap→J.stop i H →
    wpAny (model P w) X.A (pyNext (.ref it)) (fun r s1=>r=none∧Inv X pins σ H s1) E s
  self:∀ (A:Around) (i:Nat) (s:Shared) (Q:Value→Shared→Prop) (E:Value→Shared→Prop),tn i s.heap→Q (.ref it) s→wpAny (model P w) A (pyIter (.ref it)) Q E s
abbrev TI:=St→Hp→(It→Hp→Prop)→Prop
def PIE (X:Cx) (pins:List (Addr × Obj)) (σ:St) (tg:Expr) (R:It→Hp→Prop) (itv:Value) (s2:Shared):Prop :=
  ∃ (it:Addr) (fp:List Addr) (tn:Nat→Heap→Prop) (J:It) (H':Hp),itv=.ref it∧Inv X pins σ H' s2∧Turn X.prog X.w X.K tg J fp it tn∧tn 0 s2.heap∧(∀ b∈fp,vD X pins H' b)∧R J H'
def PI (X:Cx) (tg iter:Expr) (wi:TI):Prop :=
  ∀ (pins:List (Addr × Obj)) (s:Shared) (σ:St) (H:Hp) (R:It→Hp→Prop),Inv X pins σ H s→wi σ H R →
    wpAny (model X.prog X.w) X.A (eval iter X.env) (fun v s1=>wpAny (model X.prog X.w) X.A (pyIter v) (PIE X pins σ tg R) X.xe s1) X.xe s
theorem U9 {M:Model} {A:Around} {E:Value→Shared→Prop} {s:Shared} {tg:Expr} {it:Addr} {u:Value} {o:Obj} {n:String} {vs:Array Value} {Q:Unit→Shared→Prop} (ho:s.heap.get? it=some o) (hc:o.cls=.type n) (hd:o.data=.fields vs)
    (hn:["enumerate","zip","dict_itemiterator","dict_reverseitemiterator","odict_iterator","itertools.zip_longest","itertools.pairwise"].contains n=false) (hQ:Q () s):wpAny M A (letOwnedTupleGo tg (.ref it) u) Q E s:=by
  unfold letOwnedTupleGo
  cases tg <;> first
    | exact wpAny_pure hQ
    | (cases u <;> first
        | exact wpAny_pure hQ
        | (refine wpAny_bind (wpAny_load ho ?_)
           rw [hc,hd]
           show wpAny M A (if (["enumerate","zip","dict_itemiterator","dict_reverseitemiterator","odict_iterator","itertools.zip_longest","itertools.pairwise"].contains n && vs[0]? == some (rawInt _))=true then _ else _) Q E s
           rw [if_neg (by intro h;rw [hn,Bool.false_and] at h;cases h)]
           exact wpAny_pure hQ))
def Itl (K:PySem.W.Frag) (a:Addr):It :=
  ⟨fun i H=>∃ xs x,SqL K H a xs∧xs[i]?=some x,fun i H x H'=>H'=H∧∀ xs,SqL K H a xs→xs[i]?=some x,fun i H=>∃ xs,SqL K H a xs∧xs.length≤i⟩
def Itr (lo:Int) (n:Nat):It:=⟨fun i _=>i<n,fun i H x H'=>H'=H∧x=.int (lo + i),fun i _=>n≤i⟩
theorem zU {P:Program} {w:World} {K:PySem.W.Frag} {tg:Expr} (a it:Addr):Turn P w K tg (Itl K a) [it] it (fun i h=>h.IsListIter it a i) where
  mem:=by simp
  obj:=fun i h st b hb=>by
    have e:b=it:=by simpa using hb
    subst e
    obtain ⟨o,e,c,d⟩:=st
    exact ⟨o,e,fun v z=>by rw [d] at z;cases z⟩
  keep:=fun i h h' st k=>st.at fun o e=>k it (by simp) o e
  item:=by
    intro X hP hw hK hc i pins s σ H E I hf st hg
    subst hP hw hK
    obtain ⟨xs,x,hq,hx⟩:=hg
    obtain ⟨its,rv,p,hz⟩:=I.list hq
    obtain ⟨u,hu,ru⟩:=rv.get hx
    obtain ⟨f0,f1,f2,f3,f4,f5⟩:=hf it (by simp)
    refine wpAny_pyNext_list_item st p.isList (x:=u) (by simpa using hu) fun h' st' sb=>?_
    have I1:Inv X pins σ H { s with heap:=h' }:=I.turned (t':=s.toks) (fun b o hb e=>(sb.2 b hb).trans e) f0 f1 f3 f4 f5
    obtain ⟨o,e,c,d⟩:=id st'
    exact ⟨u,rfl,U9 (s:={ s with heap:=h' }) e c d (by decide) ⟨x,H,I1,ru,⟨rfl,fun ys hy=>by rw [I.Ez hy hq];exact hx⟩,st',fun b hb=>(hf b hb).1⟩⟩
  done:=by
    intro X hP hw hK hc i pins s σ H E I hf st hg
    subst hP hw hK
    obtain ⟨xs,hq,hx⟩:=hg
    obtain ⟨its,rv,p,hz⟩:=I.list hq
    obtain ⟨f0,f1,f2,f3,f4,f5⟩:=hf it (by simp)
    have hl:=rv.length
    exact wpAny_pyNext_list_end (I.ok.hd hc) st p.isList (by simp;omega) fun h' eb=>⟨rfl,I.turned (t':=s.toks) (fun b o hb e=>eb b o hb e) f0 f1 f3 f4 f5⟩
  self:=fun _ _ _ _ _ st h=>wpAny_pyIter_listiter st h
theorem yP {P:Program} {w:World} {K:PySem.W.Frag} {tg:Expr} (it:Addr) (lo:Int) (n:Nat):Turn P w K tg (Itr lo n) [it] it (fun i h=>IsRangeIter h it (lo + (i:Nat) * 1) ((n:Int) - (i:Nat)) 1) where
  mem:=by simp
  obj:=fun i h st b hb=>by
    have e:b=it:=by simpa using hb
    subst e
    exact ⟨_,st,fun v z=>by
      have z':Data.fields _=Data.cell v:=z
      cases z'⟩
  keep:=fun i h h' st k=>k it (by simp) _ st
  item:=by
    intro X hP hw hK hc i pins s σ H E I hf st hg
    subst hP hw hK
    obtain ⟨f0,f1,f2,f3,f4,f5⟩:=hf it (by simp)
    have W:=Walks.range (prog:=X.prog) (w:=X.w) (I.ok.hd hc) it lo 1 n
    refine W.item i s _ _ hg st fun v h' tk hv st' kk=>?_
    obtain ⟨t,rfl⟩:=hv
    have I1:Inv X pins σ H { s with heap:=h',toks:=tk }:=I.turned (fun b o hb e=>kk b o (by simpa using hb) e) f0 f1 f3 f4 f5
    refine ⟨_,rfl,U9 (s:={ s with heap:=h',toks:=tk }) (n:="range_iterator") st' rfl rfl (by decide) ⟨.int (lo + i),H,I1,⟨t,?_⟩,⟨rfl,rfl⟩,st',fun b hb=>(hf b hb).1⟩⟩
    rw [Int.mul_one]
  done:=by
    intro X hP hw hK hc i pins s σ H E I hf st hg
    subst hP hw hK
    obtain ⟨f0,f1,f2,f3,f4,f5⟩:=hf it (by simp)
    exact wpAny_pyNext_range_end (I.ok.hd hc) st (by have:n≤i:=hg;omega) fun h' eb=>⟨rfl,I.turned (t':=s.toks) (fun b o hb e=>eb b o hb e) f0 f1 f3 f4 f5⟩
  self:=fun _ _ _ _ _ st h=>wpAny_pyIter_rangeiter st h
end L2
namespace L2
open PySem PySem.Spec PyProof.Rows
section
variable {X:Cx} {tg:Expr}
def WK (K:PySem.W.Frag) (tl:TE):TI:=fun σ H R=>tl σ H fun x H1=>∃ a,x=.ref a∧(∃ xs,SqL K H1 a xs)∧R (Itl K a) H1
theorem bO {l:Expr} {tl:TE} (hl:PE X l tl):PI X tg l (WK X.K tl):=by
  intro pins s σ H R I h
  refine thn (hl pins s σ H _ I h) fun v s1 ⟨x,H1,I1,r1,q1⟩=>?_
  obtain ⟨a,e,⟨xs,hq⟩,q⟩:=q1
  subst e
  cases r1
  obtain ⟨its,rv,p,hz⟩:=I1.list hq
  refine wpAny_pyIter_list p.isList ?_
  refine ⟨s1.heap.objs.size,[s1.heap.objs.size],_,_,H1,rfl,I1.kept (t':=s1.toks) fun b o e=>Heap.get?_push_of_some _ e,zU a _,⟨_,Heap.get?_push_size _ rfl,rfl,rfl⟩,fun b hb=>?_,q⟩
  have e:b=s1.heap.objs.size:=by simpa using hb
  subst e
  exact I1.zH (Nat.le_refl _) (I1.hok.fresh (Nat.le_refl _))
theorem Ed {pins:List (Addr × Obj)} {σ:St} {H:Hp} {s:Shared} {R:It→Hp→Prop} {E:Value→Shared→Prop} {lo hi:Int} {t u v:Tok} {tk:Nat} (I:Inv X pins σ H s) (h1:-(2 ^ 62)≤lo) (h2:lo<2 ^ 62) (h3:-(2 ^ 62)≤hi) (h4:hi<2 ^ 62)
    (q:R (Itr lo (hi - lo).toNat) H):wpAny (model X.prog X.w) X.A (pyIter (.ref s.heap.objs.size)) (PIE X pins σ tg R) E { s with heap:=s.heap.push { cls:=.type "range",data:=.fields #[.int lo t,.int hi u,.int 1 v] },toks:=tk }:=by
  refine wpAny_pyIter_range (IsRange.new ..) (small_one h1 h2 h3 h4) ?_
  have I1:Inv X pins σ H { s with heap:=s.heap.push { cls:=.type "range",data:=.fields #[.int lo t,.int hi u,.int 1 v] },toks:=tk }:=I.kept fun b o e=>Heap.get?_push_of_some _ e
  refine ⟨(s.heap.push { cls:=.type "range",data:=.fields #[.int lo t,.int hi u,.int 1 v] }).objs.size,[(s.heap.push { cls:=.type "range",data:=.fields #[.int lo t,.int hi u,.int 1 v] }).objs.size],_,_,H,rfl,
    I1.kept (t':=tk) fun b o e=>Heap.get?_push_of_some _ e,yP _ lo (hi - lo).toNat,?_,fun b hb=>?_,q⟩
  · have e1:lo + ((0:Nat):Int) * 1=lo:=by simp
    have e2:(((hi - lo).toNat:Nat):Int) - ((0:Nat):Int)=Builtin.Range.rangeSize lo hi 1:=by rw [rangeSize_one];split <;> omega
    show IsRangeIter _ _ (lo + ((0:Nat):Int) * 1) ((((hi - lo).toNat:Nat):Int) - ((0:Nat):Int)) 1
    rw [e1,e2]
    exact Heap.get?_push_size _ rfl
  · have e:b=(s.heap.push { cls:=.type "range",data:=.fields #[.int lo t,.int hi u,.int 1 v] }).objs.size:=by simpa using hb
    subst e
    exact I1.zH (Nat.le_refl _) (I1.hok.fresh (Nat.le_refl _))
def WD (ta:TA):TI:=fun σ H R=>ta σ H fun vs H1=>∃ j:Int,vs=[.int j]∧-(2 ^ 62)≤j∧j<2 ^ 62∧R (Itr 0 j.toNat) H1
theorem cZ {a:Expr} {ta:TA} {p pos:Pos} (hg:Gl X "range") (hm:X.mg "range"=none) (ha:PA X [a] ta) (hs:starEach [a] X.env=[(false,eval a X.env)]:=by rfl):PI X tg (.Call (.Name "range" p) [a] [] pos) (WD ta):=by
  intro pins s σ H R I h
  refine Call_ (lK I hg hm boot_range (PyProof.Rows.callWith_type1 (thn (ha pos pins s σ H _ I h) fun us s1 ⟨vs,H1,I1,r1,q1⟩=>?_) hs rfl))
  obtain ⟨j,e,q1,q2,q⟩:=q1
  subst e
  cases r1 with
  | cons r rr =>
    cases rr
    obtain ⟨t,rfl⟩:=r
    exact call_range_1 (Ed I1 (by omega) (by omega) q1 q2 (by simpa using q))
def jq (wi:TI) (g:TG) (tb:TS):TS:=fun D σ H=>wi σ H fun J H1=>∃ W:Nat→Nat→St→Hp→Prop,(∃ m,W 0 m σ H1)∧∀ i m σ H,W i m σ H →
  (J.stop i H∧D.nx σ H)∨(J.go i H∧∃ N:St→Hp→Prop,(∀ σ' H',N σ' H'→∃ m',m'<m∧W (i + 1) m' σ' H')∧∀ x H',J.yld i H x H'→g x σ H' fun σ2 H2=>tb { D with nx:=N,ct:=N,bk:=D.nx } σ2 H2)
def uG (fp:List Addr) (h:Heap):List (Addr × Obj):=fp.filterMap fun b=>(h.get? b).map fun o=>(b,o)
theorem mG {fp:List Addr} {h:Heap} {b:Addr} {o:Obj} (hb:b∈fp) (e:h.get? b=some o):(b,o)∈uG fp h:=List.mem_filterMap.mpr ⟨b,hb,by rw [e];rfl⟩
theorem Bx {fp:List Addr} {h:Heap} {p:Addr × Obj} (hp:p∈uG fp h):p.1∈fp∧h.get? p.1=some p.2:=by
  obtain ⟨b,hb,e⟩:=List.mem_filterMap.mp hp
  cases q:h.get? b with
  | none=>rw [q] at e;cases e
  | some o =>
    rw [q] at e
    have e':(b,o)=p:=Option.some.inj e
    subst e'
    exact ⟨hb,q⟩
theorem Inv.pinned {pins:List (Addr × Obj)} {σ:St} {H:Hp} {s:Shared} {fp:List Addr} (I:Inv X pins σ H s) (hf:∀ b∈fp,vD X pins H b) (ho:∀ b∈fp,∃ o,s.heap.get? b=some o∧∀ v,o.data≠.cell v):Inv X (pins++uG fp s.heap) σ H s :=
  I.vX fun p hp=>(List.mem_append.mp hp).elim (fun z=>I.pin p (List.mem_append_right _ z)) fun z=>by
    obtain ⟨hb,e⟩:=Bx z
    obtain ⟨f0,f1,f2,_⟩:=hf p.1 hb
    obtain ⟨o,e',d⟩:=ho p.1 hb
    rw [e] at e';cases e'
    exact ⟨e,f0,f1,f2,d⟩
theorem Inv.jo {pins pl:List (Addr × Obj)} {σ:St} {H:Hp} {s:Shared} (I:Inv X (pins++pl) σ H s):Inv X pins σ H s:=I.vX fun p hp=>I.pin p (List.mem_append_right _ (List.mem_append_left _ hp))
theorem dH {iter:Expr} {body:List Stmt} {wi:TI} {g:TG} {tb:TS} {pos:Pos} (hp:PassesOwn (model X.prog X.w) X.A X.env X.xe) (hc:X.calm=true) (hi:PI X tg iter wi) (hg:PG X tg g) (hb:PSs X body tb)
    (hs:∀ x,foldedSetIterable iter X.env x=pure x:=by intro _;rfl):PS X (.For tg iter body [] pos) (jq wi g tb):=by
  intro pins s σ H D I h
  refine wpAny_For (thn (hi pins s σ H _ I h) fun v s1 h1=>thn h1 fun itv s2 h2=>?_) hs
  obtain ⟨it,fp,tn,J,H2,e,I2,T,st2,f2,W,⟨m0,w0⟩,turn⟩:=h2
  subst e
  have stat:∀ {H':Hp},(∀ b∈fp,H' b=none)→∀ b∈fp,vD X pins H' b:=fun hn b hb=>⟨hn b hb,(f2 b hb).2⟩
  refine codeAny_forLoop_any (fun n s'=>∃ i σ' H',Inv X pins σ' H' s'∧tn i s'.heap∧(∀ b∈fp,H' b=none)∧W i n σ' H') ?_ m0 ⟨0,σ,H2,I2,st2,fun b hb=>(f2 b hb).1,w0⟩
  rintro n s3 ⟨i,σ3,H3,I3,st3,fr3,w3⟩
  rcases turn i n σ3 H3 w3 with ⟨stop,qn⟩ | ⟨go,N,hN,step⟩
  · refine wpAny_passesOwn hp (thn (T.done X rfl rfl rfl hc i pins s3 σ3 H3 X.xe I3 (stat fr3) st3 stop) fun r s4 ⟨hr,I4⟩=>?_)
    subst hr
    exact wpAny_execs_nil ⟨σ3,H3,I4,qn⟩
  · refine wpAny_passesOwn hp (thn (T.item X rfl rfl rfl hc i pins s3 σ3 H3 X.xe I3 (stat fr3) st3 go) fun r s4 ⟨u,hr,h4⟩=>?_)
    subst hr
    refine wpAny_passesOwn hp (thn h4 fun _ s5 ⟨x,H5,I5,r5,y5,st5,fr5⟩=>?_)
    have I5':=I5.pinned (stat fr5) (T.obj _ _ st5)
    refine wpAny_passesOwn hp (thn (hg _ s5 σ3 H5 x u _ I5' r5 (step x H5 y5)) fun _ s6 ⟨σ6,H6,I6,q6⟩=>?_)
    refine wpAny_passesOwn hp (thn (hb _ s6 σ6 H6 _ I6 q6) fun f s7 q7=>?_)
    have again:∀ {σ7:St} {H7:Hp},Inv X (pins++uG fp s5.heap) σ7 H7 s7→N σ7 H7→∃ m,m<n∧∃ i σ' H',Inv X pins σ' H' s7∧tn i s7.heap∧(∀ b∈fp,H' b=none)∧W i m σ' H':=fun {σ7 H7} I7 n7=>by
      obtain ⟨m',hm,w7⟩:=hN σ7 H7 n7
      refine ⟨m',hm,i + 1,σ7,H7,I7.jo,T.keep _ _ _ st5 fun b hb o e=>(I7.pin (b,o) (List.mem_append_right _ (List.mem_append_right _ (mG hb e)))).1,fun b hb=>?_,w7⟩
      obtain ⟨o,e,d⟩:=T.obj _ _ st5 b hb
      exact (I7.pin (b,o) (List.mem_append_right _ (List.mem_append_right _ (mG hb e)))).2.1
    cases f with
    | next=>obtain ⟨σ7,H7,I7,n7⟩:=q7;exact again I7 n7
    | cont=>obtain ⟨σ7,H7,I7,n7⟩:=q7;exact again I7 n7
    | brk=>obtain ⟨σ7,H7,I7,q7⟩:=q7;exact ⟨σ7,H7,I7.jo,q7⟩
    | ret v=>obtain ⟨x7,σ7,H7,I7,r7,q7⟩:=q7;exact ⟨x7,σ7,H7,I7.jo,r7,q7⟩
end
theorem eU {K:PySem.W.Frag} {a:Addr} {xs:List V} {g:TG} {tb:TS} {D:Ends} {σ:St} {H:Hp} (Pv:Nat→St→Hp→Prop) (h0:Pv 0 σ H) (hl:∀ i σ H,i≤xs.length→Pv i σ H→SqL K H a xs)
    (hs:∀ i x σ H,xs[i]?=some x→Pv i σ H→g x σ H fun σ2 H2=>tb { D with nx:=Pv (i + 1),ct:=Pv (i + 1),bk:=D.nx } σ2 H2) (hd:∀ σ H,Pv xs.length σ H→D.nx σ H) :
    ∃ W:Nat→Nat→St→Hp→Prop,(∃ m,W 0 m σ H)∧∀ i m σ H,W i m σ H →
      ((Itl K a).stop i H∧D.nx σ H)∨((Itl K a).go i H∧∃ N:St→Hp→Prop,(∀ σ' H',N σ' H'→∃ m',m'<m∧W (i + 1) m' σ' H')∧∀ x H',(Itl K a).yld i H x H'→g x σ H' fun σ2 H2=>tb { D with nx:=N,ct:=N,bk:=D.nx } σ2 H2):=by
  refine ⟨fun i m σ H=>m=xs.length - i∧i≤xs.length∧Pv i σ H,⟨xs.length,by simp,Nat.zero_le _,h0⟩,?_⟩
  rintro i m σ H ⟨rfl,hi,p⟩
  have q:=hl i σ H hi p
  by_cases hlt:i<xs.length
  · refine .inr ⟨⟨xs,xs[i],q,by simp [hlt]⟩,Pv (i + 1),fun σ' H' p'=>⟨xs.length - (i + 1),by omega,rfl,hlt,p'⟩,fun x H' y=>?_⟩
    obtain ⟨e,y⟩:=y
    subst e
    exact hs i x σ _ (y xs q) p
  · have e:i=xs.length:=by omega
    subst e
    exact .inl ⟨⟨xs,q,Nat.le_refl _⟩,hd σ H p⟩
theorem jL {lo:Int} {n:Nat} {g:TG} {tb:TS} {D:Ends} {σ:St} {H:Hp} (Pv:Nat→St→Hp→Prop) (h0:Pv 0 σ H)
    (hs:∀ i σ H,i<n→Pv i σ H→g (.int (lo + i)) σ H fun σ2 H2=>tb { D with nx:=Pv (i + 1),ct:=Pv (i + 1),bk:=D.nx } σ2 H2) (hd:∀ σ H,Pv n σ H→D.nx σ H) :
    ∃ W:Nat→Nat→St→Hp→Prop,(∃ m,W 0 m σ H)∧∀ i m σ H,W i m σ H →
      ((Itr lo n).stop i H∧D.nx σ H)∨((Itr lo n).go i H∧∃ N:St→Hp→Prop,(∀ σ' H',N σ' H'→∃ m',m'<m∧W (i + 1) m' σ' H')∧∀ x H',(Itr lo n).yld i H x H'→g x σ H' fun σ2 H2=>tb { D with nx:=N,ct:=N,bk:=D.nx } σ2 H2):=by
  refine ⟨fun i m σ H=>m=n - i∧i≤n∧Pv i σ H,⟨n,by simp,Nat.zero_le _,h0⟩,?_⟩
  rintro i m σ H ⟨rfl,hi,p⟩
  by_cases hlt:i<n
  · refine .inr ⟨hlt,Pv (i + 1),fun σ' H' p'=>⟨n - (i + 1),by omega,rfl,hlt,p'⟩,fun x H' y=>?_⟩
    obtain ⟨e,y⟩:=y
    subst e y
    exact hs i σ _ hlt p
  · have e:i=n:=by omega
    subst e
    exact .inl ⟨Nat.le_refl _,hd σ H p⟩
end L2
namespace L2
open PySem PySem.Spec PyProof.Rows
abbrev R2:=V→V→Hp→VK→Prop
def OpR (X:Cx) (f:Value→Value→Sem Value) (r:R2):Prop :=
  ∀ (pins:List (Addr × Obj)) (s:Shared) (σ:St) (H:Hp) (x y:V) (v u:Value) (Q:VK),Inv X pins σ H s→RelV x v→RelV y u→r x y H Q →
    wpAny (model X.prog X.w) X.A (f v u) (EP X pins σ Q) X.xe s
def UnR (X:Cx) (f:Value→Sem Value) (r:V→Hp→VK→Prop):Prop :=
  ∀ (pins:List (Addr × Obj)) (s:Shared) (σ:St) (H:Hp) (x:V) (v:Value) (Q:VK),Inv X pins σ H s→RelV x v→r x H Q →
    wpAny (model X.prog X.w) X.A (f v) (EP X pins σ Q) X.xe s
def oJ (X:Cx) (f:Value) (r:List V→Hp→VK→Prop):Prop :=
  ∀ (pins:List (Addr × Obj)) (s:Shared) (σ:St) (H:Hp) (xs:List V) (us:List Value) (Q:VK),Inv X pins σ H s→Vals xs us→r xs H Q →
    wpAny (model X.prog X.w) X.A (call f us) (EP X pins σ Q) X.xe s
def TruR (X:Cx) (r:V→Hp→(Bool→Hp→Prop)→Prop):Prop :=
  ∀ (pins:List (Addr × Obj)) (s:Shared) (σ:St) (H:Hp) (x:V) (v:Value) (Q:Bool→Hp→Prop),Inv X pins σ H s→RelV x v→r x H Q →
    wpAny (model X.prog X.w) X.A (truthy v) (TP X pins σ Q) X.xe s
def tOp (r:R2) (ta tb:TE):TE:=fun σ H Q=>ta σ H fun x H1=>tb σ H1 fun y H2=>r x y H2 Q
def tUn (r:V→Hp→VK→Prop) (ta:TE):TE:=fun σ H Q=>ta σ H fun x H1=>r x H1 Q
def rI (C:Int→Int→Prop) (g:Int→Int→V):R2:=fun x y H Q=>∃ i j,x=.int i∧y=.int j∧C i j∧Q (g i j) H
def rI0 (g:Int→Int→V):R2:=fun x y H Q=>∃ i j,x=.int i∧y=.int j∧Q (g i j) H
def rU (g:Int→V):V→Hp→VK→Prop:=fun x H Q=>∃ i,x=.int i∧Q (g i) H
section
variable {X:Cx} {a b c:Expr} {ta tb tc:TE} {pos:Pos}
theorem X6 (ha:PE X a ta) (hb:PE X b tb) {pins:List (Addr × Obj)} {s:Shared} {σ:St} {H:Hp} {R:V→V→Hp→Prop} (I:Inv X pins σ H s)
    (h:ta σ H fun x H1=>tb σ H1 fun y H2=>R x y H2) {Q:Value→Shared→Prop} {f:Value→Value→Sem Value}
    (hf:∀ v u s2 x y H2,Inv X pins σ H2 s2→RelV x v→RelV y u→R x y H2→wpAny (model X.prog X.w) X.A (f v u) Q X.xe s2) :
    wpAny (model X.prog X.w) X.A (eval a X.env) (fun v s₁=>wpAny (model X.prog X.w) X.A (eval b X.env) (fun u s₂=>wpAny (model X.prog X.w) X.A (f v u) Q X.xe s₂) X.xe s₁) X.xe s:=by
  refine thn (ha pins s σ H _ I h) fun v s1 ⟨x,H1,I1,r1,q1⟩=>?_
  refine thn (hb pins s1 σ H1 _ I1 q1) fun u s2 ⟨y,H2,I2,r2,q2⟩=>?_
  exact hf v u s2 x y H2 I2 r1 r2 q2
theorem aQ {op:Operator} {r:R2} (ho:OpR X (binaryOp op) r) (ha:PE X a ta) (hb:PE X b tb):PE X (.BinOp a op b pos) (tOp r ta tb):=by
  intro pins s σ H Q I h
  exact wpAny_BinOp (X6 ha hb I h fun v u s2 x y H2 I2 rx ry q=>ho pins s2 σ H2 x y v u Q I2 rx ry q)
theorem mZ {op:UnaryOp} {r:V→Hp→VK→Prop} (ho:UnR X (unaryOp op) r) (ha:PE X a ta):PE X (.UnaryOp op a pos) (tUn r ta):=by
  intro pins s σ H Q I h
  exact UnaryOp_ (thn (ha pins s σ H _ I h) fun v s1 ⟨x,H1,I1,r1,q1⟩=>ho pins s1 σ H1 x v Q I1 r1 q1)
theorem opI {f:Value→Value→Sem Value} {C:Int→Int→Prop} {g:Int→Int→Int}
    (rule:∀ (i j:Int) (t u:Tok) (s:Shared) (Q:Value→Shared→Prop) (E:Value→Shared→Prop),C i j→Q (.int (g i j) s.toks) { s with toks:=s.toks + 1 }→wpAny (model X.prog X.w) X.A (f (.int i t) (.int j u)) Q E s) :
    OpR X f (rI C fun i j=>.int (g i j)):=by
  intro pins s σ H x y v u Q I rx ry h
  obtain ⟨i,j,rfl,rfl,hc,q⟩:=h
  obtain ⟨t,rfl⟩:=rx
  obtain ⟨t',rfl⟩:=ry
  exact rule i j t t' s _ _ hc ⟨.int (g i j),H,I.tok _,⟨_,rfl⟩,q⟩
theorem Yo {f:Value→Value→Sem Value} {g:Int→Int→Int}
    (rule:∀ (i j:Int) (t u:Tok) (s:Shared) (Q:Value→Shared→Prop) (E:Value→Shared→Prop),Q (.int (g i j) s.toks) { s with toks:=s.toks + 1 }→wpAny (model X.prog X.w) X.A (f (.int i t) (.int j u)) Q E s) :
    OpR X f (rI0 fun i j=>.int (g i j)):=by
  intro pins s σ H x y v u Q I rx ry h
  obtain ⟨i,j,rfl,rfl,q⟩:=h
  obtain ⟨t,rfl⟩:=rx
  obtain ⟨t',rfl⟩:=ry
  exact rule i j t t' s _ _ ⟨.int (g i j),H,I.tok _,⟨_,rfl⟩,q⟩
theorem Vo {f:Value→Value→Sem Value} {g:Int→Int→Bool}
    (rule:∀ (i j:Int) (t u:Tok) (s:Shared) (Q:Value→Shared→Prop) (E:Value→Shared→Prop),Q (.bool (g i j)) s→wpAny (model X.prog X.w) X.A (f (.int i t) (.int j u)) Q E s) :
    OpR X f (rI0 fun i j=>.bl (g i j)):=by
  intro pins s σ H x y v u Q I rx ry h
  obtain ⟨i,j,rfl,rfl,q⟩:=h
  obtain ⟨t,rfl⟩:=rx
  obtain ⟨t',rfl⟩:=ry
  exact rule i j t t' s _ _ ⟨.bl (g i j),H,I,rfl,q⟩
def CDiv (i j:Int):Prop:=0<j∧j<1073741824
def CPow (i j:Int):Prop:=0≤j∧j≤1000000∧i.natAbs<2 ^ 64
def Yd (i j:Int):Prop:=(-(2 ^ 64)<i∧i<2 ^ 64)∨(-(2 ^ 64)<j∧j<2 ^ 64)
theorem Yd.ok {i j:Int} (h:Yd i j):IntMulOk i j:=by
  rcases h with ⟨h1,h2⟩ | ⟨h1,h2⟩
  · exact .of_left (intBits_le_64 h1 h2)
  · exact .of_right (intBits_le_64 h1 h2)
theorem dz:OpR X (binaryOp .Add) (rI0 fun i j=>.int (i + j)):=Yo fun _ _ _ _ _ _ _ q=>add_int q
theorem lH:OpR X (binaryOp .Sub) (rI0 fun i j=>.int (i - j)):=Yo fun _ _ _ _ _ _ _ q=>sub_int q
theorem jP:OpR X (binaryOp .Mult) (rI Yd fun i j=>.int (i * j)):=opI fun _ _ _ _ _ _ _ hc q=>mul_int q hc.ok
theorem fQ:OpR X (binaryOp .FloorDiv) (rI CDiv fun i j=>.int (i / j)):=opI fun i j _ _ _ _ _ hc q=>by
  have h1:(0:Int)<j:=hc.1
  have h2:j<1073741824:=hc.2
  exact floordiv_int (by omega) (by rw [Int.fdiv_eq_ediv_of_nonneg i (by omega)];exact q) (.inl (PyProof.noPylong_small (by omega)))
theorem bJ:OpR X (binaryOp .Mod) (rI (fun _ j=>0<j) fun i j=>.int (i % j)):=opI fun i j _ _ _ _ _ hc q=>by
  have h1:(0:Int)<j:=hc
  exact mod_int' (by omega) (by rw [Int.fmod_eq_emod_of_nonneg i (by omega)];exact q)
theorem xX:OpR X (binaryOp .Pow) (rI CPow fun i j=>.int (i ^ j.toNat)):=opI fun _ _ _ _ _ _ _ hc q=>pow_int_small hc.1 hc.2.1 hc.2.2 q
theorem unI {f:Value→Sem Value} {g:Int→Int}
    (rule:∀ (i:Int) (t:Tok) (s:Shared) (Q:Value→Shared→Prop) (E:Value→Shared→Prop),Q (.int (g i) s.toks) { s with toks:=s.toks + 1 }→wpAny (model X.prog X.w) X.A (f (.int i t)) Q E s) :
    UnR X f (rU fun i=>.int (g i)):=by
  intro pins s σ H x v Q I rx h
  obtain ⟨i,rfl,q⟩:=h
  obtain ⟨t,rfl⟩:=rx
  exact rule i t s _ _ ⟨.int (g i),H,I.tok _,⟨_,rfl⟩,q⟩
theorem jH:UnR X (unaryOp .USub) (rU fun i=>.int (-i)):=unI fun _ _ _ _ _ q=>neg_int q
end
def Yi:V→V→Bool
  | .non,.non=>true | .non,.int _=>true | .int _,.non=>true | .non,.bl _=>true | .bl _,.non=>true | .non,.str _=>true | .str _,.non=>true
  | .int _,.int _=>true | .bl _,.bl _=>true | .str _,.str _=>true | .byt _,.byt _=>true
  | .int _,.str _=>true | .str _,.int _=>true | .bl _,.str _=>true | .str _,.bl _=>true
  | _,_=>false
def rEq:R2:=fun x y H Q=>Yi x y=true∧Q (.bl (decide (x=y))) H
def rNe:R2:=fun x y H Q=>Yi x y=true∧Q (.bl (!decide (x=y))) H
theorem CN {i j:Int}:decide (V.int i=V.int j)=(i == j):=by
  rw [Bool.eq_iff_iff]
  simp
theorem Mu {i j:Bool}:decide (V.bl i=V.bl j)=(i == j):=by
  rw [Bool.eq_iff_iff]
  simp
theorem CK {i j:Str}:decide (V.str i=V.str j)=(i == j):=by
  rw [Bool.eq_iff_iff]
  simp
theorem CP {i j:Array UInt8}:decide (V.byt i=V.byt j)=(i.toList == j.toList):=by
  rw [Bool.eq_iff_iff]
  cases i
  cases j
  simp
section
variable {X:Cx} {a b c:Expr} {ta tb tc:TE} {pos:Pos}
theorem cL {pins:List (Addr × Obj)} {σ:St} {H:Hp} {s:Shared} {Q:VK} {k k':Bool} (I:Inv X pins σ H s) (q:Q (.bl k) H) (e:k=k'):EP X pins σ Q (.bool k') s:=by
  subst e
  exact ⟨.bl k,H,I,rfl,q⟩
theorem jZ:OpR X (compareOp .Eq) rEq:=by
  intro pins s σ H x y v u Q I rx ry h
  obtain ⟨hs,q⟩:=h
  cases x with
  | non =>
    cases rx
    cases y with
    | non=>cases ry;exact PySem.EqNone.eq_none_none (cL I q (by simp))
    | bl j=>cases ry;exact PySem.EqNone.eq_none_bool (cL I q (by simp))
    | int j=>obtain ⟨t',rfl⟩:=ry;exact PySem.EqNone.eq_none_int (cL I q (by simp))
    | str j=>obtain ⟨t',rfl⟩:=ry;exact PySem.EqNone.eq_none_str (cL I q (by simp))
    | _=>exact absurd (show false=true from hs) Bool.false_ne_true
  | bl i =>
    cases rx
    cases y with
    | non=>cases ry;exact PySem.EqNone.eq_bool_none (cL I q (by simp))
    | bl j=>cases ry;exact eq_bool (cL I q Mu)
    | str j=>obtain ⟨t',rfl⟩:=ry;exact PySem.EqMixed.eq_bool_str (cL I q (by simp))
    | _=>exact absurd (show false=true from hs) Bool.false_ne_true
  | int i =>
    obtain ⟨t,rfl⟩:=rx
    cases y with
    | non=>cases ry;exact PySem.EqNone.eq_int_none (cL I q (by simp))
    | int j=>obtain ⟨t',rfl⟩:=ry;exact eq_int (cL I q CN)
    | str j=>obtain ⟨t',rfl⟩:=ry;exact PySem.EqMixed.eq_int_str (cL I q (by simp))
    | _=>exact absurd (show false=true from hs) Bool.false_ne_true
  | str i =>
    obtain ⟨t,rfl⟩:=rx
    cases y with
    | non=>cases ry;exact PySem.EqNone.eq_str_none (cL I q (by simp))
    | bl j=>cases ry;exact PySem.EqMixed.eq_str_bool (cL I q (by simp))
    | int j=>obtain ⟨t',rfl⟩:=ry;exact PySem.EqMixed.eq_str_int (cL I q (by simp))
    | str j=>obtain ⟨t',rfl⟩:=ry;exact eq_str (cL I q CK)
    | _=>exact absurd (show false=true from hs) Bool.false_ne_true
  | byt i =>
    obtain ⟨t,rfl⟩:=rx
    cases y with
    | byt j=>obtain ⟨t',rfl⟩:=ry;exact PySem.W.eq_bytes (cL I q CP)
    | _=>exact absurd (show false=true from hs) Bool.false_ne_true
  | _=>cases y <;> exact absurd (show false=true from hs) Bool.false_ne_true
theorem oZ:OpR X (compareOp .NotEq) rNe:=by
  intro pins s σ H x y v u Q I rx ry h
  obtain ⟨hs,q⟩:=h
  cases x with
  | non =>
    cases rx
    cases y with
    | non=>cases ry;exact PySem.EqNone.ne_none_none (cL I q (by simp))
    | bl j=>cases ry;exact PySem.EqNone.ne_none_bool (cL I q (by simp))
    | int j=>obtain ⟨t',rfl⟩:=ry;exact PySem.EqNone.ne_none_int (cL I q (by simp))
    | str j=>obtain ⟨t',rfl⟩:=ry;exact PySem.EqNone.ne_none_str (cL I q (by simp))
    | _=>exact absurd (show false=true from hs) Bool.false_ne_true
  | bl i =>
    cases rx
    cases y with
    | non=>cases ry;exact PySem.EqNone.ne_bool_none (cL I q (by simp))
    | bl j=>cases ry;exact ne_bool (cL I q (congrArg not Mu))
    | str j=>obtain ⟨t',rfl⟩:=ry;exact PySem.EqMixed.ne_bool_str (cL I q (by simp))
    | _=>exact absurd (show false=true from hs) Bool.false_ne_true
  | int i =>
    obtain ⟨t,rfl⟩:=rx
    cases y with
    | non=>cases ry;exact PySem.EqNone.ne_int_none (cL I q (by simp))
    | int j=>obtain ⟨t',rfl⟩:=ry;exact ne_int (cL I q (congrArg not CN))
    | str j=>obtain ⟨t',rfl⟩:=ry;exact PySem.EqMixed.ne_int_str (cL I q (by simp))
    | _=>exact absurd (show false=true from hs) Bool.false_ne_true
  | str i =>
    obtain ⟨t,rfl⟩:=rx
    cases y with
    | non=>cases ry;exact PySem.EqNone.ne_str_none (cL I q (by simp))
    | bl j=>cases ry;exact PySem.EqMixed.ne_str_bool (cL I q (by simp))
    | int j=>obtain ⟨t',rfl⟩:=ry;exact PySem.EqMixed.ne_str_int (cL I q (by simp))
    | str j=>obtain ⟨t',rfl⟩:=ry;exact ne_str (cL I q (congrArg not CK))
    | _=>exact absurd (show false=true from hs) Bool.false_ne_true
  | byt i =>
    obtain ⟨t,rfl⟩:=rx
    cases y with
    | byt j=>obtain ⟨t',rfl⟩:=ry;exact PySem.W.ne_bytes (cL I q (congrArg not CP))
    | _=>exact absurd (show false=true from hs) Bool.false_ne_true
  | _=>cases y <;> exact absurd (show false=true from hs) Bool.false_ne_true
theorem Bs:OpR X (compareOp .Lt) (rI0 fun i j=>.bl (decide (i<j))):=Vo fun _ _ _ _ _ _ _ q=>lt_int q
theorem Ng:OpR X (compareOp .LtE) (rI0 fun i j=>.bl (decide (i≤j))):=Vo fun _ _ _ _ _ _ _ q=>le_int q
theorem wg:OpR X (compareOp .Gt) (rI0 fun i j=>.bl (decide (j<i))):=Vo fun _ _ _ _ _ _ _ q=>gt_int q
theorem Qi:OpR X (compareOp .GtE) (rI0 fun i j=>.bl (decide (j≤i))):=Vo fun _ _ _ _ _ _ _ q=>ge_int q
theorem Qh:OpR X (compareOp .Is) (fun x y H Q=>y=.non∧Q (.bl (decide (x=.non))) H):=by
  intro pins s σ H x y v u Q I rx ry h
  obtain ⟨rfl,q⟩:=h
  cases ry
  refine is_none_gen (cL I q ?_)
  cases x <;> first
    | (cases rx;rfl)
    | (obtain ⟨t,rfl⟩:=rx;rfl)
theorem bx (b:Expr) {op:CmpOp} (h:op≠.In:=by decide) (h2:op≠.NotIn:=by decide):behindInMarks op b=false:=by
  have e1:(op == CmpOp.In)=false:=by cases op <;> first | rfl | exact absurd rfl h
  have e2:(op == CmpOp.NotIn)=false:=by cases op <;> first | rfl | exact absurd rfl h2
  cases b <;> simp [behindInMarks,e1,e2]
theorem oA {op:CmpOp} {r:R2} (ho:OpR X (compareOp op) r) (ha:PE X a ta) (hb:PE X b tb) (hm:behindInMarks op b=false):PE X (.Compare a [op] [b] pos) (tOp r ta tb):=by
  intro pins s σ H Q I h
  exact wpAny_Compare1 (X6 ha hb I h fun v u s2 x y H2 I2 rx ry q=>ho pins s2 σ H2 x y v u Q I2 rx ry q) hm
def O8 (t:TE):TT:=fun σ H Q=>t σ H fun x H'=>∃ k,x=.bl k∧Q k H'
theorem aW {op:CmpOp} {r:R2} (ho:OpR X (compareOp op) r) (ha:PE X a ta) (hb:PE X b tb) (hm:behindInMarks op b=false):PT X (.Compare a [op] [b] pos) (O8 (tOp r ta tb)):=by
  intro pins s σ H Q I h
  refine wpAny_isTrue_Compare1 (thn (ha pins s σ H _ I h) fun v s1 ⟨x,H1,I1,r1,q1⟩=>thn (hb pins s1 σ H1 _ I1 q1) fun u s2 ⟨y,H2,I2,r2,q2⟩ =>
    thn (ho pins s2 σ H2 x y v u _ I2 r1 r2 q2) fun c s3 ⟨z,H3,I3,r3,k,e,q3⟩=>?_) hm
  subst e
  cases r3
  exact wpAny_truthy_bool ⟨H3,I3,q3⟩
def Ph (r r':R2) (ta tb tc:TE):TE:=fun σ H Q=>ta σ H fun x H1=>tb σ H1 fun y H2=>r x y H2 fun z H3=>∃ k,z=.bl k ∧
  (if k=true then tc σ H3 fun w' H4=>r' y w' H4 Q else Q (.bl false) H3)
theorem xV {op op':CmpOp} {r r':R2} (ho:OpR X (compareOp op) r) (ho':OpR X (compareOp op') r') (ha:PE X a ta) (hb:PE X b tb) (hc:PE X c tc)
    (hm:lastMarks [op,op'] [b,c]=false:=by with_unfolding_all rfl):PT X (.Compare a [op,op'] [b,c] pos) (O8 (Ph r r' ta tb tc)):=by
  intro pins s σ H Q I h
  refine isTrue_chain (thn (ha pins s σ H _ I h) fun v s1 ⟨x,H1,I1,r1,q1⟩=>test_link (thn (hb pins s1 σ H1 _ I1 q1) fun u s2 ⟨y,H2,I2,r2,q2⟩ =>
    thn (ho pins s2 σ H2 x y v u _ I2 r1 r2 q2) fun d s3 ⟨z,H3,I3,r3,k,e,q3⟩=>?_)) hm
  subst e
  cases r3
  refine wpAny_truthy_bool ?_
  cases k with
  | false =>
    obtain ⟨k',e',q'⟩:=q3
    cases e'
    exact ite_ff ⟨H3,I3,q'⟩
  | true =>
    refine ite_tt (test_last (thn (hc pins s3 σ H3 _ I3 q3) fun w' s4 ⟨z',H4,I4,r4,q4⟩=>thn (ho' pins s4 σ H4 y z' u w' _ I4 r2 r4 q4) fun d' s5 ⟨z2,H5,I5,r5,k2,e2,q5⟩=>?_))
    subst e2
    cases r5
    exact wpAny_truthy_bool ⟨H5,I5,q5⟩
def YB (K:PySem.W.Frag) (x:V) (H:Hp) (k:Bool):Prop :=
  match x with
  | .non=>k=false
  | .bl b=>k=b
  | .int i=>k=(i != 0)
  | .str y=>y.length≤sizeLine∧k=((y.length:Int) != 0)
  | .byt y=>y.size≤sizeLine∧k=((y.size:Int) != 0)
  | .ref p=>(∃ xs,SqL K H p xs∧k=!xs.isEmpty)∨(∃ xs,SqT K H p xs∧k=!xs.isEmpty)∨∃ kvs,H p=some (.dK kvs)∧k=!kvs.isEmpty
  | _=>False
theorem zp {κ:Type} {kvs:List (κ × V)} {vs:List (κ × Value)} (r:KV kvs vs):(!vs.isEmpty)=!kvs.isEmpty:=by
  cases r <;> rfl
theorem qQ {xs:List V} {its:List Value} (r:Vals xs its):(!its.toArray.isEmpty)=!xs.isEmpty:=by
  cases r <;> simp
theorem p8:(sizeLine:Nat)<2 ^ 63:=by rw [sizeLine_eq];decide
theorem OJ:TruR X (fun x H Q=>∃ k,YB X.K x H k∧Q k H):=by
  intro pins s σ H x v Q I rx h
  obtain ⟨k,e,q⟩:=h
  have hl:=p8
  have hs:sizeLine=16777216:=sizeLine_eq
  cases x with
  | non =>
    cases rx
    have e':k=false:=e
    subst e'
    exact truthy_none ⟨H,I,q⟩
  | bl b =>
    cases rx
    have e':k=b:=e
    subst e'
    exact wpAny_truthy_bool ⟨H,I,q⟩
  | int i =>
    obtain ⟨t,rfl⟩:=rx
    have e':k=(i != 0):=e
    subst e'
    exact PySem.P.truthy_int ⟨H,I,q⟩
  | str y =>
    obtain ⟨t,rfl⟩:=rx
    obtain ⟨hy,e'⟩:y.length≤sizeLine∧k=((y.length:Int) != 0):=e
    subst e'
    exact PySem.P.truthy_str (by omega) ⟨H,I.tok _,q⟩
  | byt y =>
    obtain ⟨t,rfl⟩:=rx
    obtain ⟨hy,e'⟩:y.size≤sizeLine∧k=((y.size:Int) != 0):=e
    subst e'
    exact PySem.W.truthy_bytes (by omega) ⟨H,I.tok _,q⟩
  | ref p =>
    cases rx
    have e':(∃ xs,SqL X.K H p xs∧k=!xs.isEmpty)∨(∃ xs,SqT X.K H p xs∧k=!xs.isEmpty)∨∃ kvs,H p=some (.dK kvs)∧k=!kvs.isEmpty:=e
    rcases e' with ⟨xs,hx,e'⟩ | ⟨xs,hx,e'⟩ | ⟨kvs,hx,e'⟩
    · subst e'
      obtain ⟨its,r,pl,hz⟩:=I.list hx
      have hlen:=r.length
      exact wpAny_truthy_list pl.isList (by simp only [List.size_toArray];omega) ⟨H,I.tok _,by rw [qQ r];exact q⟩
    · subst e'
      obtain ⟨its,r,pl,hz⟩:=I.tuple hx
      have hlen:=r.length
      exact truthy_tuple pl (by simp only [List.size_toArray];omega) ⟨H,I.tok _,by rw [qQ r];exact q⟩
    · subst e'
      obtain ⟨hz,hS,vs,r,m⟩:kvs.length≤sizeLine∧(p == sysModules)=false∧∃ vs,KV kvs vs∧s.heap.DictOf (gA X.prog X.w) p vs:=I.hok p _ hx
      have hlen:kvs.length=vs.length:=Paired.length r
      exact wpAny_truthy_dict hS m (by omega) ⟨H,I.tok _,by rw [zp r];exact q⟩
  | _=>exact (show False from e).elim
theorem Eh (ha:PE X a ta) (he:∀ whole,isTrue a X.env whole=(do let v ← whole;standAt a.pos;holding [v] (truthy v))) :
    PT X a (fun σ H Q=>ta σ H fun x H'=>∃ k,YB X.K x H' k∧Q k H'):=by
  intro pins s σ H Q I h
  exact isTrue_plain (thn (ha pins s σ H _ I h) fun v s1 ⟨x,H1,I1,r1,q1⟩=>OJ pins s1 σ H1 x v Q I1 r1 q1) (he _)
theorem vals1 {x:V} {us:List Value} (r:Vals [x] us):∃ u,us=[u]∧RelV x u:=by
  cases r with
  | cons r1 r2=>cases r2;exact ⟨_,rfl,r1⟩
theorem vals2 {x y:V} {us:List Value} (r:Vals [x,y] us):∃ u w',us=[u,w']∧RelV x u∧RelV y w':=by
  cases r with
  | cons r1 r2 =>
    cases r2 with
    | cons r3 r4=>cases r4;exact ⟨_,_,rfl,r1,r3⟩
theorem Dk (hc:X.calm=true):oJ X (.builtin "max") (fun xs H Q=>∃ i j,xs=[.int i,.int j]∧Q (.int (if j > i then j else i)) H):=by
  intro pins s σ H xs us Q I r h
  obtain ⟨i,j,rfl,q⟩:=h
  obtain ⟨u,w',rfl,⟨t,rfl⟩,⟨t',rfl⟩⟩:=vals2 r
  refine max_two_ints (I.ok.hd hc) fun h' tk k=>⟨_,H,I.kept k,?_,q⟩
  by_cases hj:j > i
  · rw [if_pos hj,if_pos hj];exact ⟨_,rfl⟩
  · rw [if_neg hj,if_neg hj];exact ⟨_,rfl⟩
theorem uQ (hc:X.calm=true):oJ X (.builtin "min") (fun xs H Q=>∃ i j,xs=[.int i,.int j]∧Q (.int (if j<i then j else i)) H):=by
  intro pins s σ H xs us Q I r h
  obtain ⟨i,j,rfl,q⟩:=h
  obtain ⟨u,w',rfl,⟨t,rfl⟩,⟨t',rfl⟩⟩:=vals2 r
  refine min_two_ints (I.ok.hd hc) fun h' tk k=>⟨_,H,I.kept k,?_,q⟩
  by_cases hj:j<i
  · rw [if_pos hj,if_pos hj];exact ⟨_,rfl⟩
  · rw [if_neg hj,if_neg hj];exact ⟨_,rfl⟩
end
end L2
namespace L2
open PySem PySem.Spec PyProof.Rows
structure Yb (h:Heap) (x dx C:Addr) (mA:Str→Option Value):Prop where
  obj:h.get? x=some (PySem.W.instObj C dx)
  ns:h.Ns1 dx mA
  ne:dx≠x
theorem BX {h:Heap} {dx:Addr} {mA:Str→Option Value} (n:h.Ns1 dx mA):∃ od,h.get? dx=some od∧∀ name,PySem.W.lookIn name od=some (mA name):=by
  obtain ⟨o,es,ep,ho,hd,hk,_,hm⟩:=n
  refine ⟨o,ho,fun name=>?_⟩
  have e:=hm name
  unfold nsFind findBy at e
  rw [← Array.find?_toList] at e
  unfold PySem.W.lookIn
  rw [hd]
  dsimp only
  split
  · rename_i y q
    rw [q] at e
    exact congrArg some e
  · rename_i q
    rw [q] at e
    have a:es.toList.any (·.refKey)=false:=by
      rw [List.any_eq_false]
      intro y hy
      obtain ⟨z,t,hkey⟩:=hk y (Array.mem_toList_iff.mp hy)
      simp [DictEntry.refKey,hkey]
    have a':¬ es.toList.any (·.refKey)=true:=by rw [a];exact Bool.false_ne_true
    rw [if_neg a']
    exact congrArg some e
theorem Yb.look {h:Heap} {x dx C:Addr} {mA:Str→Option Value} (I:Yb h x dx C mA):∃ od,PySem.W.InstAt h x (PySem.W.instObj C dx) C (some od)∧∀ name,PySem.W.lookIn name od=some (mA name) :=
  let ⟨od,ho,hl⟩:=BX I.ns
  ⟨od,⟨I.obj,rfl,rfl,ho⟩,hl⟩
section
variable {prog:Program} {w:World} {A:Around} {E:Value→Shared→Prop} {s:Shared} {K:PySem.W.Frag} {x dx C f:Addr} {mA:Str→Option Value} {name:Str} {v:Value}
end
section
variable {P:Program} {w:World} {H H':Hp} {h h':Heap} {a C dx:Addr} {fs fs':List (Str × V)}
theorem NT (hok:HOk P w H h) (e:H a=some (.ins C dx fs)):∃ mA,Yb h a dx C mA∧(∀ f,Vt (fs.lookup f) (mA f))∧PySem.Within mA (fs.map (·.1))∧fs.length≤1000∧H dx=some (.own a):=by
  obtain ⟨d,z,ne,ob,mA,n,r,q⟩:=(show gB P w H h a (.ins C dx fs) from hok a _ e)
  exact ⟨mA,⟨ob,n,ne⟩,r,q,z,d⟩
end
structure Cls (K:PySem.W.Frag) (C:Addr):Prop where
  pg:PySem.W.plainGet K C Str.empty=true
  hd:PySem.W.hasDictIn K C=true
  po:PySem.W.plainOver K C=true
  sa:PySem.W.findIn K (.ref C) "__setattr__"=some (some (.builtin "object.__setattr__"))
theorem Cls.get {K:PySem.W.Frag} {C:Addr} (c:Cls K C) (f:Str):PySem.W.plainGet K C f=true:=c.pg
section
variable {X:Cx} {pins:List (Addr × Obj)} {σ:St} {H:Hp} {s:Shared} {a C dx:Addr} {fs:List (Str × V)} {f:Str} {v:V} {A:Around} {E:Value→Shared→Prop}
end
section
variable {X:Cx} {o e value:Expr} {f:Str} {pos pos' tpos:Pos} {ta tv:TE}
end
section
variable {X:Cx} {pins:List (Addr × Obj)} {σ:St} {H:Hp} {s:Shared} {A:Around} {E:Value→Shared→Prop} {Q:Value→Shared→Prop} {c:Value} {b:Bool}
inductive wK (K:PySem.W.Frag) (H:Hp):V→Value→Prop where
  | non:wK K H .non (.type "NoneType")
  | bl (x:Bool):wK K H (.bl x) (.type "bool")
  | int (i:Int):wK K H (.int i) (.type "int")
  | str (x:Str):wK K H (.str x) (.type "str")
  | flt (x:UInt64):wK K H (.flt x) (.type "float")
  | lst {a:Addr} {xs:List V} (e:H a=some (.lst xs)):wK K H (.ref a) (.type "list")
  | frz {a:Addr} {o:Obj} {xs:List V} (e:H a=some (.frz o (.lst xs))):wK K H (.ref a) (.type "list")
  | tup {a:Addr} {xs:List V} (e:H a=some (.tup xs)):wK K H (.ref a) (.type "tuple")
  | dK {a:Addr} {kvs:List (Key × V)} (e:H a=some (.dK kvs)):wK K H (.ref a) (.type "dict")
  | dT {a:Addr} {kvs:List (List Key × V)} (e:H a=some (.dT kvs)):wK K H (.ref a) (.type "dict")
  | ins {a C dx:Addr} {fs:List (Str × V)} (e:H a=some (.ins C dx fs)) (cl:Cls K C) (ha:PySem.W.findIn K (.ref C) "__class__"=some (some (.builtin "object.__class__")))
      (hn:PySem.W.specialIn K (.builtin "object.__class__") "__get__"=some (some (.builtin "getset_descriptor.__get__"))) (htk:PySem.W.takesIn K (.builtin "object.__class__")=some true)
      (hm:PySem.W.mroIn K C (.type "object")=some true):wK K H (.ref a) (.ref C)
theorem Cq {x:V} {u t:Value} (I:Inv X pins σ H s) (rx:RelV x u) (ty:wK X.K H x t) (e:PySem.W.kitOne X.K t c=some b) (h:∀ tk,Q (.bool b) { s with toks:=tk }) :
    wpAny (model X.prog X.w) A (call (.builtin "isinstance") [u,c]) Q E s:=by
  cases ty with
  | non=>cases (show u=Value.none from rx);exact PySem.W.kia_one PySem.W.kitx_none I.kIn True.intro e (fun z=>nomatch z) h
  | bl y=>cases (show u=Value.bool y from rx);exact PySem.W.kia_one PySem.W.kitx_bool I.kIn True.intro e (fun z=>nomatch z) h
  | int i=>obtain ⟨t,q⟩:=(show ∃ t,u=Value.int i t from rx);cases q;exact PySem.W.kia_one PySem.W.kitx_int I.kIn True.intro e (fun z=>nomatch z) h
  | str y=>obtain ⟨t,q⟩:=(show ∃ t,u=Value.str y t from rx);cases q;exact PySem.W.kia_one PySem.W.kitx_str I.kIn True.intro e (fun z=>nomatch z) h
  | flt y=>obtain ⟨t,q⟩:=(show ∃ t,u=Value.float y t from rx);cases q;exact PySem.W.kia_one PySem.W.kitx_float I.kIn True.intro e (fun z=>nomatch z) h
  | @lst a xs ea =>
    cases (show u=Value.ref a from rx)
    obtain ⟨_,_,n,_,h1⟩:=(show gB X.prog X.w H s.heap a (.lst xs) from I.hok a _ ea)
    exact PySem.W.kia_one PySem.W.kitx_list I.kIn ⟨_,h1,rfl⟩ e (fun z=>nomatch z) h
  | @frz a ob xs ea =>
    cases (show u=Value.ref a from rx)
    obtain ⟨_,_,_,n,_,h1⟩:=(show gB X.prog X.w H s.heap a (.frz ob (.lst xs)) from I.hok a _ ea)
    exact PySem.W.kia_one PySem.W.kitx_list I.kIn ⟨_,h1,rfl⟩ e (fun z=>nomatch z) h
  | @tup a xs ea =>
    cases (show u=Value.ref a from rx)
    obtain ⟨_,_,_,p⟩:=(show gB X.prog X.w H s.heap a (.tup xs) from I.hok a _ ea)
    obtain ⟨o,h1,h2,_⟩:=p
    exact PySem.W.kia_one PySem.W.kitx_tuple I.kIn ⟨o,h1,h2⟩ e (fun z=>nomatch z) h
  | @dK a kvs ea =>
    cases (show u=Value.ref a from rx)
    obtain ⟨_,_,vs,_,p⟩:=(show gB X.prog X.w H s.heap a (.dK kvs) from I.hok a _ ea)
    obtain ⟨o,es,ep,h1,h2,_⟩:=p
    exact PySem.W.kia_one PySem.W.kitx_dict I.kIn ⟨o,h1,h2.1⟩ e (fun z=>nomatch z) h
  | @dT a kvs ea =>
    cases (show u=Value.ref a from rx)
    obtain ⟨_,_,xs,_,o,es,ep,h1,h2,_⟩:=(show gB X.prog X.w H s.heap a (.dT kvs) from I.hok a _ ea)
    exact PySem.W.kia_one PySem.W.kitx_dict I.kIn ⟨o,h1,h2.1⟩ e (fun z=>nomatch z) h
  | @ins a C dx fs ea cl ha hn htk hm =>
    cases (show u=Value.ref a from rx)
    obtain ⟨mA,O,_⟩:=NT I.hok ea
    obtain ⟨od,J,_⟩:=O.look
    exact PySem.W.kia_one (PySem.W.kitx_own (cl.get _) cl.hd ha hn htk hm) I.kIn J e (fun z=>nomatch z) h
end
end L2
namespace L2
open PySem PySem.Spec PyProof.Rows
structure qJ (k:Nat) (A:Around):Prop where
  hd:A.handled=none
  dp:A.depth + 3 * k + 5<recursionLimit
  un:A.units + 16 * k + 200<cLine
theorem qJ.mono {j k:Nat} {A:Around} (r:qJ k A) (h:j≤k):qJ j A:=⟨r.hd,by have:=r.dp;omega,by have:=r.un;omega⟩
theorem qJ.deeper {k:Nat} {A:Around} (r:qJ (k + 1) A) (env:Env):qJ k (A.deeper env) :=
  ⟨r.hd,by have:=r.dp;show A.depth + 1 + 3 * k + 5<_;omega,by have:=r.un;show A.units + 3 + 16 * k + 200<_;omega⟩
theorem qJ.depth {k:Nat} {A:Around} (r:qJ k A):A.depth<recursionLimit:=by have:=r.dp;omega
theorem qJ.units {k:Nat} {A:Around} (r:qJ k A):A.units + 64<cLine:=by have:=r.un;omega
def tNil:TA:=fun _ H Q=>Q [] H
def VG (ta:TE) (tr:TA):TA:=fun σ H Q=>ta σ H fun x H1=>tr σ H1 fun xs H2=>Q (x :: xs) H2
section
variable {X:Cx} {e:Expr} {es:List Expr} {te:TE} {t:TA} {pos:Pos}
theorem au:PA X [] tNil:=fun _ _ _ _ H Q I h=>Calls.spliced_nil ⟨[],H,I,.nil,h⟩
theorem ak (ha:PE X e te) (hr:PA X es t) (hs:starEach (e :: es) X.env=(false,eval e X.env) :: starEach es X.env:=by rfl):PA X (e :: es) (VG te t):=by
  intro pos pins s σ H Q I h
  rw [hs]
  show wpAny _ _ (spliced ((false,eval e X.env) :: backTo pos (starEach es X.env))) _ _ s
  refine Calls.spliced_cons (thn (ha pins s σ H _ I h) fun u s1 ⟨x,H1,I1,r1,q1⟩=>?_)
  exact thn (hr pos pins s1 σ H1 _ I1 q1) fun us s2 ⟨xs,H2,I2,r2,q2⟩=>⟨x :: xs,H2,I2,.cons r1 r2,q2⟩
def tTup (t:TA):TE:=fun σ H Q=>t σ H fun xs H1=>xs.length≤sizeLine∧∀ p,H1 p=none→Q (.ref p) (upd H1 p (.tup xs))
def tLst (t:TA):TE:=fun σ H Q=>t σ H fun xs H1=>xs.length≤sizeLine∧∀ p,H1 p=none→Q (.ref p) (upd H1 p (.lst xs))
theorem jJ {x1} (h:PA X es t):PE X (.Tuple es x1 pos) (tTup t):=by
  intro pins s σ H Q I hq
  refine wpAny_Tuple_spliced (thn (h pos pins s σ H _ I hq) fun us s1 ⟨xs,H1,I1,r,z,q⟩=>⟨by rw [← r.length];exact z,?_⟩)
  have hf:H1 s1.heap.objs.size=none:=I1.hok.fresh (Nat.le_refl _)
  refine ⟨.ref s1.heap.objs.size,upd H1 s1.heap.objs.size (.tup xs),I1.laid (t':=s1.toks) (fun b u e=>Heap.get?_push_of_some _ e) (Nat.le_refl _) ?_,rfl,q _ hf⟩
  exact ⟨z,us,r,⟨_,Heap.get?_push_size _ rfl,rfl,_,rfl⟩⟩
theorem eZ (h:PA X es t):PE X (.List es pos) (tLst t):=by
  intro pins s σ H Q I hq
  refine wpAny_List_spliced (thn (h pos pins s σ H _ I hq) fun us s1 ⟨xs,H1,I1,r,z,q⟩=>⟨by rw [← r.length];exact z,?_⟩)
  have hf:H1 s1.heap.objs.size=none:=I1.hok.fresh (Nat.le_refl _)
  refine ⟨.ref s1.heap.objs.size,upd H1 s1.heap.objs.size (.lst xs),I1.laid (t':=s1.toks) (fun b u e=>Heap.get?_push_of_some _ e) (Nat.le_refl _) ?_,rfl,q _ hf⟩
  exact ⟨z,us,0,r,Heap.get?_push_size _ rfl⟩
end
abbrev Sp:=List V→Hp→VK→XK→Prop
abbrev CXT:=List Env→Hp→Shared→XK→Value→Shared→Prop
structure Vv (P:Program) (w:World) (K:PySem.W.Frag) (mg:Str→Option Value) (base:Heap) (A:Around) (outer:List Env) (s:Shared) (H:Hp):Prop where
  frames:A.frames=some outer
  mod:Mod K mg base
  bs:∀ b o,base.get? b=some o→s.heap.get? b=some o∧H b=none
  bsz:base.objs.size≤s.heap.objs.size
  Cz:s.heap.FunFrames base outer
  frf:∀ b∈frs outer,H b=none
  hok:HOk P w H s.heap
  bare:AllBare s.gens
def CE (outer:List Env) (P:Program) (w:World) (H:Hp) (s:Shared) (Q:VK) (u:Value) (s':Shared):Prop :=
  ∃ v H',s'.os=s.os∧AllBare s'.gens∧Un (frs outer) [] H H' s.heap s'.heap∧HOk P w H' s'.heap∧RelV v u∧Q v H'
def CR (CX:CXT) (outer:List Env) (P:Program) (w:World) (H:Hp) (s:Shared) (Q:VK) (E:XK) (r:Result) (s':Shared):Prop :=
  match r with
  | .ok (.ret u)=>CE outer P w H s Q u s'
  | .ok _=>False
  | .error e=>CX outer H s E e s'
structure bR (P:Program) (w:World) (K:PySem.W.Frag) (mg:Str→Option Value) (base:Heap) (CX:CXT) (k:Nat) (f:Addr) (fd:FuncData) (ps:List Str) (sp:Sp):Prop where
  len:∀ vs H Q E,sp vs H Q E→vs.length=ps.length
  run:∀ (A:Around) (outer:List Env) (s:Shared) (H:Hp) (args:Args) (us:List Value) (vs:List V) (Q:VK) (E:XK),qJ k A→Vv P w K mg base A outer s H→BindsTo s fd args (ps.zip us)→Vals vs us→sp vs H Q E →
    codeAny (model P w) A (.call (.ref f) args) (CR CX outer P w H s Q E) s
section
variable {X:Cx} {pins:List (Addr × Obj)} {σ:St} {H:Hp} {s s':Shared}
theorem Inv.env0 (I:Inv X pins σ H s):Vv X.prog X.w X.K X.mg X.base X.A X.stack s H :=
  ⟨I.ok.frames,I.ok.mod,I.bs,Nat.le_trans I.ok.bsz I.sz,I.stack,I.vL,I.hok,I.bare⟩
theorem Inv.after {Q:VK} {u:Value} (I:Inv X pins σ H s) (h:CE X.stack X.prog X.w H s Q u s'):EP X pins σ Q u s':=by
  obtain ⟨v,H',os,bare,un,hok,r,q⟩:=h
  obtain ⟨hh,g,d,t,os'⟩:=s'
  obtain rfl:os'=s.os:=os
  exact ⟨v,H',I.call (h':=hh) (g':=g) (d':=d) (t':=t) (ch:=[]) un hok bare (fun b z=>absurd z (by simp)),r,q⟩
end
def VH (sp:Sp) (dvs:List V) (E:XK) (t:TA):TE:=fun σ H Q=>t σ H fun vs H1=>sp (vs++dvs) H1 Q E
def Binds (K:PySem.W.Frag) (fd:FuncData) (ps:List Str) (ds:List Value):Prop :=
  ∀ (s:Shared) (us:List Value),K.In s.heap→(us++ds).length=ps.length→BindsTo s fd ⟨us,[]⟩ (ps.zip (us++ds))
theorem Binds.all {K:PySem.W.Frag} {fd:FuncData} {ps:List Str} (h:∀ us:List Value,us.length=ps.length→bindArgs fd ⟨us,[]⟩=pure (ps.zip us)):Binds K fd ps []:=fun s us _ hl=>by
  rw [List.append_nil] at hl ⊢
  exact .of_eq (h us hl)
def Passes (CX:CXT) (X:Cx) (E:XK):Prop:=∀ (pins:List (Addr × Obj)) (σ:St) (H:Hp) (s:Shared) (e:Value) (s':Shared),Inv X pins σ H s→CX X.stack H s E e s'→X.xe e s'
section
variable {X:Cx} {CX:CXT} {k:Nat} {f C:Addr} {fd:FuncData} {ps:List Str} {sp:Sp} {dvs:List V} {ds:List Value} {E:XK} {x m:Str} {p pos apos:Pos} {e o:Expr} {es:List Expr} {ta:TE} {t:TA}
theorem PL {pins:List (Addr × Obj)} {σ:St} {H:Hp} {s:Shared} {Q:VK} {us:List Value} {vs:List V} (F:bR X.prog X.w X.K X.mg X.base CX k f fd ps sp) (hr:qJ k X.A) (hb:Binds X.K fd ps ds) (hd:Vals dvs ds) (hx:Passes CX X E)
    (I:Inv X pins σ H s) (r:Vals vs us) (h:sp (vs++dvs) H Q E):wpAny (model X.prog X.w) X.A (call (.ref f) us) (EP X pins σ Q) X.xe s:=by
  have r2:Vals (vs++dvs) (us++ds):=r.append hd
  have hl:(us++ds).length=ps.length:=by rw [← r2.length];exact F.len _ _ _ _ h
  refine wpAny_call (codeAny_mono (F.run X.A X.stack s H ⟨us,[]⟩ (us++ds) (vs++dvs) Q E hr I.env0 (hb s us I.kIn hl) r2 h) fun r s' hq=>?_)
  cases r with
  | error e=>exact hx pins σ H s e s' I hq
  | ok fl =>
    cases fl with
    | ret u=>exact I.after hq
    | next=>exact False.elim hq
    | brk=>exact False.elim hq
    | cont=>exact False.elim hq
theorem aK (F:bR X.prog X.w X.K X.mg X.base CX k f fd ps sp) (hr:qJ k X.A) (hg:Gl X x) (hm:X.mg x=some (.ref f)) (hk:PySem.W.keepIn X.K (.ref f)=true) (hb:Binds X.K fd ps ds) (hd:Vals dvs ds) (hx:Passes CX X E)
    (ha:PA X (e :: es) t) (hdb:(x == ("__debug__":Str))=false:=by decide) (he:starEach (e :: es) X.env=(false,eval e X.env) :: starEach es X.env:=by rfl) (hpl:(backTo pos (starEach es X.env)).any (·.1)=false:=by rfl) :
    PE X (.Call (.Name x p) (e :: es) [] pos) (VH sp dvs E t):=by
  intro pins s σ H Q I h
  refine wpAny_Call_Name_kw (Cd I hg hm ?_ hdb)
  refine PySem.W.callWith_K (h₀:=X.base) I.ok.mod.kin hk (thn (ha pos pins s σ H _ I h) fun us s1 ⟨vs,H1,I1,r,q⟩=>⟨I1.kIn,?_⟩) he hpl
  exact PL F hr hb hd hx I1 r q
end
section
variable {X:Cx} {CX:CXT} {k:Nat} {f C:Addr} {fd:FuncData} {ps ks:List Str} {sp:Sp} {E:XK} {x m:Str} {p pos apos kpos:Pos} {e o:Expr} {es:List Expr} {kws:List Keyword} {te ta:TE} {t tk:TA} {nm:Option Str}
variable {g:List Value→List Value→List Value} {gV:List V→List V→List V}
end
structure aX (N P:List Str) (sc:Scope):Prop where
  kind:sc.kind=.function
  co:sc.isCoroutine=false
  gen:sc.isGenerator=false
  nd:N.Nodup
  pre:N.take P.length=P
  par:∀ x∈P,sc.names.lookup x=some .local∨sc.names.lookup x=some .cell
  nofree:∀ y∈sc.names,y.2≠.free
theorem uT {kindOf:Str→Option NameKind} {x:Str}:∀ {binds:List (Str × Value)} {m:Str→Option Value},(∀ v,(x,v) ∉ binds)→bindL kindOf binds m x=m x
  | [],_,_=>rfl
  | (n,v) :: r,m,h=>by
    unfold bindL
    rw [uT fun w hw=>h w (List.mem_cons_of_mem _ hw)]
    split
    · have:x≠n:=by rintro rfl;exact h v List.mem_cons_self
      simp [this]
    · rfl
theorem uV {kindOf:Str→Option NameKind} {x:Str}:∀ {binds:List (Str × Value)} {m:Str→Option Value},(∀ v,(x,v) ∉ binds)→bindC kindOf binds m x=m x
  | [],_,_=>rfl
  | (n,v) :: r,m,h=>by
    unfold bindC
    rw [uV fun w hw=>h w (List.mem_cons_of_mem _ hw)]
    split
    · rfl
    · have:x≠n:=by rintro rfl;exact h v List.mem_cons_self
      simp [this]
theorem uU {kindOf:Str→Option NameKind} {x:Str} {v:Value}:∀ {P:List Str} {vs:List Value} {i:Nat} {m:Str→Option Value},P.Nodup→P[i]?=some x→vs[i]?=some v→kindOf x=some .local →
    bindL kindOf (P.zip vs) m x=some v
  | [],_,_,_,_,h,_,_=>by simp at h
  | _ :: _,[],_,_,_,_,h,_=>by simp at h
  | p :: P,w :: vs,0,m,nd,h1,h2,hk=>by
    simp at h1 h2;subst h1;subst h2
    show bindL kindOf ((p,w) :: P.zip vs) m p=_
    unfold bindL
    rw [uT fun v hv=>(List.nodup_cons.mp nd).1 (List.of_mem_zip hv).1,if_pos hk]
    simp
  | p :: P,w :: vs,i + 1,m,nd,h1,h2,hk=>by
    show bindL kindOf ((p,w) :: P.zip vs) m x=_
    unfold bindL
    exact uU (i:=i) (List.nodup_cons.mp nd).2 (by simpa using h1) (by simpa using h2) hk
theorem uW {kindOf:Str→Option NameKind} {x:Str} {v:Value}:∀ {P:List Str} {vs:List Value} {i:Nat} {m:Str→Option Value},P.Nodup→P[i]?=some x→vs[i]?=some v→kindOf x≠some .local →
    bindC kindOf (P.zip vs) m x=some v
  | [],_,_,_,_,h,_,_=>by simp at h
  | _ :: _,[],_,_,_,_,h,_=>by simp at h
  | p :: P,w :: vs,0,m,nd,h1,h2,hk=>by
    simp at h1 h2;subst h1;subst h2
    show bindC kindOf ((p,w) :: P.zip vs) m p=_
    unfold bindC
    rw [uV fun v hv=>(List.nodup_cons.mp nd).1 (List.of_mem_zip hv).1,if_neg hk]
    simp
  | p :: P,w :: vs,i + 1,m,nd,h1,h2,hk=>by
    show bindC kindOf ((p,w) :: P.zip vs) m x=_
    unfold bindC
    exact uW (i:=i) (List.nodup_cons.mp nd).2 (by simpa using h1) (by simpa using h2) hk
def start (N:List Str) (vs:List V):St:=vs.map some++List.replicate (N.length - vs.length) none
def Ob (CX:CXT) (P:Program) (w:World) (K:PySem.W.Frag) (mg:Str→Option Value) (base:Heap) (N:List Str) (qual:Str) (scope:Scope) (f:Addr) (cd:Value) (A:Around) (outer:List Env) (s:Shared) (H:Hp) (E:XK):Cx where
  prog:=P
  w:=w
  K:=K
  mg:=mg
  base:=base
  A:=A.deeper (envOfC qual scope s.heap.objs.size f cd)
  N:=N
  s₀:=s
  H₀:=H
  env:=envOfC qual scope s.heap.objs.size f cd
  outer:=outer
  stack:=envOfC qual scope s.heap.objs.size f cd :: outer
  ex:=[]
  calm:=true
  fn:=fun _=>true
  pn:=[]
  xe:=fun e s'=>wpAny (model P w) (A.deeper (envOfC qual scope s.heap.objs.size f cd)) (leaving (envOfC qual scope s.heap.objs.size f cd) e) (fun _ s''=>CX outer H s E e s'') (fun e' s''=>CX outer H s E e' s'') s'
theorem yG {sc:Scope} {n:Nat} {x:Str} (h:sc.names.lookup x=some .cell):∃ c,(cellsFrom n sc.names []).lookup x=some c:=by
  have q:=PySem.W.cellsFrom_some sc.names n [] (.inl h)
  exact Option.isSome_iff_exists.mp q
theorem Cu {CX:CXT} {P:Program} {w:World} {K:PySem.W.Frag} {mg:Str→Option Value} {base:Heap} {N ps:List Str} {qual:Str} {scope:Scope} {f:Addr} {cd:Value} {A:Around} {outer:List Env} {s s1:Shared} {H:Hp} {E:XK} {us:List Value} {vs:List V}
    (S:aX N ps scope) (hd:A.handled=none) (e0:Vv P w K mg base A outer s H) (hl:vs.length=ps.length) (r:Vals vs us)
    (x:InCallC s s.heap.objs.size (bindL (envOfC qual scope s.heap.objs.size f cd).kindOf (ps.zip us) fun _=>none) (cellsFrom (s.heap.objs.size + 1) scope.names []) (bindC (envOfC qual scope s.heap.objs.size f cd).kindOf (ps.zip us) fun _=>none) s1) :
    Inv (Ob CX P w K mg base N qual scope f cd A outer s H E) [] (start N vs) H s1:=by
  have hpl:ps.length≤N.length:=by have:=congrArg List.length S.pre;rw [List.length_take] at this;omega
  obtain ⟨h1,tk,rfl,hk⟩:=x.done
  have noA:∀ b:Addr,b ∉ (Ob CX P w K mg base N qual scope f cd A outer s H E).ex:=fun b z=>absurd (show b∈([]:List Addr) from z) (by simp)
  refine ⟨⟨e0.mod,S.kind,rfl,rfl,Nat.le_refl _,fun y z c h1 h2=>?_,fun y hy=>?_,fun y c _ h=>?_,fun _=>hd,Around.frames_deeper e0.frames,.inr ⟨rfl,rfl⟩,fun b z=>absurd z (noA b),e0.bs,e0.bsz,fun b _ _=>noA b,fun b z=>absurd z (noA b),e0.Cz,e0.frf⟩,
    rfl,e0.bare,Un.kept hk,⟨_,x.toInCall.ns,fun i y v h1 h2 h3=>?_⟩,fun y c h=>⟨_,x.cell y c h⟩,e0.hok.fresh (Nat.le_refl _),fun y c h=>?_,fun p hp=>absurd (show p∈([]:List (Addr × Obj)) from hp) (by simp),e0.hok.kept hk,?_⟩
  · exact name_of_addr x.apart (PySem.mem_of_lookup h1) (PySem.mem_of_lookup h2)
  · have hy:scope.names.lookup y=some .cell∨scope.names.lookup y=some .free:=hy
    rcases hy with hy | hy
    · exact yG hy
    · exact absurd rfl (S.nofree _ (PySem.mem_of_lookup hy))
  · exact Nat.le_of_lt (x.above y c (PySem.mem_of_lookup h))
  · have hi:i<vs.length:=by
      unfold start at h2
      by_cases hi:i<vs.length
      · exact hi
      · rw [List.getElem?_append_right (by simpa using hi)] at h2
        rw [List.getElem?_replicate] at h2
        split at h2 <;> cases h2
    have ha:vs[i]?=some v:=by
      unfold start at h2
      rw [List.getElem?_append_left (by simpa using hi),List.getElem?_map] at h2
      cases e:vs[i]? with
      | none=>rw [e] at h2;cases h2
      | some a=>rw [e] at h2;cases h2;rfl
    obtain ⟨u,hu,rv⟩:=r.get ha
    have hp:ps[i]?=some y:=by
      rw [← S.pre,List.getElem?_take_of_lt (by omega)];exact h1
    have ndP:ps.Nodup:=by rw [← S.pre];exact S.nd.sublist (List.take_sublist _ _)
    refine ⟨u,rv,?_⟩
    rcases S.par y (List.mem_of_getElem? hp) with k | k
    · exact .inl ⟨k,uU ndP hp hu k⟩
    · obtain ⟨c,e⟩:=yG (n:=s.heap.objs.size + 1) k
      refine .inr ⟨.inl k,c,e,?_⟩
      have q:=x.cell y c e
      rw [uW ndP hp hu (by show scope.names.lookup y≠_;rw [k];decide)] at q
      exact q
  · exact e0.hok.fresh (Nat.le_of_lt (x.above y c (PySem.mem_of_lookup h)))
  · unfold start
    show _=N.length
    rw [List.length_append,List.length_map,List.length_replicate]
    omega
theorem Va {CX:CXT} {P:Program} {w:World} {K:PySem.W.Frag} {mg:Str→Option Value} {base:Heap} {k:Nat} {f:Addr} {name qual:Str} {params:Arguments} {body:List Stmt} {scope:Scope} {dV kV doc pm cdv ct oc:Value} {an od:Option Addr}
    {osl:Array (Option Value)} {N ps:List Str} {sp:Sp} (lk:K.lookup f=some ⟨oc,od,.func (PySem.W.fnOf name qual params body scope dV kV doc pm an cdv ct),osl⟩) (hcd:PySem.W.codeIn K cdv qual=true) (S:aX N ps scope)
    (len:∀ vs H Q E,sp vs H Q E→vs.length=ps.length)
    (hbody:∀ (A:Around) (outer:List Env) (s:Shared) (H:Hp) (vs:List V) (Q:VK) (E:XK),qJ k (A.deeper (envOfC qual scope s.heap.objs.size f cdv))→sp vs H Q E →
      ∃ t,PSs (Ob CX P w K mg base N qual scope f cdv A outer s H E) body t∧t { nx:=fun _ H'=>Q .non H',rt:=Q } (start N vs) H) :
    bR P w K mg base CX (k + 1) f (PySem.W.fnOf name qual params body scope dV kV doc pm an cdv ct) ps sp:=by
  refine ⟨len,fun A outer s H args us vs Q E hr e0 hb r hsp=>?_⟩
  have hl:=len _ _ _ _ hsp
  have KX:K.In s.heap:=e0.mod.kin.keeps fun b o e=>(e0.bs b o e).1
  have lim:s.heap.NoLimit:=e0.mod.nolimit.keeps fun b o e=>(e0.bs b o e).1
  have hkind:∀ y∈ps.zip us,scope.names.lookup y.1=some .local∨(scope.names.lookup y.1=some .cell∧((cellsFrom (s.heap.objs.size + 1) scope.names []).lookup y.1).isSome=true):=fun ⟨n,v⟩ hy=>by
    rcases S.par n (List.of_mem_zip hy).1 with q | q
    · exact .inl q
    · exact .inr ⟨q,PySem.W.cellsFrom_some _ _ _ (.inl q)⟩
  refine codeAny_call_function hr.depth (KX _ _ lk) rfl S.co S.gen rfl (PySem.W.codeRec_of KX hcd) (hb _ _ _ _ ?_)
  refine wpAny_newFunctionEnv_cells S.kind hkind fun env he s1 x=>?_
  subst he
  refine ⟨lim.keeps x.toInCall.keep,codeAny_func ?_⟩
  obtain ⟨t,ht,hq⟩:=hbody A outer s H vs Q E (hr.deeper _) hsp
  have I:Inv (Ob CX P w K mg base N qual scope f cdv A outer s H E) [] (start N vs) H s1:=Cu S hr.hd e0 hl r x
  refine wpAny_mono (ht [] s1 (start N vs) H _ I hq) (fun fl s' hs=>?_) fun e s' hs=>hs
  have fin:∀ {σ':St} {H':Hp} {v:V} {u:Value},Inv (Ob CX P w K mg base N qual scope f cdv A outer s H E) [] σ' H' s'→RelV v u→Q v H'→CE outer P w H s Q u s' :=
    fun {σ' H' v u} J rv q=>⟨v,H',J.os,J.bare,J.base,J.hok,rv,q⟩
  cases fl with
  | ret u =>
    obtain ⟨v,σ',H',J,rv,q⟩:=hs
    exact fin J rv q
  | next =>
    obtain ⟨σ',H',J,q⟩:=hs
    exact fin (v:=V.non) (u:=Value.none) J rfl q
  | brk =>
    obtain ⟨_,_,_,q⟩:=hs
    exact False.elim q
  | cont =>
    obtain ⟨_,_,_,q⟩:=hs
    exact False.elim q
end L2
namespace L2
open PySem PySem.Spec PyProof.Rows
section
variable {X:Cx} {x:Str} {p pos:Pos} {e:Expr} {es:List Expr} {t:TA} {id T:String} {r:List V→Hp→VK→Prop}
def tCB (r:List V→Hp→VK→Prop) (t:TA):TE:=fun σ H Q=>t σ H fun vs H1=>r vs H1 Q
theorem aN (hc:oJ X (.builtin id) r) (hg:Gl X x) (hm:X.mg x=none) (hv:bootBuiltins x=some (.builtin id)) (ha:PA X (e :: es) t) (hn:x≠"__name__":=by decide) (hdb:(x == ("__debug__":Str))=false:=by decide)
    (he:starEach (e :: es) X.env=(false,eval e X.env) :: starEach es X.env:=by rfl) (hpl:(backTo pos (starEach es X.env)).any (·.1)=false:=by rfl):PE X (.Call (.Name x p) (e :: es) [] pos) (tCB r t):=by
  intro pins s σ H Q I h
  refine wpAny_Call_Name_kw (lK I hg hm hv ?_ hn hdb)
  exact PyProof.Rows.callWith_builtin1 (thn (ha pos pins s σ H _ I h) fun us s1 ⟨vs,H1,I1,r1,q1⟩=>hc pins s1 σ H1 vs us Q I1 r1 q1) he hpl
theorem bI (hc:oJ X (.type T) r) (hg:Gl X x) (hm:X.mg x=none) (hv:bootBuiltins x=some (.type T)) (ha:PA X (e :: es) t) (hn:x≠"__name__":=by decide) (hdb:(x == ("__debug__":Str))=false:=by decide)
    (he:starEach (e :: es) X.env=(false,eval e X.env) :: starEach es X.env:=by rfl) (hpl:(backTo pos (starEach es X.env)).any (·.1)=false:=by rfl):PE X (.Call (.Name x p) (e :: es) [] pos) (tCB r t):=by
  intro pins s σ H Q I h
  refine wpAny_Call_Name_kw (lK I hg hm hv ?_ hn hdb)
  exact PyProof.Rows.callWith_type1 (thn (ha pos pins s σ H _ I h) fun us s1 ⟨vs,H1,I1,r1,q1⟩=>hc pins s1 σ H1 vs us Q I1 r1 q1) he hpl
end
end L2
namespace HT
open PySem PyProof.Rows
def lexLt:List Int→List Int→Bool
  | [],[]=>false
  | [],_ :: _=>true
  | _ :: _,[]=>false
  | x :: xs,y :: ys=>if x=y then lexLt xs ys else decide (x<y)
theorem iJ (x y:Int) (xs ys:List Int):lexLt (x :: xs) (y :: ys)=if x=y then lexLt xs ys else decide (x<y):=rfl
theorem nH:lexLt [] []=false:=rfl
section
open PySem.SeqAt
open PySem.AutoSeq1 (wpAny_loadPart')
open PySem.MeetsSeq PySem.MeetsSeq2 PySem.MeetsSeq3
end
section
variable {prog:Program} {w:World} {A:Around} {E:Value→Shared→Prop} {s:Shared}
def sIx (n d:Nat):Option Int→Nat
  | none=>d
  | some v=>if v<0 then (v + (n:Int)).toNat else min v.toNat n
theorem Ec (n d:Nat):sIx n d none=d:=rfl
theorem pQ (n d k:Nat):sIx n d (some (k:Int))=min k n:=by
  show (if (k:Int)<0 then ((k:Int) + (n:Int)).toNat else min (k:Int).toNat n)=min k n
  rw [if_neg (by omega),Int.toNat_natCast]
end
end HT
namespace L2
open PySem PySem.Spec PyProof.Rows
abbrev TO:=St→Hp→(Option Int→Hp→Prop)→Prop
def PO (X:Cx) (e:Option Expr) (t:TO):Prop :=
  ∀ (pins:List (Addr × Obj)) (s:Shared) (σ:St) (H:Hp) (Q:Option Int→Hp→Prop),Inv X pins σ H s→t σ H Q →
    wpAny (model X.prog X.w) X.A (evalPart e X.env) (fun u s'=>∃ o H',Inv X pins σ H' s'∧IsPart u o∧Q o H') X.xe s
def M4:TO:=fun _ H Q=>Q none H
def Vy (t:TE):TO:=fun σ H Q=>t σ H fun x H1=>∃ i,x=.int i∧Q (some i) H1
theorem intsAre_of {ns:List Int}:∀ {us:List Value},Vals (ns.map V.int) us→IntsAre us ns:=by
  induction ns with
  | nil=>intro us r;rw [List.map_nil] at r;cases r;exact .nil
  | cons n ns ih =>
    intro us r
    rw [List.map_cons] at r
    cases r with
    | cons r1 r2 =>
      obtain ⟨t,e⟩:=r1
      subst e
      exact .cons n t (ih r2)
section
variable {X:Cx} {e:Expr} {te:TE} {lo hi:Option Expr} {tl th:TO} {pos p2:Pos}
theorem rW:PO X none M4:=by
  intro pins s σ H Q I h
  rw [evalPart_none]
  exact wpAny_pure ⟨none,H,I,.none,h⟩
theorem kW (h:PE X e te):PO X (some e) (Vy te):=by
  intro pins s σ H Q I hw
  rw [evalPart_some]
  refine thn (h pins s σ H _ I hw) fun u s1 ⟨x,H1,I1,r1,q1⟩=>?_
  obtain ⟨i,rfl,q⟩:=q1
  obtain ⟨t,rfl⟩:=r1
  exact ⟨some i,H1,I1,.int i t,q⟩
def SlR (X:Cx) (r:V→Option Int→Option Int→Hp→VK→Prop):Prop :=
  ∀ (pins:List (Addr × Obj)) (s:Shared) (σ:St) (H:Hp) (x:V) (v vl vu:Value) (lo hi:Option Int) (sl:Addr) (Q:VK),Inv X pins σ H s→RelV x v→s.heap.IsSliceOf sl vl vu .none→IsPart vl lo→IsPart vu hi→r x lo hi H Q →
    ∃ T id,typeLookup (.type T) "__getitem__"=pure (some (.builtin id))∧s.TypeIs v T∧wpAny (model X.prog X.w) X.A (getItem v (.ref sl)) (EP X pins σ Q) X.xe s
def tSl (r:V→Option Int→Option Int→Hp→VK→Prop) (te:TE) (tl th:TO):TE:=fun σ H Q=>te σ H fun x H1=>tl σ H1 fun l H2=>th σ H2 fun u H3=>r x l u H3 Q
theorem nF {r:V→Option Int→Option Int→Hp→VK→Prop} (hr:SlR X r) (he:PE X e te) (hl:PO X lo tl) (hu:PO X hi th):PE X (.Subscript e (.Slice lo hi none p2) pos) (tSl r te tl th):=by
  intro pins s σ H Q I h
  refine Subscript_ (thn (he pins s σ H _ I h) fun v s1 ⟨x,H1,I1,r1,q1⟩=>?_)
  refine wpAny_Slice (thn (hl pins s1 σ H1 _ I1 q1) fun vl s2 ⟨l,H2,I2,pl,q2⟩=>thn (hu pins s2 σ H2 _ I2 q2) fun vu s3 ⟨u,H3,I3,pu,q3⟩=>?_)
  rw [evalPart_none]
  refine wpAny_pure ?_
  have I4:Inv X pins σ H3 { s3 with heap:=s3.heap.push { cls:=.type "slice",data:=.fields #[vl,vu,.none] } }:=I3.kept (t':=s3.toks) fun b ob q=>Heap.get?_push_of_some _ q
  obtain ⟨T,id,hT,ht,hg⟩:=hr pins { s3 with heap:=s3.heap.push { cls:=.type "slice",data:=.fields #[vl,vu,.none] } } σ H3 x v vl vu l u s3.heap.objs.size Q I4 r1 (Heap.IsSliceOf.new ..) pl pu q3
  show wpAny (model X.prog X.w) X.A (subscriptTail e (.Slice lo hi none p2) v (.ref s3.heap.objs.size)) (EP X pins σ Q) X.xe { s3 with heap:=s3.heap.push { cls:=.type "slice",data:=.fields #[vl,vu,.none] } }
  exact tail_any (ops:=[.ref s3.heap.objs.size,v]) ht hT hg (by with_unfolding_all rfl)
def vC (xs:List V) (lo hi:Option Int):List V:=(xs.drop (HT.sIx xs.length 0 lo)).take (HT.sIx xs.length xs.length hi - HT.sIx xs.length 0 lo)
theorem wF (xs:List V) (lo hi:Option Int):(vC xs lo hi).length≤xs.length:=by
  unfold vC
  rw [List.length_take,List.length_drop]
  omega
theorem wH:oJ X (.type "tuple") (fun xs H Q=>∃ a ys,xs=[.ref a]∧SqT X.K H a ys∧Q (.ref a) H):=by
  intro pins s σ H xs us Q I r h
  obtain ⟨a,ys,rfl,ha,q⟩:=h
  obtain ⟨u,rfl,ru⟩:=vals1 r
  cases ru
  obtain ⟨its,_,p1,_⟩:=I.tuple ha
  exact call_tuple_same (items:=its.toArray) p1 ⟨.ref a,H,I,rfl,q⟩
end
end L2
namespace L2
open PySem PySem.Spec PyProof.Rows
def ixN (n:Nat) (i:Int):Option Nat:=if 0≤i then (if i<n then some i.toNat else none) else if -(n:Int)≤i then some (i + n).toNat else none
def atI {α:Type} (xs:List α) (i:Int):Option α:=(ixN xs.length i).bind fun j=>xs[j]?
theorem Ck {n:Nat} {i:Int} {j:Nat} (h:ixN n i=some j):seqIndex? i n=some j∧j<n∧-(n:Int)≤i∧i<n:=by
  unfold ixN at h
  by_cases h0:0≤i
  · rw [if_pos h0] at h
    by_cases h1:i<n
    · rw [if_pos h1] at h
      have e:i.toNat=j:=Option.some.inj h
      exact ⟨by rw [seqIndex_of h0 h1,e],by omega,by omega,h1⟩
    · rw [if_neg h1] at h;cases h
  · rw [if_neg h0] at h
    by_cases h1:-(n:Int)≤i
    · rw [if_pos h1] at h
      have e:(i + n).toNat=j:=Option.some.inj h
      exact ⟨by rw [seqIndex_neg (by omega) h1,e],by omega,h1,by omega⟩
    · rw [if_neg h1] at h;cases h
theorem Dq {α:Type} {xs:List α} {i:Int} {v:α} (h:atI xs i=some v):∃ j,seqIndex? i xs.length=some j∧xs[j]?=some v∧j<xs.length∧-(xs.length:Int)≤i∧i<xs.length:=by
  unfold atI at h
  cases e:ixN xs.length i with
  | none=>rw [e] at h;cases h
  | some j =>
    rw [e] at h
    obtain ⟨h1,h2,h3,h4⟩:=Ck e
    exact ⟨j,h1,h,h2,h3,h4⟩
theorem cN {α:Type} {xs:List α} {j:Nat} {v:α} (h:xs[j]?=some v):atI xs (j:Int)=some v:=by
  have hj:j<xs.length:=(List.getElem?_eq_some_iff.mp h).1
  have e:ixN xs.length (j:Int)=some j:=by
    unfold ixN
    rw [if_pos (by omega),if_pos (by omega)];simp
  unfold atI;rw [e];exact h
theorem Gb {α:Type} (xs:List α) (v:α):atI (xs++[v]) (-1)=some v:=by
  have hl:(xs++[v]).length=xs.length + 1:=by simp
  have e:ixN (xs++[v]).length (-1)=some xs.length:=by
    unfold ixN
    rw [hl,if_neg (by decide),if_pos (by omega)]
    congr 1
    omega
  unfold atI
  rw [e]
  show (xs++[v])[xs.length]?=some v
  simp
def Om (b:Expr):Prop:=∀ o i,subscripted b false o i=operate [o,i] (getItem o i)
def IxR (X:Cx) (r:R2):Prop :=
  ∀ (value slice:Expr) (pins:List (Addr × Obj)) (s:Shared) (σ:St) (H:Hp) (x y:V) (v u:Value) (Q:VK),Inv X pins σ H s→RelV x v→RelV y u→r x y H Q →
    subscripted slice false v u=operate [v,u] (getItem v u)→wpAny (model X.prog X.w) X.A (subscriptTail value slice v u) (EP X pins σ Q) X.xe s
def MtR (X:Cx) (id:String) (r:V→List V→Hp→VK→Prop):Prop :=
  ∀ (pins:List (Addr × Obj)) (s:Shared) (σ:St) (H:Hp) (x:V) (xs:List V) (v:Value) (us:List Value) (Q:VK),Inv X pins σ H s→RelV x v→Vals xs us→r x xs H Q →
    wpAny (model X.prog X.w) X.A (call (.builtin id) (v :: us)) (EP X pins σ Q) X.xe s
section
variable {X:Cx} {a b:Expr} {ta tb:TE} {pos:Pos}
theorem aL {r:R2} (hr:IxR X r) (ha:PE X a ta) (hb:PE X b tb) (hs:Om b):PE X (.Subscript a b pos) (tOp r ta tb):=by
  intro pins s σ H Q I h
  exact Subscript_ (X6 ha hb I h fun v u s2 x y H2 I2 rx ry q=>hr a b pins s2 σ H2 x y v u Q I2 rx ry q (hs _ _))
def Yk (K:PySem.W.Frag):R2:=fun x y H Q=>∃ p xs i v,x=.ref p∧y=.int i∧SqL K H p xs∧atI xs i=some v∧Q v H
def Yj (K:PySem.W.Frag):R2:=fun x y H Q=>∃ p xs i v,x=.ref p∧y=.int i∧SqT K H p xs∧atI xs i=some v∧Q v H
theorem aG:IxR X (Yk X.K):=by
  intro value slice pins s σ H x y v u Q I rx ry h hs
  obtain ⟨p,xs,i,z,rfl,rfl,hq,he,q⟩:=h
  cases rx
  obtain ⟨t,rfl⟩:=ry
  obtain ⟨its,r,pl,hz⟩:=I.list hq
  obtain ⟨j,h1,h2,h3,h4,h5⟩:=Dq he
  obtain ⟨w,ew,rw'⟩:=r.get h2
  have hl:=r.length
  have hn:=p8
  have fin:EP X pins σ Q w s:=⟨z,H,I,rw',q⟩
  by_cases h0:0≤i
  · have hj:i.toNat=j:=by
      rw [seqIndex_of h0 h5] at h1
      exact Option.some.inj h1
    exact item_listR pl.isList h0 (by omega) (by rw [hj];simpa using ew) fin hs
  · have hj:(i + (its.toArray.size:Int)).toNat=j:=by
      rw [seqIndex_neg (by omega) h4] at h1
      rw [List.size_toArray,← hl]
      exact Option.some.inj h1
    exact subscriptTail_builtinR (x:=w) pl.isList.typeIs slot_list_getitem.lookup
      (wpAny_getItem_list_neg (Q:=fun r s'=>r=w∧EP X pins σ Q r s') pl.isList (by omega) (by rw [List.size_toArray] <;> omega) (by omega) (by rw [hj];simpa using ew) ⟨rfl,fin⟩) hs
theorem cD:IxR X (Yj X.K):=by
  intro value slice pins s σ H x y v u Q I rx ry h hs
  obtain ⟨p,xs,i,z,rfl,rfl,hq,he,q⟩:=h
  cases rx
  obtain ⟨t,rfl⟩:=ry
  obtain ⟨its,r,pl,hz⟩:=I.tuple hq
  obtain ⟨j,h1,h2,h3,h4,h5⟩:=Dq he
  obtain ⟨w,ew,rw'⟩:=r.get h2
  have hl:=r.length
  have hn:=p8
  have fin:EP X pins σ Q w s:=⟨z,H,I,rw',q⟩
  exact subscriptTail_builtinR (x:=w) pl.typeIs slot_tuple_getitem.lookup
    (getItem_tuple (j:=j) (Q:=fun r s'=>r=w∧EP X pins σ Q r s') pl (by omega) (by omega) (by rw [List.size_toArray,← hl];exact h1) (by simpa using ew) ⟨rfl,fin⟩) hs
theorem zj (its:List Value) (n j:Nat) (u:Value):Obj.mapSeq (·.setIfInBounds j u) { cls:=.type "list",data:=.seq its.toArray n }={ cls:=.type "list",data:=.seq (its.set j u).toArray n }:=by
  simp [Obj.mapSeq]
theorem Inv.lst {pins:List (Addr × Obj)} {σ:St} {H:Hp} {s:Shared} {p:Addr} {xs:List V} (I:Inv X pins σ H s) (h:H p=some (.lst xs)) :
    ∃ (its:List Value) (n:Nat),Vals xs its∧s.heap.get? p=some { cls:=.type "list",data:=.seq its.toArray n }∧xs.length≤sizeLine:=by
  obtain ⟨z,its,n,r,e⟩:=I.hok p _ h
  exact ⟨its,n,r,e,z⟩
theorem Inv.QK {pins:List (Addr × Obj)} {σ:St} {H:Hp} {s:Shared} {p:Addr} {xs ys:List V} {its its':List Value} {n n':Nat} {f:Obj→Obj} (I:Inv X pins σ H s) (h:H p=some (.lst xs))
    (ho:s.heap.get? p=some { cls:=.type "list",data:=.seq its.toArray n }) (hf:f { cls:=.type "list",data:=.seq its.toArray n }={ cls:=.type "list",data:=.seq its'.toArray n' }) (r:Vals ys its') (hz:ys.length≤sizeLine) (t:Nat) :
    Inv X pins σ (upd H p (.lst ys)) { s with heap:=s.heap.update p f,toks:=t }:=by
  have e:(s.heap.update p f).get? p=some { cls:=.type "list",data:=.seq its'.toArray n' }:=by
    rw [Heap.get?_update_self f ho (by rw [hf] <;> rfl),hf]
  refine I.write (x:=p) (e:=p) (by rw [h];trivial) (.inl rfl) (fun b u hb q=>(Heap.get?_update_other _ _ (Ne.symm hb)).trans q) ⟨_,e⟩ ?_
  exact ⟨hz,its',n',r,e⟩
def Qa:V→V→V→Hp→(Hp→Prop)→Prop:=fun o i v H Q=>∃ p xs k j,o=.ref p∧i=.int k∧H p=some (.lst xs)∧ixN xs.length k=some j∧Q (upd H p (.lst (xs.set j v)))
theorem set_list:X8 X Qa:=by
  intro pins s σ H o i v ov iv u Q I ro ri rv h
  obtain ⟨p,xs,k,j,rfl,rfl,hp,hj,q⟩:=h
  cases ro
  obtain ⟨t,rfl⟩:=ri
  obtain ⟨its,n,r,ho,hz⟩:=I.lst hp
  obtain ⟨h1,h2,h3,h4⟩:=Ck hj
  have hl:=r.length
  have hn:=p8
  have I':Inv X pins σ (upd H p (.lst (xs.set j v))) { s with heap:=s.heap.update p (Obj.mapSeq (·.setIfInBounds j u)) } :=
    I.QK hp ho (zj its n j u) (r.set rv j) (by rw [List.length_set];exact hz) s.toks
  by_cases h0:0≤k
  · have hk:k.toNat=j:=by
      rw [seqIndex_of h0 h4] at h1
      exact Option.some.inj h1
    exact PySem.W.ki_setAt ho h0 (by omega) (by rw [List.size_toArray,← hl];exact h4) (by rw [hk];exact ⟨_,I',q⟩)
  · have hk:(k + (its.toArray.size:Int)).toNat=j:=by
      rw [seqIndex_neg (by omega) h3] at h1
      rw [List.size_toArray,← hl]
      exact Option.some.inj h1
    exact PySem.W.ki_setBack ho (by omega) (by rw [List.size_toArray,← hl];exact h3) (by omega) (by rw [hk];exact ⟨_,I',q⟩)
theorem uw (lo hi:Option Int) (n:Nat):(sliceBounds lo hi none n).1=((HT.sIx n 0 lo:Nat):Int)∧(sliceBounds lo hi none n).2.1=((HT.sIx n n hi:Nat):Int)∧(sliceBounds lo hi none n).2.2=1:=by
  refine ⟨?_,?_,rfl⟩
  · cases lo with
    | none=>simp [sliceBounds,HT.sIx]
    | some i =>
      simp only [sliceBounds,HT.sIx,Option.getD_none,show (1:Int) > 0 by decide,if_true]
      by_cases h:i<0
      · simp only [h,if_true] <;> omega
      · simp only [h,if_false] <;> omega
  · cases hi with
    | none=>simp [sliceBounds,HT.sIx]
    | some i =>
      simp only [sliceBounds,HT.sIx,Option.getD_none,show (1:Int) > 0 by decide,if_true]
      by_cases h:i<0
      · simp only [h,if_true] <;> omega
      · simp only [h,if_false] <;> omega
theorem rO (its:List Value) (lo hi:Option Int):slicePick its.toArray lo hi none=((its.drop (HT.sIx its.length 0 lo)).take (HT.sIx its.length its.length hi - HT.sIx its.length 0 lo)).toArray:=by
  obtain ⟨h1,h2,h3⟩:=uw lo hi its.toArray.size
  unfold slicePick
  rw [h1,h2,h3]
  simp only [sliceRange_one,pick_run,List.size_toArray] <;> rfl
def rSlL (K:PySem.W.Frag):V→Option Int→Option Int→Hp→VK→Prop:=fun x lo hi H Q=>∃ a xs,x=.ref a∧SqL K H a xs∧∀ p,H p=none→Q (.ref p) (upd H p (.lst (vC xs lo hi)))
theorem pN:SlR X (rSlL X.K):=by
  intro pins s σ H x v vl vu lo hi sl Q I rx hs pl pu h
  obtain ⟨a,xs,rfl,hx,q⟩:=h
  cases rx
  obtain ⟨its,r,ht,hz⟩:=I.list hx
  have hlen:=r.length
  refine ⟨"list",_,slot_list_getitem.lookup,ht.isList.typeIs,?_⟩
  refine wpAny_getItem_list_slice ht.isList hs pl pu .none (by simp) ?_ (by rw [List.size_toArray] <;> omega)
  rw [rO,← hlen]
  refine ⟨.ref s.heap.objs.size,_,I.laid (t':=s.toks) (o:=.lst (vC xs lo hi)) (fun b ob q=>Heap.get?_push_of_some _ q) (Nat.le_refl _) ?_,rfl,q _ (I.hok.fresh (Nat.le_refl _))⟩
  exact ⟨Nat.le_trans (wF xs lo hi) hz,_,0,(r.drop (HT.sIx xs.length 0 lo)).take (HT.sIx xs.length xs.length hi - HT.sIx xs.length 0 lo),Heap.get?_push_size _ rfl⟩
def sW:V→Bool
  | .non=>true
  | .bl _=>true
  | .int _=>true
  | .str _=>true
  | _=>false
def eqV:V→V→Bool
  | .non,.non=>true
  | .bl a,.bl b=>a == b
  | .bl a,.int b=>(if a then 1 else 0) == b
  | .int a,.bl b=>a == (if b then 1 else 0)
  | .int a,.int b=>a == b
  | .str a,.str b=>a == b
  | _,_=>false
theorem Vb {A:Around} {s:Shared} {y x:V} {u v:Value} (ry:RelV y u) (rx:RelV x v) (fy:sW y=true) (fx:sW x=true):SeqAt.EqAt A s u v (eqV y x):=by
  cases y with
  | non =>
    cases ry
    cases x with
    | non=>cases rx;exact SeqAt.EqAt.same _
    | bl b=>cases rx;exact SeqAt.EqAt.none_bool b
    | int b=>obtain ⟨t,rfl⟩:=rx;exact SeqAt.EqAt.none_int b t
    | str b=>obtain ⟨t,rfl⟩:=rx;exact SeqAt.EqAt.none_str b t
    | _=>exact absurd (show false=true from fx) Bool.false_ne_true
  | bl a =>
    cases ry
    cases x with
    | non=>cases rx;exact SeqAt.EqAt.bool_none a
    | bl b=>cases rx;exact SeqAt.EqAt.bool_bool a b
    | int b=>obtain ⟨t,rfl⟩:=rx;exact SeqAt.EqAt.bool_int a b t
    | str b=>obtain ⟨t,rfl⟩:=rx;exact SeqAt.EqAt.bool_str a b t
    | _=>exact absurd (show false=true from fx) Bool.false_ne_true
  | int a =>
    obtain ⟨t',rfl⟩:=ry
    cases x with
    | non=>cases rx;exact SeqAt.EqAt.int_none a t'
    | bl b=>cases rx;exact SeqAt.EqAt.int_bool a t' b
    | int b=>obtain ⟨t,rfl⟩:=rx;exact SeqAt.EqAt.int_int a t' b t
    | str b=>obtain ⟨t,rfl⟩:=rx;exact SeqAt.EqAt.int_str a t' b t
    | _=>exact absurd (show false=true from fx) Bool.false_ne_true
  | str a =>
    obtain ⟨t',rfl⟩:=ry
    cases x with
    | non=>cases rx;exact SeqAt.EqAt.str_none a t'
    | bl b=>cases rx;exact SeqAt.EqAt.str_bool a t' b
    | int b=>obtain ⟨t,rfl⟩:=rx;exact SeqAt.EqAt.str_int a t' b t
    | str b=>obtain ⟨t,rfl⟩:=rx;exact SeqAt.EqAt.str_str a t' b t
    | _=>exact absurd (show false=true from fx) Bool.false_ne_true
  | _=>exact absurd (show false=true from fy) Bool.false_ne_true
def eqU (x:V) (u:Value):Bool:=match u with
  | .none=>eqV .non x
  | .bool b=>eqV (.bl b) x
  | .int i _=>eqV (.int i) x
  | .str z _=>eqV (.str z) x
  | _=>false
theorem Mt {x y:V} {u:Value} (r:RelV y u) (f:sW y=true):eqU x u=eqV y x:=by
  cases y with
  | non=>cases r;rfl
  | bl b=>cases r;rfl
  | int i=>obtain ⟨t,rfl⟩:=r;rfl
  | str z=>obtain ⟨t,rfl⟩:=r;rfl
  | _=>exact absurd (show false=true from f) Bool.false_ne_true
theorem wJ {x:V}:∀ {xs:List V} {us:List Value},Vals xs us→xs.all sW=true→us.any (eqU x)=xs.any fun y=>eqV y x
  | _,_,.nil,_=>rfl
  | y :: xs,u :: us,.cons r t,f=>by
    rw [List.all_cons,Bool.and_eq_true] at f
    rw [List.any_cons,List.any_cons,Mt r f.1,wJ t f.2]
theorem sG {A:Around} {s:Shared} {x:V} {v:Value} (rx:RelV x v) (fx:sW x=true):∀ {xs:List V} {us:List Value},Vals xs us→xs.all sW=true→∀ u∈us,SeqAt.EqAt A s u v (eqU x u)
  | _,_,.nil,_=>fun u hu=>by cases hu
  | y :: xs,u :: us,.cons r t,f=>fun u' hu=>by
    rw [List.all_cons,Bool.and_eq_true] at f
    rcases List.mem_cons.mp hu with rfl | hu
    · rw [Mt r f.1];exact Vb r rx f.1 fx
    · exact sG rx fx t f.2 u' hu
def inV (x:V) (xs:List V):Bool:=xs.any fun y=>eqV y x
def rIn (K:PySem.W.Frag) (neg:Bool):R2:=fun x y H Q=>∃ p xs,y=.ref p∧(SqL K H p xs∨SqT K H p xs)∧sW x=true∧xs.all sW=true∧Q (.bl (if neg then !inV x xs else inV x xs)) H
theorem jO:OpR X (compareOp .NotIn) (rIn X.K true):=by
  intro pins s σ H x y v u Q I rx ry h
  obtain ⟨p,xs,rfl,hq,fx,fs,q⟩:=h
  cases ry
  rcases hq with hq | hq
  · obtain ⟨its,r,pl,hz⟩:=I.list hq
    refine SeqAt.notIn_listAt (eqU x) pl.isList (fun w hw=>sG rx fx r fs w (by simpa using hw)) ⟨.bl _,H,I,rfl,?_⟩
    rw [show its.toArray.any (eqU x)=its.any (eqU x) by simp,wJ r fs]
    exact q
  · obtain ⟨its,r,pl,hz⟩:=I.tuple hq
    refine SeqAt.notIn_tupleAt (eqU x) pl (fun w hw=>sG rx fx r fs w (by simpa using hw)) ⟨.bl _,H,I,rfl,?_⟩
    rw [show its.toArray.any (eqU x)=its.any (eqU x) by simp,wJ r fs]
    exact q
theorem aM:oJ X (.builtin "len") (fun xs H Q=>∃ p ys,xs=[.ref p]∧(SqL X.K H p ys∨SqT X.K H p ys)∧Q (.int ys.length) H):=by
  intro pins s σ H xs us Q I r h
  obtain ⟨p,ys,rfl,hq,q⟩:=h
  obtain ⟨u,rfl,rx⟩:=vals1 r
  cases rx
  have hn:=p8
  rcases hq with hq | hq
  · obtain ⟨its,r',pl,hz⟩:=I.list hq
    have hlen:=r'.length
    exact Calls.call_len_list pl.isList (by simp only [List.size_toArray] <;> omega) ⟨.int ys.length,H,I.tok _,⟨s.toks + 1,by rw [List.size_toArray,hlen]⟩,q⟩
  · obtain ⟨its,r',pl,hz⟩:=I.tuple hq
    have hlen:=r'.length
    exact len_tuple pl (by simp only [List.size_toArray] <;> omega) ⟨.int ys.length,H,I.tok _,⟨s.toks + 1,by rw [List.size_toArray,hlen]⟩,q⟩
theorem bf:oJ X (.type "list") (fun xs H Q=>∃ p ys,xs=[.ref p]∧(SqL X.K H p ys∨SqT X.K H p ys)∧∀ l,H l=none→Q (.ref l) (upd H l (.lst ys))):=by
  intro pins s σ H xs us Q I r h
  obtain ⟨p,ys,rfl,hq,q⟩:=h
  obtain ⟨u,rfl,rx⟩:=vals1 r
  cases rx
  have fin:∀ (its:List Value),Vals ys its→ys.length≤sizeLine→∀ (h':Heap) (c':Nat),(∀ b o',s.heap.get? b=some o'→h'.get? b=some o') →
      h'.get? s.heap.objs.size=some { cls:=.type "list",dict:=none,data:=.seq its.toArray c',slots:=#[] }→EP X pins σ Q (.ref s.heap.objs.size) { s with heap:=h' }:=fun its r' hz h' c' kp e =>
    ⟨.ref s.heap.objs.size,_,I.laid (t':=s.toks) kp (Nat.le_refl _) (show gB X.prog X.w _ h' _ (.lst ys) from ⟨hz,its,c',r',e⟩),rfl,q _ (I.hok.fresh (Nat.le_refl _))⟩
  rcases hq with hq | hq
  · obtain ⟨its,r',pl,hz⟩:=I.list hq
    have hlen:=r'.length
    obtain ⟨o,ho,hc,n,hd⟩:=pl.isList
    exact call_list_seq p (.inl rfl) ho hc hd (fun h' c' kp e=>fin its r' hz h' c' kp e) (by simp only [List.size_toArray] <;> omega)
  · obtain ⟨its,r',pl,hz⟩:=I.tuple hq
    have hlen:=r'.length
    obtain ⟨o,ho,hc,n,hd⟩:=pl
    exact call_list_seq p (.inr rfl) ho hc hd (fun h' c' kp e=>fin its r' hz h' c' kp e) (by simp only [List.size_toArray] <;> omega)
def tyV (K:PySem.W.Frag) (T:String) (x:V) (H:Hp):Prop:=match x with
  | .str _=>T="str"
  | .int _=>T="int"
  | .ref p=>(T="list"∧∃ xs,SqL K H p xs)∨(T="tuple"∧∃ o,K.lookup p=some o∧o.cls=.type "tuple"∧o.dict=none) ∨
      (T="dict"∧((∃ kvs,H p=some (.dK kvs))∨∃ kvs,H p=some (.dT kvs)))∨(T="set"∧∃ S n,H p=some (.set S n))
  | _=>False
theorem Oz {pins:List (Addr × Obj)} {σ:St} {H:Hp} {s:Shared} {T:String} {x:V} {v:Value} (I:Inv X pins σ H s) (r:RelV x v) (ty:tyV X.K T x H) :
    s.TypeIs v T∧∀ a,v=.ref a→∃ ob,s.heap.get? a=some ob∧ob.dict=none:=by
  cases x with
  | str z =>
    obtain ⟨t,rfl⟩:=r
    cases (show T="str" from ty)
    exact ⟨typeIs_str s z t,fun _ e=>nomatch e⟩
  | int i =>
    obtain ⟨t,rfl⟩:=r
    cases (show T="int" from ty)
    exact ⟨typeIs_int s i t,fun _ e=>nomatch e⟩
  | ref p =>
    cases r
    rcases ty with ⟨rfl,xs,hq⟩ | ⟨rfl,o,hk,hc,hd⟩ | ⟨rfl,hk⟩ | ⟨rfl,S,n,hk⟩
    · obtain ⟨its,_,pl,_⟩:=I.list hq
      refine ⟨pl.isList.typeIs,fun a e=>?_⟩
      cases e
      obtain ⟨o,n,e,c,hd,_⟩:=pl
      exact ⟨o,e,hd⟩
    · refine ⟨⟨o,I.kIn p o hk,hc⟩,fun a e=>?_⟩
      cases e
      exact ⟨o,I.kIn _ o hk,hd⟩
    · have z:∃ o,s.heap.get? p=some o∧o.ExactDict:=by
        rcases hk with ⟨kvs,hk⟩ | ⟨kvs,hk⟩
        · obtain ⟨_,_,_,_,o,_,_,e,ex,_⟩:=I.hok p _ hk
          exact ⟨o,e,ex⟩
        · obtain ⟨_,_,_,_,o,_,_,e,ex,_⟩:=I.hok p _ hk
          exact ⟨o,e,ex⟩
      obtain ⟨o,e,ex⟩:=z
      refine ⟨⟨o,e,ex.1⟩,fun a e2=>?_⟩
      cases e2
      exact ⟨o,e,ex.2.1⟩
    · obtain ⟨o,_,_,_,e,ex,_⟩:=I.hok p _ hk
      refine ⟨⟨o,e,ex.1⟩,fun a e2=>?_⟩
      cases e2
      exact ⟨o,e,ex.2.1⟩
  | _=>exact False.elim ty
def tBM (K:PySem.W.Frag) (T:String) (r:V→List V→Hp→VK→Prop) (to:TE) (t:TA):TE:=fun σ H Q=>to σ H fun x H1=>tyV K T x H1∧t σ H1 fun xs H2=>r x xs H2 Q
variable {o e:Expr} {es:List Expr} {to:TE} {t:TA} {name:Str} {apos cpos:Pos} {T id:String} {r:V→List V→Hp→VK→Prop}
theorem mK (pa:PlainAttrs T) (slot:Slot T name id) (hty:typeOf (.builtin id)=pure (.type "method_descriptor")) (hm:MtR X id r) (ho:PE X o to) (ha:PA X (e :: es) t)
    (hbase:attributeBase o name X.env (eval o X.env)=eval o X.env:=by rfl)
    (hfew:((backTo cpos (starEach (e :: es) X.env)).all (fun x=>!x.1) && (backToKw cpos (keywordEach [] X.env)).all (fun x=>x.1.isSome)
      && decide ((e :: es).length + ([]:List Keyword).length + (if ([]:List Keyword).isEmpty then 0 else 1)<30))=true:=by rfl)
    (hline:(apos.endLine == cpos.line)=true:=by rfl) (hs:starEach (e :: es) X.env=(false,eval e X.env) :: starEach es X.env:=by rfl) (hplain:(backTo cpos (starEach es X.env)).any (·.1)=false:=by rfl) :
    PE X (.Call (.Attribute o name apos) (e :: es) [] cpos) (tBM X.K T r to t):=by
  intro pins s σ H Q I h
  refine wpAny_Call_method_late hbase hfew hline rfl (thn (ho pins s σ H _ I h) fun v s1 ⟨x,H1,I1,r1,ty,q1⟩=>?_)
  obtain ⟨h1,h2⟩:=Oz I1 r1 ty
  refine ⟨T,id,pa,slot,hty,h1,h2,?_⟩
  have hA:=ha cpos pins s1 σ H1 _ I1 q1
  rw [hs] at hA ⊢
  refine Calls.callWith_builtin (by show (false || (backTo cpos (starEach es X.env)).any (·.1))=false;rw [hplain] <;> rfl) (Calls.evalArgs_plain ?_)
  exact thn hA fun us s2 ⟨vs,H2,I2,r2,q2⟩=>hm pins s2 σ H2 x vs v us Q I2 r1 r2 q2
end
end L2
namespace L2
open PySem PySem.Spec PyProof.Rows
def MtM (X:Cx) (id:String) (r:V→List V→Hp→VK→Prop):Prop :=
  ∀ (pins:List (Addr × Obj)) (s:Shared) (σ:St) (H:Hp) (x:V) (xs:List V) (v:Value) (us:List Value) (Q:VK),Inv X pins σ H s→RelV x v→Vals xs us→r x xs H Q →
    wpAny (model X.prog X.w) X.A (call (.builtin id) (v :: us)) (EP X pins σ Q) X.xe s
theorem Vals.one:∀ {x:V} {us:List Value},Vals [x] us→∃ u,us=[u]∧RelV x u
  | _,_,.cons r .nil=>⟨_,rfl,r⟩
theorem Vals.rep {xs:List V} {us:List Value} (h:Vals xs us):∀ k:Nat,Vals (List.replicate k xs).flatten (List.replicate k us).flatten
  | 0=>.nil
  | k + 1=>by
    rw [List.replicate_succ,List.replicate_succ,List.flatten_cons,List.flatten_cons]
    exact Vals.append h (Vals.rep h k)
theorem foldl_rep (its:List Value):∀ (k:Nat) (acc:List Value),
    List.foldl (fun x1 x2=>x1++x2) acc.toArray (List.replicate k its.toArray)=(acc++(List.replicate k its).flatten).toArray
  | 0,acc=>by simp
  | k + 1,acc=>by
    have e:acc.toArray++its.toArray=(acc++its).toArray:=by simp
    have e2:(acc++its)++(List.replicate k its).flatten=acc++(List.replicate (k + 1) its).flatten:=by
      rw [List.replicate_succ,List.flatten_cons,List.append_assoc]
    rw [← e2,← foldl_rep its k (acc++its),← e,List.replicate_succ,List.foldl_cons]
section
variable {X:Cx} {pins:List (Addr × Obj)} {σ:St} {H:Hp} {s:Shared} {l b:Addr} {xs ys zs:List V}
theorem Inv.lset {its its':List Value} {n:Nat} {f:Array Value→Array Value} {t':Nat} (I:Inv X pins σ H s) (hH:H l=some (.lst xs))
    (e:s.heap.get? l=some { cls:=.type "list",data:=.seq its.toArray n }) (hf:f its.toArray=its'.toArray) (hv:Vals ys its') (hz:ys.length≤sizeLine) :
    Inv X pins σ (upd H l (.lst ys)) { s with heap:=s.heap.update l (Obj.mapSeq f),toks:=t' }:=by
  have q:=PySem.IsL.update e f
  rw [hf] at q
  refine I.write (x:=l) (e:=l) (by rw [hH];exact trivial) (.inl rfl) (fun b' u hb hu=>(Heap.get?_update_other s.heap (Obj.mapSeq f) (Ne.symm hb)).trans hu) ⟨_,q⟩ ?_
  exact ⟨hz,its',_,hv,q⟩
theorem Inv.Yq {its:List Value} {t':Nat} (I:Inv X pins σ H s) (hv:Vals ys its) (hz:ys.length≤sizeLine) :
    Inv X pins σ (upd H s.heap.objs.size (.lst ys)) { s with heap:=s.heap.push { cls:=.type "list",data:=.seq its.toArray },toks:=t' } :=
  I.laid (fun _ _ q=>Heap.get?_push_of_some _ q) (Nat.le_refl _) ⟨hz,its,0,hv,Heap.get?_push_size _ rfl⟩
theorem Inv.fresh (I:Inv X pins σ H s):H s.heap.objs.size=none:=I.hok.fresh (Nat.le_refl _)
theorem Inv.Vp (I:Inv X pins σ H s) (hH:H l=some (.lst xs)):xs.length≤sizeLine∧∃ (its:List Value) (n:Nat),Vals xs its∧xs.length=its.length∧s.heap.get? l=some { cls:=.type "list",data:=.seq its.toArray n }:=by
  obtain ⟨z,its,n,r,e⟩:=I.hok l _ hH
  exact ⟨z,its,n,r,r.length,e⟩
theorem Er {n:Nat} (h:n≤sizeLine):Builtin.List.listTooLong n=false:=by
  unfold Builtin.List.listTooLong
  exact decide_eq_false (by omega)
end
section
variable {X:Cx}
def M8:V→List V→Hp→VK→Prop:=fun x vs H Q=>∃ l xs y,x=.ref l∧vs=[y]∧H l=some (.lst xs)∧xs.length<sizeLine∧Q .non (upd H l (.lst (xs++[y])))
theorem cC:MtM X "list.append" M8:=by
  intro pins s σ H x vs v us Q I rx rv h
  obtain ⟨l,xs,y,rfl,rfl,hH,hz,q⟩:=h
  cases rx
  obtain ⟨u,rfl,ru⟩:=rv.one
  obtain ⟨z,its,n,r,hl,e⟩:=I.Vp hH
  refine call_meets F.slot_list_append ⟨_,e,rfl⟩ F.entry_list_append (F.args_list_append_2 _ _) (PySem.list_append l its.toArray n u (by rw [List.size_toArray];omega)) ⟨e,?_⟩
  refine ⟨.non,_,I.lset (its':=its++[u]) hH e (by simp) (r.append (.cons ru .nil)) ?_,rfl,q⟩
  rw [List.length_append,List.length_singleton]
  omega
def rCat:R2:=fun x y H Q=>∃ l b xs zs,x=.ref l∧y=.ref b∧H l=some (.lst xs)∧H b=some (.lst zs)∧xs.length + zs.length≤sizeLine∧∀ p,H p=none→Q (.ref p) (upd H p (.lst (xs++zs)))
theorem GF:OpR X (binaryOp .Add) rCat:=by
  intro pins s σ H x y v u Q I rx ry h
  obtain ⟨l,b,xs,zs,rfl,rfl,hH,hB,hz,q⟩:=h
  cases rx
  cases ry
  obtain ⟨z,its,n,r,hl,e⟩:=I.Vp hH
  obtain ⟨z2,its2,n2,r2,hl2,e2⟩:=I.Vp hB
  refine PySem.P.add_list e e2 ?_ (by rw [List.size_toArray,List.size_toArray];omega)
  have ea:its.toArray++its2.toArray=(its++its2).toArray:=by simp
  rw [ea]
  exact ⟨.ref _,_,I.Yq (t':=s.toks) (r.append r2) (by rw [List.length_append];omega),rfl,q _ I.fresh⟩
def rRep:R2:=fun x y H Q=>∃ l k xs,x=.ref l∧y=.int k∧H l=some (.lst xs)∧-(2 ^ 63)≤k∧k<2 ^ 63∧xs.length * k.toNat≤sizeLine ∧
  ∀ p,H p=none→Q (.ref p) (upd H p (.lst (List.replicate k.toNat xs).flatten))
theorem len_rep {α:Type} (xs:List α) (k:Nat):(List.replicate k xs).flatten.length=k * xs.length:=by
  induction k with
  | zero=>simp
  | succ k ih=>rw [List.replicate_succ,List.flatten_cons,List.length_append,ih,Nat.succ_mul,Nat.add_comm]
theorem xW:OpR X (binaryOp .Mult) rRep:=by
  intro pins s σ H x y v u Q I rx ry h
  obtain ⟨l,k,xs,rfl,rfl,hH,h1,h2,hz,q⟩:=h
  cases rx
  obtain ⟨t,rfl⟩:=ry
  obtain ⟨z,its,n,r,hl,e⟩:=I.Vp hH
  have hlen:its.toArray.size * k.toNat≤sizeLine:=by rw [List.size_toArray,← hl];exact hz
  have hcap:¬ its.toArray.size * k.toNat > (2 ^ 63 - 1) / 8:=by
    have:(sizeLine:Nat)≤(2 ^ 63 - 1) / 8:=by decide
    omega
  have hfit:¬ (!Builtin.List.listFitsIndex k)=true:=by
    rw [fitsIndex_both h1 h2]
    exact Bool.false_ne_true
  have hlong:¬ Builtin.List.listTooLong (its.toArray.size * k.toNat)=true:=by
    rw [Er hlen]
    exact Bool.false_ne_true
  have hnew:List.foldl (fun x1 x2=>x1++x2) #[] (List.replicate (if its.toArray.isEmpty=true then 0 else k.toNat) its.toArray)=(List.replicate k.toNat its).flatten.toArray:=by
    have f0:∀ m:Nat,List.foldl (fun x1 x2=>x1++x2) #[] (List.replicate m its.toArray)=(List.replicate m its).flatten.toArray:=fun m=>by
      have:=foldl_rep its m []
      rw [List.nil_append] at this
      exact this
    rw [f0]
    cases its with
    | nil=>simp
    | cons a r'=>rw [if_neg (by simp)]
  refine wpAny_binaryOp_repeat_ref (T:="list") (U:="int") (by decide) ⟨_,e,rfl⟩ (fun s'=>typeIs_int s' k t) noFill_list_mul F.fills_int_mul F.slot_int_rmul repeat_list F.slot_int_index.lookup
    (call_meets F.slot_int_rmul (typeIs_int s k t) F.entry_int_rmul (F.args_int_rmul_2 _ _) (int___rmul___int_list k t l its.toArray n)
      ⟨e,rfl,⟨_,e,rfl⟩,call_meets F.slot_list_mul ⟨_,e,rfl⟩ F.entry_list_mul (F.args_list_mul_2 _ _) (AutoListH.list___mul___list_int_3 l its.toArray n k t hfit hcap hlong) ⟨e,?_⟩⟩)
  rw [hnew]
  exact ⟨.ref _,_,I.Yq (t':=s.toks) (r.rep k.toNat) (by rw [len_rep,Nat.mul_comm];exact hz),rfl,q _ I.fresh⟩
end
section
variable {prog:Program} {w:World} {A:Around} {E:Value→Shared→Prop} {s:Shared}
end
section
variable {X:Cx}
end
end L2
namespace Att
open PySem PySem.W PySem.Calls PyProof.Rows
theorem qd {P:Params} {h:Heap}:∀ (ns:List Int) (vs:List Value),WellAll P h vs (ns.map WData.int)→IntsAre vs ns:=by
  intro ns
  induction ns with
  | nil =>
    intro vs w
    rw [List.map_nil] at w
    cases w
    exact .nil
  | cons n ns ih =>
    intro vs w
    rw [List.map_cons] at w
    cases w with
    | cons a b =>
      cases a
      exact .cons _ _ (ih _ b)
theorem Bb {l:OpenLaw} {n:Nat} (hn:l.most=some n) {P:Params} {h:Heap} {args:List WData} {vals:List Value}
    (hpre:l.row.toRowW.claim.pre args=true) (hwl:WellAll P h vals args) :
    ∃ a vs ns,vals=[Value.ref a]∧args=[WData.list (ns.map WData.int)]∧h.get? a=some { cls:=.type "list",data:=.seq vs.toArray }∧IntsAre vs ns∧ns.length≤n:=by
  have hsh:WShape.hasAll [] args [.list .int]=true:=(pre_splitW hpre).1
  have hc:l.pre.holds [] { args:=args }=true:=(pre_splitW hpre).2
  obtain ⟨d,r,rfl,h1,h2⟩:=hasAllW_cons hsh
  obtain rfl:=hasAllW_nil h2
  obtain ⟨xs,rfl,h3⟩:=hasW_list h1
  obtain ⟨ns,rfl⟩:=items_int h3
  have hlen:ns.length≤n:=by
    unfold OpenLaw.pre at hc
    have h4:(WTm.not (.lt (.lit (.int (n:Int))) (.len (.arg 0)))).holds [] { args:=[.list (ns.map .int)] }=true:=by
      have h4:=(holds_andW hc).1
      rw [hn] at h4
      exact h4
    have h5:=condW_of h4 (w_not (w_lt w_lit (w_len_list (w_arg rfl))))
    rw [List.length_map] at h5
    refine Nat.le_of_not_lt fun q=>?_
    have q':(n:Int)<((ns.length:Nat):Int):=by omega
    first
      | (rw [decide_eq_true q'] at h5;exact absurd h5 (by decide))
      | (simp at h5;omega)
  cases hwl with
  | cons w1 w2 =>
    cases w2
    cases w1 with
    | list ho hall=>exact ⟨_,_,ns,rfl,rfl,ho,qd ns _ hall,hlen⟩
theorem Bk (l:OpenLaw) (args:List WData):l.row.toRowW.claim.post args (.bool true) args=true :=
  postW_of (r:=l.row.toRowW) (X:=(true == true))
    (show WShape.has [] (.bool true) .bool=true by first | rfl | decide | simp [WShape.has,WShape.arms,WShape.armsAll])
    (show (WTm.eq .res (.lit (.bool true))).value [] { args:=args,res:=some (.bool true),after:=args }=some (.bool (true == true)) from w_eq_bool (w_res rfl) w_lit) rfl
theorem wI {l:OpenLaw} {n:Nat} {q:Program} {loose:List Str} {XP:(Str→Option Value)→Heap→Prop} {YP:World→Heap→Prop} {d:DefRec}
    (hn:l.most=some n) (hdf:d.params.defaults=[])
    (call:∀ (w:World) (s₀ s₁:Shared) (mg mb:Str→Option Value) (fa:Addr) (o:Obj) (pm cd doc:Value) (a:Addr) (vs:List Value) (ns:List Int),
      Ground q loose [] XP w s₀ mg mb s₁.heap→YP w s₁.heap →
      s₁.heap.get? fa=some o→o.data=.func (docDef d.name d.params d.body d.scope pm cd doc)→s₁.heap.CodeRec cd d.name→mg d.name=some (.ref fa) →
      s₁.heap.get? a=some { cls:=.type "list",data:=.seq vs.toArray }→IntsAre vs ns→ns.length≤n→s₁.gens=#[] →
      codeAny (model l.prog w) callerA (.call (.ref fa) ⟨[.ref a],[]⟩) (fun r s'=>r=.ok (.ret (.bool true))∧OldK s₁.heap s'.heap∧s'.os=s₁.os∧AllBare s'.gens) s₁) :
    WalkO q loose XP YP l.row.toRowW d [] (fun f vs=>PySem.call f vs):=by
  intro w s₀ s₁ mg mb G Y fa o pm cd doc dV kV ho hd hcd hD hmg hg args vals as hpre hlay hrd hwl hlo
  obtain rfl:dV=.none:=Dflts.none hD hdf
  obtain rfl:kV=.none:=Dflts.noKw hD
  obtain ⟨a,vs,ns,rfl,rfl,hobj,hints,hlen⟩:=Bb hn hpre hwl
  refine enter_call (codeAny_mono (call w s₀ s₁ mg mb fa o pm cd doc a vs ns G Y ho (fd_plain hd) hcd hmg hobj hints hlen hg) fun r s' hq=>?_)
  obtain ⟨rfl,h2,h3,h4⟩:=hq
  exact ⟨.inl ⟨.bool true,.bool true,[],rfl,fun _=>rfl,.bool true,Bk l _,fun _=>⟨List.Pairwise.nil,fun _ hm=>(nomatch hm)⟩⟩,h2,h3,h4⟩
section
variable {prog:Program} {w:World} {A:Around} {E:Value→Shared→Prop} {s:Shared} {K:Frag}
end
end Att
namespace L2
open PySem PySem.Spec PyProof.Rows
theorem tQ:∀ {vs:List Value} {ns:List Int},IntsAre vs ns→Vals (ns.map V.int) vs
  | _,_,.nil=>.nil
  | _,_,.cons n t h=>.cons ⟨t,rfl⟩ (tQ h)
end L2
namespace L2
open PySem PySem.Spec PyProof.Rows
abbrev KOf {K:PySem.W.Frag} {h:Heap} (_:K.In h):PySem.W.Frag:=K
end L2
namespace L2
open PySem PySem.Spec PyProof.Rows
abbrev CX0:CXT:=fun _ _ _ _ _ _=>False
abbrev E0:XK:=fun _ _ _=>False
theorem bC {X:Cx}:Passes CX0 X E0:=fun _ _ _ _ _ _ _ h=>h.elim
structure Fun (K:PySem.W.Frag) (x qual:Str) (st:Stmt) (f:Addr) (fd:FuncData):Prop where
  ex:∃ (oc:Value) (od:Option Addr) (kV doc pm:Value) (an:Option Addr) (cdv ct:Value) (osl:Array (Option Value)),
    fd=PySem.W.fnOf x qual (aD st) (aC st) (ao st) .none kV doc pm an cdv ct∧K.lookup f=some ⟨oc,od,.func fd,osl⟩∧PySem.W.codeIn K cdv qual=true
  kp:PySem.W.keepIn K (.ref f)=true
variable {P:Program} {w:World} {K:PySem.W.Frag} {mg:Str→Option Value} {base:Heap} {T:fC}
theorem Fun.ok {x qual:Str} {st:Stmt} {f:Addr} {fd:FuncData} {N ps:List Str} {k:Nat} {sp:Sp} (F:Fun K x qual st f fd) (S:aX N ps (ao st)) (len:∀ vs H Q E,sp vs H Q E→vs.length=ps.length)
    (hbody:∀ (cdv:Value) (A:Around) (outer:List Env) (s:Shared) (H:Hp) (vs:List V) (Q:VK) (E:XK),qJ k (A.deeper (envOfC qual (ao st) s.heap.objs.size f cdv))→sp vs H Q E →
      ∃ t,PSs (Ob CX0 P w K mg base N qual (ao st) f cdv A outer s H E).nox (aC st) t∧t { nx:=fun _ H'=>Q .non H',rt:=Q } (start N vs) H):bR P w K mg base CX0 (k + 1) f fd ps sp:=by
  obtain ⟨oc,od,kV,doc,pm,an,cdv,ct,osl,rfl,lk,hcd⟩:=F.ex
  refine Va lk hcd S len fun A outer s H vs Q E hr hsp=>?_
  obtain ⟨t,h,q⟩:=hbody cdv A outer s H vs Q E hr hsp
  exact ⟨t,h.nox,q⟩
theorem Fun.binds {x qual:Str} {st:Stmt} {f:Addr} {fd:FuncData} {ps:List Str} (F:Fun K x qual st f fd)
    (h:∀ (kV doc pm:Value) (an:Option Addr) (cdv ct:Value) (us:List Value),us.length=ps.length→bindArgs (PySem.W.fnOf x qual (aD st) (aC st) (ao st) .none kV doc pm an cdv ct) ⟨us,[]⟩=pure (ps.zip us)):Binds K fd ps []:=by
  obtain ⟨oc,od,kV,doc,pm,an,cdv,ct,osl,rfl,lk,hcd⟩:=F.ex
  exact .all (h kV doc pm an cdv ct)
theorem bF {x qual:Str} {st:Stmt} {f:Addr} {oc:Value} {od an:Option Addr} {osl:Array (Option Value)} {kV doc pm cdv ct:Value} (l:K.lookup f=some ⟨oc,od,.func (PySem.W.fnOf x qual (aD st) (aC st) (ao st) .none kV doc pm an cdv ct),osl⟩)
    (c:PySem.W.codeIn K cdv qual=true) (k:PySem.W.keepIn K (.ref f)=true):Fun K x qual st f (PySem.W.fnOf x qual (aD st) (aC st) (ao st) .none kV doc pm an cdv ct):=⟨⟨oc,od,kV,doc,pm,an,cdv,ct,osl,rfl,l,c⟩,k⟩
section
variable {X:Cx}
theorem pv (i:Nat) {x:Str} {pos:Pos} (hN:X.N[i]?=some x:=by rfl) (hv:Vis X.env.scope x:=by first | exact Or.inl rfl | exact Or.inr (Or.inl rfl) | exact Or.inr (Or.inr rfl)) (hd:(x == ("__debug__":Str))=false:=by decide)
    (hcd:(x == ("__classdict__":Str))=false:=by decide):PE X (.Name x pos) (Ye i):=Qe hN hv hd hcd
end
theorem pA {A B:Prop} (h:B):if false=true then A else B:=by
  rw [if_neg Bool.false_ne_true]
  exact h
theorem Cp {A B:Prop} (h:A):if true=true then A else B:=by
  rw [if_pos rfl]
  exact h
theorem ite2 {c A B:Prop} [Decidable c] (h1:c→A) (h2:¬ c→B):if c then A else B:=by
  by_cases h:c
  · rw [if_pos h]
    exact h1 h
  · rw [if_neg h]
    exact h2 h
theorem NQ {c A B:Prop} [Decidable c] (hc:c) (h:B):if (!decide c)=true then A else B:=by
  rw [decide_eq_true hc]
  exact pA h
def Same (H H':Hp):Prop:=∀ b o,H b=some o→H' b=some o
theorem Same.refl (H:Hp):Same H H:=fun _ _ h=>h
theorem Same.free {H H':Hp} (e:Same H H') {l:Addr} (h:H' l=Option.none):H l=Option.none:=by
  cases q:H l with
  | none=>rfl
  | some o =>
    rw [e l o q] at h
    cases h
theorem Same.seq {K:PySem.W.Frag} {H H':Hp} {a:Addr} {xs:List V} (e:Same H H') (h:SqL K H a xs):SqL K H' a xs:=by
  rcases h with (h | ⟨o,h⟩) | h
  · exact .inl (.inl (e _ _ h))
  · exact .inl (.inr ⟨o,e _ _ h⟩)
  · exact .inr h
end L2
namespace L2
open PySem PySem.Spec PyProof.Rows
def clo (cells:List (Str × Addr)):List (Str × NameKind)→List (Str × Addr)→List (Str × Addr)
  | [],cs=>cs
  | (n,k) :: r,cs=>clo cells r (if k == .free then (n,(cells.lookup n).getD 0) :: cs else cs)
theorem Dh {env:Env}:∀ (names:List (Str × NameKind)) (cs:List (Str × Addr)),(∀ y∈names,y.2=.free→∃ c,env.cells.lookup y.1=some c) →
    (forIn names cs fun (x:Str × NameKind) (r:List (Str × Addr))=>(do
      let cs:=r
      match x with
      | (name,kind) =>
        if kind == .free then do
          let c ← cellOf env name
          let cs:=(name,c) :: cs
          pure (ForInStep.yield cs)
        else pure (ForInStep.yield cs):Sem (ForInStep (List (Str × Addr)))))=pure (clo env.cells names cs)
  | [],cs,_=>rfl
  | (n,k) :: r,cs,h=>by
    rw [List.forIn_cons]
    by_cases hk:k=.free
    · subst hk
      obtain ⟨c,hc⟩:=h (n,.free) List.mem_cons_self rfl
      have e:cellOf env n=pure c:=by unfold cellOf;rw [hc]
      simp only [beq_self_eq_true,if_true,e,pure_bind]
      rw [Dh r _ fun y hy=>h y (List.mem_cons_of_mem _ hy)]
      simp [clo,hc]
    · have hb:(k == NameKind.free)=false:=by simpa using hk
      simp only [hb,Bool.false_eq_true,if_false,pure_bind]
      rw [Dh r _ fun y hy=>h y (List.mem_cons_of_mem _ hy)]
      simp [clo,hb]
theorem mW {env:Env} {scope:Scope} (h:∀ y∈scope.names,y.2=.free→∃ c,env.cells.lookup y.1=some c):closureFor scope env=pure (clo env.cells scope.names []):=by
  unfold closureFor
  have e:=Dh (env:=env) scope.names [] h
  first
    | (rw [← e];rfl)
    | (simp only [bind_pure];exact e)
    | exact e
theorem Dg {cells:List (Str × Addr)}:∀ (names:List (Str × NameKind)) (cs:List (Str × Addr)) (p:Str × Addr),p∈clo cells names cs→p∈cs∨p.2=(cells.lookup p.1).getD 0
  | [],_,_,h=>.inl h
  | (n,k) :: r,cs,p,h=>by
    rcases Dg r _ p h with h' | h'
    · by_cases hk:(k == NameKind.free)=true
      · rw [if_pos hk] at h'
        rcases List.mem_cons.mp h' with e | e
        · subst e;exact .inr rfl
        · exact .inl e
      · rw [if_neg hk] at h';exact .inl h'
    · exact .inr h'
theorem yF {cells:List (Str × Addr)}:∀ (names:List (Str × NameKind)) (cs:List (Str × Addr)) (x:Str),(cs.lookup x).isSome=true→((clo cells names cs).lookup x).isSome=true
  | [],_,_,h=>h
  | (n,k) :: r,cs,x,h=>by
    refine yF r _ x ?_
    by_cases hk:(k == NameKind.free)=true
    · rw [if_pos hk]
      rw [List.lookup_cons]
      cases x == n with
      | true=>rfl
      | false=>exact h
    · rw [if_neg hk];exact h
theorem qp {cells:List (Str × Addr)}:∀ (names:List (Str × NameKind)) (cs:List (Str × Addr)) (x:Str),(x,NameKind.free)∈names→((clo cells names cs).lookup x).isSome=true
  | [],_,_,h=>nomatch h
  | (n,k) :: r,cs,x,h=>by
    show ((clo cells r _).lookup x).isSome=true
    rcases List.mem_cons.mp h with e | e
    · have e1:x=n:=congrArg Prod.fst e
      have e2:NameKind.free=k:=congrArg Prod.snd e
      subst e1
      subst e2
      refine yF r _ x ?_
      rw [if_pos (by decide),List.lookup_cons]
      simp
    · exact qp r _ x e
theorem Dd {cells:List (Str × Addr)} {names:List (Str × NameKind)} {x:Str} {c:Addr} (h:(clo cells names []).lookup x=some c):c=(cells.lookup x).getD 0:=by
  rcases Dg names [] _ (PySem.mem_of_lookup h) with z | z
  · exact nomatch z
  · exact z
theorem sZ {cells:List (Str × Addr)}:∀ {names:List (Str × NameKind)} (cs:List (Str × Addr)) {p:Str × Addr},p∈clo cells names cs→p∈cs∨(p.1,NameKind.free)∈names
  | [],_,_,h=>.inl h
  | (n,k) :: r,cs,p,h=>by
    rcases sZ (names:=r) _ h with h' | h'
    · by_cases hk:(k == NameKind.free)=true
      · rw [if_pos hk] at h'
        rcases List.mem_cons.mp h' with e | e
        · subst e
          have:k=.free:=by simpa using hk
          subst this
          exact .inr List.mem_cons_self
        · exact .inl e
      · rw [if_neg hk] at h';exact .inl h'
    · exact .inr (List.mem_cons_of_mem _ h')
def mV (X:Cx) (scope:Scope) (N:List Str) (s:Shared) (H:Hp) (ex:List Addr):Cx :=
  { X with N:=N,s₀:=s,H₀:=H,env:=compEnvC scope (clo X.env.cells scope.names []) s.heap.objs.size X.env,outer:=X.stack,stack:=X.stack,ex:=ex,fn:=fun x=>((clo X.env.cells scope.names []).lookup x).isNone,pn:=[],xe:=fun _ _=>False }
def freeOk (sc scope:Scope):Bool:=scope.names.all fun y=>(y.2 != .free) || (sc.names.lookup y.1 == some .cell) || (sc.names.lookup y.1 == some .free)
def vZ (scope:Scope):Bool:=(scope.kind == .function) && (scope.names.all fun y=>y.2 != .cell) && (scope.names.all fun y=>y.2 != .local || scope.names.lookup y.1 == some .local)
def wG (scope:Scope) (N N':List Str) (cap:List (Option Nat)):Bool:=(cap.length == N'.length) && (N'.zip cap).all fun p=>match p.2 with
  | none=>true
  | some j=>N[j]? == some p.1 && scope.names.lookup p.1 == some .free
def Di (cap:List (Option Nat)) (σ:St):St:=cap.map fun o=>o.bind fun j=>(σ[j]?).bind id
theorem m6 {f:Str × NameKind→Str × NameKind} (hf:∀ y,(f y).1=y.1) (x:Str):∀ names:List (Str × NameKind),(names.map f).lookup x=(names.lookup x).map fun k=>(f (x,k)).2
  | []=>rfl
  | (n,k) :: r=>by
    have ih:=m6 hf x r
    have e1:(f (n,k)).1=n:=hf (n,k)
    have e2:f (n,k)=(n,(f (n,k)).2):=Prod.ext e1 rfl
    rw [List.map_cons,e2,List.lookup_cons,List.lookup_cons]
    cases hx:x == n with
    | true =>
      have:x=n:=by simpa using hx
      subst this
      rfl
    | false=>exact ih
def rlb (env:Env):Str × NameKind→Str × NameKind:=fun (n,k)=>if (k == NameKind.free && env.scope.kind == .function && env.kindOf n == some .cell) then (n,NameKind.cell) else (n,k)
theorem Bg (env:Env) (y:Str × NameKind):(rlb env y).1=y.1:=by
  obtain ⟨n,k⟩:=y
  unfold rlb
  dsimp only
  split <;> rfl
theorem Bf (env:Env) (n:Str) (k:NameKind):(rlb env (n,k)).2=k∨((rlb env (n,k)).2=.cell∧k=.free):=by
  unfold rlb
  dsimp only
  split
  · rename_i h
    rw [Bool.and_eq_true,Bool.and_eq_true] at h
    exact .inr ⟨rfl,by simpa using h.1.1⟩
  · exact .inl rfl
theorem nC (scope:Scope) (env:Env):(relabel scope env).names=scope.names.map (rlb env):=rfl
theorem uE {scope:Scope} {env:Env} {x:Str} (h:scope.names.lookup x=some .free):(relabel scope env).names.lookup x=some .cell∨(relabel scope env).names.lookup x=some .free:=by
  rw [nC,m6 (Bg env),h]
  rcases Bf env x .free with e | ⟨e,_⟩
  · exact .inr (congrArg some e)
  · exact .inl (congrArg some e)
theorem oR {scope:Scope} {env:Env} {x:Str} {k':NameKind} (hk:k'=.cell∨k'=.free) (hn:∀ y∈scope.names,y.2≠.cell) (h:(relabel scope env).names.lookup x=some k'):(x,NameKind.free)∈scope.names:=by
  rw [nC,m6 (Bg env)] at h
  cases e:scope.names.lookup x with
  | none=>rw [e] at h;cases h
  | some k =>
    rw [e] at h
    have h':(rlb env (x,k)).2=k':=Option.some.inj h
    have hm:=PySem.mem_of_lookup e
    rcases Bf env x k with z | ⟨_,z⟩
    · rw [z] at h'
      subst h'
      rcases hk with z2 | z2
      · exact absurd z2 (hn _ hm)
      · rw [z2] at hm;exact hm
    · rw [z] at hm;exact hm
def PTs (X:Cx) (ifs:List Expr) (t:TT):Prop :=
  ∀ (pins:List (Addr × Obj)) (s:Shared) (σ:St) (H:Hp) (Q:Bool→Hp→Prop),Inv X pins σ H s→t σ H Q →
    wpAny (model X.prog X.w) X.A (forIn ifs true fun c r=>if r=true then do let ok ← isTrue c X.env (eval c X.env);pure (ForInStep.yield ok) else pure (ForInStep.yield r)) (TP X pins σ Q) X.xe s
def Vx:TT:=fun _ H Q=>Q true H
theorem zF {i:Nat} {x:V} {τ:St} {H:Hp} {A B:St→Hp→Prop} (h:A (τ.set i (some x)) H):Fq i x τ H fun τ4 H4=>Vx τ4 H4 fun b H5=>if b=true then A τ4 H5 else B τ4 H5:=by
  show if true=true then A (τ.set i (some x)) H else B (τ.set i (some x)) H
  rw [if_pos rfl];exact h
theorem iz {X:Cx}:PTs X [] Vx:=fun _ _ _ H _ I h=>wpAny_tests_nil ⟨H,I,h⟩
theorem kO {X:Cx} {c:Expr} {t:TT} (h:PT X c t):PTs X [c] t:=fun pins s σ H Q I hq=>wpAny_tests_one (h pins s σ H Q I hq)
def tZ (J:It) (acc:Addr) (g:TG) (tc:TT) (te:TE) (τ:St) (H1:Hp) (Q:Hp→Prop):Prop :=
  ∃ W:Nat→Nat→St→Hp→Prop,(∃ m,W 0 m τ (upd H1 acc (.lst [])))∧∀ i m τ H2,W i m τ H2→(J.stop i H2∧Q H2)∨(J.go i H2∧∃ N:St→Hp→Prop,(∀ τ' H',N τ' H'→∃ m',m'<m∧W (i + 1) m' τ' H')∧∀ x H3,J.yld i H2 x H3→g x τ H3 fun τ4 H4 =>
    tc τ4 H4 fun b H5=>if b=true then te τ4 H5 fun y H6=>∃ ys,H6 acc=some (.lst ys)∧ys.length<sizeLine∧N τ4 (upd H6 acc (.lst (ys++[y]))) else N τ4 H5)
theorem iK {lo:Int} {n:Nat} {acc:Addr} {g:TG} {tc:TT} {te:TE} {τ:St} {H1:Hp} {Q:Hp→Prop} (Pv:Nat→St→Hp→Prop) (h0:Pv 0 τ (upd H1 acc (.lst [])))
    (hs:∀ i τ H,i<n→Pv i τ H→g (.int (lo + i)) τ H fun τ4 H4=>tc τ4 H4 fun b H5=>if b=true then te τ4 H5 fun y H6=>∃ ys,H6 acc=some (.lst ys)∧ys.length<sizeLine∧Pv (i + 1) τ4 (upd H6 acc (.lst (ys++[y]))) else Pv (i + 1) τ4 H5)
    (hd:∀ τ H,Pv n τ H→Q H):tZ (Itr lo n) acc g tc te τ H1 Q:=by
  refine ⟨fun i m τ H=>m=n - i∧i≤n∧Pv i τ H,⟨n,by simp,Nat.zero_le _,h0⟩,?_⟩
  rintro i m τ H ⟨rfl,hi,p⟩
  by_cases hlt:i<n
  · refine .inr ⟨hlt,Pv (i + 1),fun τ' H' p'=>⟨n - (i + 1),by omega,rfl,hlt,p'⟩,fun x H' y=>?_⟩
    obtain ⟨e,y⟩:=y
    subst e y
    exact hs i τ _ hlt p
  · have e:i=n:=by omega
    subst e
    exact .inl ⟨Nat.le_refl _,hd τ H p⟩
theorem dI {K:PySem.W.Frag} {a:Addr} {xs:List V} {acc:Addr} {g:TG} {tc:TT} {te:TE} {τ:St} {H1:Hp} {Q:Hp→Prop} (Pv:Nat→St→Hp→Prop) (h0:Pv 0 τ (upd H1 acc (.lst []))) (hl:∀ i τ H,i≤xs.length→Pv i τ H→SqL K H a xs)
    (hs:∀ i x τ H,xs[i]?=some x→Pv i τ H→g x τ H fun τ4 H4=>tc τ4 H4 fun b H5=>if b=true then te τ4 H5 fun y H6=>∃ ys,H6 acc=some (.lst ys)∧ys.length<sizeLine∧Pv (i + 1) τ4 (upd H6 acc (.lst (ys++[y]))) else Pv (i + 1) τ4 H5)
    (hd:∀ τ H,Pv xs.length τ H→Q H):tZ (Itl K a) acc g tc te τ H1 Q:=by
  refine ⟨fun i m τ H=>m=xs.length - i∧i≤xs.length∧Pv i τ H,⟨xs.length,by simp,Nat.zero_le _,h0⟩,?_⟩
  rintro i m τ H ⟨rfl,hi,p⟩
  have q:=hl i τ H hi p
  by_cases hlt:i<xs.length
  · refine .inr ⟨⟨xs,xs[i],q,by simp [hlt]⟩,Pv (i + 1),fun τ' H' p'=>⟨xs.length - (i + 1),by omega,rfl,hlt,p'⟩,fun x H' y=>?_⟩
    obtain ⟨e,y⟩:=y
    subst e
    exact hs i x τ _ (y xs q) p
  · have e:i=xs.length:=by omega
    subst e
    exact .inl ⟨⟨xs,q,Nat.le_refl _⟩,hd τ H p⟩
def M5 (wi:TI) (cap:List (Option Nat)) (g:TG) (tc:TT) (te:TE):TE:=fun σ H Q=>wi σ H fun J H1=>∀ acc,H1 acc=none→tZ J acc g tc te (Di cap σ) H1 (fun H2=>Q (.ref acc) H2)
abbrev Vf (ifs:List Expr) (env:Env):Sem Bool:=forIn ifs true fun c r=>if r=true then do let ok ← isTrue c env (eval c env);pure (ForInStep.yield ok) else pure (ForInStep.yield r)
abbrev wpQ {α:Type} (prog:Program) (w:World) (A:Around) (m:Sem α) (Q:α→Shared→Prop) (s:Shared):Prop:=wpAny (model prog w) A m Q (fun _ _=>False) s
theorem CW {prog:Program} {w:World} {A:Around} {R:Result→Shared→Prop} {s:Shared} {elt target iter:Expr} {ifs:List Expr} {scope:Scope} {pos:Pos} {it acc:Value} {env:Env} (I:Nat→Shared→Prop)
    (turn:∀ k s0,I k s0→wpQ prog w A (pyNext it) (fun r s1=>(r=none∧R (.ok .next) s1)∨∃ v,r=some v ∧
      wpQ prog w A (letOwnedTupleGo target it v) (fun _ s2=>wpQ prog w A (assign target env v) (fun _ s3=>wpQ prog w A (Vf ifs env) (fun ok s4 =>
        (ok=false∧∃ m,m<k∧I m s4)∨(ok=true∧wpQ prog w A (eval elt env) (fun x s5=>wpQ prog w A (call (.builtin "list.append") [acc,x]) (fun _ s6=>∃ m,m<k∧I m s6) s5) s4)) s3) s2) s1) s0)
    (k:Nat) (h:I k s):codeAny (model prog w) A (.compLoop (.ListComp elt [⟨target,iter,ifs,0⟩] scope pos) 0 it acc env) R s:=by
  have quiet:∀ (e:Value) (s':Shared),False→notedBy (model prog w) A env (fun e s'=>R (.error e) s') e s':=fun _ _ z=>z.elim
  apply codeAny_loop rfl I _ k h
  intro k s0 start
  apply wpAny_noted
  rw [compTurn_list]
  apply wpAny_bind
  apply wpAny_standAt
  apply wpAny_bind
  apply wpAny_mono (turn k s0 start) _ quiet
  rintro r s1 (⟨rfl,stop⟩ | ⟨v,rfl,rest⟩)
  · exact wpAny_pure stop
  apply wpAny_bind
  apply wpAny_mono rest _ quiet
  intro _ s2 h2
  apply wpAny_bind
  apply wpAny_mono h2 _ quiet
  intro _ s3 h3
  apply wpAny_bind
  apply wpAny_mono h3 _ quiet
  rintro ok s4 (⟨rfl,skip⟩ | ⟨rfl,add⟩)
  · exact wpAny_pure ⟨rfl,skip⟩
  apply wpAny_bind
  apply wpAny_bind
  apply wpAny_mono add _ quiet
  intro x s5 h5
  apply wpAny_bind
  apply wpAny_mono h5 _ quiet
  intro _ s6 h6
  exact wpAny_pure (wpAny_pure ⟨rfl,h6⟩)
section
variable {X:Cx} {tg iter elt:Expr} {ifs:List Expr} {scope:Scope} {pos:Pos} {wi:TI} {N':List Str} {cap:List (Option Nat)} {g:TG} {tc:TT} {te:TE}
theorem qY {use:Option (Value→Sem Unit)} {R:Value→Shared→Prop} (sc:Scope) (hsc:X.env.scope=sc) (N₀:List Str) (hN₀:X.N=N₀) (f1:freeOk sc scope=true) (f2:vZ scope=true) (f3:wG scope N₀ N' cap=true) (hcalm:X.calm=true)
    (hi:PI X tg iter wi)
    (hg:∀ (s:Shared) (H:Hp) (ex:List Addr),PG (mV X scope N' s H ex) tg g)
    (hc:∀ (s:Shared) (H:Hp) (ex:List Addr),PTs (mV X scope N' s H ex) ifs tc)
    (he:∀ (s:Shared) (H:Hp) (ex:List Addr),PE (mV X scope N' s H ex) elt te)
    (hs:∀ x,foldedSetIterable iter X.env x=pure x)
    {pins:List (Addr × Obj)} {s:Shared} {σ:St} {H:Hp} {Q:V→Hp→Prop} (I:Inv X pins σ H s) (h:M5 wi cap g tc te σ H Q)
    (fin:∀ (acc C:Addr) (s':Shared) (H':Hp) (m:Str→Option Value),Inv X pins σ H' s'→s'.heap.Ns C m→H' C=none→C≠X.env.locals→X.s₀.heap.objs.size≤C→(∀ x c,X.env.cells.lookup x=some c→c≠C)→(∀ p∈X.pn++pins,p.1≠C)→Q (.ref acc) H' →
      compPost (model X.prog X.w) X.A X.xe use R (.ref acc) C (.ok .next) s') :
    wpAny (model X.prog X.w) X.A (comprehension (.ListComp elt [⟨tg,iter,ifs,0⟩] scope pos) scope X.env (firstIterPos [⟨tg,iter,ifs,0⟩] pos) (newList []) false (firstIter [⟨tg,iter,ifs,0⟩] X.env) use) R X.xe s:=by
  have ok:=I.ok
  have fr:∀ y∈scope.names,y.2=.free→X.env.kindOf y.1=some .cell∨X.env.kindOf y.1=some .free:=fun y hy e=>by
    have q:=List.all_eq_true.mp f1 y hy
    rw [e] at q
    have q':((sc.names.lookup y.1 == some NameKind.cell) || (sc.names.lookup y.1 == some NameKind.free))=true:=by simpa using q
    rw [Bool.or_eq_true] at q'
    unfold Env.kindOf
    rw [hsc]
    rcases q' with z | z
    · exact .inl (by simpa using z)
    · exact .inr (by simpa using z)
  obtain ⟨⟨k1,k2⟩,k3⟩:((scope.kind == .function)=true∧(scope.names.all fun y=>y.2 != .cell)=true)∧(scope.names.all fun y=>y.2 != .local || scope.names.lookup y.1 == some .local)=true:=by
    unfold vZ at f2
    rw [Bool.and_eq_true,Bool.and_eq_true] at f2
    exact f2
  have hkind:scope.kind=.function:=by simpa using k1
  have hcell:∀ y∈scope.names,y.2≠.cell:=fun y hy=>by
    have q:=List.all_eq_true.mp k2 y hy
    simpa using q
  have hnames:∀ y∈scope.names,y.2=.local→scope.names.lookup y.1=some .local:=fun y hy e=>by
    have q:=List.all_eq_true.mp k3 y hy
    rw [e] at q
    simpa using q
  have hclos:closureFor scope X.env=pure (clo X.env.cells scope.names []):=mW fun y hy e=>ok.has y.1 (fr y hy e)
  have clX:∀ x c,(clo X.env.cells scope.names []).lookup x=some c→X.env.cells.lookup x=some c:=fun x c e=>by
    have e1:=Dd e
    have hx:(x,NameKind.free)∈scope.names:=by
      rcases sZ [] (PySem.mem_of_lookup e) with z | z
      · exact nomatch z
      · exact z
    obtain ⟨c',e2⟩:=ok.has x (fr (x,.free) hx rfl)
    rw [e2] at e1 ⊢
    rw [e1];rfl
  refine wpAny_comprehension_free (use:=use) rfl hs hclos hkind hnames ?_
  show wpAny (model X.prog X.w) X.A (eval iter X.env) _ X.xe s
  refine thn (hi pins s σ H _ I h) fun v s1 h1=>thn h1 fun itv s2 h2=>?_
  obtain ⟨it,fp,tn,J,H2,e,I2,T,st2,f2',h3⟩:=h2
  subst e
  refine wpAny_newObj_type ?_
  have fresh2:H2 s2.heap.objs.size=none:=I2.hok.fresh (Nat.le_refl _)
  have I3:Inv X pins σ (upd H2 s2.heap.objs.size (.lst [])) { s2 with heap:=s2.heap.push { cls:=.type "list",data:=.seq ([]:List Value).toArray } } :=
    I2.laid (t':=s2.toks) (fun b o e=>Heap.get?_push_of_some _ e) (Nat.le_refl _) ⟨Nat.zero_le _,[],0,.nil,Heap.get?_push_size _ rfl⟩
  have st3:tn 0 (s2.heap.push { cls:=.type "list",data:=.seq ([]:List Value).toArray }):=T.keep _ _ _ st2 fun b _ o e=>Heap.get?_push_of_some _ e
  have fpne:∀ b∈fp,b≠s2.heap.objs.size:=fun b hb z=>by
    obtain ⟨o,eo,_⟩:=T.obj 0 _ st2 b hb
    exact absurd (Heap.lt_size eo) (by rw [z];exact Nat.lt_irrefl _)
  have fp3:∀ b∈fp,vD X pins (upd H2 s2.heap.objs.size (.lst [])) b:=fun b hb=>by
    obtain ⟨a0,a1⟩:=f2' b hb
    exact ⟨by rw [bA (fpne b hb)];exact a0,a1⟩
  obtain ⟨W,⟨m0,w0⟩,turn⟩:=h3 s2.heap.objs.size fresh2
  generalize hacc:s2.heap.objs.size=acc at I3 fp3 w0 turn fpne ⊢
  generalize hs3:({ s2 with heap:=s2.heap.push { cls:=.type "list",data:=.seq ([]:List Value).toArray } }:Shared)=s3 at I3 ⊢
  have st3:tn 0 s3.heap:=by rw [← hs3];exact st3
  have accTr:(upd H2 acc (.lst [])) acc=some (.lst []):=cF
  refine wpAny_newFunctionEnv hcell (by intro y hy;cases hy) (fun h4 hns hsb=>?_) hkind
  have hCf:s3.heap.get? s3.heap.objs.size=none:=Heap.get?_none_of_le (Nat.le_refl _)
  have kp4:∀ b o,s3.heap.get? b=some o→h4.get? b=some o:=fun b o e=>hsb.extBut b o (Nat.ne_of_lt (Heap.lt_size e)) (Heap.get?_push_of_some _ e)
  let Y:Cx:=mV X scope N' s3 (upd H2 acc (.lst [])) fp
  have envY:Y.env=compEnvC scope (clo X.env.cells scope.names []) s3.heap.objs.size X.env:=rfl
  have okY:Y.Ok:=by
    refine ⟨ok.mod,?_,ok.glob,ok.blt,Nat.le_refl _,?_,?_,?_,ok.hd,ok.frames,.inl rfl,?_,?_,?_,?_,?_,?_,?_⟩
    · show (relabel scope X.env).kind=.function
      exact hkind
    · exact fun x y c h1 h2=>ok.inj x y c (clX x c h1) (clX y c h2)
    · intro x hx
      have hx':(relabel scope X.env).names.lookup x=some .cell∨(relabel scope X.env).names.lookup x=some .free:=hx
      have hm:(x,NameKind.free)∈scope.names:=by
        rcases hx' with z | z
        · exact oR (.inl rfl) hcell z
        · exact oR (.inr rfl) hcell z
      exact Option.isSome_iff_exists.mp (qp scope.names [] x hm)
    · intro x c hx h1
      have hx':((clo X.env.cells scope.names []).lookup x).isNone=true:=hx
      have h1':(clo X.env.cells scope.names []).lookup x=some c:=h1
      rw [h1'] at hx';cases hx'
    · intro b hb
      obtain ⟨q0,q1,q2,q3,q4,q5⟩:=fp3 b hb
      refine ⟨?_,fun x c h1=>q4 x c (clX x c h1)⟩
      obtain ⟨o,eo,_⟩:=T.obj 0 _ st3 b hb
      exact Nat.ne_of_lt (Heap.lt_size eo)
    · exact fun b o e=>I3.bs b o e
    · exact Nat.le_trans ok.bsz I3.sz
    · intro b o e hb
      obtain ⟨q0,q1,q2,q3,q4,q5⟩:=fp3 b hb
      rcases q3 with z | z
      · exact ok.noex b o e z
      · exact absurd (Nat.lt_of_lt_of_le (Heap.lt_size e) (Nat.le_trans ok.bsz z)) (Nat.lt_irrefl _)
    · intro b hb hf
      obtain ⟨q0,q1,q2,q3,q4,q5⟩:=fp3 b hb
      rcases List.mem_cons.mp (I3.Ae b hf) with z | z
      · exact q1 z
      · exact q2 z
    · exact I3.stack
    · exact I3.vL
  have capl:cap.length=N'.length∧∀ p∈N'.zip cap,(match p.2 with | none=>true | some j=>N₀[j]? == some p.1 && scope.names.lookup p.1 == some .free)=true:=by
    unfold wG at f3
    rw [Bool.and_eq_true] at f3
    exact ⟨by simpa using f3.1,fun p hp=>List.all_eq_true.mp f3.2 p hp⟩
  have IY:Inv Y [] (Di cap σ) (upd H2 acc (.lst [])) { s3 with heap:=h4,toks:=s3.toks + ([]:List (Str × Value)).length }:=by
    refine ⟨okY,rfl,I3.bare,Un.kept kp4,⟨_,hns,?_⟩,?_,?_,?_,fun p hp=>absurd (show p∈([]:List (Addr × Obj)) from hp) (by simp),I3.hok.kept kp4,?_⟩
    · intro i x v e1 e2 e3
      have e1':N'[i]?=some x:=e1
      unfold Di at e2
      rw [List.getElem?_map] at e2
      cases ec:cap[i]? with
      | none=>rw [ec] at e2;cases e2
      | some o =>
        rw [ec] at e2
        cases o with
        | none=>cases e2
        | some j =>
          have e2':(σ[j]?).bind id=some v:=by simpa using e2
          have hz:(x,some j)∈N'.zip cap:=by
            refine List.mem_of_getElem? (i:=i) ?_
            rw [List.getElem?_zip_eq_some]
            exact ⟨e1',ec⟩
          have q:=capl.2 _ hz
          have q':(N₀[j]? == some x)=true∧(scope.names.lookup x == some NameKind.free)=true:=by simpa [Bool.and_eq_true] using q
          have q1:X.N[j]?=some x:=by rw [hN₀];simpa using q'.1
          have q2:scope.names.lookup x=some .free:=by simpa using q'.2
          have eσ:σ[j]?=some (some v):=by
            cases z:σ[j]? with
            | none=>rw [z] at e2';cases e2'
            | some y =>
              rw [z] at e2'
              have:y=some v:=e2'
              rw [this]
          have hk:=fr (x,.free) (PySem.mem_of_lookup q2) rfl
          obtain ⟨m,hn,hl⟩:=I3.loc
          have vis:Vis X.env.scope x:=by
            rcases hk with z | z
            · exact .inr (.inl z)
            · exact .inr (.inr z)
          obtain ⟨u,r,l⟩:=hl j x v q1 eσ vis
          refine ⟨u,r,.inr ⟨?_,?_⟩⟩
          · rcases uE (scope:=scope) (env:=X.env) q2 with z | z
            · exact .inl z
            · exact .inr z
          · rcases l with ⟨kl,_⟩ | ⟨_,c,ecx,hcx⟩
            · rcases hk with z | z
              · have z':X.env.kindOf x=some .cell:=z
                rw [kl] at z';cases z'
              · have z':X.env.kindOf x=some .free:=z
                rw [kl] at z';cases z'
            · have hh:=qp (cells:=X.env.cells) scope.names [] x (PySem.mem_of_lookup q2)
              obtain ⟨c',ec'⟩:=Option.isSome_iff_exists.mp hh
              have ec2:=clX x c' ec'
              rw [ecx] at ec2
              cases ec2
              exact ⟨c,ec',hcx.keeps kp4⟩
    · intro x c e
      obtain ⟨v,z⟩:=I3.cell x c (clX x c e)
      exact ⟨v,z.keeps kp4⟩
    · exact I3.hok.fresh (Nat.le_refl _)
    · exact fun x c e=>I3.freeC x c (clX x c e)
    · show (Di cap σ).length=N'.length
      unfold Di
      rw [List.length_map];exact capl.1
  have fpY:∀ {H':Hp},(∀ b∈fp,H' b=none)→∀ b∈fp,vD Y [] H' b:=fun {H'} hn b hb=>by
    obtain ⟨q0,q1,q2,q3,q4,q5⟩:=fp3 b hb
    refine ⟨hn b hb,(okY.exf b hb).1,okY.exfs b hb,.inl hb,(okY.exf b hb).2,fun p hp=>absurd (show p∈([]:List (Addr × Obj)) from hp) (by simp)⟩
  have st4:tn 0 h4:=T.keep _ _ _ st3 fun b _ o e=>kp4 b o e
  have back:∀ {τ:St} {H':Hp} {s':Shared},Inv Y [] τ H' s'→Q (.ref acc) H'→compPost (model X.prog X.w) X.A X.xe use R (.ref acc) s3.heap.objs.size (.ok .next) s':=fun {τ H' s'} J q=>by
    have un:Un (frs X.stack) fp (upd H2 acc (.lst [])) H' s3.heap s'.heap:=J.base
    have IX:Inv X pins σ H' s':=I3.call' (J.os) un J.hok J.bare fun b hb=>by
      obtain ⟨q0,q1,q2,q3,q4,q5⟩:=fp3 b hb
      exact ⟨q3,q1,q4,q5⟩
    obtain ⟨m,hn,_⟩:=J.loc
    refine fin acc s3.heap.objs.size s' H' m IX hn J.free (Nat.ne_of_gt I3.lt) I3.sz (fun x c e z=>?_) (fun p hp z=>?_) q
    · obtain ⟨v,q⟩:=I3.cell x c e
      exact absurd q.lt (by rw [z];exact Nat.lt_irrefl _)
    · exact absurd (Heap.lt_size (I3.pin p hp).1) (by rw [z];exact Nat.lt_irrefl _)
  have loop:∀ s5:Shared,s5={ s3 with heap:=h4,toks:=s3.toks + ([]:List (Str × Value)).length } →
      codeAny (model X.prog X.w) X.A (.compLoop (.ListComp elt [⟨tg,iter,ifs,0⟩] scope pos) 0 (.ref it) (.ref acc) Y.env) (compPost (model X.prog X.w) X.A X.xe use R (.ref acc) s3.heap.objs.size) s5:=by
    rintro s5 rfl
    refine CW (fun n s'=>∃ i τ H',Inv Y [] τ H' s'∧tn i s'.heap∧(∀ b∈fp,H' b=none)∧W i n τ H') ?_ m0 ⟨0,_,_,IY,st4,fun b hb=>(fp3 b hb).1,w0⟩
    rintro n s6 ⟨i,τ,H6,I6,st6,fr6,w6⟩
    rcases turn i n τ H6 w6 with ⟨stop,q⟩ | ⟨go,N,hN,step⟩
    · refine wpAny_mono (T.done Y rfl rfl rfl hcalm i [] s6 τ H6 (fun _ _=>False) I6 (fpY fr6) st6 stop) (fun r s7 ⟨hr,I7⟩=>?_) fun _ _ z=>z.elim
      exact .inl ⟨hr,back I7 q⟩
    · refine wpAny_mono (T.item Y rfl rfl rfl hcalm i [] s6 τ H6 (fun _ _=>False) I6 (fpY fr6) st6 go) (fun r s6b ⟨u,hr,h7⟩=>?_) fun _ _ z=>z.elim
      refine .inr ⟨u,hr,?_⟩
      refine wpAny_mono h7 (fun _ s7 ⟨x,H7,I7,r7,y7,st7,fr7⟩=>?_) fun _ _ z=>z.elim
      have I7':=I7.pinned (fpY fr7) (T.obj _ _ st7)
      have again:∀ {τ8:St} {H8:Hp} {s8:Shared},Inv Y ([]++uG fp s7.heap) τ8 H8 s8→N τ8 H8→∃ m,m<n∧∃ i τ H',Inv Y [] τ H' s8∧tn i s8.heap∧(∀ b∈fp,H' b=none)∧W i m τ H':=fun {τ8 H8 s8} I8 n8=>by
        obtain ⟨m',hm,w8⟩:=hN τ8 H8 n8
        refine ⟨m',hm,i + 1,τ8,H8,I8.jo,T.keep _ _ _ st7 fun b hb o e=>(I8.pin (b,o) (List.mem_append_right _ (List.mem_append_right _ (mG hb e)))).1,fun b hb=>?_,w8⟩
        obtain ⟨o,e,d⟩:=T.obj _ _ st7 b hb
        exact (I8.pin (b,o) (List.mem_append_right _ (List.mem_append_right _ (mG hb e)))).2.1
      refine wpAny_mono (hg s3 (upd H2 acc (.lst [])) fp _ s7 τ H7 x u _ I7' r7 (step x H7 y7)) (fun _ s8 ⟨τ8,H8,I8,q8⟩=>?_) fun _ _ z=>z.elim
      refine wpAny_mono (hc s3 (upd H2 acc (.lst [])) fp _ s8 τ8 H8 _ I8 q8) (fun b s9 ⟨H9,I9,q9⟩=>?_) fun _ _ z=>z.elim
      cases b with
      | false =>
        rw [if_neg Bool.false_ne_true] at q9
        exact .inl ⟨rfl,again I9 q9⟩
      | true =>
        rw [if_pos rfl] at q9
        refine .inr ⟨rfl,?_⟩
        refine wpAny_mono (he s3 (upd H2 acc (.lst [])) fp _ s9 τ8 H9 _ I9 q9) (fun y s10 ⟨yv,H10,I10,r10,ys,hl,hz,q10⟩=>?_) fun _ _ z=>z.elim
        refine wpAny_mono (cC (X:=Y) _ s10 τ8 H10 (.ref acc) [yv] (.ref acc) [y] (fun v H'=>N τ8 H') I10 rfl (.cons r10 .nil) ⟨acc,ys,yv,rfl,rfl,hl,hz,q10⟩) (fun v s11 ⟨vv,H11,I11,r11,q11⟩=>?_) fun _ _ z=>z.elim
        exact again I11 q11
  exact codeAny_compStart_list (loop _ rfl) (T.self _ _ _ _ _ st4 (loop _ rfl))
theorem iC (sc:Scope) (hsc:X.env.scope=sc) (N₀:List Str) (hN₀:X.N=N₀) (N':List Str) (cap:List (Option Nat)) (f1:freeOk sc scope=true) (f2:vZ scope=true) (f3:wG scope N₀ N' cap=true) (hcalm:X.calm=true)
    (hi:PI X tg iter wi)
    (hg:∀ (s:Shared) (H:Hp) (ex:List Addr),PG (mV X scope N' s H ex) tg g)
    (hc:∀ (s:Shared) (H:Hp) (ex:List Addr),PTs (mV X scope N' s H ex) ifs tc)
    (he:∀ (s:Shared) (H:Hp) (ex:List Addr),PE (mV X scope N' s H ex) elt te)
    (hs:∀ x,foldedSetIterable iter X.env x=pure x:=by intro _;rfl) :
    PE X (.ListComp elt [⟨tg,iter,ifs,0⟩] scope pos) (M5 wi cap g tc te):=by
  intro pins s σ H Q I h
  rw [eval_ListComp]
  refine qY (use:=none) sc hsc N₀ hN₀ f1 f2 f3 hcalm hi hg hc he hs I h ?_
  intro acc C s' H' m IX hn hC h1 h2 h3 h4 q
  refine ⟨m,hn,fun h'' hs''=>?_⟩
  exact ⟨.ref acc,H',IX.turned (t':=s'.toks) (fun b o hb e=>(hs''.2 b hb).trans e) hC h1 (.inr h2) h3 h4,rfl,q⟩
theorem fZ {i:Nat} {x:Str} {pos' spos:Pos} (sc:Scope) (hsc:X.env.scope=sc) (N₀:List Str) (hN₀:X.N=N₀) (N':List Str) (cap:List (Option Nat)) (f1:freeOk sc scope=true) (f2:vZ scope=true) (f3:wG scope N₀ N' cap=true) (hcalm:X.calm=true)
    (hnd:X.N.Nodup) (hix:X.N[i]?=some x) (hx:X.env.scope.names.lookup x=some .local)
    (hi:PI X tg iter wi)
    (hg:∀ (s:Shared) (H:Hp) (ex:List Addr),PG (mV X scope N' s H ex) tg g)
    (hc:∀ (s:Shared) (H:Hp) (ex:List Addr),PTs (mV X scope N' s H ex) ifs tc)
    (he:∀ (s:Shared) (H:Hp) (ex:List Addr),PE (mV X scope N' s H ex) elt te)
    (hsw:swapsWith (.ListComp elt [⟨tg,iter,ifs,0⟩] scope pos) (some (.Name x pos')) spos.line X.env=pure true)
    (hs:∀ x,foldedSetIterable iter X.env x=pure x:=by intro _;rfl) :
    PS X (.Assign [.Name x pos'] (.ListComp elt [⟨tg,iter,ifs,0⟩] scope pos) spos) (VL (M5 wi cap g tc te) (Fq i)):=by
  intro pins s σ H D I h
  rw [exec_Assign_Name_used _ _ _ _ hsw]
  refine wpAny_bind (wpAny_standAt (wpAny_bind ?_))
  show wpAny _ X.A (do let _ ← comprehension (.ListComp elt [⟨tg,iter,ifs,0⟩] scope pos) scope X.env _ (newList []) false (firstIter [⟨tg,iter,ifs,0⟩] X.env) (some (assign (.Name x pos') X.env))) _ _ s
  refine wpAny_bind (wpAny_mono (qY (use:=some (assign (.Name x pos') X.env)) (R:=fun _ s'=>SP X pins D .next s') sc hsc N₀ hN₀ f1 f2 f3 hcalm hi hg hc he hs I h ?_) (fun _ s' hq=>wpAny_pure (wpAny_pure hq)) fun _ _ e=>e)
  intro acc C s' H' m IX hn hC h1 h2 h3 h4 q
  show wpAny _ X.A (assign (.Name x pos') X.env (.ref acc)) _ _ _
  refine wpAny_assign_Name (ud (v:=.ref acc) IX hnd hix (.inl hx) rfl (fun s2 I2 hsb=>?_) (.inr hx))
  obtain ⟨a,sb,ha⟩:=hsb
  have hCa:C≠a:=by
    rcases ha with z | z
    · rw [z];exact h1
    · exact fun w=>h3 x a z w.symm
  refine ⟨m,hn.sameBut sb hCa,fun h'' hs''=>?_⟩
  exact ⟨_,H',I2.turned (t':=s2.toks) (fun b o hb e=>(hs''.2 b hb).trans e) hC h1 (.inr h2) h3 h4,q⟩
end
end L2
namespace L2
open PySem PySem.Spec PyProof.Rows
section
variable {X:Cx}
def Wn (K:PySem.W.Frag):V→V→Hp→VK→Prop:=fun x y H Q=>∃ p xs j v,x=.ref p∧y=.int (j:Nat)∧SqL K H p xs∧xs[j]?=some v∧Q v H
theorem lD:YC X (Wn X.K):=by
  intro pins s σ H o i ov iv Q I ro ri h
  obtain ⟨p,xs,j,z,rfl,rfl,hq,he,q⟩:=h
  cases ro
  obtain ⟨t,rfl⟩:=ri
  obtain ⟨its,r,pl,hz⟩:=I.list hq
  obtain ⟨w,ew,rw'⟩:=r.get he
  have hl:=r.length
  have hn:=p8
  have hj:j<xs.length:=(List.getElem?_eq_some_iff.mp he).1
  exact wpAny_getItem_list pl.isList (by omega) (by omega) (by rw [Int.toNat_natCast];simpa using ew) ⟨z,H,I,rw',q⟩
def Yl (K:PySem.W.Frag) (neg:Bool):R2:=fun x y H Q=>∃ (a b:Addr) (ns ms:List Int),x=.ref a∧y=.ref b∧SqL K H a (ns.map V.int)∧SqL K H b (ms.map V.int)∧Q (.bl (if neg then !decide (ns=ms) else decide (ns=ms))) H
theorem lE:oJ X (.builtin "isinstance") (fun xs H Q=>∃ x t c b,xs=[x,.ty c]∧wK X.K H x t∧PySem.W.kitOne X.K t (.type c)=some b∧Q (.bl b) H):=by
  intro pins s σ H xs us Q I r h
  obtain ⟨x,t,c,b,rfl,ty,e,q⟩:=h
  obtain ⟨u,w,rfl,ru,rw'⟩:=vals2 r
  obtain rfl:w=Value.type c:=rw'
  exact Cq I ru ty e fun tk=>⟨.bl b,H,I.tok tk,rfl,q⟩
theorem yZ:∀ (bs:List Bool),((List.range bs.length).all fun i=>(bs[i]?).getD true)=bs.all id:=by
  intro bs
  rw [Bool.eq_iff_iff]
  simp only [List.all_eq_true,List.mem_range,id_eq]
  constructor
  · intro h b hb
    obtain ⟨i,hi,e⟩:=List.getElem_of_mem hb
    have:=h i hi
    rw [List.getElem?_eq_getElem hi,e] at this
    exact this
  · intro h i hi
    rw [List.getElem?_eq_getElem hi]
    exact h _ (List.getElem_mem hi)
theorem FZ (hc:X.calm=true):oJ X (.builtin "all") (fun xs H Q=>∃ (p:Addr) (bs:List Bool),xs=[.ref p]∧SqL X.K H p (bs.map V.bl)∧Q (.bl (bs.all id)) H):=by
  intro pins s σ H xs us Q I r h
  obtain ⟨p,bs,rfl,hq,q⟩:=h
  obtain ⟨u,rfl,ru⟩:=vals1 r
  cases ru
  obtain ⟨its,r1,p1,hz⟩:=I.list hq
  have hl:=p1.isList
  have hlt:p<s.heap.objs.size:=p1.lt
  have hlen:=r1.length
  rw [List.length_map] at hlen
  refine call_all_walk (wpAny_pyIter_list hl ?_)
  refine ⟨s.heap.objs.size,[s.heap.objs.size,p],[s.heap.objs.size],its.toArray.size,_,_,fun i=>(bs[i]?).getD true,rfl,Walks.list (A:=X.A.in1) (I.ok.hd hc) _ p (Nat.ne_of_lt hlt) its.toArray,
    ⟨⟨_,Heap.get?_push_size _ rfl,rfl,rfl⟩,hl.push _⟩,fun i v s' Q' E' hP hQ=>?_,fun h' tk hk=>?_⟩
  · have hP':its[i]?=some v:=by simpa using hP
    have hi:i<bs.length:=by
      have:=(List.getElem?_eq_some_iff.mp hP').1
      omega
    obtain ⟨u,eu,ru⟩:=r1.get (x:=.bl bs[i]) (by rw [List.getElem?_map,List.getElem?_eq_getElem hi];rfl)
    rw [hP'] at eu
    cases eu
    cases ru
    dsimp only at hQ
    rw [List.getElem?_eq_getElem hi] at hQ
    exact wpAny_truthy_bool hQ
  · have e:((List.range its.toArray.size).all fun i=>(bs[i]?).getD true)=bs.all id:=by
      rw [List.size_toArray,← hlen];exact yZ bs
    rw [e]
    refine ⟨.bl _,H,I.kept fun b o eo=>hk b o (fun hm=>?_) (Heap.get?_push_of_some _ eo),rfl,q⟩
    rw [List.mem_singleton.mp hm] at eo
    exact Nat.lt_irrefl _ (Heap.lt_size eo)
end
end L2
namespace L2
open PySem PySem.Spec PyProof.Rows
section
variable {X:Cx} {st:Stmt} {rest:List Stmt} {t u:TS}
def vJ (t u:TS):TS:=fun D σ H=>∃ M:St→Hp→Prop,t { D with nx:=M } σ H∧∀ σ' H',M σ' H'→u D σ' H'
theorem pU (h1:PS X st t) (h2:PSs X rest u):PSs X (st :: rest) (vJ t u):=by
  intro pins s σ H D I h
  obtain ⟨M,ha,hb⟩:=h
  refine wpAny_execs_cons (thn (h1 pins s σ H { D with nx:=M } I ha) fun f s1 q=>?_)
  cases f with
  | next =>
    obtain ⟨σ',H',I',q⟩:=q
    exact h2 pins s1 σ' H' D I' (hb σ' H' q)
  | ret v=>exact q
  | brk=>exact q
  | cont=>exact q
end
end L2
namespace L2
open PySem PySem.Spec PyProof.Rows
def Vs (H:Hp) (P:List V→Prop) (Q:VK):Prop:=∀ (l:Addr) (H':Hp) (xs:List V),Same H H'→H l=none→H' l=some (.lst xs)→P xs→Q (.ref l) H'
structure Df (K:PySem.W.Frag) (mg:Str→Option Value) (x:Str) (st:Stmt) (ps:List Str) (a:Addr) (fd:FuncData):Prop where
  F:Fun K x x st a fd
  b:Binds K fd ps []
  m:mg x=some (.ref a)
theorem Same.upd {H H':Hp} {l:Addr} {o:HO} (s:Same H H') (h:H l=none):Same H (L2.upd H' l o):=fun b u e=>by
  rw [bA (bT e h)];exact s b u e
theorem ints_get {ns:List Int} {i:Nat} {y:V} (h:(ns.map V.int)[i]?=some y):∃ z,ns[i]?=some z∧y=V.int z:=by
  rw [List.getElem?_map] at h
  cases e:ns[i]? with
  | none=>rw [e] at h;cases h
  | some z=>rw [e] at h;exact ⟨z,rfl,(Option.some.inj h).symm⟩
theorem bZ {ns:List Int} {i:Nat} {z:Int} (h:ns[i]?=some z):atI (ns.map V.int) (i:Int)=some (V.int z):=cN (by rw [List.getElem?_map,h];rfl)
theorem lC {ns:List Int} {i:Int} {z:Int} (h0:0≤i) (h:ns[i.toNat]?=some z):atI (ns.map V.int) i=some (V.int z):=by
  obtain ⟨k,rfl⟩:=Int.eq_ofNat_of_zero_le h0
  exact bZ (by simpa using h)
theorem lB {n j:Nat} (h:j<n):ixN n (j:Int)=some j:=by
  unfold ixN
  rw [if_pos (by omega),if_pos (by omega)];simp
theorem M7 {α:Type} (n:Nat) (x:α):(List.replicate n [x]).flatten=List.replicate n x:=by
  induction n with
  | zero=>rfl
  | succ n ih=>rw [List.replicate_succ,List.flatten_cons,ih,List.replicate_succ];rfl
theorem kE {n:Nat} (h:n≤100000):n≤sizeLine:=Nat.le_trans h (by decide)
theorem aP {n:Nat} (h:n≤100000):n<sizeLine:=Nat.lt_of_le_of_lt h (by decide)
structure Blt (mg:Str→Option Value):Prop where
  len:mg "len"=none
  range:mg "range"=none
  list:mg "list"=none
  isinstance:mg "isinstance"=none
  bool:mg "bool"=none
  int:mg "int"=none
  all:mg "all"=none
  min:mg "min"=none
  max:mg "max"=none
  sum:mg "sum"=none
  sorted:mg "sorted"=none
  zip:mg "zip"=none
  tuple:mg "tuple"=none
  str:mg "str"=none
  any:mg "any"=none
  enumerate:mg "enumerate"=none
  reversed:mg "reversed"=none
  abs:mg "abs"=none
  ValueError:mg "ValueError"=none
  set:mg "set"=none
structure Mth (mg:Str→Option Value):Prop where
  MOUTH:∃ t,mg "MOUTH"=some (.int (-1) t)
section
variable {X:Cx} {K:PySem.W.Frag}
theorem bQ (h:X.K=K):IxR X (Yk K):=h ▸ aG
theorem lA (h:X.K=K):IxR X (Yj K):=h ▸ cD
theorem tu (h:X.K=K):oJ X (.builtin "len") (fun xs H Q=>∃ p ys,xs=[.ref p]∧(SqL K H p ys∨SqT K H p ys)∧Q (.int ys.length) H):=h ▸ aM
theorem rY (h:X.K=K):OpR X (compareOp .NotIn) (rIn K true):=h ▸ jO
end
end L2
namespace L2
open PySem PySem.W PyProof.Rows
structure Arr (N:Nat) (p:Array Nat):Prop where
  size:p.size=N
  perm:p.toList.Perm (List.range N)
theorem Arr.start (N:Nat):Arr N (List.toArray (List.range N)):=⟨by simp,by simp⟩
theorem Arr.nd {N:Nat} {p:Array Nat} (h:Arr N p):p.toList.Nodup:=h.perm.nodup_iff.mpr List.nodup_range
theorem Arr.get {N:Nat} {p:Array Nat} (h:Arr N p) {i:Nat} (hi:i<N):p.toList[i]?=some (p.getD i 0):=by
  have hi':i<p.size:=by rw [h.size];exact hi
  simp [Array.getD,hi']
theorem Arr.lt {N:Nat} {p:Array Nat} (h:Arr N p) {i:Nat} (hi:i<N):p.getD i 0<N:=by
  have:=h.perm.mem_iff.mp (List.mem_of_getElem? (h.get hi))
  exact List.mem_range.mp this
theorem Arr.ne {N:Nat} {p:Array Nat} (h:Arr N p) {i j:Nat} (hi:i<N) (hj:j<N) (hij:i≠j):p.getD i 0≠p.getD j 0:=by
  intro e
  obtain ⟨a1,a2⟩:=List.getElem?_eq_some_iff.mp (h.get hi)
  obtain ⟨b1,b2⟩:=List.getElem?_eq_some_iff.mp (h.get hj)
  exact hij ((List.getElem_inj h.nd).mp (by rw [a2,b2,e]))
theorem Arr.BJ {N:Nat} {p q:Array Nat} (h:Arr N p) (hs:q.size=p.size) (hp:q.Perm p):Arr N q:=⟨hs.trans h.size,(Array.perm_iff_toList_perm.mp hp).trans h.perm⟩
theorem Arr.rev {N:Nat} {p:Array Nat} (h:Arr N p) (i j:Nat):Arr N (kas_rev p i j):=h.BJ (mirror_size _ _ _ _) (mirror_perm _ _ _ _)
theorem Arr.bub {N:Nat} {p:Array Nat} (h:Arr N p) (k d:Nat):Arr N (bubble p k d):=h.BJ (bubble_size _ _ _) (bubble_perm _ _ _)
theorem sS {p q:Array Nat} {i j:Nat} (h:p[i]?=q[j]?):p.getD i 0=q.getD j 0:=by
  rw [Array.getD_eq_getD_getElem?,Array.getD_eq_getD_getElem?,h]
theorem Bh {N:Nat} {p:Array Nat} (h:Arr N p) {n k:Nat} (hn:n≤N) (hk:k<n):(kas_rev p 0 n).getD k 0=p.getD (n - 1 - k) 0:=by
  refine sS ?_
  unfold kas_rev
  rw [getElem?_mirror (by rw [h.size];exact hn) ((n - 0) / 2) (by omega) k]
  split
  · congr 1;omega
  · congr 1;omega
theorem Dn {N:Nat} {p:Array Nat} (h:Arr N p) {k l j:Nat} (hk:k<N) (hl:l≤k):(bubble p k (k - l)).getD j 0=if j=l then p.getD k 0 else if l<j∧j≤k then p.getD (j - 1) 0 else p.getD j 0:=by
  have e:=getElem?_bubble (xs:=p) (src:=k) (by rw [h.size];exact hk) (k - l) (by omega) j
  have e1:k - (k - l)=l:=by omega
  rw [e1] at e
  by_cases h1:j=l
  · rw [if_pos h1] at e ⊢;exact sS e
  · rw [if_neg h1] at e ⊢
    by_cases h2:l<j∧j≤k
    · rw [if_pos h2] at e ⊢;exact sS e
    · rw [if_neg h2] at e ⊢;exact sS e
section
variable {N:Nat} {κ:Nat→Int} {R:Shared→Prop} {cmp:Nat→Nat→(Bool→Shared→Prop)→Shared→Prop}
def Srt (κ:Nat→Int) (p:Array Nat) (n:Nat):Prop:=∀ i j,i<j→j<n→κ (p.getD i 0)<κ (p.getD j 0)
def Dsc (κ:Nat→Int) (p:Array Nat) (n:Nat):Prop:=∀ i j,i<j→j<n→κ (p.getD j 0)<κ (p.getD i 0)
def Cmp (N:Nat) (κ:Nat→Int) (R:Shared→Prop) (cmp:Nat→Nat→(Bool→Shared→Prop)→Shared→Prop):Prop :=
  ∀ i j C s,i<N→j<N→R s→(∀ s',R s'→C (decide (κ i<κ j)) s')→cmp i j C s
def Inj (N:Nat) (κ:Nat→Int):Prop:=∀ i j,i<N→j<N→i≠j→κ i≠κ j
theorem Srt.snoc {p:Array Nat} {n:Nat} (h:Srt κ p n) (hn:1≤n) (e:κ (p.getD (n - 1) 0)<κ (p.getD n 0)):Srt κ p (n + 1):=fun i j hij hj=>by
  by_cases hjn:j=n
  · subst hjn
    by_cases hi:i=j - 1
    · rw [hi];exact e
    · have:=h i (j - 1) (by omega) (by omega)
      omega
  · exact h i j hij (by omega)
theorem Dsc.snoc {p:Array Nat} {n:Nat} (h:Dsc κ p n) (hn:1≤n) (e:κ (p.getD n 0)<κ (p.getD (n - 1) 0)):Dsc κ p (n + 1):=fun i j hij hj=>by
  by_cases hjn:j=n
  · subst hjn
    by_cases hi:i=j - 1
    · rw [hi];exact e
    · have:=h i (j - 1) (by omega) (by omega)
      omega
  · exact h i j hij (by omega)
variable (hc:Cmp N κ R cmp) (hI:Inj N κ)
include hc hI
theorem rH {p:Array Nat} (A:Arr N p) {Q:Nat→Shared→Prop}:∀ (f n:Nat) (s:Shared),1≤n→n + f=N→Srt κ p n→R s →
    (∀ m s',n≤m→m≤N→Srt κ p m→(m<N→κ (p.getD m 0)<κ (p.getD (m - 1) 0))→R s'→Q m s')→(kas_asc p f n).kasWp cmp Q s
  | 0,n,s,h1,hf,hS,r,k=>k n s (Nat.le_refl _) (by omega) hS (fun z=>by omega) r
  | f + 1,n,s,h1,hf,hS,r,k=>by
    unfold kas_asc
    refine hc _ _ _ s (A.lt (by omega)) (A.lt (by omega)) r fun s' r'=>?_
    by_cases hlt:κ (p.getD n 0)<κ (p.getD (n - 1) 0)
    · rw [decide_eq_true hlt];dsimp only;rw [if_pos rfl]
      exact k n s' (Nat.le_refl _) (by omega) hS (fun _=>hlt) r'
    · rw [decide_eq_false hlt];dsimp only;rw [if_neg Bool.false_ne_true]
      have hne:=hI _ _ (A.lt (show n<N by omega)) (A.lt (show n - 1<N by omega)) (A.ne (show n<N by omega) (show n - 1<N by omega) (by omega))
      exact rH A f (n + 1) s' (by omega) (by omega) (hS.snoc h1 (by omega)) r' fun m s2 a b c d e=>k m s2 (by omega) b c d e
theorem tV {p:Array Nat} (A:Arr N p) {Q:Array Nat × Nat × Nat→Shared→Prop}:∀ (f n:Nat) (s:Shared),1≤n→n + f=N→Dsc κ p n→R s →
    (∀ m s',n≤m→m≤N→Dsc κ p m→R s'→Q (p,m,0) s')→(kas_desc f p n 0).kasWp cmp Q s
  | 0,n,s,h1,hf,hS,r,k=>k n s (Nat.le_refl _) (by omega) hS r
  | f + 1,n,s,h1,hf,hS,r,k=>by
    unfold kas_desc
    refine hc _ _ _ s (A.lt (by omega)) (A.lt (by omega)) r fun s' r'=>?_
    by_cases hlt:κ (p.getD n 0)<κ (p.getD (n - 1) 0)
    · rw [decide_eq_true hlt];dsimp only;rw [if_pos rfl,if_neg (by omega)]
      exact tV A f (n + 1) s' (by omega) (by omega) (hS.snoc h1 hlt) r' fun m s2 a b c d=>k m s2 (by omega) b c d
    · rw [decide_eq_false hlt];dsimp only;rw [if_neg Bool.false_ne_true]
      have hne:=hI _ _ (A.lt (show n<N by omega)) (A.lt (show n - 1<N by omega)) (A.ne (show n<N by omega) (show n - 1<N by omega) (by omega))
      refine hc _ _ _ s' (A.lt (by omega)) (A.lt (by omega)) r' fun s2 r2=>?_
      rw [decide_eq_true (by omega)];dsimp only;rw [if_pos rfl]
      exact k n s2 (Nat.le_refl _) (by omega) hS r2
theorem yR {p:Array Nat} (A:Arr N p) (h2:2≤N) {Q:Nat × Array Nat→Shared→Prop} {s:Shared} (r:R s)
    (k:∀ m p' s',1≤m→m≤N→Arr N p'→Srt κ p' m→R s'→Q (m,p') s'):(kas_count N p).kasWp cmp Q s:=by
  unfold kas_count
  rw [KasT.kasWp_bind]
  refine rH hc hI A (N - 1) 1 s (Nat.le_refl _) (by omega) (fun i j a b=>by omega) r fun n s' h1 hn hS hd r'=>?_
  by_cases hnN:n=N
  · rw [if_pos (by simp [hnN])]
    exact k n p s' h1 hn A hS r'
  · rw [if_neg (by simp [hnN])]
    have hd':=hd (by omega)
    by_cases h1n:n > 1
    · rw [if_pos h1n]
      refine hc _ _ _ s' (A.lt (by omega)) (A.lt (by omega)) r' fun s2 r2=>?_
      rw [decide_eq_true (hS 0 (n - 1) (by omega) (by omega))];dsimp only;rw [if_pos rfl]
      exact k n p s2 h1 hn A hS r2
    · rw [if_neg h1n]
      have hn1:n=1:=by omega
      subst hn1
      unfold kas_descPart
      rw [KasT.kasWp_bind]
      refine tV hc hI A (N - 2) 2 s' (by omega) (by omega) (fun i j a b=>?_) r' fun m s2 hm2 hm hD r2=>?_
      · have hi:i=0:=by omega
        have hj:j=1:=by omega
        subst hi;subst hj
        exact hd'
      · rw [if_neg (by show ¬ (0:Nat) > 0;omega)]
        show (kas_tail3 m N p).kasWp cmp Q s2
        unfold kas_tail3
        rw [KasT.kasWp_bind]
        refine rH hc hI (A.rev 0 m) (N - m) m s2 (by omega) (by omega) (fun i j a b=>?_) r2 fun m' s3 a b c d e=>?_
        · rw [Bh A hm (by omega),Bh A hm (by omega)]
          exact hD _ _ (by omega) (by omega)
        · exact k m' _ s3 (by omega) b (A.rev 0 m) c e
theorem nY {p:Array Nat} (A:Arr N p) {k:Nat} (hk:k<N) (hS:Srt κ p k) {Q:Nat→Shared→Prop}:∀ (f l r:Nat) (s:Shared),l≤r→r≤k→r - l≤f →
    (∀ i,i<l→κ (p.getD i 0)<κ (p.getD k 0))→(∀ i,r≤i→i<k→κ (p.getD k 0)<κ (p.getD i 0))→R s →
    (∀ l s',l≤k→(∀ i,i<l→κ (p.getD i 0)<κ (p.getD k 0))→(∀ i,l≤i→i<k→κ (p.getD k 0)<κ (p.getD i 0))→R s'→Q l s')→(kas_place p k f l r).kasWp cmp Q s
  | 0,l,r,s,h1,h2,hf,ha,hb,hr,q=>by
    have e:l=r:=by omega
    subst e
    exact q l s h2 ha hb hr
  | f + 1,l,r,s,h1,h2,hf,ha,hb,hr,q=>by
    unfold kas_place
    by_cases hlr:l ≥ r
    · rw [if_pos hlr]
      have e:l=r:=by omega
      subst e
      exact q l s h2 ha hb hr
    · rw [if_neg hlr]
      have m1:(l + r) / 2<r:=by omega
      have m0:l≤(l + r) / 2:=by omega
      refine hc _ _ _ s (A.lt hk) (A.lt (by omega)) hr fun s' r'=>?_
      by_cases hlt:κ (p.getD k 0)<κ (p.getD ((l + r) / 2) 0)
      · rw [decide_eq_true hlt];dsimp only;rw [if_pos rfl]
        refine nY A hk hS f l ((l + r) / 2) s' m0 (by omega) (by omega) ha (fun i hi hik=>?_) r' q
        by_cases he:i=(l + r) / 2
        · rw [he];exact hlt
        · have:=hS ((l + r) / 2) i (by omega) hik
          omega
      · rw [decide_eq_false hlt];dsimp only;rw [if_neg Bool.false_ne_true]
        have hne:=hI _ _ (A.lt hk) (A.lt (show (l + r) / 2<N by omega)) (A.ne hk (show (l + r) / 2<N by omega) (by omega))
        refine nY A hk hS f ((l + r) / 2 + 1) r s' (by omega) h2 (by omega) (fun i hi=>?_) hb r' q
        by_cases he:i=(l + r) / 2
        · rw [he];omega
        · have:=hS i ((l + r) / 2) (by omega) (by omega)
          omega
theorem wZ {Q:Array Nat→Shared→Prop} (q:∀ p s',Arr N p→Srt κ p N→R s'→Q p s'):∀ (f:Nat) (p:Array Nat) (k:Nat) (s:Shared),Arr N p→k + f=N→Srt κ p k→R s→(kas_bin f p k).kasWp cmp Q s
  | 0,p,k,s,A,hf,hS,r=>by
    have e:k=N:=by omega
    subst e
    exact q p s A hS r
  | f + 1,p,k,s,A,hf,hS,r=>by
    unfold kas_bin
    rw [KasT.kasWp_bind]
    refine nY hc hI A (show k<N by omega) hS k 0 k s (Nat.zero_le _) (Nat.le_refl _) (by omega) (fun i hi=>by omega) (fun i a b=>by omega) r fun l s' hl ha hb r'=>?_
    refine wZ q f _ (k + 1) s' (A.bub k (k - l)) (by omega) (fun i j hij hj=>?_) r'
    rw [Dn A (by omega) hl,Dn A (by omega) hl]
    by_cases h1:i=l
    · rw [if_pos h1,if_neg (by omega),if_pos (by omega)]
      exact hb _ (by omega) (by omega)
    · rw [if_neg h1]
      by_cases h2:j=l
      · rw [if_pos h2,if_neg (by omega)]
        exact ha _ (by omega)
      · rw [if_neg h2]
        by_cases h3:l<i∧i≤k
        · rw [if_pos h3,if_pos (by omega)]
          exact hS _ _ (by omega) (by omega)
        · rw [if_neg h3]
          by_cases h4:l<j∧j≤k
          · rw [if_pos h4]
            by_cases h5:i<j - 1
            · exact hS _ _ h5 (by omega)
            · omega
          · rw [if_neg h4]
            exact hS _ _ hij (by omega)
theorem tU (h2:2≤N) {Q:Array Nat→Shared→Prop} {s:Shared} (r:R s) (q:∀ p s',Arr N p→Srt κ p N→R s'→Q p s'):(kas_sort N).kasWp cmp Q s:=by
  unfold kas_sort
  rw [KasT.kasWp_bind]
  refine yR hc hI (Arr.start N) h2 r fun m p' s' h1 hm A hS r'=>?_
  by_cases hlt:m<N
  · rw [if_pos hlt]
    have e:max m 1=m:=by omega
    rw [e]
    exact wZ hc hI q _ p' m s' A (by omega) hS r'
  · rw [if_neg hlt]
    have e:m=N:=by omega
    subst e
    exact q p' s' A hS r'
end
end L2
namespace L2
open PySem PySem.Spec PyProof.Rows
section
variable {X:Cx} {pins:List (Addr × Obj)} {σ:St} {H:Hp} {s:Shared} {a:Addr} {o:HO}
theorem Inv.adopt (I:Inv X pins σ H s) (hn:H a=none) (hL:a≠X.env.locals) (h0:X.s₀.heap.objs.size≤a) (hc:∀ x c,X.env.cells.lookup x=some c→c≠a) (hp:∀ p∈X.pn++pins,p.1≠a)
    (new:gB X.prog X.w (upd H a o) s.heap a o):Inv X pins σ (upd H a o) s:=by
  have ne:∀ b u,H b=some u→b≠a:=fun b u e=>bT e hn
  refine ⟨I.ok,I.os,I.bare,⟨I.base.keep,I.base.slot,fun b ob e n hx=>?_,I.base.there,fun b xs e=>?_,fun b ob xs e=>?_,fun b ps e=>?_⟩,I.loc,I.cell,?_,fun x c e=>?_,fun p hq=>?_,fun b u e=>?_,I.len⟩
  · rw [bA (Nat.ne_of_lt (Nat.lt_of_lt_of_le (Heap.lt_size e) h0))];exact I.base.free b ob e n hx
  · have:=I.base.tups b xs e;rw [bA (ne b _ this)];exact this
  · have:=I.base.frzs b ob xs e;rw [bA (ne b _ this)];exact this
  · obtain ⟨m,e1⟩:=I.base.tbls b ps e;exact ⟨m,by rw [bA (ne b _ e1)];exact e1⟩
  · rw [bA hL.symm];exact I.free
  · rw [bA (hc x c e)];exact I.freeC x c e
  · obtain ⟨e1,n,r⟩:=I.pin p hq;exact ⟨e1,by rw [bA (hp p hq)];exact n,r⟩
  · by_cases hb:b=a
    · subst hb;rw [cF] at e;cases e;exact new
    · rw [bA hb] at e
      exact (I.hok b u e).stay (fun _ _ _ q=>q) (fun c q=>by rw [bA (ne c _ q)];exact q) fun c xs q=>by rw [bA (ne c _ q)];exact q
end
section
variable {prog:Program} {w:World} {A:Around} {E:Value→Shared→Prop} {s:Shared}
theorem sY {r:Addr} {b:Int} {t u v:Tok} {n:Nat} {Q:List Value→Shared→Prop} (hh:A.handled=none) (hr:IsRange s.heap r 0 b 1 t u v) (hsmall:Builtin.Range.small 0 b 1=true)
    (hn:Builtin.Range.rangeSize 0 b 1=n) (hlen:n≤2 ^ 24)
    (h:∀ h' tk vs,(∀ b o,s.heap.get? b=some o→h'.get? b=some o)→Vals ((List.range n).map fun (i:Nat)=>V.int (i:Int)) vs→Q vs { s with heap:=h',toks:=tk }) :
    wpAny (model prog w) A (collect (.ref r)) Q E s:=by
  unfold collect
  refine wpAny_bind (wpAny_runValue (codeAny_builtin entry_proto_collect' ?_))
  show wpAny _ _ (do again (.builtin "list.__iadd__" ⟨[← newList [],.ref r],[]⟩)) _ _ s
  refine wpAny_bind (wpAny_newList (wpAny_pure ⟨Code.quiet_builtin _ (by decide +kernel),codeAny_builtin entry_list_iadd' ?_⟩))
  have e1:A.under (.builtin "proto.collect" ⟨[.ref r],[]⟩)=A.in1:=Around.under_plainId F.plain_proto_collect _
  have e2:A.under (.builtin "list.__iadd__" ⟨[.ref s.heap.objs.size,.ref r],[]⟩)=A.in1:=Around.under_plainId F.plain_list_iadd _
  rw [e2]
  show wpAny _ A.in1 (Builtin.List.listExtendWith (.ref s.heap.objs.size) (.ref r) (.ref s.heap.objs.size)) _ _ { s with heap:=s.heap.push (seqObj "list" #[] 0) }
  have hS:(s.heap.push (seqObj "list" #[] 0)).get? s.heap.objs.size=some { cls:=.type "list",data:=.seq #[] 0 }:=Heap.get?_push_size _ rfl
  have hr':IsRange (s.heap.push (seqObj "list" #[] 0)) r 0 b 1 t u v:=Heap.get?_push_of_some _ hr
  refine wpAny_mono (wpAny_extend_range (A:=A) (R:=fun r s'=>match r with
      | .ok (.ret v)=>wpAny (model prog w) A (match v with
          | .ref a=>do
            let o ← load a
            match o.data with
            | .seq xs _=>pure xs.toList
            | _=>unsupported "internal:collect"
          | _=>unsupported "internal:collect") Q E s'
      | .ok _=>False
      | .error e=>E e s') (s:={ s with heap:=s.heap.push (seqObj "list" #[] 0) }) hh hr' hsmall hn hlen s.heap.objs.size (.ref s.heap.objs.size) 0 hS fun h' tk acc c hk hS' hacc=>?_) (fun fin s' q=>?_) (fun e s' q=>q)
  case refine_2 =>
    cases fin with
    | done f=>exact q
    | again c'=>exact q
  show wpAny (model prog w) A (do
      let o ← load s.heap.objs.size
      match o.data with
      | .seq xs _=>pure xs.toList
      | _=>unsupported "internal:collect") Q E { s with heap:=h',toks:=tk }
  refine wpAny_bind (wpAny_load hS' ?_)
  refine wpAny_pure (h h' tk acc.toList (fun b o e=>hk b o (Nat.ne_of_lt (Heap.lt_size e)) (Heap.get?_push_of_some _ e)) ?_)
  have hsz:acc.toList.length=n:=by rw [Array.length_toList];exact hacc.1
  have key:∀ (k:Nat) (l:List Value),l.length=k→(∀ (j:Nat) (v:Value),l[j]?=some v→∃ t,v=.int ((n - k + j:Nat):Int) t)→k≤n→Vals ((List.range' (n - k) k).map fun (i:Nat)=>V.int (i:Int)) l:=by
    intro k
    induction k with
    | zero =>
      intro l hl _ _
      have:l=[]:=List.length_eq_zero_iff.mp hl
      subst this
      exact .nil
    | succ k ih =>
      intro l hl hP hk
      match l,hl with
      | v :: l,hl =>
        have hl':l.length=k:=by simpa using hl
        rw [List.range'_succ,List.map_cons]
        obtain ⟨t,ht⟩:=hP 0 v rfl
        refine .cons ⟨t,?_⟩ ?_
        · rw [ht];rfl
        · have e:n - (k + 1) + 1=n - k:=by omega
          rw [e]
          refine ih l hl' (fun j v' e'=>?_) (by omega)
          obtain ⟨t',ht'⟩:=hP (j + 1) v' (by simpa using e')
          exact ⟨t',by rw [ht'];congr 2;omega⟩
  have:=key n acc.toList hsz (fun j v e=>by
    obtain ⟨t,ht⟩:=hacc.2 j v (by simpa using e)
    refine ⟨t,?_⟩
    rw [ht]
    congr 1
    omega) (Nat.le_refl _)
  rw [Nat.sub_self,← List.range_eq_range'] at this
  exact this
end
end L2
namespace L2
open PySem PySem.W PySem.Spec PyProof.Rows
section
variable {prog:Program} {w:World} {A:Around} {E:Value→Shared→Prop} {s:Shared}
theorem qb {Q:Bool→Shared→Prop}:∀ {xs ys:List Value} {ns ms:List Int},IntsAre xs ns→IntsAre ys ms→ns.length=ms.length→∀ i:Nat,Q (HT.lexLt ns ms) s→KatLex prog w A true false Q (xs.zip ys) i s
  | _,_,_,_,.nil,.nil,_,i,q=>by rw [List.zip_nil_left];exact kat_nil q
  | _,_,_,_,.nil,.cons _ _ _,hl,_,_=>by simp at hl
  | _,_,_,_,.cons _ _ _,.nil,hl,_,_=>by simp at hl
  | _,_,_,_,.cons a t hx,.cons c u hy,hl,i,q=>by
    rw [List.zip_cons_cons]
    refine kat_cons (wpAny_eqBool_int ?_)
    rw [HT.iJ] at q
    by_cases h:a=c
    · rw [if_pos h] at q
      have e:(a == c)=true:=by simp [h]
      rw [e]
      exact kat_yes (qb hx hy (by simpa using hl) (i + 1) q)
    · rw [if_neg h] at q
      have e:(a == c)=false:=by simp [h]
      rw [e]
      refine kat_no ?_
      by_cases hi:i=0
      · have ei:(true && i == 0)=true:=by simp [hi]
        rw [ei]
        exact oneLt_int q
      · have ei:(true && i == 0)=false:=by simp [hi]
        rw [ei]
        exact kat_one _ _ (lt_int q)
structure Keys (h:Heap) (ks:List Value) (key:Nat→List Int) (N len:Nat):Prop where
  size:ks.length=N
  at_:∀ i,i<N→∃ t its,ks[i]?=some (.ref t)∧IsTup h t its.toArray∧IntsAre its (key i)
  long:∀ i,i<N→(key i).length=len + 1
theorem Keys.cmp {ks:List Value} {key:Nat→List Int} {N len:Nat} {κ:Nat→Int} (K:Keys s.heap ks key N len) (hκ:∀ i j,i<N→j<N→HT.lexLt (key i) (key j)=decide (κ i<κ j)) :
    Cmp N κ (fun s'=>s'=s) (kas_ask prog w A (tuples' true) ks):=by
  intro i j C s1 hi hj e h
  subst e
  obtain ⟨t,its,e1,⟨o,ho,hc,n,hd⟩,i1⟩:=K.at_ i hi
  obtain ⟨t2,its2,e2,⟨o2,ho2,hc2,n2,hd2⟩,i2⟩:=K.at_ j hj
  unfold kas_ask
  rw [List.getD_eq_getElem?_getD,List.getD_eq_getElem?_getD,e1,e2]
  have l1:its.length=(key i).length:=i1.length
  have l2:its2.length=(key j).length:=i2.length
  have hl:(key i).length=(key j).length:=by rw [K.long i hi,K.long j hj]
  refine kat_lt ho hd ho2 hd2 ?_
  have ef:decide (its.toArray.size<its2.toArray.size)=false:=decide_eq_false (by simp only [List.size_toArray];omega)
  rw [ef]
  refine qb i1 i2 hl 0 ?_
  rw [hκ i j hi hj]
  exact h s1 rfl
theorem Keys.tups {key:Nat→List Int} {len:Nat}:∀ {ks:List Value} {N:Nat},Keys s.heap ks key N len→∃ fs:List Value,KatTups s.heap ks fs∧fs.length=N∧∀ v∈fs,∃ a t,v=.int a t:=by
  have go:∀ (ks:List Value),(∀ i,i<ks.length→∃ t its a u r,ks[i]?=some (.ref t)∧IsTup s.heap t its.toArray∧its=Value.int a u :: r)→∃ fs:List Value,KatTups s.heap ks fs∧fs.length=ks.length∧∀ v∈fs,∃ a t,v=Value.int a t:=by
    intro ks
    induction ks with
    | nil=>intro _;exact ⟨[],trivial,rfl,fun v hv=>nomatch hv⟩
    | cons k ks ih =>
      intro h
      obtain ⟨fs,h1,h2,h3⟩:=ih fun i hi=>by
        obtain ⟨t,its,a,u,r,e,p⟩:=h (i + 1) (by simpa using hi)
        exact ⟨t,its,a,u,r,by simpa using e,p⟩
      obtain ⟨t,its,a,u,r,e,⟨o,ho,hc,n,hd⟩,rfl⟩:=h 0 (by simp)
      have e':k=.ref t:=by simpa using e
      subst e'
      refine ⟨.int a u :: fs,KatTups.cons ho hc hd rfl h1,by simp [h2],fun v hv=>?_⟩
      rcases List.mem_cons.mp hv with e | e
      · exact ⟨a,u,e⟩
      · exact h3 v e
  intro ks N K
  obtain ⟨fs,h1,h2,h3⟩:=go ks fun i hi=>by
    obtain ⟨t,its,e1,p,i1⟩:=K.at_ i (by rw [← K.size];exact hi)
    have hl:=K.long i (by rw [← K.size];exact hi)
    generalize key i=kl at i1 hl
    cases i1 with
    | nil=>simp at hl
    | cons a u hx=>exact ⟨t,_,a,u,_,e1,p,rfl⟩
  exact ⟨fs,h1,by rw [h2,K.size],h3⟩
end
end L2
namespace L2
open PySem PySem.W PySem.Spec PyProof.Rows
def nT (κ:Nat→Int) (xs ys:List V):Prop:=∃ p:List Nat,p.Perm (List.range xs.length)∧ys=p.map (fun i=>xs.getD i .non)∧p.Pairwise fun i j=>κ i<κ j
theorem ur {κ:Nat→Int} {xs:List V} {p:Array Nat} (A:Arr xs.length p) (hS:Srt κ p xs.length):nT κ xs (p.toList.map fun i=>xs.getD i .non):=by
  refine ⟨p.toList,A.perm,rfl,?_⟩
  rw [List.pairwise_iff_getElem]
  intro i j hi hj hij
  have hj':j<xs.length:=by rw [Array.length_toList,A.size] at hj;exact hj
  have e1:p.toList[i]=p.getD i 0:=by
    have:=A.get (show i<xs.length by omega)
    rw [List.getElem?_eq_getElem hi] at this
    exact Option.some.inj this
  have e2:p.toList[j]=p.getD j 0:=by
    have:=A.get hj'
    rw [List.getElem?_eq_getElem hj] at this
    exact Option.some.inj this
  rw [e1,e2]
  exact hS i j hij hj'
theorem pF {xs:List V} {vs:List Value} (r:Vals xs vs):∀ (p:List Nat),(∀ i∈p,i<xs.length)→Vals (p.map fun i=>xs.getD i .non) (p.map fun i=>vs.getD i .none)
  | [],_=>.nil
  | i :: p,h=>by
    have hi:i<xs.length:=h i List.mem_cons_self
    obtain ⟨u,e,ru⟩:=r.get (List.getElem?_eq_getElem hi)
    refine .cons ?_ (pF r p fun j hj=>h j (List.mem_cons_of_mem _ hj))
    show RelV (xs.getD i .non) (vs.getD i .none)
    rw [List.getD_eq_getElem?_getD,List.getD_eq_getElem?_getD,e,List.getElem?_eq_getElem hi]
    exact ru
section
variable {X:Cx} {pins:List (Addr × Obj)} {σ:St} {H:Hp} {s:Shared} {A:Around} {E:Value→Shared→Prop}
theorem Inv.ou (I:Inv X pins σ H s) {b:Addr} {o:Obj} (f:vD X pins H b) (e:s.heap.get? b=some o) (d:∀ v,o.data≠.cell v):Inv X (pins++[(b,o)]) σ H s :=
  I.vX fun p hp=>(List.mem_append.mp hp).elim (fun z=>I.pin p (List.mem_append_right _ z)) fun z=>by
    have e':p=(b,o):=by simpa using z
    subst e'
    obtain ⟨f0,f1,f2,_⟩:=f
    exact ⟨e,f0,f1,f2,d⟩
theorem sort_keys {f:Value} {D kS:Addr} {e1:Nat} {xs:List V} {vs:List Value} (rv:Vals xs vs) (h64:xs.length<64) (Pv:Nat→List Addr→Hp→Prop)
    (fpD:∀ H',H' D=none→vD X pins H' D) (fpK:∀ H',H' kS=none→vD X pins H' kS) (hDK:D≠kS)
    (hcall:∀ i x u ts pins' s' H',xs[i]?=some x→RelV x u→Inv X pins' σ H' s'→(∀ p∈pins,p∈pins')→Pv i ts H'→wpAny (model X.prog X.w) A (call f [u]) (fun k s2=>∃ t H2,k=.ref t∧Inv X pins' σ H2 s2∧Pv (i + 1) (ts++[t]) H2) (fun _ _=>False) s')
    {body:Value→PUnit→Sem (ForInStep PUnit)}
    (hb:∀ x (s:Shared) (R:Value→Shared→Prop) (Q:ForInStep PUnit→Shared→Prop),wpAny (model X.prog X.w) A (call f [x]) R (fun _ _=>False) s→(∀ k s',R k s'→wpAny (model X.prog X.w) A (Builtin.List.listUpdate (.ref kS) (·.push k)) (fun _ s''=>Q (.yield ⟨⟩) s'') E s') →
      wpAny (model X.prog X.w) A (body x ⟨⟩) Q E s) :
    ∀ (r:List Value) (i:Nat) (ts:List Addr) (e:Nat) (s:Shared) (H:Hp),vs.drop i=r→ts.length=i→i≤vs.length→Inv X (pins++[(D,seqObj "list" #[] e1)]++[(kS,seqObj "list" (ts.map Value.ref).toArray e)]) σ H s→Pv i ts H →
      wpAny (model X.prog X.w) A (forIn r PUnit.unit body) (fun _ s'=>∃ ts' e' H',ts'.length=vs.length∧Inv X (pins++[(D,seqObj "list" #[] e1)]++[(kS,seqObj "list" (ts'.map Value.ref).toArray e')]) σ H' s'∧Pv vs.length ts' H') E s
  | [],i,ts,e,s,H,hr,hl,hi,I,p=>by
    rw [List.forIn_nil]
    have hn:i=vs.length:=by
      have:=congrArg List.length hr
      rw [List.length_drop] at this
      simp at this
      omega
    subst hn
    exact wpAny_pure ⟨ts,e,H,hl,I,p⟩
  | u :: r,i,ts,e,s,H,hr,hl,hi,I,p=>by
    rw [List.forIn_cons]
    have hlen:=rv.length
    have hiv:i<vs.length:=by
      have:=congrArg List.length hr
      rw [List.length_drop] at this
      simp at this
      omega
    have eu:vs[i]?=some u:=by
      have:(vs.drop i)[0]?=some u:=by rw [hr];rfl
      rw [List.getElem?_drop] at this
      simpa using this
    have hix:i<xs.length:=by omega
    obtain ⟨u',e',ru⟩:=rv.get (List.getElem?_eq_getElem hix)
    rw [eu] at e'
    cases e'
    refine wpAny_bind (hb u s _ _ (hcall i _ u ts _ s H (List.getElem?_eq_getElem hix) ru I (fun p hp=>List.mem_append_left _ (List.mem_append_left _ hp)) p) fun k s2 ⟨t,H2,ek,I2,p2⟩=>?_)
    subst ek
    have pk:=I2.pin (kS,seqObj "list" (ts.map Value.ref).toArray e) (List.mem_append_right _ (List.mem_append_right _ (by simp)))
    have pD:=I2.pin (D,seqObj "list" #[] e1) (List.mem_append_right _ (List.mem_append_left _ (List.mem_append_right _ (by simp))))
    refine listUpdate_at pk.1 rfl ?_ (by rw [List.size_toArray,List.length_map,sizeLine_eq];omega) (by rw [Array.size_push,List.size_toArray,List.length_map,sizeLine_eq];omega)
    have I2':Inv X (pins++[(D,seqObj "list" #[] e1)]) σ H2 s2:=I2.jo
    have fK:vD X (pins++[(D,seqObj "list" #[] e1)]) H2 kS:=by
      obtain ⟨a0,a1,a2,a3,a4,a5⟩:=fpK H2 pk.2.1
      refine ⟨a0,a1,a2,a3,a4,fun p hp=>?_⟩
      rcases List.mem_append.mp hp with z | z
      · exact a5 p (List.mem_append_left _ z)
      · rcases List.mem_append.mp z with z | z
        · exact a5 p (List.mem_append_right _ z)
        · have:p=(D,seqObj "list" #[] e1):=by simpa using z
          rw [this];exact hDK
    obtain ⟨a0,a1,a2,a3,a4,a5⟩:=fK
    have I3:Inv X (pins++[(D,seqObj "list" #[] e1)]) σ H2 { s2 with heap:=s2.heap.update kS (Obj.mapSeq (·.push (Value.ref t))) } :=
      I2'.turned (t':=s2.toks) (fun b o hb e=>(Heap.get?_update_other _ _ (Ne.symm hb)).trans e) a0 a1 a3 a4 a5
    have ea:((ts.map Value.ref).toArray).push (Value.ref t)=((ts++[t]).map Value.ref).toArray:=by simp
    obtain ⟨c2,hc2⟩:∃ c2,(s2.heap.update kS (Obj.mapSeq (·.push (Value.ref t)))).get? kS=some (seqObj "list" ((ts++[t]).map Value.ref).toArray c2):=⟨_,by rw [← ea];exact get?_update_seq pk.1 (·.push (Value.ref t))⟩
    have I4:=I3.ou ⟨a0,a1,a2,a3,a4,a5⟩ hc2 (fun v z=>by cases z)
    show wpAny (model X.prog X.w) A (forIn r PUnit.unit body) _ E _
    refine sort_keys rv h64 Pv fpD fpK hDK hcall hb r (i + 1) (ts++[t]) c2 _ H2 ?_ (by rw [List.length_append,hl];rfl) (by omega) I4 p2
    have:(vs.drop i).drop 1=r:=by rw [hr];rfl
    rw [List.drop_drop] at this
    exact this
end
end L2
namespace L2
open PySem PySem.W PySem.Spec PyProof.Rows
section
variable {X:Cx} {pins:List (Addr × Obj)} {σ:St} {H:Hp} {s:Shared} {A:Around} {E:Value→Shared→Prop}
theorem Aw {f:Value} {D:Addr} {n0 m:Nat} {xs:List V} {vs:List Value} {key:Nat→List Int} {κ:Nat→Int} (rv:Vals xs vs) (h64:xs.length<64) (Pv:Nat→List Addr→Hp→Prop) (I:Inv X pins σ H s)
    (hD:s.heap.get? D=some (seqObj "list" vs.toArray n0)) (fpD:∀ H',H' D=none→vD X pins H' D) (nD:H D=none) (hfresh:X.s₀.heap.objs.size≤D) (p0:Pv 0 [] H)
    (hcall:∀ i x u ts pins' s' H',xs[i]?=some x→RelV x u→Inv X pins' σ H' s'→(∀ p∈pins,p∈pins')→Pv i ts H'→wpAny (model X.prog X.w) A (call f [u]) (fun k s2=>∃ t H2,k=.ref t∧Inv X pins' σ H2 s2∧Pv (i + 1) (ts++[t]) H2) (fun _ _=>False) s')
    (htup:∀ ts H',Pv xs.length ts H'→∀ i t,ts[i]?=some t→H' t=some (.tup ((key i).map V.int))) (hlong:∀ i,i<xs.length→(key i).length=m + 1)
    (hκ:∀ i j,i<xs.length→j<xs.length→HT.lexLt (key i) (key j)=decide (κ i<κ j)) (hinj:Inj xs.length κ) :
    wpAny (model X.prog X.w) A (ksk_tree D f false) (fun fin s'=>fin=.done (.ret .none)∧∃ ts H' ys,Pv xs.length ts H'∧H' D=none∧nT κ xs ys∧Inv X pins σ (upd H' D (.lst ys)) s') E s:=by
  have hlen:=rv.length
  unfold ksk_tree
  refine wpAny_bind (listItems_at hD rfl ?_)
  refine wpAny_bind (listUpdate_at hD rfl ?_ (by rw [List.size_toArray,sizeLine_eq];omega) (Nat.zero_le _))
  obtain ⟨e1,ho1⟩:∃ e1,(s.heap.update D (Obj.mapSeq fun _=>(#[]:Array Value))).get? D=some (seqObj "list" #[] e1):=⟨_,get?_update_seq hD fun _=>#[]⟩
  obtain ⟨a0,a1,a2,a3,a4,a5⟩:=fpD H nD
  have I1:Inv X pins σ H { s with heap:=s.heap.update D (Obj.mapSeq fun _=>(#[]:Array Value)) }:=I.turned (t':=s.toks) (fun b o hb e=>(Heap.get?_update_other _ _ (Ne.symm hb)).trans e) a0 a1 a3 a4 a5
  refine wpAny_bind (seqEpoch_at ho1 rfl ?_)
  refine wpAny_bind (wpAny_newTuple ?_ (by show vs.length≤_;rw [sizeLine_eq];omega))
  refine wpAny_bind (wpAny_newList ?_ (Nat.zero_le _))
  refine wpAny_holding ?_
  have I2:Inv X pins σ H { s with heap:=(s.heap.update D (Obj.mapSeq fun _=>(#[]:Array Value))).push (seqObj "tuple" vs.toArray 0) }:=I1.kept (t':=s.toks) fun b o e=>Heap.get?_push_of_some _ e
  have I3:Inv X pins σ H { s with heap:=((s.heap.update D (Obj.mapSeq fun _=>(#[]:Array Value))).push (seqObj "tuple" vs.toArray 0)).push (seqObj "list" #[] 0) }:=I2.kept (t':=s.toks) fun b o e=>Heap.get?_push_of_some _ e
  have fpK:∀ H',H' (((s.heap.update D (Obj.mapSeq fun _=>(#[]:Array Value))).push (seqObj "tuple" vs.toArray 0)).objs.size)=none→vD X pins H' _:=fun H' hn=>I2.zH (Nat.le_refl _) hn
  have nK:H (((s.heap.update D (Obj.mapSeq fun _=>(#[]:Array Value))).push (seqObj "tuple" vs.toArray 0)).objs.size)=none:=I2.hok.fresh (Nat.le_refl _)
  have hDK:D≠((s.heap.update D (Obj.mapSeq fun _=>(#[]:Array Value))).push (seqObj "tuple" vs.toArray 0)).objs.size:=Nat.ne_of_lt (Heap.lt_size (Heap.get?_push_of_some (seqObj "tuple" vs.toArray 0) ho1))
  have hD3:(((s.heap.update D (Obj.mapSeq fun _=>(#[]:Array Value))).push (seqObj "tuple" vs.toArray 0)).push (seqObj "list" #[] 0)).get? D=some (seqObj "list" #[] e1):=Heap.get?_push_of_some _ (Heap.get?_push_of_some _ ho1)
  have hK3:(((s.heap.update D (Obj.mapSeq fun _=>(#[]:Array Value))).push (seqObj "tuple" vs.toArray 0)).push (seqObj "list" #[] 0)).get? (((s.heap.update D (Obj.mapSeq fun _=>(#[]:Array Value))).push (seqObj "tuple" vs.toArray 0)).objs.size)=some (seqObj "list" #[] 0):=Heap.get?_push_size _ rfl
  generalize ((s.heap.update D (Obj.mapSeq fun _=>(#[]:Array Value))).push (seqObj "tuple" vs.toArray 0)).objs.size=kS at fpK nK hDK hK3 ⊢
  generalize hs3:({ s with heap:=((s.heap.update D (Obj.mapSeq fun _=>(#[]:Array Value))).push (seqObj "tuple" vs.toArray 0)).push (seqObj "list" #[] 0) }:Shared)=s3 at I3 ⊢
  have hD3':s3.heap.get? D=some (seqObj "list" #[] e1):=by rw [← hs3];exact hD3
  have hK3':s3.heap.get? kS=some (seqObj "list" #[] 0):=by rw [← hs3];exact hK3
  have I4:Inv X (pins++[(D,seqObj "list" #[] e1)]) σ H s3:=I3.ou (fpD H nD) hD3' (fun v z=>by cases z)
  have fK:∀ H',H' kS=none→vD X (pins++[(D,seqObj "list" #[] e1)]) H' kS:=fun H' hn=>by
    obtain ⟨b0,b1,b2,b3,b4,b5⟩:=fpK H' hn
    refine ⟨b0,b1,b2,b3,b4,fun p hp=>?_⟩
    rcases List.mem_append.mp hp with z | z
    · exact b5 p (List.mem_append_left _ z)
    · rcases List.mem_append.mp z with z | z
      · exact b5 p (List.mem_append_right _ z)
      · have:p=(D,seqObj "list" #[] e1):=by simpa using z
        rw [this];exact hDK
  have I5:=I4.ou (fK H nK) hK3' (fun v z=>by cases z)
  unfold ksk_rest
  refine wpAny_bind (wpAny_rule ?_)
  first
    | rw [List.forIn_toArray]
    | (rw [← Array.forIn_toList];simp only [List.toList_toArray])
    | rw [← Array.forIn_toList]
  refine wpAny_bind (wpAny_mono (sort_keys (E:=E) rv h64 Pv fpD fpK hDK hcall (fun x s' R Q' hx hk=>?_) vs 0 [] 0 s3 H rfl rfl (Nat.zero_le _) I5 p0) (fun _ s4 hd=>?_) fun _ _ x=>x)
  · refine wpAny_bind (wpAny_attempt (wpAny_mono hx (fun k s'' hq=>?_) fun _ _ hF=>hF.elim))
    dsimp only
    refine wpAny_bind (wpAny_mono (hk k s'' hq) (fun _ s5 hq5=>wpAny_pure hq5) fun _ _ x=>x)
  obtain ⟨ts,e',H4,htl,I6,p4⟩:=hd
  have pk:=I6.pin (kS,seqObj "list" (ts.map Value.ref).toArray e') (List.mem_append_right _ (List.mem_append_right _ (by simp)))
  have pD:=I6.pin (D,seqObj "list" #[] e1) (List.mem_append_right _ (List.mem_append_left _ (List.mem_append_right _ (by simp))))
  refine wpAny_bind (listItems_at pk.1 rfl ?_)
  have p4':Pv xs.length ts H4:=by rw [hlen];exact p4
  have I7:Inv X pins σ H4 s4:=I6.jo.jo
  have fin:∀ (st:SortSt) (q:List Nat),(arrOf st).map (·.2)=List.toArray (q.map fun i=>vs.getD i Value.none)→failedOf st=none→(∀ i∈q,i<xs.length)→q.length=xs.length→nT κ xs (q.map fun i=>xs.getD i .non) →
      wpAny (model X.prog X.w) A (ksk_tail D false e1 (.ref kS) st) (fun fin s'=>fin=.done (.ret .none)∧∃ ts H' ys,Pv xs.length ts H'∧H' D=none∧nT κ xs ys∧Inv X pins σ (upd H' D (.lst ys)) s') E s4:=by
    intro st q hout hf hq hql hsb
    unfold ksk_tail
    dsimp only
    refine wpAny_bind (listUpdate_at pk.1 rfl ?_ (by rw [List.size_toArray,List.length_map,sizeLine_eq];omega) (Nat.zero_le _))
    obtain ⟨b0,b1,b2,b3,b4,b5⟩:=fpK H4 pk.2.1
    have I8:Inv X pins σ H4 { s4 with heap:=s4.heap.update kS (Obj.mapSeq fun _=>(#[]:Array Value)) }:=I7.turned (t':=s4.toks) (fun b o hb e=>(Heap.get?_update_other _ _ (Ne.symm hb)).trans e) b0 b1 b3 b4 b5
    have hD8:(s4.heap.update kS (Obj.mapSeq fun _=>(#[]:Array Value))).get? D=some (seqObj "list" #[] e1):=(Heap.get?_update_other _ _ (Ne.symm hDK)).trans pD.1
    refine wpAny_bind (wpAny_letGo ?_)
    refine wpAny_bind (seqEpoch_at hD8 rfl ?_)
    have hsz:(if false=true then ((arrOf st).map (·.2)).reverse else (arrOf st).map (·.2))=List.toArray (q.map fun i=>vs.getD i Value.none):=by rw [if_neg Bool.false_ne_true];exact hout
    refine wpAny_bind (listUpdate_at hD8 rfl ?_ (Nat.zero_le _) (by show (if false=true then ((arrOf st).map (·.2)).reverse else (arrOf st).map (·.2)).size≤_;rw [hsz,List.size_toArray,List.length_map,sizeLine_eq];omega))
    rw [hf]
    simp only [bne_self_eq_false,Bool.false_eq_true,if_false]
    refine wpAny_pure ⟨rfl,ts,H4,_,p4',pD.2.1,hsb,?_⟩
    obtain ⟨c0,c1,c2,c3,c4,c5⟩:=fpD H4 pD.2.1
    have I9:=I8.turned (h':=(s4.heap.update kS (Obj.mapSeq fun _=>(#[]:Array Value))).update D (Obj.mapSeq fun _=>(arrOf st).map (·.2))) (t':=s4.toks) (fun b o hb e=>(Heap.get?_update_other _ _ (Ne.symm hb)).trans e) c0 c1 c3 c4 c5
    obtain ⟨cc,hcc⟩:∃ cc,((s4.heap.update kS (Obj.mapSeq fun _=>(#[]:Array Value))).update D (Obj.mapSeq fun _=>(arrOf st).map (·.2))).get? D=some (seqObj "list" (q.map fun i=>vs.getD i Value.none).toArray cc):=⟨_,by rw [← hout];exact get?_update_seq hD8 fun _=>(arrOf st).map (·.2)⟩
    exact I9.adopt pD.2.1 c1 hfresh c4 c5 ⟨by rw [List.length_map,sizeLine_eq];omega,_,cc,pF rv q hq,hcc⟩
  have eks:ts.length=xs.length:=by omega
  unfold ksk_end
  dsimp only
  rw [if_neg Bool.false_ne_true]
  by_cases h2:xs.length<2
  · have hs2:vs.toArray.size<2:=by rw [List.size_toArray];omega
    rw [if_pos hs2,if_pos hs2]
    refine wpAny_bind (wpAny_pure ?_)
    refine wpAny_bind ?_
    rw [StateT.run_pure]
    refine wpAny_pure ?_
    dsimp only
    have hr:∀ i∈List.range xs.length,i<xs.length:=fun i hi=>List.mem_range.mp hi
    refine fin _ (List.range xs.length) ?_ rfl hr (List.length_range) ⟨List.range xs.length,List.Perm.refl _,rfl,?_⟩
    · show ((if false=true then ((ts.map Value.ref).toArray.zip vs.toArray).reverse else (ts.map Value.ref).toArray.zip vs.toArray)).map (·.2)=_
      rw [if_neg Bool.false_ne_true]
      apply Array.toList_inj.mp
      rw [Array.toList_map,Array.toList_zip,List.map_snd_zip (by rw [List.toList_toArray,List.toList_toArray,List.length_map];omega)]
      rw [List.toList_toArray]
      apply List.ext_getElem?
      intro j
      rw [List.toList_toArray,List.getElem?_map]
      by_cases hj:j<xs.length
      · rw [List.getElem?_range hj]
        show _=some (vs.getD j Value.none)
        rw [List.getD_eq_getElem?_getD,List.getElem?_eq_getElem (by omega)];rfl
      · rw [List.getElem?_eq_none (by omega),List.getElem?_eq_none (by rw [List.length_range];omega)];rfl
    · match hx:xs.length,h2 with
      | 0,_=>exact List.Pairwise.nil
      | 1,_=>exact List.pairwise_singleton _ _
  · have hs2:¬ vs.toArray.size<2:=by rw [List.size_toArray];omega
    rw [if_neg hs2,if_neg hs2]
    have KK:Keys s4.heap (ts.map Value.ref) key xs.length m:=by
      refine ⟨by rw [List.length_map];exact eks,fun i hi=>?_,hlong⟩
      have hit:i<ts.length:=by omega
      have et:=htup ts H4 p4' i ts[i] (List.getElem?_eq_getElem hit)
      obtain ⟨_,its,r,hT⟩:=I7.hok _ _ et
      exact ⟨ts[i],its,by rw [List.getElem?_map,List.getElem?_eq_getElem hit];rfl,hT,intsAre_of r⟩
    obtain ⟨fs,kt,kl,kv⟩:=KK.tups
    refine wpAny_bind (kat_kind kt (by omega) (fun v hv=>by obtain ⟨a,t,rfl⟩:=kv v hv;exact Looks.of_pure rfl) (T:=.type "int") (by decide) ?_)
    have ett:(Value.type "int" != Value.type "tuple")=true:=by decide
    rw [ett]
    have ez:(if false=true then ((ts.map Value.ref).toArray.zip vs.toArray).reverse else (ts.map Value.ref).toArray.zip vs.toArray)=(ts.map Value.ref).toArray.zip vs.toArray:=by rw [if_neg Bool.false_ne_true]
    rw [ez]
    have hkl:(ts.map Value.ref).length=vs.length:=by rw [List.length_map];omega
    have run:=kat_run (prog:=X.prog) (w:=X.w) (A:=A) (E:=E) (s:=s4) (κ:=tuples' true) (ks:=ts.map Value.ref) (vs:=vs)
      (Q:=fun st' s'=>s'=s4∧∃ p:Array Nat,arrOf st'=p.map (kas_item ((ts.map Value.ref).toArray.zip vs.toArray))∧failedOf st'=none∧Arr xs.length p∧Srt κ p xs.length)
      (G:=fun p s'=>s'=s4∧Arr xs.length p∧Srt κ p xs.length) hkl (by omega) (by omega) (fun p st' s' _ b c ⟨d,a1,a2⟩=>⟨d,p,b,c,a1,a2⟩) (by
        have:=tU (N:=xs.length) (KK.cmp (prog:=X.prog) (w:=X.w) (A:=A) hκ) hinj (by omega) (Q:=fun p s'=>s'=s4∧Arr xs.length p∧Srt κ p xs.length) (s:=s4) rfl fun p s' a b c=>⟨c,a,b⟩
        rw [← hlen]
        exact this)
    refine wpAny_bind (wpAny_mono run ?_ fun _ _ x=>x)
    rintro ⟨⟨⟩,st'⟩ s5 ⟨rfl,p,har,hf,AR,SR⟩
    dsimp only
    refine fin st' p.toList (kat_snds hkl har) hf (fun i hi=>?_) (by rw [Array.length_toList,AR.size]) (ur AR SR)
    exact List.mem_range.mp (AR.perm.mem_iff.mp hi)
end
end L2
namespace L2
open PySem PySem.W PySem.Spec PyProof.Rows
def NP (X:Cx) (scope:Scope) (qual:Str) (c:Value) (N:List Str) (A:Around) (f:Addr) (s:Shared) (H:Hp):Cx :=
  let env:Env:=envX qual scope s.heap.objs.size f c (clo X.env.cells scope.names [])
  { prog:=X.prog,w:=X.w,K:=X.K,mg:=X.mg,base:=X.base,A:=A.deeper env,N:=N,s₀:=s,H₀:=H,env:=env,outer:=X.stack,stack:=env :: X.stack,ex:=[],fn:=fun x=>((clo X.env.cells scope.names []).lookup x).isNone,calm:=true,pn:=[],xe:=fun _ _=>False }
def sH (x:V) (cap:List (Option Nat)) (σ:St):St:=some x :: (cap.map fun o=>o.bind fun j=>(σ[j]?).bind id)
def NK (scope:Scope) (p:Str) (N N':List Str) (cap:List (Option Nat)):Bool:=(scope.names.lookup p == some .local) && !scope.isCoroutine && !scope.isGenerator && (!N'.contains p) && wG scope N N' cap
section
variable {X:Cx} {pins:List (Addr × Obj)} {σ:St} {H:Hp} {s:Shared} {body:Expr} {scope:Scope} {params:Arguments} {te:TE}
theorem Fe (sc:Scope) (hsc:X.env.scope=sc) (N₀:List Str) (hN₀:X.N=N₀) {N':List Str} {cap:List (Option Nat)} {p:Str} (f1:freeOk sc scope=true) (f2:vZ scope=true) (f3:NK scope p N₀ N' cap=true)
    {A:Around} {f:Addr} {name qual:Str} {c pm ctv:Value} {x:V} {u:Value} {Q:VK} (I:Inv X pins σ H s) (hA:A.frames=some X.stack) (hd:A.handled=none) (hroom:A.depth<recursionLimit)
    (hf:(f,({ cls:=.type "function",data:=.func (kla_fn name qual params body scope (clo X.env.cells scope.names []) pm c ctv) }:Obj))∈pins) (hcd:s.heap.CodeRec c qual)
    (hbind:bindArgs (kla_fn name qual params body scope (clo X.env.cells scope.names []) pm c ctv) ⟨[u],[]⟩=pure [(p,u)])
    (hb:PE (NP X scope qual c (p :: N') A f s H) body te) (rx:RelV x u) (h:te (sH x cap σ) H Q) :
    wpAny (model X.prog X.w) A (call (.ref f) [u]) (fun k s2=>∃ v H2,RelV v k∧Inv X pins σ H2 s2∧Q v H2) (fun _ _=>False) s:=by
  have ok:=I.ok
  have fr:∀ y∈scope.names,y.2=.free→X.env.kindOf y.1=some .cell∨X.env.kindOf y.1=some .free:=fun y hy e=>by
    have q:=List.all_eq_true.mp f1 y hy
    rw [e] at q
    have q':((sc.names.lookup y.1 == some NameKind.cell) || (sc.names.lookup y.1 == some NameKind.free))=true:=by simpa using q
    rw [Bool.or_eq_true] at q'
    unfold Env.kindOf
    rw [hsc]
    rcases q' with z | z
    · exact .inl (by simpa using z)
    · exact .inr (by simpa using z)
  obtain ⟨⟨k1,k2⟩,k3⟩:((scope.kind == .function)=true∧(scope.names.all fun y=>y.2 != .cell)=true)∧(scope.names.all fun y=>y.2 != .local || scope.names.lookup y.1 == some .local)=true:=by
    unfold vZ at f2
    rw [Bool.and_eq_true,Bool.and_eq_true] at f2
    exact f2
  have hkind:scope.kind=.function:=by simpa using k1
  have hcell:∀ y∈scope.names,y.2≠.cell:=fun y hy=>by
    have q:=List.all_eq_true.mp k2 y hy
    simpa using q
  obtain ⟨⟨⟨⟨g1,g2⟩,g3⟩,g4⟩,g5⟩:((((scope.names.lookup p == some .local)=true∧(!scope.isCoroutine)=true)∧(!scope.isGenerator)=true)∧(!N'.contains p)=true)∧wG scope N₀ N' cap=true:=by
    unfold NK at f3
    rw [Bool.and_eq_true,Bool.and_eq_true,Bool.and_eq_true,Bool.and_eq_true] at f3
    exact f3
  have hploc:scope.names.lookup p=some .local:=by simpa using g1
  have clX:∀ x c,(clo X.env.cells scope.names []).lookup x=some c→X.env.cells.lookup x=some c:=fun x c e=>by
    have e1:=Dd e
    have hx:(x,NameKind.free)∈scope.names:=by
      rcases sZ [] (PySem.mem_of_lookup e) with z | z
      · exact nomatch z
      · exact z
    obtain ⟨c',e2⟩:=ok.has x (fr (x,.free) hx rfl)
    rw [e2] at e1 ⊢
    rw [e1];rfl
  have pf:=I.pin _ (List.mem_append_right _ hf)
  refine wpAny_call (kla_callFunE hroom pf.1 rfl (by simpa using g2) (by simpa using g3) rfl hcd ?_)
  rw [hbind]
  refine wpAny_pure ?_
  refine wpAny_newFunctionEnv hcell (fun y hy=>?_) (fun h4 hns hsb=>?_) hkind
  · have:y=(p,u):=by simpa using hy
    rw [this];exact hploc
  have kp4:∀ b o,s.heap.get? b=some o→h4.get? b=some o:=fun b o e=>hsb.extBut b o (Nat.ne_of_lt (Heap.lt_size e)) (Heap.get?_push_of_some _ e)
  refine ⟨I.nolimit.keeps kp4,kla_codeExpr ?_⟩
  let Z:Cx:=NP X scope qual c (p :: N') A f s H
  have okZ:Z.Ok:=by
    refine ⟨ok.mod,hkind,rfl,rfl,Nat.le_refl _,?_,?_,?_,fun _=>hd,Around.frames_deeper hA,.inr ⟨rfl,rfl⟩,?_,?_,?_,?_,?_,?_,?_⟩
    · exact fun x y c h1 h2=>ok.inj x y c (clX x c h1) (clX y c h2)
    · intro x hx
      have hx':scope.names.lookup x=some .cell∨scope.names.lookup x=some .free:=hx
      rcases hx' with z | z
      · exact absurd rfl (hcell _ (PySem.mem_of_lookup z))
      · exact Option.isSome_iff_exists.mp (qp scope.names [] x (PySem.mem_of_lookup z))
    · intro x c hx h1
      have hx':((clo X.env.cells scope.names []).lookup x).isNone=true:=hx
      have h1':(clo X.env.cells scope.names []).lookup x=some c:=h1
      rw [h1'] at hx';cases hx'
    · exact fun b hb=>absurd (show b∈([]:List Addr) from hb) (by simp)
    · exact fun b o e=>I.bs b o e
    · exact Nat.le_trans ok.bsz I.sz
    · exact fun b o e hb=>absurd (show b∈([]:List Addr) from hb) (by simp)
    · exact fun b hb=>absurd (show b∈([]:List Addr) from hb) (by simp)
    · exact I.stack
    · exact I.vL
  have capl:cap.length=N'.length∧∀ p∈N'.zip cap,(match p.2 with | none=>true | some j=>N₀[j]? == some p.1 && scope.names.lookup p.1 == some .free)=true:=by
    unfold wG at g5
    rw [Bool.and_eq_true] at g5
    exact ⟨by simpa using g5.1,fun p hp=>List.all_eq_true.mp g5.2 p hp⟩
  have IZ:Inv Z [] (sH x cap σ) H { s with heap:=h4,toks:=s.toks + [(p,u)].length }:=by
    refine ⟨okZ,rfl,I.bare,Un.kept kp4,⟨_,hns,?_⟩,?_,?_,?_,fun p hp=>absurd (show p∈([]:List (Addr × Obj)) from hp) (by simp),I.hok.kept kp4,?_⟩
    · intro i y v e1 e2 e3
      cases i with
      | zero =>
        have e1':p=y:=by
          have e1'':(p :: N')[0]?=some y:=e1
          simpa using e1''
        have e2':x=v:=by
          have e2'':(sH x cap σ)[0]?=some (some v):=e2
          simpa [sH] using e2''
        subst e1' e2'
        exact ⟨u,rx,.inl ⟨hploc,by simp [List.lookup]⟩⟩
      | succ i =>
        have e1':N'[i]?=some y:=by
          have e1'':(p :: N')[i + 1]?=some y:=e1
          simpa using e1''
        have e2':(cap.map fun o=>o.bind fun j=>(σ[j]?).bind id)[i]?=some (some v):=by
          have e2'':(sH x cap σ)[i + 1]?=some (some v):=e2
          simpa [sH] using e2''
        rw [List.getElem?_map] at e2'
        cases ec:cap[i]? with
        | none=>rw [ec] at e2';cases e2'
        | some o =>
          rw [ec] at e2'
          cases o with
          | none=>cases e2'
          | some j =>
            have e3':(σ[j]?).bind id=some v:=by simpa using e2'
            have hz:(y,some j)∈N'.zip cap:=by
              refine List.mem_of_getElem? (i:=i) ?_
              rw [List.getElem?_zip_eq_some]
              exact ⟨e1',ec⟩
            have q:=capl.2 _ hz
            have q':(N₀[j]? == some y)=true∧(scope.names.lookup y == some NameKind.free)=true:=by simpa [Bool.and_eq_true] using q
            have q1:X.N[j]?=some y:=by rw [hN₀];simpa using q'.1
            have q2:scope.names.lookup y=some .free:=by simpa using q'.2
            have eσ:σ[j]?=some (some v):=by
              cases z:σ[j]? with
              | none=>rw [z] at e3';cases e3'
              | some y' =>
                rw [z] at e3'
                have:y'=some v:=e3'
                rw [this]
            have hk:=fr (y,.free) (PySem.mem_of_lookup q2) rfl
            obtain ⟨m,hn,hl⟩:=I.loc
            have vis:Vis X.env.scope y:=by
              rcases hk with z | z
              · exact .inr (.inl z)
              · exact .inr (.inr z)
            obtain ⟨u',r,l⟩:=hl j y v q1 eσ vis
            refine ⟨u',r,.inr ⟨.inr q2,?_⟩⟩
            rcases l with ⟨kl,_⟩ | ⟨_,c,ecx,hcx⟩
            · rcases hk with z | z
              · have z':X.env.kindOf y=some .cell:=z
                rw [kl] at z';cases z'
              · have z':X.env.kindOf y=some .free:=z
                rw [kl] at z';cases z'
            · have hh:=qp (cells:=X.env.cells) scope.names [] y (PySem.mem_of_lookup q2)
              obtain ⟨c',ec'⟩:=Option.isSome_iff_exists.mp hh
              have ec2:=clX y c' ec'
              rw [ecx] at ec2
              cases ec2
              exact ⟨c,ec',hcx.keeps kp4⟩
    · intro y c e
      obtain ⟨v,z⟩:=I.cell y c (clX y c e)
      exact ⟨v,z.keeps kp4⟩
    · exact I.hok.fresh (Nat.le_refl _)
    · exact fun y c e=>I.freeC y c (clX y c e)
    · show (sH x cap σ).length=(p :: N').length
      unfold sH
      rw [List.length_cons,List.length_cons,List.length_map,capl.1]
  refine wpAny_mono (hb [] _ _ H Q IZ h) (fun v s2 ⟨vv,H2,J,rv,q⟩=>?_) fun _ _ z=>z.elim
  refine ⟨vv,H2,rv,?_,q⟩
  have un:Un (frs X.stack) [] H H2 s.heap s2.heap:=J.base
  exact I.call' J.os un J.hok J.bare fun b hb=>absurd hb (by simp)
end
end L2
namespace L2
open PySem PySem.W PySem.Spec PyProof.Rows
section
variable {X:Cx} {pins:List (Addr × Obj)} {σ:St} {H:Hp} {s:Shared}
theorem Inv.grow {P:Addr} {ps more:Array Value} {h':Heap} {t':Nat} (I:Inv X pins σ H s) (hP:H P=some (.tbl ps)) (hx:Heap.ExtBut P s.heap h') (hP':h'.get? P=some { cls:=.none,data:=.fields (ps++more) }) :
    Inv X pins σ (upd H P (.tbl (ps++more))) { s with heap:=h',toks:=t' }:=by
  have ne:∀ b,H b=none→b≠P:=fun b n z=>by rw [z,hP] at n;cases n
  have hL:X.env.locals≠P:=ne _ I.free
  refine I.step (g':=s.gens) (d':=s.drawn) (ch:=[]) (fun _ z=>nomatch z) (fun b o _ _ _ e n=>hx b o (ne b n) e) (fun b o _ _ _ e n=>⟨o.slots,hx b o (ne b n) e⟩) (fun b o _ _ n=>by rw [bA (ne b n)];exact n) (fun b o _ e=>?_) (fun b xs e=>?_) (fun b ob u e=>?_) (fun b qs e=>?_) (fun m hm=>?_) (fun b u e=>?_) I.bare
  · by_cases hb:b=P
    · subst hb;exact ⟨_,hP'⟩
    · exact ⟨o,hx b o hb e⟩
  · rw [bA (fun z=>by rw [z,hP] at e;cases e)];exact e
  · rw [bA (fun z=>by rw [z,hP] at e;cases e)];exact e
  · by_cases hb:b=P
    · subst hb
      rw [hP] at e;cases e
      exact ⟨more,by rw [cF]⟩
    · exact ⟨#[],by rw [bA hb,e];simp⟩
  · exact hm.extBut hx hL
  · by_cases hb:b=P
    · subst hb;rw [cF] at e;cases e;exact hP'
    · rw [bA hb] at e
      refine (I.hok b u e).stay (fun c v hc q=>hx c v ?_ q) (fun c q=>by rw [bA (fun z=>by rw [z,hP] at q;cases q)];exact q) fun c xs q=>by rw [bA (fun z=>by rw [z,hP] at q;cases q)];exact q
      rcases hc with z | z
      · rw [z];exact hb
      · intro w;rw [w,hP] at z;cases z
def TabOk (P:Addr) (pos:Pos) (qual:Str) (H:Hp):Prop:=H P=some (.tbl #[])∨∃ c':Addr,H P=some (.tbl #[rawInt pos.line,rawInt pos.col,.ref c'])∧H c'=some (.ext fun h=>h.CodeRec (.ref c') qual)
def BM (mg:Str→Option Value) (base:Heap):Prop:=∃ bm ob,mg "__builtins__"=some (.ref bm)∧bm≠builtinsNs∧bm≠mainGlobals∧base.get? bm=some ob∧ob.cls=.type "module"∧ob.dict=some builtinsNs∧ob.data=.plain
theorem Fd {P c:Addr} {params:Arguments} {body:Expr} {scope:Scope} {pos:Pos} {Q:Value→Shared→Prop} {E:Value→Shared→Prop} {A:Around} (sc:Scope) (hsc:X.env.scope=sc) (f1:freeOk sc scope=true) (I:Inv X pins σ H s) (hbm:BM X.mg X.base) (hcode:X.env.code=.ref c)
    (hhd:codeHdIn X.K c P=true) (hT:TabOk P pos (X.env.qual++"<lambda>") H) (hdef:defaultsOf params X.env=([],[]))
    (h:∀ (f:Addr) (H':Hp) (s':Shared) (c':Addr) (pm ctv:Value),(∀ b o,H b=some o→b≠P→H' b=some o)→(∀ b,H' b=none→H b=none)→TabOk P pos (X.env.qual++"<lambda>") H'→H' c'=some (.ext fun h=>h.CodeRec (.ref c') (X.env.qual++"<lambda>")) →
      Inv X (pins++[(f,({ cls:=.type "function",data:=.func (kla_fn "<lambda>" (X.env.qual++"<lambda>") params body scope (clo X.env.cells scope.names []) pm (.ref c') ctv) }:Obj))]) σ H' s'→Q (.ref f) s') :
    wpAny (model X.prog X.w) A (eval (.Lambda params body scope pos) X.env) Q E s:=by
  have ok:=I.ok
  have fr:∀ y∈scope.names,y.2=.free→X.env.kindOf y.1=some .cell∨X.env.kindOf y.1=some .free:=fun y hy e=>by
    have q:=List.all_eq_true.mp f1 y hy
    rw [e] at q
    have q':((sc.names.lookup y.1 == some NameKind.cell) || (sc.names.lookup y.1 == some NameKind.free))=true:=by simpa using q
    rw [Bool.or_eq_true] at q'
    unfold Env.kindOf
    rw [hsc]
    rcases q' with z | z
    · exact .inl (by simpa using z)
    · exact .inr (by simpa using z)
  have hclos:closureFor scope X.env=pure (clo X.env.cells scope.names []):=mW fun y hy e=>ok.has y.1 (fr y hy e)
  have hg:s.heap.Ns mainGlobals X.mg:=I.mod.glob.keeps I.bk
  have C:CodeHd s.heap c P:=codeHd_of_K I.kIn hhd
  obtain ⟨bm,ob,b1,b2,b3,b4,b5,b6,b7⟩:=hbm
  have hbmP:∀ ps,H P=some (.tbl ps)→bm≠P:=fun ps e z=>by
    have:=(I.bs bm ob b4).2
    rw [z,e] at this;cases this
  have hB:∀ ps,H P=some (.tbl ps)→s.heap.BuiltinsAt X.mg P:=fun ps e=>⟨bm,ob,b1,b2,b3,hbmP ps e,I.bk bm ob b4,b5,b6,b7⟩
  refine kla_eval hdef ?_
  rcases hT with hT | ⟨c',hT,hc'⟩
  · have hPo:s.heap.get? P=some (tabObj #[]):=I.hok P _ hT
    have hgP:mainGlobals≠P:=fun q=>by
      obtain ⟨o,es,ep,e,hd,_⟩:=id hg
      rw [q,hPo] at e;cases e;cases hd
    refine kla_makeFunction (mg:=X.mg) hclos ok.glob hg hcode C hPo trivial rfl hgP (hB _ hT) fun c' ctv h' tk hx hge hlt hrec htb=>?_
    have hPlt:P<s.heap.objs.size:=Heap.lt_size hPo
    have I1:Inv X pins σ (upd H P (.tbl (#[]++#[rawInt pos.line,rawInt pos.col,.ref c']))) { s with heap:=h',toks:=tk }:=I.grow hT hx htb
    have nc':H c'=none:=I.hok.fresh hge
    have hcP:c'≠P:=fun z=>by rw [z] at hge;exact absurd hPlt (Nat.not_lt.mpr hge)
    have nc1:(upd H P (.tbl (#[]++#[rawInt pos.line,rawInt pos.col,.ref c']))) c'=none:=by rw [bA hcP];exact nc'
    obtain ⟨q0,q1,q2,q3,q4,q5⟩:=I.zH (H':=H) hge nc'
    have hs0:X.s₀.heap.objs.size≤c':=Nat.le_trans I.sz hge
    have I2:=I1.adopt (a:=c') (o:=.ext fun h=>h.CodeRec (.ref c') (X.env.qual++"<lambda>")) nc1 q1 hs0 q4 q5
      ⟨hrec,by obtain ⟨cc,o,vs,t,e1,e2,_⟩:=hrec;cases e1;exact ⟨o,e2⟩,fun h1 h2 x k=>x.at k⟩
    have I3:=I2.kept (h':=h'.push (kla_obj "<lambda>" (X.env.qual++"<lambda>") params body scope (clo X.env.cells scope.names []) ((X.mg "__name__").getD .none) c' ctv)) (t':=tk) fun b o e=>Heap.get?_push_of_some _ e
    have nf:(upd (upd H P (.tbl (#[]++#[rawInt pos.line,rawInt pos.col,.ref c']))) c' (.ext fun h=>h.CodeRec (.ref c') (X.env.qual++"<lambda>"))) h'.objs.size=none:=I2.hok.fresh (Nat.le_refl _)
    have I4:=I3.ou (I2.zH (Nat.le_refl _) nf) (Heap.get?_push_size _ rfl) (fun v z=>by cases z)
    refine h _ _ _ c' _ ctv (fun b o e hb=>?_) (fun b e=>?_) (.inr ⟨c',?_,cF⟩) cF I4
    · rw [bA (bT e nc'),bA hb];exact e
    · cases z:H b with
      | none=>rfl
      | some o =>
        by_cases hb:b=P
        · rw [hb,bA hcP.symm,cF] at e;cases e
        · rw [bA (bT z nc'),bA hb,z] at e;cases e
    · rw [bA hcP.symm,cF];simp
  · have hPo:s.heap.get? P=some (tabObj #[rawInt pos.line,rawInt pos.col,.ref c']):=I.hok P _ hT
    have hfnd:codeAmong pos (#[rawInt pos.line,rawInt pos.col,.ref c']:Array Value).toList=some (.ref c'):=by simp [codeAmong,rawInt]
    refine kla_makeFunctionHit (mg:=X.mg) hclos ok.glob hg hcode C hPo trivial hfnd (hB _ hT) fun ctv h' tk hk hsz=>?_
    have I1:Inv X pins σ H { s with heap:=h',toks:=tk }:=I.kept hk
    have I3:=I1.kept (h':=h'.push ({ cls:=.type "function",data:=.func (kla_fn "<lambda>" (X.env.qual++"<lambda>") params body scope (clo X.env.cells scope.names []) ((X.mg "__name__").getD .none) (.ref c') ctv) }:Obj)) (t':=tk) fun b o e=>Heap.get?_push_of_some _ e
    have nf:H h'.objs.size=none:=I1.hok.fresh (Nat.le_refl _)
    have I4:=I3.ou (I1.zH (Nat.le_refl _) nf) (Heap.get?_push_size _ rfl) (fun v z=>by cases z)
    exact h _ _ _ c' _ ctv (fun b o e _=>e) (fun b e=>e) (.inr ⟨c',hT,hc'⟩) hc' I4
end
end L2
namespace L2
open PySem PySem.W PySem.Spec PyProof.Rows
def iG (n:Nat):List V:=(List.range n).map fun (i:Nat)=>V.int (i:Int)
def DY (P:Addr) (lpos:Pos) (qual:Str) (cap:List (Option Nat)) (ta:TA) (te:TE):TE:=fun σ H Q=>ta σ H fun vs H1=>∃ n:Nat,vs=[.int (n:Int)]∧n<64∧TabOk P lpos qual H1 ∧
  ∀ H2,(∀ b o,H1 b=some o→b≠P→H2 b=some o)→(∀ b,H2 b=none→H1 b=none)→TabOk P lpos qual H2 →
    ∃ (Pv:Nat→List Addr→Hp→Prop) (key:Nat→List Int) (κ:Nat→Int) (m:Nat),Pv 0 [] H2∧(∀ i ts H3,i<n→Pv i ts H3→(∀ c',H2 c'=some (.ext fun h=>h.CodeRec (.ref c') qual)→H3 c'=some (.ext fun h=>h.CodeRec (.ref c') qual))∧te (sH (.int (i:Int)) cap σ) H3 fun v H4=>∃ t,v=.ref t∧Pv (i + 1) (ts++[t]) H4) ∧
      (∀ ts H3,Pv n ts H3→∀ i t,ts[i]?=some t→H3 t=some (.tup ((key i).map V.int)))∧(∀ i,i<n→(key i).length=m + 1)∧(∀ i j,i<n→j<n→HT.lexLt (key i) (key j)=decide (κ i<κ j))∧Inj n κ ∧
      ∀ ts H3 D ys,Pv n ts H3→H3 D=none→nT κ (iG n) ys→Q (.ref D) (upd H3 D (.lst ys))
section
variable {X:Cx} {e body:Expr} {ta:TA} {te:TE} {params:Arguments} {scope:Scope} {p1 p2 p3 lpos kp pos:Pos}
theorem oU {P c:Addr} {p:Str} (sc:Scope) (hsc:X.env.scope=sc) (N₀:List Str) (hN₀:X.N=N₀) (N':List Str) (cap:List (Option Nat)) (f1:freeOk sc scope=true) (f2:vZ scope=true) (f3:NK scope p N₀ N' cap=true)
    (hcalm:X.calm=true) (hbm:BM X.mg X.base) (hcode:X.env.code=.ref c) (hhd:codeHdIn X.K c P=true) (hroom:X.A.depth + 4<recursionLimit)
    (hgs:Gl X "sorted") (hms:X.mg "sorted"=none) (hgr:Gl X "range") (hmr:X.mg "range"=none) (ha:PA X [e] ta)
    (hb:∀ (A:Around) (f:Addr) (cv:Value) (s:Shared) (H:Hp),A.handled=none→A.depth≤X.A.depth + 2→A.units≤X.A.units + 2→PE (NP X scope (X.env.qual++"<lambda>") cv (p :: N') A f s H) body te)
    (hbind:∀ (pm cv ctv u:Value),bindArgs (kla_fn "<lambda>" (X.env.qual++"<lambda>") params body scope (clo X.env.cells scope.names []) pm cv ctv) ⟨[u],[]⟩=pure [(p,u)])
    (hdef:defaultsOf params X.env=([],[]):=by rfl) (hs:starEach [e] X.env=[(false,eval e X.env)]:=by rfl) :
    PE X (.Call (.Name "sorted" p1) [.Call (.Name "range" p2) [e] [] p3] [⟨some "key",.Lambda params body scope lpos,kp⟩] pos) (DY P lpos (X.env.qual++"<lambda>") cap ta te):=by
  intro pins s σ H Q I h
  refine wpAny_Call_Name_kw (lK I hgs hms boot_sorted ?_)
  refine callWith_kw ?_
  show wpAny _ _ (spliced ((false,eval (.Call (.Name "range" p2) [e] [] p3) X.env) :: [])) _ _ s
  refine Calls.spliced_cons (Call_ (lK I hgr hmr boot_range (PyProof.Rows.callWith_type1 (thn (ha p3 pins s σ H _ I h) fun us s1 ⟨vs,H1,I1,r1,q1⟩=>?_) hs rfl)))
  obtain ⟨n,e1,hn,hT,q⟩:=q1
  subst e1
  obtain ⟨u,rfl,t,rfl⟩:=vals1 r1
  refine call_range_1 ?_
  refine Calls.spliced_nil ?_
  generalize hro:({ cls:=.type "range",data:=.fields #[.int 0 s1.toks,.int (n:Int) t,.int 1 (s1.toks + 1)] }:Obj)=ro
  have hrd:∀ v,ro.data≠.cell v:=fun v z=>by rw [← hro] at z;cases z
  have I2:Inv X pins σ H1 { s1 with heap:=s1.heap.push ro,toks:=s1.toks + 1 + 1 }:=I1.kept fun b o e=>Heap.get?_push_of_some _ e
  have nr:H1 s1.heap.objs.size=none:=I1.hok.fresh (Nat.le_refl _)
  have I3:=I2.ou (I1.zH (Nat.le_refl _) nr) (Heap.get?_push_size _ (by rw [← hro];rfl)) hrd
  generalize ({ s1 with heap:=s1.heap.push ro,toks:=s1.toks + 1 + 1 }:Shared)=s2 at I3 ⊢
  generalize s1.heap.objs.size=r at I3 ⊢
  refine kws_cons (Fd (P:=P) (c:=c) sc hsc f1 I3 hbm hcode hhd hT hdef fun f H2 s3 c' pm ctv k1 k2 hT2 hc' I4=>?_)
  refine kws_nil ?_
  show wpAny _ _ (call (.builtin "sorted") [.ref r] [(Str.ofString "key",.ref f)]) _ _ s3
  obtain ⟨Pv,key,κ,m,p0,step,htup,hlong,hκ,hinj,fin⟩:=q H2 k1 k2 hT2
  refine call_function_entry_kw kind_sorted plain_sorted entry_sorted (ksk_s1 _ _) ?_
  unfold Builtin.«sorted»
  refine wpAny_bind (m:=checkCount "sorted" 1 1 _) (wpAny_pure ?_)
  have pr:=I4.pin (r,ro) (List.mem_append_right _ (List.mem_append_left _ (List.mem_append_right _ (by simp))))
  have hR:IsRange s3.heap r 0 (n:Int) 1 s1.toks t (s1.toks + 1):=by
    show s3.heap.get? r=_
    rw [pr.1,← hro]
  have hrs:Builtin.Range.rangeSize 0 (n:Int) 1=(n:Nat):=by rw [rangeSize_one];split <;> omega
  refine wpAny_bind (sY (A:=X.A.in1) (I.ok.hd hcalm) hR (small_one (by omega) (by omega) (by omega) (by omega)) hrs (by omega) fun h' tk vs hk rv=>?_)
  have I5:Inv X _ σ H2 { s3 with heap:=h',toks:=tk }:=I4.kept hk
  have hlen:=rv.length
  rw [List.length_map,List.length_range] at hlen
  refine wpAny_bind (wpAny_newList ?_ (by rw [sizeLine_eq];omega))
  have nD:H2 h'.objs.size=none:=I5.hok.fresh (Nat.le_refl _)
  have I6:Inv X _ σ H2 { s3 with heap:=h'.push (seqObj "list" vs.toArray 0),toks:=tk }:=I5.kept (t':=tk) fun b o e=>Heap.get?_push_of_some _ e
  have hD6:(h'.push (seqObj "list" vs.toArray 0)).get? h'.objs.size=some (seqObj "list" vs.toArray 0):=Heap.get?_push_size _ rfl
  have hxl:((List.range n).map fun (i:Nat)=>V.int (i:Int)).length=n:=by simp
  refine wpAny_bind (wpAny_holding (wpAny_call_entry_kw slot_list_sort ⟨_,hD6,rfl⟩ entry_list_sort ?body (ksk_l1 _ _)))
  show wpAny (model X.prog X.w) X.A.in1.in1 (Builtin.«list.sort» ⟨[.ref h'.objs.size],[(Str.ofString "key",.ref f)]⟩) _ _ _
  rw [ksk_t1]
  refine wpAny_mono (Aw (X:=X) (A:=X.A.in1.in1) (s:={ s3 with heap:=h'.push (seqObj "list" vs.toArray 0),toks:=tk }) (xs:=iG n) (key:=key) (κ:=κ) (m:=m) (n0:=0) rv (by show ((List.range n).map _).length<64;rw [hxl];exact hn) Pv I6 hD6
    (fun H' hn'=>I5.zH (Nat.le_refl _) hn') nD (Nat.le_trans I5.sz (Nat.le_refl _)) p0 ?call ?tup ?long ?kap ?inj) ?_ fun _ _ x=>x
  case call =>
    intro i x u ts pins' s' H' hx rx I' hsub pv
    obtain ⟨hi,ex⟩:i<n∧x=V.int (i:Int):=by
      have hx':((List.range n).map fun (i:Nat)=>V.int (i:Int))[i]?=some x:=hx
      rw [List.getElem?_map] at hx'
      by_cases hi:i<n
      · rw [List.getElem?_range hi] at hx'
        exact ⟨hi,(Option.some.inj hx').symm⟩
      · rw [List.getElem?_eq_none (by rw [List.length_range];omega)] at hx';cases hx'
    subst ex
    obtain ⟨hkc,ht⟩:=step i ts H' hi pv
    have hcr:s'.heap.CodeRec (.ref c') (X.env.qual++"<lambda>"):=(I'.hok c' _ (hkc c' hc')).1
    refine wpAny_mono (Fe (X:=X) (A:=X.A.in1.in1) sc hsc N₀ hN₀ f1 f2 f3 I' I.ok.frames (I.ok.hd hcalm) (by show X.A.depth<recursionLimit;omega) (hsub _ (List.mem_append_right _ List.mem_cons_self)) hcr (hbind _ _ _ _)
      (hb _ f _ s' H' (I.ok.hd hcalm) (by show X.A.depth≤X.A.depth + 2;omega) (by show X.A.units + 1 + 1≤X.A.units + 2;omega)) rx ht) (fun k s2 ⟨v,H3,rv',I7,t',ev,pv'⟩=>?_) fun _ _ x=>x
    subst ev
    have ek:k=.ref t':=rv'
    exact ⟨t',H3,ek,I7,pv'⟩
  case tup =>
    intro ts H' pv
    have pv':Pv n ts H':=by
      have:Pv ((List.range n).map fun (i:Nat)=>V.int (i:Int)).length ts H':=pv
      rw [hxl] at this;exact this
    exact htup ts H' pv'
  case long =>
    intro i hi
    have hi':i<((List.range n).map fun (i:Nat)=>V.int (i:Int)).length:=hi
    rw [hxl] at hi'
    exact hlong i hi'
  case kap =>
    intro i j hi hj
    have hi':i<((List.range n).map fun (i:Nat)=>V.int (i:Int)).length:=hi
    have hj':j<((List.range n).map fun (i:Nat)=>V.int (i:Int)).length:=hj
    rw [hxl] at hi' hj'
    exact hκ i j hi' hj'
  case inj =>
    have:(iG n).length=n:=hxl
    rw [this];exact hinj
  rintro fin' s8 ⟨rfl,ts,H8,ys,pv,nD8,hsb,I8⟩
  refine ⟨_,rfl,wpAny_pure ⟨_,rfl,?_⟩⟩
  have pv':Pv n ts H8:=by
    have e':(iG n).length=n:=hxl
    rw [e'] at pv;exact pv
  exact ⟨.ref h'.objs.size,_,I8.jo.jo,rfl,fin ts H8 _ ys pv' nD8 hsb⟩
end
end L2
namespace L2
open PySem PySem.W PySem.Spec PyProof.Rows
def Oo (ts:List Addr) (H:Hp):Prop:=∀ b,H b=none∨(∃ o xs,H b=some (.frz o (.lst xs)))∨(b∈ts∧H b=some (.tbl #[]))
theorem Ce {P:Program} {w:World} {K:PySem.W.Frag} {mg mb:Str→Option Value} {CX:CXT} {k:Nat} {fa a:Addr} {fd:FuncData} {x:Str} {sp:Sp} {s₁:Shared} {vs:List Value} {ns:List Int} {ts:List Addr}
    (KX:K.In s₁.heap) (hns:s₁.heap.Ns mainGlobals mg) (hb:s₁.heap.Ns builtinsNs mb) (hbb:∀ x:Str,x≠"__name__"→mb x=bootBuiltins x) (hlim:s₁.heap.NoLimit) (hg:s₁.gens=#[])
    (ha:s₁.heap.get? a=some { cls:=.type "list",data:=.seq vs.toArray }) (hi:IntsAre vs ns) (hl:ns.length≤sizeLine) (hr:qJ k callerA)
    (hts:∀ P∈ts,s₁.heap.get? P=some (tabObj #[])) (htk:∀ P∈ts,K.lookup P=none) (htc:∀ P∈ts,isCodeTable s₁.heap P)
    (hbm:∃ bm ob,mg "__builtins__"=some (.ref bm)∧bm≠builtinsNs∧s₁.heap.get? bm=some ob∧ob.cls=.type "module"∧ob.dict=some builtinsNs∧ob.data=.plain)
    (F:∀ base:Heap,K.In base→base.Ns mainGlobals mg→BM mg base→bR P w K mg base CX k fa fd [x] sp) (hbind:∀ (s:Shared) (u:Value),BindsTo s fd ⟨[u],[]⟩ [(x,u)])
    (hsp:∀ H:Hp,Oo ts H→(∀ P∈ts,H P=some (.tbl #[]))→SqL K H a (ns.map V.int)→sp [.ref a] H (fun v _=>v=.bl true) fun _ _ _=>False)
    (hCX:∀ H e s',CX [] H s₁ (fun _ _ _=>False) e s'→False) :
    codeAny (model P w) callerA (.call (.ref fa) ⟨[.ref a],[]⟩) (fun r s'=>r=.ok (.ret (.bool true))∧OldK s₁.heap s'.heap∧s'.os=s₁.os∧AllBare s'.gens) s₁:=by
  have rv:=tQ hi
  have lenV:=hi.length
  have haT:a ∉ ts:=fun z=>by have:=hts a z;rw [ha] at this;cases this
  have core:∀ H:Hp,Oo ts H→(∀ P∈ts,H P=some (.tbl #[]))→SqL K H a (ns.map V.int)→HOk P w H s₁.heap→(∀ b,H b≠none→b=a∨b∈ts)→(H a≠none→K.lookup a=none) →
      codeAny (model P w) callerA (.call (.ref fa) ⟨[.ref a],[]⟩) (fun r s'=>r=.ok (.ret (.bool true))∧OldK s₁.heap s'.heap∧s'.os=s₁.os∧AllBare s'.gens) s₁:=by
    intro H hO hTb hS hok hA hK
    have base_of:∀ {b:Addr} {o:Obj},s₁.heap.get? b=some o→H b=none→(Dz s₁.heap H).get? b=some o:=fun e n=>Fp e n
    have noA:∀ {b:Addr} {o:Obj},s₁.heap.get? b=some o→(∀ xs n,o.data≠.seq xs n)→(∀ ps,o.data≠.fields ps)→H b=none:=fun {b o} e d1 d2=>by
      cases q:H b with
      | none=>rfl
      | some u =>
        rcases hA b (by rw [q];simp) with e' | e'
        · subst e'
          rw [ha] at e;cases e
          exact absurd rfl (d1 _ _)
        · have:=hts b e'
          rw [e] at this;cases this
          exact absurd rfl (d2 _)
    have nsK:∀ {b:Addr} {m:Str→Option Value},s₁.heap.Ns b m→(Dz s₁.heap H).Ns b m:=fun {b m} ⟨o,es,ep,e,d,r⟩=>⟨o,es,ep,base_of e (noA e (fun _ _ z=>by rw [d] at z;cases z) fun _ z=>by rw [d] at z;cases z),d,r⟩
    have hKb:K.In (Dz s₁.heap H):=fun b o e=>base_of (KX b o e) (by
      cases q:H b with
      | none=>rfl
      | some u =>
        rcases hA b (by rw [q];simp) with e' | e'
        · subst e'
          rw [hK (by rw [q];simp)] at e;cases e
        · rw [htk b e'] at e;cases e)
    have hM:Mod K mg (Dz s₁.heap H):=⟨hKb,nsK hns,⟨mb,nsK hb,hbb⟩,let ⟨mc,h1,h2⟩:=hlim;⟨mc,nsK h1,h2⟩⟩
    have hBM:BM mg (Dz s₁.heap H):=by
      obtain ⟨bm,ob,c1,c2,c3,c4,c5,c6⟩:=hbm
      refine ⟨bm,ob,c1,c2,fun q=>?_,base_of c3 (noA c3 (fun _ _ z=>by rw [c6] at z;cases z) fun _ z=>by rw [c6] at z;cases z),c4,c5,c6⟩
      obtain ⟨o,es,ep,e,hd,_⟩:=id hns
      rw [q,e] at c3;cases c3;rw [hd] at c6;cases c6
    have e0:Vv P w K mg (Dz s₁.heap H) callerA [] s₁ H:=⟨rfl,hM,fun b o e=>Nr e,Nat.le_of_eq (Cy _ _),trivial,fun b hb=>absurd (show b∈([]:List Addr) from hb) (by simp),hok,.of_eq hg⟩
    refine codeAny_mono ((F _ hKb (nsK hns) hBM).run callerA [] s₁ H ⟨[.ref a],[]⟩ [.ref a] [.ref a] _ _ hr e0 (hbind s₁ (.ref a)) (.cons rfl .nil) (hsp H hO hTb hS)) fun r s' h=>?_
    cases r with
    | error e=>exact (hCX H e s' h).elim
    | ok fl =>
      cases fl with
      | next=>exact False.elim h
      | brk=>exact False.elim h
      | cont=>exact False.elim h
      | ret u =>
        obtain ⟨v,H',os,bare,un,hok',r',q⟩:=h
        have q':v=.bl true:=q
        subst q'
        obtain rfl:u=Value.bool true:=r'
        have old:∀ b o,s₁.heap.get? b=some o→asItWas s₁.heap s'.heap b o:=fun b o e=>by
          rcases hO b with z | ⟨ob,xs,z⟩ | ⟨hbt,z⟩
          · exact .inl (un.keep b o e z (by intro z;exact absurd (show b∈([]:List Addr) from z) (by simp)) (by simp))
          · have z2:=un.frzs b ob _ z
            obtain ⟨e1,_⟩:=hok b _ z
            obtain ⟨e2,_⟩:=hok' b _ z2
            rw [e] at e1;cases e1
            exact .inl e2
          · obtain ⟨more,z2⟩:=un.tbls b #[] z
            have e2:s'.heap.get? b=some { cls:=.none,data:=.fields (#[]++more) }:=hok' b _ z2
            have e3:=hts b hbt
            rw [e] at e3;cases e3
            exact .inr (.inl ⟨htc b hbt,rfl,#[],more,rfl,e2⟩)
        refine ⟨rfl,⟨old,fun b o e=>?_⟩,os,bare⟩
        exact un.there b o e (by simp)
  have tb:∀ b,(if b∈ts then some (HO.tbl #[]) else none)=none∨b∈ts:=fun b=>by
    by_cases h:b∈ts
    · exact .inr h
    · exact .inl (if_neg h)
  cases hk:K.lookup a with
  | some o =>
    have e:=KX a o hk
    rw [ha] at e
    cases e
    refine core (fun b=>if b∈ts then some (.tbl #[]) else none) (fun b=>?_) (fun P hP=>if_pos hP) (.inr ⟨_,vs.toArray,_,hk,rfl,rfl,rfl,by rw [List.size_toArray,lenV];exact hl,by simpa using rv⟩) (fun b u z=>?_) (fun b z=>?_) (fun z=>absurd (if_neg haT) z)
    · by_cases h:b∈ts
      · exact .inr (.inr ⟨h,if_pos h⟩)
      · exact .inl (if_neg h)
    · by_cases h:b∈ts
      · have z':=(if_pos h).symm.trans z
        cases z'
        exact hts b h
      · have z':=(if_neg h).symm.trans z
        cases z'
    · by_cases h:b∈ts
      · exact .inr h
      · exact absurd (if_neg h) z
  | none =>
    refine core (fun b=>if b=a then some (.frz { cls:=.type "list",data:=.seq vs.toArray } (.lst (ns.map V.int))) else if b∈ts then some (.tbl #[]) else none) (fun b=>?_) (fun P hP=>?_) (.inl (.inr ⟨{ cls:=.type "list",data:=.seq vs.toArray },if_pos rfl⟩)) (fun b u z=>?_) (fun b z=>?_) fun _=>hk
    · by_cases hb:b=a
      · exact .inr (.inl ⟨_,_,if_pos hb⟩)
      · by_cases h:b∈ts
        · exact .inr (.inr ⟨h,(if_neg hb).trans (if_pos h)⟩)
        · exact .inl ((if_neg hb).trans (if_neg h))
    · have hb:P≠a:=fun z=>haT (z ▸ hP)
      exact (if_neg hb).trans (if_pos hP)
    · by_cases hb:b=a
      · have z':=(if_pos hb).symm.trans z
        cases z'
        subst hb
        exact ⟨ha,by rw [List.length_map];exact hl,vs,_,rv,ha⟩
      · have z1:=(if_neg hb).symm.trans z
        by_cases h:b∈ts
        · have z':=(if_pos h).symm.trans z1
          cases z'
          exact hts b h
        · have z':=(if_neg h).symm.trans z1
          cases z'
    · by_cases hb:b=a
      · exact .inl hb
      · by_cases h:b∈ts
        · exact .inr h
        · exact absurd ((if_neg hb).trans (if_neg h)) z
theorem DR {l:PySem.W.OpenLaw} {n k:Nat} {q:Program} {loose:List Str} {XP:(Str→Option Value)→Heap→Prop} {YP:World→Heap→Prop} {d:DefRec} {K:Params→PySem.W.Frag} {CX:World→CXT} {sp:World→Sp} {x:Str} {ts:List Addr}
    (hn:l.most=some n) (hn2:n≤sizeLine) (hdf:d.params.defaults=[]) (hr:qJ k callerA)
    (hY:∀ (w:World) (h:Heap),YP w h→(K w.params).In h) (hYt:∀ (w:World) (h:Heap),YP w h→∀ P∈ts,h.get? P=some (tabObj #[]))
    (hts:∀ (w:World),∀ P∈ts,(K w.params).lookup P=none∧∃ c,codeHdIn (K w.params) c P=true)
    (F:∀ (w:World) (mg:Str→Option Value) (fa:Addr) (h:Heap),(K w.params).In h→h.Ns mainGlobals mg→mg d.name=some (.ref fa) →
      ∃ fd:FuncData,(∀ (s:Shared) (u:Value),BindsTo s fd ⟨[u],[]⟩ [(x,u)]) ∧
        ∀ base:Heap,(K w.params).In base→base.Ns mainGlobals mg→BM mg base→bR l.prog w (K w.params) mg base (CX w) k fa fd [x] (sp w))
    (hsp:∀ (w:World) (H:Hp) (a:Addr) (ns:List Int),ns.length≤n→Oo ts H→(∀ P∈ts,H P=some (.tbl #[]))→SqL (K w.params) H a (ns.map V.int)→sp w [.ref a] H (fun v _=>v=.bl true) fun _ _ _=>False)
    (hCX:∀ (w:World) (H:Hp) (s:Shared) (e:Value) (s':Shared),CX w [] H s (fun _ _ _=>False) e s'→False) :
    PySem.W.WalkO q loose XP YP l.row.toRowW d [] (fun f vs=>PySem.call f vs):=by
  refine Att.wI hn hdf fun w s₀ s₁ mg mb fa o pm cd doc a vs ns G Y ho hd hcd hmg hobj hints hlen hg=>?_
  have KX:=hY w _ Y
  obtain ⟨fd,hb,hF⟩:=F w mg fa _ KX G.T.g hmg
  refine Ce KX G.T.g G.T.b G.T.builtins G.T.nolimit hg hobj hints (Nat.le_trans hlen hn2) hr (hYt w _ Y) (fun P hP=>(hts w P hP).1) (fun P hP=>?_) G.T.bmain hF hb (fun H hO hT hS=>hsp w H a ns hlen hO hT hS) fun H e s'=>hCX w H s₁ e s'
  obtain ⟨c,hc⟩:=(hts w P hP).2
  obtain ⟨o,vs,file,tf,flags,tg,inF,text,tt,e1,e2,e3,e4,_⟩:=codeHd_of_K KX hc
  exact ⟨c,o,vs,e1,e2,e3,e4⟩
end L2
namespace L2
open PySem PySem.Spec PyProof.Rows
mutual
inductive Den (K:PySem.W.Frag) (H:Hp):V→PyData→Prop
  | non:Den K H .non .none
  | bl (b:Bool):Den K H (.bl b) (.bool b)
  | int (i:Int):Den K H (.int i) (.int i)
  | str (x:Str):Den K H (.str x) (.str x)
  | list {a:Addr} {xs:List V} {ds:List PyData}:SqL K H a xs→bM K H xs ds→Den K H (.ref a) (.list ds)
  | tuple {a:Addr} {xs:List V} {ds:List PyData}:SqT K H a xs→bM K H xs ds→Den K H (.ref a) (.tuple ds)
inductive bM (K:PySem.W.Frag) (H:Hp):List V→List PyData→Prop
  | nil:bM K H [] []
  | cons {v:V} {vs:List V} {d:PyData} {ds:List PyData}:Den K H v d→bM K H vs ds→bM K H (v :: vs) (d :: ds)
end
theorem bM.length {K:PySem.W.Frag} {H:Hp}:∀ {vs:List V} {ds:List PyData},bM K H vs ds→vs.length=ds.length
  | _,_,.nil=>rfl
  | _,_,.cons _ hs=>by rw [List.length_cons,List.length_cons,bM.length hs]
theorem bM.append {K:PySem.W.Frag} {H:Hp}:∀ {vs ws:List V} {ds es:List PyData},bM K H vs ds→bM K H ws es→bM K H (vs++ws) (ds++es)
  | _,_,_,_,.nil,h=>h
  | _,_,_,_,.cons h hs,h'=>.cons h (bM.append hs h')
theorem bM.get {K:PySem.W.Frag} {H:Hp}:∀ {vs:List V} {ds:List PyData} {i:Nat} {d:PyData},bM K H vs ds→ds[i]?=some d→∃ v,vs[i]?=some v∧Den K H v d
  | _,_,_,_,.nil,e=>by simp at e
  | _,_,0,_,.cons h _,e=>by simp at e;subst e;exact ⟨_,rfl,h⟩
  | _,_,i + 1,d,.cons _ hs,e=>by
    obtain ⟨v,h1,h2⟩:=bM.get (i:=i) (d:=d) hs (by simpa using e)
    exact ⟨v,by simpa using h1,h2⟩
theorem bM.get' {K:PySem.W.Frag} {H:Hp}:∀ {vs:List V} {ds:List PyData} {i:Nat} {v:V},bM K H vs ds→vs[i]?=some v→∃ d,ds[i]?=some d∧Den K H v d
  | _,_,_,_,.nil,e=>by simp at e
  | _,_,0,_,.cons h _,e=>by simp at e;subst e;exact ⟨_,rfl,h⟩
  | _,_,i + 1,v,.cons _ hs,e=>by
    obtain ⟨d,h1,h2⟩:=bM.get' (i:=i) (v:=v) hs (by simpa using e)
    exact ⟨d,by simpa using h1,h2⟩
theorem bM.take {K:PySem.W.Frag} {H:Hp}:∀ {vs:List V} {ds:List PyData} (n:Nat),bM K H vs ds→bM K H (vs.take n) (ds.take n)
  | _,_,0,_=>.nil
  | _,_,_ + 1,.nil=>.nil
  | _,_,n + 1,.cons h hs=>.cons h (bM.take n hs)
theorem bM.set {K:PySem.W.Frag} {H:Hp} {v:V} {d:PyData} (h:Den K H v d):∀ {vs:List V} {ds:List PyData} (i:Nat),bM K H vs ds→bM K H (vs.set i v) (ds.set i d)
  | _,_,_,.nil=>.nil
  | _,_,0,.cons _ hs=>.cons h hs
  | _,_,i + 1,.cons q hs=>.cons q (bM.set h i hs)
theorem bM.ints {K:PySem.W.Frag} {H:Hp}:∀ (ns:List Int),bM K H (ns.map V.int) (ns.map PyData.int)
  | []=>.nil
  | n :: ns=>.cons (.int n) (bM.ints ns)
def lY (ns:List Int):PyData:=.list (ns.map PyData.int)
theorem Den.ints {K:PySem.W.Frag} {H:Hp} {a:Addr} {ns:List Int} (h:SqL K H a (ns.map V.int)):Den K H (.ref a) (lY ns):=.list h (bM.ints ns)
theorem bM.int_inv {K:PySem.W.Frag} {H:Hp}:∀ {vs:List V} {ns:List Int},bM K H vs (ns.map PyData.int)→vs=ns.map V.int
  | _,[],.nil=>rfl
  | _,n :: ns,.cons h hs=>by
    cases h
    rw [bM.int_inv hs];rfl
theorem Den.yt {K:PySem.W.Frag} {H:Hp} {v:V} {ns:List Int} (h:Den K H v (lY ns)):∃ a,v=.ref a∧SqL K H a (ns.map V.int):=by
  cases h with
  | list h hs=>exact ⟨_,rfl,by rw [← bM.int_inv hs];exact h⟩
section
variable {X:Cx} {pins:List (Addr × Obj)} {σ:St} {H:Hp} {s:Shared}
mutual
theorem Den.reads (I:Inv X pins σ H s):∀ {v:V} {d:PyData} {u:Value},Den X.K H v d→RelV v u→∃ as,Reads s.heap u d as
  | _,_,_,.non,r=>by cases r;exact ⟨_,.none⟩
  | _,_,_,.bl b,r=>by cases r;exact ⟨_,.bool b⟩
  | _,_,_,.int i,r=>by obtain ⟨t,rfl⟩:=r;exact ⟨_,.int i t⟩
  | _,_,_,.str x,r=>by obtain ⟨t,rfl⟩:=r;exact ⟨_,.str x t⟩
  | _,_,_,.list h hs,r=>by
    cases r
    obtain ⟨its,r1,⟨o,n,e,c,_,d⟩,_⟩:=I.list h
    obtain ⟨as,q⟩:=bM.reads I hs r1
    exact ⟨_,.list e c d (by simpa using q)⟩
  | _,_,_,.tuple h hs,r=>by
    cases r
    obtain ⟨its,r1,⟨o,e,c,n,d⟩,_⟩:=I.tuple h
    obtain ⟨as,q⟩:=bM.reads I hs r1
    exact ⟨_,.tuple e c d (by simpa using q)⟩
theorem bM.reads (I:Inv X pins σ H s):∀ {vs:List V} {ds:List PyData} {us:List Value},bM X.K H vs ds→Vals vs us→∃ as,ReadsAll s.heap us ds as
  | _,_,_,.nil,r=>by cases r;exact ⟨_,.nil⟩
  | _,_,_,.cons h hs,r=>by
    cases r with
    | cons r1 r2 =>
      obtain ⟨as,q⟩:=Den.reads I h r1
      obtain ⟨bs,q'⟩:=bM.reads I hs r2
      exact ⟨_,.cons q q'⟩
end
def Ym (K:PySem.W.Frag) (neg:Bool):R2:=fun x y H Q=>∃ d e,Den K H x d∧Den K H y e∧SeqAt.shaped d=true∧SeqAt.shaped e=true∧Q (.bl (if neg then !PyData.eqv d e else PyData.eqv d e)) H
theorem Bt (hu:X.A.units + 64<cLine):OpR X (compareOp .Eq) (Ym X.K false):=by
  intro pins s σ H x y v u Q I rx ry h
  obtain ⟨d,e,hd,he,sd,se,q⟩:=h
  obtain ⟨as,ra⟩:=hd.reads I rx
  obtain ⟨bs,rb⟩:=he.reads I ry
  exact SeqAt.compareEq_shaped ra rb sd se hu ⟨.bl _,H,I,rfl,q⟩
theorem Br (hu:X.A.units + 64<cLine):OpR X (compareOp .NotEq) (Ym X.K true):=by
  intro pins s σ H x y v u Q I rx ry h
  obtain ⟨d,e,hd,he,sd,se,q⟩:=h
  obtain ⟨as,ra⟩:=hd.reads I rx
  obtain ⟨bs,rb⟩:=he.reads I ry
  exact SeqAt.compareNe_shaped ra rb sd se hu ⟨.bl _,H,I,rfl,q⟩
end
def Sh (n:Nat) (d:PyData):Prop:=d.canLay0=true∧d.depth≤n
theorem Dj:∀ {ds:List PyData},(∀ d∈ds,d.canLay0=true)→PyData.canLayAll0 ds=true
  | [],_=>rfl
  | d :: ds,h=>by rw [PyData.canLayAll0,h d List.mem_cons_self,Dj fun x hx=>h x (List.mem_cons_of_mem _ hx)];rfl
theorem CJ {n:Nat}:∀ {ds:List PyData},(∀ d∈ds,d.depth≤n)→PyData.depthAll ds≤n
  | [],_=>by simp [PyData.depthAll]
  | d :: ds,h=>by
    have h1:=h d List.mem_cons_self
    have h2:=CJ fun x hx=>h x (List.mem_cons_of_mem _ hx)
    simp only [PyData.depthAll]
    omega
theorem Sh.int (n:Nat) (i:Int):Sh n (.int i):=⟨rfl,by simp [PyData.depth]⟩
theorem Sh.list {n:Nat} {ds:List PyData} (h:∀ d∈ds,Sh n d):Sh (n + 1) (.list ds):=⟨by rw [PyData.canLay0];exact Dj fun d hd=>(h d hd).1,by
  have:=CJ fun d hd=>(h d hd).2
  simp only [PyData.depth];omega⟩
theorem Sh.tuple {n:Nat} {ds:List PyData} (h:∀ d∈ds,Sh n d):Sh (n + 1) (.tuple ds):=⟨by rw [PyData.canLay0];exact Dj fun d hd=>(h d hd).1,by
  have:=CJ fun d hd=>(h d hd).2
  simp only [PyData.depth];omega⟩
theorem Sh.ints (n:Nat) (ns:List Int):Sh (n + 1) (lY ns):=.list fun d hd=>by
  obtain ⟨i,_,rfl⟩:=List.mem_map.mp hd
  exact .int n i
theorem Sh.ok {n:Nat} {d:PyData} (h:Sh n d) (hn:n≤64):SeqAt.shaped d=true:=by
  unfold SeqAt.shaped
  rw [h.1,decide_eq_true (by have:=h.2;omega)];rfl
theorem yw {n:Nat} {d:PyData} (h:Sh n d):PyData.eqv d d=true:=SeqAt.eqv_refl d h.1
abbrev fC:=List (Addr × Pos × Str)
def TabsOk (T:fC) (H:Hp):Prop:=∀ t∈T,TabOk t.1 t.2.1 t.2.2 H
structure bB (T:fC) (H H':Hp):Prop where
  t0:TabsOk T H
  t1:TabsOk T H'
  keep:∀ b o,H b=some o→(∀ ps,o≠.tbl ps)→H' b=some o
  tb:∀ b ps,H b=some (.tbl ps)→∃ ps',H' b=some (.tbl ps')
theorem TabsOk.nil (H:Hp):TabsOk [] H:=fun t ht=>nomatch ht
theorem TabsOk.mono {T:fC} {H H':Hp} (t:TabsOk T H) (s:Same H H'):TabsOk T H':=fun q hq=>by
  rcases t q hq with e | ⟨c,e1,e2⟩
  · exact .inl (s _ _ e)
  · exact .inr ⟨c,s _ _ e1,s _ _ e2⟩
theorem bB.refl {T:fC} {H:Hp} (t:TabsOk T H):bB T H H:=⟨t,t,fun _ _ h _=>h,fun _ ps h=>⟨ps,h⟩⟩
theorem bB.of {T:fC} {H H':Hp} (t:TabsOk T H) (s:Same H H'):bB T H H':=⟨t,t.mono s,fun b o h _=>s b o h,fun b ps h=>⟨ps,s _ _ h⟩⟩
theorem bB.trans {T:fC} {H H1 H2:Hp} (a:bB T H H1) (b:bB T H1 H2):bB T H H2:=⟨a.t0,b.t1,fun c o h n=>b.keep c o (a.keep c o h n) n,fun c ps h=>by
  obtain ⟨ps',e⟩:=a.tb c ps h
  exact b.tb c ps' e⟩
theorem bB.free {T:fC} {H H':Hp} (a:bB T H H') {l:Addr} (h:H' l=none):H l=none:=by
  cases q:H l with
  | none=>rfl
  | some o =>
    have key:(∃ ps,o=.tbl ps)∨∀ ps,o≠.tbl ps:=by
      cases o with
      | tbl ps=>exact .inl ⟨ps,rfl⟩
      | _=>exact .inr fun _ z=>by cases z
    rcases key with ⟨ps,rfl⟩ | n
    · obtain ⟨ps',e⟩:=a.tb l ps q
      rw [h] at e;cases e
    · have:=a.keep l o q n
      rw [h] at this;cases this
theorem bB.seq {T:fC} {K:PySem.W.Frag} {H H':Hp} {a:Addr} {xs:List V} (e:bB T H H') (h:SqL K H a xs):SqL K H' a xs:=by
  rcases h with (h | ⟨o,h⟩) | h
  · exact .inl (.inl (e.keep _ _ h fun _ z=>by cases z))
  · exact .inl (.inr ⟨o,e.keep _ _ h fun _ z=>by cases z⟩)
  · exact .inr h
theorem bB.Wk {T:fC} {K:PySem.W.Frag} {H H':Hp} {a:Addr} {xs:List V} (e:bB T H H') (h:SqT K H a xs):SqT K H' a xs:=by
  rcases h with (h | ⟨o,h⟩) | h
  · exact .inl (.inl (e.keep _ _ h fun _ z=>by cases z))
  · exact .inl (.inr ⟨o,e.keep _ _ h fun _ z=>by cases z⟩)
  · exact .inr h
mutual
theorem Den.qH {T:fC} {K:PySem.W.Frag} {H H':Hp} (e:bB T H H'):∀ {v:V} {d:PyData},Den K H v d→Den K H' v d
  | _,_,.non=>.non
  | _,_,.bl b=>.bl b
  | _,_,.int i=>.int i
  | _,_,.str x=>.str x
  | _,_,.list h hs=>.list (e.seq h) (bM.qH e hs)
  | _,_,.tuple h hs=>.tuple (e.Wk h) (bM.qH e hs)
theorem bM.qH {T:fC} {K:PySem.W.Frag} {H H':Hp} (e:bB T H H'):∀ {vs:List V} {ds:List PyData},bM K H vs ds→bM K H' vs ds
  | _,_,.nil=>.nil
  | _,_,.cons h hs=>.cons (Den.qH e h) (bM.qH e hs)
end
def m7 (T:fC) (H:Hp) (P:List V→Prop) (Q:VK):Prop:=∀ (l:Addr) (H':Hp) (xs:List V),bB T H H'→H l=none→H' l=some (.lst xs)→P xs→Q (.ref l) H'
def jY:HO→Bool
  | .tbl _=>false
  | .ext _=>false
  | _=>true
structure Ow (T:fC) (H0 H:Hp) (L:List (Addr × HO)):Prop where
  same:bB T H0 H
  new:∀ p∈L,H0 p.1=none
  at_:∀ p∈L,H p.1=some p.2
  pl:∀ p∈L,jY p.2=true
  nd:(L.map (·.1)).Nodup
section
variable {T:fC} {H0 H1 H H':Hp} {L L':List (Addr × HO)} {a l:Addr} {o o':HO} {xs:List V}
theorem Ow.refl (t:TabsOk T H):Ow T H H []:=⟨bB.refl t,(fun p hp=>nomatch hp),(fun p hp=>nomatch hp),(fun p hp=>nomatch hp),List.nodup_nil⟩
theorem Ow.PN (H:Hp):Ow [] H H []:=Ow.refl (TabsOk.nil H)
theorem Ow.get (O:Ow T H0 H L) (k:Nat) (h:L[k]?=some (a,o):=by rfl):H a=some o:=O.at_ _ (List.mem_of_getElem? h)
theorem Ow.fr (O:Ow T H0 H L) (k:Nat) (h:L[k]?=some (a,o):=by rfl):H0 a=none:=O.new _ (List.mem_of_getElem? h)
theorem Ow.sq {K:PySem.W.Frag} (O:Ow T H0 H L) (k:Nat) (h:L[k]?=some (a,.lst xs):=by rfl):SqL K H a xs:=SqL.of (O.get k h)
theorem Ow.sqT {K:PySem.W.Frag} (O:Ow T H0 H L) (k:Nat) (h:L[k]?=some (a,.tup xs):=by rfl):SqT K H a xs:=SqT.of (O.get k h)
theorem TabOk.upd {P:Addr} {pos:Pos} {q:Str} (t:TabOk P pos q H) (h:H a=none∨∃ o,H a=some o∧jY o=true):TabOk P pos q (L2.upd H a o'):=by
  have ne:∀ b u,H b=some u→jY u=false→b≠a:=fun b u e p z=>by
    subst z
    rcases h with h | ⟨o,h,ho⟩
    · rw [h] at e;cases e
    · rw [h] at e;cases e;rw [ho] at p;cases p
  rcases t with e | ⟨c,e1,e2⟩
  · exact .inl (by rw [bA (ne _ _ e rfl)];exact e)
  · exact .inr ⟨c,by rw [bA (ne _ _ e1 rfl)];exact e1,by rw [bA (ne _ _ e2 rfl)];exact e2⟩
theorem bB.upd (s:bB T H0 H) (h:H0 a=none) (h':H a=none∨∃ o,H a=some o∧jY o=true):bB T H0 (L2.upd H a o') :=
  ⟨s.t0,fun t ht=>(s.t1 t ht).upd h',fun b u e n=>by rw [bA (bT e h)];exact s.keep b u e n,fun b ps e=>by rw [bA (bT e h)];exact s.tb b ps e⟩
theorem Ow.mk' (O:Ow T H0 H L) (h:H a=none) (ho:jY o=true):Ow T H0 (upd H a o) ((a,o) :: L):=by
  have ne:∀ p∈L,p.1≠a:=fun p hp=>bT (O.at_ p hp) h
  have n0:H0 a=none:=O.same.free h
  refine ⟨O.same.upd n0 (.inl h),fun p hp=>?_,fun p hp=>?_,fun p hp=>?_,?_⟩
  · rcases List.mem_cons.mp hp with e | e
    · rw [e];exact n0
    · exact O.new p e
  · rcases List.mem_cons.mp hp with e | e
    · rw [e];exact cF
    · rw [bA (ne p e)];exact O.at_ p e
  · rcases List.mem_cons.mp hp with e | e
    · rw [e];exact ho
    · exact O.pl p e
  · rw [List.map_cons,List.nodup_cons]
    refine ⟨fun hm=>?_,O.nd⟩
    obtain ⟨p,hp,e⟩:=List.mem_map.mp hm
    exact ne p hp e
theorem Az:∀ {L:List (Addr × HO)} {k:Nat} {a:Addr} {o o':HO},L[k]?=some (a,o)→(L.set k (a,o')).map (·.1)=L.map (·.1)
  | [],_,_,_,_,h=>by simp at h
  | p :: L,0,a,o,o',h=>by
    have:p=(a,o):=by simpa using h
    rw [this];rfl
  | p :: L,k + 1,a,o,o',h=>by
    rw [List.set_cons_succ,List.map_cons,List.map_cons,Az (L:=L) (k:=k) (o:=o) (by simpa using h)]
theorem Ow.Yn (O:Ow T H0 H L) (k:Nat) (h:L[k]?=some (a,o)) (ho:jY o'=true):Ow T H0 (upd H a o') (L.set k (a,o')):=by
  have hm0:=List.mem_of_getElem? h
  have n0:H0 a=none:=O.new _ hm0
  have hk:k<L.length:=(List.getElem?_eq_some_iff.mp h).1
  refine ⟨O.same.upd n0 (.inr ⟨o,O.at_ _ hm0,O.pl _ hm0⟩),fun p hp=>?_,fun p hp=>?_,fun p hp=>?_,by rw [Az h];exact O.nd⟩
  · rcases List.mem_or_eq_of_mem_set hp with e | e
    · exact O.new p e
    · rw [e];exact n0
  · obtain ⟨j,hj,e⟩:=List.getElem_of_mem hp
    by_cases hjk:j=k
    · subst hjk
      rw [List.getElem_set_self] at e
      rw [← e];exact cF
    · rw [List.getElem_set_ne (Ne.symm hjk)] at e
      have hj':j<L.length:=by rw [List.length_set] at hj;exact hj
      have hm:p∈L:=by rw [← e];exact List.getElem_mem hj'
      rw [bA]
      · exact O.at_ p hm
      · intro z
        have e1:(L.map (·.1))[j]?=some p.1:=by rw [List.getElem?_map,List.getElem?_eq_getElem hj',e];rfl
        have e2:(L.map (·.1))[k]?=some a:=by rw [List.getElem?_map,h];rfl
        rw [z] at e1
        obtain ⟨a1,a2⟩:=List.getElem?_eq_some_iff.mp e1
        obtain ⟨b1,b2⟩:=List.getElem?_eq_some_iff.mp e2
        exact hjk ((List.getElem_inj O.nd).mp (a2.trans b2.symm))
  · rcases List.mem_or_eq_of_mem_set hp with e | e
    · exact O.pl p e
    · rw [e];exact ho
theorem uF {o:HO} (h:jY o=true):∀ ps,o≠.tbl ps:=fun ps z=>by rw [z] at h;cases h
theorem Ow.lZ (O:Ow T H0 H L) (s:bB T H H'):Ow T H0 H' L:=⟨O.same.trans s,O.new,fun p hp=>s.keep _ _ (O.at_ p hp) (uF (O.pl p hp)),O.pl,O.nd⟩
theorem Ow.Ny (O:Ow T H0 H L) (s:bB T H H') (n:H l=none) (h:H' l=some o) (ho:jY o=true):Ow T H0 H' ((l,o) :: L):=by
  have O2:=O.lZ s
  refine ⟨O2.same,fun p hp=>?_,fun p hp=>?_,fun p hp=>?_,?_⟩
  · rcases List.mem_cons.mp hp with e | e
    · rw [e];exact O.same.free n
    · exact O.new p e
  · rcases List.mem_cons.mp hp with e | e
    · rw [e];exact h
    · exact O2.at_ p e
  · rcases List.mem_cons.mp hp with e | e
    · rw [e];exact ho
    · exact O.pl p e
  · rw [List.map_cons,List.nodup_cons]
    refine ⟨fun hm=>?_,O.nd⟩
    obtain ⟨p,hp,e⟩:=List.mem_map.mp hm
    exact bT (O.at_ p hp) n e
theorem Ow.more (O:Ow T H0 H L) (s:Same H H') (n:H l=none) (h:H' l=some o) (ho:jY o=true):Ow T H0 H' ((l,o) :: L):=O.Ny (bB.of O.same.t1 s) n h ho
theorem Ow.sub (O:Ow T H0 H L) (h:L'.Sublist L):Ow T H0 H L':=⟨O.same,fun p hp=>O.new p (h.subset hp),fun p hp=>O.at_ p (h.subset hp),fun p hp=>O.pl p (h.subset hp),O.nd.sublist (h.map _)⟩
theorem Ow.perm (O:Ow T H0 H L) (h:L'.Perm L):Ow T H0 H L':=⟨O.same,fun p hp=>O.new p (h.mem_iff.mp hp),fun p hp=>O.at_ p (h.mem_iff.mp hp),fun p hp=>O.pl p (h.mem_iff.mp hp),(h.map _).nodup_iff.mpr O.nd⟩
theorem Ow.tail {p:Addr × HO} (O:Ow T H0 H (p :: L)):Ow T H0 H L:=O.sub (List.sublist_cons_self _ _)
theorem Ow.two {p q:Addr × HO} (O:Ow T H0 H (p :: q :: L)):Ow T H0 H (p :: L):=O.sub ((List.sublist_cons_self _ _).cons₂ _)
theorem Ow.base (O:Ow T H0 H L) (s:bB T H1 H0):Ow T H1 H L:=⟨s.trans O.same,fun p hp=>s.free (O.new p hp),O.at_,O.pl,O.nd⟩
theorem Ow.reb (O:Ow T H0 H L):∃ H1,Ow T H1 H L∧bB T H0 H1∧∀ b o,H b=some o→(∀ p∈L,p.1≠b)→H1 b=some o:=by
  have keep:∀ b u,H b=some u→(∀ p∈L,p.1≠b)→(fun b=>if b∈L.map (·.1) then none else H b:Hp) b=some u:=fun b u e h=>by
    show (if b∈L.map (·.1) then none else H b)=some u
    rw [if_neg fun hm=>?_];· exact e
    obtain ⟨p,hp,z⟩:=List.mem_map.mp hm
    exact h p hp z
  have back:∀ b u,(fun b=>if b∈L.map (·.1) then none else H b:Hp) b=some u→H b=some u:=fun b u e=>by
    dsimp only at e
    split at e
    · cases e
    · exact e
  have npl:∀ b u,H b=some u→jY u=false→∀ p∈L,p.1≠b:=fun b u e h p hp z=>by
    have:=O.at_ p hp
    rw [z,e] at this
    have e':u=p.2:=Option.some.inj this
    rw [e',O.pl p hp] at h;cases h
  have tk:TabsOk T (fun b=>if b∈L.map (·.1) then none else H b):=fun t ht=>by
    rcases O.same.t1 t ht with e | ⟨c,e1,e2⟩
    · exact .inl (keep _ _ e (npl _ _ e rfl))
    · exact .inr ⟨c,keep _ _ e1 (npl _ _ e1 rfl),keep _ _ e2 (npl _ _ e2 rfl)⟩
  refine ⟨fun b=>if b∈L.map (·.1) then none else H b,⟨⟨tk,O.same.t1,fun b u e _=>back b u e,fun b ps e=>⟨ps,back _ _ e⟩⟩,fun p hp=>?_,O.at_,O.pl,O.nd⟩,⟨O.same.t0,tk,fun b u e n=>?_,fun b ps e=>?_⟩,keep⟩
  · exact if_pos (List.mem_map.mpr ⟨p,hp,rfl⟩)
  · refine keep b u (O.same.keep b u e n) fun p hp z=>?_
    rw [← z,O.new p hp] at e;cases e
  · obtain ⟨ps',e'⟩:=O.same.tb b ps e
    exact ⟨ps',keep _ _ e' (npl _ _ e' rfl)⟩
theorem pZ {i:Int} {j:Nat} {v:V} {Q:Hp→Prop} (O:Ow T H0 H L) (k:Nat) (h:L[k]?=some (l,.lst xs)) (hi:ixN xs.length i=some j) (q:∀ H',Ow T H0 H' (L.set k (l,.lst (xs.set j v)))→Q H'):Qa (.ref l) (.int i) v H Q :=
  ⟨l,xs,i,j,rfl,rfl,O.get k h,hi,q _ (O.Yn k h rfl)⟩
theorem Ow.ret {P:List V→Prop} {Q:VK} (O:Ow T H0 H L) (k:Nat) (h:L[k]?=some (l,.lst xs)) (q:m7 T H0 P Q) (p:P xs):Q (.ref l) H:=q l H xs O.same (O.fr k h) (O.get k h) p
theorem Ow.got {P:List V→Prop} {Q:VK} (O:Ow T H0 H L) (k:∀ l H' xs,Ow T H0 H' ((l,.lst xs) :: L)→P xs→Q (.ref l) H'):Vs H P Q:=fun l H' xs s n h p=>k l H' xs (O.more s n h rfl) p
theorem Ow.qF {P:List V→Prop} {Q:VK} (O:Ow T H0 H L) (k:∀ l H' xs,Ow T H0 H' ((l,.lst xs) :: L)→P xs→Q (.ref l) H'):m7 T H P Q:=fun l H' xs s n h p=>k l H' xs (O.Ny s n h rfl) p
end
end L2
namespace L2
open PySem PySem.W PySem.Spec PyProof.Rows
theorem szl {n:Nat} (h:Nat.ble n 100000=true:=by rfl):n≤sizeLine:=kE (Nat.le_of_ble_eq_true h)
theorem sI (p:Int) (ns:List Int):inV (.int p) (ns.map V.int)=decide (p∈ns):=by
  unfold inV
  rw [List.any_map,Bool.eq_iff_iff]
  simp only [List.any_eq_true,decide_eq_true_eq]
  constructor
  · rintro ⟨x,hx,e⟩
    have e':(x == p)=true:=e
    have:x=p:=by simpa using e'
    rw [← this];exact hx
  · intro h
    exact ⟨p,h,show (p == p)=true by simp⟩
theorem nO (ns:List Int):(ns.map V.int).all sW=true:=by
  rw [List.all_map,List.all_eq_true];intro _ _;rfl
theorem Fun.okC {P:Program} {w:World} {K:PySem.W.Frag} {mg:Str→Option Value} {base:Heap} {x qual:Str} {st:Stmt} {f:Addr} {fd:FuncData} {N ps:List Str} {k:Nat} {sp:Sp} {c:Value} (F:Fun K x qual st f fd) (hc:fd.code=c) (S:aX N ps (ao st)) (len:∀ vs H Q E,sp vs H Q E→vs.length=ps.length)
    (hbody:∀ (A:Around) (outer:List Env) (s:Shared) (H:Hp) (vs:List V) (Q:VK) (E:XK),qJ k (A.deeper (envOfC qual (ao st) s.heap.objs.size f c))→sp vs H Q E →
      ∃ t,PSs (Ob CX0 P w K mg base N qual (ao st) f c A outer s H E).nox (aC st) t∧t { nx:=fun _ H'=>Q .non H',rt:=Q } (start N vs) H):bR P w K mg base CX0 (k + 1) f fd ps sp:=by
  obtain ⟨oc,od,kV,doc,pm,an,cdv,ct,osl,rfl,lk,hcd⟩:=F.ex
  have e:cdv=c:=hc
  subst e
  refine Va lk hcd S len fun A outer s H vs Q E hr hsp=>?_
  obtain ⟨t,h,q⟩:=hbody A outer s H vs Q E hr hsp
  exact ⟨t,h.nox,q⟩
theorem yp {k:Nat} {A XA:Around} {env:Env} (r:qJ (k + 2) XA) (hh:A.handled=none) (hd:A.depth≤XA.depth + 2) (hu:A.units≤XA.units + 2):qJ k (A.deeper env) :=
  ⟨hh,by have:=r.dp;show A.depth + 1 + 3 * k + 5<_;omega,by have:=r.un;show A.units + 3 + 16 * k + 200<_;omega⟩
theorem yq {A:Around} (r:qJ 1 A):A.depth + 4<recursionLimit:=by have:=r.dp;omega
theorem bB.tab {T:fC} {H H2:Hp} {P:Addr} {pos:Pos} {q:Str} (t:TabsOk T H) (hm:(P,pos,q)∈T) (nd:(T.map (·.1)).Nodup) (k1:∀ b o,H b=some o→b≠P→H2 b=some o) (t2:TabOk P pos q H2):bB T H H2:=by
  have hP:∃ ps,H P=some (.tbl ps):=by
    rcases t _ hm with e | ⟨c,e,_⟩
    · exact ⟨_,e⟩
    · exact ⟨_,e⟩
  obtain ⟨ps0,hP⟩:=hP
  have hP2:∃ ps,H2 P=some (.tbl ps):=by
    rcases t2 with e | ⟨c,e,_⟩
    · exact ⟨_,e⟩
    · exact ⟨_,e⟩
  refine ⟨t,fun u hu=>?_,fun b o e n=>k1 b o e fun z=>?_,fun b ps e=>?_⟩
  · by_cases hb:u.1=P
    · have:u=(P,pos,q):=by
        obtain ⟨i,hi,ei⟩:=List.getElem_of_mem hu
        obtain ⟨j,hj,ej⟩:=List.getElem_of_mem hm
        have e1:(T.map (·.1))[i]?=some P:=by rw [List.getElem?_map,List.getElem?_eq_getElem hi,ei,← hb];rfl
        have e2:(T.map (·.1))[j]?=some P:=by rw [List.getElem?_map,List.getElem?_eq_getElem hj,ej];rfl
        obtain ⟨a1,a2⟩:=List.getElem?_eq_some_iff.mp e1
        obtain ⟨b1,b2⟩:=List.getElem?_eq_some_iff.mp e2
        have hij:i=j:=(List.getElem_inj nd).mp (a2.trans b2.symm)
        subst hij
        rw [← ei,← ej]
      rw [this];exact t2
    · rcases t u hu with e | ⟨c,e1,e2⟩
      · exact .inl (k1 _ _ e hb)
      · exact .inr ⟨c,k1 _ _ e1 hb,k1 _ _ e2 fun z=>by rw [z,hP] at e2;cases e2⟩
  · subst z
    rw [hP] at e;cases e
    exact n ps0 rfl
  · by_cases hb:b=P
    · rw [hb];exact hP2
    · exact ⟨ps,k1 _ _ e hb⟩
section
variable {X:Cx}
theorem fB (hc:X.calm=true):oJ X (.builtin "sum") (fun xs H Q=>∃ (p:Addr) (ns:List Int),xs=[.ref p]∧SqL X.K H p (ns.map V.int)∧Q (.int ns.sum) H):=by
  intro pins s σ H xs us Q I r h
  obtain ⟨p,ns,rfl,hq,q⟩:=h
  obtain ⟨u,rfl,ru⟩:=vals1 r
  cases ru
  obtain ⟨its,r1,p1,hz⟩:=I.list hq
  have hi:IntsAre its ns:=intsAre_of r1
  obtain ⟨ys,hx⟩:=hi.allInts.items
  have hl':s.heap.IsList p (intItems ys):=hx ▸ p1.isList
  refine sum_intListG (I.ok.hd hc) hl' fun h' tk t' hk=>?_
  have e1:ns=ys.toList.map (·.1):=by
    rw [← nums_intItems,← hx]
    exact (show numsOf its.toArray.toList=ns from hi.numsOf).symm
  have e2:preSum (numAt ys) ys.size=ns.sum:=by
    rw [preSum_eq,List.take_of_length_le (by simp),e1]
  rw [e2]
  exact ⟨.int ns.sum,H,I.kept hk,⟨t',rfl⟩,q⟩
theorem ql:∀ ns ms:List Int,PyData.eqvAll (ns.map PyData.int) (ms.map PyData.int)=decide (ns=ms)
  | [],[]=>by simp [PyData.eqvAll]
  | [],_ :: _=>by simp [PyData.eqvAll]
  | _ :: _,[]=>by simp [PyData.eqvAll]
  | n :: ns,m :: ms=>by
    rw [List.map_cons,List.map_cons,PyData.eqvAll,ql ns ms]
    have e:PyData.eqv (.int n) (.int m)=decide (n=m):=by
      rw [PyData.eqv];rfl
    rw [e,Bool.eq_iff_iff]
    simp
theorem yx (ns ms:List Int):PyData.eqv (lY ns) (lY ms)=decide (ns=ms):=by
  unfold lY
  rw [PyData.eqv];exact ql ns ms
theorem Qj (hu:X.A.units + 64<cLine):OpR X (compareOp .Eq) (Yl X.K false):=by
  intro pins s σ H x y v u Q I rx ry h
  obtain ⟨a,b,ns,ms,rfl,rfl,ha,hb,q⟩:=h
  refine Bt hu pins s σ H _ _ v u Q I rx ry ⟨_,_,Den.ints ha,Den.ints hb,(Sh.ints 0 ns).ok (by decide),(Sh.ints 0 ms).ok (by decide),?_⟩
  rw [yx];exact q
theorem Qg (hu:X.A.units + 64<cLine):OpR X (compareOp .NotEq) (Yl X.K true):=by
  intro pins s σ H x y v u Q I rx ry h
  obtain ⟨a,b,ns,ms,rfl,rfl,ha,hb,q⟩:=h
  refine Br hu pins s σ H _ _ v u Q I rx ry ⟨_,_,Den.ints ha,Den.ints hb,(Sh.ints 0 ns).ok (by decide),(Sh.ints 0 ms).ok (by decide),?_⟩
  rw [yx];exact q
def Qc (K:PySem.W.Frag):V→List V→Hp→VK→Prop:=fun x vs H Q=>∃ (l:Addr) (ns:List Int) (k:Int),x=.ref l∧vs=[.int k]∧SqL K H l (ns.map V.int)∧k∈ns∧Q (.int (ns.idxOf k:Nat)) H
theorem Es:MtR X "list.index" (Qc X.K):=by
  intro pins s σ H x vs v us Q I rx rv h
  obtain ⟨l,ns,k,rfl,rfl,hq,hk,q⟩:=h
  cases rx
  obtain ⟨u,rfl,t,rfl⟩:=vals1 rv
  obtain ⟨its,r1,p1,hz⟩:=I.list hq
  have hi:IntsAre its ns:=intsAre_of r1
  obtain ⟨⟨cls,dd,data,sl⟩,ho,hc,n,hd⟩:=id p1.isList
  simp only at hc hd
  subst hc hd
  have hlen:=hi.length
  have hj:ns.idxOf k<ns.length:=List.idxOf_lt_length_iff.mpr hk
  have hn:=p8
  rw [List.length_map] at hz
  refine call_meets PySem.F.slot_list_index ⟨_,ho,rfl⟩ PySem.F.entry_list_index (PySem.F.args_list_index_2 _ _)
    (SeqAt.list_indexAt l its.toArray n dd sl (.int k t) (isInt k) (ns.idxOf k) (by simpa [hlen] using hj) (by omega) ?_ ?_) ⟨ho,fun y hy=>(eq_isInt k t hi y (by simpa using hy)).at _ _,?_⟩
  · show isInt k its[ns.idxOf k]=true
    rw [isInt_at k hi _ (by omega) hj]
    simpa using List.getElem_idxOf hj
  · intro j hjs hlt
    show isInt k its[j]=false
    rw [isInt_at k hi j (by simpa using hjs) (by omega)]
    exact ne_of_lt_idxOf hlt _
  · exact ⟨.int (ns.idxOf k:Nat),H,I.tok _,⟨_,rfl⟩,q⟩
end
def Ol (T:fC) (H:Hp) (P:List V→Prop) (Q:VK):Prop:=∀ (l:Addr) (H':Hp) (xs:List V),bB T H H'→H l=none→H' l=some (.tup xs)→P xs→Q (.ref l) H'
section
variable {T:fC} {H0 H:Hp} {L:List (Addr × HO)} {l:Addr} {xs:List V}
theorem Ow.retT {P:List V→Prop} {Q:VK} (O:Ow T H0 H L) (k:Nat) (h:L[k]?=some (l,.tup xs)) (q:Ol T H0 P Q) (p:P xs):Q (.ref l) H:=q l H xs O.same (O.fr k h) (O.get k h) p
theorem Ow.U8 {P:List V→Prop} {Q:VK} (O:Ow T H0 H L) (k:∀ l H' xs,Ow T H0 H' ((l,.tup xs) :: L)→P xs→Q (.ref l) H'):Ol T H P Q:=fun l H' xs s n h p=>k l H' xs (O.Ny s n h rfl) p
theorem Ow.mkE {a:Addr} {o:HO} {H':Hp} (O:Ow T H0 H L) (h:H a=none) (e:upd H a o=H') (ho:jY o=true):Ow T H0 H' ((a,o) :: L):=e ▸ O.mk' h ho
theorem Ow.vW {a:Addr} {o o':HO} {H':Hp} (O:Ow T H0 H L) (k:Nat) (h:L[k]?=some (a,o)) (e:upd H a o'=H') (ho:jY o'=true):Ow T H0 H' (L.set k (a,o')):=e ▸ O.Yn k h ho
end
def dMv (m:Int × Int × Int):PyData:=.tuple [.int m.1,.int m.2.1,.int m.2.2]
def Vq (ms:List (Int × Int × Int)):PyData:=.list (ms.map dMv)
theorem Den.GJ {K:PySem.W.Frag} {H:Hp} {v:V} {m:Int × Int × Int} (h:Den K H v (dMv m)):∃ a,v=.ref a∧SqT K H a [.int m.1,.int m.2.1,.int m.2.2]:=by
  cases h with
  | tuple h hs =>
    have e:=bM.int_inv (ns:=[m.1,m.2.1,m.2.2]) hs
    exact ⟨_,rfl,by rw [e] at h;exact h⟩
theorem Den.mv {K:PySem.W.Frag} {H:Hp} {a:Addr} {m:Int × Int × Int} (h:SqT K H a [.int m.1,.int m.2.1,.int m.2.2]):Den K H (.ref a) (dMv m):=.tuple h (.cons (.int _) (.cons (.int _) (.cons (.int _) .nil)))
theorem Den.Nu {K:PySem.W.Frag} {H:Hp} {v:V} {ms:List (Int × Int × Int)} (h:Den K H v (Vq ms)):∃ a xs,v=.ref a∧SqL K H a xs∧bM K H xs (ms.map dMv):=by
  cases h with
  | list h hs=>exact ⟨_,_,rfl,h,hs⟩
theorem Sh.mv (n:Nat) (m:Int × Int × Int):Sh (n + 1) (dMv m):=.tuple fun d hd=>by
  simp at hd
  rcases hd with e | e | e <;> (rw [e];exact .int _ _)
theorem Sh.mvs (n:Nat) (ms:List (Int × Int × Int)):Sh (n + 2) (Vq ms):=.list fun d hd=>by
  obtain ⟨m,_,rfl⟩:=List.mem_map.mp hd
  exact .mv n m
end L2
namespace L2
open PySem PySem.W PySem.Spec PySem.Calls PyProof.Rows PySem.Builtin PySem.Builtin.ObjectAttr PySem.Builtin.Getset_descriptor
section
variable {prog:Program} {w:World} {A:Around} {E:Value→Shared→Prop} {K:Frag} {e D:Addr} {hh:Heap} {g:Array GenState} {d:Drawn} {t:Nat} {os:OsState}
end
end L2
namespace L2
open PySem PySem.W PySem.Spec PySem.Calls PyProof.Rows
section
variable {P:Program} {w:World} {B h0 h h2:Heap} {fs:List Addr} {H H':Hp}
end
section
variable {X:Cx} {pins:List (Addr × Obj)} {σ:St} {H:Hp} {s:Shared} {E:XK}
end
section
variable {P:Program} {w:World} {K:PySem.W.Frag} {mg:Str→Option Value} {base:Heap} {N:List Str} {qual:Str} {scope:Scope} {f:Addr} {cd:Value} {A:Around} {outer:List Env} {s:Shared} {H:Hp} {E:XK}
end
end L2
namespace L2
open PySem PySem.W PySem.Spec PySem.Calls PyProof.Rows
abbrev bmVE:List Value:=[.type "ValueError",.type "Exception",.type "BaseException",.type "object"]
section
variable {X:Cx} {E:XK} {x:Str} {C:Addr} {np cpos pos:Pos} {e0:Expr} {ta:TA}
end
end L2
namespace L2
open PySem PySem.W PySem.Spec PySem.Calls PyProof.Rows
abbrev TX:=Ends→(St→XK)→St→Hp→Prop
section
variable {X:Cx} {k:Nat} {f:Addr} {fd:FuncData} {ps:List Str} {sp:Sp} {dvs:List V} {ds:List Value} {x:Str} {p pos:Pos} {e:Expr} {es:List Expr} {t:TA}
end
section
variable {X:Cx} {pins:List (Addr × Obj)} {σ:St} {H:Hp} {s:Shared}
end
end L2
namespace L2
open PySem PySem.W PySem.Spec PySem.Calls PyProof.Rows
section
variable {X:Cx} {body suite:List Stmt} {b0:Stmt} {x n:Str} {Ba:Addr} {i:Nat} {tb:TX} {th:TS} {np hpos pos:Pos}
end
end L2
namespace L2
open PySem PySem.Spec PyProof.Rows
section
variable {X:Cx}
theorem yN {n:Nat} {acc:Array Value} (hacc:ItemsOf (fun i v=>∃ t,v=.int (0 + (i:Nat) * 1) t) acc n):Vals (iG n) acc.toList:=by
  have hsz:acc.toList.length=n:=by rw [Array.length_toList];exact hacc.1
  have key:∀ (k:Nat) (l:List Value),l.length=k→(∀ (j:Nat) (v:Value),l[j]?=some v→∃ t,v=.int ((n - k + j:Nat):Int) t)→k≤n→Vals ((List.range' (n - k) k).map fun (i:Nat)=>V.int (i:Int)) l:=by
    intro k
    induction k with
    | zero =>
      intro l hl _ _
      have:l=[]:=List.length_eq_zero_iff.mp hl
      subst this
      exact .nil
    | succ k ih =>
      intro l hl hP hk
      match l,hl with
      | v :: l,hl =>
        have hl':l.length=k:=by simpa using hl
        rw [List.range'_succ,List.map_cons]
        obtain ⟨t,ht⟩:=hP 0 v rfl
        refine .cons ⟨t,?_⟩ ?_
        · rw [ht];rfl
        · have e:n - (k + 1) + 1=n - k:=by omega
          rw [e]
          refine ih l hl' (fun j v' e'=>?_) (by omega)
          obtain ⟨t',ht'⟩:=hP (j + 1) v' (by simpa using e')
          exact ⟨t',by rw [ht'];congr 2;omega⟩
  have:=key n acc.toList hsz (fun j v e=>by
    obtain ⟨t,ht⟩:=hacc.2 j v (by simpa using e)
    refine ⟨t,?_⟩
    rw [ht]
    congr 1
    omega) (Nat.le_refl _)
  rw [Nat.sub_self,← List.range_eq_range'] at this
  exact this
def yS (ta:TA):TE:=fun σ H Q=>ta σ H fun vs H1=>∃ n:Nat,vs=[.int (n:Int)]∧n<64∧∀ l,H1 l=none→Q (.ref l) (upd H1 l (.lst (iG n)))
theorem uH {e:Expr} {ta:TA} {p1 p2 p3 pos:Pos} (hcalm:X.calm=true) (hgs:Gl X "list") (hms:X.mg "list"=none) (hgr:Gl X "range") (hmr:X.mg "range"=none) (ha:PA X [e] ta) (hs:starEach [e] X.env=[(false,eval e X.env)]:=by rfl) :
    PE X (.Call (.Name "list" p1) [.Call (.Name "range" p2) [e] [] p3] [] pos) (yS ta):=by
  intro pins s σ H Q I h
  refine Call_ (lK I hgs hms boot_list (PyProof.Rows.callWith_type1 ?_ rfl rfl))
  show wpAny _ _ (spliced ((false,eval (.Call (.Name "range" p2) [e] [] p3) X.env) :: [])) _ _ s
  refine Calls.spliced_cons (Call_ (lK I hgr hmr boot_range (PyProof.Rows.callWith_type1 (thn (ha p3 pins s σ H _ I h) fun us s1 ⟨vs,H1,I1,r1,q1⟩=>?_) hs rfl)))
  obtain ⟨n,e1,hn,q⟩:=q1
  subst e1
  obtain ⟨u,rfl,t,rfl⟩:=vals1 r1
  refine call_range_1 ?_
  refine Calls.spliced_nil ?_
  have hrs:Builtin.Range.rangeSize 0 (n:Int) 1=(n:Nat):=by rw [rangeSize_one];split <;> omega
  generalize hro:({ cls:=.type "range",data:=.fields #[.int 0 s1.toks,.int (n:Int) t,.int 1 (s1.toks + 1)] }:Obj)=ro
  have I2:Inv X pins σ H1 { s1 with heap:=s1.heap.push ro,toks:=s1.toks + 1 + 1 }:=I1.kept fun b o e=>Heap.get?_push_of_some _ e
  have hR:IsRange (s1.heap.push ro) s1.heap.objs.size 0 (n:Int) 1 s1.toks t (s1.toks + 1):=by
    rw [← hro];exact Heap.get?_push_size _ rfl
  refine call_list_range (I.ok.hd hcalm) hR (small_one (by omega) (by omega) (by omega) (by omega)) hrs (by omega) fun h' tk acc c hk hS hacc=>?_
  exact ⟨.ref (s1.heap.push ro).objs.size,_,I2.laid (t':=tk) hk (Nat.le_refl _) (show gB X.prog X.w _ h' _ (.lst (iG n)) from ⟨by unfold iG;rw [List.length_map,List.length_range,sizeLine_eq];omega,acc.toList,c,yN hacc,by simpa using hS⟩),rfl,q _ (I2.hok.fresh (Nat.le_refl _))⟩
theorem Inv.rG {pins:List (Addr × Obj)} {σ:St} {H:Hp} {s:Shared} {h':Heap} {t':Nat} {ch:List Addr} (I:Inv X pins σ H s) (k:∀ b o,b ∉ ch→s.heap.get? b=some o→h'.get? b=some o) (f:∀ b∈ch,vD X pins H b):Inv X pins σ H { s with heap:=h',toks:=t' }:=by
  have nit:∀ b u,H b=some u→b ∉ ch:=fun b u e z=>by rw [(f b z).1] at e;cases e
  refine I.step (g':=s.gens) (d':=s.drawn) (ch:=ch) (fun b hb=>?_) (fun b o _ _ hc e _=>k b o hc e) (fun b o _ _ hc e _=>⟨o.slots,k b o hc e⟩) (fun _ _ _ _ n=>n)
    (fun b o hc e=>⟨o,k b o hc e⟩) (fun _ _ e=>e) (fun _ _ _ e=>e) (fun b ps e=>⟨#[],by rw [e];simp⟩) (fun m hm=>?_) (fun b u e=>?_) I.bare
  · obtain ⟨f0,f1,f2,f3,f4,f5⟩:=f b hb
    exact ⟨f3,f1,f4,f5⟩
  · obtain ⟨o,es,ep,ho,r⟩:=hm
    exact ⟨o,es,ep,k _ o (fun z=>(f _ z).2.1 rfl) ho,r⟩
  · refine (I.hok b u e).stay (fun c v hc q=>k c v ?_ q) (fun _ q=>q) fun _ _ q=>q
    rcases hc with z | z
    · rw [z];exact nit b u e
    · exact nit c _ z
def Itz (K:PySem.W.Frag) (l1 l2:Addr) (xs ys:List V):It :=
  ⟨fun i H=>SqL K H l1 xs∧SqL K H l2 ys∧i<xs.length∧i<ys.length,fun i H x H'=>∃ T a b,x=.ref T∧H T=none∧xs[i]?=some a∧ys[i]?=some b∧H'=upd H T (.tup [a,b]),
   fun i H=>SqL K H l1 xs∧SqL K H l2 ys∧(xs.length≤i∨ys.length≤i)⟩
def X7 (z TI TO i1 i2 l1 l2:Addr) (i:Nat) (h:Heap):Prop:=IsZip h z TI TO .none∧IsPair h TI (.ref i1) (.ref i2)∧(∃ a b,IsPair h TO a b)∧h.IsListIter i1 l1 i∧h.IsListIter i2 l2 i
theorem DW {P:Program} {w:World} {K:PySem.W.Frag} {elts:List Expr} {kk:Nat} {tpos:Pos} {z TI TO i1 i2 l1 l2:Addr} {xs ys:List V} (D:ZipApart z TI TO i1 i2 l1 l2) :
    Turn P w K (.Tuple elts kk tpos) (Itz K l1 l2 xs ys) [z,TI,TO,i1,i2] z (X7 z TI TO i1 i2 l1 l2) where
  mem:=by simp
  obj:=fun i h st b hb=>by
    obtain ⟨hz,hTI,⟨a,b',hTO⟩,⟨o1,e1,c1,d1⟩,⟨o2,e2,c2,d2⟩⟩:=st
    simp at hb
    rcases hb with rfl | rfl | rfl | rfl | rfl
    · exact ⟨_,hz,fun v z=>by cases (show Data.fields _=Data.cell v from z)⟩
    · exact ⟨_,hTI,fun v z=>by cases (show Data.seq _ _=Data.cell v from z)⟩
    · exact ⟨_,hTO,fun v z=>by cases (show Data.seq _ _=Data.cell v from z)⟩
    · exact ⟨o1,e1,fun v z=>by rw [d1] at z;cases z⟩
    · exact ⟨o2,e2,fun v z=>by rw [d2] at z;cases z⟩
  keep:=fun i h h' st k=>by
    obtain ⟨hz,hTI,⟨a,b,hTO⟩,h1,h2⟩:=st
    exact ⟨k z (by simp) _ hz,k TI (by simp) _ hTI,⟨a,b,k TO (by simp) _ hTO⟩,h1.at fun o e=>k i1 (by simp) o e,h2.at fun o e=>k i2 (by simp) o e⟩
  item:=by
    intro X hP hw hK hc i pins s σ H E I hf st hg
    subst hP hw hK
    obtain ⟨hz,hTI,⟨p,p',hTO⟩,h1,h2⟩:=st
    obtain ⟨hq1,hq2,hi1,hi2⟩:=hg
    obtain ⟨its1,rv1,pl1,hz1⟩:=I.list hq1
    obtain ⟨its2,rv2,pl2,hz2⟩:=I.list hq2
    obtain ⟨u1,hu1,ru1⟩:=rv1.get (List.getElem?_eq_getElem hi1)
    obtain ⟨u2,hu2,ru2⟩:=rv2.get (List.getElem?_eq_getElem hi2)
    refine wpAny_pyNext_zip_item D hz hTI hTO h1 h2 pl1.isList pl2.isList (x:=u1) (y:=u2) (by simpa using hu1) (by simpa using hu2) fun h' a1 a2 a3 a4 a5 a6 hk=>?_
    have lt:∀ {c o},s.heap.get? c=some o→s.heap.objs.size≠c:=fun e=>Nat.ne_of_gt (Heap.lt_size e)
    refine ⟨.ref s.heap.objs.size,rfl,wpAny_letOwnedTupleGo_zip (s:={ s with heap:=h' }) a1 fun h'' hz' hs'=>?_⟩
    have Tz:s.heap.objs.size≠z:=lt hz
    have sub:∀ b∈([z,TO,i1,i2]:List Addr),b∈([z,TI,TO,i1,i2]:List Addr):=fun b hb=>by
      simp at hb ⊢
      rcases hb with rfl | rfl | rfl | rfl <;> simp
    have I1:Inv X pins σ H { s with heap:=h'' }:=I.rG (t':=s.toks) (ch:=[z,TO,i1,i2])
      (fun b o hb e=>hs'.extBut b o (fun x=>hb (by simp [x])) (hk b o (fun x=>hb (by simp [x])) (fun x=>hb (by simp [x])) (fun x=>hb (by simp [x])) (fun x=>hb (by simp [x])) e)) fun b hb=>hf b (sub b hb)
    have F:=I.zH (H':=H) (Nat.le_refl _) (I.hok.fresh (Nat.le_refl _))
    obtain ⟨F0,F1,F2,F3,F4,F5⟩:=F
    have hT:IsTup h'' s.heap.objs.size #[u1,u2]:=⟨_,hs'.extBut _ _ Tz a5,rfl,_,rfl⟩
    have I2:Inv X pins σ (upd H s.heap.objs.size (.tup [xs[i],ys[i]])) { s with heap:=h'' }:=I1.adopt F0 F1 I.sz F4 F5 (show gB X.prog X.w _ h'' _ (.tup [xs[i],ys[i]]) from ⟨by rw [sizeLine_eq];simp,[u1,u2],.cons ru1 (.cons ru2 .nil),hT⟩)
    refine ⟨.ref s.heap.objs.size,_,I2,rfl,⟨_,_,_,rfl,F0,List.getElem?_eq_getElem hi1,List.getElem?_eq_getElem hi2,rfl⟩,?_,fun b hb=>?_⟩
    · exact ⟨hz',hs'.extBut _ _ D.TIz (hk _ _ D.TIz D.TITO D.TIi1 D.TIi2 hTI),⟨_,_,hs'.extBut _ _ D.TOz a2⟩,a3.extBut hs'.extBut D.i1z,a4.extBut hs'.extBut D.i2z⟩
    · rw [bA]
      · exact (hf b hb).1
      · simp at hb
        obtain ⟨o1,e1,_⟩:=h1
        obtain ⟨o2,e2,_⟩:=h2
        rcases hb with rfl | rfl | rfl | rfl | rfl
        · exact (lt hz).symm
        · exact (lt hTI).symm
        · exact (lt hTO).symm
        · exact (lt e1).symm
        · exact (lt e2).symm
  done:=by
    intro X hP hw hK hc i pins s σ H E I hf st hg
    subst hP hw hK
    obtain ⟨hz,hTI,⟨p,p',hTO⟩,h1,h2⟩:=st
    obtain ⟨hq1,hq2,hend⟩:=hg
    obtain ⟨its1,rv1,pl1,hz1⟩:=I.list hq1
    obtain ⟨its2,rv2,pl2,hz2⟩:=I.list hq2
    have e1:=rv1.length
    have e2:=rv2.length
    have sub:∀ b∈([z,TO,i1,i2]:List Addr),b∈([z,TI,TO,i1,i2]:List Addr):=fun b hb=>by
      simp at hb ⊢
      rcases hb with rfl | rfl | rfl | rfl <;> simp
    refine wpAny_pyNext_zip_end (I.ok.hd hc) D hz hTI hTO h1 h2 pl1.isList pl2.isList ?_ fun h' hk=>⟨rfl,I.rG (t':=s.toks) (ch:=[z,TO,i1,i2])
      (fun b o hb e=>hk b o (fun x=>hb (by simp [x])) (fun x=>hb (by simp [x])) (fun x=>hb (by simp [x])) (fun x=>hb (by simp [x])) e) fun b hb=>hf b (sub b hb)⟩
    rcases hend with h | h
    · exact .inl (by simp;omega)
    · exact .inr (by simp;omega)
  self:=fun _ _ _ _ _ st h=>wpAny_pyIter_zip st.1 h
def iZip (K:PySem.W.Frag) (ta:TA):TI:=fun σ H R=>ta σ H fun vs H1=>∃ l1 l2 xs ys,vs=[.ref l1,.ref l2]∧SqL K H1 l1 xs∧SqL K H1 l2 ys∧R (Itz K l1 l2 xs ys) H1
theorem qO {elts:List Expr} {kk:Nat} {tpos:Pos} {a b:Expr} {ta:TA} {p pos:Pos} (hg:Gl X "zip") (hm:X.mg "zip"=none) (ha:PA X [a,b] ta) (hs:starEach [a,b] X.env=[(false,eval a X.env),(false,eval b X.env)]:=by rfl) (hs2:starEach [b] X.env=[(false,eval b X.env)]:=by rfl) :
    PI X (.Tuple elts kk tpos) (.Call (.Name "zip" p) [a,b] [] pos) (iZip X.K ta):=by
  intro pins s σ H R I h
  refine Call_ (lK I hg hm boot_zip (PyProof.Rows.callWith_type1 (thn (ha pos pins s σ H _ I h) fun us s1 ⟨vs,H1,I1,r1,q1⟩=>?_) (by rw [hs,hs2]) (by rw [hs2];rfl)))
  obtain ⟨l1,l2,xs,ys,e,hq1,hq2,q⟩:=q1
  subst e
  cases r1 with
  | cons r rr =>
    cases rr with
    | cons r' rr =>
      cases rr
      cases r
      cases r'
      obtain ⟨its1,rv1,pl1,hz1⟩:=I1.list hq1
      obtain ⟨its2,rv2,pl2,hz2⟩:=I1.list hq2
      refine call_zip_2 pl1.isList pl2.isList fun h' a1 a2 a3 a4 a5 a6 hk=>?_
      refine wpAny_pyIter_zip a1 ?_
      have b1:l1<s1.heap.objs.size:=by obtain ⟨o,e,_⟩:=pl1.isList;exact Heap.lt_size e
      have b2:l2<s1.heap.objs.size:=by obtain ⟨o,e,_⟩:=pl2.isList;exact Heap.lt_size e
      refine ⟨_,_,_,_,H1,rfl,I1.kept (t':=s1.toks) hk,DW (l1:=l1) (l2:=l2) (xs:=xs) (ys:=ys) (TI:=s1.heap.objs.size + 2) (TO:=s1.heap.objs.size + 3) (i1:=s1.heap.objs.size) (i2:=s1.heap.objs.size + 1) ?_,⟨a1,a2,⟨_,_,a3⟩,a4,a5⟩,fun b hb=>?_,q⟩
      · constructor <;> exact fun z=>by simp only [Addr] at z b1 b2;omega
      · have hb':s1.heap.objs.size≤b:=by
          simp at hb
          rcases hb with rfl | rfl | rfl | rfl | rfl <;> simp
        exact I1.zH hb' (I1.hok.fresh hb')
theorem sU {K:PySem.W.Frag} {l1 l2:Addr} {xs ys:List V} {g:TG} {tb:TS} {D:Ends} {σ:St} {H:Hp} (Pv:Nat→St→Hp→Prop) (hxy:xs.length=ys.length) (h0:Pv 0 σ H) (hl:∀ i σ H,i≤xs.length→Pv i σ H→SqL K H l1 xs∧SqL K H l2 ys)
    (hs:∀ i a b T σ H,xs[i]?=some a→ys[i]?=some b→Pv i σ H→H T=none→g (.ref T) σ (upd H T (.tup [a,b])) fun σ2 H2=>tb { D with nx:=Pv (i + 1),ct:=Pv (i + 1),bk:=D.nx } σ2 H2) (hd:∀ σ H,Pv xs.length σ H→D.nx σ H) :
    ∃ W:Nat→Nat→St→Hp→Prop,(∃ m,W 0 m σ H)∧∀ i m σ H,W i m σ H →
      ((Itz K l1 l2 xs ys).stop i H∧D.nx σ H)∨((Itz K l1 l2 xs ys).go i H∧∃ N:St→Hp→Prop,(∀ σ' H',N σ' H'→∃ m',m'<m∧W (i + 1) m' σ' H')∧∀ x H',(Itz K l1 l2 xs ys).yld i H x H'→g x σ H' fun σ2 H2=>tb { D with nx:=N,ct:=N,bk:=D.nx } σ2 H2):=by
  refine ⟨fun i m σ H=>m=xs.length - i∧i≤xs.length∧Pv i σ H,⟨xs.length,by simp,Nat.zero_le _,h0⟩,?_⟩
  rintro i m σ H ⟨rfl,hi,p⟩
  obtain ⟨q1,q2⟩:=hl i σ H hi p
  by_cases hlt:i<xs.length
  · refine .inr ⟨⟨q1,q2,hlt,by omega⟩,Pv (i + 1),fun σ' H' p'=>⟨xs.length - (i + 1),by omega,rfl,hlt,p'⟩,fun x H' y=>?_⟩
    obtain ⟨T,a,b,rfl,hT,ha,hb,rfl⟩:=y
    exact hs i a b T σ _ ha hb p hT
  · have e:i=xs.length:=by omega
    subst e
    exact .inl ⟨⟨q1,q2,.inl (Nat.le_refl _)⟩,hd σ H p⟩
end
end L2
namespace L2
open PySem PySem.Spec PyProof.Rows
section
variable {X:Cx}
def Ite (K:PySem.W.Frag) (l:Addr) (xs:List V):It :=
  ⟨fun i H=>SqL K H l xs∧i<xs.length,fun i H x H'=>∃ T a,x=.ref T∧H T=none∧xs[i]?=some a∧H'=upd H T (.tup [.int (i:Int),a]),fun i H=>SqL K H l xs∧xs.length≤i⟩
def Vm (e it l:Addr) (i:Nat) (h:Heap):Prop:=(∃ old,IsEnum h e it i old)∧h.IsListIter it l i
theorem zV {P:Program} {w:World} {K:PySem.W.Frag} {elts:List Expr} {kk:Nat} {tpos:Pos} {e it l:Addr} {xs:List V} (hei:e≠it) :
    Turn P w K (.Tuple elts kk tpos) (Ite K l xs) [e,it] e (Vm e it l) where
  mem:=by simp
  obj:=fun i h st b hb=>by
    obtain ⟨⟨old,he⟩,⟨o1,e1,c1,d1⟩⟩:=st
    simp at hb
    rcases hb with rfl | rfl
    · exact ⟨_,he,fun v z=>by cases (show Data.fields _=Data.cell v from z)⟩
    · exact ⟨o1,e1,fun v z=>by rw [d1] at z;cases z⟩
  keep:=fun i h h' st k=>by
    obtain ⟨⟨old,he⟩,h1⟩:=st
    exact ⟨⟨old,k e (by simp) _ he⟩,h1.at fun o x=>k it (by simp) o x⟩
  item:=by
    intro X hP hw hK hc i pins s σ H E I hf st hg
    subst hP hw hK
    obtain ⟨⟨old,he⟩,h1⟩:=st
    obtain ⟨hq1,hi1⟩:=hg
    obtain ⟨its1,rv1,pl1,hz1⟩:=I.list hq1
    obtain ⟨u1,hu1,ru1⟩:=rv1.get (List.getElem?_eq_getElem hi1)
    refine wpAny_pyNext_enum_item he h1 pl1.isList (x:=u1) (by simpa using hu1) hei fun h' a1 a2 a3 a4 hk=>?_
    have lt:∀ {c o},s.heap.get? c=some o→s.heap.objs.size≠c:=fun e=>Nat.ne_of_gt (Heap.lt_size e)
    refine ⟨.ref s.heap.objs.size,rfl,wpAny_letOwnedTupleGo_enum (s:={ s with heap:=h',toks:=s.toks + 1 }) a1 fun h'' hz' hs'=>?_⟩
    have Tz:s.heap.objs.size≠e:=lt he
    have I1:Inv X pins σ H { s with heap:=h'',toks:=s.toks + 1 }:=I.rG (ch:=[e,it])
      (fun b o hb x=>hs'.extBut b o (fun z=>hb (by simp [z])) (hk b o (fun z=>hb (by simp [z])) (fun z=>hb (by simp [z])) x)) fun b hb=>hf b hb
    obtain ⟨F0,F1,F2,F3,F4,F5⟩:=I.zH (H':=H) (Nat.le_refl _) (I.hok.fresh (Nat.le_refl _))
    have hT:IsTup h'' s.heap.objs.size #[.int (i:Int) s.toks,u1]:=⟨_,hs'.extBut _ _ Tz a3,rfl,_,rfl⟩
    have I2:Inv X pins σ (upd H s.heap.objs.size (.tup [.int (i:Int),xs[i]])) { s with heap:=h'',toks:=s.toks + 1 }:=I1.adopt F0 F1 I.sz F4 F5 (show gB X.prog X.w _ h'' _ (.tup [.int (i:Int),xs[i]]) from ⟨by rw [sizeLine_eq];simp,[.int (i:Int) s.toks,u1],.cons ⟨_,rfl⟩ (.cons ru1 .nil),hT⟩)
    refine ⟨.ref s.heap.objs.size,_,I2,rfl,⟨_,_,rfl,F0,List.getElem?_eq_getElem hi1,rfl⟩,?_,fun b hb=>?_⟩
    · exact ⟨⟨_,by simpa using hz'⟩,a2.extBut hs'.extBut hei.symm⟩
    · rw [bA]
      · exact (hf b hb).1
      · simp at hb
        obtain ⟨o1,e1,_⟩:=h1
        rcases hb with rfl | rfl
        · exact (lt he).symm
        · exact (lt e1).symm
  done:=by
    intro X hP hw hK hc i pins s σ H E I hf st hg
    subst hP hw hK
    obtain ⟨⟨old,he⟩,h1⟩:=st
    obtain ⟨hq1,hend⟩:=hg
    obtain ⟨its1,rv1,pl1,hz1⟩:=I.list hq1
    have e1:=rv1.length
    exact wpAny_pyNext_enum_end (I.ok.hd hc) he h1 pl1.isList (by simp;omega) fun h' hk=>⟨rfl,I.rG (t':=s.toks) (ch:=[e,it])
      (fun b o hb x=>hk b o (fun z=>hb (by simp [z])) x) fun b hb=>hf b hb⟩
  self:=fun _ _ _ _ _ st h=>by
    obtain ⟨⟨old,he⟩,_⟩:=st
    exact wpAny_pyIter_enum he h
def WL (K:PySem.W.Frag) (ta:TA):TI:=fun σ H R=>ta σ H fun vs H1=>∃ l xs,vs=[.ref l]∧SqL K H1 l xs∧R (Ite K l xs) H1
theorem Bl {elts:List Expr} {kk:Nat} {tpos:Pos} {a:Expr} {ta:TA} {p pos:Pos} (hg:Gl X "enumerate") (hm:X.mg "enumerate"=none) (ha:PA X [a] ta) (hs:starEach [a] X.env=[(false,eval a X.env)]:=by rfl) :
    PI X (.Tuple elts kk tpos) (.Call (.Name "enumerate" p) [a] [] pos) (WL X.K ta):=by
  intro pins s σ H R I h
  refine Call_ (lK I hg hm boot_enumerate (PyProof.Rows.callWith_type1 (thn (ha pos pins s σ H _ I h) fun us s1 ⟨vs,H1,I1,r1,q1⟩=>?_) hs rfl))
  obtain ⟨l1,xs,e,hq1,q⟩:=q1
  subst e
  obtain ⟨u,rfl,ru⟩:=vals1 r1
  cases ru
  obtain ⟨its1,rv1,pl1,hz1⟩:=I1.list hq1
  refine call_enumerate_list pl1.isList fun h' a1 a2 a3 hk=>?_
  refine wpAny_pyIter_enum a1 ?_
  refine ⟨_,_,_,_,H1,rfl,I1.kept (t':=s1.toks) hk,zV (l:=l1) (xs:=xs) (it:=s1.heap.objs.size) (Nat.succ_ne_self _),⟨⟨_,a1⟩,a2⟩,fun b hb=>?_,q⟩
  have hb':s1.heap.objs.size≤b:=by
    simp at hb
    rcases hb with rfl | rfl <;> simp
  exact I1.zH hb' (I1.hok.fresh hb')
theorem Ft {K:PySem.W.Frag} {l:Addr} {xs:List V} {g:TG} {tb:TS} {D:Ends} {σ:St} {H:Hp} (Pv:Nat→St→Hp→Prop) (h0:Pv 0 σ H) (hl:∀ i σ H,i≤xs.length→Pv i σ H→SqL K H l xs)
    (hs:∀ i a T σ H,xs[i]?=some a→Pv i σ H→H T=none→g (.ref T) σ (upd H T (.tup [.int (i:Int),a])) fun σ2 H2=>tb { D with nx:=Pv (i + 1),ct:=Pv (i + 1),bk:=D.nx } σ2 H2) (hd:∀ σ H,Pv xs.length σ H→D.nx σ H) :
    ∃ W:Nat→Nat→St→Hp→Prop,(∃ m,W 0 m σ H)∧∀ i m σ H,W i m σ H →
      ((Ite K l xs).stop i H∧D.nx σ H)∨((Ite K l xs).go i H∧∃ N:St→Hp→Prop,(∀ σ' H',N σ' H'→∃ m',m'<m∧W (i + 1) m' σ' H')∧∀ x H',(Ite K l xs).yld i H x H'→g x σ H' fun σ2 H2=>tb { D with nx:=N,ct:=N,bk:=D.nx } σ2 H2):=by
  refine ⟨fun i m σ H=>m=xs.length - i∧i≤xs.length∧Pv i σ H,⟨xs.length,by simp,Nat.zero_le _,h0⟩,?_⟩
  rintro i m σ H ⟨rfl,hi,p⟩
  have q1:=hl i σ H hi p
  by_cases hlt:i<xs.length
  · refine .inr ⟨⟨q1,hlt⟩,Pv (i + 1),fun σ' H' p'=>⟨xs.length - (i + 1),by omega,rfl,hlt,p'⟩,fun x H' y=>?_⟩
    obtain ⟨T,a,rfl,hT,ha,rfl⟩:=y
    exact hs i a T σ _ ha p hT
  · have e:i=xs.length:=by omega
    subst e
    exact .inl ⟨⟨q1,Nat.le_refl _⟩,hd σ H p⟩
theorem CZ {K:PySem.W.Frag} {a:Addr} {xs:List V} {acc:Addr} {g:TG} {tc:TT} {te:TE} {τ:St} {H1:Hp} {Q:Hp→Prop} (Pv:Nat→St→Hp→Prop) (h0:Pv 0 τ (upd H1 acc (.lst []))) (hl:∀ i τ H,i≤xs.length→Pv i τ H→SqL K H a xs)
    (hs:∀ i x T τ H,xs[i]?=some x→Pv i τ H→H T=none→g (.ref T) τ (upd H T (.tup [.int (i:Int),x])) fun τ4 H4=>tc τ4 H4 fun b H5=>if b=true then te τ4 H5 fun y H6=>∃ ys,H6 acc=some (.lst ys)∧ys.length<sizeLine∧Pv (i + 1) τ4 (upd H6 acc (.lst (ys++[y]))) else Pv (i + 1) τ4 H5)
    (hd:∀ τ H,Pv xs.length τ H→Q H):tZ (Ite K a xs) acc g tc te τ H1 Q:=by
  refine ⟨fun i m τ H=>m=xs.length - i∧i≤xs.length∧Pv i τ H,⟨xs.length,by simp,Nat.zero_le _,h0⟩,?_⟩
  rintro i m τ H ⟨rfl,hi,p⟩
  have q:=hl i τ H hi p
  by_cases hlt:i<xs.length
  · refine .inr ⟨⟨q,hlt⟩,Pv (i + 1),fun τ' H' p'=>⟨xs.length - (i + 1),by omega,rfl,hlt,p'⟩,fun x H' y=>?_⟩
    obtain ⟨T,b,rfl,hT,hb,rfl⟩:=y
    exact hs i b T τ _ hb p hT
  · have e:i=xs.length:=by omega
    subst e
    exact .inl ⟨⟨q,Nat.le_refl _⟩,hd τ H p⟩
theorem yE {K:PySem.W.Frag} {l1 l2:Addr} {xs ys:List V} {acc:Addr} {g:TG} {tc:TT} {te:TE} {τ:St} {H1:Hp} {Q:Hp→Prop} (Pv:Nat→St→Hp→Prop) (hxy:xs.length=ys.length) (h0:Pv 0 τ (upd H1 acc (.lst []))) (hl:∀ i τ H,i≤xs.length→Pv i τ H→SqL K H l1 xs∧SqL K H l2 ys)
    (hs:∀ i x y T τ H,xs[i]?=some x→ys[i]?=some y→Pv i τ H→H T=none→g (.ref T) τ (upd H T (.tup [x,y])) fun τ4 H4=>tc τ4 H4 fun b H5=>if b=true then te τ4 H5 fun y H6=>∃ ys,H6 acc=some (.lst ys)∧ys.length<sizeLine∧Pv (i + 1) τ4 (upd H6 acc (.lst (ys++[y]))) else Pv (i + 1) τ4 H5)
    (hd:∀ τ H,Pv xs.length τ H→Q H):tZ (Itz K l1 l2 xs ys) acc g tc te τ H1 Q:=by
  refine ⟨fun i m τ H=>m=xs.length - i∧i≤xs.length∧Pv i τ H,⟨xs.length,by simp,Nat.zero_le _,h0⟩,?_⟩
  rintro i m τ H ⟨rfl,hi,p⟩
  obtain ⟨q1,q2⟩:=hl i τ H hi p
  by_cases hlt:i<xs.length
  · refine .inr ⟨⟨q1,q2,hlt,by omega⟩,Pv (i + 1),fun τ' H' p'=>⟨xs.length - (i + 1),by omega,rfl,hlt,p'⟩,fun x H' y=>?_⟩
    obtain ⟨T,b,c,rfl,hT,hb,hc,rfl⟩:=y
    exact hs i b c T τ _ hb hc p hT
  · have e:i=xs.length:=by omega
    subst e
    exact .inl ⟨⟨q1,q2,.inl (Nat.le_refl _)⟩,hd τ H p⟩
end
end L2
namespace L2
open PySem PySem.Spec PyProof.Rows
structure Iv (P:Prop):Prop where
  t:True
  p:P
theorem ifT {c:Bool} {A B:Prop} (h:c=true) (a:A):if c=true then A else B:=by rw [if_pos h];exact a
theorem ifF {c:Bool} {A B:Prop} (h:c=false) (b:B):if c=true then A else B:=by rw [if_neg (by rw [h];exact Bool.false_ne_true)];exact b
theorem ifB {c:Bool} {A B:Prop} (h1:c=true→A) (h2:c=false→B):if c=true then A else B:=by
  cases c with
  | true=>exact ifT rfl (h1 rfl)
  | false=>exact ifF rfl (h2 rfl)
theorem wD (x y:Int):decide (V.int x=V.int y)=decide (x=y):=by
  by_cases h:x=y
  · simp [h]
  · have:¬ V.int x=V.int y:=fun e=>h (by cases e;rfl)
    simp [h,this]
theorem aV {ns:List Int} {i:Int} (h0:0≤i) (h1:i<(ns.length:Int)):atI (ns.map V.int) i=some (V.int (ns.getD i.toNat 0)):=by
  refine lC h0 ?_
  rw [List.getD_eq_getElem?_getD,List.getElem?_eq_getElem (by omega)];rfl
theorem getD_mem' {ns:List Int} {k:Nat} (h:k<ns.length):ns.getD k 0∈ns:=by
  rw [List.getD_eq_getElem?_getD,List.getElem?_eq_getElem h];exact List.getElem_mem h
theorem bh {ns:List Int} {k:Nat} (h:k<ns.length):ns[k]?=some (ns.getD k 0):=by
  rw [List.getD_eq_getElem?_getD,List.getElem?_eq_getElem h];rfl
theorem Cm {n:Nat} {i:Int} (h0:0≤i) (h1:i<(n:Int)):ixN n i=some i.toNat:=by
  unfold ixN;rw [if_pos h0,if_pos h1]
theorem Den.mo {T:fC} {K:PySem.W.Frag} {H H':Hp} {v:V} {d:PyData} (h:Den K H v d) (e:bB T H H'):Den K H' v d:=Den.qH e h
theorem bM.mo {T:fC} {K:PySem.W.Frag} {H H':Hp} {vs:List V} {ds:List PyData} (h:bM K H vs ds) (e:bB T H H'):bM K H' vs ds:=bM.qH e h
theorem SqL.mo {T:fC} {K:PySem.W.Frag} {H H':Hp} {a:Addr} {xs:List V} (h:SqL K H a xs) (e:bB T H H'):SqL K H' a xs:=e.seq h
theorem SqT.mo {T:fC} {K:PySem.W.Frag} {H H':Hp} {a:Addr} {xs:List V} (h:SqT K H a xs) (e:bB T H H'):SqT K H' a xs:=e.Wk h
section
variable {T:fC} {H0 H1 H H':Hp} {L L':List (Addr × HO)} {a l p:Addr} {o o':HO} {xs:List V} {K:PySem.W.Frag}
theorem Ow.frz (O:Ow T H0 H ((p,o) :: L)):∃ Hn,Ow T Hn H L∧bB T H0 Hn∧Hn p=some o:=by
  obtain ⟨Hn,On,sn,kn⟩:=O.tail.reb
  refine ⟨Hn,On,sn,kn p o (O.get 0) fun q hq z=>?_⟩
  have nd:=O.nd
  rw [List.map_cons,List.nodup_cons] at nd
  exact nd.1 (List.mem_map.mpr ⟨q,hq,z⟩)
theorem Ow.join (O:Ow T H0 H L) (O':Ow T H H' L'):Ow T H0 H' (L'++L):=by
  have keep:∀ q∈L,H' q.1=some q.2:=fun q hq=>(O.lZ O'.same).at_ q hq
  refine ⟨O.same.trans O'.same,fun q hq=>?_,fun q hq=>?_,fun q hq=>?_,?_⟩
  · rcases List.mem_append.mp hq with h | h
    · exact O.same.free (O'.new q h)
    · exact O.new q h
  · rcases List.mem_append.mp hq with h | h
    · exact O'.at_ q h
    · exact keep q h
  · rcases List.mem_append.mp hq with h | h
    · exact O'.pl q h
    · exact O.pl q h
  · rw [List.map_append,List.nodup_append]
    refine ⟨O'.nd,O.nd,fun x hx y hy z=>?_⟩
    obtain ⟨q,hq,rfl⟩:=List.mem_map.mp hx
    obtain ⟨r,hr,rfl⟩:=List.mem_map.mp hy
    have:=O'.new q hq
    rw [z,O.at_ r hr] at this
    cases this
end
def dTup (ns:List Int):PyData:=.tuple (ns.map PyData.int)
def yD (rs:List (List Int)):PyData:=.list (rs.map lY)
section
variable {K:PySem.W.Frag} {H:Hp} {v:V} {a:Addr} {ns:List Int} {rs:List (List Int)}
theorem Den.tup (h:SqT K H a (ns.map V.int)):Den K H (.ref a) (dTup ns):=.tuple h (bM.ints ns)
theorem Den.zX (h:Den K H v (dTup ns)):∃ a,v=.ref a∧SqT K H a (ns.map V.int):=by
  cases h with
  | tuple h hs=>exact ⟨_,rfl,by rw [← bM.int_inv hs];exact h⟩
theorem Den.jR {ds:List PyData} (h:Den K H v (.list ds)):∃ a xs,v=.ref a∧SqL K H a xs∧bM K H xs ds:=by
  cases h with
  | list h hs=>exact ⟨_,_,rfl,h,hs⟩
theorem Sh.tup (n:Nat) (ns:List Int):Sh (n + 1) (dTup ns):=.tuple fun d hd=>by
  obtain ⟨i,_,rfl⟩:=List.mem_map.mp hd
  exact .int n i
end
end L2
namespace L2
open PySem PySem.Spec PyProof.Rows
section
variable {A B:Prop}
theorem ifD {p:Prop} [Decidable p] (h1:p→A) (h2:¬ p→B):if decide p=true then A else B:=ifB (fun h=>h1 (of_decide_eq_true h)) fun h=>h2 (of_decide_eq_false h)
theorem ifI {x y:Int} (h1:x=y→A) (h2:¬ x=y→B):if decide (V.int x=V.int y)=true then A else B:=by rw [wD];exact ifD h1 h2
theorem ifN {c:Bool} (h:if c=true then B else A):if (!c)=true then A else B:=by cases c <;> simpa using h
end
structure Lic where
  day:Int
  start:Int
  back:Int
  most:Int
def qI (l:Lic):PyData:=dTup [l.day,l.start,l.back,l.most]
def CT (ls:List Lic):PyData:=.list (ls.map qI)
abbrev zP (l:Lic):List V:=[.int l.day,.int l.start,.int l.back,.int l.most]
section
variable {K:PySem.W.Frag} {H:Hp} {v:V} {a:Addr} {ls:List Lic} {l:Lic} {xs:List V} {k:Nat}
theorem Den.lic (h:SqT K H a (zP l)):Den K H (.ref a) (qI l):=Den.tup (ns:=[l.day,l.start,l.back,l.most]) h
theorem Den.BZ (h:Den K H v (qI l)):∃ a,v=.ref a∧SqT K H a (zP l):=h.zX
theorem bM.oV (h:bM K H xs (ls.map qI)) (hk:ls[k]?=some l):∃ a,xs[k]?=some (.ref a)∧SqT K H a (zP l):=by
  obtain ⟨v,h1,h2⟩:=h.get (i:=k) (d:=qI l) (by rw [List.getElem?_map,hk];rfl)
  obtain ⟨a,rfl,hT⟩:=h2.BZ
  exact ⟨a,h1,hT⟩
theorem bM.wA (h:bM K H xs (ls.map qI)) (hx:xs[k]?=some v):∃ a l,v=.ref a∧ls[k]?=some l∧SqT K H a (zP l):=by
  obtain ⟨d,h1,h2⟩:=h.get' hx
  rw [List.getElem?_map] at h1
  cases e:ls[k]? with
  | none=>rw [e] at h1;cases h1
  | some l =>
    rw [e] at h1
    cases h1
    obtain ⟨a,rfl,hT⟩:=h2.BZ
    exact ⟨a,l,rfl,rfl,hT⟩
theorem Sh.lic (n:Nat) (l:Lic):Sh (n + 1) (qI l):=Sh.tup n _
theorem Sh.roll (n:Nat) (ls:List Lic):Sh (n + 2) (CT ls):=.list fun d hd=>by
  obtain ⟨i,_,rfl⟩:=List.mem_map.mp hd
  exact .lic n i
end
theorem Oc (xs:List V) (i j:Nat):vC xs (some (i:Int)) (some (j:Int))=(xs.drop i).take (j - i):=by
  unfold vC
  rw [HT.pQ,HT.pQ]
  refine List.ext_getElem? fun k=>?_
  simp only [List.getElem?_take,List.getElem?_drop]
  by_cases h1:k<j - i
  · rw [if_pos h1]
    by_cases h2:i + k<xs.length
    · rw [if_pos (by omega),show min i xs.length=i by omega]
    · rw [List.getElem?_eq_none (l:=xs) (i:=i + k) (by omega)]
      split
      · exact List.getElem?_eq_none (by omega)
      · rfl
  · rw [if_neg h1]
    split
    · rename_i h3
      omega
    · rfl
theorem Mw (ns:List Int) (i j:Nat):vC (ns.map V.int) (some (i:Int)) (some (j:Int))=((ns.drop i).take (j - i)).map V.int:=by
  rw [Oc,List.map_take,List.map_drop]
theorem FQ (ns:List Int) (i:Nat):vC (ns.map V.int) (some (i:Int)) none=(ns.drop i).map V.int:=by
  unfold vC
  rw [HT.pQ,List.length_map,show HT.sIx ns.length ns.length none=ns.length from rfl,List.map_drop]
  by_cases h:i≤ns.length
  · rw [Nat.min_eq_left h,List.take_of_length_le (by rw [List.length_drop,List.length_map];omega)]
  · rw [Nat.min_eq_right (by omega),List.drop_of_length_le (l:=ns.map V.int) (i:=i) (by rw [List.length_map];omega),Nat.sub_self,List.take_zero]
end L2
namespace L2
open PySem PySem.Spec PyProof.Rows
theorem Ow.lend {T:fC} {H0 H:Hp} {A B:List (Addr × HO)} (O:Ow T H0 H (A++B)):∃ H1,Ow T H1 H A∧bB T H0 H1∧(∀ p∈B,H1 p.1=some p.2)∧∀ (H':Hp) (A':List (Addr × HO)),Ow T H1 H' A'→Ow T H0 H' (A'++B):=by
  have OA:Ow T H0 H A:=O.sub (List.sublist_append_left A B)
  have OB:Ow T H0 H B:=O.sub (List.sublist_append_right A B)
  obtain ⟨H1,O1,s1,k1⟩:=OA.reb
  have nd:=O.nd
  rw [List.map_append,List.nodup_append] at nd
  have hB:∀ p∈B,H1 p.1=some p.2:=fun p hp=>k1 p.1 p.2 (OB.at_ p hp) fun q hq z=>nd.2.2 q.1 (List.mem_map.mpr ⟨q,hq,rfl⟩) p.1 (List.mem_map.mpr ⟨p,hp,rfl⟩) z
  refine ⟨H1,O1,s1,hB,fun H' A' O'=>?_⟩
  refine ⟨s1.trans O'.same,fun p hp=>?_,fun p hp=>?_,fun p hp=>?_,?_⟩
  · rcases List.mem_append.mp hp with h | h
    · exact s1.free (O'.new p h)
    · exact OB.new p h
  · rcases List.mem_append.mp hp with h | h
    · exact O'.at_ p h
    · refine O'.same.keep _ _ (hB p h) fun ps z=>?_
      have:=OB.pl p h
      rw [z] at this;cases this
  · rcases List.mem_append.mp hp with h | h
    · exact O'.pl p h
    · exact OB.pl p h
  · rw [List.map_append,List.nodup_append]
    refine ⟨O'.nd,OB.nd,fun x hx y hy z=>?_⟩
    obtain ⟨q,hq,rfl⟩:=List.mem_map.mp hx
    obtain ⟨r,hr,rfl⟩:=List.mem_map.mp hy
    have e:=O'.new q hq
    rw [z,hB r hr] at e
    cases e
end L2
namespace L2
open PySem PySem.Spec PyProof.Rows
theorem pW {X:Cx} {K:PySem.W.Frag} {pos:Pos} {es:List Expr} {k:Nat} {t:TGs} {n:Nat} (hK:X.K=K) (hc:X.calm=true) (h:PGs X es t) (hn:(assignEach es X.env).length=n:=by rfl) (hst:(assignEach es X.env).findIdx? (·.1)=none:=by rfl):PG X (.Tuple es k pos) (Yy K n t):=hK ▸ iB hc h hn hst
end L2
namespace L2
open PySem PySem.Spec PyProof.Rows
theorem Vw {τ:St} {H:Hp} {A B:Hp→Prop} (h:A H):Vx τ H fun b H5=>if b=true then A H5 else B H5:=by
  show if true=true then A H else B H
  rw [if_pos rfl];exact h
theorem QS (xs:List V) (v:V):atI (xs++[v]) (-1)=some v:=by
  unfold atI ixN
  rw [if_neg (by omega),if_pos (by simp;omega)]
  have e:(-1 + ((xs++[v]).length:Int)).toNat=xs.length:=by simp;omega
  rw [e]
  show (xs++[v])[xs.length]?=some v
  simp
end L2
namespace L2
open PySem PySem.Spec PyProof.Rows
theorem qX {α:Type}:∀ {L:List α} {k:Nat} {p:α},L[k]?=some p→(p :: L.eraseIdx k).Perm L
  | [],_,_,h=>by simp at h
  | a :: L,0,p,h=>by
    have e:a=p:=by simpa using h
    subst e;exact List.Perm.refl _
  | a :: L,k + 1,p,h=>by
    have h':L[k]?=some p:=by simpa using h
    rw [List.eraseIdx_cons_succ]
    exact (List.Perm.swap a p _).trans ((qX h').cons a)
section
variable {T:fC} {H0 H:Hp} {L:List (Addr × HO)} {p:Addr} {o:HO}
theorem Ow.pull (O:Ow T H0 H L) (k:Nat) (h:L[k]?=some (p,o):=by rfl):Ow T H0 H ((p,o) :: L.eraseIdx k):=O.perm (qX h)
theorem Ow.del (O:Ow T H0 H L) (k:Nat):Ow T H0 H (L.eraseIdx k):=O.sub (List.eraseIdx_sublist L k)
end
theorem nG (ns:List Int) (z:Int):ns.map V.int++[V.int z]=(ns++[z]).map V.int:=by rw [List.map_append];rfl
end L2
namespace L2
open PySem PySem.Spec PyProof.Rows
theorem bM.MF {K:PySem.W.Frag} {H:Hp} {xs:List V} {ws:List (List Int)} {i:Nat} {x:V} (h:bM K H xs (ws.map lY)) (hx:xs[i]?=some x):∃ a w,x=.ref a∧ws[i]?=some w∧SqL K H a (w.map V.int):=by
  obtain ⟨d,h1,h2⟩:=h.get' hx
  rw [List.getElem?_map] at h1
  cases e:ws[i]? with
  | none=>rw [e] at h1;cases h1
  | some w =>
    rw [e] at h1
    cases h1
    obtain ⟨a,rfl,hL⟩:=h2.yt
    exact ⟨a,w,rfl,rfl,hL⟩
theorem bM.zM {K:PySem.W.Frag} {H:Hp} {xs:List V} {ws:List (List Int)} {i:Nat} {w:List Int} (h:bM K H xs (ws.map lY)) (hw:ws[i]?=some w):∃ a,xs[i]?=some (.ref a)∧SqL K H a (w.map V.int):=by
  obtain ⟨v,h1,h2⟩:=h.get (i:=i) (d:=lY w) (by rw [List.getElem?_map,hw];rfl)
  obtain ⟨a,rfl,hL⟩:=h2.yt
  exact ⟨a,h1,hL⟩
end L2
namespace L2
open PySem PySem.Spec PyProof.Rows
end L2
namespace L2
open PySem PySem.W PySem.Spec PyProof.Rows
section
variable {prog:Program} {w:World} {A:Around} {E:Value→Shared→Prop} {s:Shared}
end
section
variable {X:Cx}
end
theorem BR (a v:Value):argsOk "min" ⟨[a],[(Str.ofString "default",v)]⟩:=by unfold argsOk;kernel_rfl
section
variable {prog:Program} {w:World} {A:Around} {R:Result→Shared→Prop} {I:Addr} {fp wr:List Addr} {n:Nat} {P:Nat→Value→Prop} {St:Nat→Heap→Prop}
theorem BP (W:Walks prog w A.in1 I fp wr n P St) (bt:Nat→Nat→Bool) (hcmp:CmpOf prog w A.in1 .Lt P bt) (S:Addr) (hSf:S ∉ fp) (d:Value) :
    ∀ (k j:Nat) (s:Shared) (bs:Array Value) (c:Nat),n - j=k→j≤n→St j s.heap→((j=0∧bs=#[])∨∃ i vb,j=i + 1∧bs=#[vb,vb]∧P (argBest bt i) vb) →
    s.heap.get? S=some { cls:=.type "list",dict:=none,data:=.seq bs c,slots:=#[] } →
    (n=0→∀ h' tk,(∀ b o,b ∉ wr→b≠S→s.heap.get? b=some o→h'.get? b=some o)→R (.ok (.ret d)) { s with heap:=h',toks:=tk }) →
    (∀ v h' tk,0<n→P (argBest bt (n - 1)) v→(∀ b o,b ∉ wr→b≠S→s.heap.get? b=some o→h'.get? b=some o)→R (.ok (.ret v)) { s with heap:=h',toks:=tk }) →
    codeAny (model prog w) A (.builtin "min.loop" ⟨[.ref I,.none,.ref S],[(Str.ofString "default",d)]⟩) R s:=by
  have nSw:S ∉ wr:=fun h=>hSf (W.sub _ h)
  have nm:(toString "min"++toString ".loop":String)="min.loop":=by decide
  intro k
  induction k with
  | zero =>
    intro j s bs c hk hj hst hb hS hR0 hR1
    have ej:j=n:=Nat.le_antisymm hj (Nat.le_of_sub_eq_zero hk)
    subst ej
    refine codeAny_builtin F.entry_min_loop ?_;rw [Around.under_plainId F.plain_min_loop _]
    show wpAny _ A.in1 (seqItems? (.ref S) >>= _) _ _ s;refine wpAny_bind (wpAny_seqItems hS rfl ?_)
    rcases hb with ⟨e0,rfl⟩ | ⟨i,vb,ei,rfl,hP⟩
    · show wpAny _ A.in1 (tryCatch (pyNext (.ref I)) _ >>= _) _ _ s;refine wpAny_bind (wpAny_tryCatch (W.done s _ _ hst fun h' tk hk'=>?_))
      refine wpAny_bind (wpAny_rule ?_)
      exact wpAny_pure (hR0 e0 h' tk fun b o hbw _ e=>hk' b o hbw e)
    · show wpAny _ A.in1 (tryCatch (pyNext (.ref I)) _ >>= _) _ _ s;refine wpAny_bind (wpAny_tryCatch (W.done s _ _ hst fun h' tk hk'=>?_))
      have hS':=hk' S _ nSw hS
      show wpAny _ A.in1 (updateSeq S (fun _=>#[]) >>= _) _ _ _
      refine wpAny_bind (wpAny_updateSeq hS' rfl (wpAny_bind (wpAny_letGo (wpAny_pure ?_))))
      exact hR1 vb _ tk (by omega) (by rw [ei];exact hP) fun b o hbw hbS e=>(Heap.get?_update_other _ _ (Ne.symm hbS)).trans (hk' b o hbw e)
  | succ k ih =>
    intro j s bs c hk hj hst hb hS hR0 hR1
    have hlt:j<n:=Nat.sub_pos_iff_lt.mp (by rw [hk];exact Nat.succ_pos k)
    refine codeAny_builtin F.entry_min_loop ?_;rw [Around.under_plainId F.plain_min_loop _]
    show wpAny _ A.in1 (seqItems? (.ref S) >>= _) _ _ s;refine wpAny_bind (wpAny_seqItems hS rfl ?_)
    rcases hb with ⟨e0,rfl⟩ | ⟨i,vb,ei,rfl,hPb⟩
    · show wpAny _ A.in1 (tryCatch (pyNext (.ref I)) _ >>= _) _ _ s;refine wpAny_bind (wpAny_tryCatch (W.item j s _ _ hlt hst fun v h' tk hP hst' hk'=>?_))
      have hS':=hk' S _ nSw hS
      show wpAny _ A.in1 (updateSeq S (fun _=>#[v,v]) >>= _) _ _ _
      refine wpAny_bind (wpAny_updateSeq hS' rfl ?_)
      rw [nm]
      subst e0
      refine wpAny_pure ⟨plainId_quiet F.plain_min_loop _,ih 1 _ _ _ (by omega) (by omega) (W.frame _ _ _ hst' fun b hbf o e=>(Heap.get?_update_other _ _ (fun h:S=b=>hSf (by rw [h];exact hbf))).trans e) (.inr ⟨0,v,rfl,rfl,hP⟩) (Heap.get?_update_self _ hS' rfl) (fun z=>by omega) fun v' h'' tk'' hn' hP' hk''=>?_⟩
      exact hR1 v' h'' tk'' hn' hP' fun b o hbw hbS e=>hk'' b o hbw hbS ((Heap.get?_update_other _ _ (Ne.symm hbS)).trans (hk' b o hbw e))
    · subst ei
      show wpAny _ A.in1 (tryCatch (pyNext (.ref I)) _ >>= _) _ _ s;refine wpAny_bind (wpAny_tryCatch (W.item (i + 1) s _ _ hlt hst fun v h' tk hP hst' hk'=>?_))
      have hS':=hk' S _ nSw hS
      show wpAny _ A.in1 (tryCatch (holding [v,v] (richCompare .Lt v vb >>= _)) _ >>= _) _ _ _
      refine wpAny_bind (wpAny_tryCatch (wpAny_holding (wpAny_bind (hcmp (i + 1) (argBest bt i) v vb _ _ _ hP hPb (wpAny_bind (wpAny_holding (wpAny_truthy_bool (wpAny_bind (wpAny_letGo (wpAny_pure ?_))))))))))
      cases hb:bt (i + 1) (argBest bt i) with
      | true =>
        simp only [if_true]
        refine wpAny_bind (wpAny_updateSeq hS' rfl (wpAny_bind (wpAny_letGo ?_)));rw [nm]
        refine wpAny_pure ⟨plainId_quiet F.plain_min_loop _,ih (i + 1 + 1) _ _ _ (by omega) (by omega) (W.frame _ _ _ hst' fun b hbf o e=>(Heap.get?_update_other _ _ (fun h:S=b=>hSf (by rw [h];exact hbf))).trans e) (.inr ⟨i + 1,v,rfl,rfl,by simp only [argBest,hb,if_true];exact hP⟩) (Heap.get?_update_self _ hS' rfl) (fun z=>by omega) fun v' h'' tk'' hn' hP' hk''=>?_⟩
        exact hR1 v' h'' tk'' hn' hP' fun b o hbw hbS e=>hk'' b o hbw hbS ((Heap.get?_update_other _ _ (Ne.symm hbS)).trans (hk' b o hbw e))
      | false =>
        simp only [Bool.false_eq_true,if_false]
        refine wpAny_bind (wpAny_letGo ?_);rw [nm]
        refine wpAny_pure ⟨plainId_quiet F.plain_min_loop _,ih (i + 1 + 1) _ _ c (by omega) (by omega) hst' (.inr ⟨i + 1,vb,rfl,rfl,by simp only [argBest,hb,Bool.false_eq_true,if_false];exact hPb⟩) hS' (fun z=>by omega) fun v' h'' tk'' hn' hP' hk''=>?_⟩
        exact hR1 v' h'' tk'' hn' hP' fun b o hbw hbS e=>hk'' b o hbw hbS (hk' b o hbw e)
end
section
variable {X:Cx}
def VB (K:PySem.W.Frag) (d:Int) (te:TE):TE:=fun σ H Q=>te σ H fun x H1=>∃ (p:Addr) (ns:List Int),x=.ref p∧SqL K H1 p (ns.map V.int)∧(ns=[]→Q (.int d) H1)∧∀ M∈ns,(∀ a∈ns,M≤a)→Q (.int M) H1
theorem M9 {e:Expr} {te:TE} {d:Int} {j:Nat} {p1 cp kp pos:Pos} (hcalm:X.calm=true) (hg:Gl X "min") (hm:X.mg "min"=none) (he:PE X e te) (h1:backTo pos (starEach [e] X.env)=(false,eval e X.env) :: backTo pos (starEach [] X.env):=by rfl) (h2:(backTo pos (starEach [e] X.env)).any (·.1)=false:=by rfl) :
    PE X (.Call (.Name "min" p1) [e] [⟨some "default",.Constant (.int d) j cp,kp⟩] pos) (VB X.K d te):=by
  intro pins s σ H Q I h
  refine wpAny_Call_Name_kw (lK I hg hm boot_min ?_)
  refine callWith_kw ?_ h1 h2
  rw [h1]
  refine Calls.spliced_cons (thn (he pins s σ H _ I h) fun u s1 ⟨x,H1,I1,rx,q1⟩=>?_)
  obtain ⟨p,ns,rfl,hq,q0,qm⟩:=q1
  cases rx
  refine Calls.spliced_nil ?_
  refine kws_cons (wpAny_Constant_int ?_)
  refine kws_nil ?_
  show wpAny _ _ (call (.builtin "min") [.ref p] [(Str.ofString "default",.int d _)]) _ _ _
  obtain ⟨its,r1,p1,hz⟩:=I1.list hq
  have hi:IntsAre its ns:=intsAre_of r1
  obtain ⟨ys,hx⟩:=hi.allInts.items
  have hl':s1.heap.IsList p (intItems ys):=hx ▸ p1.isList
  have hns:ns=ys.toList.map (·.1):=by
    rw [← nums_intItems,← hx]
    exact (show numsOf its.toArray.toList=ns from hi.numsOf).symm
  have nm:(toString "min"++toString ".loop":String)="min.loop":=by decide
  have hys:(intItems ys).size=ns.length:=by rw [hns];simp [intItems]
  refine kmb_tree F.kind_min F.plain_min F.entry_min (BR _ _) ?_
  show wpAny _ _ (Builtin.Builtins.bindParams "min" ["key","default"] 0 ⟨[],[(Str.ofString "default",.int d s1.toks)]⟩ >>= _) _ _ _
  refine wpAny_bind (wpAny_of_eq (show Builtin.Builtins.bindParams "min" ["key","default"] 0 ⟨[],[(Str.ofString "default",.int d s1.toks)]⟩=pure [none,some (.int d s1.toks)] from rfl) ?_)
  refine wpAny_bind (wpAny_pure ?_)
  refine wpAny_bind (iter_intList (s:={ s1 with toks:=s1.toks + 1 }) hl' fun s₂ e st hfp hlI=>?_)
  subst e
  refine wpAny_bind (wpAny_newObj_type ?_);rw [nm]
  have kept:∀ {h':Heap} {g:Heap} {S:Addr},(∀ b o,s1.heap.get? b=some o→g.get? b=some o)→S=s1.heap.objs.size + 1→(∀ b o,b ∉ [s1.heap.objs.size]→b≠S→g.get? b=some o→h'.get? b=some o)→∀ b o,s1.heap.get? b=some o→h'.get? b=some o:=fun hg hS hk b o e=>by
    have lt:=Heap.lt_size e
    refine hk b o (fun z=>?_) (fun z=>?_) (hg b o e)
    · rw [List.mem_singleton.mp z] at lt;exact Nat.lt_irrefl _ lt
    · rw [z,hS] at lt;exact absurd lt (by simp only [Addr] at lt ⊢;omega)
  have hg2:∀ b o,s1.heap.get? b=some o→((s1.heap.push { cls:=.type "list_iterator",data:=.fields #[.ref p,.int 0 0] }).push { cls:=.type "list",data:=.seq #[] }).get? b=some o:=fun b o e=>Heap.get?_push_of_some _ (Heap.get?_push_of_some _ e)
  have hsz:(s1.heap.push { cls:=.type "list_iterator",data:=.fields #[.ref p,.int 0 0] }).objs.size=s1.heap.objs.size + 1:=Heap.size_push ..
  refine wpAny_pure ⟨plainId_quiet F.plain_min_loop _,BP (Walks.list (A:=X.A.in1) (I.ok.hd hcalm) _ p hlI (intItems ys)) _ (CmpOf.ints_lt (numAt ys) (fun _ _=>intItems_at)) _ (fun hm=>Nat.lt_irrefl _ (hfp _ hm)) (.int d s1.toks) _ 0 _ #[] _ rfl (Nat.zero_le _)
    ⟨Heap.IsListIter.at st.1 fun o e=>Heap.get?_push_of_some _ e,st.2.push _⟩ (.inl ⟨rfl,rfl⟩) (Heap.get?_push_size _ rfl) (fun h0 h' tk hk=>?_) fun v h' tk hn hP hk=>?_⟩
  · have e0:ns=[]:=List.length_eq_zero_iff.mp (by rw [← hys];exact h0)
    exact ⟨.int d,H1,I1.kept (t':=tk) (kept hg2 hsz hk),⟨_,rfl⟩,q0 e0⟩
  · obtain ⟨t,rfl⟩:=intItems_at hP
    obtain ⟨h1,h2⟩:=argBest_lt (numAt ys) ((intItems ys).size - 1)
    have hyz:(intItems ys).size=ys.size:=by simp [intItems]
    refine ⟨.int _,H1,I1.kept (t':=tk) (kept hg2 hsz hk),⟨t,rfl⟩,qm _ ?_ fun a ha=>?_⟩
    · rw [hns,numAt_eq];exact getD_mem (by rw [List.length_map,Array.length_toList];omega)
    · rw [hns] at ha
      obtain ⟨j,hj,rfl⟩:=mem_getD ha
      rw [List.length_map,Array.length_toList] at hj
      rw [← numAt_eq];exact h2 j (by omega)
end
end L2
namespace L2
open PySem PySem.Spec PyProof.Rows
section
variable {κ:Type} [DecidableEq κ]
def vA (kvs:List (κ × V)) (k:κ):Option V:=(kvs.find? fun kv=>decide (kv.1=k)).map (·.2)
def putK (kvs:List (κ × V)) (k:κ) (v:V):List (κ × V) :=
  if (kvs.any fun kv=>decide (kv.1=k))=true then kvs.map (fun kv=>if kv.1=k then (kv.1,v) else kv) else kvs++[(k,v)]
theorem wV {p:κ × V} {r:List (κ × V)} {k:κ} (e:p.1=k):vA (p :: r) k=some p.2:=by simp [vA,List.find?_cons,e]
theorem wW {p:κ × V} {r:List (κ × V)} {k:κ} (e:¬ p.1=k):vA (p :: r) k=vA r k:=by simp [vA,List.find?_cons,e]
theorem wX (k:κ):∀ kvs:List (κ × V),(kvs.any fun kv=>decide (kv.1=k))=(vA kvs k).isSome
  | []=>rfl
  | p :: r=>by
    rw [List.any_cons]
    by_cases e:p.1=k
    · simp only [wV e,decide_eq_true e,Bool.true_or,Option.isSome_some]
    · rw [wW e,decide_eq_false e,Bool.false_or];exact wX k r
theorem wB (kvs:List (κ × V)) (k:κ) (v:V):(putK kvs k v).length≤kvs.length + 1:=by
  unfold putK
  split
  · rw [List.length_map];omega
  · rw [List.length_append,List.length_cons,List.length_nil];omega
theorem Ef {kvs:List (κ × V)} {k:κ} (v:V) (h:vA kvs k=none):putK kvs k v=kvs++[(k,v)]:=by
  unfold putK
  rw [wX,h]
  exact if_neg (by decide)
theorem KV.val {kvs:List (κ × V)} {vs:List (κ × Value)} (r:KV kvs vs) (k:κ):Vt (vA kvs k) (valueAt vs k):=by
  unfold KV at r
  induction r with
  | nil=>exact True.intro
  | @cons p q ps qs h t ih =>
    obtain ⟨h1,h2⟩:=h
    by_cases e:p.1=k
    · have e':q.1=k:=h1.symm.trans e
      have b:valueAt (q :: qs) k=some q.2:=by simp [valueAt,List.find?_cons,e']
      rw [wV e,b];exact h2
    · have e':¬ q.1=k:=fun z=>e (h1.trans z)
      have b:valueAt (q :: qs) k=valueAt qs k:=by simp [valueAt,List.find?_cons,e']
      rw [wW e,b];exact ih
theorem KV.any {kvs:List (κ × V)} {vs:List (κ × Value)} (r:KV kvs vs) (k:κ):(kvs.any fun kv=>decide (kv.1=k))=vs.any fun kv=>decide (kv.1=k):=by
  unfold KV at r
  induction r with
  | nil=>rfl
  | cons h t ih=>rw [List.any_cons,List.any_cons,ih,h.1]
theorem KV.repl {kvs:List (κ × V)} {vs:List (κ × Value)} (r:KV kvs vs) (k:κ) {y:V} {u:Value} (ry:RelV y u) :
    KV (kvs.map fun kv=>if kv.1=k then (kv.1,y) else kv) (vs.map fun kv=>if kv.1=k then (kv.1,u) else kv):=by
  unfold KV at r ⊢
  induction r with
  | nil=>exact .nil
  | @cons p q ps qs h t ih =>
    rw [List.map_cons,List.map_cons]
    refine .cons ?_ ih
    obtain ⟨h1,h2⟩:=h
    by_cases e:p.1=k
    · rw [if_pos e,if_pos (h1.symm.trans e)];exact ⟨h1,ry⟩
    · rw [if_neg e,if_neg (fun z=>e (h1.trans z))];exact ⟨h1,h2⟩
theorem KV.put {kvs:List (κ × V)} {vs:List (κ × Value)} (r:KV kvs vs) (k:κ) {y:V} {u:Value} (ry:RelV y u):KV (putK kvs k y) (stored vs k u):=by
  unfold putK stored
  rw [r.any k]
  by_cases e:(vs.any fun kv=>decide (kv.1=k))=true
  · rw [if_pos e,if_pos e];exact r.repl k ry
  · rw [if_neg e,if_neg e];exact Paired.snoc r ⟨rfl,ry⟩
theorem KV.length {kvs:List (κ × V)} {vs:List (κ × Value)} (r:KV kvs vs):kvs.length=vs.length:=Paired.length r
end
theorem Q0 {P:Program} {w:World} {k:Key} {u:Value} (r:RelV (kV k) u):(gA P w).is k u=true:=by
  cases k with
  | inl i=>obtain ⟨t,e⟩:=(show ∃ t,u=Value.int i t from r);subst e;exact wz P w i t
  | inr x=>obtain ⟨t,e⟩:=(show ∃ t,u=Value.str x t from r);subst e;exact wu P w x t
theorem uM {P:Program} {w:World}:∀ {ks:List Key} {us:List Value},Vals (ks.map kV) us→ItemsAre (gA P w) ks us
  | [],_,r=>by rw [List.map_nil] at r;cases r;exact .nil
  | k :: ks,_,r=>by
    rw [List.map_cons] at r
    cases r with
    | cons h t=>exact .cons (Q0 h) (uM t)
abbrev KT (H:Hp):List (List Key × V)→List (List Key × Addr × Value)→Prop:=Paired fun p q=>p.1=q.1∧H q.2.1=some (.tup (p.1.map kV))∧RelV p.2 q.2.2
section
variable {P:Program} {w:World} {H:Hp} {h:Heap} {a:Addr}
theorem PX {u:HO} (ok:HOk P w H h) (e:Rd H a u):gB P w H h a u:=e.ok ok
theorem N7 {kvs:List (Key × V)} (ok:HOk P w H h) (e:Rd H a (.dK kvs)):kvs.length≤sizeLine∧(a == sysModules)=false∧∃ vs,KV kvs vs∧h.DictOf (gA P w) a vs :=
  show gB P w H h a (.dK kvs) from PX ok e
theorem X5 {kvs:List (Key × V)} (ok:HOk P w H h) (e:H a=some (.dK kvs)):kvs.length≤sizeLine∧(a == sysModules)=false∧∃ vs,KV kvs vs∧h.DictOf (gA P w) a vs:=N7 ok (.inl e)
theorem QW {ks:List Key} (ok:HOk P w H h) (e:H a=some (.tup (ks.map kV))):(tupleKind (gA P w)).is h ks a:=by
  obtain ⟨_,its,r,o,h1,h2,n,h3⟩:=(show gB P w H h a (.tup (ks.map kV)) from ok a _ e)
  exact ⟨o,its.toArray,n,h1,h2,h3,by simpa using uM r⟩
theorem X4 {kvs:List (List Key × V)} (ok:HOk P w H h) (e:Rd H a (.dT kvs)):kvs.length≤sizeLine∧(a == sysModules)=false ∧
    ∃ xs,KT H kvs xs∧h.DictOfH (tupleKind (gA P w)) a xs:=by
  obtain ⟨z,y,xs,r,o,es,ep,h1,h2,h3,h4,h5⟩:=(show gB P w H h a (.dT kvs) from PX ok e)
  refine ⟨z,y,xs,r,o,es,ep,h1,h2,h3,h4,fun x hx=>?_,h5⟩
  have all:∀ {l:List (List Key × V)} {m:List (List Key × Addr × Value)},KT H l m→∀ x∈m,(tupleKind (gA P w)).is h x.1 x.2.1:=by
    intro l m q
    induction q with
    | nil=>intro x hx;exact nomatch hx
    | @cons p q ps qs hq t ih =>
      intro x hx
      rcases List.mem_cons.mp hx with e | hx
      · subst e
        exact QW ok (by rw [← hq.1];exact hq.2.1)
      · exact ih x hx
  exact all r x hx
end
section
variable {X:Cx} {pins:List (Addr × Obj)} {σ:St} {H:Hp} {s:Shared} {a:Addr} {y v:V} {u r:Value} {o:Option V} {A:Around} {E:Value→Shared→Prop}
theorem Inv.big (I:Inv X pins σ H s):sysModules<s.heap.objs.size:=by
  have h:mainGlobals<s.heap.objs.size:=(I.mod.glob.keeps I.bk).lt
  exact Nat.lt_trans (by decide) h
theorem N8 {h':Heap} {t':Nat} {ob:HO} (I:Inv X pins σ H s) (mu:Mut (H a)) (hs:Heap.SameBut a s.heap h') (he:∃ q,h'.get? a=some q) (new:gB X.prog X.w (upd H a ob) h' a ob) :
    Inv X pins σ (upd H a ob) { s with heap:=h',toks:=t' } :=
  I.write (x:=a) (e:=a) mu (.inl rfl) (fun b q hb z=>(hs.2 b hb).trans z) he new
theorem Vc {P:Program} {w:World} {H':Hp} {h':Heap} {kvs:List (Key × V)} {vs:List (Key × Value)} (z:kvs.length≤sizeLine) (hd:(a == sysModules)=false) (rel:KV kvs vs) (dd:h'.DictOf (gA P w) a vs) :
    gB P w H' h' a (.dK kvs):=⟨z,hd,vs,rel,dd⟩
end
section
variable {X:Cx} {pins:List (Addr × Obj)} {σ:St} {H:Hp} {s:Shared} {a:Addr} {kvs:List (Key × V)} {k:Key} {u:Value} {A:Around} {E:Value→Shared→Prop}
end
section
variable {X:Cx} {o i e value:Expr} {pos pos' tpos:Pos} {td ty tv:TE}
end
theorem Fy {P:Program} {w:World} {H:Hp} (h:Heap) (hb:sysModules<h.objs.size):gB P w H (h.push { cls:=.type "dict",data:=.dict #[] }) h.objs.size (.dK []) :=
  ⟨Nat.zero_le _,beq_eq_false_iff_ne.mpr (Ne.symm (Nat.ne_of_lt hb)),[],.nil,Heap.DictOf.new h⟩
def Pb:TE:=fun _ H Q=>∀ p,H p=none→Q (.ref p) (upd H p (.dK []))
section
variable {X:Cx} {pos:Pos}
theorem Ei:PE X (.Dict [] [] pos) Pb:=fun pins s σ H Q I h =>
  wpAny_Dict_empty ⟨.ref s.heap.objs.size,_,I.laid (a:=s.heap.objs.size) (o:=.dK []) (t':=s.toks) (fun _ _ q=>Heap.get?_push_of_some _ q) (Nat.le_refl _) (Fy s.heap I.big),rfl,h _ (I.hok.fresh (Nat.le_refl _))⟩
end
abbrev VV:List (V × V)→List (Value × Value)→Prop:=Paired fun p q=>RelV p.1 q.1∧RelV p.2 q.2
structure M2 (X:Cx) (o:Expr) (m:Str) (apos:Pos) (e f:Expr) (cpos:Pos):Prop where
  base:attributeBase o m X.env (eval o X.env)=eval o X.env
  few:((backTo cpos (starEach [e,f] X.env)).all (fun x=>!x.1) && (backToKw cpos (keywordEach [] X.env)).all (fun x=>x.1.isSome)
    && decide (([e,f]:List Expr).length + ([]:List Keyword).length + (if ([]:List Keyword).isEmpty then 0 else 1)<30))=true
  line:(apos.endLine == cpos.line)=true
  trees:backTo cpos (starEach [e,f] X.env)=[(false,eval e X.env),(false,eval f X.env)]
def IsD (H:Hp) (a:Addr):Prop:=(∃ kvs,Rd H a (.dK kvs))∨∃ kvs,Rd H a (.dT kvs)
theorem GX {X:Cx} {pins:List (Addr × Obj)} {σ:St} {H:Hp} {s:Shared} {a:Addr} (I:Inv X pins σ H s) (d:IsD H a) :
    s.TypeIs (.ref a) "dict"∧(∀ b,Value.ref a=.ref b→∃ ob,s.heap.get? b=some ob∧ob.dict=none)∧(a == sysModules)=false:=by
  rcases d with ⟨kvs,e⟩ | ⟨kvs,e⟩
  · obtain ⟨_,hd,vs,_,dd⟩:=N7 I.hok e
    refine ⟨dd.typeIs,fun b q=>?_,hd⟩
    cases q
    obtain ⟨ob,_,_,h1,h2,_⟩:=dd
    exact ⟨ob,h1,h2.2.1⟩
  · obtain ⟨_,hd,xs,_,dd⟩:=X4 I.hok e
    refine ⟨dd.typeIs,fun b q=>?_,hd⟩
    cases q
    obtain ⟨ob,_,_,h1,h2,_⟩:=dd
    exact ⟨ob,h1,h2.2.1⟩
section
variable {X:Cx} {pins:List (Addr × Obj)} {σ:St} {H:Hp} {s:Shared} {a:Addr} {y d:V} {u r:Value} {o:Option V} {A:Around} {E:Value→Shared→Prop}
end
section
variable {X:Cx} {o e f:Expr} {apos cpos:Pos} {td ty tx:TE}
end
end L2
namespace L2
open PySem PySem.W PySem.Spec PyProof.Rows
def VF (td ty tx:TE):TE:=fun σ H Q=>td σ H fun x H1=>∃ a,x=.ref a∧IsD H1 a∧ty σ H1 fun y H2=>tx σ H2 fun z H3=>∃ kvs k,H3 a=some (.dK kvs)∧y=kV k∧kvs.length<sizeLine ∧
  (∀ v,vA kvs k=some v→Q v H3)∧(vA kvs k=none→Q z (upd H3 a (.dK (putK kvs k z))))
section
variable {X:Cx} {o e f:Expr} {apos cpos:Pos} {td ty tx:TE}
theorem Nb (ho:PE X o td) (he:PE X e ty) (hf:PE X f tx) (m:M2 X o "setdefault" apos e f cpos):PE X (.Call (.Attribute o "setdefault" apos) [e,f] [] cpos) (VF td ty tx):=by
  intro pins s σ H Q I h
  refine wpAny_Call_method m.base m.few m.line PySem.F.plainAttrs_dict PySem.F.slot_dict_setdefault PySem.F.type_dict_setdefault (thn (ho pins s σ H _ I h) fun u s1 ⟨x,H1,I1,rx,a,ex,d,q1⟩=>?_)
  subst ex
  obtain rfl:u=Value.ref a:=rx
  obtain ⟨t1,t2,_⟩:=GX I1 d
  refine ⟨t1,t2,?_⟩
  rw [m.trees]
  refine Calls.callWith_builtin rfl (Calls.evalArgs_plain (Calls.spliced_cons (thn (he pins s1 σ H1 _ I1 q1) fun iv s2 ⟨y,H2,I2,ry,q2⟩ =>
    Calls.spliced_cons (thn (hf pins s2 σ H2 _ I2 q2) fun fv s3 ⟨z,H3,I3,rz,kvs,k,ea,ey,hl,q3,q4⟩=>Calls.spliced_nil ?_))))
  subst ey
  obtain ⟨z1,hd,vs,rel,dd⟩:=X5 I3.hok ea
  have rv:=rel.val k
  have hlen:=rel.length
  refine call_meetsIn PySem.F.slot_dict_setdefault dd.typeIs PySem.F.entry_dict_setdefault (PySem.F.args_dict_setdefault_3 _ _ _) (kt_meets_setdefault (gA X.prog X.w) a (Q0 ry) hd fv) ⟨vs,dd,by omega,fun v hv=>?_,fun hn h' dd' hs=>?_⟩
  · rw [hv] at rv
    cases l:vA kvs k with
    | none=>rw [l] at rv;cases rv
    | some v'=>rw [l] at rv;exact ⟨v',H3,I3.tok _,rv,q3 v' l⟩
  · rw [hn] at rv
    cases l:vA kvs k with
    | some v'=>rw [l] at rv;cases rv
    | none=>exact ⟨z,_,N8 I3 (by rw [ea];trivial) hs (by obtain ⟨ob,es,ep,he',_⟩:=dd';exact ⟨ob,he'⟩) (Vc (Nat.le_trans (wB _ _ _) hl) hd (rel.put k rz) dd'),rz,q4 l⟩
end
def zZ (td:TE):TE:=fun σ H Q=>td σ H fun x H1=>∃ a kvs,x=.ref a∧Rd H1 a (.dK kvs)∧∀ l,H1 l=none→Q (.ref l) (upd H1 l (.lst (kvs.map (·.2))))
theorem KV.vals {kvs:List (Key × V)} {vs:List (Key × Value)} (r:KV kvs vs):Vals (kvs.map (·.2)) (vs.map (·.2)):=by
  induction r with
  | nil=>exact .nil
  | cons h _ ih=>exact .cons h.2 ih
section
variable {X:Cx} {o:Expr} {td:TE} {p1 apos cpos pos:Pos}
theorem vY (hcalm:X.calm=true) (hgs:Gl X "list") (hms:X.mg "list"=none) (ho:PE X o td) (hb:attributeBase o "values" X.env (eval o X.env)=eval o X.env:=by rfl) (hline:(apos.endLine == cpos.line)=true:=by rfl) :
    PE X (.Call (.Name "list" p1) [.Call (.Attribute o "values" apos) [] [] cpos] [] pos) (zZ td):=by
  intro pins s σ H Q I h
  refine Call_ (lK I hgs hms boot_list (PyProof.Rows.callWith_type1 ?_ rfl rfl))
  show wpAny _ _ (spliced ((false,eval (.Call (.Attribute o "values" apos) [] [] cpos) X.env) :: [])) _ _ s
  refine Calls.spliced_cons (wpAny_Call_method hb rfl hline PySem.F.plainAttrs_dict PySem.F.slot_dict_values PySem.F.type_dict_values (thn (ho pins s σ H _ I h) fun u s1 ⟨x,H1,I1,rx,a,kvs,ex,d,q1⟩=>?_))
  subst ex
  obtain rfl:u=Value.ref a:=rx
  obtain ⟨t1,t2,_⟩:=GX I1 (.inl ⟨kvs,d⟩)
  refine ⟨t1,t2,?_⟩
  obtain ⟨hz,hd,vs,rel,dd⟩:=N7 I1.hok d
  refine Calls.callWith_builtin rfl (PyProof.Rows.evalArgs_none ?_)
  refine call_meetsIn PySem.F.slot_dict_values dd.typeIs PySem.F.entry_dict_values (PySem.F.args_dict_values_1 _) (meets_dict_values (gA X.prog X.w) a hd) ⟨⟨vs,dd⟩,?_⟩
  refine Calls.spliced_nil ?_
  obtain ⟨ep,da⟩:=dd.dictAt
  have hlen:=rel.length
  have hsz:(s1.heap.push { cls:=.type "dict_values",data:=.fields #[.ref a] }).objs.size=s1.heap.objs.size + 1:=Heap.size_push ..
  refine kdl_call (kdl_values (knd:=gA X.prog X.w) (r:=s1.heap.objs.size) (d:=a) (kvs:=vs) (ep:=ep)) (I.ok.hd hcalm) ⟨⟨_,Heap.get?_push_size _ rfl,rfl,rfl⟩,da.push _⟩ (by omega) fun h' tk acc c hk hS hacc=>?_
  have e:acc.toList=vs.map (·.2):=kdl_vals_eq acc.toList (by rw [Array.length_toList];exact hacc.1) fun j v ej=>hacc.2 j v (by rw [← Array.getElem?_toList];exact ej)
  refine ⟨.ref (s1.heap.push { cls:=.type "dict_values",data:=.fields #[.ref a] }).objs.size,_,I1.laid (t':=tk) (fun b o e=>hk b o (Heap.get?_push_of_some _ e)) (by rw [hsz];exact Nat.le_succ _)
    (show gB X.prog X.w _ h' _ (.lst (kvs.map (·.2))) from ⟨by rw [List.length_map];exact hz,acc.toList,c,by rw [e];exact rel.vals,by simpa using hS⟩),rfl,q1 _ (I1.hok.fresh (by rw [hsz];exact Nat.le_succ _))⟩
end
end L2
namespace L2
open PySem PySem.W PySem.Spec PyProof.Rows
section
variable {prog:Program} {w:World} {A:Around} {E:Value→Shared→Prop} {s:Shared}
def mid (h:Heap) (D:Addr) (vs:List Value):Heap:=((h.update D (Obj.mapSeq fun _=>(#[]:Array Value))).push (seqObj "tuple" vs.toArray 0)).push (seqObj "list" #[] 0)
theorem Eu {h:Heap} {D b:Addr} {vs:List Value} {o:Obj} (hb:h.get? b=some o) (hn:b≠D):(mid h D vs).get? b=some o :=
  Heap.get?_push_of_some _ (Heap.get?_push_of_some _ ((Heap.get?_update_other _ _ (Ne.symm hn)).trans hb))
theorem Av {D:Addr} {n0 m:Nat} {vs:List Value} {key:Nat→List Int} {κ:Nat→Int} {P:PySem.Fin→Shared→Prop} (h64:vs.length<64) (hD:s.heap.get? D=some (seqObj "list" vs.toArray n0)) (KK:Keys s.heap vs key vs.length m)
    (hκ:∀ i j,i<vs.length→j<vs.length→HT.lexLt (key i) (key j)=decide (κ i<κ j)) (hinj:Inj vs.length κ)
    (q:∀ p:List Nat,p.Perm (List.range vs.length)→p.Pairwise (fun i j=>κ i<κ j)→P (.done (.ret .none)) { s with heap:=sortedHeap s.heap D vs (p.map fun i=>vs.getD i Value.none).toArray }) :
    wpAny (model prog w) A (Builtin.«list.sort» ⟨[.ref D],[]⟩) P E s:=by
  obtain ⟨e1,h1⟩:∃ e1,(s.heap.update D (Obj.mapSeq fun _=>(#[]:Array Value))).get? D=some (seqObj "list" #[] e1):=⟨_,get?_update_seq hD fun _=>#[]⟩
  have h3:(mid s.heap D vs).get? D=some (seqObj "list" #[] e1):=Heap.get?_push_of_some _ (Heap.get?_push_of_some _ h1)
  have K3:Keys (mid s.heap D vs) vs key vs.length m:=by
    refine ⟨KK.size,fun i hi=>?_,KK.long⟩
    obtain ⟨t,its,e,⟨o,ho,hc,n,hd⟩,i1⟩:=KK.at_ i hi
    have hne:t≠D:=fun z=>by
      rw [z,hD] at ho
      have:=congrArg Obj.cls (Option.some.inj ho)
      rw [hc] at this
      exact absurd (show Value.type "list"=Value.type "tuple" from this) (by decide)
    exact ⟨t,its,e,⟨o,Eu ho hne,hc,n,hd⟩,i1⟩
  have fin:∀ (st:SortSt) (p:List Nat),(arrOf st).map (·.2)=List.toArray (p.map fun i=>vs.getD i Value.none)→p.Perm (List.range vs.length)→p.Pairwise (fun i j=>κ i<κ j) →
      P (.done (.ret .none)) { s with heap:=(mid s.heap D vs).update D (Obj.mapSeq fun _=>(arrOf st).map (·.2)) }:=by
    intro st p e a b
    rw [e];exact q p a b
  rw [list_sort_plain]
  refine wpAny_bind (listItems_at hD rfl ?_)
  refine wpAny_bind (listUpdate_at hD rfl ?_ (by rw [List.size_toArray,sizeLine_eq];omega) (Nat.zero_le _))
  refine wpAny_bind (seqEpoch_at h1 rfl ?_)
  refine wpAny_bind (wpAny_newTuple ?_ (by show vs.length≤_;rw [sizeLine_eq];omega))
  refine wpAny_bind (wpAny_newList ?_ (Nat.zero_le _))
  refine wpAny_holding ?_
  show wpAny (model prog w) A _ P E { s with heap:=mid s.heap D vs }
  dsimp only
  by_cases h2:vs.length<2
  · have z2:vs.toArray.size<2:=by rw [List.size_toArray];omega
    rw [if_pos z2,if_pos z2]
    refine wpAny_bind (wpAny_pure ?_)
    rw [StateT.run_pure]
    refine wpAny_bind (wpAny_pure ?_)
    dsimp only
    refine wpAny_bind (seqEpoch_at h3 rfl ?_)
    refine wpAny_bind (listUpdate_at h3 rfl ?_ (Nat.zero_le _) (by rw [Array.size_map];show (vs.toArray.zip vs.toArray).size≤_;rw [Array.size_zip,List.size_toArray,sizeLine_eq];omega))
    simp only [Bool.false_eq_true,bne_self_eq_false,if_false]
    refine wpAny_pure (fin (SortSt.mk' general' (vs.toArray.zip vs.toArray) #[] 7 none) (List.range vs.length) ?_ (List.Perm.refl _) ?_)
    · show (vs.toArray.zip vs.toArray).map (·.2)=_
      apply Array.toList_inj.mp
      rw [Array.toList_map,Array.toList_zip,List.toList_toArray,List.map_snd_zip (Nat.le_refl _)]
      apply List.ext_getElem?
      intro j
      rw [List.getElem?_map]
      by_cases hj:j<vs.length
      · rw [List.getElem?_range hj]
        show _=some (vs.getD j Value.none)
        rw [List.getD_eq_getElem?_getD,List.getElem?_eq_getElem hj];rfl
      · rw [List.getElem?_eq_none (by omega),List.getElem?_eq_none (by rw [List.length_range];omega)];rfl
    · match hx:vs.length,h2 with
      | 0,_=>exact List.Pairwise.nil
      | 1,_=>exact List.pairwise_singleton _ _
  · have z2:¬ vs.toArray.size<2:=by rw [List.size_toArray];omega
    rw [if_neg z2,if_neg z2]
    obtain ⟨fs,kt,kl,kv⟩:=K3.tups (s:={ s with heap:=mid s.heap D vs })
    refine wpAny_bind (kat_kind kt (by omega) (fun v hv=>by obtain ⟨a,t,rfl⟩:=kv v hv;exact Looks.of_pure rfl) (T:=.type "int") (by decide) ?_)
    have ett:(Value.type "int" != Value.type "tuple")=true:=by decide
    rw [ett]
    have run:=kat_run (prog:=prog) (w:=w) (A:=A) (E:=E) (s:={ s with heap:=mid s.heap D vs }) (κ:=tuples' true) (ks:=vs) (vs:=vs)
      (Q:=fun st' s'=>s'={ s with heap:=mid s.heap D vs }∧∃ p:Array Nat,arrOf st'=p.map (kas_item (vs.toArray.zip vs.toArray))∧failedOf st'=none∧Arr vs.length p∧Srt κ p vs.length)
      (G:=fun p s'=>s'={ s with heap:=mid s.heap D vs }∧Arr vs.length p∧Srt κ p vs.length) rfl (by omega) (by omega) (fun p st' s' _ b c ⟨d,a1,a2⟩=>⟨d,p,b,c,a1,a2⟩)
      (tU (N:=vs.length) (Keys.cmp (s:={ s with heap:=mid s.heap D vs }) (prog:=prog) (w:=w) (A:=A) K3 hκ) hinj (by omega) (Q:=fun p s'=>s'={ s with heap:=mid s.heap D vs }∧Arr vs.length p∧Srt κ p vs.length) rfl fun p s' a b c=>⟨c,a,b⟩)
    refine wpAny_bind (wpAny_mono run ?_ fun _ _ x=>x)
    rintro ⟨⟨⟩,st'⟩ s5 ⟨rfl,p,har,hf,AR,SR⟩
    dsimp only
    have hout:=kat_snds rfl har
    refine wpAny_bind (seqEpoch_at h3 rfl ?_)
    refine wpAny_bind (listUpdate_at h3 rfl ?_ (Nat.zero_le _) (by show ((arrOf st').map (·.2)).size≤_;rw [hout,List.size_toArray,List.length_map,Array.length_toList,AR.size,sizeLine_eq];omega))
    rw [hf]
    simp only [Bool.false_eq_true,bne_self_eq_false,if_false]
    obtain ⟨p2,e1,_,e3⟩:=ur (xs:=vs.map fun _=>V.non) (κ:=κ) (p:=p) (by rw [List.length_map];exact AR) (by rw [List.length_map];exact SR)
    refine wpAny_pure (fin st' p.toList hout AR.perm ?_)
    rw [List.pairwise_iff_getElem]
    intro i j hi hj hij
    have hj':j<vs.length:=by rw [Array.length_toList,AR.size] at hj;exact hj
    have g1:=AR.get (show i<vs.length by omega)
    have g2:=AR.get hj'
    rw [List.getElem?_eq_getElem hi] at g1
    rw [List.getElem?_eq_getElem hj] at g2
    rw [Option.some.inj g1,Option.some.inj g2]
    exact SR i j hij hj'
theorem vQ {l:Addr} {m:Nat} {vs:List Value} {key:Nat→List Int} {κ:Nat→Int} {Q:Value→Shared→Prop} (hl:s.heap.IsList l vs.toArray) (h64:vs.length<64) (KK:Keys s.heap vs key vs.length m)
    (hκ:∀ i j,i<vs.length→j<vs.length→HT.lexLt (key i) (key j)=decide (κ i<κ j)) (hinj:Inj vs.length κ)
    (q:∀ p:List Nat,p.Perm (List.range vs.length)→p.Pairwise (fun i j=>κ i<κ j)→Q (.ref (s.heap.objs.size + 1)) { s with heap:=sortedAll s.heap vs (p.map fun i=>vs.getD i Value.none).toArray }) :
    wpAny (model prog w) A (call (.builtin "sorted") [.ref l]) Q E s:=by
  refine Calls.call_function_entry kind_sorted plain_sorted entry_sorted (args_sorted1 _) ?_
  unfold Builtin.«sorted»
  refine wpAny_bind (m:=checkCount "sorted" 1 1 _) (wpAny_pure ?_)
  refine wpAny_bind (collect_list hl ?_ (by rw [sizeLine_eq];omega))
  refine wpAny_bind (wpAny_newList ?_ (by rw [sizeLine_eq];omega))
  have hz:((s.heap.push (seqObj "list" #[] 0)).update s.heap.objs.size (Obj.mapSeq (·++vs.toArray))).objs.size=s.heap.objs.size + 1:=by rw [Heap.size_update,size_push']
  have hL:(((s.heap.push (seqObj "list" #[] 0)).update s.heap.objs.size (Obj.mapSeq (·++vs.toArray))).push (seqObj "list" vs.toArray 0)).get? (s.heap.objs.size + 1)=some (seqObj "list" vs.toArray 0):=by rw [← hz];exact Heap.get?_push_size _ rfl
  have kp:∀ b o,s.heap.get? b=some o→(((s.heap.push (seqObj "list" #[] 0)).update s.heap.objs.size (Obj.mapSeq (·++vs.toArray))).push (seqObj "list" vs.toArray 0)).get? b=some o:=fun b o z=>by
    have hlt:b<s.heap.objs.size:=Heap.lt_size z
    exact Heap.get?_push_of_some _ ((Heap.get?_update_other _ _ (Ne.symm (Nat.ne_of_lt hlt))).trans (Heap.get?_push_of_some _ z))
  show wpAny _ _ _ _ _ { s with heap:=((s.heap.push (seqObj "list" #[] 0)).update s.heap.objs.size (Obj.mapSeq (·++vs.toArray))).push (seqObj "list" vs.toArray 0) }
  rw [hz]
  refine wpAny_bind (wpAny_holding (wpAny_call_entry slot_list_sort ⟨_,hL,rfl⟩ entry_list_sort (Av h64 hL ⟨KK.size,fun i hi=>?_,KK.long⟩ hκ hinj fun p a b=>⟨_,rfl,?_⟩) (args_list_sort _)))
  · obtain ⟨t,its,e,⟨o,ho,hc,n,hd⟩,i1⟩:=KK.at_ i hi
    exact ⟨t,its,e,⟨o,kp _ _ ho,hc,n,hd⟩,i1⟩
  · exact wpAny_pure ⟨_,rfl,q p a b⟩
end
section
variable {X:Cx}
def dPr (z:Int × Int):PyData:=dTup [z.1,z.2]
theorem lex2 (a b c d:Int) (hb:0≤b∧b<64) (hd:0≤d∧d<64):HT.lexLt [a,b] [c,d]=decide (a * 64 + b<c * 64 + d):=by
  rw [HT.iJ]
  by_cases h:a=c
  · rw [if_pos h,HT.iJ]
    by_cases h':b=d
    · rw [if_pos h',show HT.lexLt [] []=false from rfl]
      exact (decide_eq_false (by omega)).symm
    · rw [if_neg h']
      exact decide_eq_decide.mpr (by omega)
  · rw [if_neg h]
    exact decide_eq_decide.mpr (by omega)
theorem bM.Gz {K:PySem.W.Frag} {H:Hp} {xs:List V} {ps:List (Int × Int)} {i:Nat} {x:V} (h:bM K H xs (ps.map dPr)) (hx:xs[i]?=some x):∃ a z,x=.ref a∧ps[i]?=some z∧SqT K H a [.int z.1,.int z.2]:=by
  obtain ⟨d,hd,hv⟩:=h.get' hx
  rw [List.getElem?_map] at hd
  cases hp:ps[i]? with
  | none=>rw [hp] at hd;cases hd
  | some z =>
    rw [hp] at hd
    have e:dPr z=d:=Option.some.inj hd
    subst e
    obtain ⟨a,rfl,hT⟩:=(show Den K H x (dTup [z.1,z.2]) from hv).zX
    exact ⟨a,z,rfl,rfl,hT⟩
theorem Bm {α:Type} {ps:List α} {d:α} {q:List Nat} (h:q.Perm (List.range ps.length)):(q.map fun i=>ps.getD i d).Perm ps:=by
  have e:(List.range ps.length).map (fun i=>ps.getD i d)=ps:=by
    apply List.ext_getElem?
    intro j
    rw [List.getElem?_map]
    by_cases hj:j<ps.length
    · rw [List.getElem?_range hj]
      show some (ps.getD j d)=_
      rw [List.getD_eq_getElem?_getD,List.getElem?_eq_getElem hj];rfl
    · rw [List.getElem?_eq_none (l:=ps) (by omega),List.getElem?_eq_none (by rw [List.length_range];omega)];rfl
  have:=h.map fun i=>ps.getD i d
  rw [e] at this;exact this
theorem bM.pick {K:PySem.W.Frag} {H:Hp} {us:List V} {ps:List (Int × Int)} (h:bM K H us (ps.map dPr)):∀ (q:List Nat),(∀ i∈q,i<ps.length)→bM K H (q.map fun i=>us.getD i .non) ((q.map fun i=>ps.getD i (0,0)).map dPr)
  | [],_=>.nil
  | i :: q,hq=>by
    have hi:=hq i List.mem_cons_self
    obtain ⟨v,e1,e2⟩:=h.get (i:=i) (d:=dPr (ps.getD i (0,0))) (by rw [List.getElem?_map,List.getElem?_eq_getElem hi,List.getD_eq_getElem?_getD,List.getElem?_eq_getElem hi];rfl)
    refine .cons ?_ (bM.pick h q fun j hj=>hq j (List.mem_cons_of_mem _ hj))
    show Den K H (us.getD i .non) _
    rw [List.getD_eq_getElem?_getD,e1];exact e2
theorem uP:oJ X (.builtin "sorted") (fun xs H Q=>∃ (p:Addr) (us:List V) (ps:List (Int × Int)),xs=[.ref p]∧SqL X.K H p us∧bM X.K H us (ps.map dPr)∧ps.length<64∧(∀ z∈ps,0≤z.2∧z.2<64)∧(ps.map (·.2)).Nodup ∧
    ∀ (l:Addr) (q:List Nat),H l=none→q.Perm (List.range ps.length)→Q (.ref l) (upd H l (.lst (q.map fun i=>us.getD i .non)))):=by
  intro pins s σ H xs vs Q I r h
  obtain ⟨p,us,ps,rfl,hq,hd,hn,hr,hnd,q⟩:=h
  obtain ⟨u,rfl,ru⟩:=vals1 r
  cases ru
  obtain ⟨its,r1,p1,hz⟩:=I.list hq
  have hl:=r1.length
  have hul:us.length=ps.length:=by rw [hd.length,List.length_map]
  have hil:its.length=ps.length:=by omega
  have gz:∀ i,i<ps.length→ps[i]?=some (ps.getD i (0,0)):=fun i hi=>by rw [List.getD_eq_getElem?_getD,List.getElem?_eq_getElem hi];rfl
  have gb:∀ i,i<ps.length→0≤(ps.getD i (0,0)).2∧(ps.getD i (0,0)).2<64:=fun i hi=>hr _ (List.mem_of_getElem? (gz i hi))
  refine vQ (m:=1) (key:=fun i=>[(ps.getD i (0,0)).1,(ps.getD i (0,0)).2]) (κ:=fun i=>(ps.getD i (0,0)).1 * 64 + (ps.getD i (0,0)).2) p1.isList (by omega) ⟨rfl,fun i hi=>?_,fun i hi=>rfl⟩ (fun i j hi hj=>lex2 _ _ _ _ (gb i (by omega)) (gb j (by omega))) (fun i j hi hj hij=>?_) fun pp a1 a2=>?_
  · have hi2:i<us.length:=by omega
    obtain ⟨a,z,e1,e2,hT⟩:=hd.Gz (List.getElem?_eq_getElem hi2)
    obtain ⟨u,eu,ru⟩:=r1.get (List.getElem?_eq_getElem hi2)
    rw [e1] at ru
    cases ru
    obtain ⟨its2,r2,hT2,_⟩:=I.tuple hT
    have ez:z=ps.getD i (0,0):=by have:=gz i (by omega);rw [e2] at this;exact Option.some.inj this
    subst ez
    exact ⟨a,its2,eu,hT2,intsAre_of (ns:=[(ps.getD i (0,0)).1,(ps.getD i (0,0)).2]) r2⟩
  · show (ps.getD i (0,0)).1 * 64 + (ps.getD i (0,0)).2≠(ps.getD j (0,0)).1 * 64 + (ps.getD j (0,0)).2
    have b1:=gb i (by omega)
    have b2:=gb j (by omega)
    have hne:(ps.getD i (0,0)).2≠(ps.getD j (0,0)).2:=fun e=>by
      have g1:(ps.map (·.2))[i]?=some (ps.getD i (0,0)).2:=by rw [List.getElem?_map,gz i (by omega)];rfl
      have g2:(ps.map (·.2))[j]?=some (ps.getD j (0,0)).2:=by rw [List.getElem?_map,gz j (by omega)];rfl
      rw [e,← g2] at g1
      exact hij ((List.getElem?_inj (by rw [List.length_map];omega) hnd).mp g1)
    omega
  · obtain ⟨e,he⟩:=sortedAll_at s.heap its (pp.map fun i=>its.getD i Value.none).toArray
    have hpl:pp.length=ps.length:=by rw [a1.length_eq,List.length_range];omega
    have a1':pp.Perm (List.range ps.length):=by rw [← hil];exact a1
    exact ⟨.ref (s.heap.objs.size + 1),_,I.laid (t':=s.toks) (fun b o e=>sortedAll_old e) (Nat.le_succ _) (show gB X.prog X.w _ _ _ (.lst (pp.map fun i=>us.getD i .non)) from ⟨by rw [List.length_map,sizeLine_eq];omega,_,e,pF r1 pp (fun i hi=>by have:=List.mem_range.mp (a1'.mem_iff.mp hi);omega),he⟩),rfl,q _ _ (I.hok.fresh (Nat.le_succ _)) a1'⟩
theorem CV (xs:List V) (j:Nat):vC xs none (some (j:Int))=xs.take j:=by
  unfold vC
  rw [HT.pQ,show HT.sIx xs.length 0 none=0 from rfl,List.drop_zero,Nat.sub_zero]
  by_cases h:j≤xs.length
  · rw [Nat.min_eq_left h]
  · rw [Nat.min_eq_right (by omega),List.take_of_length_le (Nat.le_refl _),List.take_of_length_le (by omega)]
theorem bM.jQ {K:PySem.W.Frag} {H:Hp} {xs:List V} {ps:List (Int × Int × Int)} {i:Nat} {x:V} (h:bM K H xs (ps.map dMv)) (hx:xs[i]?=some x):∃ a p,x=.ref a∧ps[i]?=some p∧SqT K H a [.int p.1,.int p.2.1,.int p.2.2]:=by
  obtain ⟨d,hd,hv⟩:=h.get' hx
  rw [List.getElem?_map] at hd
  cases hp:ps[i]? with
  | none=>rw [hp] at hd;cases hd
  | some z =>
    rw [hp] at hd
    have e:dMv z=d:=Option.some.inj hd
    subst e
    obtain ⟨a,rfl,hT⟩:=hv.GJ
    exact ⟨a,z,rfl,rfl,hT⟩
theorem getD_some {α:Type} {xs:List α} {i:Nat} {x d:α} (h:xs[i]?=some x):xs.getD i d=x:=by rw [List.getD_eq_getElem?_getD,h];rfl
abbrev oLic (l:Lic):HO:=.tup (zP l)
abbrev oInts (w:List Int):HO:=.lst (w.map V.int)
end
end L2
namespace L2
open PySem PySem.W PySem.Spec PyProof.Rows
section
variable {X:Cx}
end
end L2
namespace L2
open PySem PySem.W PySem.Spec PyProof.Rows
theorem oX {X:Cx} {K:PySem.W.Frag} (h:X.K=K):oJ X (.builtin "isinstance") (fun xs H Q=>∃ x t c b,xs=[x,.ty c]∧wK K H x t∧PySem.W.kitOne K t (.type c)=some b∧Q (.bl b) H):=h ▸ lE
end L2
namespace HT
open PySem PyProof.Rows
end HT
namespace L2
open PySem PySem.W PySem.Spec PyProof.Rows
end L2
namespace L2
open PySem PySem.W PySem.Spec PyProof.Rows
def tSl3 (r:V→Option Int→Option Int→Option Int→Hp→VK→Prop) (te:TE) (tl th ts:TO):TE:=fun σ H Q=>te σ H fun x H1=>tl σ H1 fun l H2=>th σ H2 fun u H3=>ts σ H3 fun k H4=>r x l u k H4 Q
def rSl3 (K:PySem.W.Frag):V→Option Int→Option Int→Option Int→Hp→VK→Prop:=fun x _ _ st H Q=>∃ (a:Addr) (ns:List Int),x=.ref a∧SqL K H a (ns.map V.int)∧st≠some 0∧∀ (p:Addr) (ms:List Int),H p=none→ms.length≤ns.length→Q (.ref p) (upd H p (.lst (ms.map V.int)))
theorem oM:∀ {us:List Value},(∀ u∈us,∃ i t,u=Value.int i t)→∃ ms:List Int,ms.length=us.length∧Vals (ms.map V.int) us
  | [],_=>⟨[],rfl,.nil⟩
  | u :: us,h=>by
    obtain ⟨i,t,e⟩:=h u List.mem_cons_self
    obtain ⟨ms,hl,hv⟩:=oM fun x hx=>h x (List.mem_cons_of_mem _ hx)
    exact ⟨i :: ms,by rw [List.length_cons,List.length_cons,hl],.cons ⟨t,e⟩ hv⟩
theorem oW:∀ {ns:List Int} {us:List Value},Vals (ns.map V.int) us→∀ u∈us,∃ i t,u=Value.int i t
  | [],_,r,u,hu=>by rw [List.map_nil] at r;cases r;cases hu
  | n :: ns,_,r,u,hu=>by
    rw [List.map_cons] at r
    cases r with
    | cons r1 r2 =>
      obtain ⟨t,e⟩:=r1
      rcases List.mem_cons.mp hu with z | z
      · exact ⟨n,t,by rw [z];exact e⟩
      · exact oW r2 u z
section
variable {X:Cx} {e:Expr} {te:TE} {lo hi:Option Expr} {st:Expr} {tl th ts:TO} {pos p2:Pos}
theorem Bo (he:PE X e te) (hl:PO X lo tl) (hu:PO X hi th) (hst:PO X (some st) ts):PE X (.Subscript e (.Slice lo hi (some st) p2) pos) (tSl3 (rSl3 X.K) te tl th ts):=by
  intro pins s σ H Q I h
  refine Subscript_ (thn (he pins s σ H _ I h) fun v s1 ⟨x,H1,I1,r1,q1⟩=>?_)
  refine wpAny_Slice (thn (hl pins s1 σ H1 _ I1 q1) fun vl s2 ⟨l,H2,I2,pl,q2⟩=>thn (hu pins s2 σ H2 _ I2 q2) fun vu s3 ⟨u,H3,I3,pu,q3⟩=>thn (hst pins s3 σ H3 _ I3 q3) fun vk s4 ⟨k,H4,I4,pk,q4⟩=>?_)
  have I5:Inv X pins σ H4 { s4 with heap:=s4.heap.push { cls:=.type "slice",data:=.fields #[vl,vu,vk] } }:=I4.kept (t':=s4.toks) fun b ob q=>Heap.get?_push_of_some _ q
  obtain ⟨a,ns,rfl,hx,h0,q⟩:=q4
  cases r1
  obtain ⟨its,r,ht,hz⟩:=I5.list hx
  have hlen:=r.length
  rw [List.length_map] at hlen
  have big:wpAny (model X.prog X.w) X.A (getItem (.ref a) (.ref s4.heap.objs.size)) (EP X pins σ Q) X.xe { s4 with heap:=s4.heap.push { cls:=.type "slice",data:=.fields #[vl,vu,vk] } }:=by
    refine wpAny_getItem_list_slice ht.isList (Heap.IsSliceOf.new ..) pl pu pk h0 ?_ (by rw [List.size_toArray];rw [List.length_map] at hz;omega)
    have hle:=slicePick_size_le its.toArray l u k
    obtain ⟨ms,hml,hmv⟩:=oM (us:=(slicePick its.toArray l u k).toList) fun y hy=>by
      unfold slicePick at hy
      simp only [List.mem_filterMap] at hy
      obtain ⟨i,_,hi⟩:=hy
      exact oW r y (by simpa using Array.mem_of_getElem? hi)
    have hml:ms.length=(slicePick its.toArray l u k).size:=hml.trans Array.length_toList
    have hle2:ms.length≤its.length:=by
      rw [hml]
      exact Nat.le_trans hle (Nat.le_of_eq List.size_toArray)
    clear hle hml
    refine ⟨.ref (s4.heap.push { cls:=.type "slice",data:=.fields #[vl,vu,vk] }).objs.size,_,I5.laid (t':=s4.toks) (o:=.lst (ms.map V.int)) (fun b ob q=>Heap.get?_push_of_some _ q) (Nat.le_refl _) ?_,rfl,q _ ms (I5.hok.fresh (Nat.le_refl _)) (by omega)⟩
    refine ⟨by rw [List.length_map] at hz ⊢;omega,_,0,hmv,?_⟩
    rw [Array.toArray_toList]
    exact Heap.get?_push_size _ rfl
  exact tail_any (ops:=[.ref a,.ref s4.heap.objs.size]) ht.isList.typeIs slot_list_getitem.lookup big (by with_unfolding_all rfl)
end
end L2
namespace Rv
def dJ (r:List Int):Prop:=∃ rk:Nat→Nat,(∀ i,i<r.length→rk i<r.length) ∧
  ∀ (i:Nat) (x:Int),r[i]?=some x→x=-1∨(0≤x∧x<r.length∧rk x.toNat<rk i)
def nxt (r:List Int) (p:Int):Int:=r.getD p.toNat (-1)
theorem jW {r:List Int} {p:Int} (h0:0≤p) (h1:p<r.length):r[p.toNat]?=some (nxt r p):=by
  have h:p.toNat<r.length:=by omega
  unfold nxt
  rw [List.getD_eq_getElem?_getD,List.getElem?_eq_getElem h];rfl
theorem dJ.step {r:List Int} (h:dJ r) {p:Int} (h0:0≤p) (h1:p<r.length):nxt r p=-1∨(0≤nxt r p∧nxt r p<r.length):=by
  obtain ⟨rk,_,h3⟩:=h
  rcases h3 _ _ (jW h0 h1) with e | ⟨a,b,_⟩
  · exact .inl e
  · exact .inr ⟨a,b⟩
def pC (r:List Int):Nat→Int→List Int
  | 0,_=>[]
  | f + 1,p=>if p=-1 then [] else p :: pC r f (nxt r p)
def walk (r:List Int) (p:Int):List Int:=pC r (r.length + 1) p
theorem m9 (r:List Int) (f:Nat):pC r f (-1)=[]:=by
  cases f with
  | zero=>rfl
  | succ f=>unfold pC;rw [if_pos rfl]
theorem jm (r:List Int):walk r (-1)=[]:=m9 r _
theorem oK {r:List Int} {rk:Nat→Nat} (h:∀ (i:Nat) (x:Int),r[i]?=some x→x=-1∨(0≤x∧x<r.length∧rk x.toNat<rk i)) :
    ∀ (f g:Nat) (p:Int),0≤p→p<r.length→rk p.toNat<f→rk p.toNat<g→pC r f p=pC r g p
  | 0,_,_,_,_,hf,_=>by omega
  | _ + 1,0,_,_,_,_,hg=>by omega
  | f + 1,g + 1,p,h0,h1,hf,hg=>by
    unfold pC
    rw [if_neg (by omega),if_neg (by omega)]
    rcases h _ _ (jW h0 h1) with e | ⟨a,b,c⟩
    · rw [e,m9,m9]
    · rw [oK h f g _ a b (by omega) (by omega)]
theorem dG {r:List Int} (h:dJ r) {p:Int} (h0:0≤p) (h1:p<r.length):walk r p=p :: walk r (nxt r p):=by
  obtain ⟨rk,h2,h3⟩:=h
  show pC r (r.length + 1) p=_
  unfold pC
  rw [if_neg (by omega)]
  rcases h3 _ _ (jW h0 h1) with e | ⟨a,b,c⟩
  · rw [e,m9,jm]
  · have:=h2 p.toNat (by omega)
    unfold walk
    rw [oK h3 r.length (r.length + 1) _ a b (by omega) (by omega)]
theorem tO (r:List Int):∀ (f:Nat) (p:Int),(pC r f p).length≤f
  | 0,_=>Nat.le_refl _
  | f + 1,p=>by
    unfold pC
    split
    · exact Nat.zero_le _
    · exact Nat.succ_le_succ (tO r f _)
theorem rD (r:List Int) (p:Int):(walk r p).length≤r.length + 1:=tO r _ _
theorem dJ.ind {r:List Int} (h:dJ r) {P:Int→Prop} (hm:P (-1)) (hs:∀ p:Int,0≤p→p<r.length→P (nxt r p)→P p):∀ p:Int,0≤p→p<r.length→P p:=by
  obtain ⟨rk,_,h3⟩:=h
  have key:∀ (n:Nat) (p:Int),0≤p→p<r.length→rk p.toNat<n→P p:=by
    intro n
    induction n with
    | zero=>intro p _ _ h;omega
    | succ n ih =>
      intro p h0 h1 h2
      refine hs p h0 h1 ?_
      rcases h3 _ _ (jW h0 h1) with e | ⟨a,b,c⟩
      · rw [e];exact hm
      · exact ih _ a b (by omega)
  exact fun p h0 h1=>key _ p h0 h1 (Nat.lt_succ_self _)
theorem rC {r:List Int} (h:dJ r):∀ p:Int,0≤p→p<r.length→∀ q∈walk r p,0≤q∧q<r.length:=by
  refine h.ind (P:=fun p=>∀ q∈walk r p,0≤q∧q<r.length) ?_ ?_
  · intro q hq;rw [jm] at hq;cases hq
  · intro p h0 h1 ih q hq
    rw [dG h h0 h1] at hq
    rcases List.mem_cons.mp hq with e | e
    · rw [e];exact ⟨h0,h1⟩
    · exact ih q e
noncomputable def mea (r:List Int) (p:Int):Nat:=(walk r p).length
theorem GK {r:List Int} (h:dJ r) {p:Int} (h0:0≤p) (h1:p<r.length):mea r (nxt r p)<mea r p:=by
  unfold mea;rw [dG h h0 h1];exact Nat.lt_succ_self _
theorem yM {r:List Int} (h:dJ r):∃ rk:Nat→Nat,∀ p:Int,0≤p→p<r.length→(walk r p).Nodup∧∀ q∈walk r p,rk q.toNat≤rk p.toNat:=by
  obtain ⟨rk,h2,h3⟩:=id h
  refine ⟨rk,?_⟩
  have key:=h.ind (P:=fun p=>(walk r p).Nodup∧(0≤p→∀ q∈walk r p,rk q.toNat≤rk p.toNat)) ?_ ?_
  · exact fun p h0 h1=>⟨(key p h0 h1).1,(key p h0 h1).2 h0⟩
  · rw [jm];exact ⟨List.nodup_nil,fun h=>by omega⟩
  · intro p h0 h1 ⟨nd,ih⟩
    rw [dG h h0 h1]
    rcases h3 _ _ (jW h0 h1) with e | ⟨a,b,c⟩
    · rw [e,jm]
      refine ⟨by simp,fun _ q hq=>?_⟩
      have:q=p:=by simpa using hq
      rw [this];exact Nat.le_refl _
    · have ih':=ih a
      refine ⟨List.nodup_cons.mpr ⟨fun hm=>?_,nd⟩,fun _ q hq=>?_⟩
      · have:=ih' p hm
        omega
      · rcases List.mem_cons.mp hq with e | e
        · rw [e];exact Nat.le_refl _
        · have:=ih' q e;omega
theorem vH {r:List Int} (h:dJ r) {p:Int} (h0:0≤p) (h1:p<r.length):(walk r p).Nodup:=by
  obtain ⟨rk,k⟩:=yM h
  exact (k p h0 h1).1
end Rv
namespace Rv
def tot:Nat→(Nat→Int)→Int
  | 0,_=>0
  | n + 1,f=>tot n f + f n
theorem cO {n:Nat} {f g:Nat→Int} (h:∀ i,i<n→f i=g i):tot n f=tot n g:=by
  induction n with
  | zero=>rfl
  | succ n ih=>unfold tot;rw [ih fun i hi=>h i (by omega),h n (by omega)]
theorem kj (n:Nat) (f g:Nat→Int):tot n (fun i=>f i + g i)=tot n f + tot n g:=by
  induction n with
  | zero=>rfl
  | succ n ih=>unfold tot;rw [ih];dsimp only;omega
theorem pG (n:Nat) (f g:Nat→Int):tot n (fun i=>f i - g i)=tot n f - tot n g:=by
  induction n with
  | zero=>rfl
  | succ n ih=>unfold tot;rw [ih];dsimp only;omega
theorem ig {n:Nat} {f:Nat→Int} (h:∀ i,i<n→f i=0):tot n f=0:=by
  induction n with
  | zero=>rfl
  | succ n ih=>unfold tot;rw [ih fun i hi=>h i (by omega),h n (by omega)];rfl
theorem w5 (n m:Nat) (f:Nat→Nat→Int):tot n (fun i=>tot m (fun j=>f i j))=tot m (fun j=>tot n (fun i=>f i j)):=by
  induction n with
  | zero=>exact (ig fun _ _=>rfl).symm
  | succ n ih=>show tot n _ + tot m _=_;rw [ih,← kj];rfl
theorem nZ {n k:Nat} (f:Nat→Int) (hk:k<n):tot n (fun i=>if i=k then f i else 0)=f k:=by
  induction n with
  | zero=>omega
  | succ n ih =>
    unfold tot
    dsimp only
    by_cases h:k=n
    · subst h
      rw [if_pos rfl,ig fun i hi=>if_neg (by omega)];omega
    · rw [ih (by omega),if_neg (fun (z:n=k)=>h z.symm)];omega
theorem zY (n:Nat) (c:Int) (f:Nat→Int):tot n (fun i=>c * f i)=c * tot n f:=by
  induction n with
  | zero=>simp [tot]
  | succ n ih=>unfold tot;rw [ih,Int.mul_add]
theorem MP (n:Nat) (f:Nat→Int) (p:Prop) [Decidable p]:tot n (fun i=>if p then f i else 0)=if p then tot n f else 0:=by
  by_cases h:p
  · rw [if_pos h];exact cO fun i _=>if_pos h
  · rw [if_neg h];exact ig fun i _=>if_neg h
def lsum:List Nat→(Nat→Int)→Int
  | [],_=>0
  | k :: l,f=>f k + lsum l f
theorem mH (f:Nat→Int):∀ (l m:List Nat),lsum (l++m) f=lsum l f + lsum m f
  | [],m=>by show _=0 + _;rw [Int.zero_add];rfl
  | k :: l,m=>by show f k + lsum (l++m) f=f k + lsum l f + lsum m f;rw [mH f l m];omega
theorem uK {f:Nat→Int} {l m:List Nat} (h:l.Perm m):lsum l f=lsum m f:=by
  induction h with
  | nil=>rfl
  | cons k _ ih=>show f k + _=f k + _;rw [ih]
  | swap a b l=>show f b + (f a + _)=f a + (f b + _);omega
  | trans _ _ h1 h2=>exact h1.trans h2
theorem oF (f:Nat→Int):∀ n,lsum (List.range n) f=tot n f
  | 0=>rfl
  | n + 1=>by rw [List.range_succ,mH,oF f n];show _ + (f n + 0)=_ + f n;omega
theorem uJ {f:Nat→Int}:∀ {l:List Nat},(∀ k∈l,f k=0)→lsum l f=0
  | [],_=>rfl
  | k :: l,h=>by show f k + lsum l f=0;rw [h k List.mem_cons_self,uJ fun j hj=>h j (List.mem_cons_of_mem _ hj)];rfl
def one (p:Prop) [Decidable p]:Int:=if p then 1 else 0
def lN (r s:List Int) (i:Int):Int:=tot r.length fun j=>if i∈walk r (j:Int) then s.getD j 0 else 0
theorem met {r:List Int} (h:dJ r) {i:Int} (hi:0≤i):∀ p:Int,0≤p→p<r.length→one (i∈walk r p)=one (p=i) + tot r.length fun k=>if nxt r (k:Int)=i then one ((k:Int)∈walk r p) else 0:=by
  have key:=h.ind (P:=fun p=>(p=-1∨(0≤p∧p<r.length))→one (i∈walk r p)=one (p=i) + tot r.length fun k=>if nxt r (k:Int)=i then one ((k:Int)∈walk r p) else 0) ?_ ?_
  · exact fun p h0 h1=>key p h0 h1 (.inr ⟨h0,h1⟩)
  · intro _
    rw [jm,ig fun k _=>?_]
    · unfold one;rw [if_neg (by simp),if_neg (by omega)];rfl
    · unfold one;rw [if_neg (show ¬ (k:Int)∈([]:List Int) by simp)];split <;> rfl
  · intro p h0 h1 ih _
    have ih':=ih (h.step h0 h1)
    have nd:=vH h h0 h1
    rw [dG h h0 h1] at nd ⊢
    obtain ⟨np,_⟩:=List.nodup_cons.mp nd
    have e1:one (i∈p :: walk r (nxt r p))=one (p=i) + one (i∈walk r (nxt r p)):=by
      unfold one
      by_cases hpi:p=i
      · subst hpi
        rw [if_pos List.mem_cons_self,if_pos rfl,if_neg np];rfl
      · rw [if_neg hpi]
        by_cases hm:i∈walk r (nxt r p)
        · rw [if_pos (List.mem_cons_of_mem _ hm),if_pos hm];rfl
        · rw [if_neg hm,if_neg fun z=>?_];· rfl
          rcases List.mem_cons.mp z with z | z
          · exact hpi z.symm
          · exact hm z
    have e2:(tot r.length fun k=>if nxt r (k:Int)=i then one ((k:Int)∈p :: walk r (nxt r p)) else 0) =
        one (nxt r p=i) + tot r.length fun k=>if nxt r (k:Int)=i then one ((k:Int)∈walk r (nxt r p)) else 0:=by
      have:(tot r.length fun k=>if nxt r (k:Int)=i then one ((k:Int)∈p :: walk r (nxt r p)) else 0) =
          tot r.length fun k=>(if k=p.toNat then (fun k=>if nxt r (k:Int)=i then (1:Int) else 0) k else 0) + if nxt r (k:Int)=i then one ((k:Int)∈walk r (nxt r p)) else 0:=by
        refine cO fun k hk=>?_
        by_cases hn:nxt r (k:Int)=i
        · simp only [if_pos hn]
          by_cases hkp:k=p.toNat
          · have hkp':(k:Int)=p:=by omega
            rw [if_pos hkp,hkp']
            unfold one
            rw [if_pos List.mem_cons_self,if_neg np];rfl
          · have hkp':¬ (k:Int)=p:=by omega
            rw [if_neg hkp]
            unfold one
            by_cases hm:(k:Int)∈walk r (nxt r p)
            · rw [if_pos (List.mem_cons_of_mem _ hm),if_pos hm];rfl
            · rw [if_neg hm,if_neg fun z=>?_];· rfl
              rcases List.mem_cons.mp z with z | z
              · exact hkp' z
              · exact hm z
        · simp only [if_neg hn];split <;> rfl
      rw [this,kj,nZ _ (by omega)]
      have e:((p.toNat:Nat):Int)=p:=by omega
      show (if nxt r ((p.toNat:Nat):Int)=i then (1:Int) else 0) + _=_
      rw [e];rfl
    rw [e1,e2,ih']
theorem rZ {r:List Int} (h:dJ r) (s:List Int) {i:Nat} (hi:i<r.length):lN r s (i:Int)=s.getD i 0 + tot r.length fun k=>if nxt r (k:Int)=(i:Int) then lN r s (k:Int) else 0:=by
  have e:lN r s (i:Int)=tot r.length fun j=>(if j=i then s.getD j 0 else 0) + tot r.length fun k=>if nxt r (k:Int)=(i:Int) then (if (k:Int)∈walk r (j:Int) then s.getD j 0 else 0) else 0:=by
    refine cO fun j hj=>?_
    have m:=met h (i:=(i:Int)) (by omega) (j:Int) (by omega) (by omega)
    have e1:(if (i:Int)∈walk r (j:Int) then s.getD j 0 else 0)=s.getD j 0 * one ((i:Int)∈walk r (j:Int)):=by unfold one;split <;> simp
    rw [e1,m,Int.mul_add,← zY]
    congr 1
    · unfold one
      by_cases hji:j=i
      · rw [if_pos (by omega),if_pos hji];simp
      · rw [if_neg (by omega),if_neg hji];simp
    · refine cO fun k hk=>?_
      split
      · unfold one;split <;> simp
      · simp
  rw [e,kj,nZ (fun j=>s.getD j 0) hi,w5]
  congr 1
  refine cO fun k hk=>?_
  rw [MP]
  rfl
def dB (r:List Int) (a b:Int):List Int:=if b=-1 then walk r a else (walk r a).takeWhile (fun x=>!decide (x=b))
def Stop (r:List Int) (a b:Int):Prop:=b=-1∨b∈walk r a
theorem uc {r:List Int} {a b x:Int} (h:x∈dB r a b):x∈walk r a:=by
  unfold dB at h
  split at h
  · exact h
  · exact (List.takeWhile_prefix _).subset h
theorem yU {r:List Int} (h:dJ r) {a:Int} (h0:0≤a) (h1:a<r.length):dB r a a=[]:=by
  unfold dB
  rw [if_neg (by omega),dG h h0 h1,List.takeWhile_cons]
  simp
theorem yV {r:List Int} (h:dJ r) {a b:Int} (h0:0≤a) (h1:a<r.length) (hb:b≠a):dB r a b=a :: dB r (nxt r a) b:=by
  unfold dB
  split
  · exact dG h h0 h1
  · rw [dG h h0 h1,List.takeWhile_cons]
    have:¬ a=b:=fun z=>hb z.symm
    simp [this]
theorem Ab (r:List Int) (b:Int):dB r (-1) b=[]:=by
  unfold dB;rw [jm];split <;> rfl
theorem Stop.next {r:List Int} (h:dJ r) {a b:Int} (h0:0≤a) (h1:a<r.length) (hb:b≠a) (s:Stop r a b):Stop r (nxt r a) b:=by
  rcases s with s | s
  · exact .inl s
  · rw [dG h h0 h1] at s
    rcases List.mem_cons.mp s with z | z
    · exact absurd z hb
    · exact .inr z
theorem rM {r:List Int} (h:dJ r) {a b:Int} (h0:0≤a) (h1:a<r.length):(dB r a b).Nodup:=by
  unfold dB
  split
  · exact vH h h0 h1
  · exact (vH h h0 h1).sublist (List.takeWhile_sublist _)
theorem metS {r:List Int} (h:dJ r) {i:Int} (hi:0≤i) (b:Int):∀ p:Int,0≤p→p<r.length→Stop r p b →
    one (i∈dB r p b)=(tot r.length fun k=>if nxt r (k:Int)=i then one ((k:Int)∈dB r p b) else 0) + one (p=i) - one (b=i):=by
  have key:=h.ind (P:=fun p=>(p=-1∨(0≤p∧p<r.length))→Stop r p b→one (i∈dB r p b)=(tot r.length fun k=>if nxt r (k:Int)=i then one ((k:Int)∈dB r p b) else 0) + one (p=i) - one (b=i)) ?_ ?_
  · exact fun p h0 h1=>key p h0 h1 (.inr ⟨h0,h1⟩)
  · intro _ st
    have hb:b=-1:=by
      rcases st with z | z
      · exact z
      · rw [jm] at z;cases z
    subst hb
    rw [Ab,ig fun k _=>?_]
    · unfold one;rw [if_neg (by simp),if_neg (by omega)];rfl
    · unfold one;rw [if_neg (show ¬ (k:Int)∈([]:List Int) by simp)];split <;> rfl
  · intro p h0 h1 ih _ st
    by_cases hb:b=p
    · subst hb
      rw [yU h h0 h1,ig fun k _=>?_]
      · unfold one;rw [if_neg (by simp)];omega
      · unfold one;rw [if_neg (show ¬ (k:Int)∈([]:List Int) by simp)];split <;> rfl
    have ih':=ih (h.step h0 h1) (st.next h h0 h1 hb)
    have nd:=rM h h0 h1 (b:=b)
    rw [yV h h0 h1 hb] at nd ⊢
    obtain ⟨np,_⟩:=List.nodup_cons.mp nd
    have e1:one (i∈p :: dB r (nxt r p) b)=one (p=i) + one (i∈dB r (nxt r p) b):=by
      unfold one
      by_cases hpi:p=i
      · subst hpi
        rw [if_pos List.mem_cons_self,if_pos rfl,if_neg np];rfl
      · rw [if_neg hpi]
        by_cases hm:i∈dB r (nxt r p) b
        · rw [if_pos (List.mem_cons_of_mem _ hm),if_pos hm];rfl
        · rw [if_neg hm,if_neg fun z=>?_];· rfl
          rcases List.mem_cons.mp z with z | z
          · exact hpi z.symm
          · exact hm z
    have e2:(tot r.length fun k=>if nxt r (k:Int)=i then one ((k:Int)∈p :: dB r (nxt r p) b) else 0) =
        one (nxt r p=i) + tot r.length fun k=>if nxt r (k:Int)=i then one ((k:Int)∈dB r (nxt r p) b) else 0:=by
      have:(tot r.length fun k=>if nxt r (k:Int)=i then one ((k:Int)∈p :: dB r (nxt r p) b) else 0) =
          tot r.length fun k=>(if k=p.toNat then (fun k=>if nxt r (k:Int)=i then (1:Int) else 0) k else 0) + if nxt r (k:Int)=i then one ((k:Int)∈dB r (nxt r p) b) else 0:=by
        refine cO fun k hk=>?_
        by_cases hn:nxt r (k:Int)=i
        · simp only [if_pos hn]
          by_cases hkp:k=p.toNat
          · have hkp':(k:Int)=p:=by omega
            rw [if_pos hkp,hkp']
            unfold one
            rw [if_pos List.mem_cons_self,if_neg np];rfl
          · have hkp':¬ (k:Int)=p:=by omega
            rw [if_neg hkp]
            unfold one
            by_cases hm:(k:Int)∈dB r (nxt r p) b
            · rw [if_pos (List.mem_cons_of_mem _ hm),if_pos hm];rfl
            · rw [if_neg hm,if_neg fun z=>?_];· rfl
              rcases List.mem_cons.mp z with z | z
              · exact hkp' z
              · exact hm z
        · simp only [if_neg hn];split <;> rfl
      rw [this,kj,nZ _ (by omega)]
      have e:((p.toNat:Nat):Int)=p:=by omega
      show (if nxt r ((p.toNat:Nat):Int)=i then (1:Int) else 0) + _=_
      rw [e];rfl
    rw [e1,e2,ih']
    omega
end Rv
namespace Rv
structure Fl (n:Nat) (fl:List Int) (g:Nat→Int):Prop where
  len:fl.length=n
  at_:∀ i,i<n→fl[i]?=some (g i)
theorem Fl.of (fl:List Int):Fl fl.length fl (fun i=>fl.getD i 0):=⟨rfl,fun i hi=>by rw [List.getElem?_eq_getElem hi,List.getD_eq_getElem?_getD,List.getElem?_eq_getElem hi];rfl⟩
theorem Fl.zu {n:Nat} {fl:List Int} {g g':Nat→Int} (h:Fl n fl g) (e:∀ i,i<n→g i=g' i):Fl n fl g':=⟨h.len,fun i hi=>by rw [h.at_ i hi,e i hi]⟩
theorem Fl.set {n:Nat} {fl:List Int} {g g':Nat→Int} {j:Nat} {y:Int} (h:Fl n fl g) (hj:j<n) (e:∀ i,i<n→i≠j→g' i=g i) (ey:y=g' j):Fl n (fl.set j y) g' :=
  ⟨by rw [List.length_set];exact h.len,fun i hi=>by
    by_cases hij:i=j
    · subst hij;rw [List.getElem?_set_self (by rw [h.len];exact hj),ey]
    · rw [List.getElem?_set_ne (Ne.symm hij),h.at_ i hi,e i hi hij]⟩
theorem Fl.ext {n:Nat} {fl fl':List Int} {g:Nat→Int} (h:Fl n fl g) (h':Fl n fl' g):fl=fl':=by
  apply List.ext_getElem?
  intro i
  by_cases hi:i<n
  · rw [h.at_ i hi,h'.at_ i hi]
  · rw [List.getElem?_eq_none (by rw [h.len];omega),List.getElem?_eq_none (by rw [h'.len];omega)]
theorem Fl.getD {n:Nat} {fl:List Int} {g:Nat→Int} (h:Fl n fl g) {i:Nat} (hi:i<n):fl.getD i 0=g i:=by
  rw [List.getD_eq_getElem?_getD,h.at_ i hi];rfl
theorem Fl.map (n:Nat) (g:Nat→Int):Fl n ((List.range n).map g) g:=⟨by simp,fun i hi=>by rw [List.getElem?_map,List.getElem?_range hi];rfl⟩
def kap (r:List Int) (i:Nat):Int:=(i:Int) - 64 * ((walk r (i:Int)).length:Int)
structure DN (r:List Int) (p:List Nat):Prop where
  perm:p.Perm (List.range r.length)
  ord:p.Pairwise fun i j=>kap r i<kap r j
theorem DN.len {r:List Int} {p:List Nat} (h:DN r p):p.length=r.length:=by rw [h.perm.length_eq,List.length_range]
theorem DN.lt {r:List Int} {p:List Nat} (h:DN r p) {j:Nat} (hj:j∈p):j<r.length:=List.mem_range.mp (h.perm.mem_iff.mp hj)
theorem DN.first {r:List Int} {p p1 p2:List Nat} {j k:Nat} (h:DN r p) (hR:dJ r) (h64:r.length<64) (e:p=p1++j :: p2) (hk:k<r.length) (hn:nxt r (k:Int)=(j:Int)):k∈p1:=by
  have hjm:j∈p:=by rw [e];simp
  have hj:=h.lt hjm
  have hkm:k∈p:=h.perm.mem_iff.mpr (List.mem_range.mpr hk)
  have hw:(walk r (k:Int)).length=(walk r (j:Int)).length + 1:=by rw [dG hR (p:=(k:Int)) (by omega) (by omega),hn,List.length_cons]
  have hlt:kap r k<kap r j:=by unfold kap;omega
  rw [e] at hkm
  rcases List.mem_append.mp hkm with z | z
  · exact z
  · have ord:=h.ord
    rw [e,List.pairwise_append] at ord
    rcases List.mem_cons.mp z with z | z
    · subst z;omega
    · have:=(List.pairwise_cons.mp ord.2.1).1 k z
      omega
def nats (r s:List Int):List Int:=(List.range r.length).map fun (i:Nat)=>lN r s (i:Int)
theorem wj (r s:List Int):Fl r.length (nats r s) fun i=>lN r s (i:Int):=Fl.map _ _
def yI (r s:List Int) (p:List Nat) (t:Nat) (fl:List Int):Prop:=Fl r.length fl fun i=>s.getD i 0 + lsum (p.take t) fun k=>if nxt r (k:Int)=(i:Int) then lN r s (k:Int) else 0
theorem yI.start (r s:List Int) (p:List Nat) (hs:s.length=r.length):yI r s p 0 s:=by
  have:=Fl.of s
  rw [hs] at this
  exact this.zu fun i _=>by rw [List.take_zero];show _=_ + 0;omega
theorem take_cons {p:List Nat} {t j:Nat} (h:p[t]?=some j):p.take (t + 1)=p.take t++[j]:=by rw [List.take_add_one,h];rfl
theorem yI.here {r s:List Int} {p:List Nat} {t j:Nat} {fl:List Int} (T:DN r p) (hR:dJ r) (h64:r.length<64) (h:yI r s p t fl) (hj:p[t]?=some j):fl[j]?=some (lN r s (j:Int)):=by
  have hjl:=T.lt (List.mem_of_getElem? hj)
  rw [h.at_ j hjl,rZ hR s hjl]
  congr 2
  rw [← oF,← uK T.perm]
  obtain ⟨ht,et⟩:=List.getElem?_eq_some_iff.mp hj
  have e:p=p.take t++j :: p.drop (t + 1):=by
    rw [← et,List.getElem_cons_drop,List.take_append_drop]
  conv=>rhs;rw [e]
  rw [mH]
  have z:lsum (j :: p.drop (t + 1)) (fun k=>if nxt r (k:Int)=(j:Int) then lN r s (k:Int) else 0)=0:=by
    refine uJ fun k hk=>if_neg fun hn=>?_
    have hkp:k∈p:=by rw [e];exact List.mem_append_right _ hk
    have h1:=T.first hR h64 e (T.lt hkp) hn
    have nd:p.Nodup:=T.perm.nodup_iff.mpr List.nodup_range
    rw [e,List.nodup_append] at nd
    exact nd.2.2 k h1 k hk rfl
  rw [z];omega
theorem yI.Nx {r s:List Int} {p:List Nat} {t j:Nat} {fl:List Int} (h:yI r s p t fl) (hj:p[t]?=some j) (hm:nxt r (j:Int)=-1):yI r s p (t + 1) fl :=
  Fl.zu h fun i _=>by
    rw [take_cons hj,mH]
    show _=_ + (_ + ((if nxt r (j:Int)=(i:Int) then lN r s (j:Int) else 0) + 0))
    rw [if_neg (by omega)];omega
theorem yI.turn {r s:List Int} {p:List Nat} {t j b:Nat} {fl:List Int} (T:DN r p) (hR:dJ r) (h64:r.length<64) (h:yI r s p t fl) (hj:p[t]?=some j) (hb:nxt r (j:Int)=(b:Int)) (hbl:b<r.length) {x:Int} (hx:fl[b]?=some x) :
    yI r s p (t + 1) (fl.set b (x + lN r s (j:Int))):=by
  refine Fl.set h hbl (fun i _ hib=>?_) ?_
  · rw [take_cons hj,mH]
    show _ + (_ + ((if nxt r (j:Int)=(i:Int) then lN r s (j:Int) else 0) + 0))=_
    rw [if_neg (by omega)];omega
  · rw [h.at_ b hbl] at hx
    rw [← Option.some.inj hx,take_cons hj,mH]
    show _=_ + (_ + ((if nxt r (j:Int)=(b:Int) then lN r s (j:Int) else 0) + 0))
    rw [if_pos hb];omega
theorem yI.done {r s:List Int} {p:List Nat} {fl:List Int} (T:DN r p) (hR:dJ r) (h:yI r s p r.length fl):fl=nats r s:=by
  refine Fl.ext (g:=fun i=>lN r s (i:Int)) (Fl.zu h fun i hi=>?_) (wj r s)
  rw [← T.len,List.take_length,rZ hR s hi,← oF,uK T.perm]
abbrev Mv:=Int × Int × Int
def lJ (r:List Int) (ms:List Mv) (i:Int):Int:=(ms.map fun m=>if i∈dB r m.1 m.2.1 then m.2.2 else 0).sum
theorem BL (r:List Int) (ms:List Mv) (m:Mv) (i:Int):lJ r (ms++[m]) i=lJ r ms i + if i∈dB r m.1 m.2.1 then m.2.2 else 0:=by
  unfold lJ;rw [List.map_append,List.sum_append];simp
def tL (r s:List Int) (ms:List Mv):List Int:=(List.range r.length).map fun (i:Nat)=>lN r s (i:Int) - lJ r ms (i:Int)
theorem sV (r s:List Int) (ms:List Mv):Fl r.length (tL r s ms) fun i=>lN r s (i:Int) - lJ r ms (i:Int):=Fl.map _ _
def MvI (r:List Int) (g:Nat→Int) (am:Int) (pre:List Int) (fl:List Int):Prop:=Fl r.length fl fun i=>g i - if (i:Int)∈pre then am else 0
theorem MvI.start {r:List Int} {g:Nat→Int} {fl:List Int} (am:Int) (h:Fl r.length fl g):MvI r g am [] fl:=Fl.zu h fun i _=>by rw [if_neg (by simp)];omega
theorem MvI.turn {r:List Int} {g:Nat→Int} {am:Int} {pre:List Int} {fl:List Int} (h:MvI r g am pre fl) {j:Nat} (hj:j<r.length) (hn:¬ (j:Int)∈pre) {x:Int} (hx:fl[j]?=some x):MvI r g am (pre++[(j:Int)]) (fl.set j (x - am)):=by
  refine Fl.set h hj (fun i _ hij=>?_) ?_
  · have:((i:Int)∈pre++[(j:Int)])=((i:Int)∈pre):=by
      apply propext;simp;omega
    simp only [this]
  · rw [h.at_ j hj,if_neg hn] at hx
    rw [← Option.some.inj hx,if_pos (by simp)];omega
theorem MvI.done {r s:List Int} {ms:List Mv} {m:Mv} {fl:List Int} (h:MvI r (fun i=>lN r s (i:Int) - lJ r ms (i:Int)) m.2.2 (dB r m.1 m.2.1) fl):Fl r.length fl fun i=>lN r s (i:Int) - lJ r (ms++[m]) (i:Int) :=
  Fl.zu h fun i _=>by rw [BL];dsimp only;omega
end Rv
namespace Rv
def uY (r:List Int) (m:Mv):Prop:=0≤m.1∧m.1<r.length∧Stop r m.1 m.2.1
def starts (ms:List Mv) (i:Int):Int:=(ms.map fun m=>if m.1=i then m.2.2 else 0).sum
def stops (ms:List Mv) (i:Int):Int:=(ms.map fun m=>if m.2.1=i then m.2.2 else 0).sum
theorem yc {r:List Int} (h:dJ r) {i:Int} (hi:0≤i):∀ (ms:List Mv),(∀ m∈ms,uY r m) →
    lJ r ms i=(tot r.length fun k=>if nxt r (k:Int)=i then lJ r ms (k:Int) else 0) + starts ms i - stops ms i
  | [],_=>by
    rw [ig fun k _=>by split <;> rfl];rfl
  | m :: ms,g=>by
    obtain ⟨g0,g1,g2⟩:=g m List.mem_cons_self
    have ih:=yc h hi ms fun x hx=>g x (List.mem_cons_of_mem _ hx)
    have e:=metS h hi m.2.1 m.1 g0 g1 g2
    have c:∀ (p:Int),lJ r (m :: ms) p=m.2.2 * one (p∈dB r m.1 m.2.1) + lJ r ms p:=fun p=>by
      show (if p∈dB r m.1 m.2.1 then m.2.2 else 0) + lJ r ms p=_
      congr 1
      unfold one;split <;> simp
    have c1:starts (m :: ms) i=m.2.2 * one (m.1=i) + starts ms i:=by
      show (if m.1=i then m.2.2 else 0) + starts ms i=_
      congr 1
      unfold one;split <;> simp
    have c2:stops (m :: ms) i=m.2.2 * one (m.2.1=i) + stops ms i:=by
      show (if m.2.1=i then m.2.2 else 0) + stops ms i=_
      congr 1
      unfold one;split <;> simp
    have c3:(tot r.length fun k=>if nxt r (k:Int)=i then lJ r (m :: ms) (k:Int) else 0) =
        m.2.2 * (tot r.length fun k=>if nxt r (k:Int)=i then one ((k:Int)∈dB r m.1 m.2.1) else 0) + tot r.length fun k=>if nxt r (k:Int)=i then lJ r ms (k:Int) else 0:=by
      rw [← zY,← kj]
      refine cO fun k _=>?_
      split
      · exact c _
      · simp
    rw [c,c1,c2,c3,e,ih,Int.mul_sub,Int.mul_add]
    omega
theorem Fv {r s:List Int} (h:dJ r) {ms:List Mv} (g:∀ m∈ms,uY r m) {i:Nat} (hi:i<r.length) :
    lN r s (i:Int) - lJ r ms (i:Int)=s.getD i 0 + (tot r.length fun k=>if nxt r (k:Int)=(i:Int) then lN r s (k:Int) - lJ r ms (k:Int) else 0) - starts ms (i:Int) + stops ms (i:Int):=by
  have e1:=rZ h s hi
  have e2:=yc h (i:=(i:Int)) (by omega) ms g
  have e3:(tot r.length fun k=>if nxt r (k:Int)=(i:Int) then lN r s (k:Int) - lJ r ms (k:Int) else 0) =
      (tot r.length fun k=>if nxt r (k:Int)=(i:Int) then lN r s (k:Int) else 0) - tot r.length fun k=>if nxt r (k:Int)=(i:Int) then lJ r ms (k:Int) else 0:=by
    rw [← pG]
    refine cO fun k _=>?_
    split
    · rfl
    · simp
  rw [e3];omega
theorem qM {r:List Int}:∀ (ms:List Mv),(∀ m∈ms,uY r m)→(tot r.length fun i=>starts ms (i:Int))=(ms.map fun m=>m.2.2).sum
  | [],_=>ig fun _ _=>rfl
  | m :: ms,g=>by
    obtain ⟨g0,g1,g2⟩:=g m List.mem_cons_self
    have ih:=qM ms fun x hx=>g x (List.mem_cons_of_mem _ hx)
    show (tot r.length fun (i:Nat)=>(if m.1=(i:Int) then m.2.2 else 0) + starts ms (i:Int))=m.2.2 + (ms.map fun m=>m.2.2).sum
    rw [kj,ih]
    congr 1
    have:(tot r.length fun (i:Nat)=>if m.1=(i:Int) then m.2.2 else 0)=tot r.length fun i=>if i=m.1.toNat then (fun _=>m.2.2) i else 0:=cO fun i _=>by
      by_cases hi:i=m.1.toNat
      · rw [if_pos (by omega),if_pos hi]
      · rw [if_neg (by omega),if_neg hi]
    rw [this,nZ _ (by omega)]
theorem tX {r:List Int} (h:dJ r):∀ (ms:List Mv),(∀ m∈ms,uY r m)→(tot r.length fun i=>stops ms (i:Int)) + stops ms (-1)=(ms.map fun m=>m.2.2).sum
  | [],_=>by rw [ig (f:=fun i=>stops [] ((i:Nat):Int)) fun _ _=>rfl];rfl
  | m :: ms,g=>by
    obtain ⟨g0,g1,g2⟩:=g m List.mem_cons_self
    have ih:=tX h ms fun x hx=>g x (List.mem_cons_of_mem _ hx)
    show (tot r.length fun (i:Nat)=>(if m.2.1=(i:Int) then m.2.2 else 0) + stops ms (i:Int)) + ((if m.2.1=-1 then m.2.2 else 0) + stops ms (-1))=m.2.2 + (ms.map fun m=>m.2.2).sum
    rw [kj]
    have key:(tot r.length fun (i:Nat)=>if m.2.1=(i:Int) then m.2.2 else 0) + (if m.2.1=-1 then m.2.2 else 0)=m.2.2:=by
      rcases g2 with z | z
      · rw [if_pos z,ig fun i _=>if_neg (by omega)];omega
      · obtain ⟨b0,b1⟩:=rC h m.1 g0 g1 _ z
        rw [if_neg (by omega)]
        have:(tot r.length fun (i:Nat)=>if m.2.1=(i:Int) then m.2.2 else 0)=tot r.length fun i=>if i=m.2.1.toNat then (fun _=>m.2.2) i else 0:=cO fun i _=>by
          by_cases hi:i=m.2.1.toNat
          · rw [if_pos (by omega),if_pos hi]
          · rw [if_neg (by omega),if_neg hi]
        rw [this,nZ _ (by omega)];omega
    omega
theorem Fw {r s:List Int} (h:dJ r) {ms:List Mv} (g:∀ m∈ms,uY r m) :
    (tot r.length fun i=>s.getD i 0)=(tot r.length fun k=>if nxt r (k:Int)=-1 then lN r s (k:Int) - lJ r ms (k:Int) else 0) + stops ms (-1):=by
  have e1:(tot r.length fun i=>lN r s (i:Int) - lJ r ms (i:Int))=tot r.length fun i=>s.getD i 0 + (tot r.length fun k=>if nxt r (k:Int)=(i:Int) then lN r s (k:Int) - lJ r ms (k:Int) else 0) - starts ms (i:Int) + stops ms (i:Int):=cO fun i hi=>Fv h g hi
  rw [kj,pG,pG,kj,w5] at e1
  have e2:(tot r.length fun k=>tot r.length fun (i:Nat)=>if nxt r (k:Int)=(i:Int) then lN r s (k:Int) - lJ r ms (k:Int) else 0)=tot r.length fun k=>(lN r s (k:Int) - lJ r ms (k:Int)) - if nxt r (k:Int)=-1 then lN r s (k:Int) - lJ r ms (k:Int) else 0:=by
    refine cO fun k hk=>?_
    rcases h.step (p:=(k:Int)) (by omega) (by omega) with z | ⟨z0,z1⟩
    · rw [if_pos z,ig fun i _=>if_neg (by omega)];omega
    · rw [if_neg (by omega)]
      have:(tot r.length fun (i:Nat)=>if nxt r (k:Int)=(i:Int) then lN r s (k:Int) - lJ r ms (k:Int) else 0)=tot r.length fun i=>if i=(nxt r (k:Int)).toNat then (fun _=>lN r s (k:Int) - lJ r ms (k:Int)) i else 0:=cO fun i _=>by
        by_cases hi:i=(nxt r (k:Int)).toNat
        · rw [if_pos (by omega),if_pos hi]
        · rw [if_neg (by omega),if_neg hi]
      rw [this,nZ _ (by omega)];omega
  rw [e2,pG,pG,qM ms g] at e1
  have e3:=tX h ms g
  omega
end Rv
namespace Rv
end Rv
namespace Rv
theorem vI:∀ (s:List Int),(tot s.length fun i=>s.getD i 0)=s.sum:=by
  intro s
  have key:∀ (n:Nat),n≤s.length→(tot n fun i=>s.getD i 0)=(s.take n).sum:=by
    intro n
    induction n with
    | zero=>intro _;rfl
    | succ n ih =>
      intro h
      show tot n _ + s.getD n 0=_
      rw [ih (by omega),List.take_add_one,List.sum_append,List.getD_eq_getElem?_getD,List.getElem?_eq_getElem (by omega)]
      simp
  rw [key s.length (Nat.le_refl _),List.take_length]
def O1 (r:List Int) (F:Nat→Int) (t:Nat):Int:=tot t fun k=>if nxt r (k:Int)=-1 then F k else 0
theorem O1.Nx (r:List Int) (F:Nat→Int) {t:Nat} (hm:nxt r (t:Int)=-1):O1 r F (t + 1)=O1 r F t + F t:=by
  show O1 r F t + (if nxt r (t:Int)=-1 then F t else 0)=_
  rw [if_pos hm]
theorem O1.turn (r:List Int) (F:Nat→Int) {t:Nat} (hm:nxt r (t:Int)≠-1):O1 r F (t + 1)=O1 r F t:=by
  show O1 r F t + (if nxt r (t:Int)=-1 then F t else 0)=_
  rw [if_neg hm];omega
theorem Ej {r s:List Int} (h:dJ r) (hs:s.length=r.length) {ms:List Mv} (g:∀ m∈ms,uY r m):O1 r (fun k=>lN r s (k:Int) - lJ r ms (k:Int)) r.length + stops (ms.take ms.length) (-1)=s.sum:=by
  rw [List.take_length,← vI s,hs,Fw h g];rfl
end Rv
namespace Rv
end Rv
namespace Rv
def vB (r:List Int) (t:Nat):List Int:=((List.range t).filter fun (j:Nat)=>decide (nxt r (j:Int)=-1)).map fun (j:Nat)=>(j:Int)
theorem lU (r:List Int) (t:Nat):vB r (t + 1)=vB r t++(if nxt r (t:Int)=-1 then [(t:Int)] else []):=by
  unfold vB
  rw [List.range_succ,List.filter_append,List.map_append]
  by_cases h:nxt r (t:Int)=-1
  · rw [if_pos h];simp [h]
  · rw [if_neg h];simp [h]
theorem su (r:List Int) (t:Nat):(vB r t).length≤t:=by
  unfold vB
  rw [List.length_map]
  exact Nat.le_trans (List.length_filter_le _ _) (by simp)
end Rv
namespace Tn
def iV:Nat→(Nat→Int)→Int
  | 0,_=>0
  | n + 1,f=>iV n f + f n
theorem bD {f g:Nat→Int}:∀ {n:Nat},(∀ k,k<n→f k=g k)→iV n f=iV n g
  | 0,_=>rfl
  | n + 1,h=>by
    show iV n f + f n=iV n g + g n
    rw [bD fun k hk=>h k (by omega),h n (by omega)]
theorem pK {f g:Nat→Int}:∀ {n:Nat},(∀ k,k<n→f k≤g k)→iV n f≤iV n g
  | 0,_=>Int.le_refl _
  | n + 1,h=>by
    show iV n f + f n≤iV n g + g n
    have a:=pK fun k hk=>h k (Nat.lt_succ_of_lt hk)
    have b:=h n (Nat.lt_succ_self n)
    omega
theorem Aa {f g:Nat→Int} {i:Nat}:∀ {n:Nat},i<n→(∀ k,k<n→f k≤g k)→f i<g i→iV n f<iV n g
  | 0,hi,_,_=>absurd hi (Nat.not_lt_zero _)
  | n + 1,hi,h,hl=>by
    show iV n f + f n<iV n g + g n
    by_cases e:i=n
    · subst e
      have a:=pK fun k hk=>h k (Nat.lt_succ_of_lt hk)
      omega
    · have a:=Aa (n:=n) (by omega) (fun k hk=>h k (Nat.lt_succ_of_lt hk)) hl
      have b:=h n (Nat.lt_succ_self n)
      omega
theorem jN (f g:Nat→Int):∀ n:Nat,iV n (fun k=>f k + g k)=iV n f + iV n g
  | 0=>rfl
  | n + 1=>by
    show iV n _ + (f n + g n)=iV n f + f n + (iV n g + g n)
    rw [jN f g n];omega
theorem rK (f g:Nat→Int):∀ n:Nat,iV n (fun k=>f k - g k)=iV n f - iV n g
  | 0=>rfl
  | n + 1=>by
    show iV n _ + (f n - g n)=iV n f + f n - (iV n g + g n)
    rw [rK f g n];omega
theorem jd:∀ n:Nat,iV n (fun _=>0)=0
  | 0=>rfl
  | n + 1=>by show iV n _ + 0=0;rw [jd n];rfl
theorem mF {i:Nat} (c:Int):∀ {n:Nat},i<n→iV n (fun k=>if k=i then c else 0)=c
  | 0,hi=>absurd hi (Nat.not_lt_zero _)
  | n + 1,hi=>by
    show iV n _ + (if n=i then c else 0)=c
    by_cases e:n=i
    · subst e
      rw [if_pos rfl,bD (g:=fun _=>0) fun k hk=>if_neg (by omega),jd];omega
    · rw [if_neg e,mF c (by omega)];omega
theorem vK {f:Nat→Int} {n:Nat} (h:∀ k,k<n→0≤f k):0≤iV n f:=by
  have:=pK (f:=fun _=>0) (g:=f) h
  rw [jd] at this;exact this
theorem pJ {f:Nat→Int} {n i:Nat} (hi:i<n) (h:∀ k,k<n→0≤f k):f i≤iV n f:=by
  have:=pK (f:=fun k=>if k=i then f i else 0) (g:=f) (n:=n) fun k hk=>by
    by_cases e:k=i
    · subst e;rw [if_pos rfl];exact Int.le_refl _
    · rw [if_neg e];exact h k hk
  rw [mF _ hi] at this;exact this
def hold (n:Nat) (W:Nat→List Int) (x:Nat→Int) (r:Int):Int:=iV n fun k=>if r∈W k then x k else 0
theorem NZ {n i:Nat} {W:Nat→List Int} {x y:Nat→Int} {r:Int} (hi:i<n) (hr:r∈W i) (h:∀ k,k<n→r∈W k→x k≤y k) (hl:x i<y i):hold n W x r<hold n W y r :=
  Aa hi (fun k hk=>by
    by_cases e:r∈W k
    · rw [if_pos e,if_pos e];exact h k hk e
    · rw [if_neg e,if_neg e];exact Int.le_refl _) (by rw [if_pos hr,if_pos hr];exact hl)
theorem qR {n:Nat} {W:Nat→List Int} {x y:Nat→Int} {r:Int} (h:∀ k,k<n→r∈W k→x k=y k):hold n W x r=hold n W y r :=
  bD fun k hk=>by
    by_cases e:r∈W k
    · rw [if_pos e,if_pos e];exact h k hk e
    · rw [if_neg e,if_neg e]
def put (x:Nat→Int) (i:Nat) (c:Int):Nat→Int:=fun k=>if k=i then x k + c else x k
theorem xU (x:Nat→Int) (i:Nat) (c:Int):put x i c i=x i + c:=if_pos rfl
theorem pR {x:Nat→Int} {i k:Nat} {c:Int} (h:k≠i):put x i c k=x k:=if_neg h
theorem sJ {n i:Nat} {W:Nat→List Int} {x:Nat→Int} {r c:Int} (hi:i<n):hold n W (put x i c) r=hold n W x r + (if r∈W i then c else 0):=by
  have e:∀ k,k<n→(if r∈W k then put x i c k else 0)=(if r∈W k then x k else 0) + (if k=i then (if r∈W i then c else 0) else 0):=fun k _=>by
    by_cases h1:r∈W k
    · by_cases h2:k=i
      · subst h2;simp [put,h1]
      · simp [put,h1,h2]
    · by_cases h2:k=i
      · subst h2;simp [h1]
      · simp [h1,h2]
  unfold hold
  rw [bD e,jN,mF _ hi]
theorem jK (n:Nat) (W:Nat→List Int) (r:Int):hold n W (fun _=>0) r=0:=by
  unfold hold
  rw [bD (g:=fun _=>0) fun k _=>by split <;> rfl,jd]
def Gg (d n i d' m j:Int):Prop:=d<d'∨d=d'∧(n<m∨n=m∧i<j)
structure Fit (n:Nat) (F:Int→Int) (W:Nat→List Int) (want x:Nat→Int):Prop where
  nn:∀ k,k<n→0≤x k
  le:∀ k,k<n→x k≤want k
  fits:∀ r,(∃ k,k<n∧r∈W k)→hold n W x r≤F r
def tD (n:Nat) (F:Int→Int) (W:Nat→List Int) (day x:Nat→Int) (k:Nat) (r:Int):Prop :=
  r∈W k∧hold n W x r=F r∧∀ j,j<n→r∈W j→0<x j→Gg (day j) (x j) j (day k) (x k + 1) k
def qx (n:Nat) (F:Int→Int) (W:Nat→List Int) (day want x:Nat→Int):Prop :=
  ∀ k,k<n→x k<want k→∃ r,tD n F W day x k r
theorem qW {P:Nat→Prop} (f:Nat→Nat) (h:∃ k,P k):∃ k,P k∧∀ j,P j→f k≤f j:=by
  obtain ⟨k,hk⟩:=h
  have key:∀ (m k:Nat),f k≤m→P k→∃ k,P k∧∀ j,P j→f k≤f j:=by
    intro m
    induction m with
    | zero=>intro k hk hp;exact ⟨k,hp,fun j _=>by omega⟩
    | succ m ih =>
      intro k hk hp
      by_cases hx:∃ j,P j∧f j<f k
      · obtain ⟨j,hj,hl⟩:=hx
        exact ih j (by omega) hj
      · exact ⟨k,hp,fun j hj=>Classical.byContradiction fun hn=>hx ⟨j,hj,by omega⟩⟩
  exact key (f k) k (Nat.le_refl _) hk
theorem qj {P:Nat→Prop} (f:Nat→Int) (b:Int) (hb:∀ k,P k→b≤f k) (h:∃ k,P k):∃ k,P k∧∀ j,P j→f k≤f j:=by
  obtain ⟨k,hk,hm⟩:=qW (fun k=>(f k - b).toNat) h
  refine ⟨k,hk,fun j hj=>?_⟩
  have a1:=hm j hj
  have a2:=hb k hk
  have a3:=hb j hj
  omega
theorem zq {n:Nat} {day x y:Nat→Int} (hd:∀ k,k<n→0≤day k) (hx:∀ k,k<n→0≤x k) (hy:∀ k,k<n→0≤y k) (h:∃ k,k<n∧x k≠y k) :
    ∃ k,k<n∧x k≠y k∧∀ j,j<n→x j≠y j→j=k∨Gg (day k) (min (x k) (y k)) k (day j) (min (x j) (y j)) j:=by
  obtain ⟨k1,p1,m1⟩:=qj (P:=fun k=>k<n∧x k≠y k) day 0 (fun k hk=>hd k hk.1) h
  obtain ⟨k2,p2,m2⟩:=qj (P:=fun k=>(k<n∧x k≠y k)∧day k=day k1) (fun k=>min (x k) (y k)) 0 (fun k hk=>by
    have a:=hx k hk.1.1
    have b:=hy k hk.1.1
    show (0:Int)≤min (x k) (y k)
    omega) ⟨k1,p1,rfl⟩
  obtain ⟨k3,p3,m3⟩:=qW (P:=fun k=>((k<n∧x k≠y k)∧day k=day k1)∧min (x k) (y k)=min (x k2) (y k2)) (fun k=>k) ⟨k2,p2,rfl⟩
  refine ⟨k3,p3.1.1.1,p3.1.1.2,fun j hj hne=>?_⟩
  have a1:=m1 j ⟨hj,hne⟩
  have a2:=p3.1.2
  by_cases hday:day j=day k1
  · have b1:=m2 j ⟨⟨hj,hne⟩,hday⟩
    have b2:=p3.2
    by_cases hmin:min (x j) (y j)=min (x k2) (y k2)
    · have c1:=m3 j ⟨⟨⟨hj,hne⟩,hday⟩,hmin⟩
      by_cases e:j=k3
      · exact .inl e
      · exact .inr (.inr ⟨by omega,.inr ⟨by omega,by omega⟩⟩)
    · refine .inr (.inr ⟨by omega,.inl ?_⟩)
      have b3:min (x k2) (y k2)≤min (x j) (y j):=b1
      omega
  · exact .inr (.inl (by omega))
theorem mU {n:Nat} {F:Int→Int} {W:Nat→List Int} {day want x y:Nat→Int} (sx:qx n F W day want x) (fy:Fit n F W want y)
    {k:Nat} (hk:k<n) (hne:x k≠y k) (hm:∀ j,j<n→x j≠y j→j=k∨Gg (day k) (min (x k) (y k)) k (day j) (min (x j) (y j)) j):y k<x k:=by
  refine Classical.byContradiction fun hn=>?_
  have hlt:x k<y k:=by omega
  obtain ⟨r,hr,hF,hall⟩:=sx k hk (by have:=fy.le k hk;omega)
  have h1:hold n W x r<hold n W y r:=NZ hk hr (fun j hj hrj=>by
    refine Classical.byContradiction fun hle=>?_
    have hyx:y j<x j:=by omega
    have hjk:j≠k:=fun e=>by subst e;omega
    have hy0:=fy.nn j hj
    rcases hm j hj (by omega) with e | a
    · exact hjk e
    · rw [show min (x k) (y k)=x k by omega,show min (x j) (y j)=y j by omega] at a
      have b:=hall j hj hrj (by omega)
      unfold Gg at a b
      omega) hlt
  have h2:=fy.fits r ⟨k,hk,hr⟩
  omega
theorem unique {n:Nat} {F:Int→Int} {W:Nat→List Int} {day want x y:Nat→Int} (hd:∀ k,k<n→0≤day k) (fx:Fit n F W want x) (sx:qx n F W day want x) (fy:Fit n F W want y) (sy:qx n F W day want y) :
    ∀ k,k<n→x k=y k:=by
  refine Classical.byContradiction fun hn=>?_
  have hex:∃ k,k<n∧x k≠y k:=Classical.byContradiction fun h=>hn fun k hk=>Classical.byContradiction fun hne=>h ⟨k,hk,hne⟩
  obtain ⟨k,hk,hne,hm⟩:=zq hd fx.nn fy.nn hex
  have a:=mU sx fy hk hne hm
  have b:=mU sy fx hk (Ne.symm hne) fun j hj h=>by
    rw [show min (y k) (x k)=min (x k) (y k) by omega,show min (y j) (x j)=min (x j) (y j) by omega]
    exact hm j hj (Ne.symm h)
  omega
end Tn
namespace Tn
def d0:Nat→Int:=fun _=>0
structure zJ (n:Nat) (F:Int→Int) (W:Nat→List Int) (want x:Nat→Int) (G:Nat→Bool) (t:Int):Prop where
  fit:Fit n F W want x
  go:∀ k,G k=true→k<n∧x k=t
  top:∀ k,k<n→x k≤t
  done:∀ k,k<n→G k=false→x k<want k→∃ r,tD n F W d0 x k r
theorem zJ.start {n:Nat} {F:Int→Int} {W:Nat→List Int} {want:Nat→Int} (hw:∀ k,k<n→0≤want k) (hF:∀ r,(∃ k,k<n∧r∈W k)→0≤F r) :
    zJ n F W want (fun _=>0) (fun k=>decide (k<n)) 0 :=
  ⟨⟨fun _ _=>Int.le_refl _,hw,fun r hr=>by rw [jK];exact hF r hr⟩,fun k hk=>⟨by simpa using hk,rfl⟩,fun _ _=>Int.le_refl _,fun k hk hg=>by simp [hk] at hg⟩
theorem zJ.finish {n:Nat} {F:Int→Int} {W:Nat→List Int} {want x:Nat→Int} {G:Nat→Bool} {t:Int} (h:zJ n F W want x G t) (hG:∀ k,k<n→G k=false):Fit n F W want x∧qx n F W d0 want x :=
  ⟨h.fit,fun k hk hl=>h.done k hk (hG k hk) hl⟩
def cnt (n:Nat) (W:Nat→List Int) (G:Nat→Bool) (r:Int):Int:=hold n W (fun k=>if G k then 1 else 0) r
def jump (x:Nat→Int) (G:Nat→Bool) (m:Int):Nat→Int:=fun k=>if G k then x k + m else x k
theorem qe (n:Nat) (W:Nat→List Int) (x:Nat→Int) (G:Nat→Bool) (m r:Int):hold n W (jump x G m) r=hold n W x r + m * cnt n W G r:=by
  unfold cnt hold jump
  induction n with
  | zero=>simp [iV]
  | succ n ih =>
    simp only [iV]
    rw [ih,Int.mul_add]
    by_cases h1:r∈W n
    · by_cases h2:G n=true
      · simp [h1,h2];omega
      · simp [h1,h2];omega
    · simp [h1]
theorem Od {n:Nat} {W:Nat→List Int} {G:Nat→Bool} {r:Int} {j:Nat} (hj:j<n) (hr:r∈W j) (hg:G j=true):0<cnt n W G r:=by
  have h:=pJ (f:=fun k=>if r∈W k then (if G k then (1:Int) else 0) else 0) hj fun k _=>by
    split
    · split <;> decide
    · decide
  simp only [hr,hg,if_true] at h
  show 0<iV n fun k=>if r∈W k then (if G k then (1:Int) else 0) else 0
  omega
theorem Ve (n:Nat) (W:Nat→List Int) (G:Nat→Bool) (r:Int):0≤cnt n W G r:=vK fun k _=>by
  show (0:Int)≤if r∈W k then (if G k then (1:Int) else 0) else 0
  split
  · split <;> decide
  · decide
theorem zJ.jump {n:Nat} {F:Int→Int} {W:Nat→List Int} {want x:Nat→Int} {G:Nat→Bool} {t m:Int} (h:zJ n F W want x G t) (hm:0≤m) (h1:∀ k,G k=true→x k + m≤want k)
    (h2:∀ r,(∃ k,k<n∧r∈W k)→m * cnt n W G r≤F r - hold n W x r):zJ n F W want (jump x G m) G (t + m):=by
  refine ⟨⟨fun k hk=>?_,fun k hk=>?_,fun r hr=>?_⟩,fun k hk=>⟨(h.go k hk).1,?_⟩,fun k hk=>?_,fun k hk hg hl=>?_⟩
  · have:=h.fit.nn k hk
    unfold Tn.jump;split <;> omega
  · unfold Tn.jump
    split
    · rename_i hg;exact h1 k hg
    · exact h.fit.le k hk
  · rw [qe]
    have:=h2 r hr
    omega
  · unfold Tn.jump
    rw [if_pos hk,(h.go k hk).2]
  · have:=h.top k hk
    unfold Tn.jump;split <;> omega
  · have ek:Tn.jump x G m k=x k:=by unfold Tn.jump;rw [hg];rfl
    rw [ek] at hl
    obtain ⟨r,hr,hF,hall⟩:=h.done k hk hg hl
    by_cases hm0:m=0
    · have e:Tn.jump x G m=x:=by
        funext j
        unfold Tn.jump
        split <;> omega
      rw [e]
      exact ⟨r,hr,hF,hall⟩
    · have hc:=h2 r ⟨k,hk,hr⟩
      have hno:∀ j,j<n→r∈W j→G j=false:=fun j hj hrj=>by
        cases hgj:G j with
        | false=>rfl
        | true =>
          exfalso
          have p:=Od hj hrj hgj
          have q:0<m * cnt n W G r:=Int.mul_pos (by omega) p
          omega
      have same:∀ j,j<n→r∈W j→Tn.jump x G m j=x j:=fun j hj hrj=>by unfold Tn.jump;rw [hno j hj hrj];rfl
      refine ⟨r,hr,?_,fun j hj hrj hp=>?_⟩
      · rw [qR (y:=x) same];exact hF
      · rw [same j hj hrj] at hp ⊢
        rw [ek]
        exact hall j hj hrj hp
structure wL (n:Nat) (F:Int→Int) (W:Nat→List Int) (want x:Nat→Int) (G S:Nat→Bool) (t:Int) (p:Nat):Prop where
  fit:Fit n F W want x
  still:∀ k,S k=true→k<p∧k<n∧x k=t + 1
  wait:∀ k,k<n→G k=true→p≤k→x k=t
  low:∀ k,k<n→S k=false→x k≤t
  done:∀ k,k<n→S k=false→(k<p∨G k=false)→x k<want k→∃ r,tD n F W d0 x k r
theorem zJ.pass {n:Nat} {F:Int→Int} {W:Nat→List Int} {want x:Nat→Int} {G:Nat→Bool} {t:Int} (h:zJ n F W want x G t):wL n F W want x G (fun _=>false) t 0 :=
  ⟨h.fit,(fun _ hk=>by cases hk),fun k _ hg _=>(h.go k hg).2,fun k hk _=>h.top k hk,fun k hk _ hg hl=>by
    rcases hg with z | z
    · exact absurd z (Nat.not_lt_zero _)
    · exact h.done k hk z hl⟩
theorem wL.skip {n:Nat} {F:Int→Int} {W:Nat→List Int} {want x:Nat→Int} {G S:Nat→Bool} {t:Int} {p q:Nat} (h:wL n F W want x G S t p) (hpq:p≤q) (hno:∀ k,p≤k→k<q→G k=false):wL n F W want x G S t q :=
  ⟨h.fit,fun k hk=>⟨by have:=(h.still k hk).1;omega,(h.still k hk).2⟩,fun k hk hg hq=>h.wait k hk hg (by omega),h.low,fun k hk hs hg hl=>by
    refine h.done k hk hs ?_ hl
    rcases hg with z | z
    · by_cases e:k<p
      · exact .inl e
      · exact .inr (hno k (by omega) z)
    · exact .inr z⟩
theorem wL.gets {n:Nat} {F:Int→Int} {W:Nat→List Int} {want x:Nat→Int} {G S:Nat→Bool} {t:Int} {p:Nat} (h:wL n F W want x G S t p) (hp:p<n) (hg:G p=true) (hw:x p<want p) (hfree:∀ r,r∈W p→0<F r - hold n W x r) :
    wL n F W want (put x p 1) G (fun k=>if k=p then true else S k) t (p + 1):=by
  have xp:=h.wait p hp hg (Nat.le_refl _)
  refine ⟨⟨fun k hk=>?_,fun k hk=>?_,fun r hr=>?_⟩,fun k hk=>?_,fun k hk hg hq=>?_,fun k hk hs=>?_,fun k hk hs hq hl=>?_⟩
  · have:=h.fit.nn k hk
    unfold put;split <;> omega
  · by_cases e:k=p
    · subst e;rw [xU];omega
    · rw [pR e];exact h.fit.le k hk
  · rw [sJ hp]
    by_cases e:r∈W p
    · rw [if_pos e];have:=hfree r e;omega
    · rw [if_neg e];have:=h.fit.fits r hr;omega
  · by_cases e:k=p
    · subst e;rw [xU];exact ⟨by omega,hp,by omega⟩
    · simp only [e,if_false] at hk
      obtain ⟨a,b,c⟩:=h.still k hk
      rw [pR e];exact ⟨by omega,b,c⟩
  · rw [pR (by omega)];exact h.wait k hk hg (by omega)
  · by_cases e:k=p
    · simp [e] at hs
    · simp only [e,if_false] at hs
      rw [pR e];exact h.low k hk hs
  · by_cases e:k=p
    · simp [e] at hs
    · simp only [e,if_false] at hs
      rw [pR e] at hl
      obtain ⟨r,hr,hF,hall⟩:=h.done k hk hs (by
        rcases hq with z | z
        · exact .inl (by omega)
        · exact .inr z) hl
      have hrp:¬ r∈W p:=fun z=>by have:=hfree r z;omega
      refine ⟨r,hr,?_,fun j hj hrj hpos=>?_⟩
      · rw [sJ hp,if_neg hrp];omega
      · have hjp:j≠p:=fun z=>hrp (z ▸ hrj)
        rw [pR hjp] at hpos ⊢
        rw [pR e]
        exact hall j hj hrj hpos
theorem wL.ends {n:Nat} {F:Int→Int} {W:Nat→List Int} {want x:Nat→Int} {G S:Nat→Bool} {t:Int} {p:Nat} (h:wL n F W want x G S t p) (hp:p<n) (hg:G p=true) (hn:want p≤x p∨∃ r,r∈W p∧F r - hold n W x r≤0) :
    wL n F W want x G S t (p + 1):=by
  have xp:=h.wait p hp hg (Nat.le_refl _)
  refine ⟨h.fit,fun k hk=>⟨by have:=(h.still k hk).1;omega,(h.still k hk).2⟩,fun k hk hg hq=>h.wait k hk hg (by omega),h.low,fun k hk hs hq hl=>?_⟩
  by_cases e:k=p
  · subst e
    rcases hn with z | ⟨r,hr,hle⟩
    · omega
    · refine ⟨r,hr,?_,fun j hj hrj hpos=>?_⟩
      · have:=h.fit.fits r ⟨k,hk,hr⟩
        omega
      · cases hsj:S j with
        | false =>
          have:=h.low j hj hsj
          exact .inr ⟨rfl,.inl (by omega)⟩
        | true =>
          obtain ⟨a,b,c⟩:=h.still j hsj
          exact .inr ⟨rfl,.inr ⟨by omega,by omega⟩⟩
  · exact h.done k hk hs (by
      rcases hq with z | z
      · exact .inl (by omega)
      · exact .inr z) hl
theorem wL.finish {n:Nat} {F:Int→Int} {W:Nat→List Int} {want x:Nat→Int} {G S:Nat→Bool} {t:Int} (h:wL n F W want x G S t n):zJ n F W want x S (t + 1) :=
  ⟨h.fit,fun k hk=>(h.still k hk).2,fun k hk=>by
    cases hs:S k with
    | false=>have:=h.low k hk hs;omega
    | true=>have:=(h.still k hs).2.2;omega,fun k hk hs hl=>h.done k hk hs (.inl hk) hl⟩
end Tn
namespace Tn
def bump (xs w:List Int) (c:Int):List Int:=w.foldl (fun xs r=>xs.set r.toNat (xs.getD r.toNat 0 + c)) xs
theorem Ga (xs:List Int) (c:Int):bump xs [] c=xs:=rfl
theorem uR (xs w:List Int) (r c:Int):bump xs (r :: w) c=bump (xs.set r.toNat (xs.getD r.toNat 0 + c)) w c:=rfl
theorem Dm (xs w:List Int) (r c:Int):bump xs (w++[r]) c=(bump xs w c).set r.toNat ((bump xs w c).getD r.toNat 0 + c):=by
  unfold bump;rw [List.foldl_append];rfl
theorem jz:∀ (w xs:List Int) (c:Int),(bump xs w c).length=xs.length
  | [],_,_=>rfl
  | r :: w,xs,c=>by rw [uR,jz w,List.length_set]
theorem sO {xs:List Int} {i k:Nat} {v:Int} (hi:i<xs.length):(xs.set i v).getD k 0=if k=i then v else xs.getD k 0:=by
  rw [List.getD_eq_getElem?_getD,List.getElem?_set,List.getD_eq_getElem?_getD]
  by_cases h:i=k
  · subst h;simp [hi]
  · have h':¬ k=i:=fun e=>h e.symm
    simp [h,h']
theorem nQ:∀ {w xs:List Int} {c:Int},w.Nodup→(∀ r∈w,0≤r∧r<xs.length)→∀ k:Nat,(bump xs w c).getD k 0=xs.getD k 0 + (if (k:Int)∈w then c else 0)
  | [],xs,c,_,_,k=>by simp [Ga]
  | r :: w,xs,c,hw,hin,k=>by
    rw [List.nodup_cons] at hw
    obtain ⟨r0,r1⟩:=hin r List.mem_cons_self
    have hl:r.toNat<xs.length:=by omega
    rw [uR,nQ hw.2 (fun q hq=>by rw [List.length_set];exact hin q (List.mem_cons_of_mem _ hq)) k,sO hl]
    by_cases e:k=r.toNat
    · have ek:(k:Int)=r:=by omega
      have hn:¬ (k:Int)∈w:=by rw [ek];exact hw.1
      rw [if_pos e,if_neg hn,if_pos (by rw [ek];exact List.mem_cons_self),e];omega
    · have ek:¬ (k:Int)=r:=by omega
      rw [if_neg e]
      by_cases h:(k:Int)∈w
      · rw [if_pos h,if_pos (List.mem_cons_of_mem _ h)]
      · rw [if_neg h,if_neg (fun z=>by rcases List.mem_cons.mp z with q | q;exact ek q;exact h q)]
def bumps (xs:List Int) (ps:List (List Int × Int)):List Int:=ps.foldl (fun xs p=>bump xs p.1 p.2) xs
theorem Dl (xs:List Int):bumps xs []=xs:=rfl
theorem rm (xs:List Int) (p:List Int × Int) (ps:List (List Int × Int)):bumps xs (p :: ps)=bumps (bump xs p.1 p.2) ps:=rfl
theorem qZ (xs:List Int) (ps:List (List Int × Int)) (p:List Int × Int):bumps xs (ps++[p])=bump (bumps xs ps) p.1 p.2:=by
  unfold bumps;rw [List.foldl_append];rfl
theorem j5:∀ (ps:List (List Int × Int)) (xs:List Int),(bumps xs ps).length=xs.length
  | [],_=>rfl
  | p :: ps,xs=>by rw [rm,j5 ps,jz]
def WOk (n:Nat) (w:List Int):Prop:=w.Nodup∧∀ r∈w,0≤r∧r<(n:Int)
theorem nP:∀ {ps:List (List Int × Int)} {xs:List Int},(∀ p∈ps,WOk xs.length p.1)→∀ k:Nat,(bumps xs ps).getD k 0=xs.getD k 0 + (ps.map fun p=>if (k:Int)∈p.1 then p.2 else 0).sum
  | [],xs,_,k=>by simp [Dl]
  | p :: ps,xs,h,k=>by
    have hp:=h p List.mem_cons_self
    rw [rm,nP (fun q hq=>by rw [jz];exact h q (List.mem_cons_of_mem _ hq)) k,nQ hp.1 hp.2 k,List.map_cons,List.sum_cons]
    omega
theorem Ea {α:Type} (l:List α) (f:α→Int) (g:Nat→Int) (h:∀ k a,l[k]?=some a→g k=f a):(l.map f).sum=iV l.length g:=by
  have key:∀ n,n≤l.length→((l.take n).map f).sum=iV n g:=by
    intro n
    induction n with
    | zero=>intro _;rfl
    | succ n ih =>
      intro hn
      have e:l[n]?=some l[n]:=List.getElem?_eq_getElem (by omega)
      rw [List.take_succ,e,List.map_append,List.sum_append,ih (by omega)]
      show _ + (f l[n] + 0)=iV n g + g n
      rw [h n _ e];omega
  have:=key l.length (Nat.le_refl _)
  rwa [List.take_of_length_le (Nat.le_refl _)] at this
theorem o8 {n:Nat} {f:Nat→Int}:∀ {g:List Nat},g.Nodup→(∀ k∈g,k<n)→(g.map f).sum=iV n fun k=>if k∈g then f k else 0
  | [],_,_=>by simp [jd]
  | a :: g,hn,hl=>by
    rw [List.nodup_cons] at hn
    rw [List.map_cons,List.sum_cons,o8 hn.2 fun k hk=>hl k (List.mem_cons_of_mem _ hk)]
    have e:∀ k,k<n→(if k∈a :: g then f k else 0)=(if k=a then f a else 0) + (if k∈g then f k else 0):=fun k _=>by
      by_cases h:k=a
      · subst h;simp [hn.1]
      · simp [h]
    rw [bD e,jN,mF _ (hl a List.mem_cons_self)]
def shares (fs cs:List Int):List Int:=((fs.zip cs).filter fun p=>decide (0<p.2)).map fun p=>p.1 / p.2
def WT (fs cs rs:List Int) (M:Int):Prop:=(rs++shares fs cs=[]∧M=0)∨∃ m∈rs++shares fs cs,(∀ a∈rs++shares fs cs,m≤a)∧M=max 0 m
theorem qP {fs cs:List Int} {a:Int}:a∈shares fs cs↔∃ (k:Nat) (f c:Int),fs[k]?=some f∧cs[k]?=some c∧0<c∧a=f / c:=by
  unfold shares
  simp only [List.mem_map,List.mem_filter,decide_eq_true_eq]
  constructor
  · rintro ⟨⟨f,c⟩,⟨hm,hc⟩,rfl⟩
    obtain ⟨k,hk,e⟩:=List.getElem_of_mem hm
    have e':(fs.zip cs)[k]?=some (f,c):=by rw [List.getElem?_eq_getElem hk,e]
    rw [List.getElem?_zip_eq_some] at e'
    exact ⟨k,f,c,e'.1,e'.2,hc,rfl⟩
  · rintro ⟨k,f,c,h1,h2,h3,rfl⟩
    exact ⟨(f,c),⟨List.mem_of_getElem? (i:=k) (List.getElem?_zip_eq_some.mpr ⟨h1,h2⟩),h3⟩,rfl⟩
theorem WT.nn {fs cs rs:List Int} {M:Int} (h:WT fs cs rs M):0≤M:=by
  rcases h with ⟨_,e⟩ | ⟨m,_,_,e⟩ <;> omega
theorem WT.low {fs cs rs:List Int} {M:Int} (h:WT fs cs rs M) (hr:∀ a∈rs,0≤a) (hf:∀ a∈fs,0≤a):(∀ a∈rs,M≤a)∧∀ (k:Nat) (f c:Int),fs[k]?=some f→cs[k]?=some c→0<c→M * c≤f:=by
  have hall:∀ a∈rs++shares fs cs,0≤a:=fun a ha=>by
    rcases List.mem_append.mp ha with z | z
    · exact hr a z
    · obtain ⟨k,f,c,h1,h2,h3,rfl⟩:=qP.mp z
      exact Int.ediv_nonneg (hf f (List.mem_of_getElem? h1)) (by omega)
  have hle:∀ a∈rs++shares fs cs,M≤a:=by
    rcases h with ⟨e,_⟩ | ⟨m,hm,hl,rfl⟩
    · intro a ha;rw [e] at ha;cases ha
    · intro a ha
      have:=hl a ha
      have:=hall m hm
      omega
  refine ⟨fun a ha=>hle a (List.mem_append_left _ ha),fun k f c h1 h2 h3=>?_⟩
  exact (Int.le_ediv_iff_mul_le h3).mp (hle _ (List.mem_append_right _ (qP.mpr ⟨k,f,c,h1,h2,h3,rfl⟩)))
end Tn
namespace Tn
structure zL (n:Nat) (F:Int→Int) (W:Nat→List Int) (day want x:Nat→Int) (Pz:Nat→Prop):Prop where
  fit:Fit n F W want x
  shown:∀ k,k<n→Pz k→x k<want k→∃ r,tD n F W day x k r
  zero:∀ k,k<n→¬ Pz k→x k=0
theorem zL.start {n:Nat} {F:Int→Int} {W:Nat→List Int} {day want:Nat→Int} (hw:∀ k,k<n→0≤want k) (hF:∀ r,(∃ k,k<n∧r∈W k)→0≤F r):zL n F W day want (fun _=>0) (fun _=>False) :=
  ⟨⟨fun _ _=>Int.le_refl _,hw,fun r hr=>by rw [jK];exact hF r hr⟩,fun _ _ z=>z.elim,fun _ _ _=>rfl⟩
def over (x:Nat→Int) (g:List Nat) (y:Nat→Int):Nat→Int:=fun k=>if k∈g then y (g.idxOf k) else x k
theorem lX {g:List Nat} {i:Nat} (h:i<g.length):g.getD i 0=g[i]:=by rw [List.getD_eq_getElem?_getD,List.getElem?_eq_getElem h];rfl
theorem gC {g:List Nat} (h:g.Pairwise (·<·)):g.Nodup:=h.imp fun e=>Nat.ne_of_lt e
theorem yu {g:List Nat} (h:g.Nodup) {i:Nat} (hi:i<g.length):g.idxOf g[i]=i:=by
  have h1:g.idxOf g[i]<g.length:=List.idxOf_lt_length_iff.mpr (List.getElem_mem hi)
  exact (List.getElem_inj (h₀:=h1) (h₁:=hi) h).mp (List.getElem_idxOf h1)
theorem oE {x y:Nat→Int} {g:List Nat} (h:g.Nodup) {i:Nat} (hi:i<g.length):over x g y (g.getD i 0)=y i:=by
  unfold over
  rw [lX hi,if_pos (List.getElem_mem hi),yu h hi]
theorem kY {x y:Nat→Int} {g:List Nat} {k:Nat} (h:¬ k∈g):over x g y k=x k:=if_neg h
theorem uO {n:Nat} {W:Nat→List Int} {x y:Nat→Int} {g:List Nat} (r:Int) (hg:g.Nodup) (hn:∀ k∈g,k<n) (hz:∀ k∈g,x k=0) :
    hold n W (over x g y) r=hold n W x r + hold g.length (fun i=>W (g.getD i 0)) y r:=by
  have e:∀ k,k<n→(if r∈W k then over x g y k else 0)=(if r∈W k then x k else 0) + (if k∈g then (if r∈W k then y (g.idxOf k) else 0) else 0):=fun k _=>by
    by_cases h:k∈g
    · unfold over
      rw [if_pos h,if_pos h,hz k h]
      by_cases h2:r∈W k
      · simp [h2]
      · simp [h2]
    · rw [kY h,if_neg h];omega
  have e2:=o8 (n:=n) (f:=fun k=>if r∈W k then y (g.idxOf k) else 0) hg hn
  have e3:=Ea g (fun k=>if r∈W k then y (g.idxOf k) else 0) (fun i=>if r∈W (g.getD i 0) then y i else 0) fun i a ha=>by
    obtain ⟨hi,rfl⟩:=List.getElem?_eq_some_iff.mp ha
    rw [lX hi,yu hg hi]
  unfold hold
  rw [bD e,jN,← e2,e3]
theorem zL.step {n:Nat} {F:Int→Int} {W:Nat→List Int} {day want x y:Nat→Int} {Pz:Nat→Prop} {g:List Nat} {d:Int} (D:zL n F W day want x Pz) (hg:g.Pairwise (·<·)) (hgn:∀ k∈g,k<n∧day k=d∧¬ Pz k) (hd:∀ k,Pz k→day k<d)
    (fy:Fit g.length (fun r=>F r - hold n W x r) (fun i=>W (g.getD i 0)) (fun i=>want (g.getD i 0)) y) (sy:qx g.length (fun r=>F r - hold n W x r) (fun i=>W (g.getD i 0)) d0 (fun i=>want (g.getD i 0)) y) :
    zL n F W day want (over x g y) (fun k=>Pz k∨k∈g):=by
  have nd:=gC hg
  have hn:∀ k∈g,k<n:=fun k hk=>(hgn k hk).1
  have hz:∀ k∈g,x k=0:=fun k hk=>D.zero k (hn k hk) (hgn k hk).2.2
  have hh:=fun r=>uO (n:=n) (W:=W) (x:=x) (y:=y) r nd hn hz
  have inv:∀ k∈g,∃ i,i<g.length∧g.getD i 0=k:=fun k hk=>by
    obtain ⟨i,hi,e⟩:=List.getElem_of_mem hk
    exact ⟨i,hi,by rw [lX hi,e]⟩
  have yn:∀ r,0≤hold g.length (fun i=>W (g.getD i 0)) y r:=fun r=>vK fun i hi=>by
    split
    · exact fy.nn i hi
    · exact Int.le_refl _
  refine ⟨⟨fun k hk=>?_,fun k hk=>?_,fun r hr=>?_⟩,fun k hk hp hl=>?_,fun k hk hp=>?_⟩
  · by_cases h:k∈g
    · obtain ⟨i,hi,rfl⟩:=inv k h
      rw [oE nd hi];exact fy.nn i hi
    · rw [kY h];exact D.fit.nn k hk
  · by_cases h:k∈g
    · obtain ⟨i,hi,rfl⟩:=inv k h
      rw [oE nd hi];exact fy.le i hi
    · rw [kY h];exact D.fit.le k hk
  · rw [hh r]
    by_cases h:∃ i,i<g.length∧r∈W (g.getD i 0)
    · have q:hold g.length (fun i=>W (g.getD i 0)) y r≤F r - hold n W x r:=fy.fits r h
      omega
    · have e:hold g.length (fun i=>W (g.getD i 0)) y r=0:=by
        unfold hold
        rw [bD (g:=fun _=>0) fun i hi=>if_neg fun z=>h ⟨i,hi,z⟩,jd]
      have:=D.fit.fits r hr
      omega
  · by_cases h:k∈g
    · obtain ⟨i,hi,rfl⟩:=inv k h
      rw [oE nd hi] at hl
      obtain ⟨r,hr,hF,hall⟩:=sy i hi hl
      refine ⟨r,hr,?_,fun j hj hrj hpos=>?_⟩
      · have q:hold g.length (fun i=>W (g.getD i 0)) y r=F r - hold n W x r:=hF
        rw [hh r,q];omega
      · rw [oE nd hi]
        have dk:=(hgn _ h).2.1
        by_cases hj':j∈g
        · obtain ⟨i',hi',rfl⟩:=inv j hj'
          rw [oE nd hi'] at hpos ⊢
          have dj:=(hgn _ hj').2.1
          have a:=hall i' hi' hrj hpos
          rcases a with a | ⟨_,a⟩
          · exact absurd a (Int.lt_irrefl _)
          · refine .inr ⟨by rw [dk,dj],?_⟩
            rcases a with a | ⟨a,b⟩
            · exact .inl a
            · refine .inr ⟨a,?_⟩
              have hlt:i'<i:=by omega
              have:=List.pairwise_iff_getElem.mp hg i' i hi' hi hlt
              rw [lX hi,lX hi'];omega
        · rw [kY hj'] at hpos
          by_cases hpj:Pz j
          · have:=hd j hpj
            exact .inl (by rw [dk];exact this)
          · have:=D.zero j hj hpj
            omega
    · have hpk:Pz k:=hp.resolve_right h
      rw [kY h] at hl
      obtain ⟨r,hr,hF,hall⟩:=D.shown k hk hpk hl
      have none:∀ i,i<g.length→r∈W (g.getD i 0)→y i=0:=fun i hi hri=>by
        have a:hold g.length (fun i=>W (g.getD i 0)) y r≤F r - hold n W x r:=fy.fits r ⟨i,hi,hri⟩
        have b:=pJ (f:=fun i=>if r∈W (g.getD i 0) then y i else 0) hi fun j hj=>by
          show (0:Int)≤if r∈W (g.getD j 0) then y j else 0
          split
          · exact fy.nn j hj
          · exact Int.le_refl _
        have c:=fy.nn i hi
        have e:(if r∈W (g.getD i 0) then y i else 0)=y i:=if_pos hri
        have b':y i≤hold g.length (fun i=>W (g.getD i 0)) y r:=by rw [← e];exact b
        omega
      have same:∀ j,j<n→r∈W j→over x g y j=x j:=fun j hj hrj=>by
        by_cases h2:j∈g
        · obtain ⟨i,hi,rfl⟩:=inv j h2
          rw [oE nd hi,none i hi hrj,hz _ h2]
        · exact kY h2
      refine ⟨r,hr,?_,fun j hj hrj hpos=>?_⟩
      · rw [qR (y:=x) same];exact hF
      · rw [same j hj hrj] at hpos ⊢
        rw [kY h]
        exact hall j hj hrj hpos
  · have h:¬ k∈g:=fun z=>hp (.inr z)
    rw [kY h]
    exact D.zero k hk fun z=>hp (.inl z)
theorem zL.finish {n:Nat} {F:Int→Int} {W:Nat→List Int} {day want x:Nat→Int} {Pz:Nat→Prop} (D:zL n F W day want x Pz) (h:∀ k,k<n→Pz k):Fit n F W want x∧qx n F W day want x:=⟨D.fit,fun k hk hl=>D.shown k hk (h k hk) hl⟩
end Tn
namespace Tn
end Tn
namespace Tn
end Tn
namespace Tn
end Tn
namespace Tn
def fW (ws:List (List Int)):Nat→List Int:=fun k=>ws.getD k []
def fX (xs:List Int):Nat→Int:=fun k=>xs.getD k 0
def fF (fs:List Int):Int→Int:=fun r=>fs.getD r.toNat 0
def asI (gs:List Nat):List Int:=gs.map fun k:Nat=>(k:Int)
def fG (gs:List Nat):Nat→Bool:=fun k=>decide (k∈gs)
structure qz (fs:List Int) (ws:List (List Int)) (rs l xs:List Int) (gs:List Nat) (t:Int):Prop where
  ll:l.length=fs.length
  xl:xs.length=ws.length
  left:∀ r:Nat,r<fs.length→l.getD r 0=fs.getD r 0 - hold ws.length (fW ws) (fX xs) (r:Int)
  srt:gs.Pairwise (·<·)
  inv:zJ ws.length (fF fs) (fW ws) (fX rs) (fX xs) (fG gs) t
theorem qU (fs:List Int) (r:Nat):fF fs (r:Int)=fs.getD r 0:=by unfold fF;rw [Int.toNat_natCast]
theorem p7 {ws:List (List Int)} {k:Nat} (hk:k<ws.length):fW ws k∈ws:=by
  unfold fW
  rw [List.getD_eq_getElem?_getD,List.getElem?_eq_getElem hk];exact List.getElem_mem hk
theorem jy (n k:Nat):(List.replicate n (0:Int)).getD k 0=0:=by
  rw [List.getD_eq_getElem?_getD,List.getElem?_replicate]
  split <;> rfl
theorem qz.start {fs:List Int} {ws:List (List Int)} {rs:List Int} (hf:∀ a∈fs,0≤a) (hr:∀ a∈rs,0≤a) (hws:∀ w∈ws,WOk fs.length w):qz fs ws rs fs (List.replicate ws.length 0) (List.range ws.length) 0:=by
  have e:fX (List.replicate ws.length 0)=fun _=>0:=by
    funext k;exact jy _ _
  have g0:∀ (l:List Int) (k:Nat),(∀ a∈l,0≤a)→0≤l.getD k 0:=fun l k h=>by
    rw [List.getD_eq_getElem?_getD]
    cases hk:l[k]? with
    | none=>exact Int.le_refl _
    | some a=>exact h a (List.mem_of_getElem? hk)
  refine ⟨rfl,by simp,fun r hr=>?_,List.pairwise_lt_range,?_⟩
  · rw [e,jK];omega
  · rw [e,show fG (List.range ws.length)=fun k=>decide (k<ws.length) from by funext k;simp [fG]]
    exact zJ.start (fun k _=>g0 rs k hr) fun r _=>g0 fs _ hf
theorem qz.nn {fs:List Int} {ws:List (List Int)} {rs l xs:List Int} {gs:List Nat} {t:Int} (h:qz fs ws rs l xs gs t) (hf:∀ a∈fs,0≤a):∀ a∈l,0≤a:=fun a ha=>by
  obtain ⟨r,hr,rfl⟩:=List.getElem_of_mem ha
  have hr':r<fs.length:=by rw [← h.ll];exact hr
  have e:l[r]=l.getD r 0:=by rw [List.getD_eq_getElem?_getD,List.getElem?_eq_getElem hr];rfl
  rw [e,h.left r hr']
  by_cases hx:∃ k,k<ws.length∧(r:Int)∈fW ws k
  · have:=h.inv.fit.fits r hx
    rw [qU] at this
    omega
  · have e0:hold ws.length (fW ws) (fX xs) (r:Int)=0:=by
      unfold hold
      rw [bD (g:=fun _=>0) fun k hk=>if_neg fun z=>hx ⟨k,hk,z⟩,jd]
    have:=hf fs[r] (List.getElem_mem hr')
    have e1:fs.getD r 0=fs[r]:=by rw [List.getD_eq_getElem?_getD,List.getElem?_eq_getElem hr'];rfl
    omega
def DG (n:Nat) (ws:List (List Int)) (gs:List Nat):List Int:=bumps (List.replicate n 0) (gs.map fun k=>(fW ws k,1))
theorem FW {n:Nat} {ws:List (List Int)} {gs:List Nat} (hws:∀ w∈ws,WOk n w) (hg:gs.Nodup) (hn:∀ k∈gs,k<ws.length) (r:Nat):(DG n ws gs).getD r 0=cnt ws.length (fW ws) (fG gs) (r:Int):=by
  unfold DG
  rw [nP (fun p hp=>by
    obtain ⟨k,hk,rfl⟩:=List.mem_map.mp hp
    rw [List.length_replicate]
    exact hws _ (p7 (hn k hk))) r,jy,List.map_map]
  have e:=o8 (n:=ws.length) (f:=fun k=>if (r:Int)∈fW ws k then (1:Int) else 0) hg hn
  have e':((fun p:List Int × Int=>if (r:Int)∈p.1 then p.2 else 0) ∘ fun k=>(fW ws k,(1:Int)))=fun k=>if (r:Int)∈fW ws k then (1:Int) else 0:=rfl
  rw [e',e]
  unfold cnt hold fG
  rw [Int.zero_add]
  refine bD fun k _=>?_
  by_cases h1:k∈gs
  · simp [h1]
  · simp [h1]
theorem FT (n:Nat) (ws:List (List Int)) (gs:List Nat):(DG n ws gs).length=n:=by unfold DG;rw [j5,List.length_replicate]
def unmet (rs xs:List Int) (gs:List Nat):List Int:=gs.map fun k=>rs.getD k 0 - xs.getD k 0
theorem Cv {gs:List Nat} {n:Nat} (hg:gs.Nodup) (hn:∀ k∈gs,k<n):WOk n (asI gs):=by
  refine ⟨?_,fun r hr=>?_⟩
  · unfold asI
    exact List.Pairwise.map _ (fun a b h=>by omega) hg
  · obtain ⟨k,hk,rfl⟩:=List.mem_map.mp hr
    have:=hn k hk
    omega
theorem sE {gs:List Nat} {k:Nat}:(k:Int)∈asI gs↔k∈gs:=by
  unfold asI
  rw [List.mem_map]
  constructor
  · rintro ⟨a,ha,e⟩
    have:a=k:=by omega
    rw [← this];exact ha
  · intro h;exact ⟨k,h,rfl⟩
theorem qz.going {fs:List Int} {ws:List (List Int)} {rs l xs:List Int} {gs:List Nat} {t:Int} (h:qz fs ws rs l xs gs t):∀ k∈gs,k<ws.length∧xs.getD k 0=t:=fun k hk=>h.inv.go k (by simpa [fG] using hk)
theorem qz.whole {fs:List Int} {ws:List (List Int)} {rs l xs:List Int} {gs:List Nat} {t M:Int} (h:qz fs ws rs l xs gs t) (hf:∀ a∈fs,0≤a) (hws:∀ w∈ws,WOk fs.length w) (hM:WT l (DG fs.length ws gs) (unmet rs xs gs) M) :
    qz fs ws rs (bumps l (gs.map fun k=>(fW ws k,-M))) (bump xs (asI gs) M) gs (t + M):=by
  have nd:=gC h.srt
  have hn:∀ k∈gs,k<ws.length:=fun k hk=>(h.going k hk).1
  have hl:=h.nn hf
  have hun:∀ a∈unmet rs xs gs,0≤a:=fun a ha=>by
    obtain ⟨k,hk,rfl⟩:=List.mem_map.mp ha
    have:fX xs k≤fX rs k:=h.inv.fit.le k (hn k hk)
    unfold fX at this
    omega
  obtain ⟨lo1,lo2⟩:=hM.low hun hl
  have ex:fX (bump xs (asI gs) M)=jump (fX xs) (fG gs) M:=by
    funext k
    show (bump xs (asI gs) M).getD k 0=if fG gs k then fX xs k + M else fX xs k
    have ok:=Cv nd (n:=xs.length) fun k hk=>by rw [h.xl];exact hn k hk
    rw [nQ ok.1 ok.2 k]
    by_cases hk:k∈gs
    · rw [if_pos (sE.mpr hk)];simp [fG,hk,fX]
    · rw [if_neg (fun z=>hk (sE.mp z))];simp [fG,hk,fX]
  have key:∀ r:Nat,r<fs.length→M * cnt ws.length (fW ws) (fG gs) (r:Int)≤l.getD r 0:=fun r hr=>by
    have c0:=Ve ws.length (fW ws) (fG gs) (r:Int)
    have hlr:r<l.length:=by rw [h.ll];exact hr
    have e1:l[r]?=some (l.getD r 0):=by rw [List.getD_eq_getElem?_getD,List.getElem?_eq_getElem hlr];rfl
    have hcr:r<(DG fs.length ws gs).length:=by rw [FT];exact hr
    have e2:(DG fs.length ws gs)[r]?=some (cnt ws.length (fW ws) (fG gs) (r:Int)):=by
      rw [← FW hws nd hn r,List.getD_eq_getElem?_getD,List.getElem?_eq_getElem hcr];rfl
    by_cases hp:0<cnt ws.length (fW ws) (fG gs) (r:Int)
    · exact lo2 r _ _ e1 e2 hp
    · have:cnt ws.length (fW ws) (fG gs) (r:Int)=0:=by omega
      rw [this,Int.mul_zero]
      exact hl _ (List.mem_of_getElem? e1)
  refine ⟨by rw [j5];exact h.ll,by rw [jz];exact h.xl,fun r hr=>?_,h.srt,?_⟩
  · rw [nP (fun p hp=>by
      obtain ⟨k,hk,rfl⟩:=List.mem_map.mp hp
      rw [h.ll]
      exact hws _ (p7 (hn k hk))) r,h.left r hr,ex,qe,List.map_map]
    have e:=o8 (n:=ws.length) (f:=fun k=>if (r:Int)∈fW ws k then -M else 0) nd hn
    have e':((fun p:List Int × Int=>if (r:Int)∈p.1 then p.2 else 0) ∘ fun k=>(fW ws k,-M))=fun k=>if (r:Int)∈fW ws k then -M else 0:=rfl
    rw [e',e]
    have e3:(iV ws.length fun k=>if k∈gs then (if (r:Int)∈fW ws k then -M else 0) else 0)=-(M * cnt ws.length (fW ws) (fG gs) (r:Int)):=by
      have a:=qe ws.length (fW ws) (fun _=>0) (fG gs) (-M) (r:Int)
      rw [jK] at a
      have b:hold ws.length (fW ws) (jump (fun _=>0) (fG gs) (-M)) (r:Int)=iV ws.length fun k=>if k∈gs then (if (r:Int)∈fW ws k then -M else 0) else 0:=by
        unfold hold jump fG
        refine bD fun k _=>?_
        by_cases h1:k∈gs
        · simp [h1]
        · simp [h1]
      rw [← b,a,Int.neg_mul];omega
    rw [e3];omega
  · rw [ex]
    refine h.inv.jump hM.nn (fun k hk=>?_) fun r hr=>?_
    · have hk':k∈gs:=by simpa [fG] using hk
      have:=lo1 (rs.getD k 0 - xs.getD k 0) (List.mem_map.mpr ⟨k,hk',rfl⟩)
      unfold fX;omega
    · obtain ⟨k,hk,hr⟩:=hr
      have hw:=hws _ (p7 hk)
      obtain ⟨r0,r1⟩:=hw.2 r hr
      obtain ⟨rn,rfl⟩:=Int.eq_ofNat_of_zero_le r0
      have hrn:rn<fs.length:=by omega
      have a:=key rn hrn
      rw [h.left rn hrn] at a
      rw [qU];exact a
end Tn
namespace Tn
def step1 (ws:List (List Int)) (rs:List Int) (s:List Int × List Int × List Nat) (k:Nat):List Int × List Int × List Nat :=
  if s.2.1.getD k 0<rs.getD k 0∧(fW ws k).all (fun r=>decide (0<s.1.getD r.toNat 0))=true then (bump s.1 (fW ws k) (-1),s.2.1.set k (s.2.1.getD k 0 + 1),s.2.2++[k]) else s
def jk (ws:List (List Int)) (rs:List Int) (gs:List Nat) (s:List Int × List Int × List Nat):List Int × List Int × List Nat:=gs.foldl (step1 ws rs) s
theorem qL (ws:List (List Int)) (rs:List Int) (gs:List Nat) (k:Nat) (s:List Int × List Int × List Nat):jk ws rs (gs++[k]) s=step1 ws rs (jk ws rs gs s) k:=by
  unfold jk;rw [List.foldl_append];rfl
def rem (rs xs:List Int) (n:Nat):Int:=iV n fun k=>fX rs k - fX xs k
structure Mz (fs:List Int) (ws:List (List Int)) (rs:List Int) (gs:List Nat) (t S0:Int) (i:Nat) (s:List Int × List Int × List Nat):Prop where
  ll:s.1.length=fs.length
  xl:s.2.1.length=ws.length
  left:∀ r:Nat,r<fs.length→s.1.getD r 0=fs.getD r 0 - hold ws.length (fW ws) (fX s.2.1) (r:Int)
  sub:s.2.2.Sublist (gs.take i)
  sum:rem rs s.2.1 ws.length + s.2.2.length=S0
  pv:∃ p,wL ws.length (fF fs) (fW ws) (fX rs) (fX s.2.1) (fG gs) (fG s.2.2) t p∧p≤ws.length∧(∀ j (h:j<gs.length),i≤j→p≤gs[j])∧∀ j (h:j<gs.length),j<i→gs[j]<p
theorem qz.pass {fs:List Int} {ws:List (List Int)} {rs l xs:List Int} {gs:List Nat} {t:Int} (h:qz fs ws rs l xs gs t):Mz fs ws rs gs t (rem rs xs ws.length) 0 (l,xs,[]) :=
  ⟨h.ll,h.xl,h.left,by simp,by simp,0,by
    have:=h.inv.pass
    rw [show fG []=fun _=>false from by funext k;simp [fG]]
    exact this,Nat.zero_le _,fun _ _ _=>Nat.zero_le _,fun j _ hj=>absurd hj (Nat.not_lt_zero _)⟩
theorem Mz.step {fs:List Int} {ws:List (List Int)} {rs:List Int} {gs:List Nat} {t S0:Int} {i:Nat} {s:List Int × List Int × List Nat} (h:Mz fs ws rs gs t S0 i s) (srt:gs.Pairwise (·<·)) (hn:∀ k∈gs,k<ws.length) (hws:∀ w∈ws,WOk fs.length w) (hi:i<gs.length) :
    Mz fs ws rs gs t S0 (i + 1) (step1 ws rs s gs[i]):=by
  obtain ⟨l,xs,st⟩:=s
  obtain ⟨p,P0,pn,hp1,hp2⟩:=h.pv
  have hll:l.length=fs.length:=h.ll
  have hxl:xs.length=ws.length:=h.xl
  have hleft:∀ r:Nat,r<fs.length→l.getD r 0=fs.getD r 0 - hold ws.length (fW ws) (fX xs) (r:Int):=h.left
  have hsum:rem rs xs ws.length + st.length=S0:=h.sum
  have hsub:st.Sublist (gs.take i):=h.sub
  have P0:wL ws.length (fF fs) (fW ws) (fX rs) (fX xs) (fG gs) (fG st) t p:=P0
  have hk:gs[i]<ws.length:=hn _ (List.getElem_mem hi)
  have inc:=List.pairwise_iff_getElem.mp srt
  have P1:=P0.skip (q:=gs[i]) (hp1 i hi (Nat.le_refl _)) fun k h1 h2=>by
    cases hg:fG gs k with
    | false=>rfl
    | true =>
      exfalso
      have hm:k∈gs:=by simpa [fG] using hg
      obtain ⟨j,hj,rfl⟩:=List.getElem_of_mem hm
      by_cases hji:j<i
      · have:=hp2 j hj hji
        omega
      · by_cases e:j=i
        · subst e;omega
        · have:=inc i j hi hj (by omega)
          omega
  have hG:fG gs gs[i]=true:=by simp [fG]
  have next1:∀ j (h:j<gs.length),i + 1≤j→gs[i] + 1≤gs[j]:=fun j hj hji=>inc i j hi hj (by omega)
  have next2:∀ j (h:j<gs.length),j<i + 1→gs[j]<gs[i] + 1:=fun j hj hji=>by
    by_cases e:j=i
    · subst e;omega
    · have:=inc j i hj hi (by omega)
      omega
  have wk:=hws _ (p7 hk)
  have at_:∀ r∈fW ws gs[i],fF fs r - hold ws.length (fW ws) (fX xs) r=l.getD r.toNat 0:=fun r hr=>by
    obtain ⟨r0,r1⟩:=wk.2 r hr
    obtain ⟨rn,rfl⟩:=Int.eq_ofNat_of_zero_le r0
    rw [qU,Int.toNat_natCast,hleft rn (by omega)]
  by_cases hc:xs.getD gs[i] 0<rs.getD gs[i] 0∧(fW ws gs[i]).all (fun r=>decide (0<l.getD r.toNat 0))=true
  · have e:step1 ws rs (l,xs,st) gs[i]=(bump l (fW ws gs[i]) (-1),xs.set gs[i] (xs.getD gs[i] 0 + 1),st++[gs[i]]):=if_pos hc
    rw [e]
    have ex:fX (xs.set gs[i] (xs.getD gs[i] 0 + 1))=put (fX xs) gs[i] 1:=by
      funext k
      show (xs.set gs[i] (xs.getD gs[i] 0 + 1)).getD k 0=if k=gs[i] then xs.getD k 0 + 1 else xs.getD k 0
      rw [sO (by rw [hxl];exact hk)]
      by_cases z:k=gs[i]
      · rw [if_pos z,if_pos z,z]
      · rw [if_neg z,if_neg z]
    have P2:=P1.gets hk hG (by unfold fX;exact hc.1) fun r hr=>by
      rw [at_ r hr]
      have:=List.all_eq_true.mp hc.2 r hr
      simpa using this
    refine ⟨by rw [jz];exact hll,by rw [List.length_set];exact hxl,fun r hr=>?_,?_,?_,gs[i] + 1,?_,by omega,next1,next2⟩
    · show (bump l (fW ws gs[i]) (-1)).getD r 0=fs.getD r 0 - hold ws.length (fW ws) (fX (xs.set gs[i] (xs.getD gs[i] 0 + 1))) (r:Int)
      rw [nQ wk.1 (by rw [hll];exact wk.2) r,hleft r hr,ex,sJ hk]
      split <;> omega
    · show (st++[gs[i]]).Sublist (gs.take (i + 1))
      rw [List.take_add_one,List.getElem?_eq_getElem hi]
      exact hsub.append (List.Sublist.refl _)
    · show rem rs (xs.set gs[i] (xs.getD gs[i] 0 + 1)) ws.length + ((st++[gs[i]]).length:Nat)=S0
      have a:rem rs (xs.set gs[i] (xs.getD gs[i] 0 + 1)) ws.length=rem rs xs ws.length - 1:=by
        unfold rem
        rw [ex,rK,rK]
        have:iV ws.length (put (fX xs) gs[i] 1)=iV ws.length (fX xs) + 1:=by
          have b:∀ k,k<ws.length→put (fX xs) gs[i] 1 k=fX xs k + (if k=gs[i] then 1 else 0):=fun k _=>by
            unfold put;split <;> omega
          rw [bD b,jN,mF _ hk]
        omega
      rw [a,List.length_append,List.length_singleton]
      omega
    · show wL ws.length (fF fs) (fW ws) (fX rs) (fX (xs.set gs[i] (xs.getD gs[i] 0 + 1))) (fG gs) (fG (st++[gs[i]])) t (gs[i] + 1)
      rw [ex,show fG (st++[gs[i]])=fun k=>if k=gs[i] then true else fG st k from by
        funext k
        by_cases z:k=gs[i]
        · simp [fG,z]
        · simp [fG,z]]
      exact P2
  · have e:step1 ws rs (l,xs,st) gs[i]=(l,xs,st):=if_neg hc
    rw [e]
    refine ⟨hll,hxl,hleft,?_,hsum,gs[i] + 1,P1.ends hk hG ?_,by omega,next1,next2⟩
    · exact hsub.trans (by rw [List.take_add_one];exact List.sublist_append_left _ _)
    · by_cases z:xs.getD gs[i] 0<rs.getD gs[i] 0
      · have hno:¬ (fW ws gs[i]).all (fun r=>decide (0<l.getD r.toNat 0))=true:=fun y=>hc ⟨z,y⟩
        refine .inr ?_
        refine Classical.byContradiction fun hx=>hno (List.all_eq_true.mpr fun r hr=>?_)
        refine decide_eq_true ?_
        refine Classical.byContradiction fun hle=>hx ⟨r,hr,?_⟩
        rw [at_ r hr];omega
      · exact .inl (by unfold fX;omega)
theorem Mz.finish {fs:List Int} {ws:List (List Int)} {rs:List Int} {gs:List Nat} {t S0:Int} {s:List Int × List Int × List Nat} (h:Mz fs ws rs gs t S0 gs.length s) (srt:gs.Pairwise (·<·)):qz fs ws rs s.1 s.2.1 s.2.2 (t + 1):=by
  obtain ⟨p,P0,pn,hp1,hp2⟩:=h.pv
  have P1:=P0.skip (q:=ws.length) pn fun k h1 h2=>by
    cases hg:fG gs k with
    | false=>rfl
    | true =>
      exfalso
      have hm:k∈gs:=by simpa [fG] using hg
      obtain ⟨j,hj,rfl⟩:=List.getElem_of_mem hm
      have:=hp2 j hj hj
      omega
  have hsub:=h.sub
  rw [List.take_of_length_le (Nat.le_refl _)] at hsub
  exact ⟨h.ll,h.xl,h.left,srt.sublist hsub,P1.finish⟩
theorem zW {fs:List Int} {ws:List (List Int)} {rs l xs:List Int} {gs:List Nat} {t:Int} (h:qz fs ws rs l xs gs t) (hws:∀ w∈ws,WOk fs.length w):∀ i,i≤gs.length→Mz fs ws rs gs t (rem rs xs ws.length) i (jk ws rs (gs.take i) (l,xs,[])):=by
  intro i
  induction i with
  | zero=>intro _;exact h.pass
  | succ i ih =>
    intro hi
    rw [List.take_add_one,List.getElem?_eq_getElem (by omega:i<gs.length)]
    show Mz fs ws rs gs t _ (i + 1) (jk ws rs (gs.take i++[gs[i]]) (l,xs,[]))
    rw [qL]
    exact (ih (by omega)).step h.srt (fun k hk=>(h.going k hk).1) hws (by omega)
theorem qz.one {fs:List Int} {ws:List (List Int)} {rs l xs:List Int} {gs:List Nat} {t:Int} (h:qz fs ws rs l xs gs t) (hws:∀ w∈ws,WOk fs.length w) :
    qz fs ws rs (jk ws rs gs (l,xs,[])).1 (jk ws rs gs (l,xs,[])).2.1 (jk ws rs gs (l,xs,[])).2.2 (t + 1)∧rem rs (jk ws rs gs (l,xs,[])).2.1 ws.length + ((jk ws rs gs (l,xs,[])).2.2.length:Nat)=rem rs xs ws.length:=by
  have q:=zW h hws gs.length (Nat.le_refl _)
  rw [List.take_of_length_le (Nat.le_refl _)] at q
  exact ⟨q.finish h.srt,q.sum⟩
theorem qz.Gy {fs:List Int} {ws:List (List Int)} {rs l xs:List Int} {gs:List Nat} {t:Int} (h:qz fs ws rs l xs gs t):0≤rem rs xs ws.length:=vK fun k hk=>by
  have:=h.inv.fit.le k hk
  omega
theorem Bj {fs:List Int} {ws:List (List Int)} {rs l xs:List Int} {gs:List Nat} {t M:Int} (h:qz fs ws rs l xs gs t) (hM:0≤M):rem rs (bump xs (asI gs) M) ws.length≤rem rs xs ws.length:=by
  refine pK fun k hk=>?_
  have ok:=Cv (gC h.srt) (n:=xs.length) fun k hk=>by rw [h.xl];exact (h.going k hk).1
  have:fX (bump xs (asI gs) M) k=fX xs k + (if (k:Int)∈asI gs then M else 0):=nQ ok.1 ok.2 k
  rw [this]
  split <;> omega
end Tn
namespace Tn
theorem WOk.len {n:Nat} {w:List Int} (h:WOk n w):w.length≤n:=by
  have:=List.Nodup.length_le_of_subset (l₂:=asI (List.range n)) h.1 fun r hr=>by
    obtain ⟨r0,r1⟩:=h.2 r hr
    obtain ⟨k,rfl⟩:=Int.eq_ofNat_of_zero_le r0
    exact sE.mpr (List.mem_range.mpr (by omega))
  simpa [asI] using this
theorem xq (r:Int):∀ ws:List (List Int),((ws.map fun w=>(w,(1:Int))).map fun p=>if r∈p.1 then p.2 else 0).sum≤(ws.length:Int)
  | []=>by simp
  | w :: ws=>by
    have:=xq r ws
    simp only [List.map_cons,List.sum_cons,List.length_cons]
    split <;> omega
theorem cw_bound {n:Nat} {ws:List (List Int)} (hws:∀ w∈ws,WOk n w):∀ c∈bumps (List.replicate n 0) (ws.map fun w=>(w,(1:Int))),c≤(ws.length:Int):=fun c hc=>by
  obtain ⟨k,hk,rfl⟩:=List.getElem_of_mem hc
  have e:(bumps (List.replicate n 0) (ws.map fun w=>(w,(1:Int))))[k]=(bumps (List.replicate n 0) (ws.map fun w=>(w,(1:Int)))).getD k 0:=by
    rw [List.getD_eq_getElem?_getD,List.getElem?_eq_getElem hk];rfl
  rw [e,nP (fun p hp=>by
    obtain ⟨w,hw,rfl⟩:=List.mem_map.mp hp
    rw [List.length_replicate];exact hws w hw) k,jy]
  have:=xq (k:Int) ws
  omega
theorem vR {fs cs:List Int} {i:Nat} {f c:Int} (hf:fs[i]?=some f) (hc:cs[i]?=some c):shares (fs.take (i + 1)) (cs.take (i + 1))=shares (fs.take i) (cs.take i)++(if 0<c then [f / c] else []):=by
  have l1:=(List.getElem?_eq_some_iff.mp hf).1
  have l2:=(List.getElem?_eq_some_iff.mp hc).1
  unfold shares
  rw [List.take_add_one,List.take_add_one,hf,hc,List.zip_append (by rw [List.length_take,List.length_take];omega),List.filter_append,List.map_append]
  congr 1
  by_cases h:0<c
  · simp [h]
  · simp [h]
theorem jj {gs:List Nat} {i:Nat} {z:Int} (h:(asI gs)[i]?=some z):∃ k:Nat,gs[i]?=some k∧z=(k:Int):=by
  unfold asI at h
  rw [List.getElem?_map] at h
  cases e:gs[i]? with
  | none=>rw [e] at h;cases h
  | some k=>rw [e] at h;exact ⟨k,rfl,(Option.some.inj h).symm⟩
theorem uN (gs:List Nat) (i:Nat):(asI gs).take i=asI (gs.take i):=by unfold asI;rw [List.map_take]
theorem iZ (gs:List Nat):(asI gs).length=gs.length:=by unfold asI;rw [List.length_map]
theorem yO {rs xs:List Int} {gs:List Nat} {i k:Nat} (h:gs[i]?=some k):unmet rs xs (gs.take (i + 1))=unmet rs xs (gs.take i)++[rs.getD k 0 - xs.getD k 0]:=by
  unfold unmet;rw [List.take_add_one,h,List.map_append];rfl
theorem gk {α β:Type} {f:α→β} {gs:List α} {i:Nat} {k:α} (h:gs[i]?=some k):(gs.take (i + 1)).map f=(gs.take i).map f++[f k]:=by
  rw [List.take_add_one,h,List.map_append];rfl
theorem jX {α:Type} {gs:List α} {i:Nat} {k:α} (h:gs[i]?=some k):gs.take (i + 1)=gs.take i++[k]:=by
  rw [List.take_add_one,h];rfl
theorem yQ {ws:List (List Int)} {rs:List Int} {gs:List Nat} {i k:Nat} {s:List Int × List Int × List Nat} (h:gs[i]?=some k):jk ws rs (gs.take (i + 1)) s=step1 ws rs (jk ws rs (gs.take i) s) k:=by
  rw [jX h];exact qL _ _ _ _ _
theorem Af (ws:List (List Int)) (rs:List Int) (s:List Int × List Int × List Nat) (k:Nat):(step1 ws rs s k).1.length=s.1.length∧(step1 ws rs s k).2.1.length=s.2.1.length∧(step1 ws rs s k).2.2.length≤s.2.2.length + 1:=by
  unfold step1
  split
  · exact ⟨jz _ _ _,List.length_set,by simp⟩
  · exact ⟨rfl,rfl,by omega⟩
theorem tR (ws:List (List Int)) (rs:List Int):∀ (gs:List Nat) (s:List Int × List Int × List Nat),(jk ws rs gs s).1.length=s.1.length∧(jk ws rs gs s).2.1.length=s.2.1.length∧(jk ws rs gs s).2.2.length≤s.2.2.length + gs.length
  | [],s=>⟨rfl,rfl,by simp [jk]⟩
  | k :: gs,s=>by
    have a:=Af ws rs s k
    have b:=tR ws rs gs (step1 ws rs s k)
    have e:jk ws rs (k :: gs) s=jk ws rs gs (step1 ws rs s k):=rfl
    rw [e]
    refine ⟨by rw [b.1,a.1],by rw [b.2.1,a.2.1],?_⟩
    have:=b.2.2
    rw [List.length_cons];omega
end Tn
namespace Tn
end Tn
namespace Tn
end Tn
namespace Tn
structure Grp (day:Nat→Int) (q:List Nat) (gs:List (Int × List Nat)):Prop where
  flat:(gs.map (·.2)).flatten=q
  ord:(gs.map (·.1)).Pairwise (·<·)
  grp:∀ g∈gs,g.2≠[]∧∀ k∈g.2,day k=g.1
theorem Grp.start (day:Nat→Int):Grp day [] []:=⟨rfl,.nil,fun _ h=>nomatch h⟩
theorem Grp.mem {day:Nat→Int} {q:List Nat} {gs:List (Int × List Nat)} (h:Grp day q gs) {g:Int × List Nat} (hg:g∈gs):∃ k∈q,day k=g.1:=by
  obtain ⟨h1,h2⟩:=h.grp g hg
  cases e:g.2 with
  | nil=>exact absurd e h1
  | cons k r =>
    refine ⟨k,?_,h2 k (by rw [e];exact List.mem_cons_self)⟩
    rw [← h.flat]
    exact List.mem_flatten.mpr ⟨g.2,List.mem_map_of_mem hg,by rw [e];exact List.mem_cons_self⟩
theorem Grp.new {day:Nat→Int} {q:List Nat} {gs:List (Int × List Nat)} {k:Nat} (h:Grp day q gs) (hn:∀ g∈gs,g.1≠day k) (hq:∀ j∈q,day j≤day k):Grp day (q++[k]) (gs++[(day k,[k])]):=by
  refine ⟨?_,?_,fun g hg=>?_⟩
  · rw [List.map_append,List.flatten_append,h.flat];rfl
  · rw [List.map_append,List.pairwise_append]
    refine ⟨h.ord,by simp,fun a ha b hb=>?_⟩
    obtain ⟨g,hg,rfl⟩:=List.mem_map.mp ha
    have hb:b=day k:=by simpa using hb
    subst hb
    obtain ⟨j,hj,e⟩:=h.mem hg
    have:=hq j hj
    have:=hn g hg
    omega
  · rcases List.mem_append.mp hg with e | e
    · exact h.grp g e
    · have:g=(day k,[k]):=by simpa using e
      subst this
      exact ⟨by simp,fun j hj=>by
        have:j=k:=by simpa using hj
        rw [this]⟩
theorem Grp.last {day:Nat→Int} {q:List Nat} {gs:List (Int × List Nat)} {k j:Nat} {g:Int × List Nat} (h:Grp day q gs) (hj:gs[j]?=some g) (hk:g.1=day k) (hq:∀ j∈q,day j≤day k):gs=gs.take j++[g]:=by
  obtain ⟨hl,e⟩:=List.getElem?_eq_some_iff.mp hj
  have hlen:gs.length=j + 1:=by
    refine Nat.le_antisymm (Nat.le_of_not_lt fun hlt=>?_) hl
    have ord:=List.pairwise_iff_getElem.mp h.ord j (j + 1) (by rw [List.length_map];exact hl) (by rw [List.length_map];exact hlt) (by omega)
    rw [List.getElem_map,List.getElem_map,e] at ord
    obtain ⟨i,hi,ei⟩:=h.mem (List.getElem_mem (l:=gs) (n:=j + 1) hlt)
    have:=hq i hi
    omega
  have:gs.take (j + 1)=gs.take j++[g]:=jX hj
  rw [← this,List.take_of_length_le (by omega)]
theorem Grp.more {day:Nat→Int} {q:List Nat} {gs:List (Int × List Nat)} {k j:Nat} {g:Int × List Nat} (h:Grp day q gs) (hj:gs[j]?=some g) (hk:g.1=day k) (hq:∀ j∈q,day j≤day k):Grp day (q++[k]) (gs.set j (g.1,g.2++[k])):=by
  have e:=h.last hj hk hq
  have hl:=(List.getElem?_eq_some_iff.mp hj).1
  have es:gs.set j (g.1,g.2++[k])=gs.take j++[(g.1,g.2++[k])]:=by
    conv=>lhs;rw [e]
    have:(gs.take j).length=j:=by rw [List.length_take];omega
    rw [List.set_append,if_neg (by omega),this,Nat.sub_self];rfl
  have hf:=h.flat
  have ho:=h.ord
  rw [e] at hf ho
  rw [List.map_append,List.flatten_append] at hf
  rw [List.map_append] at ho
  rw [es]
  refine ⟨?_,?_,fun g' hg'=>?_⟩
  · rw [List.map_append,List.flatten_append,← hf];simp
  · rw [List.map_append];exact ho
  · rcases List.mem_append.mp hg' with e' | e'
    · exact h.grp g' (List.mem_of_mem_take e')
    · have:g'=(g.1,g.2++[k]):=by simpa using e'
      subst this
      refine ⟨by simp,fun i hi=>?_⟩
      rcases List.mem_append.mp hi with z | z
      · exact (h.grp g (List.mem_of_getElem? hj)).2 i z
      · have:i=k:=by simpa using z
        rw [this,hk]
structure Rk (day:Nat→Int) (n:Nat) (p:List Nat):Prop where
  perm:p.Perm (List.range n)
  ord:p.Pairwise fun i j=>day i<day j∨day i=day j∧i<j
theorem Rk.len {day:Nat→Int} {n:Nat} {p:List Nat} (h:Rk day n p):p.length=n:=by rw [h.perm.length_eq,List.length_range]
theorem Rk.lt {day:Nat→Int} {n:Nat} {p:List Nat} (h:Rk day n p) {j:Nat} (hj:j∈p):j<n:=List.mem_range.mp (h.perm.mem_iff.mp hj)
theorem Rk.before {day:Nat→Int} {n:Nat} {p:List Nat} (h:Rk day n p) {i k:Nat} (hi:p[i]?=some k):∀ j∈p.take i,day j≤day k:=fun j hj=>by
  obtain ⟨hl,e⟩:=List.getElem?_eq_some_iff.mp hi
  obtain ⟨m,hm,em⟩:=List.getElem_of_mem hj
  rw [List.length_take] at hm
  rw [List.getElem_take] at em
  have:=List.pairwise_iff_getElem.mp h.ord m i (by omega) hl (by omega)
  rw [em,e] at this
  omega
theorem pB {α:Type}:∀ {L:List (List α)} {g:List α},g∈L→g.Sublist L.flatten
  | [],_,h=>nomatch h
  | x :: L,g,h=>by
    rw [List.flatten_cons]
    rcases List.mem_cons.mp h with e | e
    · rw [e];exact List.sublist_append_left _ _
    · exact (pB e).trans (List.sublist_append_right _ _)
theorem Grp.up {day:Nat→Int} {n:Nat} {p:List Nat} {gs:List (Int × List Nat)} (h:Grp day p gs) (r:Rk day n p) {g:Int × List Nat} (hg:g∈gs):g.2.Pairwise (·<·):=by
  have hs:g.2.Sublist p:=by rw [← h.flat];exact pB (List.mem_map_of_mem hg)
  have:=r.ord.sublist hs
  refine List.Pairwise.imp_of_mem (fun {a b} ha hb hab=>?_) this
  have ea:=(h.grp g hg).2 a ha
  have eb:=(h.grp g hg).2 b hb
  omega
def inG (gs:List (Int × List Nat)) (j:Nat) (k:Nat):Prop:=∃ g∈gs.take j,k∈g.2
theorem Fj (gs:List (Int × List Nat)) (k:Nat):¬ inG gs 0 k:=fun ⟨_,h,_⟩=>by simp at h
theorem Fo {gs:List (Int × List Nat)} {j:Nat} {g:Int × List Nat} (h:gs[j]?=some g) (k:Nat):inG gs (j + 1) k↔inG gs j k∨k∈g.2:=by
  unfold inG
  rw [jX h]
  constructor
  · rintro ⟨g',h1,h2⟩
    rcases List.mem_append.mp h1 with e | e
    · exact .inl ⟨g',e,h2⟩
    · have:g'=g:=by simpa using e
      rw [this] at h2;exact .inr h2
  · rintro (⟨g',h1,h2⟩ | h)
    · exact ⟨g',List.mem_append_left _ h1,h2⟩
    · exact ⟨g,List.mem_append_right _ (by simp),h⟩
theorem Grp.all {day:Nat→Int} {n:Nat} {p:List Nat} {gs:List (Int × List Nat)} (h:Grp day p gs) (r:Rk day n p) {k:Nat} (hk:k<n):inG gs gs.length k:=by
  have hm:k∈p:=r.perm.mem_iff.mpr (List.mem_range.mpr hk)
  rw [← h.flat] at hm
  obtain ⟨l,hl,hkl⟩:=List.mem_flatten.mp hm
  obtain ⟨g,hg,rfl⟩:=List.mem_map.mp hl
  exact ⟨g,by rw [List.take_length];exact hg,hkl⟩
theorem Grp.later {day:Nat→Int} {p:List Nat} {gs:List (Int × List Nat)} (h:Grp day p gs) {j:Nat} {g:Int × List Nat} (hj:gs[j]?=some g) {k:Nat} (hk:inG gs j k):day k<g.1:=by
  obtain ⟨g',h1,h2⟩:=hk
  obtain ⟨hl,e⟩:=List.getElem?_eq_some_iff.mp hj
  obtain ⟨m,hm,em⟩:=List.getElem_of_mem h1
  rw [List.length_take] at hm
  rw [List.getElem_take] at em
  have ord:=List.pairwise_iff_getElem.mp h.ord m j (by rw [List.length_map];omega) (by rw [List.length_map];exact hl) (by omega)
  rw [List.getElem_map,List.getElem_map,e,em] at ord
  rw [(h.grp g' (List.mem_of_mem_take h1)).2 k h2];exact ord
end Tn
namespace Tn
theorem lW {n:Nat} {W W':Nat→List Int} {x x':Nat→Int} (hW:∀ k,k<n→W k=W' k) (hx:∀ k,k<n→x k=x' k) (r:Int):hold n W x r=hold n W' x' r :=
  bD fun k hk=>by rw [hW k hk,hx k hk]
theorem Fit.zu {n:Nat} {F F':Int→Int} {W W':Nat→List Int} {want want' x x':Nat→Int} (h:Fit n F W want x) (hW:∀ k,k<n→W k=W' k) (hw:∀ k,k<n→want k=want' k) (hx:∀ k,k<n→x k=x' k) (hF:∀ r,(∃ k,k<n∧r∈W k)→F r=F' r):Fit n F' W' want' x':=by
  refine ⟨fun k hk=>by rw [← hx k hk];exact h.nn k hk,fun k hk=>by rw [← hx k hk,← hw k hk];exact h.le k hk,fun r hr=>?_⟩
  obtain ⟨k,hk,hm⟩:=hr
  have hr:∃ k,k<n∧r∈W k:=⟨k,hk,by rw [hW k hk];exact hm⟩
  rw [← lW hW hx r,← hF r hr]
  exact h.fits r hr
theorem qx.zu {n:Nat} {F F':Int→Int} {W W':Nat→List Int} {day want want' x x':Nat→Int} (h:qx n F W day want x) (hW:∀ k,k<n→W k=W' k) (hw:∀ k,k<n→want k=want' k) (hx:∀ k,k<n→x k=x' k) (hF:∀ r,(∃ k,k<n∧r∈W k)→F r=F' r):qx n F' W' day want' x':=by
  intro k hk hl
  rw [← hx k hk,← hw k hk] at hl
  obtain ⟨r,h1,h2,h3⟩:=h k hk hl
  refine ⟨r,by rw [← hW k hk];exact h1,by rw [← lW hW hx r,← hF r ⟨k,hk,h1⟩];exact h2,fun j hj hr hp=>?_⟩
  rw [← hx j hj,← hx k hk]
  exact h3 j hj (by rw [hW j hj];exact hr) (by rw [hx j hj];exact hp)
theorem zL.zu {n:Nat} {F:Int→Int} {W:Nat→List Int} {day want x x':Nat→Int} {Pz Pz':Nat→Prop} (D:zL n F W day want x Pz) (hx:∀ k,x k=x' k) (hP:∀ k,Pz k↔Pz' k):zL n F W day want x' Pz':=by
  have e:x=x':=funext hx
  have e':Pz=Pz':=funext fun k=>propext (hP k)
  rw [← e,← e'];exact D
structure zK (n:Nat) (fs:List Int) (W:Nat→List Int) (day want:Nat→Int) (gs:List (Int × List Nat)) (j:Nat) (xs fl:List Int):Prop where
  xl:xs.length=n
  fll:fl.length=fs.length
  left:∀ i:Nat,i<fs.length→fl.getD i 0=fs.getD i 0 - hold n W (fX xs) (i:Int)
  inv:zL n (fF fs) W day want (fX xs) (inG gs j)
theorem BW {fs:List Int} {a:Int} (h:a∈fs):∃ i,i<fs.length∧fs.getD i 0=a:=by
  obtain ⟨i,hi,e⟩:=List.getElem_of_mem h
  exact ⟨i,hi,by rw [List.getD_eq_getElem?_getD,List.getElem?_eq_getElem hi];exact e⟩
theorem nJ {fs:List Int} {i:Nat} (h:i<fs.length):fs.getD i 0∈fs:=by
  rw [List.getD_eq_getElem?_getD,List.getElem?_eq_getElem h];exact List.getElem_mem h
theorem X3 {fs:List Int} (hf:∀ a∈fs,0≤a) (r:Int):0≤fF fs r:=by
  unfold fF
  by_cases h:r.toNat<fs.length
  · exact hf _ (nJ h)
  · rw [List.getD_eq_getElem?_getD,List.getElem?_eq_none (by omega)];exact Int.le_refl _
theorem zK.start {n:Nat} {fs:List Int} {W:Nat→List Int} {day want:Nat→Int} (gs:List (Int × List Nat)) (hw:∀ k,k<n→0≤want k) (hf:∀ a∈fs,0≤a):zK n fs W day want gs 0 (List.replicate n 0) fs:=by
  have e:∀ k,fX (List.replicate n 0) k=0:=fun k=>jy n k
  refine ⟨by simp,rfl,fun i _=>?_,?_⟩
  · have:hold n W (fX (List.replicate n 0)) (i:Int)=0:=by
      rw [lW (W':=W) (x':=fun _=>0) (fun _ _=>rfl) (fun k _=>e k),jK]
    omega
  · exact (zL.start (day:=day) hw fun r _=>X3 hf r).zu (fun k=>(e k).symm) fun k=>⟨fun z=>z.elim,fun z=>absurd z (Fj gs k)⟩
theorem Cw {n:Nat} {W:Nat→List Int} {x:Nat→Int} {r:Int} (h:¬ ∃ k,k<n∧r∈W k):hold n W x r=0:=by
  unfold hold
  rw [bD (g:=fun _=>0) fun k hk=>if_neg fun z=>h ⟨k,hk,z⟩,jd]
theorem zK.nn {n:Nat} {fs:List Int} {W:Nat→List Int} {day want:Nat→Int} {gs:List (Int × List Nat)} {j:Nat} {xs fl:List Int} (h:zK n fs W day want gs j xs fl) (hf:∀ a∈fs,0≤a):∀ a∈fl,0≤a:=fun a ha=>by
  obtain ⟨i,hi,rfl⟩:=BW ha
  rw [h.fll] at hi
  rw [h.left i hi]
  by_cases hw:∃ k,k<n∧(i:Int)∈W k
  · have:=h.inv.fit.fits (i:Int) hw
    rw [qU] at this
    omega
  · rw [Cw hw]
    have:=hf _ (nJ hi)
    omega
theorem zK.step {n:Nat} {fs:List Int} {W:Nat→List Int} {day want:Nat→Int} {gs:List (Int × List Nat)} {j:Nat} {xs fl ys left cur:List Int} {q:List Nat} {t:Int} {g:Int × List Nat} (h:zK n fs W day want gs j xs fl) (G:Grp day q gs) (R:Rk day n q) (hj:gs[j]?=some g)
    (hW:∀ k,k<n→WOk fs.length (W k)) (L:qz fl (g.2.map W) (g.2.map want) left ys [] t) (hcl:cur.length=n) (hc:∀ k,fX cur k=over (fX xs) g.2 (fX ys) k):zK n fs W day want gs (j + 1) cur left:=by
  have hgm:=List.mem_of_getElem? hj
  have up:=G.up R hgm
  have nd:=gC up
  have hlt:∀ k∈g.2,k<n:=fun k hk=>R.lt (by rw [← G.flat];exact List.mem_flatten.mpr ⟨g.2,List.mem_map_of_mem hgm,hk⟩)
  have hn:∀ k∈g.2,¬ inG gs j k:=fun k hk z=>by
    have:=G.later hj z
    have:=(G.grp g hgm).2 k hk
    omega
  have hz:∀ k∈g.2,fX xs k=0:=fun k hk=>h.inv.zero k (hlt k hk) (hn k hk)
  have hlen:(g.2.map W).length=g.2.length:=List.length_map _
  have eW:∀ i,i<(g.2.map W).length→fW (g.2.map W) i=W (g.2.getD i 0):=fun i hi=>by
    rw [hlen] at hi
    unfold fW
    rw [List.getD_eq_getElem?_getD,List.getElem?_map,List.getElem?_eq_getElem hi,lX hi];rfl
  have ew:∀ i,i<(g.2.map W).length→fX (g.2.map want) i=want (g.2.getD i 0):=fun i hi=>by
    rw [hlen] at hi
    unfold fX
    rw [List.getD_eq_getElem?_getD,List.getElem?_map,List.getElem?_eq_getElem hi,lX hi];rfl
  have eF:∀ r,(∃ k,k<(g.2.map W).length∧r∈fW (g.2.map W) k)→fF fl r=fF fs r - hold n W (fX xs) r:=fun r hr=>by
    obtain ⟨i,hi,hm⟩:=hr
    rw [eW i hi] at hm
    have hk:g.2.getD i 0<n:=hlt _ (by rw [lX (by omega)];exact List.getElem_mem (by omega))
    obtain ⟨r0,r1⟩:=(hW _ hk).2 r hm
    obtain ⟨rn,rfl⟩:=Int.eq_ofNat_of_zero_le r0
    rw [qU,qU]
    exact h.left rn (by omega)
  obtain ⟨fy,sy⟩:=L.inv.finish fun k _=>by simp [fG]
  have fy:=fy.zu eW ew (x':=fX ys) (fun _ _=>rfl) eF
  have sy:=sy.zu eW ew (x':=fX ys) (fun _ _=>rfl) eF
  rw [hlen] at fy sy
  have st:=h.inv.step up (d:=g.1) (fun k hk=>⟨hlt k hk,(G.grp g hgm).2 k hk,hn k hk⟩) (fun k hk=>G.later hj hk) fy sy
  refine ⟨hcl,by rw [L.ll,h.fll],fun i hi=>?_,st.zu (fun k=>(hc k).symm) fun k=>(Fo hj k).symm⟩
  rw [L.left i (by rw [h.fll];exact hi),h.left i hi,lW (W':=W) (x':=over (fX xs) g.2 (fX ys)) (fun _ _=>rfl) (fun k _=>hc k) (i:Int),uO (i:Int) nd hlt hz,lW (x':=fX ys) eW (fun _ _=>rfl) (i:Int),hlen]
  omega
theorem zK.finish {n:Nat} {fs:List Int} {W:Nat→List Int} {day want:Nat→Int} {gs:List (Int × List Nat)} {xs fl:List Int} {q:List Nat} (h:zK n fs W day want gs gs.length xs fl) (G:Grp day q gs) (R:Rk day n q):Fit n (fF fs) W want (fX xs)∧qx n (fF fs) W day want (fX xs) :=
  h.inv.finish fun k hk=>G.all R hk
theorem Bq {x y:Nat→Int} {g:List Nat} {i m:Nat} (nd:g.Nodup) (h:g[i]?=some m) (k:Nat):over x (g.take (i + 1)) y k=if k=m then y i else over x (g.take i) y k:=by
  obtain ⟨hi,e⟩:=List.getElem?_eq_some_iff.mp h
  have hm:¬ m∈g.take i:=fun z=>by
    obtain ⟨a,ha,ea⟩:=List.getElem_of_mem z
    rw [List.length_take] at ha
    rw [List.getElem_take] at ea
    have:=(List.getElem_inj nd).mp (ea.trans e.symm)
    omega
  unfold over
  rw [jX h]
  by_cases hk:k=m
  · subst hk
    rw [if_pos rfl,if_pos (by simp),List.idxOf_append,if_neg hm,List.length_take]
    simp
    congr 1
    omega
  · rw [if_neg hk]
    by_cases hb:k∈g.take i
    · rw [if_pos (by simp [hb]),if_pos hb,List.idxOf_append,if_pos hb]
    · rw [if_neg (by simp [hb,hk]),if_neg hb]
end Tn
namespace Rv
theorem Eb {r:List Int} (h:dJ r) {p b:Int} (h0:0≤p) (h1:p<r.length):Tn.WOk r.length (dB r p b):=⟨rM h h0 h1,fun q hq=>rC h p h0 h1 q (uc hq)⟩
end Rv
namespace Rv
structure Lnk (n:Nat) (sp:Nat→Int) (k:Nat) (b:List Int):Prop where
  len:b.length=n
  at_:∀ (i:Nat) (x:Int),b[i]?=some x→x=-1∨∃ j m,j<m∧m<k∧m<n∧sp m=(i:Int)∧x=sp j
theorem Lnk.skip {n:Nat} {sp:Nat→Int} {k:Nat} {b:List Int} (h:Lnk n sp k b):Lnk n sp (k + 1) b :=
  ⟨h.len,fun i x hx=>(h.at_ i x hx).imp id fun ⟨j,m,h1,h2,h3⟩=>⟨j,m,h1,by omega,h3⟩⟩
theorem Lnk.turn {n:Nat} {sp:Nat→Int} {k j:Nat} {b:List Int} (h:Lnk n sp k b) (hk:k<n) (hj:j<k) (h0:0≤sp k):Lnk n sp (k + 1) (b.set (sp k).toNat (sp j)):=by
  refine ⟨by rw [List.length_set];exact h.len,fun i x hx=>?_⟩
  rw [List.getElem?_set] at hx
  split at hx
  · rename_i e
    split at hx
    · exact .inr ⟨j,k,hj,by omega,hk,by omega,(Option.some.inj hx).symm⟩
    · cases hx
  · exact h.skip.at_ i x hx
theorem Lnk.Wm {n:Nat} {sp:Nat→Int} {k:Nat} {b:List Int} (h:Lnk n sp k b) (h0:∀ k,0≤sp k) (h1:∀ k,sp k<n) (inj:∀ j k,j<n→k<n→sp j=sp k→j=k) (hn:0<n):dJ b:=by
  classical
  let rk:Nat→Nat:=fun i=>if h:∃ k,k<n∧sp k=(i:Int) then h.choose else 0
  have rk_at:∀ k,k<n→rk (sp k).toNat=k:=fun k hk=>by
    have hex:∃ m,m<n∧sp m=((sp k).toNat:Int):=⟨k,hk,by have:=h0 k;omega⟩
    show (if h:∃ m,m<n∧sp m=((sp k).toNat:Int) then h.choose else 0)=k
    rw [dif_pos hex]
    obtain ⟨a1,a2⟩:=hex.choose_spec
    exact inj _ _ a1 hk (by have:=h0 k;omega)
  refine ⟨rk,fun i _=>?_,fun i x hx=>?_⟩
  · rw [h.len]
    show (if h:∃ k,k<n∧sp k=(i:Int) then h.choose else 0)<n
    split
    · rename_i hex;exact hex.choose_spec.1
    · exact hn
  · rcases h.at_ i x hx with e | ⟨j,m,hjm,_,hm,e,rfl⟩
    · exact .inl e
    · refine .inr ⟨h0 j,by rw [h.len];exact h1 j,?_⟩
      have ei:i=(sp m).toNat:=by have:=h0 m;omega
      rw [ei,rk_at m hm,rk_at j (by omega)]
      exact hjm
end Rv
namespace Tn
end Tn
namespace Rv
theorem rJ (f:Nat→Int):∀ n,tot n f=Tn.iV n f
  | 0=>rfl
  | n + 1=>by show tot n f + f n=Tn.iV n f + f n;rw [rJ f n]
theorem N6 {r s:List Int} {t:Int} (h0:0≤t) (h1:t<r.length):Tn.fF (nats r s) t=lN r s t:=by
  unfold Tn.fF nats
  rw [List.getD_eq_getElem?_getD,List.getElem?_map,List.getElem?_range (by omega)]
  show lN r s (t.toNat:Int)=_
  rw [Int.toNat_of_nonneg h0]
end Rv
namespace Tn
end Tn
namespace Tn
end Tn
namespace Rv
end Rv
namespace Tn
end Tn
namespace Rv
def pL (n s x:Int) (k:Nat):Int:=(s * (k:Int) + x) % n
theorem xu {n s x:Int} (hn:0<n) (k:Nat):0≤pL n s x k:=Int.emod_nonneg _ (by omega)
theorem xG {n s x:Int} (hn:0<n) (k:Nat):pL n s x k<n:=Int.emod_lt_of_pos _ hn
def ni (n s x:Int) (m:Nat):List Int:=(List.range m).map (pL n s x)
theorem yW (n s x:Int) (m:Nat):(ni n s x m).length=m:=by simp [ni]
theorem vN (n s x:Int) (m:Nat):ni n s x (m + 1)=ni n s x m++[pL n s x m]:=by
  unfold ni;rw [List.range_succ,List.map_append];rfl
theorem uf {n s x:Int} {m k:Nat} (h:k<m):(ni n s x m)[k]?=some (pL n s x k):=by
  unfold ni;rw [List.getElem?_map,List.getElem?_range h];rfl
theorem Lnk.Pj (n:Nat) (sp:Nat→Int):Lnk n sp 0 (List.replicate n (-1)) :=
  ⟨by simp,fun i x h=>.inl (by
    rw [List.getElem?_replicate] at h
    split at h
    · exact (Option.some.inj h).symm
    · cases h)⟩
end Rv
namespace Tn
theorem qT {α:Type} (p:α→Bool) (a:α):[a].filter p=if p a=true then [a] else []:=by
  by_cases h:p a=true
  · rw [if_pos h,List.filter_cons_of_pos h];rfl
  · rw [if_neg h,List.filter_cons_of_neg h];rfl
end Tn
namespace Rv
theorem vM:∀ n:Fin 13,∀ d:Fin 13,d.val<n.val→d.val≠0→(1 * d.val) % n.val≠0∧(13 * d.val) % n.val≠0∧(17 * d.val) % n.val≠0∧(19 * d.val) % n.val≠0:=by decide +kernel
theorem ug {n:Nat} {s x:Int} (h12:n≤12) (hs:s=1∨s=13∨s=17∨s=19) {j k:Nat} (hk:k<n) (hjk:j<k):pL n s x j≠pL n s x k:=by
  intro h
  unfold pL at h
  have h2:((s * (k:Int) + x) - (s * (j:Int) + x)) % (n:Int)=0:=Int.emod_eq_emod_iff_emod_sub_eq_zero.mp h.symm
  have e:(s * (k:Int) + x) - (s * (j:Int) + x)=s * ((k - j:Nat):Int):=by
    rw [Int.ofNat_sub (by omega),Int.mul_sub];omega
  rw [e] at h2
  obtain ⟨f1,f2,f3,f4⟩:=vM ⟨n,by omega⟩ ⟨k - j,by omega⟩ (by show k - j<n;omega) (by show k - j≠0;omega)
  have key:∀ t:Nat,(t * (k - j)) % n≠0→((t:Int) * ((k - j:Nat):Int)) % (n:Int)≠0:=fun t ht z=>ht (by
    have:(((t * (k - j)) % n:Nat):Int)=0:=by rw [Int.natCast_emod,Int.natCast_mul];exact z
    omega)
  rcases hs with rfl | rfl | rfl | rfl
  · exact key 1 f1 h2
  · exact key 13 f2 h2
  · exact key 17 f3 h2
  · exact key 19 f4 h2
theorem Ag {n:Nat} {s x:Int} (h12:n≤12) (hs:s=1∨s=13∨s=17∨s=19) {j k:Nat} (hj:j<n) (hk:k<n) (h:pL n s x j=pL n s x k):j=k:=by
  rcases Nat.lt_trichotomy j k with c | c | c
  · exact absurd h (ug h12 hs hk c)
  · exact c
  · exact absurd h.symm (ug h12 hs hj c)
end Rv
namespace My
open PySem L2
local macro_rules | `(tactic| walk_at "new") => `(tactic| (generalize hE : upd _ _ _ = Hn; have On := Ow.mkE (by assumption) (by assumption) hE rfl; clear hE; revert On; revert Hn))
local macro_rules | `(tactic| walk_at "put") => `(tactic| (generalize hE : upd _ _ _ = Hn; (first | have On := Ow.vW (by assumption) 0 rfl hE rfl | have On := Ow.vW (by assumption) 1 rfl hE rfl | have On := Ow.vW (by assumption) 2 rfl hE rfl | have On := Ow.vW (by assumption) 3 rfl hE rfl | have On := Ow.vW (by assumption) 4 rfl hE rfl | have On := Ow.vW (by assumption) 5 rfl hE rfl); clear hE; (try simp only [List.set_cons_zero, List.set_cons_succ] at On); revert On; revert Hn))
set_option hygiene false
local macro_rules | `(tactic| walk_at "get") => `(tactic| first | assumption | exact O.get 0 | exact O.get 1 | exact O.get 2 | exact O.get 3 | exact O.get 4 | exact O.get 5 | exact O.get 6 | exact O.get 7 | exact O.get 8 | exact O.get 9 | exact O.get 10 | exact O.get 11 | exact O.get 12 | fail)
local macro_rules | `(tactic| walk_at "sq") => `(tactic| first | assumption | exact O.sq 0 | exact O.sq 1 | exact O.sq 2 | exact O.sq 3 | exact O.sq 4 | exact O.sq 5 | exact O.sq 6 | exact O.sq 7 | exact O.sq 8 | exact O.sq 9 | exact O.sq 10 | exact O.sq 11 | exact O.sq 12 | exact SqL.mo (by assumption) O.same | exact SqL.mo (by assumption) (s0.trans O.same) | fail)
local macro_rules | `(tactic| walk_at "sqT") => `(tactic| first | assumption | exact O.sqT 0 | exact O.sqT 1 | exact O.sqT 2 | exact O.sqT 3 | exact O.sqT 4 | exact O.sqT 5 | exact O.sqT 6 | exact O.sqT 7 | exact SqT.mo (by assumption) O.same | exact SqT.mo (by assumption) (s0.trans O.same) | fail)
local macro_rules | `(tactic| walk_at "at") => `(tactic| first | rfl | exact bZ (by assumption) | exact cN (by assumption) | exact aV (by omega) (by omega) | exact QS _ _ | exact ints_last (by omega) | exact aV (ns := [_, _]) (by omega) (by simp only [List.length_cons, List.length_nil]; omega) | exact aV (ns := [_, _, _]) (by omega) (by simp only [List.length_cons, List.length_nil]; omega) | exact aV (ns := [_, _, _, _]) (by omega) (by simp only [List.length_cons, List.length_nil]; omega) | exact aV (ns := [_, _, _, _, _]) (by omega) (by simp only [List.length_cons, List.length_nil]; omega) | exact aV (ns := [_, _, _, _, _, _]) (by omega) (by simp only [List.length_cons, List.length_nil]; omega) | exact aV (ns := [_, _, _, _, _, _, _]) (by omega) (by simp only [List.length_cons, List.length_nil]; omega) | exact aV (ns := [_, _, _, _, _, _, _, _]) (by omega) (by simp only [List.length_cons, List.length_nil]; omega) | fail)
local macro_rules | `(tactic| walk_at "c") => `(tactic| first | omega | (simp only [List.length_map]; omega) | exact szl | (show (0 : Int) < _; decide) | (show (0 : Int) < _; omega) | exact ⟨by decide, by decide⟩ | exact .inl ⟨by decide, by decide⟩ | exact .inr ⟨by decide, by decide⟩ | exact ⟨by decide, by decide, by decide⟩ | exact .inl ⟨by omega, by omega⟩ | exact .inr ⟨by omega, by omega⟩ | exact ⟨by omega, by omega⟩ | (split <;> omega) | fail)
local macro_rules | `(tactic| walk_at "ty") => `(tactic| first | exact .int _ | exact .bl _ | exact .lst (by walk_at "get") | exact .tup (by walk_at "get") | exact .non | fail)
local macro_rules | `(tactic| walk_at "kit") => `(tactic| first | exact GQ K | exact GR K | exact GP K | exact kit_bb K | exact kit_bi K | exact Cg K | fail)
local macro_rules | `(tactic| walk_at "sz") => `(tactic| exact aP (by (try simp only [List.length_map, List.length_append, List.length_cons, List.length_nil]); omega))
local macro_rules | `(tactic| walk_at "s") => `(tactic| first | refine Vw ?_ | refine ⟨_, rfl, ?_⟩ | refine ⟨_, _, rfl, rfl, ?_⟩ | refine And.intro rfl ?_ | refine And.intro (by walk_at "c") ?_ | refine ⟨_, _, _, _, rfl, rfl, (show SqL _ _ _ _ by walk_at "sq"), (show atI _ _ = some _ by walk_at "at"), ?_⟩ | refine ⟨_, _, _, _, rfl, rfl, (show SqT _ _ _ _ by walk_at "sqT"), (show atI _ _ = some _ by walk_at "at"), ?_⟩ | refine ⟨_, _, rfl, .inl (show SqL _ _ _ _ by walk_at "sq"), ?_⟩ | refine ⟨_, _, rfl, .inr (show SqT _ _ _ _ by walk_at "sqT"), ?_⟩ | refine ⟨_, _, rfl, (show SqL _ _ _ _ by walk_at "sq"), ?_⟩ | refine And.intro ⟨_, (show SqL _ _ _ _ by walk_at "sq")⟩ ?_ | refine And.intro (.inl ⟨rfl, _, (show SqL _ _ _ _ by walk_at "sq")⟩) ?_ | refine ⟨_, _, _, _, rfl, (show wK _ _ _ _ by walk_at "ty"), (show PySem.W.kitOne _ _ _ = some _ by walk_at "kit"), ?_⟩ | refine ⟨_, _, rfl, ?_⟩ | fail)
local macro_rules | `(tactic| walk_at "w") => `(tactic| repeat walk_at "s")
local macro_rules | `(tactic| walk_at "if") => `(tactic| first | refine Cp ?_ | refine pA ?_ | refine ifN ?_ | refine ifI (fun hc => ?_) (fun hc => ?_) | refine ifD (fun hc => ?_) (fun hc => ?_) | refine ifB (fun hc => ?_) (fun hc => ?_) | fail)
local macro_rules | `(tactic| walk_at "go") => `(tactic| repeat' (first | walk_at "if" | walk_at "s" | fail))
local macro_rules | `(tactic| walk_at "nw") => `(tactic| (generalize hE : upd _ _ _ = Hn; replace O := Ow.mkE O (by assumption) hE rfl; clear hE))
local macro_rules | `(tactic| walk_at "pt") => `(tactic| (generalize hE : upd _ _ _ = Hn; (first | replace O := Ow.vW O 0 rfl hE rfl | replace O := Ow.vW O 1 rfl hE rfl | replace O := Ow.vW O 2 rfl hE rfl | replace O := Ow.vW O 3 rfl hE rfl | replace O := Ow.vW O 4 rfl hE rfl | replace O := Ow.vW O 5 rfl hE rfl | replace O := Ow.vW O 6 rfl hE rfl | replace O := Ow.vW O 7 rfl hE rfl); clear hE; (try simp only [List.set_cons_zero, List.set_cons_succ] at O)))
local macro_rules | `(tactic| walk_at "app") => `(tactic| (refine ⟨_, _, _, rfl, rfl, (by walk_at "get"), (by walk_at "sz"), ?_⟩; walk_at "pt"))
local macro_rules | `(tactic| walk_at "elt") => `(tactic| (refine ⟨_, (by walk_at "get"), (by walk_at "sz"), ?_⟩; walk_at "pt"))
local macro_rules | `(tactic| walk_at "frz") => `(tactic| (obtain ⟨Hn, On, sn, en⟩ := O.frz; clear O; have O := On; clear On; (try replace s0 := s0.mo sn); (try replace d0 := d0.mo sn); (try replace d1 := d1.mo sn); (try replace d2 := d2.mo sn); (try replace d3 := d3.mo sn); (try replace d4 := d4.mo sn); (try replace d5 := d5.mo sn); (try replace d6 := d6.mo sn); (try replace d7 := d7.mo sn)))
local macro_rules | `(tactic| walk_at "mo") => `(tactic| ((try simp only [List.eraseIdx_cons_zero, List.eraseIdx_cons_succ] at O); (try replace s0 := s0.mo sn); (try replace d0 := d0.mo sn); (try replace d1 := d1.mo sn); (try replace d2 := d2.mo sn); (try replace d3 := d3.mo sn); (try replace d4 := d4.mo sn); (try replace d5 := d5.mo sn); (try replace d6 := d6.mo sn); (try replace d7 := d7.mo sn)))
local macro_rules | `(tactic| walk_at "er") => `(tactic| simp only [List.eraseIdx_cons_zero, List.eraseIdx_cons_succ] at O)
local macro_rules | `(tactic| walk_at "jn") => `(tactic| simp only [List.cons_append, List.nil_append] at O)
def top (i:Nat):Stmt:=PySem.Challenge.pw_sluice_k48_whole_days_on_end.main.body.getD i (.Pass ⟨0,0,0,0⟩)
theorem nA (n:Nat) (x:Int):(List.replicate n [V.int x]).flatten=(List.replicate n x).map V.int:=by rw [List.map_replicate];exact M7 _ _
theorem qt {w cur:List Int} {c z:Int} {j:Nat} (hz:w[j]?=some z):Tn.bump cur (w.take (j + 1)) c=(Tn.bump cur (w.take j) c).set z.toNat ((Tn.bump cur (w.take j) c).getD z.toNat 0 + c):=by
  rw [List.take_add_one,hz];exact Tn.Dm _ _ _ _
abbrev iY:Stmt:=top 7
theorem ux:aX ["below","reach","way"] ["below","reach"] (ao iY):=⟨rfl,rfl,rfl,by decide +kernel,rfl,by decide +kernel,by decide +kernel⟩
def xH (K:PySem.W.Frag):Sp:=fun vs H Q _=>∃ (a:Addr) (r:List Int) (p:Int),vs=[.ref a,.int p]∧SqL K H a (r.map V.int)∧Rv.dJ r∧0≤p∧p<r.length∧r.length≤900 ∧
  Vs H (fun xs=>xs=(Rv.walk r p).map V.int) Q
theorem Dp (pre:List Int) (z:Int):atI ((pre++[z]).map V.int) (-1)=some (V.int z):=by
  rw [List.map_append];exact Gb _ _
theorem sl_1 {a1:TS} {a2:TT} {a3:TS} {a5:TS} {D:Ends} {σ:St} {H:Hp} (h:let z4:TS:=a3;let z6:TS:=a5;let z7:TS:=aO (pH a2 z4) z6;(aO a1 z7) D σ H):(aO a1 (aO (pH a2 a3) a5)) D σ H:=h
theorem sl_2 {a1:TS} {a2:TI} {a3:TG} {a4:TT} {a5:TS} {a7:TS} {a9:TS} {D:Ends} {σ:St} {H:Hp} (h:let z6:TS:=a5;let z8:TS:=iH a4 z6 a7;let z10:TS:=a9;let z11:TS:=aO (jq a2 a3 z8) z10;(aO a1 z11) D σ H):(aO a1 (aO (jq a2 a3 (iH a4 a5 a7)) a9)) D σ H:=h
theorem sl_3 {a1:TS} {a2:TT} {a3:TS} {a5:TS} {a6:TT} {a7:TS} {a9:TS} {a10:TS} {D:Ends} {σ:St} {H:Hp} (h:let z4:TS:=a3;let z8:TS:=a7;let z11:TS:=a10;let z12:TS:=aO (iH a6 z8 a9) z11;let z13:TS:=aO (iH a2 z4 a5) z12;(aO a1 z13) D σ H):(aO a1 (aO (iH a2 a3 a5) (aO (iH a6 a7 a9) a10))) D σ H:=h
theorem VP {a1:TS} {a2:TS} {D:Ends} {σ:St} {H:Hp} (h:let z3:TS:=a2;(aO a1 z3) D σ H):(aO a1 a2) D σ H:=h
theorem Yh {a1:TS} {a2:TI} {a3:TG} {a4:TI} {a5:TG} {a6:TS} {a9:TS} {D:Ends} {σ:St} {H:Hp} (h:let z7:TS:=a6;let z8:TS:=jq a4 a5 z7;let z10:TS:=a9;let z11:TS:=aO (jq a2 a3 z8) z10;(aO a1 z11) D σ H):(aO a1 (aO (jq a2 a3 (jq a4 a5 a6)) a9)) D σ H:=h
theorem Yg {a1:TS} {a2:TS} {a3:TS} {D:Ends} {σ:St} {H:Hp} (h:let z4:TS:=a3;let z5:TS:=aO a2 z4;(aO a1 z5) D σ H):(aO a1 (aO a2 a3)) D σ H:=h
theorem sl_7 {a1:TI} {a2:TG} {a3:TS} {D:Ends} {σ:St} {H:Hp} (h:let z4:TS:=a3;(jq a1 a2 z4) D σ H):(jq a1 a2 a3) D σ H:=h
theorem sl_8 {a1:TS} {a2:TS} {a3:TI} {a4:TG} {a5:TS} {a6:TS} {D:Ends} {σ:St} {H:Hp} (h:let z7:TS:=a6;let z8:TS:=aO a5 z7;let z9:TS:=jq a3 a4 z8;let z10:TS:=aO a2 z9;(aO a1 z10) D σ H):(aO a1 (aO a2 (jq a3 a4 (aO a5 a6)))) D σ H:=h
theorem sl_9 {a1:TS} {a2:TI} {a3:TG} {a4:TT} {a5:TS} {a6:TS} {a7:TS} {a11:TS} {a13:TS} {D:Ends} {σ:St} {H:Hp} (h:let z8:TS:=a7;let z9:TS:=aO a6 z8;let z10:TS:=aO a5 z9;let z12:TS:=iH a4 z10 a11;let z14:TS:=a13;let z15:TS:=aO (jq a2 a3 z12) z14;(aO a1 z15) D σ H):(aO a1 (aO (jq a2 a3 (iH a4 (aO a5 (aO a6 a7)) a11)) a13)) D σ H:=h
theorem Wj {a1:TS} {a2:TS} {a3:TS} {a4:TT} {a5:TS} {a6:TS} {a9:TS} {D:Ends} {σ:St} {H:Hp} (h:let z7:TS:=a6;let z8:TS:=aO a5 z7;let z10:TS:=a9;let z11:TS:=aO (pH a4 z8) z10;let z12:TS:=aO a3 z11;let z13:TS:=aO a2 z12;(aO a1 z13) D σ H):(aO a1 (aO a2 (aO a3 (aO (pH a4 (aO a5 a6)) a9)))) D σ H:=h
theorem Wi {a1:TS} {a2:TI} {a3:TG} {a4:TS} {a6:TS} {D:Ends} {σ:St} {H:Hp} (h:let z5:TS:=a4;let z7:TS:=a6;let z8:TS:=aO (jq a2 a3 z5) z7;(aO a1 z8) D σ H):(aO a1 (aO (jq a2 a3 a4) a6)) D σ H:=h
theorem Wh {a1:TS} {a2:TS} {a3:TS} {a4:TI} {a5:TG} {a6:TS} {a7:TS} {a8:TI} {a9:TG} {a10:TS} {a15:TS} {D:Ends} {σ:St} {H:Hp} (h:let z11:TS:=a10;let z12:TS:=jq a8 a9 z11;let z13:TS:=aO a7 z12;let z14:TS:=aO a6 z13;let z16:TS:=a15;let z17:TS:=aO (jq a4 a5 z14) z16;let z18:TS:=aO a3 z17;let z19:TS:=aO a2 z18;(aO a1 z19) D σ H):(aO a1 (aO a2 (aO a3 (aO (jq a4 a5 (aO a6 (aO a7 (jq a8 a9 a10)))) a15)))) D σ H:=h
theorem Wg {a1:TS} {a2:TT} {a3:TS} {a5:TS} {a6:TT} {a7:TS} {a9:TS} {a10:TT} {a11:TS} {a13:TS} {D:Ends} {σ:St} {H:Hp} (h:let z4:TS:=a3;let z8:TS:=a7;let z12:TS:=a11;let z14:TS:=iH a10 z12 a13;let z15:TS:=aO (iH a6 z8 a9) z14;let z16:TS:=aO (iH a2 z4 a5) z15;(aO a1 z16) D σ H):(aO a1 (aO (iH a2 a3 a5) (aO (iH a6 a7 a9) (iH a10 a11 a13)))) D σ H:=h
theorem Wf {a1:TS} {a2:TI} {a3:TG} {a4:TS} {a5:TS} {a6:TS} {a10:TS} {D:Ends} {σ:St} {H:Hp} (h:let z7:TS:=a6;let z8:TS:=aO a5 z7;let z9:TS:=aO a4 z8;let z11:TS:=a10;let z12:TS:=aO (jq a2 a3 z9) z11;(aO a1 z12) D σ H):(aO a1 (aO (jq a2 a3 (aO a4 (aO a5 a6))) a10)) D σ H:=h
theorem PK {a1:TS} {a2:TI} {a3:TG} {a4:TS} {a5:TS} {a8:TS} {D:Ends} {σ:St} {H:Hp} (h:let z6:TS:=a5;let z7:TS:=aO a4 z6;let z9:TS:=a8;let z10:TS:=aO (jq a2 a3 z7) z9;(aO a1 z10) D σ H):(aO a1 (aO (jq a2 a3 (aO a4 a5)) a8)) D σ H:=h
theorem Wd {a1:TS} {a2:TS} {a3:TI} {a4:TG} {a5:TS} {a6:TS} {a7:TS} {a8:TS} {a9:TS} {a15:TS} {D:Ends} {σ:St} {H:Hp} (h:let z10:TS:=a9;let z11:TS:=aO a8 z10;let z12:TS:=aO a7 z11;let z13:TS:=aO a6 z12;let z14:TS:=aO a5 z13;let z16:TS:=a15;let z17:TS:=aO (jq a3 a4 z14) z16;let z18:TS:=aO a2 z17;(aO a1 z18) D σ H):(aO a1 (aO a2 (aO (jq a3 a4 (aO a5 (aO a6 (aO a7 (aO a8 a9))))) a15))) D σ H:=h
theorem Wc {a1:TI} {a2:TG} {a3:TS} {a5:TS} {D:Ends} {σ:St} {H:Hp} (h:let z4:TS:=a3;let z6:TS:=a5;(aO (jq a1 a2 z4) z6) D σ H):(aO (jq a1 a2 a3) a5) D σ H:=h
theorem Wb {a1:TT} {a2:TS} {a4:TS} {a5:TT} {a6:TS} {a8:TS} {a9:TS} {D:Ends} {σ:St} {H:Hp} (h:let z3:TS:=a2;let z7:TS:=a6;let z10:TS:=a9;let z11:TS:=aO (iH a5 z7 a8) z10;(aO (iH a1 z3 a4) z11) D σ H):(aO (iH a1 a2 a4) (aO (iH a5 a6 a8) a9)) D σ H:=h
theorem Wa {a1:TS} {a2:TI} {a3:TG} {a4:TS} {a5:TS} {a8:TI} {a9:TG} {a10:TS} {a12:TS} {D:Ends} {σ:St} {H:Hp} (h:let z6:TS:=a5;let z7:TS:=aO a4 z6;let z11:TS:=a10;let z13:TS:=a12;let z14:TS:=aO (jq a8 a9 z11) z13;let z15:TS:=aO (jq a2 a3 z7) z14;(aO a1 z15) D σ H):(aO a1 (aO (jq a2 a3 (aO a4 a5)) (aO (jq a8 a9 a10) a12))) D σ H:=h
theorem V9 {a1:TS} {a2:TS} {a3:TS} {a4:TS} {a5:TS} {a6:TS} {a7:TS} {D:Ends} {σ:St} {H:Hp} (h:let z8:TS:=a7;let z9:TS:=aO a6 z8;let z10:TS:=aO a5 z9;let z11:TS:=aO a4 z10;let z12:TS:=aO a3 z11;let z13:TS:=aO a2 z12;(aO a1 z13) D σ H):(aO a1 (aO a2 (aO a3 (aO a4 (aO a5 (aO a6 a7)))))) D σ H:=h
theorem PJ {a1:TT} {a2:TS} {a4:TS} {a5:TT} {a6:TS} {a8:TS} {a9:TT} {a10:TS} {a12:TS} {a13:TS} {D:Ends} {σ:St} {H:Hp} (h:let z3:TS:=a2;let z7:TS:=a6;let z11:TS:=a10;let z14:TS:=a13;let z15:TS:=aO (iH a9 z11 a12) z14;let z16:TS:=aO (iH a5 z7 a8) z15;(aO (iH a1 z3 a4) z16) D σ H):(aO (iH a1 a2 a4) (aO (iH a5 a6 a8) (aO (iH a9 a10 a12) a13))) D σ H:=h
theorem V8 {a1:TS} {a2:TS} {a3:TT} {a4:TS} {a5:TS} {a8:TS} {D:Ends} {σ:St} {H:Hp} (h:let z6:TS:=a5;let z7:TS:=aO a4 z6;let z9:TS:=a8;let z10:TS:=aO (pH a3 z7) z9;let z11:TS:=aO a2 z10;(aO a1 z11) D σ H):(aO a1 (aO a2 (aO (pH a3 (aO a4 a5)) a8))) D σ H:=h
theorem V7 {a1:TS} {a2:TS} {a3:TI} {a4:TG} {a5:TS} {a6:TS} {a9:TS} {D:Ends} {σ:St} {H:Hp} (h:let z7:TS:=a6;let z8:TS:=aO a5 z7;let z10:TS:=a9;let z11:TS:=aO (jq a3 a4 z8) z10;let z12:TS:=aO a2 z11;(aO a1 z12) D σ H):(aO a1 (aO a2 (aO (jq a3 a4 (aO a5 a6)) a9))) D σ H:=h
theorem V6 {a1:TS} {a2:TS} {a3:TS} {a4:TI} {a5:TG} {a6:TT} {a7:TS} {a9:TT} {a10:TS} {a12:TS} {a16:TS} {a17:TS} {a18:TS} {a19:TI} {a20:TG} {a21:TT} {a22:TS} {a24:TS} {a26:TS} {D:Ends} {σ:St} {H:Hp} (h:let z8:TS:=a7;let z11:TS:=a10;let z13:TS:=a12;let z14:TS:=iH a9 z11 z13;let z15:TS:=iH a6 z8 z14;let z23:TS:=a22;let z25:TS:=iH a21 z23 a24;let z27:TS:=a26;let z28:TS:=aO (jq a19 a20 z25) z27;let z29:TS:=aO a18 z28;let z30:TS:=aO a17 z29;let z31:TS:=aO a16 z30;let z32:TS:=aO (jq a4 a5 z15) z31;let z33:TS:=aO a3 z32;let z34:TS:=aO a2 z33;(aO a1 z34) D σ H):(aO a1 (aO a2 (aO a3 (aO (jq a4 a5 (iH a6 a7 (iH a9 a10 a12))) (aO a16 (aO a17 (aO a18 (aO (jq a19 a20 (iH a21 a22 a24)) a26)))))))) D σ H:=h
theorem V5 {a1:TS} {a2:TS} {a3:TS} {a4:TT} {a5:TS} {a7:TS} {a8:TS} {D:Ends} {σ:St} {H:Hp} (h:let z6:TS:=a5;let z9:TS:=a8;let z10:TS:=vJ (iH a4 z6 a7) z9;let z11:TS:=aO a3 z10;let z12:TS:=aO a2 z11;(aO a1 z12) D σ H):(aO a1 (aO a2 (aO a3 (vJ (iH a4 a5 a7) a8)))) D σ H:=h
theorem V4 {a1:TS} {a2:TT} {a3:TS} {a5:TS} {a6:TS} {a7:TI} {a8:TG} {a9:TS} {a11:TI} {a12:TG} {a13:TS} {a14:TT} {a15:TS} {a17:TS} {a20:TS} {D:Ends} {σ:St} {H:Hp} (h:let z4:TS:=a3;let z10:TS:=a9;let z16:TS:=a15;let z18:TS:=iH a14 z16 a17;let z19:TS:=aO a13 z18;let z21:TS:=a20;let z22:TS:=aO (jq a11 a12 z19) z21;let z23:TS:=aO (jq a7 a8 z10) z22;let z24:TS:=aO a6 z23;let z25:TS:=vJ (iH a2 z4 a5) z24;(aO a1 z25) D σ H):(aO a1 (vJ (iH a2 a3 a5) (aO a6 (aO (jq a7 a8 a9) (aO (jq a11 a12 (aO a13 (iH a14 a15 a17))) a20))))) D σ H:=h
theorem V3 {a1:TT} {a2:TS} {a4:TS} {a5:TS} {D:Ends} {σ:St} {H:Hp} (h:let z3:TS:=a2;let z6:TS:=a5;(aO (iH a1 z3 a4) z6) D σ H):(aO (iH a1 a2 a4) a5) D σ H:=h
theorem V2 {a1:TS} {a2:TI} {a3:TG} {a4:TS} {a5:TS} {a6:TS} {a7:TT} {a8:TS} {a10:TS} {a11:TS} {a17:TS} {D:Ends} {σ:St} {H:Hp} (h:let z9:TS:=a8;let z12:TS:=a11;let z13:TS:=aO (iH a7 z9 a10) z12;let z14:TS:=aO a6 z13;let z15:TS:=aO a5 z14;let z16:TS:=aO a4 z15;let z18:TS:=a17;let z19:TS:=aO (jq a2 a3 z16) z18;(aO a1 z19) D σ H):(aO a1 (aO (jq a2 a3 (aO a4 (aO a5 (aO a6 (aO (iH a7 a8 a10) a11))))) a17)) D σ H:=h
theorem V1 {a1:TS} {a2:TS} {a3:TI} {a4:TG} {a5:TT} {a6:TS} {a8:TS} {a10:TS} {D:Ends} {σ:St} {H:Hp} (h:let z7:TS:=a6;let z9:TS:=iH a5 z7 a8;let z11:TS:=a10;let z12:TS:=aO (jq a3 a4 z9) z11;let z13:TS:=aO a2 z12;(aO a1 z13) D σ H):(aO a1 (aO a2 (aO (jq a3 a4 (iH a5 a6 a8)) a10))) D σ H:=h
theorem V0 {a1:TS} {a2:TS} {a3:TS} {a4:TS} {a5:TS} {a6:TI} {a7:TG} {a8:TS} {a9:TT} {a10:TS} {a12:TT} {a13:TS} {a15:TT} {a16:TS} {a17:TS} {a18:TS} {a19:TS} {a24:TS} {a29:TS} {D:Ends} {σ:St} {H:Hp} (h:let z11:TS:=a10;let z14:TS:=a13;let z20:TS:=a19;let z21:TS:=aO a18 z20;let z22:TS:=aO a17 z21;let z23:TS:=aO a16 z22;let z25:TS:=iH a15 z23 a24;let z26:TS:=iH a12 z14 z25;let z27:TS:=iH a9 z11 z26;let z28:TS:=aO a8 z27;let z30:TS:=a29;let z31:TS:=aO (jq a6 a7 z28) z30;let z32:TS:=aO a5 z31;let z33:TS:=aO a4 z32;let z34:TS:=aO a3 z33;let z35:TS:=aO a2 z34;(aO a1 z35) D σ H):(aO a1 (aO a2 (aO a3 (aO a4 (aO a5 (aO (jq a6 a7 (aO a8 (iH a9 a10 (iH a12 a13 (iH a15 (aO a16 (aO a17 (aO a18 a19))) a24))))) a29)))))) D σ H:=h
theorem VR {a1:TS} {a2:TS} {a3:TS} {a4:TS} {a5:TS} {a6:TS} {a7:TS} {a8:TS} {a9:TS} {a10:TS} {a11:TI} {a12:TG} {a13:TS} {a14:TS} {a15:TT} {a16:TS} {a18:TS} {a19:TS} {a20:TT} {a21:TS} {a23:TS} {a24:TS} {a25:TS} {a26:TT} {a27:TS} {a29:TS} {a30:TS} {a40:TS} {a41:TS} {D:Ends} {σ:St} {H:Hp} (h:let z17:TS:=a16;let z22:TS:=a21;let z28:TS:=a27;let z31:TS:=a30;let z32:TS:=vJ (iH a26 z28 a29) z31;let z33:TS:=aO a25 z32;let z34:TS:=aO a24 z33;let z35:TS:=aO (iH a20 z22 a23) z34;let z36:TS:=aO a19 z35;let z37:TS:=aO (iH a15 z17 a18) z36;let z38:TS:=aO a14 z37;let z39:TS:=aO a13 z38;let z42:TS:=a41;let z43:TS:=aO a40 z42;let z44:TS:=aO (jq a11 a12 z39) z43;let z45:TS:=aO a10 z44;let z46:TS:=aO a9 z45;let z47:TS:=aO a8 z46;let z48:TS:=aO a7 z47;let z49:TS:=aO a6 z48;let z50:TS:=aO a5 z49;let z51:TS:=aO a4 z50;let z52:TS:=aO a3 z51;let z53:TS:=aO a2 z52;(aO a1 z53) D σ H):(aO a1 (aO a2 (aO a3 (aO a4 (aO a5 (aO a6 (aO a7 (aO a8 (aO a9 (aO a10 (aO (jq a11 a12 (aO a13 (aO a14 (aO (iH a15 a16 a18) (aO a19 (aO (iH a20 a21 a23) (aO a24 (aO a25 (vJ (iH a26 a27 a29) a30))))))))) (aO a40 a41)))))))))))) D σ H:=h
theorem Qk {f:Addr} {fd:FuncData} (D:Df K mg "way_of" iY ["below","reach"] f fd) (C:Mth mg):bR P w K mg base CX0 1 f fd ["below","reach"] (xH K):=by
  obtain ⟨tM,hMOUTH⟩:=C.MOUTH
  refine D.F.ok ux (fun vs H Q E h=>?_) (fun cdv A outer s H vs Q E hr h=>?_)
  · obtain ⟨a,r,p,rfl,_⟩:=h;rfl
  · obtain ⟨a,r,p,rfl,hS,hR,p0,p1,hn,q⟩:=h
    refine ⟨_,(aq (aR (i:=2) ux.nd rfl (Or.inl rfl) (eZ (ak (pv 1) au)))
      (aq (rT PassesOwn.never (aW oZ (aL aG (pv 0) (aL aG (pv 2) (mZ jH aA) (fun _ _=>rfl)) (fun _ _=>rfl)) (lR (v:=.int (-1)) rfl hMOUTH ⟨_,rfl⟩) (bx _))
        (aB (eN (mK PySem.F.plainAttrs_list PySem.F.slot_list_append PySem.F.type_list_append cC (pv 2) (ak (aL aG (pv 0) (aL aG (pv 2) (mZ jH aA) (fun _ _=>rfl)) (fun _ _=>rfl)) au)))))
      (aB (aZ (pv 2))))),?_⟩
    refine sl_1 ?_
    intro zu0 zu1 zu2
    refine ⟨_,rfl,(by show 1≤sizeLine;decide),fun lw hlw=>?_⟩
    refine ⟨fun m σ H'=>∃ (pre:List Int) (z:Int),σ=[some (.ref a),some (.int p),some (.ref lw)]∧Same H H'∧H' lw=some (.lst ((pre++[z]).map V.int))∧0≤z∧z<r.length∧pre++Rv.walk r z=Rv.walk r p∧m=Rv.mea r z,
      ⟨_,[],p,rfl,(Same.refl H).upd hlw,cF,p0,p1,rfl,rfl⟩,?_⟩
    rintro m σ H2 ⟨pre,z,rfl,s2,h2,z0,z1,e,rfl⟩
    have g:=Rv.jW z0 z1
    have hlen:pre.length + (Rv.walk r z).length≤r.length + 1:=by
      have:=Rv.rD r p
      rw [← e,List.length_append] at this;exact this
    refine ⟨_,rfl,_,rfl,_,rfl,lw,_,_,_,rfl,rfl,SqL.of h2,Dp pre z,a,_,_,_,rfl,rfl,s2.seq hS,lC z0 g,rfl,_,rfl,?_⟩
    rcases hR.step z0 z1 with hm | ⟨n0,n1⟩
    · rw [hm]
      refine NQ rfl ?_
      refine ⟨_,rfl,q lw H2 _ s2 hlw h2 ?_⟩
      have ew:Rv.walk r z=[z]:=by rw [Rv.dG hR z0 z1,hm,Rv.jm]
      rw [← e,ew]
    · have hd:(!decide (V.int (Rv.nxt r z)=V.int (-1)))=true:=by
        have:¬ Rv.nxt r z=-1:=by omega
        simp [this]
      rw [hd]
      refine Cp ?_
      refine ⟨fun σ' H'=>∃ m',m'<Rv.mea r z∧∃ (pre:List Int) (z:Int),σ'=[some (.ref a),some (.int p),some (.ref lw)]∧Same H H'∧H' lw=some (.lst ((pre++[z]).map V.int))∧0≤z∧z<r.length∧pre++Rv.walk r z=Rv.walk r p∧m'=Rv.mea r z,fun _ _ x=>x,?_⟩
      refine ⟨_,rfl,.inl ⟨rfl,_,SqL.of h2⟩,_,rfl,_,rfl,_,rfl,lw,_,_,_,rfl,rfl,SqL.of h2,Dp pre z,a,_,_,_,rfl,rfl,s2.seq hS,lC z0 g,lw,_,_,rfl,rfl,h2,aP ?_,?_⟩
      · rw [List.length_map,List.length_append]
        have:1≤(Rv.walk r z).length:=by rw [Rv.dG hR z0 z1];exact Nat.succ_le_succ (Nat.zero_le _)
        show pre.length + 1≤_
        omega
      · refine ⟨_,Rv.GK hR z0 z1,pre++[z],Rv.nxt r z,rfl,s2.upd hlw,?_,n0,n1,?_,rfl⟩
        · rw [cF,List.map_append (l₁:=pre++[z])];rfl
        · rw [List.append_assoc]
          show pre++(z :: Rv.walk r (Rv.nxt r z))=_
          rw [← Rv.dG hR z0 z1];exact e
abbrev cP:Stmt:=top 8
theorem rP:aX ["below"] ["below"] (ao cP):=⟨rfl,rfl,rfl,by decide +kernel,rfl,by decide +kernel,by decide +kernel⟩
def Vn (K:PySem.W.Frag) (H:Hp) (a:Addr) (r:List Int):Prop:=SqL K H a (r.map V.int)∧Rv.dJ r∧r.length<64
def dD:Pos × Str:=(⟨18,41,18,90⟩,"tops_first.<locals>.<lambda>")
def TT1 (P:Addr) (T:fC):Prop:=(P,dD.1,dD.2)∈T∧(T.map (·.1)).Nodup
def Ai (K:PySem.W.Frag) (T:fC):Sp:=fun vs H Q _=>∃ (a:Addr) (r:List Int),vs=[.ref a]∧Vn K H a r∧TabsOk T H ∧
  m7 T H (fun xs=>∃ p,xs=p.map (fun (i:Nat)=>V.int (i:Int))∧Rv.DN r p) Q
theorem Nz {r:List Int} {i j:Nat} (hi:i<64) (hj:j<64):HT.lexLt [-((Rv.walk r (i:Int)).length:Int),(i:Int)] [-((Rv.walk r (j:Int)).length:Int),(j:Int)]=decide (Rv.kap r i<Rv.kap r j):=by
  unfold Rv.kap
  rw [HT.iJ,HT.iJ,HT.nH]
  rw [Bool.eq_iff_iff]
  split
  · split
    · simp only [Bool.false_eq_true,decide_eq_true_eq,false_iff];omega
    · simp only [decide_eq_true_eq];omega
  · simp only [decide_eq_true_eq];omega
theorem Ni {f fW:Addr} {fd fdW:FuncData} {pT cT:Addr} {T:fC} (D:Df K mg "tops_first" cP ["below"] f fd) (hcd:fd.code=.ref cT) (hhd:PySem.W.codeHdIn K cT pT=true) (hT:TT1 pT T) (hbm:BM mg base) (B:Blt mg)
    (dF:Df K mg "way_of" iY ["below","reach"] fW fdW) (nU:bR P w K mg base CX0 1 fW fdW ["below","reach"] (xH K)):bR P w K mg base CX0 5 f fd ["below"] (Ai K T):=by
  refine D.F.okC hcd rP (fun vs H Q E h=>?_) (fun A outer s H vs Q E hr h=>?_)
  · obtain ⟨a,r,rfl,_⟩:=h;rfl
  · obtain ⟨a,r,rfl,⟨hS,hR,h64⟩,tk,q⟩:=h
    refine ⟨_,(aB (aZ (oU (P:=pT) (c:=cT) (p:="reach") (ao cP) rfl ["below"] rfl ["below"] [some 0] (by decide +kernel) (by decide +kernel) (by decide +kernel) rfl hbm rfl hhd (yq (hr.mono (by decide))) rfl B.sorted rfl B.range (ak (aN aM rfl B.len PySem.boot_len (ak (pv 0) au)) au) (fun A f cv s H hh hd hu=>(jJ (ak (mZ jH (aN (tu (K:=K) rfl) rfl B.len PySem.boot_len (ak (aK nU (yp (hr.mono (by decide)) hh hd hu) rfl dF.m dF.F.kp dF.b .nil bC (ak (pv 1) (ak (pv 0) au))) au))) (ak (pv 0) au)))) (fun _ _ _ _=>rfl)))),?_⟩
    have hl:(r.map V.int).length=r.length:=List.length_map _
    refine ⟨_,rfl,a,_,rfl,.inl hS,r.length,by rw [hl],h64,tk _ hT.1,fun H2 k1 k2 t2=>?_⟩
    have sT:bB T H H2:=bB.tab tk hT.1 hT.2 k1 t2
    refine ⟨fun i ts H3=>bB T H2 H3∧ts.length=i∧∀ (j:Nat) (t:Addr),ts[j]?=some t→H3 t=some (.tup ([-((Rv.walk r (j:Int)).length:Int),(j:Int)].map V.int)),fun i=>[-((Rv.walk r (i:Int)).length:Int),(i:Int)],Rv.kap r,1,⟨bB.refl sT.t1,rfl,fun j t e=>by simp at e⟩,?_,?_,fun _ _=>rfl,fun i j hi hj=>Nz (by omega) (by omega),?_,?_⟩
    · rintro i ts H3 hi ⟨s3,htl,h3⟩
      refine ⟨fun c' e=>s3.keep c' _ e fun ps z=>(by cases z),?_⟩
      refine ⟨_,rfl,_,rfl,a,r,(i:Int),rfl,(sT.trans s3).seq hS,hR,by omega,by omega,by omega,fun l H4 xs s4 n4 h4 e4=>?_⟩
      subst e4
      refine ⟨l,_,rfl,.inl (SqL.of h4),_,rfl,_,rfl,(by show 2≤sizeLine;decide),fun t ht=>⟨t,rfl,?_⟩⟩
      have sT4:bB T H2 H4:=s3.trans (bB.of s3.t1 s4)
      have nt:H2 t=none:=sT4.free ht
      refine ⟨sT4.upd nt (.inl ht),by rw [List.length_append,htl];rfl,fun j t' e=>?_⟩
      by_cases hj:j<ts.length
      · rw [List.getElem?_append_left hj] at e
        have h4':=s4 _ _ (h3 j t' e)
        rw [bA (bT h4' ht)];exact h4'
      · rw [List.getElem?_append_right (by omega)] at e
        have hj0:j - ts.length=0:=by
          have:=(List.getElem?_eq_some_iff.mp e).1
          simp at this;omega
        have hji:j=i:=by omega
        rw [hj0] at e
        simp at e
        subst e
        subst hji
        rw [cF,List.length_map];rfl
    · rintro ts H3 ⟨_,_,h3⟩
      exact h3
    · intro i j hi hj hij e
      unfold Rv.kap at e
      omega
    · rintro ts H3 D' ys ⟨s3,_,_⟩ hD ⟨p,hp,rfl,ho⟩
      have hbl:(iG r.length).length=r.length:=by unfold iG;simp
      rw [hbl] at hp
      refine q D' _ _ ((sT.trans s3).upd ((sT.trans s3).free hD) (.inl hD)) ((sT.trans s3).free hD) cF ⟨p,?_,hp,ho⟩
      refine List.map_congr_left fun i hi=>?_
      have hi':i<r.length:=List.mem_range.mp (hp.mem_iff.mp hi)
      show (iG r.length).getD i .non=_
      unfold iG
      rw [List.getD_eq_getElem?_getD,List.getElem?_map,List.getElem?_range hi'];rfl
abbrev cU:Stmt:=top 12
theorem kI:aX ["below","springs","flows","reach"] ["below","springs"] (ao cU):=⟨rfl,rfl,rfl,by decide +kernel,rfl,by decide +kernel,by decide +kernel⟩
def Am (K:PySem.W.Frag) (T:fC):Sp:=fun vs H Q _=>∃ (a b:Addr) (r s:List Int),vs=[.ref a,.ref b]∧Vn K H a r∧SqL K H b (s.map V.int)∧s.length=r.length∧TabsOk T H ∧
  m7 T H (fun xs=>xs=(Rv.nats r s).map V.int) Q
theorem Qv {f fT:Addr} {fd fdT:FuncData} {T:fC} (D:Df K mg "natural_of" cU ["below","springs"] f fd) (B:Blt mg) (C:Mth mg)
    (gJ:Df K mg "tops_first" cP ["below"] fT fdT) (uZ:bR P w K mg base CX0 5 fT fdT ["below"] (Ai K T)):bR P w K mg base CX0 6 f fd ["below","springs"] (Am K T):=by
  obtain ⟨tM,hMOUTH⟩:=C.MOUTH
  refine D.F.ok kI (fun vs H Q E h=>?_) (fun cdv A outer s H vs Q E hr h=>?_)
  · obtain ⟨a,b,r,s,rfl,_⟩:=h;rfl
  · obtain ⟨a,b,r,sp,rfl,⟨hS,hR,h64⟩,hB,hl,tk,q⟩:=h
    refine ⟨_,(aq (aR (i:=2) kI.nd rfl (Or.inl rfl) (bI bf rfl B.list PyProof.Rows.boot_list (ak (pv 1) au)))
      (aq (dH PassesOwn.never rfl (bO (aK uZ (hr.mono (by decide)) rfl gJ.m gJ.F.kp gJ.b .nil bC (ak (pv 0) au))) (aF (i:=3) kI.nd rfl (Or.inl rfl))
        (aB (gZ (aW oZ (aL aG (pv 0) (pv 3) (fun _ _=>rfl)) (lR (v:=.int (-1)) rfl hMOUTH ⟨_,rfl⟩) (bx _))
          (aB (mY (pv 2) (aL aG (pv 0) (pv 3) (fun _ _=>rfl)) lD (aL aG (pv 2) (pv 3) (fun _ _=>rfl)) yr set_list))
          bY)))
      (aB (aZ (pv 2))))),?_⟩
    refine sl_2 ?_
    intro zu0 zu1 zu2 zu3
    have O:=Ow.refl tk
    refine ⟨_,rfl,b,_,rfl,.inl hB,fun lf hlf=>?_⟩
    walk_at "new";intro H1 O
    refine ⟨_,rfl,a,r,rfl,⟨O.same.seq hS,hR,h64⟩,O.same.t1,O.qF fun lt H2 xs O ⟨p,ep,hp⟩=>?_⟩
    subst ep
    refine ⟨lt,rfl,⟨_,O.sq 0⟩,?_⟩
    refine eU (K:=K) (a:=lt) (xs:=p.map fun (i:Nat)=>V.int (i:Int)) (fun t σ H3=>∃ (v3:Option V) (fl:List Int),σ=[some (.ref a),some (.ref b),some (.ref lf),v3]∧Ow T H H3 [(lt,.lst (p.map fun (i:Nat)=>V.int (i:Int))),(lf,.lst (fl.map V.int))]∧Rv.yI r sp p t fl)
      ⟨none,sp,rfl,O,Rv.yI.start r sp p hl⟩ (fun _ _ _ _ ⟨_,_,_,O,_⟩=>O.sq 0) ?_ ?_
    · rintro t y σ H3 hy ⟨v3,fl,rfl,O,N⟩
      rw [List.getElem?_map] at hy
      obtain ⟨j,hj,rfl⟩:∃ j,p[t]?=some j∧y=V.int (j:Int):=by
        cases e:p[t]? with
        | none=>rw [e] at hy;cases hy
        | some j=>rw [e] at hy;exact ⟨j,rfl,(Option.some.inj hy).symm⟩
      have hjr:=hp.lt (List.mem_of_getElem? hj)
      have gj:=Rv.jW (r:=r) (p:=(j:Int)) (by omega) (by omega)
      have aj:=lC (ns:=r) (i:=(j:Int)) (by omega) gj
      have here:=N.here hp hR h64 hj
      refine ⟨_,rfl,_,rfl,a,_,_,_,rfl,rfl,O.same.seq hS,aj,rfl,_,rfl,?_⟩
      rcases hR.step (p:=(j:Int)) (by omega) (by omega) with hm | ⟨n0,n1⟩
      · rw [hm]
        refine NQ rfl ?_
        exact ⟨_,fl,rfl,O,N.Nx hj hm⟩
      · have hd:(!decide (V.int (Rv.nxt r (j:Int))=V.int (-1)))=true:=by
          have:¬ Rv.nxt r (j:Int)=-1:=by omega
          simp [this]
        rw [hd]
        refine Cp ?_
        obtain ⟨bn,ebn⟩:=Int.eq_ofNat_of_zero_le n0
        have hbl:bn<r.length:=by omega
        rw [ebn] at aj
        obtain ⟨x,hx⟩:∃ x,fl[bn]?=some x:=⟨_,N.at_ bn hbl⟩
        refine ⟨_,rfl,_,rfl,_,rfl,a,_,_,_,rfl,rfl,O.same.seq hS,aj,lf,_,bn,V.int x,rfl,rfl,O.sq 1,by rw [List.getElem?_map,hx];rfl,_,rfl,_,rfl,lf,_,_,_,rfl,rfl,O.sq 1,bZ here,_,_,rfl,rfl,?_⟩
        refine pZ O 1 rfl (lB (by rw [List.length_map,N.len];exact hbl)) fun H4 O=>?_
        refine ⟨_,fl.set bn (x + Rv.lN r sp (j:Int)),rfl,?_,N.turn hp hR h64 hj ebn hbl hx⟩
        rw [List.map_set];exact O
    · rintro σ H3 ⟨v3,fl,rfl,O,N⟩
      rw [List.length_map,hp.len] at N
      exact ⟨_,rfl,O.ret 1 rfl q (by rw [N.done hp hR])⟩
abbrev cQ:Stmt:=top 10
theorem nj:aX ["below","start","stop","way"] ["below","start","stop"] (ao cQ):=⟨rfl,rfl,rfl,by decide +kernel,rfl,by decide +kernel,by decide +kernel⟩
theorem xg (b:Int):∀ l:List Int,l.take (l.idxOf b)=l.takeWhile (fun x=>!decide (x=b))
  | []=>rfl
  | x :: l=>by
    rw [List.idxOf_cons,List.takeWhile_cons]
    by_cases h:x=b
    · simp [h]
    · have e:(x == b)=false:=by simp [h]
      rw [e,cond_false,List.take_succ_cons,xg b l]
      simp [h]
theorem FP (ns:List Int) (k:Nat):vC (ns.map V.int) none (some (k:Int))=(ns.take k).map V.int:=by
  unfold vC
  rw [HT.Ec,HT.pQ,List.drop_zero,List.length_map,Nat.sub_zero,← List.map_take]
  congr 1
  rw [List.take_eq_take_iff];omega
def rN (K:PySem.W.Frag):Sp:=fun vs H Q _=>∃ (a:Addr) (r:List Int) (p b:Int),vs=[.ref a,.int p,.int b]∧SqL K H a (r.map V.int)∧Rv.dJ r∧0≤p∧p<r.length∧r.length≤900∧Rv.Stop r p b ∧
  Vs H (fun xs=>xs=(Rv.dB r p b).map V.int) Q
theorem El {f fW:Addr} {fd fdW:FuncData} (D:Df K mg "stretch_of" cQ ["below","start","stop"] f fd) (C:Mth mg) (dF:Df K mg "way_of" iY ["below","reach"] fW fdW)
    (nU:bR P w K mg base CX0 1 fW fdW ["below","reach"] (xH K)):bR P w K mg base CX0 2 f fd ["below","start","stop"] (rN K):=by
  obtain ⟨tM,hMOUTH⟩:=C.MOUTH
  refine D.F.ok nj (fun vs H Q E h=>?_) (fun cdv A outer s H vs Q E hr h=>?_)
  · obtain ⟨a,r,p,b,rfl,_⟩:=h;rfl
  · obtain ⟨a,r,p,b,rfl,hS,hR,p0,p1,hn,st,q⟩:=h
    refine ⟨_,(aq (aR (i:=3) nj.nd rfl (Or.inl rfl) (aK nU (hr.mono (by decide)) rfl dF.m dF.F.kp dF.b .nil bC (ak (pv 0) (ak (pv 1) au))))
      (aq (gZ (aW jZ (pv 2) (lR (v:=.int (-1)) rfl hMOUTH ⟨_,rfl⟩) (bx _))
        (aB (aZ (pv 3)))
        bY)
      (aq (gZ (aW jO (pv 2) (pv 3) (by rfl))
        (aB o9)
        bY)
      (aB (aZ (nF pN (pv 3) rW (kW (mK PySem.F.plainAttrs_list PySem.F.slot_list_index PySem.F.type_list_index Es (pv 3) (ak (pv 2) au))))))))),?_⟩
    refine sl_3 ?_
    intro zu0 zu1 zu2 zu3 zu4
    refine ⟨_,rfl,_,rfl,a,r,p,rfl,hS,hR,p0,p1,hn,fun lw H1 xs s1 n1 h1 e1=>?_⟩
    subst e1
    refine ⟨_,rfl,rfl,_,rfl,ite2 (fun h=>?_) fun h=>?_⟩
    · have hb:b=-1:=V.int.inj (of_decide_eq_true h)
      refine ⟨_,rfl,q lw H1 _ s1 n1 h1 ?_⟩
      unfold Rv.dB;rw [if_pos hb]
    · have hb:¬ b=-1:=fun z=>h (decide_eq_true (by rw [z]))
      have hm:b∈Rv.walk r p:=st.resolve_left hb
      refine ⟨_,rfl,_,rfl,lw,_,rfl,.inl (SqL.of h1),rfl,nO _,_,rfl,?_⟩
      rw [if_pos rfl,sI,decide_eq_true hm]
      refine pA ?_
      refine ⟨_,rfl,_,rfl,.inl ⟨rfl,_,SqL.of h1⟩,_,rfl,lw,_,b,rfl,rfl,SqL.of h1,hm,_,rfl,lw,_,rfl,SqL.of h1,fun l hl=>?_⟩
      refine q l _ _ (s1.upd (s1.free hl)) (s1.free hl) cF ?_
      rw [FP,xg]
      unfold Rv.dB;rw [if_neg hb]
abbrev dO:Stmt:=top 15
theorem iu:aX ["below","one","day","start","back","most"] ["below","one"] (ao dO):=⟨rfl,rfl,rfl,by decide +kernel,rfl,by decide +kernel,by decide +kernel⟩
def Vj (r:List Int) (l:Lic):Prop:=0≤l.start∧l.start<r.length∧Rv.Stop r l.start l.back
def qN (K:PySem.W.Frag):Sp:=fun vs H Q _=>∃ (a t:Addr) (r:List Int) (l:Lic),vs=[.ref a,.ref t]∧SqL K H a (r.map V.int)∧Rv.dJ r∧r.length≤900∧SqT K H t (zP l)∧Vj r l∧Vs H (fun xs=>xs=(Rv.dB r l.start l.back).map V.int) Q
theorem zc {f f1:Addr} {fd fd1:FuncData} (D:Df K mg "reaches_of" dO ["below","one"] f fd) (cj:Df K mg "stretch_of" cQ ["below","start","stop"] f1 fd1) (mj:bR P w K mg base CX0 2 f1 fd1 ["below","start","stop"] (rN K)) :
    bR P w K mg base CX0 3 f fd ["below","one"] (qN K):=by
  refine D.F.ok iu (fun vs H Q E h=>?_) (fun cdv A outer s H vs Q E hr h=>?_)
  · obtain ⟨_,_,_,_,rfl,_⟩:=h;rfl
  · obtain ⟨a,t,r,l,rfl,hA,hR,hn,hT,ok,q⟩:=h
    refine ⟨_,(aq (iD (pv 1) (iB rfl (aH (aF (i:=2) iu.nd rfl (Or.inl rfl)) (aH (aF (i:=3) iu.nd rfl (Or.inl rfl)) (aH (aF (i:=4) iu.nd rfl (Or.inl rfl)) (aH (aF (i:=5) iu.nd rfl (Or.inl rfl)) cJ))))))
      (aB (aZ (aK mj (hr.mono (by decide)) rfl cj.m cj.F.kp cj.b .nil bC (ak (pv 0) (ak (pv 3) (ak (pv 4) au))))))),?_⟩
    refine VP ?_
    intro zu0
    refine ⟨_,rfl,t,_,rfl,hT,rfl,_,_,rfl,_,_,rfl,_,_,rfl,_,_,rfl,rfl,?_⟩
    exact ⟨_,rfl,_,rfl,_,rfl,a,r,l.start,l.back,rfl,hA,hR,ok.1,ok.2.1,hn,ok.2.2,q⟩
abbrev jg:Stmt:=top 19
theorem yX:aX ["one"] ["one"] (ao jg):=⟨rfl,rfl,rfl,by decide +kernel,rfl,by decide +kernel,by decide +kernel⟩
def Ao (K:PySem.W.Frag):Sp:=fun vs H Q _=>∃ (a:Addr) (l:Lic),vs=[.ref a]∧SqT K H a (zP l)∧Q (.int l.most) H
theorem Nk {f:Addr} {fd:FuncData} (D:Df K mg "most_of" jg ["one"] f fd):bR P w K mg base CX0 1 f fd ["one"] (Ao K):=by
  refine D.F.ok yX (fun vs H Q E h=>?_) (fun cdv A outer s H vs Q E hr h=>?_)
  · obtain ⟨c,k,rfl,_⟩:=h;rfl
  · obtain ⟨a,l,rfl,hT,q⟩:=h
    refine ⟨_,(aB (aZ (aL cD (pv 0) aA (fun _ _=>rfl)))),?_⟩
    exact ⟨_,rfl,_,_,_,_,rfl,rfl,hT,rfl,q⟩
abbrev fV:Stmt:=top 22
theorem vU:aX ["roll","calls"] ["roll","calls"] (ao fV):=⟨rfl,rfl,rfl,by decide +kernel,rfl,by decide +kernel,by decide +kernel⟩
def lO (ls:List Lic) (cs:List Int):List Int:=List.zipWith (fun l c=>min c l.most) ls cs
theorem Q5 (i j:Int):(if j<i then j else i)=min i j:=by
  by_cases h:j<i
  · rw [if_pos h];omega
  · rw [if_neg h];omega
theorem DP {α β γ:Type} (f:α→β→γ) {as:List α} {bs:List β} {i:Nat} {a:α} {b:β} (ha:as[i]?=some a) (hb:bs[i]?=some b):List.zipWith f (as.take (i + 1)) (bs.take (i + 1))=List.zipWith f (as.take i) (bs.take i)++[f a b]:=by
  have h1:=(List.getElem?_eq_some_iff.mp ha)
  have h2:=(List.getElem?_eq_some_iff.mp hb)
  obtain ⟨l1,e1⟩:=h1
  obtain ⟨l2,e2⟩:=h2
  rw [List.take_succ,List.take_succ,ha,hb,List.zipWith_append (by rw [List.length_take,List.length_take];omega)]
  rfl
def xJ (K:PySem.W.Frag) (T:fC):Sp:=fun vs H Q _=>∃ (v:V) (b:Addr) (ls:List Lic) (cs:List Int),vs=[v,.ref b]∧Den K H v (CT ls)∧SqL K H b (cs.map V.int)∧ls.length=cs.length∧ls.length≤1000∧TabsOk T H∧m7 T H (fun xs=>xs=(lO ls cs).map V.int) Q
theorem Ek {f f1:Addr} {fd fd1:FuncData} (D:Df K mg "wants_of" fV ["roll","calls"] f fd) (B:Blt mg) (j8:Df K mg "most_of" jg ["one"] f1 fd1) (Ds:bR P w K mg base CX0 1 f1 fd1 ["one"] (Ao K)) :
    bR P w K mg base CX0 2 f fd ["roll","calls"] (xJ K T):=by
  refine D.F.ok vU (fun vs H Q E h=>?_) (fun cdv A outer s H vs Q E hr h=>?_)
  · obtain ⟨_,_,_,_,rfl,_⟩:=h;rfl
  · obtain ⟨v,b,ls,cs,rfl,hd,hb,hlc,hlen,tk,q⟩:=h
    obtain ⟨a,xs,rfl,hL,hds⟩:=hd.jR
    have hxl:xs.length=ls.length:=by rw [hds.length,List.length_map]
    refine ⟨_,(aB (aZ (iC (ao fV) rfl ["roll","calls"] rfl ["one","call"] [none,none] (by decide +kernel) (by decide +kernel) (by decide +kernel) rfl (qO rfl B.zip (ak (pv 0) (ak (pv 1) au))) (fun _ _ _=>(pW (K:=K) (n:=2) rfl rfl (aH (aF (i:=0) (show (["one","call"]:List Str).Nodup by decide +kernel) rfl (Or.inl rfl)) (aH (aF (i:=1) (show (["one","call"]:List Str).Nodup by decide +kernel) rfl (Or.inl rfl)) cJ)))) (fun _ _ _=>iz) (fun _ _ _=>(aN (uQ rfl) rfl B.min PyProof.Rows.boot_min (ak (pv 1) (ak (aK Ds (hr.mono (by decide)) rfl j8.m j8.F.kp j8.b .nil bC (ak (pv 0) au)) au))))))),?_⟩
    have O:=Ow.refl tk
    refine ⟨_,rfl,_,rfl,a,b,_,_,rfl,hL,hb,fun acc hacc=>?_⟩
    refine yE (K:=K) (fun i τ H'=>Iv (∃ (v0 v1:Option V),τ=[v0,v1]∧Ow T H H' [(acc,.lst ((List.zipWith (fun l c=>min c l.most) (ls.take i) (cs.take i)).map V.int))])) (by rw [List.length_map];omega)
      ⟨trivial,none,none,rfl,O.mk' hacc rfl⟩ (fun i τ H' _ ⟨_,_,_,_,O⟩=>⟨O.same.seq hL,O.same.seq hb⟩) ?_ ?_
    · rintro i x y t τ H' hx hy ⟨-,v0,v1,rfl,O⟩ ht
      obtain ⟨z,hz,rfl⟩:=ints_get hy
      obtain ⟨al,l,rfl,hl,hT⟩:=hds.wA hx
      have hi:=(List.getElem?_eq_some_iff.mp hz).1
      walk_at "nw"
      refine ⟨t,_,rfl,O.sqT 0,rfl,_,_,rfl,_,_,rfl,rfl,?_⟩
      refine Vw ?_
      refine ⟨_,rfl,_,rfl,al,l,rfl,hT.mo O.same,_,_,rfl,?_⟩
      refine ⟨_,O.get 1,aP (by rw [List.length_map,List.length_zipWith,List.length_take];omega),?_⟩
      walk_at "pt"
      refine ⟨trivial,_,_,rfl,?_⟩
      rw [DP _ hl hz,List.map_append,← Q5]
      exact O.tail
    · rintro τ H' ⟨-,v0,v1,rfl,O⟩
      refine O.ret 0 rfl q ?_
      rw [hxl,List.take_of_length_le (Nat.le_refl _),List.take_of_length_le (by omega)];rfl
abbrev dZ:Stmt:=top 24
theorem jt:aX ["free","ways","counts","way","reach"] ["free","ways"] (ao dZ):=⟨rfl,rfl,rfl,by decide +kernel,rfl,by decide +kernel,by decide +kernel⟩
def xQ (K:PySem.W.Frag) (T:fC):Sp:=fun vs H Q _=>∃ (a:Addr) (v:V) (fs:List Int) (ws:List (List Int)),vs=[.ref a,v]∧SqL K H a (fs.map V.int)∧fs.length≤1000∧Den K H v (yD ws)∧(∀ w∈ws,Tn.WOk fs.length w)∧TabsOk T H ∧
  m7 T H (fun xs=>xs=(Tn.bumps (List.replicate fs.length 0) (ws.map fun w=>(w,1))).map V.int) Q
theorem Ep {f:Addr} {fd:FuncData} (D:Df K mg "count_ways" dZ ["free","ways"] f fd) (B:Blt mg):bR P w K mg base CX0 1 f fd ["free","ways"] (xQ K T):=by
  refine D.F.ok jt (fun vs H Q E h=>?_) (fun cdv A outer s H vs Q E hr h=>?_)
  · obtain ⟨_,_,_,_,rfl,_⟩:=h;rfl
  · obtain ⟨a,v,fs,ws,rfl,hA,hfl,hd,hws,tk,q⟩:=h
    obtain ⟨b,xs,rfl,hL,hds⟩:=hd.jR
    have hxl:xs.length=ws.length:=by rw [hds.length,List.length_map]
    refine ⟨_,(aq (aR (i:=2) jt.nd rfl (Or.inl rfl) (aQ xW (eZ (ak aA au)) (aN aM rfl B.len PySem.boot_len (ak (pv 0) au))))
      (aq (dH PassesOwn.never rfl (bO (pv 1)) (aF (i:=3) jt.nd rfl (Or.inl rfl))
        (aB (dH PassesOwn.never rfl (bO (pv 3)) (aF (i:=4) jt.nd rfl (Or.inl rfl))
          (aB (mY (pv 2) (pv 4) lD aA yr set_list)))))
      (aB (aZ (pv 2))))),?_⟩
    refine Yh ?_
    intro zu0 zu1 zu2 zu3
    have O:=Ow.refl tk
    have s0:=O.same
    walk_at "w"
    intro l1 h1
    walk_at "nw"
    walk_at "w"
    refine ⟨l1,_,_,rfl,rfl,O.get 0,by rw [List.length_map];omega,by rw [List.length_map];omega,kE (by rw [List.length_map,Int.toNat_natCast];simp;omega),fun lc hlc=>?_⟩
    walk_at "nw"
    rw [List.length_map,Int.toNat_natCast,nA] at O
    have O:=O.two
    refine ⟨_,rfl,b,rfl,⟨_,O.same.seq hL⟩,?_⟩
    refine eU (K:=K) (xs:=xs) (fun i σ H'=>Iv (∃ v3 v4:Option V,σ=[some (.ref a),some (.ref b),some (.ref lc),v3,v4]∧Ow T H H' [(lc,.lst ((Tn.bumps (List.replicate fs.length 0) ((ws.take i).map fun w=>(w,1))).map V.int))]))
      ⟨trivial,none,none,rfl,O⟩ (fun i σ H' _ ⟨_,_,_,_,O⟩=>O.same.seq hL) ?_ ?_
    · rintro i x σ H2 hx ⟨-,v3,v4,rfl,O⟩
      obtain ⟨wa,w,rfl,hw,hW⟩:=hds.MF hx
      have ok:=hws w (List.mem_of_getElem? hw)
      have hnext:Tn.bumps (List.replicate fs.length 0) ((ws.take (i + 1)).map fun w=>(w,(1:Int)))=Tn.bump (Tn.bumps (List.replicate fs.length 0) ((ws.take i).map fun w=>(w,1))) w 1:=by
        rw [List.take_add_one,hw,List.map_append];exact Tn.qZ _ _ _
      have hcl:(Tn.bumps (List.replicate fs.length 0) ((ws.take i).map fun w=>(w,(1:Int)))).length=fs.length:=by rw [Tn.j5,List.length_replicate]
      generalize Tn.bumps (List.replicate fs.length 0) ((ws.take i).map fun w=>(w,(1:Int)))=cur at O hnext hcl
      refine ⟨_,rfl,wa,rfl,⟨_,O.same.seq hW⟩,?_⟩
      refine eU (K:=K) (xs:=w.map V.int) (fun j σ H'=>Iv (∃ v4:Option V,σ=[some (.ref a),some (.ref b),some (.ref lc),some (.ref wa),v4]∧Ow T H H' [(lc,.lst ((Tn.bump cur (w.take j) 1).map V.int))]))
        ⟨trivial,v4,rfl,O⟩ (fun i σ H' _ ⟨_,_,_,O⟩=>O.same.seq hW) ?_ ?_
      · rintro j y σ H3 hy ⟨-,v4,rfl,O⟩
        obtain ⟨z,hz,rfl⟩:=ints_get hy
        obtain ⟨z0,z1⟩:=ok.2 z (List.mem_of_getElem? hz)
        obtain ⟨zn,rfl⟩:=Int.eq_ofNat_of_zero_le z0
        have hbl:(Tn.bump cur (w.take j) 1).length=fs.length:=by rw [Tn.jz,hcl]
        refine ⟨_,rfl,_,rfl,lc,_,zn,_,rfl,rfl,O.sq 0,by rw [List.getElem?_map,bh (by omega)];rfl,?_⟩
        refine ⟨_,_,rfl,rfl,lc,_,_,zn,rfl,rfl,O.get 0,lB (by rw [List.length_map];omega),?_⟩
        walk_at "pt"
        refine ⟨trivial,_,rfl,?_⟩
        rw [qt hz,Int.toNat_natCast,List.map_set];exact O
      · rintro σ H3 ⟨-,v4,rfl,O⟩
        rw [List.length_map,List.take_of_length_le (Nat.le_refl _)] at O
        refine ⟨trivial,_,_,rfl,?_⟩
        rw [hnext];exact O
    rintro σ H2 ⟨-,v3,v4,rfl,O⟩
    refine ⟨_,rfl,O.ret 0 rfl q ?_⟩
    rw [hxl,List.take_of_length_le (Nat.le_refl _)]
abbrev cH:Stmt:=top 25
theorem jT:aX ["free","ways","rests","counts","shares"] ["free","ways","rests"] (ao cH):=⟨rfl,rfl,rfl,by decide +kernel,rfl,by decide +kernel,by decide +kernel⟩
def Pk (K:PySem.W.Frag) (T:fC):Sp:=fun vs H Q _=>∃ (a b:Addr) (v:V) (fs rs:List Int) (ws:List (List Int)),vs=[.ref a,v,.ref b]∧SqL K H a (fs.map V.int)∧Den K H v (yD ws)∧SqL K H b (rs.map V.int)∧fs.length≤1000∧rs.length≤1000∧ws.length≤1000 ∧
  (∀ w∈ws,Tn.WOk fs.length w)∧TabsOk T H∧∀ (M:Int) (H':Hp),bB T H H'→Tn.WT fs (Tn.bumps (List.replicate fs.length 0) (ws.map fun w=>(w,1))) rs M→Q (.int M) H'
theorem Wr {f f1:Addr} {fd fd1:FuncData} (D:Df K mg "whole_turns" cH ["free","ways","rests"] f fd) (B:Blt mg) (gR:Df K mg "count_ways" dZ ["free","ways"] f1 fd1) (vm:bR P w K mg base CX0 1 f1 fd1 ["free","ways"] (xQ K T)) :
    bR P w K mg base CX0 2 f fd ["free","ways","rests"] (Pk K T):=by
  refine D.F.ok jT (fun vs H Q E h=>?_) (fun cdv A outer s H vs Q E hr h=>?_)
  · obtain ⟨_,_,_,_,_,_,rfl,_⟩:=h;rfl
  · obtain ⟨a,b,v,fs,rs,ws,rfl,hA,hd,hB,hfl,hrl,hwl,hws,tk,q⟩:=h
    refine ⟨_,(aq (aR (i:=3) jT.nd rfl (Or.inl rfl) (aK vm (hr.mono (by decide)) rfl gR.m gR.F.kp gR.b .nil bC (ak (pv 0) (ak (pv 1) au))))
      (aq (fZ (i:=4) (ao cH) rfl ["free","ways","rests","counts","shares"] rfl ["drops","count"] [none,none] (by decide +kernel) (by decide +kernel) (by decide +kernel) rfl jT.nd rfl rfl (qO rfl B.zip (ak (pv 0) (ak (pv 3) au))) (fun _ _ _=>(pW (K:=K) (n:=2) rfl rfl (aH (aF (i:=0) (show (["drops","count"]:List Str).Nodup by decide +kernel) rfl (Or.inl rfl)) (aH (aF (i:=1) (show (["drops","count"]:List Str).Nodup by decide +kernel) rfl (Or.inl rfl)) cJ)))) (fun _ _ _=>(kO (aW wg (pv 1) aA (bx _)))) (fun _ _ _=>(aQ fQ (pv 0) (pv 1))) rfl)
      (aB (aZ (aN (Dk rfl) rfl B.max PyProof.Rows.boot_max (ak aA (ak (M9 rfl rfl B.min (aQ GF (bI bf rfl B.list PyProof.Rows.boot_list (ak (pv 2) au)) (pv 4))) au))))))),?_⟩
    refine Yg ?_
    intro zu0 zu1
    have O:=Ow.refl tk
    have s0:=O.same
    refine ⟨_,rfl,_,rfl,a,v,fs,ws,rfl,hA,hfl,hd,hws,tk,O.qF fun lc H2 xs O e=>?_⟩
    subst e
    have hcb:=Tn.cw_bound hws
    have hcl:(Tn.bumps (List.replicate fs.length 0) (ws.map fun w=>(w,(1:Int)))).length=fs.length:=by rw [Tn.j5,List.length_replicate]
    generalize Tn.bumps (List.replicate fs.length 0) (ws.map fun w=>(w,(1:Int)))=cs at O hcb hcl q
    refine ⟨_,rfl,_,rfl,a,lc,_,_,rfl,O.same.seq hA,O.sq 0,fun acc hacc=>?_⟩
    refine yE (K:=K) (fun i τ H'=>Iv (∃ (v0 v1:Option V),τ=[v0,v1]∧Ow T H H' [(acc,.lst ((Tn.shares (fs.take i) (cs.take i)).map V.int)),(lc,.lst (cs.map V.int))])) (by rw [List.length_map,List.length_map];omega)
      ⟨trivial,none,none,rfl,O.mk' hacc rfl⟩ (fun i τ H' _ ⟨_,_,_,_,O⟩=>⟨O.same.seq hA,O.sq 1⟩) ?_ ?_
    · rintro i x y t τ H' hx hy ⟨-,v0,v1,rfl,O⟩ ht
      obtain ⟨z,hz,rfl⟩:=ints_get hx
      obtain ⟨c,hc,rfl⟩:=ints_get hy
      have hi:=(List.getElem?_eq_some_iff.mp hz).1
      have hcm:=hcb c (List.mem_of_getElem? hc)
      have hnext:=Tn.vR hz hc
      have hsl:(Tn.shares (fs.take i) (cs.take i)).length≤1000:=by
        unfold Tn.shares
        rw [List.length_map]
        refine Nat.le_trans (List.length_filter_le _ _) ?_
        rw [List.length_zip,List.length_take];omega
      walk_at "nw"
      refine ⟨t,_,rfl,O.sqT 0,rfl,_,_,rfl,_,_,rfl,rfl,?_⟩
      refine ⟨_,rfl,_,_,rfl,rfl,_,rfl,ifD (fun hp=>?_) fun hp=>?_⟩
      · rw [if_pos hp] at hnext
        refine ⟨_,rfl,_,rfl,_,_,rfl,rfl,⟨hp,by omega⟩,?_⟩
        refine ⟨_,O.get 1,aP (by rw [List.length_map];omega),?_⟩
        walk_at "pt"
        refine ⟨trivial,_,_,rfl,?_⟩
        rw [hnext,List.map_append];exact O.tail
      · rw [if_neg hp,List.append_nil] at hnext
        refine ⟨trivial,_,_,rfl,?_⟩
        rw [hnext];exact O.tail
    rintro τ H' ⟨-,v0,v1,rfl,O⟩
    rw [List.length_map,List.take_of_length_le (Nat.le_refl _),List.take_of_length_le (by omega)] at O
    have hsl:(Tn.shares fs cs).length≤1000:=by
      unfold Tn.shares
      rw [List.length_map]
      refine Nat.le_trans (List.length_filter_le _ _) ?_
      rw [List.length_zip];omega
    refine ⟨_,rfl,b,_,rfl,.inl (O.same.seq hB),fun lr hlr=>?_⟩
    walk_at "nw"
    refine ⟨_,rfl,lr,acc,_,_,rfl,rfl,O.get 0,O.get 1,kE (by rw [List.length_map,List.length_map];omega),fun l2 hl2=>?_⟩
    walk_at "nw"
    rw [← List.map_append] at O
    refine ⟨l2,rs++Tn.shares fs cs,rfl,O.sq 0,fun e0=>?_,fun m hm hle=>?_⟩
    · exact ⟨_,_,rfl,q _ _ O.same (.inl ⟨e0,rfl⟩)⟩
    · refine ⟨_,_,rfl,q _ _ O.same (.inr ⟨m,hm,hle,?_⟩)⟩
      by_cases h:m > 0
      · rw [if_pos h];omega
      · rw [if_neg h];omega
abbrev nu:Stmt:=top 26
theorem Bd:aX ["left","way","drops","reach"] ["left","way","drops"] (ao nu):=⟨rfl,rfl,rfl,by decide +kernel,rfl,by decide +kernel,by decide +kernel⟩
def vP (K:PySem.W.Frag) (T:fC):Sp:=fun vs H Q _=>∃ (a b:Addr) (fs w:List Int) (c:Int) (Hb:Hp),vs=[.ref a,.ref b,.int c]∧Ow T Hb H [(a,.lst (fs.map V.int))]∧SqL K Hb b (w.map V.int)∧Tn.WOk fs.length w ∧
  ∀ H',Ow T Hb H' [(a,.lst ((Tn.bump fs w (-c)).map V.int))]→Q .non H'
theorem Np {f:Addr} {fd:FuncData} (D:Df K mg "draw" nu ["left","way","drops"] f fd):bR P w K mg base CX0 1 f fd ["left","way","drops"] (vP K T):=by
  refine D.F.ok Bd (fun vs H Q E h=>?_) (fun cdv A outer s H vs Q E hr h=>?_)
  · obtain ⟨_,_,_,_,_,_,rfl,_⟩:=h;rfl
  · obtain ⟨a,b,fs,w,c,Hb,rfl,O,hW,ok,q⟩:=h
    refine ⟨_,(aB (dH PassesOwn.never rfl (bO (pv 1)) (aF (i:=3) Bd.nd rfl (Or.inl rfl))
        (aB (mY (pv 0) (pv 3) lD (pv 2) Cr set_list)))),?_⟩
    refine sl_7 ?_
    intro zu0
    refine ⟨_,rfl,b,rfl,⟨_,O.same.seq hW⟩,?_⟩
    refine eU (K:=K) (xs:=w.map V.int) (fun j σ H'=>Iv (∃ v3:Option V,σ=[some (.ref a),some (.ref b),some (.int c),v3]∧Ow T Hb H' [(a,.lst ((Tn.bump fs (w.take j) (-c)).map V.int))]))
      ⟨trivial,none,rfl,O⟩ (fun i σ H' _ ⟨_,_,_,O⟩=>O.same.seq hW) ?_ ?_
    · rintro j y σ H3 hy ⟨-,v4,rfl,O⟩
      obtain ⟨z,hz,rfl⟩:=ints_get hy
      obtain ⟨z0,z1⟩:=ok.2 z (List.mem_of_getElem? hz)
      obtain ⟨zn,rfl⟩:=Int.eq_ofNat_of_zero_le z0
      have hbl:(Tn.bump fs (w.take j) (-c)).length=fs.length:=Tn.jz _ _ _
      refine ⟨_,rfl,_,rfl,a,_,zn,_,rfl,rfl,O.sq 0,by rw [List.getElem?_map,bh (by omega)];rfl,?_⟩
      refine ⟨_,rfl,_,_,rfl,rfl,a,_,_,zn,rfl,rfl,O.get 0,lB (by rw [List.length_map];omega),?_⟩
      walk_at "pt"
      refine ⟨trivial,_,rfl,?_⟩
      rw [qt hz,Int.toNat_natCast,List.map_set];exact O
    · rintro σ H3 ⟨-,v4,rfl,O⟩
      rw [List.length_map,List.take_of_length_le (Nat.le_refl _)] at O
      exact q _ O
abbrev bw:Stmt:=top 27
theorem d8:aX ["left","ways","rests","takes","going","unmet","turns","taker"] ["left","ways","rests","takes","going"] (ao bw):=⟨rfl,rfl,rfl,by decide +kernel,rfl,by decide +kernel,by decide +kernel⟩
structure Yz (K:PySem.W.Frag) (T:fC) (H Hb:Hp) (a b t g:Addr) (v:V) (fs rs xs:List Int) (ws:List (List Int)) (gs:List Nat):Prop where
  O:Ow T Hb H [(a,.lst (fs.map V.int)),(t,.lst (xs.map V.int))]
  d0:Den K Hb v (yD ws)
  d1:SqL K Hb b (rs.map V.int)
  d2:SqL K Hb g ((Tn.asI gs).map V.int)
  rl:rs.length=ws.length
  xl:xs.length=ws.length
  gn:∀ k∈gs,k<ws.length
  nd:gs.Nodup
  wok:∀ w∈ws,Tn.WOk fs.length w
  fl:fs.length≤1000
  wl:ws.length≤1000
  gl:gs.length≤1000
def Pn (K:PySem.W.Frag) (T:fC):Sp:=fun vs H Q _=>∃ (a b t g:Addr) (v:V) (fs rs xs:List Int) (ws:List (List Int)) (gs:List Nat) (Hb:Hp),vs=[.ref a,v,.ref b,.ref t,.ref g]∧Yz K T H Hb a b t g v fs rs xs ws gs ∧
  ∀ (M:Int) (H':Hp),Tn.WT fs (Tn.DG fs.length ws gs) (Tn.unmet rs xs gs) M→Ow T Hb H' [(a,.lst ((Tn.bumps fs (gs.map fun k=>(Tn.fW ws k,-M))).map V.int)),(t,.lst ((Tn.bump xs (Tn.asI gs) M).map V.int))]→Q .non H'
theorem wC {ws:List (List Int)} {k:Nat} (h:k<ws.length):ws[k]?=some (Tn.fW ws k):=by
  unfold Tn.fW;rw [List.getD_eq_getElem?_getD,List.getElem?_eq_getElem h];rfl
theorem Ws {f f1 f2:Addr} {fd fd1 fd2:FuncData} (D:Df K mg "take_whole_turns" bw ["left","ways","rests","takes","going"] f fd) (B:Blt mg)
    (gq:Df K mg "whole_turns" cH ["free","ways","rests"] f1 fd1) (tE:bR P w K mg base CX0 2 f1 fd1 ["free","ways","rests"] (Pk K T))
    (mD:Df K mg "draw" nu ["left","way","drops"] f2 fd2) (Dv:bR P w K mg base CX0 1 f2 fd2 ["left","way","drops"] (vP K T)) :
    bR P w K mg base CX0 3 f fd ["left","ways","rests","takes","going"] (Pn K T):=by
  refine D.F.ok d8 (fun vs H Q E h=>?_) (fun cdv A outer s H vs Q E hr h=>?_)
  · obtain ⟨_,_,_,_,_,_,_,_,_,_,_,rfl,_⟩:=h;rfl
  · obtain ⟨a,b,t,g,v,fs,rs,xs,ws,gs,Hb,rfl,⟨O,d0,d1,d2,rl,xl,gn,nd,wok,fl,wl,gl⟩,q⟩:=h
    obtain ⟨va,vs,rfl,hV,hds⟩:=d0.jR
    have hil:((Tn.asI gs).map V.int).length=gs.length:=by rw [List.length_map,Tn.iZ]
    refine ⟨_,(aq (fZ (i:=5) (ao bw) rfl ["left","ways","rests","takes","going","unmet","turns","taker"] rfl ["taker","rests","takes"] [none,some 2,some 3] (by decide +kernel) (by decide +kernel) (by decide +kernel) rfl d8.nd rfl rfl (bO (pv 4)) (fun _ _ _=>(aF (i:=0) (show (["taker","rests","takes"]:List Str).Nodup by decide +kernel) rfl (Or.inl rfl))) (fun _ _ _=>iz) (fun _ _ _=>(aQ lH (aL (bQ (K:=K) rfl) (pv 1) (pv 0) (fun _ _=>rfl)) (aL (bQ (K:=K) rfl) (pv 2) (pv 0) (fun _ _=>rfl)))) rfl)
      (aq (aR (i:=6) d8.nd rfl (Or.inl rfl) (aK tE (hr.mono (by decide)) rfl gq.m gq.F.kp gq.b .nil bC (ak (pv 0) (ak (iC (ao bw) rfl ["left","ways","rests","takes","going","unmet","turns","taker"] rfl ["taker","ways"] [none,some 1] (by decide +kernel) (by decide +kernel) (by decide +kernel) rfl (bO (pv 4)) (fun _ _ _=>(aF (i:=0) (show (["taker","ways"]:List Str).Nodup by decide +kernel) rfl (Or.inl rfl))) (fun _ _ _=>iz) (fun _ _ _=>(aL (bQ (K:=K) rfl) (pv 1) (pv 0) (fun _ _=>rfl)))) (ak (pv 5) au)))))
      (aB (dH PassesOwn.never rfl (bO (pv 4)) (aF (i:=7) d8.nd rfl (Or.inl rfl))
        (aq (eN (aK Dv (hr.mono (by decide)) rfl mD.m mD.F.kp mD.b .nil bC (ak (pv 0) (ak (aL aG (pv 1) (pv 7) (fun _ _=>rfl)) (ak (pv 6) au)))))
        (aB (mY (pv 3) (pv 7) lD (pv 6) yr set_list))))))),?_⟩
    refine sl_8 ?_
    intro zu0 zu1 zu2 zu3
    /- unmet -/
    refine ⟨_,rfl,g,rfl,⟨_,O.same.seq d2⟩,fun lu hlu=>?_⟩
    refine dI (K:=K) (xs:=(Tn.asI gs).map V.int) (fun i τ H'=>Iv (∃ v0:Option V,τ=[v0,some (.ref b),some (.ref t)]∧Ow T Hb H' [(lu,.lst ((Tn.unmet rs xs (gs.take i)).map V.int)),(a,.lst (fs.map V.int)),(t,.lst (xs.map V.int))]))
      ⟨trivial,none,rfl,O.mk' hlu rfl⟩ (fun i τ H' _ ⟨_,_,_,O⟩=>O.same.seq d2) ?_ ?_
    · rintro i y τ H2 hy ⟨-,v0,rfl,O⟩
      obtain ⟨z,hz,rfl⟩:=ints_get hy
      obtain ⟨k,hk,rfl⟩:=Tn.jj hz
      have hkn:=gn k (List.mem_of_getElem? hk)
      have hi:=(List.getElem?_eq_some_iff.mp hk).1
      refine zF ?_
      refine ⟨_,rfl,_,rfl,b,_,_,_,rfl,rfl,O.same.seq d1,bZ (bh (by omega)),_,rfl,_,rfl,t,_,_,_,rfl,rfl,O.sq 2,bZ (bh (by omega)),_,_,rfl,rfl,?_⟩
      refine ⟨_,O.get 0,aP (by rw [List.length_map];unfold Tn.unmet;rw [List.length_map,List.length_take];omega),?_⟩
      walk_at "pt"
      refine ⟨trivial,_,rfl,?_⟩
      rw [Tn.yO hk,List.map_append];exact O
    rintro τ H2 ⟨-,v0,rfl,O⟩
    rw [hil,List.take_of_length_le (Nat.le_refl _)] at O
    have hul:(Tn.unmet rs xs gs).length=gs.length:=by unfold Tn.unmet;rw [List.length_map]
    /- whole_turns(left, .., unmet) -/
    refine ⟨_,rfl,_,rfl,g,rfl,⟨_,O.same.seq d2⟩,fun lw hlw=>?_⟩
    refine dI (K:=K) (xs:=(Tn.asI gs).map V.int) (fun i τ H'=>Iv (∃ (v0:Option V) (us:List V),τ=[v0,some (.ref va)]∧bM K Hb us ((gs.take i).map fun k=>lY (Tn.fW ws k))∧Ow T Hb H' [(lw,.lst us),(lu,.lst ((Tn.unmet rs xs gs).map V.int)),(a,.lst (fs.map V.int)),(t,.lst (xs.map V.int))]))
      ⟨trivial,none,[],rfl,.nil,O.mk' hlw rfl⟩ (fun i τ H' _ ⟨_,_,_,_,_,O⟩=>O.same.seq d2) ?_ ?_
    · rintro i y τ H3 hy ⟨-,v0,us,rfl,hus,O⟩
      obtain ⟨z,hz,rfl⟩:=ints_get hy
      obtain ⟨k,hk,rfl⟩:=Tn.jj hz
      have hkn:=gn k (List.mem_of_getElem? hk)
      have hi:=(List.getElem?_eq_some_iff.mp hk).1
      obtain ⟨wa,hwa,hW⟩:=hds.zM (wC hkn)
      refine zF ?_
      refine ⟨_,rfl,_,rfl,va,_,_,_,rfl,rfl,O.same.seq hV,cN hwa,?_⟩
      refine ⟨_,O.get 0,aP (by rw [hus.length,List.length_map,List.length_take];omega),?_⟩
      walk_at "pt"
      refine ⟨trivial,_,us++[.ref wa],rfl,?_,O⟩
      rw [Tn.gk hk]
      exact hus.append (.cons (Den.ints hW) .nil)
    rintro τ H3 ⟨-,v0,us,rfl,hus,O⟩
    rw [hil,List.take_of_length_le (Nat.le_refl _)] at hus
    have hus':bM K Hb us ((gs.map fun k=>Tn.fW ws k).map lY):=by rw [List.map_map];exact hus
    refine ⟨_,rfl,a,lu,.ref lw,fs,Tn.unmet rs xs gs,gs.map fun k=>Tn.fW ws k,rfl,O.sq 2,.list (O.sq 0) (hus'.mo O.same),O.sq 1,fl,by omega,by rw [List.length_map];omega,fun w hw=>?_,O.same.t1,fun M H4 sm hM=>?_⟩
    · obtain ⟨k,hk,rfl⟩:=List.mem_map.mp hw
      exact wok _ (Tn.p7 (gn k hk))
    have hM:Tn.WT fs (Tn.DG fs.length ws gs) (Tn.unmet rs xs gs) M:=by
      unfold Tn.DG
      rw [List.map_map] at hM
      exact hM
    have O:=((O.lZ sm).tail).tail
    /- the loop -/
    refine ⟨_,rfl,g,rfl,⟨_,O.same.seq d2⟩,?_⟩
    refine eU (K:=K) (xs:=(Tn.asI gs).map V.int) (fun i σ H'=>Iv (∃ v7:Option V,σ=[some (.ref a),some (.ref va),some (.ref b),some (.ref t),some (.ref g),some (.ref lu),some (.int M),v7] ∧
      Ow T Hb H' [(a,.lst ((Tn.bumps fs ((gs.take i).map fun k=>(Tn.fW ws k,-M))).map V.int)),(t,.lst ((Tn.bump xs (Tn.asI (gs.take i)) M).map V.int))]))
      ⟨trivial,none,rfl,O⟩ (fun i σ H' _ ⟨_,_,_,O⟩=>O.same.seq d2) ?_ ?_
    · rintro i y σ H5 hy ⟨-,v7,rfl,O⟩
      obtain ⟨z,hz,rfl⟩:=ints_get hy
      obtain ⟨k,hk,rfl⟩:=Tn.jj hz
      have hkn:=gn k (List.mem_of_getElem? hk)
      obtain ⟨wa,hwa,hW⟩:=hds.zM (wC hkn)
      have hn1:Tn.bumps fs ((gs.take (i + 1)).map fun k=>(Tn.fW ws k,-M))=Tn.bump (Tn.bumps fs ((gs.take i).map fun k=>(Tn.fW ws k,-M))) (Tn.fW ws k) (-M):=by
        rw [Tn.gk hk];exact Tn.qZ _ _ _
      have hl1:(Tn.bumps fs ((gs.take i).map fun k=>(Tn.fW ws k,-M))).length=fs.length:=Tn.j5 _ _
      have hl2:(Tn.bump xs (Tn.asI (gs.take i)) M).length=ws.length:=by rw [Tn.jz];exact xl
      have hn2:Tn.bump xs (Tn.asI (gs.take (i + 1))) M=(Tn.bump xs (Tn.asI (gs.take i)) M).set k ((Tn.bump xs (Tn.asI (gs.take i)) M).getD k 0 + M):=by
        rw [← Tn.uN,← Tn.uN,qt hz,Int.toNat_natCast]
      obtain ⟨H1,O1,s1,hB,back⟩:=Ow.lend (A:=[(a,.lst ((Tn.bumps fs ((gs.take i).map fun k=>(Tn.fW ws k,-M))).map V.int))]) (B:=[(t,.lst ((Tn.bump xs (Tn.asI (gs.take i)) M).map V.int))]) O
      refine ⟨_,rfl,_,rfl,_,rfl,va,_,_,_,rfl,rfl,O.same.seq hV,cN hwa,_,rfl,a,wa,_,_,M,H1,rfl,O1,hW.mo s1,by rw [hl1];exact wok _ (Tn.p7 hkn),fun H6 O6=>?_⟩
      have O:=back _ _ O6
      refine ⟨_,rfl,_,rfl,t,_,k,_,rfl,rfl,O.sq 1,by rw [List.getElem?_map,bh (by omega)];rfl,_,rfl,_,_,rfl,rfl,t,_,_,k,rfl,rfl,O.get 1,lB (by rw [List.length_map];omega),?_⟩
      walk_at "pt"
      refine ⟨trivial,_,rfl,?_⟩
      rw [hn1,hn2,List.map_set];exact O
    rintro σ H5 ⟨-,v7,rfl,O⟩
    rw [hil,List.take_of_length_le (Nat.le_refl _)] at O
    exact q M _ hM O
abbrev bH:Stmt:=top 28
theorem jl:aX ["left","ways","rests","takes","going","still","taker"] ["left","ways","rests","takes","going"] (ao bH):=⟨rfl,rfl,rfl,by decide +kernel,rfl,by decide +kernel,by decide +kernel⟩
def Pq (K:PySem.W.Frag) (T:fC):Sp:=fun vs H Q _=>∃ (a b t g:Addr) (v:V) (fs rs xs:List Int) (ws:List (List Int)) (gs:List Nat) (Hb:Hp),vs=[.ref a,v,.ref b,.ref t,.ref g]∧Yz K T H Hb a b t g v fs rs xs ws gs ∧
  ∀ (l:Addr) (H':Hp),Ow T Hb H' [(l,.lst ((Tn.asI (Tn.jk ws rs gs (fs,xs,[])).2.2).map V.int)),(a,.lst ((Tn.jk ws rs gs (fs,xs,[])).1.map V.int)),(t,.lst ((Tn.jk ws rs gs (fs,xs,[])).2.1.map V.int))]→Q (.ref l) H'
theorem Oe {w l:List Int}:((w.map fun r:Int=>decide (0<l.getD r.toNat 0)).all id)=w.all (fun r=>decide (0<l.getD r.toNat 0)):=by rw [List.all_map];rfl
theorem Wt {f f2:Addr} {fd fd2:FuncData} (D:Df K mg "take_one_turn" bH ["left","ways","rests","takes","going"] f fd) (B:Blt mg)
    (mD:Df K mg "draw" nu ["left","way","drops"] f2 fd2) (Dv:bR P w K mg base CX0 1 f2 fd2 ["left","way","drops"] (vP K T)) :
    bR P w K mg base CX0 2 f fd ["left","ways","rests","takes","going"] (Pq K T):=by
  refine D.F.ok jl (fun vs H Q E h=>?_) (fun cdv A outer s H vs Q E hr h=>?_)
  · obtain ⟨_,_,_,_,_,_,_,_,_,_,_,rfl,_⟩:=h;rfl
  · obtain ⟨a,b,t,g,v,fs,rs,xs,ws,gs,Hb,rfl,⟨O,d0,d1,d2,rl,xl,gn,nd,wok,fl,wl,gl⟩,q⟩:=h
    obtain ⟨va,vs,rfl,hV,hds⟩:=d0.jR
    have hil:((Tn.asI gs).map V.int).length=gs.length:=by rw [List.length_map,Tn.iZ]
    refine ⟨_,(aq (aR (i:=5) jl.nd rfl (Or.inl rfl) (eZ au))
      (aq (dH PassesOwn.never rfl (bO (pv 4)) (aF (i:=6) jl.nd rfl (Or.inl rfl))
        (aB (gZ (PW.pt (pw_and (aW Bs (aL aG (pv 3) (pv 6) (fun _ _=>rfl)) (aL aG (pv 2) (pv 6) (fun _ _=>rfl)) (bx _)) (pw_and1 (mQ (aN (FZ rfl) rfl B.all PyProof.Rows.boot_all (ak (iC (ao bH) rfl ["left","ways","rests","takes","going","still","taker"] rfl ["reach","left"] [none,some 0] (by decide +kernel) (by decide +kernel) (by decide +kernel) rfl (bO (aL aG (pv 1) (pv 6) (fun _ _=>rfl))) (fun _ _ _=>(aF (i:=0) (show (["reach","left"]:List Str).Nodup by decide +kernel) rfl (Or.inl rfl))) (fun _ _ _=>iz) (fun _ _ _=>(oA wg (aL (bQ (K:=K) rfl) (pv 1) (pv 0) (fun _ _=>rfl)) aA (bx _)))) au))))))
          (aq (eN (aK Dv (hr.mono (by decide)) rfl mD.m mD.F.kp mD.b .nil bC (ak (pv 0) (ak (aL aG (pv 1) (pv 6) (fun _ _=>rfl)) (ak aA au)))))
          (aq (mY (pv 3) (pv 6) lD aA yr set_list)
          (aB (eN (mK PySem.F.plainAttrs_list PySem.F.slot_list_append PySem.F.type_list_append cC (pv 5) (ak (pv 6) au))))))
          bY)))
      (aB (aZ (pv 5))))),?_⟩
    refine sl_9 ?_
    intro zu0 zu1 zu2 zu3 zu4 zu5
    refine ⟨szl,fun ls hls=>?_⟩
    walk_at "nw"
    refine ⟨_,rfl,g,rfl,⟨_,O.same.seq d2⟩,?_⟩
    refine eU (K:=K) (xs:=(Tn.asI gs).map V.int) (fun i σ H'=>Iv (∃ v6:Option V,σ=[some (.ref a),some (.ref va),some (.ref b),some (.ref t),some (.ref g),some (.ref ls),v6] ∧
      Ow T Hb H' [(ls,.lst ((Tn.asI (Tn.jk ws rs (gs.take i) (fs,xs,[])).2.2).map V.int)),(a,.lst ((Tn.jk ws rs (gs.take i) (fs,xs,[])).1.map V.int)),(t,.lst ((Tn.jk ws rs (gs.take i) (fs,xs,[])).2.1.map V.int))]))
      ⟨trivial,none,rfl,O⟩ (fun i σ H' _ ⟨_,_,_,O⟩=>O.same.seq d2) ?_ ?_
    · rintro i y σ H5 hy ⟨-,v7,rfl,O⟩
      obtain ⟨z,hz,rfl⟩:=ints_get hy
      obtain ⟨k,hk,rfl⟩:=Tn.jj hz
      have hkn:=gn k (List.mem_of_getElem? hk)
      have hi:=(List.getElem?_eq_some_iff.mp hk).1
      obtain ⟨wa,hwa,hW⟩:=hds.zM (wC hkn)
      have hnext:=Tn.yQ (ws:=ws) (rs:=rs) (s:=(fs,xs,[])) hk
      have hlen:=Tn.tR ws rs (gs.take i) (fs,xs,[])
      rw [hnext]
      generalize Tn.jk ws rs (gs.take i) (fs,xs,[])=S at O hlen ⊢
      obtain ⟨l,x,st⟩:=S
      obtain ⟨hl1,hl2,hl3⟩:=hlen
      have hl1:l.length=fs.length:=hl1
      have hl2:x.length=xs.length:=hl2
      have hl3:st.length≤i:=by
        have:st.length≤0 + (gs.take i).length:=hl3
        rw [List.length_take] at this;omega
      have O:Ow T Hb H5 [(ls,.lst ((Tn.asI st).map V.int)),(a,.lst (l.map V.int)),(t,.lst (x.map V.int))]:=O
      have ok:=wok _ (Tn.p7 hkn)
      have no:¬ (x.getD k 0<rs.getD k 0∧(Tn.fW ws k).all (fun r=>decide (0<l.getD r.toNat 0))=true)→Tn.step1 ws rs (l,x,st) k=(l,x,st):=fun h=>if_neg h
      have yes:(x.getD k 0<rs.getD k 0∧(Tn.fW ws k).all (fun r=>decide (0<l.getD r.toNat 0))=true)→Tn.step1 ws rs (l,x,st) k=(Tn.bump l (Tn.fW ws k) (-1),x.set k (x.getD k 0 + 1),st++[k]):=fun h=>if_pos h
      generalize Tn.step1 ws rs (l,x,st) k=S' at no yes ⊢
      refine ⟨_,rfl,_,rfl,t,_,_,_,rfl,rfl,O.sq 2,bZ (bh (by omega)),_,rfl,_,rfl,b,_,_,_,rfl,rfl,O.same.seq d1,bZ (bh (by omega)),_,_,rfl,rfl,_,rfl,ifD (fun hc1=>?_) fun hc1=>?_⟩
      · refine ⟨_,rfl,_,rfl,va,_,_,_,rfl,rfl,O.same.seq hV,cN hwa,wa,rfl,⟨_,O.same.seq hW⟩,fun lb hlb=>?_⟩
        refine dI (K:=K) (xs:=(Tn.fW ws k).map V.int) (fun j τ H'=>Iv (∃ v0:Option V,τ=[v0,some (.ref a)]∧Ow T Hb H' [(lb,.lst ((((Tn.fW ws k).take j).map fun r:Int=>decide (0<l.getD r.toNat 0)).map V.bl)),(ls,.lst ((Tn.asI st).map V.int)),(a,.lst (l.map V.int)),(t,.lst (x.map V.int))]))
          ⟨trivial,none,rfl,O.mk' hlb rfl⟩ (fun i τ H' _ ⟨_,_,_,O⟩=>O.same.seq hW) ?_ ?_
        · rintro j y τ H6 hy ⟨-,v0,rfl,O⟩
          obtain ⟨r,hr,rfl⟩:=ints_get hy
          have hj:=(List.getElem?_eq_some_iff.mp hr).1
          obtain ⟨r0,r1⟩:=ok.2 r (List.mem_of_getElem? hr)
          refine zF ?_
          refine ⟨_,rfl,_,rfl,a,_,_,_,rfl,rfl,O.sq 2,aV r0 (by omega),_,_,rfl,rfl,?_⟩
          refine ⟨_,O.get 0,aP (by rw [List.length_map,List.length_map,List.length_take];have:=ok.len;omega),?_⟩
          walk_at "pt"
          refine ⟨trivial,_,rfl,?_⟩
          rw [Tn.gk hr,List.map_append];exact O
        rintro τ H6 ⟨-,v0,rfl,O⟩
        rw [List.length_map,List.take_of_length_le (Nat.le_refl _)] at O
        refine ⟨lb,_,rfl,O.sq 0,?_⟩
        rw [Oe]
        have O:=O.tail
        refine ⟨_,rfl,ifB (fun hc2=>?_) fun hc2=>?_⟩
        · rw [yes ⟨hc1,hc2⟩]
          obtain ⟨H1,O1,s1,hB,back⟩:=Ow.lend (A:=[(a,.lst (l.map V.int))]) (B:=[(ls,.lst ((Tn.asI st).map V.int)),(t,.lst (x.map V.int))]) (O.pull 1)
          refine ⟨_,rfl,_,rfl,_,rfl,va,_,_,_,rfl,rfl,O.same.seq hV,cN hwa,a,wa,l,_,1,H1,rfl,O1,hW.mo s1,by rw [hl1];exact ok,fun H7 O7=>?_⟩
          have O:=back _ _ O7
          have O:Ow T Hb H7 [(a,.lst ((Tn.bump l (Tn.fW ws k) (-1)).map V.int)),(ls,.lst ((Tn.asI st).map V.int)),(t,.lst (x.map V.int))]:=O
          refine ⟨_,rfl,_,rfl,t,_,k,_,rfl,rfl,O.sq 2,by rw [List.getElem?_map,bh (by omega)];rfl,_,_,rfl,rfl,t,_,_,k,rfl,rfl,O.get 2,lB (by rw [List.length_map];omega),?_⟩
          walk_at "pt"
          refine ⟨_,rfl,.inl ⟨rfl,_,O.sq 1⟩,_,rfl,ls,_,_,rfl,rfl,O.get 1,aP (by rw [List.length_map,Tn.iZ];omega),?_⟩
          walk_at "pt"
          refine ⟨trivial,_,rfl,?_⟩
          have O:=O.pull 1
          show Ow T Hb _ [(ls,.lst ((Tn.asI (st++[k])).map V.int)),(a,.lst ((Tn.bump l (Tn.fW ws k) (-1)).map V.int)),(t,.lst ((x.set k (x.getD k 0 + 1)).map V.int))]
          rw [List.map_set]
          unfold Tn.asI
          rw [List.map_append,List.map_append]
          exact O
        · rw [no fun z=>by rw [z.2] at hc2;cases hc2]
          exact ⟨trivial,_,rfl,O⟩
      · refine pA ?_
        rw [no fun z=>hc1 z.1]
        exact ⟨trivial,_,rfl,O⟩
    rintro σ H5 ⟨-,v7,rfl,O⟩
    rw [hil,List.take_of_length_le (Nat.le_refl _)] at O
    exact ⟨_,rfl,q _ _ O⟩
abbrev dY:Stmt:=top 29
theorem iw:aX ["free","ways","rests","left","takes","going"] ["free","ways","rests"] (ao dY):=⟨rfl,rfl,rfl,by decide +kernel,rfl,by decide +kernel,by decide +kernel⟩
def PB (K:PySem.W.Frag) (T:fC):Sp:=fun vs H Q _=>∃ (a b:Addr) (v:V) (fs rs:List Int) (ws:List (List Int)),vs=[.ref a,v,.ref b]∧SqL K H a (fs.map V.int)∧Den K H v (yD ws)∧SqL K H b (rs.map V.int)∧rs.length=ws.length∧fs.length≤1000∧ws.length<64 ∧
  (∀ w∈ws,Tn.WOk fs.length w)∧(∀ x∈fs,0≤x)∧(∀ x∈rs,0≤x)∧TabsOk T H ∧
  ∀ (l lt ll:Addr) (xs left:List Int) (t:Int) (H':Hp),Ow T H H' [(l,.tup [.ref lt,.ref ll]),(lt,.lst (xs.map V.int)),(ll,.lst (left.map V.int))]→Tn.qz fs ws rs left xs [] t→Q (.ref l) H'
theorem Wy {f f1 f2:Addr} {fd fd1 fd2:FuncData} (D:Df K mg "deal_turns" dY ["free","ways","rests"] f fd) (B:Blt mg)
    (cB:Df K mg "take_whole_turns" bw ["left","ways","rests","takes","going"] f1 fd1) (nW:bR P w K mg base CX0 3 f1 fd1 ["left","ways","rests","takes","going"] (Pn K T))
    (dM:Df K mg "take_one_turn" bH ["left","ways","rests","takes","going"] f2 fd2) (qC:bR P w K mg base CX0 2 f2 fd2 ["left","ways","rests","takes","going"] (Pq K T)) :
    bR P w K mg base CX0 4 f fd ["free","ways","rests"] (PB K T):=by
  refine D.F.ok iw (fun vs H Q E h=>?_) (fun cdv A outer s H vs Q E hr h=>?_)
  · obtain ⟨_,_,_,_,_,_,rfl,_⟩:=h;rfl
  · obtain ⟨a,b,v,fs,rs,ws,rfl,hA,d0,hB,rl,fl,wl,wok,hf,hrs,tk,q⟩:=h
    obtain ⟨va,vs,rfl,hV,hds⟩:=d0.jR
    have hvl:vs.length=ws.length:=by rw [hds.length,List.length_map]
    refine ⟨_,(aq (aR (i:=3) iw.nd rfl (Or.inl rfl) (bI bf rfl B.list PyProof.Rows.boot_list (ak (pv 0) au)))
      (aq (aR (i:=4) iw.nd rfl (Or.inl rfl) (aQ xW (eZ (ak aA au)) (aN aM rfl B.len PySem.boot_len (ak (pv 1) au))))
      (aq (aR (i:=5) iw.nd rfl (Or.inl rfl) (uH rfl rfl B.list rfl B.range (ak (aN aM rfl B.len PySem.boot_len (ak (pv 1) au)) au)))
      (aq (rT PassesOwn.never (Eh (pv 5) (fun _=>rfl))
        (aq (eN (aK nW (hr.mono (by decide)) rfl cB.m cB.F.kp cB.b .nil bC (ak (pv 3) (ak (pv 1) (ak (pv 2) (ak (pv 4) (ak (pv 5) au)))))))
        (aB (aR (i:=5) iw.nd rfl (Or.inl rfl) (aK qC (hr.mono (by decide)) rfl dM.m dM.F.kp dM.b .nil bC (ak (pv 3) (ak (pv 1) (ak (pv 2) (ak (pv 4) (ak (pv 5) au))))))))))
      (aB (aZ (jJ (ak (pv 4) (ak (pv 3) au))))))))),?_⟩
    refine Wj ?_
    intro zu0 zu1 zu2 zu3 zu4 zu5
    have O:=Ow.refl tk
    refine ⟨_,rfl,a,_,rfl,.inl (O.same.seq hA),fun ll hll=>?_⟩
    walk_at "nw"
    refine ⟨szl,fun l1 h1=>?_⟩
    walk_at "nw"
    refine ⟨_,rfl,va,_,rfl,.inl (O.same.seq hV),l1,_,_,rfl,rfl,O.get 0,by omega,by omega,kE (by rw [hvl,Int.toNat_natCast];simp;omega),fun lt hlt=>?_⟩
    walk_at "nw"
    rw [hvl,Int.toNat_natCast,nA] at O
    have O:=O.two
    refine ⟨_,rfl,va,_,rfl,.inl (O.same.seq hV),ws.length,by rw [hvl],wl,fun lg hlg=>?_⟩
    walk_at "nw"
    have eg:iG ws.length=(Tn.asI (List.range ws.length)).map V.int:=by unfold iG Tn.asI;rw [List.map_map];rfl
    rw [eg] at O
    refine ⟨fun m σ H'=>Iv (∃ (lg:Addr) (gs:List Nat) (l xs:List Int) (t:Int),σ=[some (.ref a),some (.ref va),some (.ref b),some (.ref ll),some (.ref lt),some (.ref lg)]∧Tn.qz fs ws rs l xs gs t∧m=(Tn.rem rs xs ws.length + (gs.length:Int)).toNat ∧
      Ow T H H' [(lg,.lst ((Tn.asI gs).map V.int)),(lt,.lst (xs.map V.int)),(ll,.lst (l.map V.int))]),⟨_,trivial,lg,_,fs,_,0,rfl,Tn.qz.start hf hrs wok,rfl,O⟩,?_⟩
    rintro m σ H2 ⟨-,lg,gs,l,xs,t,rfl,LI,rfl,O⟩
    have nd:=Tn.gC LI.srt
    have gn:∀ k∈gs,k<ws.length:=fun k hk=>(LI.going k hk).1
    have gl:gs.length≤1000:=by
      have:gs.length≤ws.length:=by
        have:=List.Nodup.length_le_of_subset (l₂:=List.range ws.length) nd fun k hk=>List.mem_range.mpr (gn k hk)
        simpa using this
      omega
    refine ⟨_,rfl,_,.inl ⟨_,O.sq 0,rfl⟩,ifB (fun hc=>?_) fun hc=>?_⟩
    · have hne:0<gs.length:=by
        cases gs with
        | nil=>simp [Tn.asI] at hc
        | cons x gs=>simp
      refine ⟨_,fun σ' H' h=>h,?_⟩
      obtain ⟨H1,O1,s1,hBk,back⟩:=Ow.lend (A:=[(ll,.lst (l.map V.int)),(lt,.lst (xs.map V.int))]) (B:=[(lg,.lst ((Tn.asI gs).map V.int))]) (((O.pull 1).pull 2))
      refine ⟨_,rfl,_,rfl,_,rfl,_,rfl,_,rfl,ll,b,lt,lg,.ref va,l,rs,xs,ws,gs,H1,rfl,⟨O1,.list (hV.mo s1) (hds.mo s1),hB.mo s1,SqL.of (hBk (lg,.lst ((Tn.asI gs).map V.int)) (by simp)),rl,LI.xl,gn,nd,by rw [LI.ll];exact wok,by rw [LI.ll];exact fl,by omega,gl⟩,fun M H3 hM O3=>?_⟩
      rw [LI.ll] at hM
      have L2:=LI.whole hf wok hM
      have M0:=hM.nn
      have rw1:=Tn.Bj LI M0
      have O:=back _ _ O3
      have hll2:=L2.ll
      obtain ⟨L3,hsum⟩:=L2.one wok
      obtain ⟨H4,O4,s4,hBk4,back4⟩:=Ow.lend (A:=[(ll,.lst ((Tn.bumps l (gs.map fun k=>(Tn.fW ws k,-M))).map V.int)),(lt,.lst ((Tn.bump xs (Tn.asI gs) M).map V.int))]) (B:=[(lg,.lst ((Tn.asI gs).map V.int))]) O
      refine ⟨_,rfl,_,rfl,_,rfl,_,rfl,_,rfl,ll,b,lt,lg,.ref va,_,rs,_,ws,gs,H4,rfl,⟨O4,.list (hV.mo s4) (hds.mo s4),hB.mo s4,SqL.of (hBk4 (lg,.lst ((Tn.asI gs).map V.int)) (by simp)),rl,L2.xl,gn,nd,by rw [L2.ll];exact wok,by rw [L2.ll];exact fl,by omega,gl⟩,fun l5 H5 O5=>?_⟩
      have O:=back4 _ _ O5
      have O:=(O.del 3)
      have O:=O.pull 2
      have O:=(O.pull 1)
      refine ⟨_,?_,trivial,l5,_,_,_,_,rfl,L3,rfl,?_⟩
      · have a1:=L3.Gy
        have a2:=LI.Gy
        omega
      · exact O
    · have hg:gs=[]:=by
        cases gs with
        | nil=>rfl
        | cons x gs=>simp [Tn.asI] at hc
      subst hg
      refine ⟨_,rfl,_,rfl,szl,fun l5 hl5=>?_⟩
      walk_at "nw"
      exact q l5 lt ll xs l t _ (O.two) LI
abbrev eG:Stmt:=top 16
theorem uz:aX ["one"] ["one"] (ao eG):=⟨rfl,rfl,rfl,by decide +kernel,rfl,by decide +kernel,by decide +kernel⟩
def Ar (K:PySem.W.Frag):Sp:=fun vs H Q _=>∃ (t:Addr) (l:Lic),vs=[.ref t]∧SqT K H t (zP l)∧Q (.int l.day) H
theorem QG {f:Addr} {fd:FuncData} (D:Df K mg "day_filed" eG ["one"] f fd):bR P w K mg base CX0 1 f fd ["one"] (Ar K):=by
  refine D.F.ok uz (fun vs H Q E h=>?_) (fun cdv A outer s H vs Q E hr h=>?_)
  · obtain ⟨_,_,rfl,_⟩:=h;rfl
  · obtain ⟨t,l,rfl,hT,q⟩:=h
    refine ⟨_,(aB (aZ (aL cD (pv 0) aA (fun _ _=>rfl)))),?_⟩
    exact ⟨_,rfl,t,_,0,_,rfl,rfl,hT,rfl,q⟩
abbrev jw:Stmt:=top 20
theorem Bc:aX ["roll"] ["roll"] (ao jw):=⟨rfl,rfl,rfl,by decide +kernel,rfl,by decide +kernel,by decide +kernel⟩
def bL:Pos × Str:=(⟨54,40,54,88⟩,"ranked.<locals>.<lambda>")
def TT2 (P:Addr) (T:fC):Prop:=(P,bL.1,bL.2)∈T∧(T.map (·.1)).Nodup
def sX (ls:List Lic):Nat→Int:=fun k=>(ls[k]?.map Lic.day).getD 0
theorem CQ {ls:List Lic} {k:Nat} {l:Lic} (h:ls[k]?=some l):sX ls k=l.day:=by unfold sX;rw [h];rfl
def uh (K:PySem.W.Frag) (T:fC):Sp:=fun vs H Q _=>∃ (v:V) (ls:List Lic),vs=[v]∧Den K H v (CT ls)∧ls.length<64∧TabsOk T H ∧
  m7 T H (fun xs=>∃ p,xs=p.map (fun (i:Nat)=>V.int (i:Int))∧Tn.Rk (sX ls) ls.length p) Q
def Ov (day:Nat→Int) (i:Nat):Int:=64 * day i + (i:Int)
theorem EY {day:Nat→Int} {i j:Nat} (hi:i<64) (hj:j<64):HT.lexLt [day i,(i:Int)] [day j,(j:Int)]=decide (Ov day i<Ov day j):=by
  unfold Ov
  rw [HT.iJ,HT.iJ,HT.nH]
  rw [Bool.eq_iff_iff]
  split
  · split
    · simp only [Bool.false_eq_true,decide_eq_true_eq,false_iff];omega
    · simp only [decide_eq_true_eq];omega
  · simp only [decide_eq_true_eq];omega
theorem Bu {f fW:Addr} {fd fdW:FuncData} {pT cT:Addr} {T:fC} (D:Df K mg "ranked" jw ["roll"] f fd) (hcd:fd.code=.ref cT) (hhd:PySem.W.codeHdIn K cT pT=true) (hT:TT2 pT T) (hbm:BM mg base) (B:Blt mg)
    (cM:Df K mg "day_filed" eG ["one"] fW fdW) (m8:bR P w K mg base CX0 1 fW fdW ["one"] (Ar K)):bR P w K mg base CX0 5 f fd ["roll"] (uh K T):=by
  refine D.F.okC hcd Bc (fun vs H Q E h=>?_) (fun A outer s H vs Q E hr h=>?_)
  · obtain ⟨_,_,rfl,_⟩:=h;rfl
  · obtain ⟨v,ls,rfl,hd,h64,tk,q⟩:=h
    obtain ⟨va,vs,rfl,hV,d0⟩:=hd.jR
    have hvl:vs.length=ls.length:=by rw [d0.length,List.length_map]
    refine ⟨_,(aB (aZ (oU (P:=pT) (c:=cT) (p:="number") (ao jw) rfl ["roll"] rfl ["roll"] [some 0] (by decide +kernel) (by decide +kernel) (by decide +kernel) rfl hbm rfl hhd (yq (hr.mono (by decide))) rfl B.sorted rfl B.range (ak (aN aM rfl B.len PySem.boot_len (ak (pv 0) au)) au) (fun A f cv s H hh hd hu=>(jJ (ak (aK m8 (yp (hr.mono (by decide)) hh hd hu) rfl cM.m cM.F.kp cM.b .nil bC (ak (aL (bQ (K:=K) rfl) (pv 1) (pv 0) (fun _ _=>rfl)) au)) (ak (pv 0) au)))) (fun _ _ _ _=>rfl)))),?_⟩
    refine ⟨_,rfl,va,_,rfl,.inl hV,ls.length,by rw [hvl],h64,tk _ hT.1,fun H2 k1 k2 t2=>?_⟩
    have sT:bB T H H2:=bB.tab tk hT.1 hT.2 k1 t2
    refine ⟨fun i ts H3=>bB T H2 H3∧ts.length=i∧∀ (j:Nat) (t:Addr),ts[j]?=some t→H3 t=some (.tup ([sX ls j,(j:Int)].map V.int)),fun i=>[sX ls i,(i:Int)],Ov (sX ls),1,⟨bB.refl sT.t1,rfl,fun j t e=>by simp at e⟩,?_,?_,fun _ _=>rfl,fun i j hi hj=>EY (by omega) (by omega),?_,?_⟩
    · rintro i ts H3 hi ⟨s3,htl,h3⟩
      refine ⟨fun c' e=>s3.keep c' _ e fun ps z=>(by cases z),?_⟩
      obtain ⟨al,hal,hTl⟩:=d0.oV (List.getElem?_eq_getElem hi)
      have hTl:=hTl.mo (sT.trans s3)
      have edl:=CQ (List.getElem?_eq_getElem hi)
      refine ⟨_,rfl,_,rfl,va,_,(i:Int),_,rfl,rfl,(sT.trans s3).seq hV,cN hal,al,_,rfl,hTl,?_⟩
      refine ⟨_,rfl,(by show 2≤sizeLine;decide),fun t ht=>⟨t,rfl,?_⟩⟩
      have nt:H2 t=none:=s3.free ht
      refine ⟨s3.upd nt (.inl ht),by rw [List.length_append,htl];rfl,fun j t' e=>?_⟩
      by_cases hj:j<ts.length
      · rw [List.getElem?_append_left hj] at e
        have h4':=h3 j t' e
        rw [bA (bT h4' ht)];exact h4'
      · rw [List.getElem?_append_right (by omega)] at e
        have hj0:j - ts.length=0:=by
          have:=(List.getElem?_eq_some_iff.mp e).1
          simp at this;omega
        have hji:j=i:=by omega
        rw [hj0] at e
        simp at e
        subst e
        subst hji
        rw [cF,edl];rfl
    · rintro ts H3 ⟨_,_,h3⟩
      exact h3
    · intro i j hi hj hij e
      unfold Ov at e
      omega
    · rintro ts H3 D' ys ⟨s3,_,_⟩ hD ⟨p,hp,rfl,ho⟩
      have hbl:(iG ls.length).length=ls.length:=by unfold iG;simp
      rw [hbl] at hp
      refine q D' _ _ ((sT.trans s3).upd ((sT.trans s3).free hD) (.inl hD)) ((sT.trans s3).free hD) cF ⟨p,?_,hp,?_⟩
      · refine List.map_congr_left fun i hi=>?_
        have hi':i<ls.length:=List.mem_range.mp (hp.mem_iff.mp hi)
        show (iG ls.length).getD i .non=_
        unfold iG
        rw [List.getD_eq_getElem?_getD,List.getElem?_map,List.getElem?_range hi'];rfl
      · refine List.Pairwise.imp_of_mem (fun {a b} ha hb hab=>?_) ho
        have ha:=List.mem_range.mp (hp.mem_iff.mp ha)
        have hb:=List.mem_range.mp (hp.mem_iff.mp hb)
        unfold Ov at hab
        omega
abbrev fL:Stmt:=top 21
theorem lQ:aX ["roll","groups","number"] ["roll"] (ao fL):=⟨rfl,rfl,rfl,by decide +kernel,rfl,by decide +kernel,by decide +kernel⟩
abbrev Pg:=Addr × Int × List Nat
def Dy (ps:List Pg):List (Addr × HO):=ps.map fun p=>(p.1,.lst ((Tn.asI p.2.2).map V.int))
def kvG (ps:List Pg):List (Key × V):=ps.map fun p=>(Sum.inl p.2.1,V.ref p.1)
def uo (K:PySem.W.Frag) (T:fC):Sp:=fun vs H Q _=>∃ (v:V) (ls:List Lic),vs=[v]∧Den K H v (CT ls)∧ls.length<64∧TabsOk T H ∧
  ∀ (l:Addr) (H':Hp) (ps:List Pg) (p:List Nat),Ow T H H' ((l,.lst (ps.map fun p=>V.ref p.1)) :: Dy ps)→Tn.Rk (sX ls) ls.length p→Tn.Grp (sX ls) p (ps.map (·.2))→Q (.ref l) H'
theorem Fg {ps:List Pg} {d:Int} {v:V} (h:vA (kvG ps) (Sum.inl d)=some v):∃ (j:Nat) (p:Pg),ps[j]?=some p∧p.2.1=d∧v=.ref p.1:=by
  unfold vA kvG at h
  rw [List.find?_map,Option.map_map] at h
  cases e:ps.find? ((fun kv:Key × V=>decide (kv.1=Sum.inl d)) ∘ fun p:Pg=>(Sum.inl p.2.1,V.ref p.1)) with
  | none=>rw [e] at h;cases h
  | some p =>
    rw [e] at h
    obtain ⟨j,hj⟩:=List.getElem?_of_mem (List.mem_of_find?_eq_some e)
    have hp:=List.find?_some e
    simp only [Function.comp,decide_eq_true_eq] at hp
    exact ⟨j,p,hj,Sum.inl.inj hp,(Option.some.inj h).symm⟩
theorem Fi {ps:List Pg} {d:Int} (h:vA (kvG ps) (Sum.inl d)=none):∀ p∈ps,p.2.1≠d:=fun p hp e=>by
  unfold vA kvG at h
  rw [Option.map_eq_none_iff,List.find?_eq_none] at h
  have:=h _ (List.mem_map_of_mem hp)
  simp [e] at this
theorem Ca {ps:List Pg} {j:Nat} {p:Pg} (h:ps[j]?=some p):(Dy ps)[j]?=some (p.1,.lst ((Tn.asI p.2.2).map V.int)):=by
  unfold Dy;rw [List.getElem?_map,h];rfl
theorem oO {α β:Type} {f:α→β}:∀ {ps:List α} {j:Nat} {p q:α},ps[j]?=some p→f q=f p→(ps.set j q).map f=ps.map f
  | [],_,_,_,h,_=>by simp at h
  | a :: ps,0,p,q,h,e=>by
    have:a=p:=by simpa using h
    subst this
    simp [e]
  | a :: ps,j + 1,p,q,h,e=>by
    rw [List.set_cons_succ,List.map_cons,List.map_cons,oO (by simpa using h) e]
theorem Bw {f f1 f2:Addr} {fd fd1 fd2:FuncData} (D:Df K mg "groups_of" fL ["roll"] f fd) (B:Blt mg)
    (cM:Df K mg "day_filed" eG ["one"] f1 fd1) (m8:bR P w K mg base CX0 1 f1 fd1 ["one"] (Ar K))
    (mJ:Df K mg "ranked" jw ["roll"] f2 fd2) (Gf:bR P w K mg base CX0 5 f2 fd2 ["roll"] (uh K T)):bR P w K mg base CX0 6 f fd ["roll"] (uo K T):=by
  refine D.F.ok lQ (fun vs H Q E h=>?_) (fun cdv A outer s H vs Q E hr h=>?_)
  · obtain ⟨_,_,rfl,_⟩:=h;rfl
  · obtain ⟨v,ls,rfl,hd,h64,tk,q⟩:=h
    obtain ⟨va,vs,rfl,hV,d0⟩:=hd.jR
    have hvl:vs.length=ls.length:=by rw [d0.length,List.length_map]
    refine ⟨_,(aq (aR (i:=1) lQ.nd rfl (Or.inl rfl) Ei)
      (aq (dH PassesOwn.never rfl (bO (aK Gf (hr.mono (by decide)) rfl mJ.m mJ.F.kp mJ.b .nil bC (ak (pv 0) au))) (aF (i:=2) lQ.nd rfl (Or.inl rfl))
        (aB (eN (mK PySem.F.plainAttrs_list PySem.F.slot_list_append PySem.F.type_list_append cC (Nb (pv 1) (aK m8 (hr.mono (by decide)) rfl cM.m cM.F.kp cM.b .nil bC (ak (aL aG (pv 0) (pv 2) (fun _ _=>rfl)) au)) (eZ au) ⟨rfl,rfl,rfl,rfl⟩) (ak (pv 2) au)))))
      (aB (aZ (vY rfl rfl B.list (pv 1)))))),?_⟩
    refine Wi ?_
    intro zu0 zu1 zu2
    have O:=Ow.refl tk
    intro dg hdg
    walk_at "nw"
    refine ⟨_,rfl,.ref va,ls,rfl,hd.qH O.same,h64,O.same.t1,O.qF fun lt H2 xs O ⟨p,ep,hp⟩=>?_⟩
    subst ep
    refine ⟨lt,rfl,⟨_,O.sq 0⟩,?_⟩
    refine eU (K:=K) (xs:=p.map fun (i:Nat)=>V.int (i:Int)) (fun i σ H'=>Iv (∃ (v2:Option V) (ps:List Pg),σ=[some (.ref va),some (.ref dg),v2]∧ps.length≤i ∧
      Ow T H H' ((lt,.lst (p.map fun (i:Nat)=>V.int (i:Int))) :: (dg,.dK (kvG ps)) :: Dy ps)∧Tn.Grp (sX ls) (p.take i) (ps.map (·.2))))
      ⟨trivial,none,[],rfl,Nat.le_refl _,O,Tn.Grp.start _⟩ (fun i σ H' _ ⟨_,_,_,_,_,O,_⟩=>O.sq 0) ?_ ?_
    · rintro i y σ H3 hy ⟨-,v2,ps,rfl,hpl,O,G⟩
      rw [List.getElem?_map] at hy
      obtain ⟨k,hk,rfl⟩:∃ k,p[i]?=some k∧y=V.int (k:Int):=by
        cases e:p[i]? with
        | none=>rw [e] at hy;cases hy
        | some j=>rw [e] at hy;exact ⟨j,rfl,(Option.some.inj hy).symm⟩
      have hi:=(List.getElem?_eq_some_iff.mp hk).1
      have hpn:=hp.len
      have hkl:=hp.lt (List.mem_of_getElem? hk)
      have hbe:=hp.before hk
      obtain ⟨al,hal,hTl⟩:=d0.oV (List.getElem?_eq_getElem hkl)
      have edl:=CQ (List.getElem?_eq_getElem hkl)
      have hvk:vs[k]?=some (.ref al):=hal
      refine ⟨_,rfl,dg,rfl,.inl ⟨_,.inl (O.get 1)⟩,_,rfl,_,rfl,va,_,(k:Int),_,rfl,rfl,O.same.seq hV,cN hvk,al,_,rfl,hTl.mo O.same,?_⟩
      rw [← edl]
      refine ⟨szl,fun l1 h1=>?_⟩
      walk_at "nw"
      refine ⟨kvG ps,Sum.inl (sX ls k),O.get 2,rfl,?_,fun v hv=>?_,fun hn=>?_⟩
      · unfold kvG
        exact aP (by rw [List.length_map];omega)
      · have O:=O.tail
        obtain ⟨j,pj,hj,ej,rfl⟩:=Fg hv
        have hgj:(ps.map (·.2))[j]?=some pj.2:=by rw [List.getElem?_map,hj];rfl
        have lat:((lt,HO.lst (p.map fun (i:Nat)=>V.int (i:Int))) :: (dg,HO.dK (kvG ps)) :: Dy ps)[j + 2]?=some (pj.1,.lst ((Tn.asI pj.2.2).map V.int)):=by
          rw [List.getElem?_cons_succ,List.getElem?_cons_succ];exact Ca hj
        have hgl:pj.2.2.length≤1000:=by
          have hs:pj.2.2.Sublist (p.take i):=by rw [← G.flat];exact Tn.pB (List.mem_map_of_mem (List.mem_of_getElem? hgj))
          have:=hs.length_le
          rw [List.length_take] at this;omega
        refine ⟨.inl ⟨rfl,_,SqL.of (O.get (j + 2) lat)⟩,_,rfl,pj.1,_,_,rfl,rfl,O.get (j + 2) lat,aP (by rw [List.length_map,Tn.iZ];omega),?_⟩
        generalize hE:upd _ _ _=Hn
        have O:=Ow.vW O (j + 2) lat hE rfl
        clear hE
        refine ⟨trivial,_,ps.set j (pj.1,pj.2.1,pj.2.2++[k]),rfl,by rw [List.length_set];omega,?_,?_⟩
        · rw [show kvG (ps.set j (pj.1,pj.2.1,pj.2.2++[k]))=kvG ps from oO hj rfl]
          rw [List.set_cons_succ,List.set_cons_succ] at O
          unfold Dy
          rw [List.map_set]
          unfold Dy at O
          simp only [Tn.asI,List.map_append,List.map_cons,List.map_nil]
          exact O
        · rw [Tn.jX hk,List.map_set]
          exact G.more hgj ej hbe
      · rw [Ef _ hn]
        walk_at "pt"
        refine ⟨.inl ⟨rfl,_,O.sq 0⟩,_,rfl,l1,_,_,rfl,rfl,O.get 0,aP (by simp),?_⟩
        walk_at "pt"
        refine ⟨trivial,_,ps++[(l1,sX ls k,[k])],rfl,by rw [List.length_append];simp;omega,?_,?_⟩
        · unfold kvG Dy
          rw [List.map_append,List.map_append]
          unfold kvG Dy at O
          refine O.perm ?_
          have e:((lt,HO.lst (p.map fun (i:Nat)=>V.int (i:Int))) :: (dg,HO.dK (ps.map (fun p=>((Sum.inl p.2.1:Key),V.ref p.1))++[(l1,sX ls k,[k])].map (fun p:Pg=>((Sum.inl p.2.1:Key),V.ref p.1)))) :: (ps.map (fun p=>(p.1,HO.lst ((Tn.asI p.2.2).map V.int)))++[(l1,sX ls k,[k])].map (fun p:Pg=>(p.1,HO.lst ((Tn.asI p.2.2).map V.int)))))
            = ((lt,HO.lst (p.map fun (i:Nat)=>V.int (i:Int))) :: (dg,HO.dK (ps.map (fun p=>((Sum.inl p.2.1:Key),V.ref p.1))++[(Sum.inl (sX ls k),V.ref l1)])) :: ps.map (fun p=>(p.1,HO.lst ((Tn.asI p.2.2).map V.int))))++[(l1,HO.lst ([]++[V.int (k:Int)]))]:=rfl
          rw [e]
          exact List.perm_append_comm
        · rw [Tn.jX hk,List.map_append]
          exact G.new (fun g hg=>by
            obtain ⟨p',hp',rfl⟩:=List.mem_map.mp hg
            exact Fi hn p' hp') hbe
    · rintro σ H3 ⟨-,v2,ps,rfl,hpl,O,G⟩
      rw [List.length_map,List.take_of_length_le (Nat.le_refl _)] at G
      refine ⟨_,rfl,dg,kvG ps,rfl,.inl (O.get 1),fun l hl=>?_⟩
      walk_at "nw"
      have e:(kvG ps).map (·.2)=ps.map fun p=>V.ref p.1:=by unfold kvG;rw [List.map_map];rfl
      rw [e] at O
      exact q l _ ps p (O.sub ((List.Sublist.cons _ (List.Sublist.cons _ (List.Sublist.refl _))).cons₂ _)) hp G
abbrev mO:Stmt:=top 31
theorem jU:aX ["below","springs","roll","calls","free","wants","takes","group","ways","dealt","number","take"] ["below","springs","roll","calls"] (ao mO):=⟨rfl,rfl,rfl,by decide +kernel,rfl,by decide +kernel,by decide +kernel⟩
def yK (r:List Int) (ls:List Lic):Nat→List Int:=Tn.fW (ls.map fun l=>Rv.dB r l.start l.back)
theorem vG {r:List Int} {ls:List Lic} {k:Nat} {l:Lic} (h:ls[k]?=some l):yK r ls k=Rv.dB r l.start l.back:=by
  unfold yK Tn.fW;rw [List.getD_eq_getElem?_getD,List.getElem?_map,h];rfl
def rA (r:List Int) (l:Lic):Prop:=Vj r l∧0≤l.most
theorem MJ {r:List Int} (hR:Rv.dJ r) {ls:List Lic} (h:∀ l∈ls,rA r l) {k:Nat} (hk:k<ls.length):Tn.WOk r.length (yK r ls k):=by
  obtain ⟨h0,h1,_⟩:=(h _ (List.getElem_mem hk)).1
  rw [vG (List.getElem?_eq_getElem hk)]
  exact Rv.Eb hR h0 h1
structure tH (r s:List Int) (ls:List Lic) (cs xs:List Int):Prop where
  len:xs.length=ls.length
  fit:Tn.Fit ls.length (Tn.fF (Rv.nats r s)) (yK r ls) (Tn.fX (lO ls cs)) (Tn.fX xs)
  shown:Tn.qx ls.length (Tn.fF (Rv.nats r s)) (yK r ls) (sX ls) (Tn.fX (lO ls cs)) (Tn.fX xs)
theorem BK {r s:List Int} (h:∀ x∈s,0≤x) (i:Int):0≤Rv.lN r s i:=by
  have key:∀ (n:Nat) (f:Nat→Int),(∀ j,j<n→0≤f j)→0≤Rv.tot n f:=by
    intro n f
    induction n with
    | zero=>intro _;exact Int.le_refl _
    | succ n ih =>
      intro hf
      have:=ih fun j hj=>hf j (by omega)
      have:=hf n (by omega)
      show 0≤Rv.tot n f + f n
      omega
  refine key _ _ fun j _=>?_
  by_cases hj:j<s.length
  · have:=h _ (Tn.nJ hj)
    split
    · exact this
    · exact Int.le_refl _
  · rw [List.getD_eq_getElem?_getD,List.getElem?_eq_none (by omega)]
    split <;> exact Int.le_refl _
theorem Nt {r s:List Int} (h:∀ x∈s,0≤x):∀ x∈Rv.nats r s,0≤x:=fun x hx=>by
  obtain ⟨i,_,rfl⟩:=List.mem_map.mp hx
  exact BK h _
theorem yL {ls:List Lic} {cs:List Int} (h:ls.length=cs.length):(lO ls cs).length=ls.length:=by
  unfold lO;rw [List.length_zipWith];omega
theorem zO {ls:List Lic} {cs:List Int} {k:Nat} {l:Lic} {c:Int} (hl:ls[k]?=some l) (hc:cs[k]?=some c):(lO ls cs)[k]?=some (min c l.most):=by
  unfold lO;rw [List.getElem?_zipWith,hl,hc]
theorem zN {r:List Int} {ls:List Lic} {cs:List Int} (h:∀ l∈ls,rA r l) (hc:∀ c∈cs,0≤c):∀ x∈lO ls cs,0≤x:=fun x hx=>by
  obtain ⟨k,hk⟩:=List.getElem?_of_mem hx
  unfold lO at hk
  rw [List.getElem?_zipWith] at hk
  cases e1:ls[k]? with
  | none=>rw [e1] at hk;simp at hk
  | some l =>
    cases e2:cs[k]? with
    | none=>rw [e1,e2] at hk;simp at hk
    | some c =>
      rw [e1,e2] at hk
      have:=(h l (List.mem_of_getElem? e1)).2
      have:=hc c (List.mem_of_getElem? e2)
      have:x=min c l.most:=(Option.some.inj hk).symm
      omega
def Aq (K:PySem.W.Frag) (T:fC):Sp:=fun vs H Q _=>∃ (a b c:Addr) (v:V) (r s:List Int) (ls:List Lic) (cs:List Int),vs=[.ref a,.ref b,v,.ref c]∧Vn K H a r∧SqL K H b (s.map V.int)∧s.length=r.length∧(∀ x∈s,0≤x)∧Den K H v (CT ls)∧ls.length<64∧SqL K H c (cs.map V.int)∧ls.length=cs.length∧(∀ l∈ls,rA r l)∧(∀ c∈cs,0≤c)∧TabsOk T H ∧
  m7 T H (fun ys=>∃ xs,ys=xs.map V.int∧tH r s ls cs xs) Q
theorem Nq {f f1 f2 f3 f4 f5:Addr} {fd fd1 fd2 fd3 fd4 fd5:FuncData} (D:Df K mg "deal" mO ["below","springs","roll","calls"] f fd) (B:Blt mg)
    (cA:Df K mg "natural_of" cU ["below","springs"] f1 fd1) (mC:bR P w K mg base CX0 6 f1 fd1 ["below","springs"] (Am K T))
    (jC:Df K mg "wants_of" fV ["roll","calls"] f2 fd2) (zx:bR P w K mg base CX0 2 f2 fd2 ["roll","calls"] (xJ K T))
    (iQ:Df K mg "groups_of" fL ["roll"] f3 fd3) (wO:bR P w K mg base CX0 6 f3 fd3 ["roll"] (uo K T))
    (gK:Df K mg "reaches_of" dO ["below","one"] f4 fd4) (u9:bR P w K mg base CX0 3 f4 fd4 ["below","one"] (qN K))
    (gQ:Df K mg "deal_turns" dY ["free","ways","rests"] f5 fd5) (vh:bR P w K mg base CX0 4 f5 fd5 ["free","ways","rests"] (PB K T)) :
    bR P w K mg base CX0 7 f fd ["below","springs","roll","calls"] (Aq K T):=by
  refine D.F.ok jU (fun vs H Q E h=>?_) (fun cdv A outer s H vs Q E hr h=>?_)
  · obtain ⟨_,_,_,_,_,_,_,_,rfl,_⟩:=h;rfl
  · obtain ⟨a,b,c,v,r,sp,ls,cs,rfl,⟨hA,hR,h64⟩,hB,hsl,hsn,hd,hl64,hC,hlc,ok,hcn,tk,q⟩:=h
    obtain ⟨va,vs,rfl,hV,d0⟩:=hd.jR
    have hvl:vs.length=ls.length:=by rw [d0.length,List.length_map]
    refine ⟨_,(aq (aR (i:=4) jU.nd rfl (Or.inl rfl) (aK mC (hr.mono (by decide)) rfl cA.m cA.F.kp cA.b .nil bC (ak (pv 0) (ak (pv 1) au))))
      (aq (aR (i:=5) jU.nd rfl (Or.inr rfl) (aK zx (hr.mono (by decide)) rfl jC.m jC.F.kp jC.b .nil bC (ak (pv 2) (ak (pv 3) au))))
      (aq (aR (i:=6) jU.nd rfl (Or.inl rfl) (aQ xW (eZ (ak aA au)) (aN aM rfl B.len PySem.boot_len (ak (pv 2) au))))
      (aq (dH PassesOwn.never rfl (bO (aK wO (hr.mono (by decide)) rfl iQ.m iQ.F.kp iQ.b .nil bC (ak (pv 2) au))) (aF (i:=7) jU.nd rfl (Or.inl rfl))
        (aq (fZ (i:=8) (ao mO) rfl ["below","springs","roll","calls","free","wants","takes","group","ways","dealt","number","take"] rfl ["number","below","roll"] [none,some 0,some 2] (by decide +kernel) (by decide +kernel) (by decide +kernel) rfl jU.nd rfl rfl (bO (pv 7)) (fun _ _ _=>(aF (i:=0) (show (["number","below","roll"]:List Str).Nodup by decide +kernel) rfl (Or.inl rfl))) (fun _ _ _=>iz) (fun _ _ _=>(aK u9 (hr.mono (by decide)) rfl gK.m gK.F.kp gK.b .nil bC (ak (pv 1) (ak (aL (bQ (K:=K) rfl) (pv 2) (pv 0) (fun _ _=>rfl)) au)))) rfl)
        (aq (iD (aK vh (hr.mono (by decide)) rfl gQ.m gQ.F.kp gQ.b .nil bC (ak (pv 4) (ak (pv 8) (ak (iC (ao mO) rfl ["below","springs","roll","calls","free","wants","takes","group","ways","dealt","number","take"] rfl ["number","wants"] [none,some 5] (by decide +kernel) (by decide +kernel) (by decide +kernel) rfl (bO (pv 7)) (fun _ _ _=>(aF (i:=0) (show (["number","wants"]:List Str).Nodup by decide +kernel) rfl (Or.inl rfl))) (fun _ _ _=>iz) (fun _ _ _=>(aL (bQ (K:=K) rfl) (pv 1) (pv 0) (fun _ _=>rfl)))) au)))) (iB rfl (aH (aF (i:=9) jU.nd rfl (Or.inl rfl)) (aH (aF (i:=4) jU.nd rfl (Or.inl rfl)) cJ))))
        (aB (dH PassesOwn.never rfl (qO rfl B.zip (ak (pv 7) (ak (pv 9) au))) (iB rfl (aH (aF (i:=10) jU.nd rfl (Or.inl rfl)) (aH (aF (i:=11) jU.nd rfl (Or.inl rfl)) cJ)))
          (aB (iD (pv 11) (pX (pv 6) (pv 10) set_list))))))))
      (aB (aZ (pv 6))))))),?_⟩
    refine Wh ?_
    intro zu0 zu1 zu2 zu3 zu4 zu5 zu6 zu7
    have O:=Ow.refl tk
    refine ⟨_,rfl,_,rfl,a,b,r,sp,rfl,⟨hA,hR,h64⟩,hB,hsl,tk,O.qF fun lf H1 ys O e=>?_⟩
    subst e
    refine ⟨_,rfl,_,rfl,.ref va,c,ls,cs,rfl,hd.qH O.same,O.same.seq hC,hlc,by omega,O.same.t1,O.qF fun lw H2 ys O e=>?_⟩
    subst e
    have hnl:(Rv.nats r sp).length=r.length:=(Rv.wj r sp).len
    have hnn:=Nt (r:=r) hsn
    have hwl:=yL hlc
    have hwn:=zN ok hcn
    have hW:=fun k (hk:k<ls.length)=>MJ hR ok hk
    have hwk:∀ k,k<ls.length→0≤Tn.fX (lO ls cs) k:=fun k hk=>hwn _ (Tn.nJ (by omega))
    generalize hwa:lO ls cs=wa at O hwl hwn hwk
    refine ⟨szl,fun l1 h1=>?_⟩
    walk_at "nw"
    refine ⟨_,rfl,va,_,rfl,.inl (O.same.seq hV),l1,_,_,rfl,rfl,O.get 0,by omega,by omega,kE (by rw [Int.toNat_natCast];simp;omega),fun lt hlt=>?_⟩
    walk_at "nw"
    rw [Int.toNat_natCast,nA,hvl] at O
    have O:=O.two
    refine ⟨_,rfl,.ref va,ls,rfl,hd.qH O.same,hl64,O.same.t1,fun lg H3 ps p OG R G=>?_⟩
    have nin:∀ q∈((lg,HO.lst (ps.map fun p=>V.ref p.1)) :: Dy ps),∀ z∈[(lt,HO.lst ((List.replicate ls.length 0).map V.int)),(lw,.lst (wa.map V.int)),(lf,.lst ((Rv.nats r sp).map V.int))],z.1≠q.1:=fun q hq z hz e=>by
      have h1:=OG.new q hq
      have h2:=O.at_ z hz
      rw [e,h1] at h2;cases h2
    obtain ⟨Hb,O,sb,kb⟩:=(O.lZ OG.same).reb
    have hG:SqL K Hb lg (ps.map fun p=>V.ref p.1):=SqL.of (kb lg _ (OG.get 0) (nin _ List.mem_cons_self))
    have hP:∀ (j:Nat) (pj:Pg),ps[j]?=some pj→SqL K Hb pj.1 ((Tn.asI pj.2.2).map V.int):=fun j pj hj=>by
      have:=Ca hj
      have hm:=List.mem_of_getElem? this
      exact SqL.of (kb _ _ (OG.at_ _ (List.mem_cons_of_mem _ hm)) (nin _ (List.mem_cons_of_mem _ hm)))
    clear nin kb OG
    have hA:=sb.seq hA
    have hV:=sb.seq hV
    have d0:=d0.mo sb
    refine ⟨lg,rfl,⟨_,O.same.seq hG⟩,?_⟩
    refine eU (K:=K) (xs:=ps.map fun p=>V.ref p.1) (fun j σ H'=>Iv (∃ (lf:Addr) (v7 v8 v9 v10 v11:Option V) (xs fl:List Int),σ=[some (.ref a),some (.ref b),some (.ref va),some (.ref c),some (.ref lf),some (.ref lw),some (.ref lt),v7,v8,v9,v10,v11] ∧
      Ow T Hb H' [(lt,.lst (xs.map V.int)),(lw,.lst (wa.map V.int)),(lf,.lst (fl.map V.int))]∧Tn.zK ls.length (Rv.nats r sp) (yK r ls) (sX ls) (Tn.fX wa) (ps.map (·.2)) j xs fl))
      ⟨trivial,lf,none,none,none,none,none,_,_,rfl,O,Tn.zK.start _ hwk hnn⟩ (fun i σ H' _ ⟨_,_,_,_,_,_,_,_,_,_,O,_⟩=>O.same.seq hG) ?_ ?_
    · rintro j y σ H4 hy ⟨-,lf,v7,v8,v9,v10,v11,xs,fl,rfl,O,GI⟩
      rw [List.getElem?_map] at hy
      obtain ⟨pj,hj,rfl⟩:∃ pj,ps[j]?=some pj∧y=V.ref pj.1:=by
        cases e:ps[j]? with
        | none=>rw [e] at hy;cases hy
        | some j=>rw [e] at hy;exact ⟨j,rfl,(Option.some.inj hy).symm⟩
      have hgj:(ps.map (·.2))[j]?=some pj.2:=by rw [List.getElem?_map,hj];rfl
      have hPj:=hP j pj hj
      have up:=G.up R (List.mem_of_getElem? hgj)
      have nd:=Tn.gC up
      have hlt:∀ k∈pj.2.2,k<ls.length:=fun k hk=>R.lt (by rw [← G.flat];exact List.mem_flatten.mpr ⟨pj.2.2,List.mem_map_of_mem (List.mem_of_getElem? hgj),hk⟩)
      have hgl:pj.2.2.length≤ls.length:=by
        have hs:pj.2.2.Sublist p:=by rw [← G.flat];exact Tn.pB (List.mem_map_of_mem (List.mem_of_getElem? hgj))
        have:=hs.length_le
        rw [R.len] at this;exact this
      have hfl:=GI.fll
      have hxl:=GI.xl
      have hfn:=GI.nn hnn
      /- ways -/
      refine ⟨_,rfl,pj.1,rfl,⟨_,O.same.seq hPj⟩,fun acc hacc=>?_⟩
      refine dI (K:=K) (xs:=(Tn.asI pj.2.2).map V.int) (fun i τ H'=>Iv (∃ (v0:Option V) (Hc:Hp) (us:List V),τ=[v0,some (.ref a),some (.ref va)]∧Ow T Hc H' [(acc,.lst us),(lt,.lst (xs.map V.int)),(lw,.lst (wa.map V.int)),(lf,.lst (fl.map V.int))]∧bB T Hb Hc∧bM K Hc us ((pj.2.2.take i).map fun k=>lY (yK r ls k))))
        ⟨trivial,none,Hb,[],rfl,O.mk' hacc rfl,bB.refl O.same.t0,.nil⟩ (fun i τ H' _ ⟨_,_,_,_,_,O,sc,_⟩=>(sc.trans O.same).seq hPj) ?_ ?_
      · rintro i y τ H5 hy ⟨-,v0,Hc,us,rfl,O,sc,d1⟩
        obtain ⟨z,hz,rfl⟩:=ints_get hy
        obtain ⟨k,hk,rfl⟩:=Tn.jj hz
        have hi:=(List.getElem?_eq_some_iff.mp hk).1
        have hkl:=hlt k (List.mem_of_getElem? hk)
        obtain ⟨al,hal,hTl⟩:=d0.oV (List.getElem?_eq_getElem hkl)
        refine zF ?_
        refine ⟨_,rfl,_,rfl,_,rfl,va,_,(k:Int),_,rfl,rfl,(sc.trans O.same).seq hV,cN hal,a,al,r,_,rfl,(sc.trans O.same).seq hA,hR,by omega,hTl.mo (sc.trans O.same),(ok _ (List.getElem_mem hkl)).1,O.got fun lx H6 ys O e=>?_⟩
        subst e
        refine ⟨_,O.get 1,aP (by rw [d1.length,List.length_map,List.length_take];omega),?_⟩
        walk_at "pt"
        obtain ⟨Hn2,O,sn,en2⟩:=O.frz
        refine ⟨trivial,_,Hn2,us++[.ref lx],rfl,O,sc.trans sn,?_⟩
        rw [Tn.gk hk]
        refine (d1.mo sn).append (.cons ?_ .nil)
        rw [vG (List.getElem?_eq_getElem hkl)]
        exact Den.ints (SqL.of en2)
      rintro τ H5 ⟨-,v0,Hc,us,rfl,O,sc,d1⟩
      rw [List.length_map,Tn.iZ,List.take_of_length_le (Nat.le_refl _)] at d1
      /- rests -/
      refine ⟨_,rfl,_,rfl,_,rfl,pj.1,rfl,⟨_,(sc.trans O.same).seq hPj⟩,fun ac2 hac2=>?_⟩
      refine dI (K:=K) (xs:=(Tn.asI pj.2.2).map V.int) (fun i τ H'=>Iv (∃ (v0:Option V),τ=[v0,some (.ref lw)]∧Ow T Hc H' [(ac2,.lst (((pj.2.2.take i).map (Tn.fX wa)).map V.int)),(acc,.lst us),(lt,.lst (xs.map V.int)),(lw,.lst (wa.map V.int)),(lf,.lst (fl.map V.int))]))
        ⟨trivial,none,rfl,O.mk' hac2 rfl⟩ (fun i τ H' _ ⟨_,_,_,O⟩=>(sc.trans O.same).seq hPj) ?_ ?_
      · rintro i y τ H6 hy ⟨-,v0,rfl,O⟩
        obtain ⟨z,hz,rfl⟩:=ints_get hy
        obtain ⟨k,hk,rfl⟩:=Tn.jj hz
        have hi:=(List.getElem?_eq_some_iff.mp hk).1
        have hkl:=hlt k (List.mem_of_getElem? hk)
        refine zF ?_
        refine ⟨_,rfl,_,rfl,lw,_,(k:Int),_,rfl,rfl,O.sq 3,bZ (bh (ns:=wa) (k:=k) (by omega)),?_⟩
        refine ⟨_,O.get 0,aP (by rw [List.length_map,List.length_map,List.length_take];omega),?_⟩
        walk_at "pt"
        refine ⟨trivial,_,rfl,?_⟩
        rw [Tn.gk hk,List.map_append];exact O
      rintro τ H6 ⟨-,v0,rfl,O⟩
      rw [List.length_map,Tn.iZ,List.take_of_length_le (Nat.le_refl _)] at O
      have dws:bM K Hc us ((pj.2.2.map (yK r ls)).map lY):=by rw [List.map_map];exact d1
      refine ⟨lf,ac2,.ref acc,fl,pj.2.2.map (Tn.fX wa),pj.2.2.map (yK r ls),rfl,O.sq 4,.list (O.sq 1) (dws.mo O.same),O.sq 0,by rw [List.length_map,List.length_map],by omega,by rw [List.length_map];omega,fun w hw=>?_,hfn,fun x hx=>?_,O.same.t1,fun l lt2 ll ys left t H7 OD L=>?_⟩
      · obtain ⟨k,hk,rfl⟩:=List.mem_map.mp hw
        rw [hfl,hnl]
        exact hW k (hlt k hk)
      · obtain ⟨k,hk,rfl⟩:=List.mem_map.mp hx
        exact hwk k (hlt k hk)
      have O:=O.join OD
      walk_at "jn"
      refine ⟨l,_,rfl,O.sqT 0,rfl,_,_,rfl,_,_,rfl,rfl,?_⟩
      have O:=((((O.del 0).del 2).del 2).del 4)
      walk_at "er"
      have hyl:ys.length=pj.2.2.length:=by rw [L.xl,List.length_map]
      refine ⟨_,rfl,_,rfl,pj.1,lt2,_,_,rfl,(sc.trans O.same).seq hPj,O.sq 0,?_⟩
      refine sU (K:=K) (fun i σ H'=>Iv (∃ (v10 v11:Option V) (cur:List Int),σ=[some (.ref a),some (.ref b),some (.ref va),some (.ref c),some (.ref ll),some (.ref lw),some (.ref lt),some (.ref pj.1),some (.ref acc),some (.ref lt2),v10,v11]∧cur.length=ls.length∧(∀ k,Tn.fX cur k=Tn.over (Tn.fX xs) (pj.2.2.take i) (Tn.fX ys) k) ∧
        Ow T Hc H' [(lt2,.lst (ys.map V.int)),(ll,.lst (left.map V.int)),(lt,.lst (cur.map V.int)),(lw,.lst (wa.map V.int))])) (by rw [List.length_map,List.length_map,Tn.iZ];omega)
        ⟨trivial,_,_,xs,rfl,hxl,fun k=>by rw [List.take_zero,Tn.kY (by simp)],O⟩ (fun i σ H' _ ⟨_,_,_,_,_,_,_,O⟩=>⟨(sc.trans O.same).seq hPj,O.sq 0⟩) ?_ ?_
      · rintro i x y t' σ H8 hx hy ⟨-,v10,v11,cur,rfl,hcl,hov,O⟩ ht
        obtain ⟨z,hz,rfl⟩:=ints_get hx
        obtain ⟨k,hk,rfl⟩:=Tn.jj hz
        obtain ⟨u,hu,rfl⟩:=ints_get hy
        have hkl:=hlt k (List.mem_of_getElem? hk)
        walk_at "nw"
        refine ⟨t',_,rfl,O.sqT 0,rfl,_,_,rfl,_,_,rfl,rfl,?_⟩
        refine ⟨_,rfl,_,rfl,_,rfl,lt,_,_,k,rfl,rfl,O.get 3,lB (by rw [List.length_map];omega),?_⟩
        walk_at "pt"
        have O:=O.tail
        refine ⟨trivial,_,_,cur.set k u,rfl,by rw [List.length_set];exact hcl,fun m=>?_,by rw [List.map_set];exact O⟩
        rw [Tn.Bq nd hk m,← hov m]
        unfold Tn.fX
        rw [Tn.sO (by omega)]
        by_cases hm:m=k
        · rw [if_pos hm,if_pos hm,List.getD_eq_getElem?_getD,hu];rfl
        · rw [if_neg hm,if_neg hm]
      · rintro σ H8 ⟨-,v10,v11,cur,rfl,hcl,hov,O⟩
        rw [List.length_map,Tn.iZ,List.take_of_length_le (Nat.le_refl _)] at hov
        have O:=(O.base sc).tail
        have O:=O.pull 2
        walk_at "er"
        have O:=O.pull 2
        walk_at "er"
        refine ⟨trivial,ll,_,_,_,_,_,cur,left,rfl,O,?_⟩
        exact GI.step G R hgj (by rw [hnl];exact hW) L hcl hov
    · rintro σ H4 ⟨-,lf,v7,v8,v9,v10,v11,xs,fl,rfl,O,GI⟩
      rw [List.length_map] at GI
      have GI:Tn.zK ls.length (Rv.nats r sp) (yK r ls) (sX ls) (Tn.fX wa) (ps.map (·.2)) (ps.map (·.2)).length xs fl:=by rw [List.length_map];exact GI
      obtain ⟨F1,F2⟩:=GI.finish G R
      rw [← hwa] at F1 F2
      exact ⟨_,rfl,(O.base sb).ret 0 rfl q ⟨xs,rfl,GI.xl,F1,F2⟩⟩
abbrev gD:Stmt:=top 17
theorem vV:aX ["one"] ["one"] (ao gD):=⟨rfl,rfl,rfl,by decide +kernel,rfl,by decide +kernel,by decide +kernel⟩
def Aj (K:PySem.W.Frag):Sp:=fun vs H Q _=>∃ (a:Addr) (l:Lic),vs=[.ref a]∧SqT K H a (zP l)∧Q (.int l.start) H
theorem Nj {f:Addr} {fd:FuncData} (D:Df K mg "start_of" gD ["one"] f fd):bR P w K mg base CX0 1 f fd ["one"] (Aj K):=by
  refine D.F.ok vV (fun vs H Q E h=>?_) (fun cdv A outer s H vs Q E hr h=>?_)
  · obtain ⟨_,_,rfl,_⟩:=h;rfl
  · obtain ⟨a,l,rfl,hT,q⟩:=h
    refine ⟨_,(aB (aZ (aL cD (pv 0) aA (fun _ _=>rfl)))),?_⟩
    exact ⟨_,rfl,a,_,1,_,rfl,rfl,hT,rfl,q⟩
abbrev cR:Stmt:=top 34
theorem jr:aX ["roll","pond","number","room","leak"] ["roll","pond"] (ao cR):=⟨rfl,rfl,rfl,by decide +kernel,rfl,by decide +kernel,by decide +kernel⟩
def Al (K:PySem.W.Frag):Sp:=fun vs H Q _=>∃ (b c:Addr) (rs:List V) (ls:List Lic) (p:Int × Int × Int) (l:Lic),vs=[.ref b,.ref c]∧SqL K H b rs∧bM K H rs (ls.map qI)∧SqT K H c [.int p.1,.int p.2.1,.int p.2.2]∧0≤p.1∧ls[p.1.toNat]?=some l∧Q (.int l.start) H
theorem Qq {f f1:Addr} {fd fd1:FuncData} (D:Df K mg "pond_start" cR ["roll","pond"] f fd) (jD:Df K mg "start_of" gD ["one"] f1 fd1) (zy:bR P w K mg base CX0 1 f1 fd1 ["one"] (Aj K)):bR P w K mg base CX0 2 f fd ["roll","pond"] (Al K):=by
  refine D.F.ok jr (fun vs H Q E h=>?_) (fun cdv A outer s H vs Q E hr h=>?_)
  · obtain ⟨_,_,_,_,_,_,rfl,_⟩:=h;rfl
  · obtain ⟨b,c,rs,ls,p,l,rfl,hB,d0,hC,p0,hl,q⟩:=h
    refine ⟨_,(aq (iD (pv 1) (iB rfl (aH (aF (i:=2) jr.nd rfl (Or.inl rfl)) (aH (aF (i:=3) jr.nd rfl (Or.inl rfl)) (aH (aF (i:=4) jr.nd rfl (Or.inl rfl)) cJ)))))
      (aB (aZ (aK zy (hr.mono (by decide)) rfl jD.m jD.F.kp jD.b .nil bC (ak (aL aG (pv 0) (pv 2) (fun _ _=>rfl)) au))))),?_⟩
    refine VP ?_
    intro zu0
    obtain ⟨al,hal,hT⟩:=d0.oV hl
    obtain ⟨n,hn⟩:=Int.eq_ofNat_of_zero_le p0
    have en:p.1.toNat=n:=by omega
    rw [en] at hal
    refine ⟨_,rfl,c,_,rfl,hC,rfl,_,_,rfl,_,_,rfl,_,_,rfl,rfl,?_⟩
    exact ⟨_,rfl,_,rfl,b,_,_,_,rfl,rfl,hB,by rw [hn];exact cN hal,al,l,rfl,hT,q⟩
def o7 (ks:List Int) (m:Int × Int × Int):List Int:=ks.set m.1.toNat (ks.getD m.1.toNat 0 - m.2.2)
def bN (ks:List Int) (ms:List (Int × Int × Int)):List Int:=ms.foldl o7 ks
theorem oG (ks:List Int) (ms:List (Int × Int × Int)) (m:Int × Int × Int):bN ks (ms++[m])=o7 (bN ks ms) m:=by
  unfold bN;rw [List.foldl_append];rfl
theorem j4 (ms:List (Int × Int × Int)):∀ ks:List Int,(bN ks ms).length=ks.length:=by
  induction ms with
  | nil=>intro ks;rfl
  | cons m ms ih =>
    intro ks
    show (bN (o7 ks m) ms).length=_
    rw [ih];unfold o7;rw [List.length_set]
structure wM (r:List Int) (ls:List Lic) (ps:List (Int × Int × Int)) (ks:List Int) (m:Int × Int × Int):Prop where
  at0:0≤m.1
  pd:∃ p l,ps[m.1.toNat]?=some p∧0≤p.1∧ls[p.1.toNat]?=some l∧0≤l.start∧l.start<(r.length:Int)∧(m.2.1=-1∨m.2.1∈Rv.walk r l.start)
  amt:0≤m.2.2
  most:m.2.2≤ks.getD m.1.toNat 0
abbrev cV:Stmt:=top 35
theorem iW:aX ["below","roll","ponds","kept","let","place","reach","amount"] ["below","roll","ponds","kept","let"] (ao cV):=⟨rfl,rfl,rfl,by decide +kernel,rfl,by decide +kernel,by decide +kernel⟩
def Gw (K:PySem.W.Frag) (T:fC):Sp:=fun vs H Q _=>∃ (a b c d e:Addr) (r ks:List Int) (rs us:List V) (ls:List Lic) (ps:List (Int × Int × Int)) (m:Int × Int × Int),vs=[.ref a,.ref b,.ref c,.ref d,.ref e]∧SqL K H a (r.map V.int)∧Rv.dJ r∧r.length≤900∧SqL K H b rs∧bM K H rs (ls.map qI)∧SqL K H c us∧bM K H us (ps.map dMv)∧SqL K H d (ks.map V.int)∧ks.length=ps.length∧SqT K H e [.int m.1,.int m.2.1,.int m.2.2]∧wM r ls ps ks m∧TabsOk T H∧∀ H',bB T H H'→Q .non H'
theorem QC {f f1 f2:Addr} {fd fd1 fd2:FuncData} (D:Df K mg "look_at_let" cV ["below","roll","ponds","kept","let"] f fd) (B:Blt mg) (C:Mth mg)
    (dF:Df K mg "way_of" iY ["below","reach"] f1 fd1) (nU:bR P w K mg base CX0 1 f1 fd1 ["below","reach"] (xH K))
    (cu:Df K mg "pond_start" cR ["roll","pond"] f2 fd2) (mq:bR P w K mg base CX0 2 f2 fd2 ["roll","pond"] (Al K)):bR P w K mg base CX0 3 f fd ["below","roll","ponds","kept","let"] (Gw K T):=by
  obtain ⟨tM,hMOUTH⟩:=C.MOUTH
  refine D.F.ok iW (fun vs H Q E h=>?_) (fun cdv A outer s H vs Q E hr h=>?_)
  · obtain ⟨_,_,_,_,_,_,_,_,_,_,_,_,rfl,_⟩:=h;rfl
  · obtain ⟨a,b,c,d,e,r,ks,rs,us,ls,ps,m,rfl,hA,hR,r9,hB,d0,hC,d1,hD,hkl,hE,LO,tk,q⟩:=h
    refine ⟨_,(aq (iD (pv 4) (iB rfl (aH (aF (i:=5) iW.nd rfl (Or.inl rfl)) (aH (aF (i:=6) iW.nd rfl (Or.inl rfl)) (aH (aF (i:=7) iW.nd rfl (Or.inl rfl)) cJ)))))
      (aq (gZ (mR (xV Ng Bs aA (pv 5) (aN aM rfl B.len PySem.boot_len (ak (pv 2) au))))
        (aB o9)
        bY)
      (aq (gZ (PW.pt (pw_and (aW oZ (pv 6) (lR (v:=.int (-1)) rfl hMOUTH ⟨_,rfl⟩) (bx _)) (pw_and1 (aW jO (pv 6) (aK nU (hr.mono (by decide)) rfl dF.m dF.F.kp dF.b .nil bC (ak (pv 0) (ak (aK mq (hr.mono (by decide)) rfl cu.m cu.F.kp cu.b .nil bC (ak (pv 1) (ak (aL aG (pv 2) (pv 5) (fun _ _=>rfl)) au))) au))) (by rfl)))))
        (aB o9)
        bY)
      (aB (gZ (mR (xV Ng Ng aA (pv 7) (aL aG (pv 3) (pv 5) (fun _ _=>rfl))))
        (aB o9)
        bY))))),?_⟩
    refine Wg ?_
    intro zu0 zu1 zu2 zu3 zu4 zu5
    have O:=Ow.refl tk
    obtain ⟨p,l,hp,p0,hl,l0,l1,hin⟩:=LO.pd
    have m0:=LO.at0
    have ma:=LO.amt
    have mm:=LO.most
    obtain ⟨mi,mz,mv⟩:=m
    dsimp only at hp hin m0 ma mm hE
    obtain ⟨n,rfl⟩:=Int.eq_ofNat_of_zero_le m0
    rw [Int.toNat_natCast] at hp mm
    have hnl:=(List.getElem?_eq_some_iff.mp hp).1
    have hul:us.length=ps.length:=by rw [d1.length,List.length_map]
    obtain ⟨ap,hap,hTp⟩:∃ ap,us[n]?=some (.ref ap)∧SqT K H ap [.int p.1,.int p.2.1,.int p.2.2]:=by
      obtain ⟨u,hu⟩:∃ u,us[n]?=some u:=⟨_,List.getElem?_eq_getElem (by omega)⟩
      obtain ⟨ap,p',rfl,hp',hT⟩:=d1.jQ hu
      rw [hp] at hp'
      have:=Option.some.inj hp'
      subst this
      exact ⟨ap,hu,hT⟩
    refine ⟨_,rfl,e,_,rfl,hE,rfl,_,_,rfl,_,_,rfl,_,_,rfl,rfl,?_⟩
    refine ⟨_,rfl,_,_,rfl,rfl,_,rfl,ifD (fun _=>?_) (fun h=>absurd m0 h)⟩
    refine ⟨_,rfl,c,_,rfl,.inl hC,_,_,rfl,rfl,_,rfl,ifN (ifD (fun _=>?_) fun h=>absurd (by omega) h)⟩
    refine ⟨_,rfl,rfl,_,rfl,ifN (ifI (fun he=>pA ?_) fun he=>?_)⟩
    · refine ⟨_,rfl,_,_,rfl,rfl,_,rfl,ifD (fun _=>?_) (fun h=>absurd ma h)⟩
      refine ⟨_,rfl,_,rfl,d,_,_,_,rfl,rfl,O.same.seq hD,bZ (bh (ns:=ks) (k:=n) (by omega)),_,_,rfl,rfl,_,rfl,ifN (ifD (fun _=>?_) fun h=>absurd mm h)⟩
      exact q _ O.same
    · refine ⟨_,rfl,_,rfl,_,rfl,_,rfl,_,rfl,c,_,_,_,rfl,rfl,hC,cN hap,b,ap,rs,ls,p,l,rfl,hB,d0,hTp,p0,hl,a,r,l.start,rfl,hA,hR,l0,l1,r9,O.got fun lw H2 xs O e=>?_⟩
      subst e
      refine ⟨lw,_,rfl,.inl (O.sq 0),rfl,nO _,_,rfl,?_⟩
      rw [if_pos rfl,sI]
      refine ifN (ifD (fun _=>?_) fun h=>absurd (hin.resolve_left he) h)
      refine ⟨_,rfl,_,_,rfl,rfl,_,rfl,ifD (fun _=>?_) (fun h=>absurd ma h)⟩
      refine ⟨_,rfl,_,rfl,d,_,_,_,rfl,rfl,O.same.seq hD,bZ (bh (ns:=ks) (k:=n) (by omega)),_,_,rfl,rfl,_,rfl,ifN (ifD (fun _=>?_) fun h=>absurd mm h)⟩
      exact q _ O.same
abbrev jh:Stmt:=top 36
theorem jB:aX ["below","roll","ponds","kept","lets","left","let","place","reach","amount"] ["below","roll","ponds","kept","lets"] (ao jh):=⟨rfl,rfl,rfl,by decide +kernel,rfl,by decide +kernel,by decide +kernel⟩
def Pu (K:PySem.W.Frag) (T:fC):Sp:=fun vs H Q _=>∃ (a b c d e:Addr) (r ks:List Int) (rs us ts:List V) (ls:List Lic) (ps ms:List (Int × Int × Int)),vs=[.ref a,.ref b,.ref c,.ref d,.ref e]∧SqL K H a (r.map V.int)∧Rv.dJ r∧r.length≤900∧SqL K H b rs∧bM K H rs (ls.map qI)∧SqL K H c us∧bM K H us (ps.map dMv)∧SqL K H d (ks.map V.int)∧ks.length=ps.length∧SqL K H e ts∧bM K H ts (ms.map dMv)∧(∀ (i:Nat) (m:Int × Int × Int),ms[i]?=some m→wM r ls ps (bN ks (ms.take i)) m)∧TabsOk T H ∧
  m7 T H (fun ys=>ys=(bN ks ms).map V.int) Q
theorem Wv {f f1:Addr} {fd fd1:FuncData} (D:Df K mg "let_out" jh ["below","roll","ponds","kept","lets"] f fd) (B:Blt mg)
    (gw:Df K mg "look_at_let" cV ["below","roll","ponds","kept","let"] f1 fd1) (tG:bR P w K mg base CX0 3 f1 fd1 ["below","roll","ponds","kept","let"] (Gw K T)):bR P w K mg base CX0 4 f fd ["below","roll","ponds","kept","lets"] (Pu K T):=by
  refine D.F.ok jB (fun vs H Q E h=>?_) (fun cdv A outer s H vs Q E hr h=>?_)
  · obtain ⟨_,_,_,_,_,_,_,_,_,_,_,_,_,rfl,_⟩:=h;rfl
  · obtain ⟨a,b,c,d,e,r,ks,rs,us,ts,ls,ps,ms,rfl,hA,hR,r9,hB,d0,hC,d1,hD,hkl,hE,d2,good,tk,q⟩:=h
    refine ⟨_,(aq (aR (i:=5) jB.nd rfl (Or.inl rfl) (bI bf rfl B.list PyProof.Rows.boot_list (ak (pv 3) au)))
      (aq (dH PassesOwn.never rfl (bO (pv 4)) (aF (i:=6) jB.nd rfl (Or.inl rfl))
        (aq (eN (aK tG (hr.mono (by decide)) rfl gw.m gw.F.kp gw.b .nil bC (ak (pv 0) (ak (pv 1) (ak (pv 2) (ak (pv 5) (ak (pv 6) au)))))))
        (aq (iD (pv 6) (iB rfl (aH (aF (i:=7) jB.nd rfl (Or.inl rfl)) (aH (aF (i:=8) jB.nd rfl (Or.inl rfl)) (aH (aF (i:=9) jB.nd rfl (Or.inl rfl)) cJ)))))
        (aB (mY (pv 5) (pv 7) lD (pv 9) Cr set_list)))))
      (aB (aZ (pv 5))))),?_⟩
    refine Wf ?_
    intro zu0 zu1 zu2 zu3 zu4
    have O:=Ow.refl tk
    refine ⟨_,rfl,d,_,rfl,.inl hD,fun lm hlm=>?_⟩
    walk_at "nw"
    refine ⟨_,rfl,e,rfl,⟨_,O.same.seq hE⟩,?_⟩
    refine eU (K:=K) (xs:=ts) (fun i σ H'=>Iv (∃ (v6 v7 v8 v9:Option V),σ=[some (.ref a),some (.ref b),some (.ref c),some (.ref d),some (.ref e),some (.ref lm),v6,v7,v8,v9]∧Ow T H H' [(lm,.lst ((bN ks (ms.take i)).map V.int))]))
      ⟨trivial,none,none,none,none,rfl,O⟩ (fun i σ H' _ ⟨_,_,_,_,_,_,O⟩=>O.same.seq hE) ?_ ?_
    · rintro i y σ H3 hy ⟨-,v6,v7,v8,v9,rfl,O⟩
      obtain ⟨al,m,rfl,hm,hT⟩:=d2.jQ hy
      have LO:=good i m hm
      obtain ⟨p,l,hp,p0,hl,l0,l1,hin⟩:=LO.pd
      have m0:=LO.at0
      have hnl:=(List.getElem?_eq_some_iff.mp hp).1
      have hll:=j4 (ms.take i) ks
      refine ⟨_,rfl,_,rfl,_,rfl,_,rfl,_,rfl,a,b,c,lm,al,r,bN ks (ms.take i),rs,us,ls,ps,m,rfl,O.same.seq hA,hR,r9,O.same.seq hB,d0.mo O.same,O.same.seq hC,d1.mo O.same,O.sq 0,by omega,hT.mo O.same,LO,O.same.t1,fun H4 sm=>?_⟩
      have O:=O.lZ sm
      refine ⟨_,rfl,al,_,rfl,hT.mo O.same,rfl,_,_,rfl,_,_,rfl,_,_,rfl,rfl,?_⟩
      obtain ⟨mi,mz,mv⟩:=m
      dsimp only at hp m0
      obtain ⟨n,rfl⟩:=Int.eq_ofNat_of_zero_le m0
      rw [Int.toNat_natCast] at hp hnl
      have hx:((bN ks (ms.take i)).map V.int)[n]?=some (V.int ((bN ks (ms.take i)).getD n 0)):=by rw [List.getElem?_map,bh (by omega)];rfl
      refine ⟨_,rfl,_,rfl,lm,_,n,_,rfl,rfl,O.sq 0,hx,_,rfl,_,_,rfl,rfl,lm,_,_,_,rfl,rfl,O.get 0,lB (by rw [List.length_map];omega),?_⟩
      walk_at "pt"
      rw [← List.map_set] at O
      refine ⟨trivial,_,_,_,_,rfl,?_⟩
      rw [List.take_add_one,hm,Option.toList_some,oG]
      exact O
    rintro σ H3 ⟨-,v6,v7,v8,v9,rfl,O⟩
    have hl2:ts.length=ms.length:=by rw [d2.length,List.length_map]
    rw [hl2,List.take_length] at O
    exact ⟨_,rfl,O.ret 0 rfl q rfl⟩
abbrev dU:Stmt:=top 37
theorem d9:aX ["roll","ponds","kept","calls","lessened","pond","keeps","number","room","leak"] ["roll","ponds","kept","calls"] (ao dU):=⟨rfl,rfl,rfl,by decide +kernel,rfl,by decide +kernel,by decide +kernel⟩
def kZ (cs:List Int) (ps:List (Int × Int × Int)) (ks:List Int):Nat→List Int
  | 0=>cs
  | i + 1=>(kZ cs ps ks i).set (ps.getD i (0,0,0)).1.toNat (min (cs.getD (ps.getD i (0,0,0)).1.toNat 0) ((ps.getD i (0,0,0)).2.1 - ks.getD i 0))
theorem lV (cs:List Int) (ps:List (Int × Int × Int)) (ks:List Int):∀ i,(kZ cs ps ks i).length=cs.length
  | 0=>rfl
  | i + 1=>by rw [kZ,List.length_set];exact lV cs ps ks i
def Pr (K:PySem.W.Frag) (T:fC):Sp:=fun vs H Q _=>∃ (v:V) (b c d:Addr) (us:List V) (ps:List (Int × Int × Int)) (ks cs:List Int),vs=[v,.ref b,.ref c,.ref d]∧SqL K H b us∧bM K H us (ps.map dMv)∧SqL K H c (ks.map V.int)∧ps.length=ks.length∧SqL K H d (cs.map V.int)∧(∀ p∈ps,0≤p.1∧p.1<(cs.length:Int))∧TabsOk T H ∧
  m7 T H (fun ys=>ys=(kZ cs ps ks ps.length).map V.int) Q
theorem Wu {f:Addr} {fd:FuncData} (D:Df K mg "pond_calls" dU ["roll","ponds","kept","calls"] f fd) (B:Blt mg):bR P w K mg base CX0 1 f fd ["roll","ponds","kept","calls"] (Pr K T):=by
  refine D.F.ok d9 (fun vs H Q E h=>?_) (fun cdv A outer s H vs Q E hr h=>?_)
  · obtain ⟨_,_,_,_,_,_,_,_,rfl,_⟩:=h;rfl
  · obtain ⟨v,b,c,d,us,ps,ks,cs,rfl,hB,d0,hC,hpk,hD,hrg,tk,q⟩:=h
    have hul:us.length=ps.length:=by rw [d0.length,List.length_map]
    have O:=Ow.refl tk
    refine ⟨_,(aq (aR (i:=4) d9.nd rfl (Or.inl rfl) (bI bf rfl B.list PyProof.Rows.boot_list (ak (pv 3) au)))
      (aq (dH PassesOwn.never rfl (qO rfl B.zip (ak (pv 1) (ak (pv 2) au))) (iB rfl (aH (aF (i:=5) d9.nd rfl (Or.inl rfl)) (aH (aF (i:=6) d9.nd rfl (Or.inl rfl)) cJ)))
        (aq (iD (pv 5) (iB rfl (aH (aF (i:=7) d9.nd rfl (Or.inl rfl)) (aH (aF (i:=8) d9.nd rfl (Or.inl rfl)) (aH (aF (i:=9) d9.nd rfl (Or.inl rfl)) cJ)))))
        (aB (iD (aN (uQ rfl) rfl B.min PyProof.Rows.boot_min (ak (aL aG (pv 3) (pv 7) (fun _ _=>rfl)) (ak (aQ lH (pv 8) (pv 6)) au))) (pX (pv 4) (pv 7) set_list)))))
      (aB (aZ (pv 4))))),?_⟩
    refine PK ?_
    intro zu0 zu1 zu2 zu3
    refine ⟨_,rfl,d,_,rfl,.inl hD,fun lm hlm=>?_⟩
    walk_at "nw"
    refine ⟨_,rfl,_,rfl,b,c,_,_,rfl,O.same.seq hB,O.same.seq hC,?_⟩
    refine sU (K:=K) (fun i σ H'=>Iv (∃ (v5 v6 v7 v8 v9:Option V),σ=[some v,some (.ref b),some (.ref c),some (.ref d),some (.ref lm),v5,v6,v7,v8,v9]∧Ow T H H' [(lm,.lst ((kZ cs ps ks i).map V.int))]))
      (by rw [List.length_map];omega) ⟨trivial,none,none,none,none,none,rfl,O⟩ (fun _ _ _ _ ⟨_,_,_,_,_,_,_,O⟩=>⟨O.same.seq hB,O.same.seq hC⟩) ?_ ?_
    · rintro i x y t' σ H3 hx hy ⟨-,v5,v6,v7,v8,v9,rfl,O⟩ ht'
      obtain ⟨ap,p,rfl,hp,hT⟩:=d0.jQ hx
      obtain ⟨u,hu,rfl⟩:=ints_get hy
      have hr:=hrg p (List.mem_of_getElem? hp)
      walk_at "nw"
      refine ⟨t',_,rfl,O.sqT 0,rfl,_,_,rfl,_,_,rfl,rfl,?_⟩
      have O:=O.tail
      refine ⟨_,rfl,ap,_,rfl,hT.mo O.same,rfl,_,_,rfl,_,_,rfl,_,_,rfl,rfl,?_⟩
      refine ⟨_,rfl,_,rfl,d,_,_,_,rfl,rfl,O.same.seq hD,aV hr.1 hr.2,_,rfl,_,rfl,_,_,rfl,rfl,_,_,rfl,_,rfl,_,rfl,?_⟩
      refine pZ O 0 rfl (Cm hr.1 (by rw [List.length_map,lV];exact hr.2)) fun H6 O=>?_
      refine ⟨trivial,_,_,_,_,_,rfl,?_⟩
      rw [kZ,getD_some hp,getD_some hu,List.map_set]
      have em:min (cs.getD p.1.toNat 0) (p.2.1 - u)=if p.2.1 - u<cs.getD p.1.toNat 0 then p.2.1 - u else cs.getD p.1.toNat 0:=by split <;> omega
      rw [em];exact O
    rintro σ H3 ⟨-,v5,v6,v7,v8,v9,rfl,O⟩
    rw [hul] at O
    exact ⟨_,rfl,O.ret 0 rfl q rfl⟩
abbrev ji:Stmt:=top 38
theorem fj:aX ["ponds","kept","takes","after","lost","pond","keeps","number","room","leak","full","loss"] ["ponds","kept","takes"] (ao ji):=⟨rfl,rfl,rfl,by decide +kernel,rfl,by decide +kernel,by decide +kernel⟩
def nM (ps:List (Int × Int × Int)) (ks xs:List Int) (i:Nat):Int:=ks.getD i 0 + xs.getD (ps.getD i (0,0,0)).1.toNat 0
def jV (ps:List (Int × Int × Int)) (ks xs:List Int) (i:Nat):Int:=nM ps ks xs i * (ps.getD i (0,0,0)).2.2 / 1000
def Gx (K:PySem.W.Frag) (T:fC):Sp:=fun vs H Q _=>∃ (b c d:Addr) (us:List V) (ps:List (Int × Int × Int)) (ks xs:List Int),vs=[.ref b,.ref c,.ref d]∧SqL K H b us∧bM K H us (ps.map dMv)∧ps.length≤1000∧SqL K H c (ks.map V.int)∧ps.length=ks.length∧SqL K H d (xs.map V.int)∧(∀ p∈ps,0≤p.1∧p.1<(xs.length:Int)∧0≤p.2.2∧p.2.2≤1000)∧TabsOk T H ∧
  ∀ (t la ll:Addr) (H':Hp),Ow T H H' [(t,.tup [.ref la,.ref ll]),(ll,.lst (((List.range ps.length).map (jV ps ks xs)).map V.int)),(la,.lst (((List.range ps.length).map fun i=>nM ps ks xs i - jV ps ks xs i).map V.int))]→Q (.ref t) H'
theorem xT (f:Nat→Int) (i:Nat):((List.range (i + 1)).map f).map V.int=((List.range i).map f).map V.int++[V.int (f i)]:=by
  rw [List.range_succ,List.map_append,List.map_append];rfl
theorem QD {f:Addr} {fd:FuncData} (D:Df K mg "evening" ji ["ponds","kept","takes"] f fd) (B:Blt mg) (hW:∃ t,mg "WHOLE"=some (.int 1000 t)):bR P w K mg base CX0 1 f fd ["ponds","kept","takes"] (Gx K T):=by
  obtain ⟨tW,hWHOLE⟩:=hW
  refine D.F.ok fj (fun vs H Q E h=>?_) (fun cdv A outer s H vs Q E hr h=>?_)
  · obtain ⟨_,_,_,_,_,_,_,rfl,_⟩:=h;rfl
  · obtain ⟨b,c,d,us,ps,ks,xs,rfl,hB,d0,hpl,hC,hpk,hD,hrg,tk,q⟩:=h
    have hul:us.length=ps.length:=by rw [d0.length,List.length_map]
    have O:=Ow.refl tk
    refine ⟨_,(aq (aR (i:=3) fj.nd rfl (Or.inl rfl) (eZ au))
      (aq (aR (i:=4) fj.nd rfl (Or.inl rfl) (eZ au))
      (aq (dH PassesOwn.never rfl (qO rfl B.zip (ak (pv 0) (ak (pv 1) au))) (iB rfl (aH (aF (i:=5) fj.nd rfl (Or.inl rfl)) (aH (aF (i:=6) fj.nd rfl (Or.inl rfl)) cJ)))
        (aq (iD (pv 5) (iB rfl (aH (aF (i:=7) fj.nd rfl (Or.inl rfl)) (aH (aF (i:=8) fj.nd rfl (Or.inl rfl)) (aH (aF (i:=9) fj.nd rfl (Or.inl rfl)) cJ)))))
        (aq (aR (i:=10) fj.nd rfl (Or.inl rfl) (aQ dz (pv 6) (aL aG (pv 2) (pv 7) (fun _ _=>rfl))))
        (aq (aR (i:=11) fj.nd rfl (Or.inl rfl) (aQ fQ (aQ jP (pv 10) (pv 9)) (lR (v:=.int (1000)) rfl hWHOLE ⟨_,rfl⟩)))
        (aq (eN (mK PySem.F.plainAttrs_list PySem.F.slot_list_append PySem.F.type_list_append cC (pv 3) (ak (aQ lH (pv 10) (pv 11)) au)))
        (aB (eN (mK PySem.F.plainAttrs_list PySem.F.slot_list_append PySem.F.type_list_append cC (pv 4) (ak (pv 11) au)))))))))
      (aB (aZ (jJ (ak (pv 3) (ak (pv 4) au)))))))),?_⟩
    refine Wd ?_
    intro zu0 zu1 zu2 zu3 zu4 zu5 zu6 zu7
    refine ⟨szl,fun la hla=>?_⟩
    walk_at "nw"
    refine ⟨szl,fun ll hll=>?_⟩
    walk_at "nw"
    refine ⟨_,rfl,_,rfl,b,c,_,_,rfl,O.same.seq hB,O.same.seq hC,?_⟩
    refine sU (K:=K) (fun i σ H'=>Iv (∃ (v5 v6 v7 v8 v9 v10 v11:Option V),σ=[some (.ref b),some (.ref c),some (.ref d),some (.ref la),some (.ref ll),v5,v6,v7,v8,v9,v10,v11]∧Ow T H H' [(ll,.lst (((List.range i).map (jV ps ks xs)).map V.int)),(la,.lst (((List.range i).map fun i=>nM ps ks xs i - jV ps ks xs i).map V.int))]))
      (by rw [List.length_map];omega) ⟨trivial,none,none,none,none,none,none,none,rfl,O⟩ (fun _ _ _ _ ⟨_,_,_,_,_,_,_,_,_,O⟩=>⟨O.same.seq hB,O.same.seq hC⟩) ?_ ?_
    · rintro i x y t' σ H3 hx hy ⟨-,v5,v6,v7,v8,v9,v10,v11,rfl,O⟩ ht'
      obtain ⟨ap,p,rfl,hp,hT⟩:=d0.jQ hx
      obtain ⟨u,hu,rfl⟩:=ints_get hy
      have hi:=(List.getElem?_eq_some_iff.mp hp).1
      have hr:=hrg p (List.mem_of_getElem? hp)
      have e1:nM ps ks xs i=u + xs.getD p.1.toNat 0:=by unfold nM;rw [getD_some hp,getD_some hu]
      have e2:jV ps ks xs i=(u + xs.getD p.1.toNat 0) * p.2.2 / 1000:=by unfold jV;rw [e1,getD_some hp]
      walk_at "nw"
      refine ⟨t',_,rfl,O.sqT 0,rfl,_,_,rfl,_,_,rfl,rfl,?_⟩
      have O:=O.tail
      refine ⟨_,rfl,ap,_,rfl,hT.mo O.same,rfl,_,_,rfl,_,_,rfl,_,_,rfl,rfl,?_⟩
      refine ⟨_,rfl,_,rfl,_,rfl,d,_,_,_,rfl,rfl,O.same.seq hD,aV hr.1 hr.2.1,_,_,rfl,rfl,?_⟩
      refine ⟨_,rfl,_,rfl,_,_,rfl,rfl,.inr ⟨by omega,by omega⟩,_,_,rfl,rfl,⟨by decide,by decide⟩,?_⟩
      refine ⟨_,rfl,.inl ⟨rfl,_,O.sq 1⟩,_,rfl,_,rfl,_,_,rfl,rfl,la,_,_,rfl,rfl,O.get 1,aP (by rw [List.length_map,List.length_map,List.length_range];omega),?_⟩
      walk_at "pt"
      refine ⟨_,rfl,.inl ⟨rfl,_,O.sq 0⟩,_,rfl,ll,_,_,rfl,rfl,O.get 0,aP (by rw [List.length_map,List.length_map,List.length_range];omega),?_⟩
      walk_at "pt"
      refine ⟨trivial,_,_,_,_,_,_,_,rfl,?_⟩
      rw [xT,xT,e2,e1]
      exact O
    rintro σ H3 ⟨-,v5,v6,v7,v8,v9,v10,v11,rfl,O⟩
    rw [hul] at O
    refine ⟨_,rfl,_,rfl,szl,fun t ht=>?_⟩
    walk_at "nw"
    exact q t la ll _ O
abbrev gH:Stmt:=top 45
theorem pP:aX ["script","k","cell"] ["script","k"] (ao gH):=⟨rfl,rfl,rfl,by decide +kernel,rfl,by decide +kernel,by decide +kernel⟩
def Gp (K:PySem.W.Frag) (T:fC):Sp:=fun vs H Q _=>∃ (a:Addr) (ns:List Int) (k:Nat),vs=[.ref a,.int (k:Int)]∧SqL K H a (ns.map V.int)∧TabsOk T H∧∀ H',bB T H H'→Q (.int (ns.getD k 0)) H'
theorem Qu {f:Addr} {fd:FuncData} (D:Df K mg "_law_nth" gH ["script","k"] f fd):bR P w K mg base CX0 1 f fd ["script","k"] (Gp K T):=by
  refine D.F.ok pP (fun vs H Q E h=>?_) (fun cdv A outer s H vs Q E hr h=>?_)
  · obtain ⟨_,_,_,rfl,_⟩:=h;rfl
  · obtain ⟨a,ns,k,rfl,hS,tk,q⟩:=h
    refine ⟨_,(aq (dH PassesOwn.never rfl (bO (nF pN (pv 0) (kW (pv 1)) (kW (aQ dz (pv 1) aA)))) (aF (i:=2) pP.nd rfl (Or.inl rfl))
        (aB (aZ (pv 2))))
      (aB (aZ aA))),?_⟩
    refine Wc ?_
    intro zu0 zu1
    have O:=Ow.refl tk
    refine ⟨_,rfl,_,rfl,(k:Int),rfl,_,rfl,_,_,rfl,rfl,_,rfl,a,_,rfl,hS,fun l hl=>?_⟩
    walk_at "nw"
    rw [show vC (ns.map V.int) (some (k:Int)) (some ((k:Int) + 1))=((ns.drop k).take 1).map V.int from by have e:=Mw ns k (k + 1);rw [show k + 1 - k=1 by omega] at e;exact e] at O
    refine ⟨l,rfl,⟨_,O.sq 0⟩,?_⟩
    refine eU (K:=K) (xs:=((ns.drop k).take 1).map V.int) (fun i σ H'=>Iv (i=0∧σ=[some (.ref a),some (.int (k:Int)),none]∧Ow T H H' [(l,.lst (((ns.drop k).take 1).map V.int))]))
      ⟨trivial,rfl,rfl,O⟩ (fun i σ H' _ ⟨_,_,_,O⟩=>O.sq 0) ?_ ?_
    · rintro i y σ H3 hy ⟨-,rfl,rfl,O⟩
      obtain ⟨z,hz,rfl⟩:=ints_get hy
      have e:ns.getD k 0=z:=by
        rw [List.getElem?_take,if_pos (by decide),List.getElem?_drop] at hz
        rw [List.getD_eq_getElem?_getD,show ns[k]?=some z from hz];rfl
      subst e
      exact ⟨_,rfl,q _ O.same⟩
    rintro σ H3 ⟨-,e0,rfl,O⟩
    have e:ns.getD k 0=0:=by
      rw [List.length_map,List.length_take,List.length_drop] at e0
      rw [List.getD_eq_getElem?_getD,List.getElem?_eq_none (by omega)];rfl
    have q':=q _ O.same
    rw [e] at q'
    exact q'
theorem GQ (K:PySem.W.Frag):PySem.W.kitOne K (.type "int") (.type "int")=some true:=by rfl
theorem GR (K:PySem.W.Frag):PySem.W.kitOne K (.type "int") (.type "bool")=some false:=by rfl
theorem GP (K:PySem.W.Frag):PySem.W.kitOne K (.type "list") (.type "list")=some true:=by rfl
abbrev bW:Stmt:=top 46
theorem ju:aX ["cell","many","drawn","k","base"] ["cell","many"] (ao bW):=⟨rfl,rfl,rfl,by decide +kernel,rfl,by decide +kernel,by decide +kernel⟩
def uq (T:fC):Sp:=fun vs H Q _=>∃ (c m:Int),vs=[.int c,.int m]∧0≤m∧m≤1000∧TabsOk T H∧m7 T H (fun xs=>∃ ys:List Int,xs=ys.map V.int∧ys.length=m.toNat∧∀ y∈ys,0≤y∧y<600011003) Q
theorem Vd {b:Int} (h0:0≤b) (h1:b<2000000000):0≤b * b∧b * b<4000000000000000000:=⟨Int.mul_nonneg h0 h0,by
  have:b * b≤1999999999 * 1999999999:=Int.mul_le_mul (by omega) (by omega) h0 (by decide)
  omega⟩
theorem QF {f:Addr} {fd:FuncData} (D:Df K mg "_law_draws" bW ["cell","many"] f fd) (B:Blt mg):bR P w K mg base CX0 1 f fd ["cell","many"] (uq T):=by
  refine D.F.ok ju (fun vs H Q E h=>?_) (fun cdv A outer s H vs Q E hr h=>?_)
  · obtain ⟨_,_,rfl,_⟩:=h;rfl
  · obtain ⟨c,m,rfl,h0,h1,tk,q⟩:=h
    refine ⟨_,(aq (aR (i:=2) ju.nd rfl (Or.inl rfl) (eZ au))
      (aq (dH PassesOwn.never rfl (cZ rfl B.range (ak (pv 1) au)) (aF (i:=3) ju.nd rfl (Or.inl rfl))
        (aq (aR (i:=4) ju.nd rfl (Or.inl rfl) (aQ dz (aQ dz (aQ bJ (pv 0) aA) (aQ jP aA (pv 3))) aA))
        (aB (eN (mK PySem.F.plainAttrs_list PySem.F.slot_list_append PySem.F.type_list_append cC (pv 2) (ak (aQ bJ (aQ fQ (aQ jP (aQ jP (pv 4) (pv 4)) (pv 4)) aA) aA) au))))))
      (aB (aZ (pv 2))))),?_⟩
    refine PK ?_
    intro zu0 zu1 zu2 zu3
    have O:=Ow.refl tk
    have s0:=O.same
    refine ⟨szl,fun l hl=>?_⟩
    walk_at "nw"
    refine ⟨_,rfl,m,rfl,by omega,by omega,?_⟩
    refine jL (fun i σ H'=>Iv (∃ (v3 v4:Option V) (ys:List Int),σ=[some (.int c),some (.int m),some (.ref l),v3,v4]∧ys.length=i∧(∀ y∈ys,0≤y∧y<600011003)∧Ow T H H' [(l,.lst (ys.map V.int))]))
      ⟨trivial,none,none,[],rfl,rfl,(fun y hy=>nomatch hy),O⟩ ?_ ?_
    · rintro i σ H3 hi ⟨-,v3,v4,ys,rfl,hyl,hyb,O⟩
      have c0:=Int.emod_nonneg c (show (777767777:Int)≠0 by decide)
      have c1:=Int.emod_lt_of_pos c (show (0:Int)<777767777 by decide)
      refine ⟨_,rfl,_,_,rfl,rfl,(by show (0:Int)<777767777;decide),_,rfl,_,_,rfl,rfl,.inl ⟨by decide,by decide⟩,_,_,rfl,rfl,_,_,rfl,rfl,?_⟩
      dsimp only
      have b0:0≤c % 777767777 + 1217 * (0 + (i:Int)) + 59:=by omega
      have b1:c % 777767777 + 1217 * (0 + (i:Int)) + 59<2000000000:=by omega
      generalize c % 777767777 + 1217 * (0 + (i:Int)) + 59=b at b0 b1
      have bb:=Vd b0 b1
      refine ⟨_,rfl,.inl ⟨rfl,_,O.sq 0⟩,_,rfl,_,rfl,_,_,rfl,rfl,.inl ⟨by omega,by omega⟩,_,rfl,_,_,rfl,rfl,.inl ⟨by omega,by omega⟩,_,_,rfl,rfl,⟨by decide,by decide⟩,_,_,rfl,rfl,(by show (0:Int)<600011003;decide),l,_,_,rfl,rfl,O.get 0,aP (by rw [List.length_map];omega),?_⟩
      walk_at "pt"
      rw [nG] at O
      refine ⟨trivial,_,_,_,rfl,by rw [List.length_append,hyl];rfl,fun y hy=>?_,O⟩
      rcases List.mem_append.mp hy with e | e
      · exact hyb y e
      · have e2:y=b * b * b / 11 % 600011003:=by simpa using e
        rw [e2]
        exact ⟨Int.emod_nonneg _ (by decide),Int.emod_lt_of_pos _ (by decide)⟩
    rintro σ H3 ⟨-,v3,v4,ys,rfl,hyl,hyb,O⟩
    exact ⟨_,rfl,O.ret 0 rfl q ⟨ys,rfl,hyl,hyb⟩⟩
abbrev eH:Stmt:=top 50
theorem uD:aX ["number","most"] ["number","most"] (ao eH):=⟨rfl,rfl,rfl,by decide +kernel,rfl,by decide +kernel,by decide +kernel⟩
def Ak:Sp:=fun vs H Q _=>∃ (n m:Int),vs=[.int n,.int m]∧0≤m∧∀ z,0≤z→z≤m→Q (.int z) H
theorem emod_le {a b m:Int} (h0:0<b) (h1:b≤m + 1):0≤a % b∧a % b≤m:=by
  have:=Int.emod_nonneg a (show b≠0 by omega)
  have:=Int.emod_lt_of_pos a h0
  omega
theorem Ax {Qp:Int→Prop} {a b m:Int} (q:∀ z,0≤z→z≤m→Qp z) (h0:0<b) (h1:b≤m + 1):Qp (a % b):=q _ (emod_le h0 h1).1 (emod_le h0 h1).2
theorem Qm {f:Addr} {fd:FuncData} (D:Df K mg "_law_some" eH ["number","most"] f fd) (B:Blt mg):bR P w K mg base CX0 1 f fd ["number","most"] Ak:=by
  refine D.F.ok uD (fun vs H Q E h=>?_) (fun cdv A outer s H vs Q E hr h=>?_)
  · obtain ⟨_,_,rfl,_⟩:=h;rfl
  · obtain ⟨n,m,rfl,hm,q⟩:=h
    have O:=Ow.PN H
    have s0:=O.same
    refine ⟨_,(aq (gZ (aW jZ (aQ bJ (pv 0) aA) aA (bx _))
        (aB (aZ aA))
        bY)
      (aq (gZ (aW jZ (aQ bJ (pv 0) aA) aA (bx _))
        (aB (aZ (pv 1)))
        bY)
      (aB (aZ (aQ bJ (aQ jP (aQ fQ (pv 0) aA) aA) (aQ dz (pv 1) aA)))))),?_⟩
    refine Wb ?_
    intro zu0 zu1 zu2 zu3
    have e5:(10:Int) ^ (5:Int).toNat=100000:=by decide
    walk_at "go"
    all_goals first
      | exact q _ (Int.le_refl _) hm
      | exact q _ hm (Int.le_refl _)
      | (refine Ax (Qp:=fun z=>Q (.int z) H) q ?_ ?_ <;> omega)
      | (refine Ax (Qp:=fun z=>Q (.int z) H) q ?_ ?_ <;> split <;> omega)
abbrev dX:Stmt:=top 18
theorem rQ:aX ["one"] ["one"] (ao dX):=⟨rfl,rfl,rfl,by decide +kernel,rfl,by decide +kernel,by decide +kernel⟩
def Px (K:PySem.W.Frag):Sp:=fun vs H Q _=>∃ (a:Addr) (l:Lic),vs=[.ref a]∧SqT K H a (zP l)∧Q (.bl (!decide (l.back=-1))) H
theorem Ww {f:Addr} {fd:FuncData} (D:Df K mg "gives_back" dX ["one"] f fd) (C:Mth mg):bR P w K mg base CX0 1 f fd ["one"] (Px K):=by
  obtain ⟨tM,hMOUTH⟩:=C.MOUTH
  refine D.F.ok rQ (fun vs H Q E h=>?_) (fun cdv A outer s H vs Q E hr h=>?_)
  · obtain ⟨_,_,rfl,_⟩:=h;rfl
  · obtain ⟨a,l,rfl,hT,q⟩:=h
    refine ⟨_,(aB (aZ (oA oZ (aL cD (pv 0) aA (fun _ _=>rfl)) (lR (v:=.int (-1)) rfl hMOUTH ⟨_,rfl⟩) (bx _)))),?_⟩
    rw [← wD] at q
    exact ⟨_,rfl,a,_,2,_,rfl,rfl,hT,rfl,rfl,q⟩
abbrev dW:Stmt:=top 40
theorem nq:aX ["below","roll","ponds","kept","calls","lets","left"] ["below","roll","ponds","kept","calls","lets"] (ao dW):=⟨rfl,rfl,rfl,by decide +kernel,rfl,by decide +kernel,by decide +kernel⟩
def Gs (K:PySem.W.Frag) (T:fC):Sp:=fun vs H Q _=>∃ (a b c d g e:Addr) (r ks cs:List Int) (rs us ts:List V) (ls:List Lic) (ps ms:List (Int × Int × Int)),vs=[.ref a,.ref b,.ref c,.ref d,.ref g,.ref e]∧SqL K H a (r.map V.int)∧Rv.dJ r∧r.length≤900∧SqL K H b rs∧bM K H rs (ls.map qI)∧SqL K H c us∧bM K H us (ps.map dMv)∧SqL K H d (ks.map V.int)∧ks.length=ps.length∧SqL K H g (cs.map V.int)∧(∀ p∈ps,0≤p.1∧p.1<(cs.length:Int))∧SqL K H e ts∧bM K H ts (ms.map dMv)∧(∀ (i:Nat) (m:Int × Int × Int),ms[i]?=some m→wM r ls ps (bN ks (ms.take i)) m)∧TabsOk T H ∧
  ∀ (t la lb:Addr) (H':Hp),Ow T H H' [(t,.tup [.ref la,.ref lb]),(lb,.lst ((kZ cs ps (bN ks ms) ps.length).map V.int)),(la,.lst ((bN ks ms).map V.int))]→Q (.ref t) H'
theorem Qx {f f1 f2:Addr} {fd fd1 fd2:FuncData} (D:Df K mg "morning_of" dW ["below","roll","ponds","kept","calls","lets"] f fd) (B:Blt mg)
    (j9:Df K mg "let_out" jh ["below","roll","ponds","kept","lets"] f1 fd1) (Dt:bR P w K mg base CX0 4 f1 fd1 ["below","roll","ponds","kept","lets"] (Pu K T))
    (gM:Df K mg "pond_calls" dU ["roll","ponds","kept","calls"] f2 fd2) (vd:bR P w K mg base CX0 1 f2 fd2 ["roll","ponds","kept","calls"] (Pr K T)):bR P w K mg base CX0 5 f fd ["below","roll","ponds","kept","calls","lets"] (Gs K T):=by
  refine D.F.ok nq (fun vs H Q E h=>?_) (fun cdv A outer s H vs Q E hr h=>?_)
  · obtain ⟨_,_,_,_,_,_,_,_,_,_,_,_,_,_,_,rfl,_⟩:=h;rfl
  · obtain ⟨a,b,c,d,g,e,r,ks,cs,rs,us,ts,ls,ps,ms,rfl,hA,hR,r9,hB,d0,hC,d1,hD,hkl,hG,hrg,hE,d2,good,tk,q⟩:=h
    refine ⟨_,(aq (aR (i:=6) nq.nd rfl (Or.inl rfl) (aK Dt (hr.mono (by decide)) rfl j9.m j9.F.kp j9.b .nil bC (ak (pv 0) (ak (pv 1) (ak (pv 2) (ak (pv 3) (ak (pv 5) au)))))))
      (aB (aZ (jJ (ak (pv 6) (ak (aK vd (hr.mono (by decide)) rfl gM.m gM.F.kp gM.b .nil bC (ak (pv 1) (ak (pv 2) (ak (pv 6) (ak (pv 4) au))))) au)))))),?_⟩
    refine VP ?_
    intro zu0
    have O:=Ow.refl tk
    refine ⟨_,rfl,_,rfl,_,rfl,_,rfl,_,rfl,a,b,c,d,e,r,ks,rs,us,ts,ls,ps,ms,rfl,hA,hR,r9,hB,d0,hC,d1,hD,hkl,hE,d2,good,tk,O.qF fun l1 H1 ys O e1=>?_⟩
    subst e1
    refine ⟨_,rfl,_,rfl,_,rfl,_,rfl,_,rfl,.ref b,c,l1,g,us,ps,bN ks ms,cs,rfl,O.same.seq hC,d1.mo O.same,O.sq 0,by rw [j4];omega,O.same.seq hG,hrg,O.same.t1,O.qF fun l2 H2 ys O e2=>?_⟩
    subst e2
    refine ⟨szl,fun t ht=>?_⟩
    walk_at "nw"
    exact q t l1 l2 _ O
abbrev gF:Stmt:=top 41
theorem cI:aX ["roll","ponds","takes","lets","moves","one","take","day","start","back","most","place","reach","amount"] ["roll","ponds","takes","lets"] (ao gF):=⟨rfl,rfl,rfl,by decide +kernel,rfl,by decide +kernel,by decide +kernel⟩
def stP (ls:List Lic) (ps:List (Int × Int × Int)) (n:Int):Int:=((ls[(ps.getD n.toNat (0,0,0)).1.toNat]?).map Lic.start).getD 0
def Dw (ls:List Lic) (xs:List Int):List Rv.Mv:=(ls.zip xs).map fun p=>(p.1.start,p.1.back,p.2)
def m5 (ls:List Lic) (ps:List (Int × Int × Int)) (m:Int × Int × Int):Rv.Mv:=(stP ls ps m.1,m.2.1,-m.2.2)
def mL (ls:List Lic) (ps:List (Int × Int × Int)) (xs:List Int) (ms:List (Int × Int × Int)):List Rv.Mv:=Dw ls xs++ms.map (m5 ls ps)
def Vk (ls:List Lic) (ps:List (Int × Int × Int)) (m:Int × Int × Int):Prop:=0≤m.1∧∃ p l,ps[m.1.toNat]?=some p∧0≤p.1∧ls[p.1.toNat]?=some l
theorem Gh {ls:List Lic} {ps:List (Int × Int × Int)} {n:Int} {p:Int × Int × Int} {l:Lic} (hp:ps[n.toNat]?=some p) (hl:ls[p.1.toNat]?=some l):stP ls ps n=l.start:=by
  unfold stP;rw [getD_some hp,hl];rfl
theorem DQ {α β γ:Type} {as:List α} {bs:List β} {i:Nat} {x:α} {y:β} (g:α × β→γ) (hx:as[i]?=some x) (hy:bs[i]?=some y):((as.zip bs).take (i + 1)).map g=((as.zip bs).take i).map g++[g (x,y)]:=by
  have e:(as.zip bs)[i]?=some (x,y):=by rw [List.getElem?_zip_eq_some];exact ⟨hx,hy⟩
  rw [List.take_add_one,e,List.map_append];rfl
def Gq (K:PySem.W.Frag) (T:fC):Sp:=fun vs H Q _=>∃ (b c d e:Addr) (xs:List Int) (rs us ts:List V) (ls:List Lic) (ps ms:List (Int × Int × Int)),vs=[.ref b,.ref c,.ref d,.ref e]∧SqL K H b rs∧bM K H rs (ls.map qI)∧ls.length≤100∧SqL K H c us∧bM K H us (ps.map dMv)∧SqL K H d (xs.map V.int)∧xs.length=ls.length∧SqL K H e ts∧bM K H ts (ms.map dMv)∧ms.length≤1000∧(∀ m∈ms,Vk ls ps m)∧TabsOk T H ∧
  ∀ (l:Addr) (H1 H':Hp) (vs:List V),bB T H H1→Ow T H1 H' [(l,.lst vs)]→bM K H1 vs ((mL ls ps xs ms).map dMv)→Q (.ref l) H'
theorem Qw {f f1:Addr} {fd fd1:FuncData} (D:Df K mg "moves_of" gF ["roll","ponds","takes","lets"] f fd) (B:Blt mg)
    (cu:Df K mg "pond_start" cR ["roll","pond"] f1 fd1) (mq:bR P w K mg base CX0 2 f1 fd1 ["roll","pond"] (Al K)):bR P w K mg base CX0 3 f fd ["roll","ponds","takes","lets"] (Gq K T):=by
  refine D.F.ok cI (fun vs H Q E h=>?_) (fun cdv A outer s H vs Q E hr h=>?_)
  · obtain ⟨_,_,_,_,_,_,_,_,_,_,_,rfl,_⟩:=h;rfl
  · obtain ⟨b,c,d,e,xs,rs,us,ts,ls,ps,ms,rfl,hB,d0,hl1,hC,d1,hD,hxl,hE,d2,hm1,good,tk,q⟩:=h
    have hrl:rs.length=ls.length:=by rw [d0.length,List.length_map]
    have hul:us.length=ps.length:=by rw [d1.length,List.length_map]
    have htl:ts.length=ms.length:=by rw [d2.length,List.length_map]
    refine ⟨_,(aq (aR (i:=4) cI.nd rfl (Or.inl rfl) (eZ au))
      (aq (dH PassesOwn.never rfl (qO rfl B.zip (ak (pv 0) (ak (pv 2) au))) (iB rfl (aH (aF (i:=5) cI.nd rfl (Or.inl rfl)) (aH (aF (i:=6) cI.nd rfl (Or.inl rfl)) cJ)))
        (aq (iD (pv 5) (iB rfl (aH (aF (i:=7) cI.nd rfl (Or.inl rfl)) (aH (aF (i:=8) cI.nd rfl (Or.inl rfl)) (aH (aF (i:=9) cI.nd rfl (Or.inl rfl)) (aH (aF (i:=10) cI.nd rfl (Or.inl rfl)) cJ))))))
        (aB (eN (mK PySem.F.plainAttrs_list PySem.F.slot_list_append PySem.F.type_list_append cC (pv 4) (ak (jJ (ak (pv 8) (ak (pv 9) (ak (pv 6) au)))) au))))))
      (aq (dH PassesOwn.never rfl (bO (pv 3)) (iB rfl (aH (aF (i:=11) cI.nd rfl (Or.inl rfl)) (aH (aF (i:=12) cI.nd rfl (Or.inl rfl)) (aH (aF (i:=13) cI.nd rfl (Or.inl rfl)) cJ))))
        (aB (eN (mK PySem.F.plainAttrs_list PySem.F.slot_list_append PySem.F.type_list_append cC (pv 4) (ak (jJ (ak (aK mq (hr.mono (by decide)) rfl cu.m cu.F.kp cu.b .nil bC (ak (pv 0) (ak (aL aG (pv 1) (pv 11) (fun _ _=>rfl)) au))) (ak (pv 12) (ak (mZ jH (pv 13)) au)))) au)))))
      (aB (aZ (pv 4)))))),?_⟩
    refine Wa ?_
    intro zu0 zu1 zu2 zu3 zu4 zu5
    have O:=Ow.refl tk
    refine ⟨szl,fun lm hlm=>?_⟩
    walk_at "nw"
    refine ⟨_,rfl,_,rfl,b,d,_,_,rfl,O.same.seq hB,O.same.seq hD,?_⟩
    refine sU (K:=K) (fun i σ H'=>Iv (∃ (v5 v6 v7 v8 v9 v10:Option V) (Hb:Hp) (vs:List V),σ=[some (.ref b),some (.ref c),some (.ref d),some (.ref e),some (.ref lm),v5,v6,v7,v8,v9,v10,none,none,none]∧bB T H Hb∧bM K Hb vs (((ls.zip xs).take i).map fun p=>dMv (p.1.start,p.1.back,p.2))∧Ow T Hb H' [(lm,.lst vs)]))
      (by rw [List.length_map];omega) ⟨trivial,none,none,none,none,none,none,H,[],rfl,bB.refl tk,.nil,O⟩ (fun _ _ _ _ ⟨_,_,_,_,_,_,_,_,_,_,sb,_,O⟩=>⟨(sb.trans O.same).seq hB,(sb.trans O.same).seq hD⟩) ?_ ?_
    · rintro i x y t' σ H3 hx hy ⟨-,v5,v6,v7,v8,v9,v10,Hb,vs,rfl,sb,dv,O⟩ ht'
      obtain ⟨al,l,rfl,hl,hT⟩:=d0.wA hx
      obtain ⟨u,hu,rfl⟩:=ints_get hy
      have hi:=(List.getElem?_eq_some_iff.mp hl).1
      have hvl:vs.length≤i:=by rw [dv.length,List.length_map,List.length_take];omega
      walk_at "nw"
      refine ⟨t',_,rfl,O.sqT 0,rfl,_,_,rfl,_,_,rfl,rfl,?_⟩
      have O:=O.tail
      refine ⟨_,rfl,al,_,rfl,(hT.mo sb).mo O.same,rfl,_,_,rfl,_,_,rfl,_,_,rfl,_,_,rfl,rfl,?_⟩
      refine ⟨_,rfl,.inl ⟨rfl,_,O.sq 0⟩,_,rfl,_,rfl,_,rfl,szl,fun t ht=>?_⟩
      walk_at "nw"
      refine ⟨lm,_,_,rfl,rfl,O.get 1,aP (by omega),?_⟩
      walk_at "pt"
      obtain ⟨Hc,O,sc,en⟩:=O.frz
      refine ⟨trivial,_,_,_,_,_,_,Hc,vs++[.ref t],rfl,sb.trans sc,?_,O⟩
      rw [DQ (fun p=>dMv (p.1.start,p.1.back,p.2)) hl hu]
      exact (dv.mo sc).append (.cons (Den.mv (m:=(l.start,l.back,u)) (SqT.of en)) .nil)
    rintro σ H3 ⟨-,v5,v6,v7,v8,v9,v10,Hb,vs,rfl,sb,dv,O⟩
    rw [List.take_of_length_le (by rw [List.length_zip];omega)] at dv
    have dv:bM K Hb vs ((mL ls ps xs (ms.take 0)).map dMv):=by
      have e:(mL ls ps xs (ms.take 0)).map dMv=(ls.zip xs).map fun p=>dMv (p.1.start,p.1.back,p.2):=by
        unfold mL Dw;rw [List.take_zero,List.map_nil,List.append_nil,List.map_map];rfl
      rw [e];exact dv
    refine ⟨_,rfl,e,rfl,⟨_,(sb.trans O.same).seq hE⟩,?_⟩
    refine eU (K:=K) (xs:=ts) (fun i σ H'=>Iv (∃ (v11 v12 v13:Option V) (Hb:Hp) (vs:List V),σ=[some (.ref b),some (.ref c),some (.ref d),some (.ref e),some (.ref lm),v5,v6,v7,v8,v9,v10,v11,v12,v13]∧bB T H Hb∧bM K Hb vs ((mL ls ps xs (ms.take i)).map dMv)∧Ow T Hb H' [(lm,.lst vs)]))
      ⟨trivial,none,none,none,Hb,vs,rfl,sb,dv,O⟩ (fun _ _ _ _ ⟨_,_,_,_,_,_,_,sb,_,O⟩=>(sb.trans O.same).seq hE) ?_ ?_
    · rintro i y σ H4 hy ⟨-,v11,v12,v13,Hb,vs,rfl,sb,dv,O⟩
      obtain ⟨am,m,rfl,hm,hT⟩:=d2.jQ hy
      have hi:=(List.getElem?_eq_some_iff.mp hm).1
      obtain ⟨m0,p,l,hp,p0,hl⟩:=good m (List.mem_of_getElem? hm)
      have hpl:=(List.getElem?_eq_some_iff.mp hp).1
      obtain ⟨ap,hap,hTp⟩:∃ ap,us[m.1.toNat]?=some (.ref ap)∧SqT K H ap [.int p.1,.int p.2.1,.int p.2.2]:=by
        obtain ⟨u,hu⟩:∃ u,us[m.1.toNat]?=some u:=⟨_,List.getElem?_eq_getElem (by omega)⟩
        obtain ⟨ap,p',rfl,hp',hT⟩:=d1.jQ hu
        rw [hp] at hp'
        have:=Option.some.inj hp'
        subst this
        exact ⟨ap,hu,hT⟩
      have hix:atI us m.1=some (.ref ap):=by
        obtain ⟨n,hn⟩:=Int.eq_ofNat_of_zero_le m0
        rw [hn] at hap ⊢
        exact cN hap
      have hvl:vs.length≤100 + i:=by
        rw [dv.length,List.length_map]
        unfold mL Dw
        rw [List.length_append,List.length_map,List.length_map,List.length_take,List.length_zip];omega
      have sm:=sb.trans O.same
      refine ⟨am,_,rfl,hT.mo sm,rfl,_,_,rfl,_,_,rfl,_,_,rfl,rfl,?_⟩
      refine ⟨_,rfl,.inl ⟨rfl,_,O.sq 0⟩,_,rfl,_,rfl,_,rfl,c,_,_,_,rfl,rfl,sm.seq hC,hix,b,ap,rs,ls,p,l,rfl,sm.seq hB,d0.mo sm,hTp.mo sm,p0,hl,_,rfl,_,rfl,_,rfl,szl,fun t ht=>?_⟩
      walk_at "nw"
      refine ⟨lm,_,_,rfl,rfl,O.get 1,aP (by omega),?_⟩
      walk_at "pt"
      obtain ⟨Hc,O,sc,en⟩:=O.frz
      refine ⟨trivial,_,_,_,Hc,vs++[.ref t],rfl,sb.trans sc,?_,O⟩
      have e:(mL ls ps xs (ms.take (i + 1))).map dMv=(mL ls ps xs (ms.take i)).map dMv++[dMv (l.start,m.2.1,-m.2.2)]:=by
        simp only [mL,List.take_add_one,hm,Option.toList_some,List.map_append,List.map_cons,List.map_nil,List.append_assoc,m5,Gh hp hl]
      rw [e]
      exact (dv.mo sc).append (.cons (Den.mv (m:=(l.start,m.2.1,-m.2.2)) (SqT.of en)) .nil)
    rintro σ H4 ⟨-,v11,v12,v13,Hb,vs,rfl,sb,dv,O⟩
    rw [htl,List.take_length] at dv
    exact ⟨_,rfl,q lm Hb _ vs sb O dv⟩
abbrev eY:Stmt:=top 42
theorem oh:aX ["roll","ponds","takes","lets","keepers","users"] ["roll","ponds","takes","lets"] (ao eY):=⟨rfl,rfl,rfl,by decide +kernel,rfl,by decide +kernel,by decide +kernel⟩
def tK (ls:List Lic) (ps:List (Int × Int × Int)) (t:Nat):List Nat:=(List.range t).filter fun j=>decide ((ls[j]?.map Lic.back).getD 0=-1) && !decide ((j:Int)∈ps.map (·.1))
def zG (ms:List (Int × Int × Int)):List Int:=(ms.filter fun m:Int × Int × Int=>!decide (m.2.1=-1)).map fun m=>m.2.2
theorem wY {ms:List (Int × Int × Int)} {i:Nat} {m:Int × Int × Int} (h:ms[i]?=some m):zG (ms.take (i + 1))=zG (ms.take i)++if m.2.1=-1 then [] else [m.2.2]:=by
  unfold zG
  rw [List.take_add_one,h,Option.toList_some,List.filter_append,Tn.qT,List.map_append]
  by_cases e:m.2.1=-1
  · simp [e]
  · simp [e]
theorem zT (ms:List (Int × Int × Int)):(zG ms).length≤ms.length:=by
  unfold zG;rw [List.length_map];exact List.length_filter_le _ _
def rF (ls:List Lic) (ps:List (Int × Int × Int)) (xs:List Int) (ms:List (Int × Int × Int)):Int:=((tK ls ps ls.length).map fun j=>xs.getD j 0).sum + (zG ms).sum
theorem zR (ls:List Lic) (ps:List (Int × Int × Int)) (t:Nat):(tK ls ps t).length≤t:=by
  unfold tK
  have:=List.length_filter_le (fun j:Nat=>decide ((ls[j]?.map Lic.back).getD 0=-1) && !decide ((j:Int)∈ps.map (·.1))) (List.range t)
  rw [List.length_range] at this;exact this
theorem rE (ls:List Lic) (ps:List (Int × Int × Int)) (t:Nat):tK ls ps (t + 1)=tK ls ps t++if (decide ((ls[t]?.map Lic.back).getD 0=-1) && !decide ((t:Int)∈ps.map (·.1)))=true then [t] else []:=by
  unfold tK
  rw [List.range_succ,List.filter_append,Tn.qT]
theorem Ox {ls:List Lic} {ps:List (Int × Int × Int)} {t j:Nat} (h:j∈tK ls ps t):j<t:=List.mem_range.mp (List.mem_filter.mp h).1
def Ah (K:PySem.W.Frag) (T:fC):Sp:=fun vs H Q _=>∃ (b c d e:Addr) (xs:List Int) (rs us ts:List V) (ls:List Lic) (ps ms:List (Int × Int × Int)),vs=[.ref b,.ref c,.ref d,.ref e]∧SqL K H b rs∧bM K H rs (ls.map qI)∧ls.length≤100∧SqL K H c us∧bM K H us (ps.map dMv)∧ps.length≤1000∧SqL K H d (xs.map V.int)∧xs.length=ls.length∧SqL K H e ts∧bM K H ts (ms.map dMv)∧ms.length≤1000∧TabsOk T H ∧
  ∀ H',bB T H H'→Q (.int (rF ls ps xs ms)) H'
theorem Nh {f f1:Addr} {fd fd1:FuncData} (D:Df K mg "used_of" eY ["roll","ponds","takes","lets"] f fd) (B:Blt mg) (C:Mth mg)
    (gP:Df K mg "gives_back" dX ["one"] f1 fd1) (vg:bR P w K mg base CX0 1 f1 fd1 ["one"] (Px K)):bR P w K mg base CX0 2 f fd ["roll","ponds","takes","lets"] (Ah K T):=by
  obtain ⟨tM,hMOUTH⟩:=C.MOUTH
  refine D.F.ok oh (fun vs H Q E h=>?_) (fun cdv A outer s H vs Q E hr h=>?_)
  · obtain ⟨_,_,_,_,_,_,_,_,_,_,_,rfl,_⟩:=h;rfl
  · obtain ⟨b,c,d,e,xs,rs,us,ts,ls,ps,ms,rfl,hB,d0,hl1,hC,d1,hp1,hD,hxl,hE,d2,hm1,tk,q⟩:=h
    have hrl:rs.length=ls.length:=by rw [d0.length,List.length_map]
    have hul:us.length=ps.length:=by rw [d1.length,List.length_map]
    have htl:ts.length=ms.length:=by rw [d2.length,List.length_map]
    refine ⟨_,(aq (aR (i:=4) oh.nd rfl (Or.inr rfl) (iC (ao eY) rfl ["roll","ponds","takes","lets","keepers","users"] rfl ["number","room","leak"] [none,none,none] (by decide +kernel) (by decide +kernel) (by decide +kernel) rfl (bO (pv 1)) (fun _ _ _=>(pW (K:=K) (n:=3) rfl rfl (aH (aF (i:=0) (show (["number","room","leak"]:List Str).Nodup by decide +kernel) rfl (Or.inl rfl)) (aH (aF (i:=1) (show (["number","room","leak"]:List Str).Nodup by decide +kernel) rfl (Or.inl rfl)) (aH (aF (i:=2) (show (["number","room","leak"]:List Str).Nodup by decide +kernel) rfl (Or.inl rfl)) cJ))))) (fun _ _ _=>iz) (fun _ _ _=>(pv 0))))
      (aq (fZ (i:=5) (ao eY) rfl ["roll","ponds","takes","lets","keepers","users"] rfl ["number","one","keepers"] [none,none,some 4] (by decide +kernel) (by decide +kernel) (by decide +kernel) rfl oh.nd rfl rfl (Bl rfl B.enumerate (ak (pv 0) au)) (fun _ _ _=>(pW (K:=K) (n:=2) rfl rfl (aH (aF (i:=0) (show (["number","one","keepers"]:List Str).Nodup by decide +kernel) rfl (Or.inl rfl)) (aH (aF (i:=1) (show (["number","one","keepers"]:List Str).Nodup by decide +kernel) rfl (Or.inl rfl)) cJ)))) (fun _ _ _=>(kO (PW.pt (pw_and (mR (mQ (aK vg (hr.mono (by decide)) rfl gP.m gP.F.kp gP.b .nil bC (ak (pv 1) au)))) (pw_and1 (aW (rY (K:=K) rfl) (pv 0) (pv 2) (by rfl))))))) (fun _ _ _=>(pv 0)) rfl)
      (aB (aZ (aQ dz (aN (fB rfl) rfl B.sum PyProof.Rows.boot_sum (ak (iC (ao eY) rfl ["roll","ponds","takes","lets","keepers","users"] rfl ["number","takes"] [none,some 2] (by decide +kernel) (by decide +kernel) (by decide +kernel) rfl (bO (pv 5)) (fun _ _ _=>(aF (i:=0) (show (["number","takes"]:List Str).Nodup by decide +kernel) rfl (Or.inl rfl))) (fun _ _ _=>iz) (fun _ _ _=>(aL (bQ (K:=K) rfl) (pv 1) (pv 0) (fun _ _=>rfl)))) au)) (aN (fB rfl) rfl B.sum PyProof.Rows.boot_sum (ak (iC (ao eY) rfl ["roll","ponds","takes","lets","keepers","users"] rfl ["place","reach","amount"] [none,none,none] (by decide +kernel) (by decide +kernel) (by decide +kernel) rfl (bO (pv 3)) (fun _ _ _=>(pW (K:=K) (n:=3) rfl rfl (aH (aF (i:=0) (show (["place","reach","amount"]:List Str).Nodup by decide +kernel) rfl (Or.inl rfl)) (aH (aF (i:=1) (show (["place","reach","amount"]:List Str).Nodup by decide +kernel) rfl (Or.inl rfl)) (aH (aF (i:=2) (show (["place","reach","amount"]:List Str).Nodup by decide +kernel) rfl (Or.inl rfl)) cJ))))) (fun _ _ _=>(kO (aW oZ (pv 1) (lR (v:=.int (-1)) rfl hMOUTH ⟨_,rfl⟩) (bx _)))) (fun _ _ _=>(pv 2))) au))))))),?_⟩
    refine Yg ?_
    intro zu0 zu1
    have O:=Ow.refl tk
    refine ⟨_,rfl,c,rfl,⟨_,hC⟩,fun lk hlk=>?_⟩
    refine dI (K:=K) (xs:=us) (fun i τ H'=>Iv (∃ (v0 v1 v2:Option V),τ=[v0,v1,v2]∧Ow T H H' [(lk,.lst (((ps.take i).map (·.1)).map V.int))]))
      ⟨trivial,none,none,none,rfl,O.mk' hlk rfl⟩ (fun _ _ _ _ ⟨_,_,_,_,_,O⟩=>O.same.seq hC) ?_ ?_
    · rintro i y τ H3 hy ⟨-,v0,v1,v2,rfl,O⟩
      obtain ⟨ap,p,rfl,hp,hT⟩:=d1.jQ hy
      have hi:=(List.getElem?_eq_some_iff.mp hp).1
      refine ⟨ap,_,rfl,hT.mo O.same,rfl,_,_,rfl,_,_,rfl,_,_,rfl,rfl,?_⟩
      refine Vw ?_
      refine ⟨_,rfl,_,O.get 0,aP (by rw [List.length_map,List.length_map,List.length_take];omega),?_⟩
      walk_at "pt"
      refine ⟨trivial,_,_,_,rfl,?_⟩
      rw [List.take_add_one,hp,List.map_append,List.map_append];exact O
    rintro τ H3 ⟨-,v0,v1,v2,rfl,O⟩
    rw [hul,List.take_length] at O
    refine ⟨_,rfl,b,_,rfl,O.same.seq hB,fun lu hlu=>?_⟩
    refine CZ (K:=K) (xs:=rs) (fun i τ H'=>Iv (∃ (v0 v1:Option V),τ=[v0,v1,some (.ref lk)]∧Ow T H H' [(lu,.lst ((Tn.asI (tK ls ps i)).map V.int)),(lk,.lst ((ps.map (·.1)).map V.int))]))
      ⟨trivial,none,none,rfl,O.mk' hlu rfl⟩ (fun _ _ _ _ ⟨_,_,_,_,O⟩=>O.same.seq hB) ?_ ?_
    · rintro i y t' τ H4 hy ⟨-,v0,v1,rfl,O⟩ ht'
      obtain ⟨al,l,rfl,hl,hT⟩:=d0.wA hy
      have hi:=(List.getElem?_eq_some_iff.mp hl).1
      have hsu:=rE ls ps i
      have hln:=zR ls ps i
      rw [hl] at hsu
      walk_at "nw"
      refine ⟨t',_,rfl,O.sqT 0,rfl,_,_,rfl,_,_,rfl,rfl,?_⟩
      have O:=O.tail
      refine ⟨_,rfl,al,l,rfl,hT.mo O.same,_,rfl,ifN (ifN (ifD (fun hc=>?_) fun hc=>?_))⟩
      · refine ⟨_,rfl,_,rfl,lk,_,rfl,.inl (O.sq 1),rfl,nO _,_,rfl,?_⟩
        rw [if_pos rfl,sI]
        refine ifN (ifD (fun hm=>?_) fun hm=>?_)
        · refine ⟨trivial,_,_,rfl,?_⟩
          rw [hsu,if_neg (by simp [hm]),List.append_nil];exact O
        · refine ⟨_,rfl,_,O.get 0,aP (by rw [List.length_map,Tn.iZ];omega),?_⟩
          walk_at "pt"
          refine ⟨trivial,_,_,rfl,?_⟩
          rw [hsu,if_pos (by simp [hc,hm])]
          unfold Tn.asI at O ⊢
          rw [List.map_append,List.map_append];exact O
      · refine pA ⟨trivial,_,_,rfl,?_⟩
        rw [hsu,if_neg (by simp [hc]),List.append_nil];exact O
    rintro τ H4 ⟨-,v0,v1,rfl,O⟩
    rw [hrl] at O
    /- the takes of the users -/
    refine ⟨_,rfl,lu,rfl,⟨_,O.sq 0⟩,fun l1 hl1'=>?_⟩
    refine dI (K:=K) (xs:=(Tn.asI (tK ls ps ls.length)).map V.int) (fun i τ H'=>Iv (∃ (v0:Option V),τ=[v0,some (.ref d)]∧Ow T H H' [(l1,.lst ((((tK ls ps ls.length).take i).map fun j=>xs.getD j 0).map V.int)),(lu,.lst ((Tn.asI (tK ls ps ls.length)).map V.int)),(lk,.lst ((ps.map (·.1)).map V.int))]))
      ⟨trivial,none,rfl,O.mk' hl1' rfl⟩ (fun _ _ _ _ ⟨_,_,_,O⟩=>O.sq 1) ?_ ?_
    · rintro i y τ H5 hy ⟨-,v0,rfl,O⟩
      obtain ⟨z,hz,rfl⟩:=ints_get hy
      obtain ⟨j,hj,rfl⟩:=Tn.jj hz
      have hjl:=Ox (List.mem_of_getElem? hj)
      have hln:=zR ls ps ls.length
      have hi:=(List.getElem?_eq_some_iff.mp hj).1
      refine zF ?_
      refine ⟨_,rfl,_,rfl,d,_,(j:Int),_,rfl,rfl,O.same.seq hD,bZ (bh (ns:=xs) (k:=j) (by omega)),?_⟩
      refine ⟨_,O.get 0,aP (by rw [List.length_map,List.length_map,List.length_take];omega),?_⟩
      walk_at "pt"
      refine ⟨trivial,_,rfl,?_⟩
      rw [Tn.gk hj,List.map_append];exact O
    rintro τ H5 ⟨-,v0,rfl,O⟩
    rw [List.length_map,Tn.iZ,List.take_length] at O
    refine ⟨l1,_,rfl,O.sq 0,?_⟩
    /- the lets -/
    refine ⟨_,rfl,e,rfl,⟨_,O.same.seq hE⟩,fun l2 hl2=>?_⟩
    refine dI (K:=K) (xs:=ts) (fun i τ H'=>Iv (∃ (v0 v1 v2:Option V),τ=[v0,v1,v2]∧Ow T H H' [(l2,.lst ((zG (ms.take i)).map V.int)),(l1,.lst (((tK ls ps ls.length).map fun j=>xs.getD j 0).map V.int))]))
      ⟨trivial,none,none,none,rfl,O.two.two.mk' hl2 rfl⟩ (fun _ _ _ _ ⟨_,_,_,_,_,O⟩=>O.same.seq hE) ?_ ?_
    · rintro i y τ H6 hy ⟨-,v0,v1,v2,rfl,O⟩
      obtain ⟨am,m,rfl,hm,hT⟩:=d2.jQ hy
      have hi:=(List.getElem?_eq_some_iff.mp hm).1
      have hfl:=zT (ms.take i)
      rw [List.length_take] at hfl
      have hnx:=wY hm
      refine ⟨am,_,rfl,hT.mo O.same,rfl,_,_,rfl,_,_,rfl,_,_,rfl,rfl,?_⟩
      refine ⟨_,rfl,rfl,_,rfl,ifN (ifI (fun hc=>?_) fun hc=>?_)⟩
      · refine ⟨trivial,_,_,_,rfl,?_⟩
        rw [hnx,if_pos hc,List.append_nil];exact O
      · refine ⟨_,rfl,_,O.get 0,aP (by rw [List.length_map];omega),?_⟩
        walk_at "pt"
        refine ⟨trivial,_,_,_,rfl,?_⟩
        rw [hnx,if_neg hc,List.map_append];exact O
    rintro τ H6 ⟨-,v0,v1,v2,rfl,O⟩
    rw [htl,List.take_length] at O
    refine ⟨l2,_,rfl,O.sq 0,_,_,rfl,rfl,?_⟩
    exact q _ O.same
abbrev eE:Stmt:=top 9
theorem uy:aX ["below"] ["below"] (ao eE):=⟨rfl,rfl,rfl,by decide +kernel,rfl,by decide +kernel,by decide +kernel⟩
def um (K:PySem.W.Frag) (T:fC):Sp:=fun vs H Q _=>∃ (a:Addr) (r:List Int),vs=[.ref a]∧SqL K H a (r.map V.int)∧r.length<64∧TabsOk T H∧m7 T H (fun xs=>xs=(Rv.vB r r.length).map V.int) Q
theorem Bv {f:Addr} {fd:FuncData} {T:fC} (D:Df K mg "mouths_of" eE ["below"] f fd) (B:Blt mg) (C:Mth mg):bR P w K mg base CX0 1 f fd ["below"] (um K T):=by
  obtain ⟨tM,hMOUTH⟩:=C.MOUTH
  refine D.F.ok uy (fun vs H Q E h=>?_) (fun cdv A outer s H vs Q E hr h=>?_)
  · obtain ⟨a,r,rfl,_⟩:=h;rfl
  · obtain ⟨a,r,rfl,hS,h64,tk,q⟩:=h
    refine ⟨_,(aB (aZ (iC (ao eE) rfl ["below"] rfl ["reach","below"] [none,some 0] (by decide +kernel) (by decide +kernel) (by decide +kernel) rfl (cZ rfl B.range (ak (aN aM rfl B.len PySem.boot_len (ak (pv 0) au)) au)) (fun _ _ _=>(aF (i:=0) (show (["reach","below"]:List Str).Nodup by decide +kernel) rfl (Or.inl rfl))) (fun _ _ _=>(kO (aW jZ (aL (bQ (K:=K) rfl) (pv 1) (pv 0) (fun _ _=>rfl)) (lR (v:=.int (-1)) rfl hMOUTH ⟨_,rfl⟩) (bx _)))) (fun _ _ _=>(pv 0))))),?_⟩
    have O:=Ow.refl tk
    have hml:(r.map V.int).length=r.length:=List.length_map _
    refine ⟨_,rfl,a,_,rfl,.inl hS,_,rfl,by rw [hml];omega,by rw [hml];omega,fun acc hacc=>?_⟩
    rw [hml,Int.toNat_natCast]
    refine iK (n:=r.length) (fun i τ H2=>∃ v,τ=[v,some (.ref a)]∧Ow T H H2 [(acc,.lst ((Rv.vB r i).map V.int))]) ⟨none,rfl,O.mk' hacc rfl⟩ ?_ ?_
    · rintro i τ H2 hi ⟨v,rfl,O⟩
      rw [show (0:Int) + (i:Int)=(i:Int) by omega]
      have g:=Rv.jW (r:=r) (p:=(i:Int)) (by omega) (by omega)
      have ol:=Rv.su r i
      refine ⟨_,rfl,_,rfl,a,_,_,_,rfl,rfl,O.same.seq hS,lC (by omega) g,rfl,_,rfl,?_⟩
      by_cases hm:Rv.nxt r (i:Int)=-1
      · rw [hm]
        refine Cp ?_
        refine ⟨_,rfl,_,O.get 0,aP (by rw [List.length_map];omega),?_⟩
        walk_at "put";intro H4 O
        exact ⟨_,rfl,by rw [Rv.lU,if_pos hm,List.map_append];exact O⟩
      · have hd:decide (V.int (Rv.nxt r (i:Int))=V.int (-1))=false:=by simp [hm]
        rw [hd]
        refine pA ?_
        exact ⟨_,rfl,by rw [Rv.lU,if_neg hm,List.append_nil];exact O⟩
    rintro τ H2 ⟨v,rfl,O⟩
    exact O.ret 0 rfl q rfl
abbrev gG:Stmt:=top 13
theorem iI:aX ["below","springs","moves","flows","start","stop","amount","reach"] ["below","springs","moves"] (ao gG):=⟨rfl,rfl,rfl,by decide +kernel,rfl,by decide +kernel,by decide +kernel⟩
def xO (K:PySem.W.Frag) (T:fC):Sp:=fun vs H Q _=>∃ (a b c:Addr) (r s:List Int) (ms:List Rv.Mv),vs=[.ref a,.ref b,.ref c]∧Vn K H a r∧SqL K H b (s.map V.int)∧s.length=r.length∧Den K H (.ref c) (Vq ms)∧(∀ m∈ms,Rv.uY r m)∧TabsOk T H ∧
  m7 T H (fun xs=>xs=(Rv.tL r s ms).map V.int) Q
theorem En {f fN fS:Addr} {fd fdN fdS:FuncData} {T:fC} (D:Df K mg "flows_of" gG ["below","springs","moves"] f fd)
    (cA:Df K mg "natural_of" cU ["below","springs"] fN fdN) (mC:bR P w K mg base CX0 6 fN fdN ["below","springs"] (Am K T))
    (cj:Df K mg "stretch_of" cQ ["below","start","stop"] fS fdS) (mj:bR P w K mg base CX0 2 fS fdS ["below","start","stop"] (rN K)):bR P w K mg base CX0 7 f fd ["below","springs","moves"] (xO K T):=by
  refine D.F.ok iI (fun vs H Q E h=>?_) (fun cdv A outer s H vs Q E hr h=>?_)
  · obtain ⟨a,b,c,r,s,ms,rfl,_⟩:=h;rfl
  · obtain ⟨a,b,c,r,sp,ms,rfl,⟨hS,hR,h64⟩,hB,hl,hM,good,tk,q⟩:=h
    refine ⟨_,(aq (aR (i:=3) iI.nd rfl (Or.inl rfl) (aK mC (hr.mono (by decide)) rfl cA.m cA.F.kp cA.b .nil bC (ak (pv 0) (ak (pv 1) au))))
      (aq (dH PassesOwn.never rfl (bO (pv 2)) (iB rfl (aH (aF (i:=4) iI.nd rfl (Or.inl rfl)) (aH (aF (i:=5) iI.nd rfl (Or.inl rfl)) (aH (aF (i:=6) iI.nd rfl (Or.inl rfl)) cJ))))
        (aB (dH PassesOwn.never rfl (bO (aK mj (hr.mono (by decide)) rfl cj.m cj.F.kp cj.b .nil bC (ak (pv 0) (ak (pv 4) (ak (pv 5) au))))) (aF (i:=7) iI.nd rfl (Or.inl rfl))
          (aB (mY (pv 3) (pv 7) lD (pv 6) Cr set_list)))))
      (aB (aZ (pv 3))))),?_⟩
    refine Yh ?_
    intro zu0 zu1 zu2 zu3
    obtain ⟨c',xs,ec,hq,hds⟩:=hM.Nu
    cases ec
    have hxl:xs.length=ms.length:=by rw [hds.length,List.length_map]
    have O:=Ow.refl tk
    refine ⟨_,rfl,_,rfl,a,b,r,sp,rfl,⟨hS,hR,h64⟩,hB,hl,tk,O.qF fun lf H1 fs O e1=>?_⟩
    subst e1
    refine ⟨_,rfl,c,rfl,⟨_,O.same.seq hq⟩,?_⟩
    refine eU (K:=K) (a:=c) (xs:=xs) (fun t σ H2=>∃ (v4 v5 v6 v7:Option V) (fl:List Int),σ=[some (.ref a),some (.ref b),some (.ref c),some (.ref lf),v4,v5,v6,v7]∧Ow T H H2 [(lf,.lst (fl.map V.int))]∧Rv.Fl r.length fl fun i=>Rv.lN r sp (i:Int) - Rv.lJ r (ms.take t) (i:Int))
      ⟨none,none,none,none,_,rfl,O,(Rv.wj r sp).zu fun i _=>by show _=_ - (0:Int);omega⟩ (fun _ _ _ _ ⟨_,_,_,_,_,_,O,_⟩=>O.same.seq hq) ?_ ?_
    · rintro t y σ H2 hy ⟨v4,v5,v6,v7,fl,rfl,O,FL⟩
      obtain ⟨d,hd,hden⟩:=hds.get' hy
      rw [List.getElem?_map] at hd
      obtain ⟨m,hm,rfl⟩:∃ m,ms[t]?=some m∧d=dMv m:=by
        cases e:ms[t]? with
        | none=>rw [e] at hd;cases hd
        | some m=>rw [e] at hd;exact ⟨m,rfl,(Option.some.inj hd).symm⟩
      obtain ⟨ta,rfl,ht⟩:=hden.GJ
      obtain ⟨g0,g1,g2⟩:=good m (List.mem_of_getElem? hm)
      refine ⟨ta,_,rfl,O.same.Wk ht,rfl,_,_,rfl,_,_,rfl,_,_,rfl,rfl,?_⟩
      refine ⟨_,rfl,_,rfl,_,rfl,a,r,m.1,m.2.1,rfl,O.same.seq hS,hR,g0,g1,by omega,g2,O.got fun ls H3 zs O e3=>?_⟩
      subst e3
      refine ⟨ls,rfl,⟨_,O.sq 0⟩,?_⟩
      refine eU (K:=K) (a:=ls) (xs:=(Rv.dB r m.1 m.2.1).map V.int) (fun i σ H4=>∃ (v7:Option V) (fl:List Int),σ=[some (.ref a),some (.ref b),some (.ref c),some (.ref lf),some (.int m.1),some (.int m.2.1),some (.int m.2.2),v7] ∧
        Ow T H H4 [(ls,.lst ((Rv.dB r m.1 m.2.1).map V.int)),(lf,.lst (fl.map V.int))]∧Rv.MvI r (fun i=>Rv.lN r sp (i:Int) - Rv.lJ r (ms.take t) (i:Int)) m.2.2 ((Rv.dB r m.1 m.2.1).take i) fl)
        ⟨v7,fl,rfl,O,Rv.MvI.start _ FL⟩ (fun _ _ _ _ ⟨_,_,_,O,_⟩=>O.sq 0) ?_ ?_
      · rintro i y σ H4 hy ⟨v7,fl,rfl,O,MI⟩
        obtain ⟨z,hz,rfl⟩:=ints_get hy
        obtain ⟨z0,z1⟩:=Rv.rC hR m.1 g0 g1 z (Rv.uc (List.mem_of_getElem? hz))
        obtain ⟨zn,rfl⟩:=Int.eq_ofNat_of_zero_le z0
        have hzl:zn<r.length:=by omega
        obtain ⟨x,hx⟩:∃ x,fl[zn]?=some x:=⟨_,MI.at_ zn hzl⟩
        have nd:=Rv.rM hR g0 g1 (b:=m.2.1)
        have nm:¬ ((zn:Nat):Int)∈(Rv.dB r m.1 m.2.1).take i:=fun hmm=>by
          obtain ⟨h1,h2⟩:=List.getElem?_eq_some_iff.mp hz
          obtain ⟨j,hj,ej⟩:=List.getElem_of_mem hmm
          rw [List.getElem_take] at ej
          rw [List.length_take] at hj
          have:=(List.getElem_inj nd).mp (ej.trans h2.symm)
          omega
        refine ⟨_,rfl,_,rfl,lf,_,zn,V.int x,rfl,rfl,O.sq 1,by rw [List.getElem?_map,hx];rfl,_,rfl,_,_,rfl,rfl,?_⟩
        refine pZ O 1 rfl (lB (by rw [List.length_map,MI.len];exact hzl)) fun H5 O=>?_
        refine ⟨_,fl.set zn (x - m.2.2),rfl,?_,?_⟩
        · rw [List.map_set];exact O
        · rw [List.take_add_one,hz]
          exact MI.turn hzl nm hx
      · rintro σ H4 ⟨v7,fl,rfl,O,MI⟩
        rw [List.length_map,List.take_length] at MI
        refine ⟨_,_,_,_,fl,rfl,O.tail,?_⟩
        have e:ms.take (t + 1)=ms.take t++[m]:=by rw [List.take_add_one,hm];rfl
        rw [e]
        exact MI.done
    · rintro σ H2 ⟨v4,v5,v6,v7,fl,rfl,O,FL⟩
      rw [hxl,List.take_length] at FL
      exact ⟨_,rfl,O.ret 0 rfl q (by rw [Rv.Fl.ext FL (Rv.sV r sp ms)])⟩
abbrev jx:Stmt:=top 43
theorem iy:aX ["below","springs","roll","ponds","kept","calls","lets","left","dealt_by","takes","after","lost","flows","out","sheet"] ["below","springs","roll","ponds","kept","calls","lets"] (ao jx):=⟨rfl,rfl,rfl,by decide +kernel,rfl,by decide +kernel,by decide +kernel⟩
def qw (ps:List (Int × Int × Int)) (ks xs:List Int):List Int:=(List.range ps.length).map fun i=>nM ps ks xs i - jV ps ks xs i
def Ey (ps:List (Int × Int × Int)) (ks xs:List Int):List Int:=(List.range ps.length).map (jV ps ks xs)
def Ou (r fl:List Int):Int:=((Rv.vB r r.length).map fun i=>fl.getD i.toNat 0).sum
structure DIn (K:PySem.W.Frag) (H:Hp) (r s:List Int) (rs us ts:List V) (ls:List Lic) (ps ms:List (Int × Int × Int)) (ks cs:List Int) (a b c d e g h:Addr):Prop where
  A:SqL K H a (r.map V.int)
  S:SqL K H b (s.map V.int)
  R:SqL K H c rs
  dR:bM K H rs (ls.map qI)
  P:SqL K H d us
  dP:bM K H us (ps.map dMv)
  Kp:SqL K H e (ks.map V.int)
  C:SqL K H g (cs.map V.int)
  L:SqL K H h ts
  dL:bM K H ts (ms.map dMv)
structure DOk (r s:List Int) (ls:List Lic) (ps ms:List (Int × Int × Int)) (ks cs:List Int):Prop where
  riv:Rv.dJ r
  r64:r.length<64
  sl:s.length=r.length
  sn:∀ x∈s,0≤x
  l64:ls.length<64
  lok:∀ l∈ls,rA r l
  kl:ks.length=ps.length
  p1:ps.length≤1000
  pok:∀ p∈ps,0≤p.1∧p.1<(ls.length:Int)∧0≤p.2.2∧p.2.2≤1000
  cl:ls.length=cs.length
  m1:ms.length≤1000
  good:∀ (i:Nat) (m:Int × Int × Int),ms[i]?=some m→wM r ls ps (bN ks (ms.take i)) m
  bn:∀ c∈kZ cs ps (bN ks ms) ps.length,0≤c
theorem DIn.mo {T:fC} {K:PySem.W.Frag} {H H':Hp} {r s:List Int} {rs us ts:List V} {ls:List Lic} {ps ms:List (Int × Int × Int)} {ks cs:List Int} {a b c d e g h:Addr} (I:DIn K H r s rs us ts ls ps ms ks cs a b c d e g h) (m:bB T H H'):DIn K H' r s rs us ts ls ps ms ks cs a b c d e g h :=
  ⟨m.seq I.A,m.seq I.S,m.seq I.R,I.dR.mo m,m.seq I.P,I.dP.mo m,m.seq I.Kp,m.seq I.C,m.seq I.L,I.dL.mo m⟩
def Ot (r s:List Int) (ls:List Lic) (ps ms:List (Int × Int × Int)) (ks xs:List Int):List Int :=
  [s.sum,ks.sum,rF ls ps xs ms,(qw ps (bN ks ms) xs).sum,(Ey ps (bN ks ms) xs).sum,Ou r (Rv.tL r s (mL ls ps xs ms))]
theorem DOk.Wz {r s:List Int} {ls:List Lic} {ps ms:List (Int × Int × Int)} {ks cs:List Int} (h:DOk r s ls ps ms ks cs):∀ m∈ms,Vk ls ps m:=fun m hm=>by
  obtain ⟨i,hi⟩:=List.getElem?_of_mem hm
  have g:=h.good i m hi
  obtain ⟨p,l,hp,p0,hl,_⟩:=g.pd
  exact ⟨g.at0,p,l,hp,p0,hl⟩
theorem DOk.moves {r s:List Int} {ls:List Lic} {ps ms:List (Int × Int × Int)} {ks cs xs:List Int} (h:DOk r s ls ps ms ks cs):∀ m∈mL ls ps xs ms,Rv.uY r m:=fun m hm=>by
  rcases List.mem_append.mp hm with e | e
  · obtain ⟨p,hp,rfl⟩:=List.mem_map.mp e
    obtain ⟨h0,h1,h2⟩:=(h.lok p.1 (List.of_mem_zip hp).1).1
    exact ⟨h0,h1,h2⟩
  · obtain ⟨z,hz,rfl⟩:=List.mem_map.mp e
    obtain ⟨i,hi⟩:=List.getElem?_of_mem hz
    have g:=h.good i z hi
    obtain ⟨p,l,hp,p0,hl,l0,l1,hin⟩:=g.pd
    unfold m5;rw [Gh hp hl]
    exact ⟨l0,l1,hin⟩
theorem Nv {r:List Int} {z:Int} (h:z∈Rv.vB r r.length):0≤z∧z<(r.length:Int):=by
  unfold Rv.vB at h
  obtain ⟨j,hj,rfl⟩:=List.mem_map.mp h
  have:=List.mem_range.mp (List.mem_filter.mp hj).1
  omega
theorem Ew {α β:Type} {l:List α} {i:Nat} {x:α} (g:α→β) (h:l[i]?=some x):(l.take (i + 1)).map g=(l.take i).map g++[g x]:=by
  rw [List.take_add_one,h,List.map_append];rfl
def xP (K:PySem.W.Frag) (T:fC):Sp:=fun vs H Q _=>∃ (a b c d e g h:Addr) (r s:List Int) (rs us ts:List V) (ls:List Lic) (ps ms:List (Int × Int × Int)) (ks cs:List Int),vs=[.ref a,.ref b,.ref c,.ref d,.ref e,.ref g,.ref h]∧DIn K H r s rs us ts ls ps ms ks cs a b c d e g h∧DOk r s ls ps ms ks cs∧TabsOk T H ∧
  ∀ (t lt la lf lh:Addr) (H':Hp) (xs:List Int),Ow T H H' [(t,.tup [.ref lt,.ref la,.ref lf,.ref lh]),(lh,.tup ((Ot r s ls ps ms ks xs).map V.int)),(lf,.lst ((Rv.tL r s (mL ls ps xs ms)).map V.int)),(la,.lst ((qw ps (bN ks ms) xs).map V.int)),(lt,.lst (xs.map V.int))]→tH r s ls (kZ cs ps (bN ks ms) ps.length) xs→Q (.ref t) H'
theorem Eo {f f1 f2 f3 f4 f5 f6 f7:Addr} {fd fd1 fd2 fd3 fd4 fd5 fd6 fd7:FuncData} (D:Df K mg "day_of" jx ["below","springs","roll","ponds","kept","calls","lets"] f fd) (B:Blt mg)
    (gO:Df K mg "morning_of" dW ["below","roll","ponds","kept","calls","lets"] f1 fd1) (vf:bR P w K mg base CX0 5 f1 fd1 ["below","roll","ponds","kept","calls","lets"] (Gs K T))
    (rB:Df K mg "deal" mO ["below","springs","roll","calls"] f2 fd2) (Vl:bR P w K mg base CX0 7 f2 fd2 ["below","springs","roll","calls"] (Aq K T))
    (kh:Df K mg "evening" ji ["ponds","kept","takes"] f3 fd3) (Du:bR P w K mg base CX0 1 f3 fd3 ["ponds","kept","takes"] (Gx K T))
    (jF:Df K mg "flows_of" gG ["below","springs","moves"] f4 fd4) (zB:bR P w K mg base CX0 7 f4 fd4 ["below","springs","moves"] (xO K T))
    (jE:Df K mg "moves_of" gF ["roll","ponds","takes","lets"] f5 fd5) (zA:bR P w K mg base CX0 3 f5 fd5 ["roll","ponds","takes","lets"] (Gq K T))
    (iM:Df K mg "mouths_of" eE ["below"] f6 fd6) (wN:bR P w K mg base CX0 1 f6 fd6 ["below"] (um K T))
    (j7:Df K mg "used_of" eY ["roll","ponds","takes","lets"] f7 fd7) (Dr:bR P w K mg base CX0 2 f7 fd7 ["roll","ponds","takes","lets"] (Ah K T)) :
    bR P w K mg base CX0 8 f fd ["below","springs","roll","ponds","kept","calls","lets"] (xP K T):=by
  refine D.F.ok iy (fun vs H Q E h=>?_) (fun cdv A outer s H vs Q E hr h=>?_)
  · obtain ⟨_,_,_,_,_,_,_,_,_,_,_,_,_,_,_,_,_,rfl,_⟩:=h;rfl
  · obtain ⟨a,b,c,d,e,g,h,r,sp,rs,us,ts,ls,ps,ms,ks,cs,rfl,I,ok,tk,q⟩:=h
    refine ⟨_,(aq (iD (aK vf (hr.mono (by decide)) rfl gO.m gO.F.kp gO.b .nil bC (ak (pv 0) (ak (pv 2) (ak (pv 3) (ak (pv 4) (ak (pv 5) (ak (pv 6) au))))))) (iB rfl (aH (aF (i:=7) iy.nd rfl (Or.inl rfl)) (aH (aF (i:=8) iy.nd rfl (Or.inl rfl)) cJ))))
      (aq (aR (i:=9) iy.nd rfl (Or.inl rfl) (aK Vl (hr.mono (by decide)) rfl rB.m rB.F.kp rB.b .nil bC (ak (pv 0) (ak (pv 1) (ak (pv 2) (ak (pv 8) au))))))
      (aq (iD (aK Du (hr.mono (by decide)) rfl kh.m kh.F.kp kh.b .nil bC (ak (pv 3) (ak (pv 7) (ak (pv 9) au)))) (iB rfl (aH (aF (i:=10) iy.nd rfl (Or.inl rfl)) (aH (aF (i:=11) iy.nd rfl (Or.inl rfl)) cJ))))
      (aq (aR (i:=12) iy.nd rfl (Or.inr rfl) (aK zB (hr.mono (by decide)) rfl jF.m jF.F.kp jF.b .nil bC (ak (pv 0) (ak (pv 1) (ak (aK zA (hr.mono (by decide)) rfl jE.m jE.F.kp jE.b .nil bC (ak (pv 2) (ak (pv 3) (ak (pv 9) (ak (pv 6) au))))) au)))))
      (aq (aR (i:=13) iy.nd rfl (Or.inl rfl) (aN (fB rfl) rfl B.sum PyProof.Rows.boot_sum (ak (iC (ao jx) rfl ["below","springs","roll","ponds","kept","calls","lets","left","dealt_by","takes","after","lost","flows","out","sheet"] rfl ["reach","flows"] [none,some 12] (by decide +kernel) (by decide +kernel) (by decide +kernel) rfl (bO (aK wN (hr.mono (by decide)) rfl iM.m iM.F.kp iM.b .nil bC (ak (pv 0) au))) (fun _ _ _=>(aF (i:=0) (show (["reach","flows"]:List Str).Nodup by decide +kernel) rfl (Or.inl rfl))) (fun _ _ _=>iz) (fun _ _ _=>(aL (bQ (K:=K) rfl) (pv 1) (pv 0) (fun _ _=>rfl)))) au)))
      (aq (aR (i:=14) iy.nd rfl (Or.inl rfl) (jJ (ak (aN (fB rfl) rfl B.sum PyProof.Rows.boot_sum (ak (pv 1) au)) (ak (aN (fB rfl) rfl B.sum PyProof.Rows.boot_sum (ak (pv 4) au)) (ak (aK Dr (hr.mono (by decide)) rfl j7.m j7.F.kp j7.b .nil bC (ak (pv 2) (ak (pv 3) (ak (pv 9) (ak (pv 6) au))))) (ak (aN (fB rfl) rfl B.sum PyProof.Rows.boot_sum (ak (pv 10) au)) (ak (aN (fB rfl) rfl B.sum PyProof.Rows.boot_sum (ak (pv 11) au)) (ak (pv 13) au))))))))
      (aB (aZ (jJ (ak (pv 9) (ak (pv 10) (ak (pv 12) (ak (pv 14) au))))))))))))),?_⟩
    refine V9 ?_
    intro zu0 zu1 zu2 zu3 zu4 zu5
    have O:=Ow.refl tk
    have hll:=j4 ms ks
    have hsl:=lV cs ps (bN ks ms) ps.length
    have hkl:=ok.kl
    have hcl:=ok.cl
    have h64:=ok.l64
    have r64:=ok.r64
    have hm1:=ok.m1
    have hp1:=ok.p1
    refine ⟨_,rfl,_,rfl,_,rfl,_,rfl,_,rfl,_,rfl,a,c,d,e,g,h,r,ks,cs,rs,us,ts,ls,ps,ms,rfl,I.A,ok.riv,by omega,I.R,I.dR,I.P,I.dP,I.Kp,hkl,I.C,fun p hp=>⟨(ok.pok p hp).1,by have:=(ok.pok p hp).2.1;omega⟩,I.L,I.dL,ok.good,tk,fun t1 la lb H1 OM=>?_⟩
    have O:=O.join OM
    walk_at "jn"
    refine ⟨t1,_,rfl,O.sqT 0,rfl,_,_,rfl,_,_,rfl,rfl,?_⟩
    have O:=O.tail
    refine ⟨_,rfl,_,rfl,_,rfl,_,rfl,a,b,lb,.ref c,r,sp,ls,kZ cs ps (bN ks ms) ps.length,rfl,⟨O.same.seq I.A,ok.riv,r64⟩,O.same.seq I.S,ok.sl,ok.sn,.list (O.same.seq I.R) (I.dR.mo O.same),h64,O.sq 0,by omega,ok.lok,ok.bn,O.same.t1,O.qF fun lt H2 ys O e2=>?_⟩
    obtain ⟨xs,rfl,DX⟩:=e2
    have hxl:=DX.len
    refine ⟨_,rfl,_,rfl,_,rfl,d,la,lt,us,ps,bN ks ms,xs,rfl,O.same.seq I.P,I.dP.mo O.same,ok.p1,O.sq 2,by omega,O.sq 0,fun p hp=>?_,O.same.t1,fun t2 lf2 ll H3 OE=>?_⟩
    · have:=ok.pok p hp
      exact ⟨this.1,by omega,this.2.2⟩
    have O:=O.join OE
    walk_at "jn"
    refine ⟨t2,_,rfl,O.sqT 0,rfl,_,_,rfl,_,_,rfl,rfl,?_⟩
    have O:=((O.tail).del 3).del 3
    walk_at "er"
    have O:Ow T H H3 [(ll,.lst ((Ey ps (bN ks ms) xs).map V.int)),(lf2,.lst ((qw ps (bN ks ms) xs).map V.int)),(lt,.lst (xs.map V.int))]:=O
    have I3:=I.mo O.same
    refine ⟨_,rfl,_,rfl,_,rfl,_,rfl,_,rfl,_,rfl,c,d,lt,h,xs,rs,us,ts,ls,ps,ms,rfl,I3.R,I3.dR,by omega,I3.P,I3.dP,O.sq 2,hxl,I3.L,I3.dL,hm1,ok.Wz,O.same.t1,fun lm Hm H4 vs sm OM dm=>?_⟩
    have O:=O.lZ (sm.trans OM.same)
    refine ⟨a,b,lm,r,sp,mL ls ps xs ms,rfl,⟨O.same.seq I.A,ok.riv,r64⟩,O.same.seq I.S,ok.sl,.list (OM.sq 0) (dm.mo OM.same),ok.moves,O.same.t1,O.qF fun lf H5 ys O e5=>?_⟩
    subst e5
    have hfl:(Rv.tL r sp (mL ls ps xs ms)).length=r.length:=(Rv.sV r sp (mL ls ps xs ms)).len
    refine ⟨_,rfl,a,r,rfl,O.same.seq I.A,r64,O.same.t1,O.qF fun lq H6 ys O e6=>?_⟩
    subst e6
    refine ⟨lq,rfl,⟨_,O.sq 0⟩,fun lo hlo=>?_⟩
    refine dI (K:=K) (xs:=(Rv.vB r r.length).map V.int) (fun i τ H'=>Iv (∃ (v0:Option V),τ=[v0,some (.ref lf)]∧Ow T H H' [(lo,.lst ((((Rv.vB r r.length).take i).map fun i=>(Rv.tL r sp (mL ls ps xs ms)).getD i.toNat 0).map V.int)),(lq,.lst ((Rv.vB r r.length).map V.int)),(lf,.lst ((Rv.tL r sp (mL ls ps xs ms)).map V.int)),(ll,.lst ((Ey ps (bN ks ms) xs).map V.int)),(lf2,.lst ((qw ps (bN ks ms) xs).map V.int)),(lt,.lst (xs.map V.int))]))
      ⟨trivial,none,rfl,O.mk' hlo rfl⟩ (fun _ _ _ _ ⟨_,_,_,O⟩=>O.sq 1) ?_ ?_
    · rintro i y τ H7 hy ⟨-,v0,rfl,O⟩
      obtain ⟨z,hz,rfl⟩:=ints_get hy
      have hzr:=Nv (List.mem_of_getElem? hz)
      have hi:=(List.getElem?_eq_some_iff.mp hz).1
      have hml:=Rv.su r r.length
      refine zF ?_
      refine ⟨_,rfl,_,rfl,lf,_,_,_,rfl,rfl,O.sq 2,aV hzr.1 (by omega),?_⟩
      refine ⟨_,O.get 0,aP (by rw [List.length_map,List.length_map,List.length_take];omega),?_⟩
      walk_at "pt"
      refine ⟨trivial,_,rfl,?_⟩
      rw [Ew _ hz,List.map_append];exact O
    rintro τ H7 ⟨-,v0,rfl,O⟩
    rw [List.length_map,List.take_length] at O
    refine ⟨lo,_,rfl,O.sq 0,?_⟩
    have O:=O.tail.tail
    /- the sheet -/
    have I7:=I.mo O.same
    refine ⟨_,rfl,b,_,rfl,I7.S,_,rfl,e,_,rfl,I7.Kp,?_⟩
    refine ⟨_,rfl,_,rfl,_,rfl,_,rfl,c,d,lt,h,xs,rs,us,ts,ls,ps,ms,rfl,I7.R,I7.dR,by omega,I7.P,I7.dP,hp1,O.sq 3,hxl,I7.L,I7.dL,hm1,O.same.t1,fun H8 sm=>?_⟩
    have O:=O.lZ sm
    refine ⟨_,rfl,lf2,_,rfl,O.sq 2,_,rfl,ll,_,rfl,O.sq 1,_,rfl,szl,fun lh hlh=>?_⟩
    walk_at "nw"
    refine ⟨_,rfl,_,rfl,_,rfl,_,rfl,szl,fun t ht=>?_⟩
    walk_at "nw"
    have O:=O.del 3
    walk_at "er"
    exact q t lt lf2 lf lh _ xs O DX
theorem qg {s:List Int} (h:∀ x∈s,0≤x) (k:Nat):0≤s.getD k 0:=by
  by_cases hk:k<s.length
  · exact h _ (getD_mem' hk)
  · rw [List.getD_eq_getElem?_getD,List.getElem?_eq_none (by omega)];exact Int.le_refl _
theorem Ay {s:List Int} {k:Nat} {z:Int} (h:∀ x∈s,0≤x) (hz:0≤z):∀ x∈s.set k z,0≤x:=fun x hx=>by
  rcases List.mem_or_eq_of_mem_set hx with e | e
  · exact h x e
  · rw [e];exact hz
theorem Fb {ks:List Int} {m:Int × Int × Int} (h:0≤m.2.2) (i:Nat):(o7 ks m).getD i 0≤ks.getD i 0:=by
  unfold o7
  rw [List.getD_eq_getElem?_getD,List.getElem?_set]
  by_cases e:m.1.toNat=i
  · rw [if_pos e]
    by_cases hl:m.1.toNat<ks.length
    · rw [if_pos hl,e];show ks.getD i 0 - m.2.2≤ks.getD i 0;omega
    · rw [if_neg hl,List.getD_eq_getElem?_getD,List.getElem?_eq_none (by omega)];exact Int.le_refl _
  · rw [if_neg e,← List.getD_eq_getElem?_getD];exact Int.le_refl _
theorem yj:∀ (ms:List (Int × Int × Int)) (ks:List Int),(∀ m∈ms,0≤m.2.2)→∀ i,(bN ks ms).getD i 0≤ks.getD i 0
  | [],ks,_,i=>Int.le_refl _
  | m :: ms,ks,h,i=>Int.le_trans (yj ms (o7 ks m) (fun x hx=>h x (List.mem_cons_of_mem _ hx)) i) (Fb (h m List.mem_cons_self) i)
theorem yg {cs ks:List Int} {ps:List (Int × Int × Int)} (hc:∀ x∈cs,0≤x) (hk:∀ j,j<ps.length→ks.getD j 0≤(ps.getD j (0,0,0)).2.1):∀ i,i≤ps.length→∀ x∈kZ cs ps ks i,0≤x
  | 0,_=>hc
  | i + 1,hi=>by
    have ih:=yg hc hk i (by omega)
    rw [kZ]
    refine Ay ih ?_
    have h1:=qg hc (ps.getD i (0,0,0)).1.toNat
    have h2:=hk i (by omega)
    omega
theorem QJ {ps:List (Int × Int × Int)} (nd:(ps.map (·.1)).Nodup) (h0:∀ p∈ps,0≤p.1) {i j:Nat} (hj:j<i) (hi:i<ps.length):(ps.getD j (0,0,0)).1.toNat≠(ps.getD i (0,0,0)).1.toNat:=fun e=>by
  have ei:ps[i]?=some ps[i]:=List.getElem?_eq_getElem hi
  have ej:ps[j]?=some ps[j]:=List.getElem?_eq_getElem (by omega)
  rw [getD_some ei,getD_some ej] at e
  have a:=h0 _ (List.getElem_mem hi)
  have b:=h0 _ (List.getElem_mem (show j<ps.length by omega))
  have e2:ps[j].1=ps[i].1:=by omega
  have:=(List.getElem_inj (h₀:=by rw [List.length_map];omega) (h₁:=by rw [List.length_map];exact hi) nd (i:=j) (j:=i)).mp (by rw [List.getElem_map,List.getElem_map];exact e2)
  omega
theorem FJ {ls:List Lic} (h:∀ l∈ls,0≤l.day) (k:Nat):0≤sX ls k:=by
  unfold sX
  cases e:ls[k]? with
  | none=>exact Int.le_refl _
  | some l=>exact h l (List.mem_of_getElem? e)
theorem Fz {r s:List Int} {ls:List Lic} {cs xs ys:List Int} (hd:∀ l∈ls,0≤l.day) (a:tH r s ls cs xs) (b:tH r s ls cs ys):ys=xs:=by
  have xl:=a.len
  have yl:=b.len
  refine List.ext_getElem? fun i=>?_
  by_cases hi:i<ls.length
  · have:=Tn.unique (fun k _=>FJ hd k) b.fit b.shown a.fit a.shown i hi
    rw [bh (ns:=ys) (by omega),bh (ns:=xs) (by omega)]
    exact congrArg some this
  · rw [List.getElem?_eq_none (by omega),List.getElem?_eq_none (by omega)]
theorem CG (ls:List Lic):PyData.eqv (.list (ls.map qI)) (.list [])=decide (ls.length=0):=by
  cases ls with
  | nil=>rfl
  | cons p ps=>rfl
abbrev bV:Stmt:=top 49
theorem qG:aX ["number","kind"] ["number","kind"] (ao bV):=⟨rfl,rfl,rfl,by decide +kernel,rfl,by decide +kernel,by decide +kernel⟩
def xR:Sp:=fun vs H Q _=>∃ (n k:Int),vs=[.int n,.int k]∧∀ z,0≤z→z≤1000000000000→Q (.int z) H
theorem QH {f:Addr} {fd:FuncData} (D:Df K mg "_law_amount" bV ["number","kind"] f fd):bR P w K mg base CX0 1 f fd ["number","kind"] xR:=by
  refine D.F.ok qG (fun vs H Q E h=>?_) (fun cdv A outer s H vs Q E hr h=>?_)
  · obtain ⟨_,_,rfl,_⟩:=h;rfl
  · obtain ⟨n,kd,rfl,q⟩:=h
    have O:=Ow.PN H
    have s0:=O.same
    refine ⟨_,(aq (gZ (PW.pt (pw_or (aW jZ (pv 1) aA (bx _)) (pw_or1 (PW.pt (pw_and (aW jZ (pv 1) aA (bx _)) (pw_and1 (aW jZ (aQ bJ (pv 0) aA) aA (bx _))))))))
        (aB (aZ (aQ bJ (aQ fQ (pv 0) aA) aA)))
        bY)
      (aq (gZ (aW jZ (aQ bJ (aQ fQ (pv 0) aA) aA) aA (bx _))
        (aB (aZ (aQ xX aA aA)))
        bY)
      (aq (gZ (aW jZ (aQ bJ (aQ fQ (pv 0) aA) aA) aA (bx _))
        (aB (aZ (aQ bJ (aQ fQ (pv 0) aA) (aQ xX aA aA))))
        bY)
      (aB (aZ (aQ bJ (aQ jP (aQ fQ (pv 0) aA) aA) (aQ dz (aQ xX aA aA) aA))))))),?_⟩
    refine PJ ?_
    intro zu0 zu1 zu2 zu3 zu4 zu5
    have e5:(10:Int) ^ (5:Int).toNat=100000:=by decide
    have e12:(10:Int) ^ (12:Int).toNat=1000000000000:=by decide
    have q1:Q (.int (n / 2 % 10)) H:=q _ (by omega) (by omega)
    have q2:Q (.int (10 ^ (12:Int).toNat)) H:=q _ (by decide) (by decide)
    have q3:Q (.int (n / 16 % 10 ^ (5:Int).toNat)) H:=by rw [e5];exact q _ (by omega) (by omega)
    have q4:Q (.int (n / 16 * 731428571 % (10 ^ (12:Int).toNat + 1))) H:=by rw [e12];exact q _ (by omega) (by omega)
    walk_at "go"
    all_goals first
      | exact q1
      | exact q2
      | exact q3
      | exact q4
abbrev fY:Stmt:=top 48
theorem kJ:aX ["below","start","way","at"] ["below","start"] (ao fY):=⟨rfl,rfl,rfl,by decide +kernel,rfl,by decide +kernel,by decide +kernel⟩
def vO (K:PySem.W.Frag) (T:fC):Sp:=fun vs H Q _=>∃ (a:Addr) (r:List Int) (p:Int),vs=[.ref a,.int p]∧SqL K H a (r.map V.int)∧Rv.dJ r∧0≤p∧p<r.length∧r.length≤900∧TabsOk T H∧m7 T H (fun xs=>xs=(Rv.walk r p).map V.int) Q
theorem Nm {f:Addr} {fd:FuncData} {T:fC} (D:Df K mg "_law_way" fY ["below","start"] f fd):bR P w K mg base CX0 1 f fd ["below","start"] (vO K T):=by
  refine D.F.ok kJ (fun vs H Q E h=>?_) (fun cdv A outer s H vs Q E hr h=>?_)
  · obtain ⟨a,r,p,rfl,_⟩:=h;rfl
  · obtain ⟨a,r,p,rfl,hS,hR,p0,p1,hn,tk,q⟩:=h
    refine ⟨_,(aq (aR (i:=2) kJ.nd rfl (Or.inl rfl) (eZ au))
      (aq (aR (i:=3) kJ.nd rfl (Or.inl rfl) (pv 1))
      (aq (rT PassesOwn.never (aW oZ (pv 3) (mZ jH aA) (bx _))
        (aq (eN (mK PySem.F.plainAttrs_list PySem.F.slot_list_append PySem.F.type_list_append cC (pv 2) (ak (pv 3) au)))
        (aB (aR (i:=3) kJ.nd rfl (Or.inl rfl) (aL aG (pv 0) (pv 3) (fun _ _=>rfl))))))
      (aB (aZ (pv 2)))))),?_⟩
    refine V8 ?_
    intro zu0 zu1 zu2 zu3 zu4
    have O:=Ow.refl tk
    refine ⟨szl,fun lw hlw=>?_⟩
    walk_at "nw"
    refine ⟨_,rfl,?_⟩
    refine ⟨fun m σ H2=>∃ (pre:List Int) (z:Int),σ=[some (.ref a),some (.int p),some (.ref lw),some (.int z)]∧Ow T H H2 [(lw,.lst (pre.map V.int))]∧(z=-1∨(0≤z∧z<r.length))∧pre++Rv.walk r z=Rv.walk r p∧m=Rv.mea r z,
      ⟨_,[],p,rfl,O,.inr ⟨p0,p1⟩,rfl,rfl⟩,?_⟩
    rintro m σ H2 ⟨pre,z,rfl,O,hz,e,rfl⟩
    refine ⟨_,rfl,_,rfl,rfl,_,rfl,?_⟩
    rcases hz with rfl | ⟨z0,z1⟩
    · refine NQ rfl ?_
      rw [Rv.jm,List.append_nil] at e
      exact ⟨_,rfl,O.ret 0 rfl q (by rw [e])⟩
    · have hd:(!decide (V.int z=V.int (-1)))=true:=by
        have:¬ z=-1:=by omega
        simp [this]
      rw [hd]
      refine Cp ?_
      have hlen:pre.length + (Rv.walk r z).length≤r.length + 1:=by
        have:=Rv.rD r p
        rw [← e,List.length_append] at this;exact this
      refine ⟨fun σ' H'=>∃ m',m'<Rv.mea r z∧∃ (pre:List Int) (z:Int),σ'=[some (.ref a),some (.int p),some (.ref lw),some (.int z)]∧Ow T H H' [(lw,.lst (pre.map V.int))]∧(z=-1∨(0≤z∧z<r.length))∧pre++Rv.walk r z=Rv.walk r p∧m'=Rv.mea r z,fun _ _ x=>x,?_⟩
      have g:=Rv.jW z0 z1
      refine ⟨_,rfl,.inl ⟨rfl,_,O.sq 0⟩,_,rfl,lw,_,_,rfl,rfl,O.get 0,aP (by rw [List.length_map];omega),?_⟩
      walk_at "pt"
      refine ⟨_,rfl,_,rfl,a,_,_,_,rfl,rfl,O.same.seq hS,lC z0 g,?_⟩
      refine ⟨_,Rv.GK hR z0 z1,pre++[z],Rv.nxt r z,rfl,?_,hR.step z0 z1,?_,rfl⟩
      · rw [List.map_append];exact O
      · rw [List.append_assoc]
        show pre++(z :: Rv.walk r (Rv.nxt r z))=_
        rw [← Rv.dG hR z0 z1];exact e
abbrev cY:Stmt:=top 53
theorem fU:aX ["xs","roll","kind","order","ponds","k","pair","leak"] ["xs","roll","kind"] (ao cY):=⟨rfl,rfl,rfl,by decide +kernel,rfl,by decide +kernel,by decide +kernel⟩
structure qy (ls:List Lic) (ps:List (Int × Int × Int)):Prop where
  len:ps.length≤10
  nd:(ps.map (·.1)).Nodup
  rg:∀ p∈ps,0≤p.1∧p.1<(ls.length:Int)∧0≤p.2.1∧0≤p.2.2∧p.2.2≤1000
  bk:∀ p∈ps,∃ l,ls[p.1.toNat]?=some l∧l.back=-1
def Gm (K:PySem.W.Frag) (T:fC):Sp:=fun vs H Q _=>∃ (kd:Int) (x b:Addr) (ys:List Int) (rs:List V) (ls:List Lic),vs=[.ref x,.ref b,.int kd]∧SqL K H x (ys.map V.int)∧24 + ls.length≤ys.length∧SqL K H b rs∧bM K H rs (ls.map qI)∧ls.length≤60∧TabsOk T H ∧
  ∀ (l:Addr) (H1 H':Hp) (us:List V) (ps:List (Int × Int × Int)),bB T H H1→Ow T H1 H' [(l,.lst us)]→bM K H1 us (ps.map dMv)→qy ls ps→Q (.ref l) H'
theorem pw_snoc {qs:List (Int × Int)} {i:Nat} {x:Int} (h:(qs.map (·.2)).Pairwise (·<·)) (h2:∀ z∈qs,0≤z.2∧z.2<(i:Int)):((qs++[(x,(i:Int))]).map (·.2)).Pairwise (·<·):=by
  rw [List.map_append,List.pairwise_append]
  refine ⟨h,List.pairwise_singleton _ _,fun a ha b hb=>?_⟩
  obtain ⟨z,hz,rfl⟩:=List.mem_map.mp ha
  have:b=(i:Int):=by simpa using hb
  rw [this];exact (h2 z hz).2
theorem Wo {x:Int} {w:Int} (hx0:0≤x) (hx1:x≤1000) (hw0:0≤w) (hw1:w<5):∃ v:Int,atI [V.int 0,V.int 1,V.int 999,V.int 1000,V.int x] w=some (V.int v)∧0≤v∧v≤1000:=by
  rcases (by omega:w=0∨w=1∨w=2∨w=3∨w=4) with rfl | rfl | rfl | rfl | rfl
  · exact ⟨0,rfl,by decide,by decide⟩
  · exact ⟨1,rfl,by decide,by decide⟩
  · exact ⟨999,rfl,by decide,by decide⟩
  · exact ⟨1000,rfl,by decide,by decide⟩
  · exact ⟨x,rfl,hx0,hx1⟩
theorem Qs {f f1:Addr} {fd fd1:FuncData} (D:Df K mg "_law_ponds" cY ["xs","roll","kind"] f fd) (B:Blt mg) (aU:Df K mg "_law_amount" bV ["number","kind"] f1 fd1) (eV:bR P w K mg base CX0 1 f1 fd1 ["number","kind"] xR):bR P w K mg base CX0 2 f fd ["xs","roll","kind"] (Gm K T):=by
  refine D.F.ok fU (fun vs H Q E h=>?_) (fun cdv A outer s H vs Q E hr h=>?_)
  · obtain ⟨_,_,_,_,_,_,rfl,_⟩:=h;rfl
  · obtain ⟨kd,lx,b,ys,rs,ls,rfl,hX,hyl,hB,d0,hl60,tk,q⟩:=h
    have hrl:rs.length=ls.length:=by rw [d0.length,List.length_map]
    have O:=Ow.refl tk
    have s0:=O.same
    refine ⟨_,(aq (aR (i:=3) fU.nd rfl (Or.inl rfl) (aN uP rfl B.sorted PyProof.Rows.boot_sorted (ak (iC (ao cY) rfl ["xs","roll","kind","order","ponds","k","pair","leak"] rfl ["k","xs","roll"] [none,some 0,some 1] (by decide +kernel) (by decide +kernel) (by decide +kernel) rfl (cZ rfl B.range (ak (aN aM rfl B.len PySem.boot_len (ak (pv 1) au)) au)) (fun _ _ _=>(aF (i:=0) (show (["k","xs","roll"]:List Str).Nodup by decide +kernel) rfl (Or.inl rfl))) (fun _ _ _=>(kO (aW jZ (aL (lA (K:=K) rfl) (aL (bQ (K:=K) rfl) (pv 2) (pv 0) (fun _ _=>rfl)) aA (fun _ _=>rfl)) (mZ jH aA) (bx _)))) (fun _ _ _=>(jJ (ak (aL (bQ (K:=K) rfl) (pv 1) (aQ dz aA (pv 0)) (fun _ _=>rfl)) (ak (pv 0) au))))) au)))
      (aq (aR (i:=4) fU.nd rfl (Or.inl rfl) (eZ au))
      (aq (dH PassesOwn.never rfl (Bl rfl B.enumerate (ak (nF pN (pv 3) rW (kW (aQ bJ (aL aG (pv 0) aA (fun _ _=>rfl)) aA))) au)) (iB rfl (aH (aF (i:=5) fU.nd rfl (Or.inl rfl)) (aH (aF (i:=6) fU.nd rfl (Or.inl rfl)) cJ)))
        (aq (aR (i:=7) fU.nd rfl (Or.inl rfl) (aL aG (eZ (ak aA (ak aA (ak aA (ak aA (ak (aQ bJ (aQ fQ (aL aG (pv 0) (aQ dz (aQ jP aA (pv 5)) aA) (fun _ _=>rfl)) aA) aA) au)))))) (aQ bJ (aL aG (pv 0) (aQ dz (aQ jP aA (pv 5)) aA) (fun _ _=>rfl)) aA) (fun _ _=>rfl)))
        (aB (eN (mK PySem.F.plainAttrs_list PySem.F.slot_list_append PySem.F.type_list_append cC (pv 4) (ak (jJ (ak (aL cD (pv 6) aA (fun _ _=>rfl)) (ak (aK eV (hr.mono (by decide)) rfl aU.m aU.F.kp aU.b .nil bC (ak (aL aG (pv 0) (aQ jP aA (pv 5)) (fun _ _=>rfl)) (ak (pv 2) au))) (ak (pv 7) au)))) au))))))
      (aB (aZ (pv 4)))))),?_⟩
    refine V7 ?_
    intro zu0 zu1 zu2 zu3 zu4
    /- order -/
    refine ⟨_,rfl,b,_,rfl,.inl hB,(rs.length:Int),rfl,by omega,by omega,fun lo hlo=>?_⟩
    refine iK (fun i τ H'=>Iv (∃ (v0:Option V) (Hc:Hp) (us:List V) (qs:List (Int × Int)),τ=[v0,some (.ref lx),some (.ref b)]∧bB T H Hc∧bM K Hc us (qs.map dPr)∧(qs.map (·.2)).Pairwise (·<·)∧(∀ z∈qs,0≤z.2∧z.2<(i:Int))∧(∀ z∈qs,∃ l,ls[z.2.toNat]?=some l∧l.back=-1)∧qs.length≤i∧Ow T Hc H' [(lo,.lst us)]))
      ⟨trivial,none,H,[],[],rfl,bB.refl tk,.nil,List.Pairwise.nil,(fun z hz=>nomatch hz),(fun z hz=>nomatch hz),Nat.le_refl _,O.mk' hlo rfl⟩ ?_ ?_
    · rintro i τ H3 hi ⟨-,v0,Hc,us,qs,rfl,sc,d1,hpw,hrg,hbk,hql,O⟩
      rw [show (0:Int) + (i:Int)=(i:Int) by omega]
      have hi2:i<ls.length:=by rw [Int.toNat_natCast] at hi;omega
      obtain ⟨li,hli⟩:∃ li,ls[i]?=some li:=⟨_,List.getElem?_eq_getElem hi2⟩
      obtain ⟨al,hal,hT⟩:=d0.oV hli
      have hul:us.length=qs.length:=by rw [d1.length,List.length_map]
      have wk:∀ z∈qs,0≤z.2∧z.2<((i + 1:Nat):Int):=fun z hz=>by have:=hrg z hz;omega
      refine ⟨_,rfl,_,rfl,b,_,_,_,rfl,rfl,(sc.trans O.same).seq hB,cN hal,al,_,2,_,rfl,rfl,(hT.mo sc).mo O.same,rfl,_,rfl,rfl,_,rfl,ifI (fun hc=>?_) fun hc=>?_⟩
      · refine ⟨_,rfl,_,rfl,_,_,rfl,rfl,lx,_,_,_,rfl,rfl,(sc.trans O.same).seq hX,aV (by omega) (by omega),_,rfl,szl,fun t ht=>?_⟩
        walk_at "nw"
        refine ⟨_,O.get 1,aP (by omega),?_⟩
        walk_at "pt"
        obtain ⟨Hd,O,sd,en⟩:=O.frz
        refine ⟨trivial,_,Hd,us++[.ref t],qs++[(ys.getD (24 + (i:Int)).toNat 0,(i:Int))],rfl,sc.trans sd,?_,pw_snoc hpw hrg,fun z hz=>?_,fun z hz=>?_,by rw [List.length_append];simp;omega,O⟩
        · rw [List.map_append]
          exact (d1.mo sd).append (.cons (Den.tup (ns:=[ys.getD (24 + (i:Int)).toNat 0,(i:Int)]) (SqT.of en)) .nil)
        · rcases List.mem_append.mp hz with e | e
          · exact wk z e
          · have:z=(ys.getD (24 + (i:Int)).toNat 0,(i:Int)):=by simpa using e
            rw [this];exact ⟨by omega,by show (i:Int)<_;omega⟩
        · rcases List.mem_append.mp hz with e | e
          · exact hbk z e
          · have:z=(ys.getD (24 + (i:Int)).toNat 0,(i:Int)):=by simpa using e
            rw [this]
            exact ⟨li,hli,hc⟩
      · exact ⟨trivial,_,Hc,us,qs,rfl,sc,d1,hpw,wk,hbk,by omega,O⟩
    rintro τ H3 ⟨-,v0,Hc,us,qs,rfl,sc,d1,hpw,hrg,hbk,hql,O⟩
    rw [Int.toNat_natCast] at hrg hql
    have hnd:(qs.map (·.2)).Nodup:=hpw.imp fun h=>Int.ne_of_lt h
    refine ⟨lo,us,qs,rfl,O.sq 0,d1.mo O.same,by omega,fun z hz=>⟨(hrg z hz).1,by have:=(hrg z hz).2;omega⟩,hnd,fun lz pq hlz hperm=>?_⟩
    have hp2:=Bm (d:=((0,0):Int × Int)) hperm
    have d2:=d1.pick pq fun i hi=>List.mem_range.mp (hperm.mem_iff.mp hi)
    walk_at "nw"
    generalize (pq.map fun i=>us.getD i .non)=zs at O d2
    generalize (pq.map fun i=>qs.getD i ((0,0):Int × Int))=ps at d2 hp2
    have O:=O.two
    have hps:∀ z∈ps,(0≤z.2∧z.2<(rs.length:Int))∧∃ l,ls[z.2.toNat]?=some l∧l.back=-1:=fun z hz=>⟨hrg z (hp2.mem_iff.mp hz),hbk z (hp2.mem_iff.mp hz)⟩
    have hpn:(ps.map (·.2)).Nodup:=(hp2.map _).nodup_iff.mpr hnd
    clear hrg hnd hpw hbk
    refine ⟨szl,fun lp hlp=>?_⟩
    walk_at "nw"
    have hX2:=sc.seq hX
    have w0:=Int.emod_nonneg (ys.getD (20:Int).toNat 0) (show (11:Int)≠0 by decide)
    have w1:=Int.emod_lt_of_pos (ys.getD (20:Int).toNat 0) (show (0:Int)<11 by decide)
    refine ⟨_,rfl,_,rfl,lx,_,20,_,rfl,rfl,O.same.seq hX2,aV (by omega) (by omega),_,_,rfl,rfl,(by show (0:Int)<11;decide),_,rfl,lz,_,rfl,O.sq 1,fun l9 h9=>?_⟩
    walk_at "nw"
    generalize ys.getD (20:Int).toNat 0 % 11=w at O w0 w1
    obtain ⟨wn,rfl⟩:=Int.eq_ofNat_of_zero_le w0
    rw [CV] at O
    have dt:bM K Hc (zs.take wn) ((ps.take wn).map dPr):=by rw [List.map_take];exact d2.take wn
    have hpt:∀ z∈ps.take wn,(0≤z.2∧z.2<(rs.length:Int))∧∃ l,ls[z.2.toNat]?=some l∧l.back=-1:=fun z hz=>hps z (List.mem_of_mem_take hz)
    have hpm:((ps.take wn).map (·.2)).Nodup:=by rw [List.map_take];exact hpn.sublist (List.take_sublist _ _)
    have hptl:(ps.take wn).length≤10:=by rw [List.length_take];omega
    generalize zs.take wn=zt at O dt
    generalize ps.take wn=pt at dt hpt hpm hptl
    have hztl:zt.length=pt.length:=by rw [dt.length,List.length_map]
    refine ⟨l9,_,rfl,O.sq 0,?_⟩
    refine Ft (K:=K) (xs:=zt) (fun i σ H'=>Iv (∃ (v5 v6 v7:Option V) (Hd:Hp) (us:List V) (gs:List (Int × Int × Int)),σ=[some (.ref lx),some (.ref b),some (.int kd),some (.ref lz),some (.ref lp),v5,v6,v7]∧bB T Hc Hd∧bM K Hd us (gs.map dMv)∧gs.map (·.1)=(pt.take i).map (·.2)∧(∀ p∈gs,0≤p.1∧p.1<(rs.length:Int)∧0≤p.2.1∧0≤p.2.2∧p.2.2≤1000)∧(∀ p∈gs,∃ l,ls[p.1.toNat]?=some l∧l.back=-1) ∧
      Ow T Hd H' [(l9,.lst zt),(lp,.lst us),(lz,.lst zs)]))
      ⟨trivial,none,none,none,Hc,[],[],rfl,bB.refl O.same.t0,.nil,rfl,(fun p hp=>nomatch hp),(fun p hp=>nomatch hp),O⟩ (fun _ _ _ _ ⟨_,_,_,_,_,_,_,_,_,_,_,_,_,O⟩=>O.sq 0) ?_ ?_
    · rintro i y t' σ H4 hy ⟨-,v5,v6,v7,Hd,us,gs,rfl,sd,d4,hgs,hgr,hgb,O⟩ ht'
      obtain ⟨ap,z,rfl,hz,hT⟩:=dt.Gz hy
      have hi:=(List.getElem?_eq_some_iff.mp hz).1
      have hgl:gs.length≤i:=by have:=congrArg List.length hgs;rw [List.length_map,List.length_map,List.length_take] at this;omega
      have hul:us.length=gs.length:=by rw [d4.length,List.length_map]
      walk_at "nw"
      refine ⟨t',_,rfl,O.sqT 0,rfl,_,_,rfl,_,_,rfl,rfl,?_⟩
      have O:=O.tail
      have hX3:=sd.seq hX2
      have e0:=Int.emod_nonneg (ys.getD (2 * (i:Int) + 1).toNat 0) (show (5:Int)≠0 by decide)
      have e1:=Int.emod_lt_of_pos (ys.getD (2 * (i:Int) + 1).toNat 0) (show (0:Int)<5 by decide)
      have g0:=Int.emod_nonneg (ys.getD (2 * (i:Int) + 1).toNat 0 / 5) (show (1001:Int)≠0 by decide)
      have g1:=Int.emod_lt_of_pos (ys.getD (2 * (i:Int) + 1).toNat 0 / 5) (show (0:Int)<1001 by decide)
      obtain ⟨lk,hlk,k0,k1⟩:=Wo g0 (by omega) e0 e1
      refine ⟨_,rfl,_,rfl,_,_,rfl,rfl,.inl ⟨by decide,by decide⟩,_,_,rfl,rfl,lx,_,_,_,rfl,rfl,O.same.seq hX3,aV (by omega) (by omega),_,_,rfl,rfl,⟨by decide,by decide⟩,_,_,rfl,rfl,(by show (0:Int)<1001;decide),szl,fun l8 h8=>?_⟩
      walk_at "nw"
      refine ⟨_,rfl,_,rfl,_,_,rfl,rfl,.inl ⟨by decide,by decide⟩,_,_,rfl,rfl,lx,_,_,_,rfl,rfl,O.same.seq hX3,aV (by omega) (by omega),_,_,rfl,rfl,(by show (0:Int)<5;decide),l8,_,_,_,rfl,rfl,O.sq 0,hlk,?_⟩
      have O:=O.tail
      refine ⟨_,rfl,.inl ⟨rfl,_,O.sq 1⟩,_,rfl,ap,_,1,_,rfl,rfl,(hT.mo sd).mo O.same,rfl,_,rfl,_,rfl,_,_,rfl,rfl,.inl ⟨by decide,by decide⟩,lx,_,_,_,rfl,rfl,O.same.seq hX3,aV (by omega) (by omega),_,rfl,_,_,rfl,fun a a0 a1=>?_⟩
      refine ⟨_,rfl,szl,fun t ht=>?_⟩
      walk_at "nw"
      refine ⟨lp,_,_,rfl,rfl,O.get 2,aP (by omega),?_⟩
      walk_at "pt"
      obtain ⟨He,O,se,en⟩:=O.frz
      have hzr:=hpt z (List.mem_of_getElem? hz)
      refine ⟨trivial,_,_,_,He,us++[.ref t],gs++[(z.2,a,lk)],rfl,sd.trans se,?_,?_,fun p hp=>?_,fun p hp=>?_,O⟩
      · rw [List.map_append]
        exact (d4.mo se).append (.cons (Den.mv (m:=(z.2,a,lk)) (SqT.of en)) .nil)
      · rw [List.map_append,hgs,List.take_add_one,hz,List.map_append];rfl
      · rcases List.mem_append.mp hp with e | e
        · exact hgr p e
        · have:p=(z.2,a,lk):=by simpa using e
          rw [this]
          exact ⟨hzr.1.1,hzr.1.2,a0,k0,k1⟩
      · rcases List.mem_append.mp hp with e | e
        · exact hgb p e
        · have:p=(z.2,a,lk):=by simpa using e
          rw [this]
          exact hzr.2
    rintro σ H4 ⟨-,v5,v6,v7,Hd,us,gs,rfl,sd,d4,hgs,hgr,hgb,O⟩
    rw [hztl,List.take_of_length_le (Nat.le_refl _)] at hgs
    refine ⟨_,rfl,q lp Hd _ us gs (sc.trans sd) ((O.pull 1).two.two) d4 ⟨?_,by rw [hgs];exact hpm,by rw [← hrl];exact hgr,hgb⟩⟩
    have:=congrArg List.length hgs
    rw [List.length_map,List.length_map] at this
    omega
def uX (r:List Int) (ls:List Lic) (ps:List (Int × Int × Int)) (ks:List Int) (ms:List (Int × Int × Int)):Prop:=∀ (i:Nat) (m:Int × Int × Int),ms[i]?=some m→wM r ls ps (bN ks (ms.take i)) m
theorem uX.snoc {r:List Int} {ls:List Lic} {ps:List (Int × Int × Int)} {ks:List Int} {ms:List (Int × Int × Int)} {m:Int × Int × Int} (h:uX r ls ps ks ms) (hm:wM r ls ps (bN ks ms) m):uX r ls ps ks (ms++[m]):=fun i x hx=>by
  by_cases hi:i<ms.length
  · rw [List.getElem?_append_left hi] at hx
    rw [List.take_append_of_le_length (by omega)]
    exact h i x hx
  · have hl:=(List.getElem?_eq_some_iff.mp hx).1
    have e:i=ms.length:=by rw [List.length_append] at hl;simp at hl;omega
    subst e
    rw [List.getElem?_append_right (by omega),Nat.sub_self] at hx
    have:m=x:=Option.some.inj hx
    rw [← this,List.take_left']
    · exact hm
    · rfl
theorem Fx (ps:List (Int × Int × Int)):PyData.eqv (Vq ps) (.list [])=decide (ps=[]):=by
  cases ps with
  | nil=>rfl
  | cons p ps=>rfl
theorem xZ {ls:List Lic} {xs:List Int} (h:xs.length=ls.length):(Dw ls xs).length=ls.length:=by
  unfold Dw;rw [List.length_map,List.length_zip];omega
theorem Et (r:List Int) (as bs:List Rv.Mv) (i:Int):Rv.lJ r (as++bs) i=Rv.lJ r as i + Rv.lJ r bs i:=by
  unfold Rv.lJ;rw [List.map_append,List.sum_append]
theorem jM (n:Nat) (f:Nat→Int):((List.range n).map f).sum=Tn.iV n f:=by
  induction n with
  | zero=>rfl
  | succ n ih=>rw [List.range_succ,List.map_append,List.sum_append,ih];simp [Tn.iV]
theorem zf {r:List Int} {ls:List Lic} {xs:List Int} (h:xs.length=ls.length) (i:Int):Rv.lJ r (Dw ls xs) i=Tn.hold ls.length (yK r ls) (Tn.fX xs) i:=by
  unfold Rv.lJ Tn.hold
  rw [← jM]
  congr 1
  refine List.ext_getElem? fun k=>?_
  by_cases hk:k<ls.length
  · have hl:ls[k]?=some ls[k]:=List.getElem?_eq_getElem hk
    have hx:xs[k]?=some (xs.getD k 0):=bh (by omega)
    have e:(ls.zip xs)[k]?=some (ls[k],xs.getD k 0):=by rw [List.getElem?_zip_eq_some];exact ⟨hl,hx⟩
    unfold Dw
    rw [List.getElem?_map,List.getElem?_map,e,List.getElem?_map,List.getElem?_range hk]
    show some (if i∈Rv.dB r ls[k].start ls[k].back then xs.getD k 0 else 0)=some (if i∈yK r ls k then Tn.fX xs k else 0)
    rw [vG hl];rfl
  · rw [List.getElem?_eq_none (by rw [List.length_map,xZ h];omega),List.getElem?_eq_none (by rw [List.length_map,List.length_range];omega)]
theorem uI {r:List Int} {ls:List Lic} {ps ms:List (Int × Int × Int)} (h:∀ m∈ms,0≤m.2.2) (i:Int):Rv.lJ r (ms.map (m5 ls ps)) i≤0:=by
  induction ms with
  | nil=>exact Int.le_refl _
  | cons m ms ih =>
    have h1:=ih fun x hx=>h x (List.mem_cons_of_mem _ hx)
    have h2:=h m List.mem_cons_self
    unfold Rv.lJ at h1 ⊢
    rw [List.map_cons,List.map_cons,List.sum_cons]
    have:(if i∈Rv.dB r (m5 ls ps m).1 (m5 ls ps m).2.1 then (m5 ls ps m).2.2 else 0)≤0:=by
      split
      · show -m.2.2≤0;omega
      · exact Int.le_refl _
    omega
theorem jK {n:Nat} {W:Nat→List Int} {x:Nat→Int} {z:Int} (h:¬ ∃ k,k<n∧z∈W k):Tn.hold n W x z=0:=by
  unfold Tn.hold
  rw [Tn.bD (g:=fun _=>0) fun k hk=>if_neg fun hm=>h ⟨k,hk,hm⟩]
  induction n with
  | zero=>rfl
  | succ n ih =>
    have:=ih fun ⟨k,hk,hm⟩=>h ⟨k,by omega,hm⟩
    show Tn.iV n _ + 0=0
    omega
theorem N5 {r s:List Int} {ls:List Lic} {ps ms:List (Int × Int × Int)} {cs xs:List Int} (hs:∀ x∈s,0≤x) (D:tH r s ls cs xs) (hm:∀ m∈ms,0≤m.2.2):∀ x∈Rv.tL r s (mL ls ps xs ms),0≤x:=fun x hx=>by
  unfold Rv.tL at hx
  obtain ⟨i,hi,rfl⟩:=List.mem_map.mp hx
  have hi:=List.mem_range.mp hi
  unfold mL
  rw [Et,zf D.len]
  have h1:=uI (r:=r) (ls:=ls) (ps:=ps) hm (i:Int)
  by_cases hw:∃ k,k<ls.length∧(i:Int)∈yK r ls k
  · have h2:=D.fit.fits (i:Int) hw
    rw [Rv.N6 (by omega) (by omega)] at h2
    omega
  · rw [jK hw]
    have:=BK (r:=r) hs (i:Int)
    omega
theorem Nf (r fl:List Int):Ou r fl=Rv.O1 r (fun k=>fl.getD k 0) r.length:=by
  have key:∀ n,((Rv.vB r n).map fun i=>fl.getD i.toNat 0).sum=Rv.O1 r (fun k=>fl.getD k 0) n:=fun n=>by
    induction n with
    | zero=>rfl
    | succ n ih =>
      rw [Rv.lU,List.map_append,List.sum_append,ih]
      by_cases h:Rv.nxt r (n:Int)=-1
      · rw [if_pos h,Rv.O1.Nx r _ h];simp
      · rw [if_neg h,Rv.O1.turn r _ h];simp
  exact key r.length
theorem Ge {r:List Int} {F G:Nat→Int} {n:Nat} (h:∀ k,k<n→F k=G k):Rv.O1 r F n=Rv.O1 r G n:=Rv.cO fun k hk=>by rw [h k hk]
theorem Ac (as bs:List Rv.Mv) (z:Int):Rv.stops (as++bs) z=Rv.stops as z + Rv.stops bs z:=by
  unfold Rv.stops;rw [List.map_append,List.sum_append]
theorem M6 {ls:List Lic} {xs:List Int} (h:xs.length=ls.length):Rv.stops (Dw ls xs) (-1)=Tn.iV ls.length fun j=>if (ls[j]?.map Lic.back).getD 0=-1 then xs.getD j 0 else 0:=by
  unfold Rv.stops
  rw [← jM]
  congr 1
  refine List.ext_getElem? fun k=>?_
  by_cases hk:k<ls.length
  · have hl:ls[k]?=some ls[k]:=List.getElem?_eq_getElem hk
    have hx:xs[k]?=some (xs.getD k 0):=bh (by omega)
    have e:(ls.zip xs)[k]?=some (ls[k],xs.getD k 0):=by rw [List.getElem?_zip_eq_some];exact ⟨hl,hx⟩
    unfold Dw
    rw [List.getElem?_map,List.getElem?_map,e,List.getElem?_map,List.getElem?_range hk]
    show some (if ls[k].back=-1 then xs.getD k 0 else 0)=some (if (ls[k]?.map Lic.back).getD 0=-1 then xs.getD k 0 else 0)
    rw [hl];rfl
  · rw [List.getElem?_eq_none (by rw [List.length_map,xZ h];omega),List.getElem?_eq_none (by rw [List.length_map,List.length_range];omega)]
theorem Ad (ls:List Lic) (ps:List (Int × Int × Int)):∀ ms:List (Int × Int × Int),Rv.stops (ms.map (m5 ls ps)) (-1)=(zG ms).sum - (ms.map fun m=>m.2.2).sum
  | []=>rfl
  | m :: ms=>by
    have ih:=Ad ls ps ms
    unfold Rv.stops at ih ⊢
    rw [List.map_cons,List.map_cons,List.sum_cons,ih,List.map_cons,List.sum_cons]
    unfold zG
    by_cases e:m.2.1=-1
    · rw [List.filter_cons_of_neg (by simp [e])]
      show (if (m5 ls ps m).2.1=-1 then (m5 ls ps m).2.2 else 0) + _=_
      rw [if_pos (show (m5 ls ps m).2.1=-1 from e)]
      show -m.2.2 + _=_
      omega
    · rw [List.filter_cons_of_pos (by simp [e]),List.map_cons,List.sum_cons]
      show (if (m5 ls ps m).2.1=-1 then (m5 ls ps m).2.2 else 0) + _=_
      rw [if_neg (show ¬ (m5 ls ps m).2.1=-1 from e)]
      omega
theorem zQ {ls:List Lic} {xs:List Int}:∀ {ps:List (Int × Int × Int)},(ps.map (·.1)).Nodup→(∀ p∈ps,0≤p.1∧p.1<(ls.length:Int))→(∀ p∈ps,∃ l,ls[p.1.toNat]?=some l∧l.back=-1) →
    (Tn.iV ls.length fun j=>if (ls[j]?.map Lic.back).getD 0=-1 then xs.getD j 0 else 0)=(Tn.iV ls.length fun j=>if (ls[j]?.map Lic.back).getD 0=-1∧¬ (j:Int)∈ps.map (·.1) then xs.getD j 0 else 0) + (ps.map fun p=>xs.getD p.1.toNat 0).sum
  | [],_,_,_=>by
    rw [List.map_nil,List.map_nil,List.sum_nil,Int.add_zero]
    refine Tn.bD fun k _=>?_
    simp
  | p :: ps,nd,rg,bk=>by
    rw [List.map_cons,List.nodup_cons] at nd
    have ih:=zQ (xs:=xs) nd.2 (fun q hq=>rg q (List.mem_cons_of_mem _ hq)) (fun q hq=>bk q (List.mem_cons_of_mem _ hq))
    obtain ⟨p0,p1⟩:=rg p List.mem_cons_self
    obtain ⟨l,hl,hb⟩:=bk p List.mem_cons_self
    have e1:=Tn.mF (i:=p.1.toNat) (xs.getD p.1.toNat 0) (n:=ls.length) (by omega)
    rw [ih,List.map_cons,List.map_cons,List.sum_cons,← Int.add_assoc]
    congr 1
    rw [← e1,← Tn.jN]
    refine Tn.bD fun k hk=>?_
    by_cases hkp:k=p.1.toNat
    · have hin:(k:Int)=p.1:=by omega
      rw [if_pos hkp,if_pos ⟨by rw [hkp,hl];exact hb,by rw [hin];exact nd.1⟩,if_neg fun z=>z.2 (by rw [hin];exact List.mem_cons_self),← hkp]
      omega
    · have hne:¬ (k:Int)=p.1:=by omega
      rw [if_neg hkp,Int.add_zero]
      by_cases hc:(ls[k]?.map Lic.back).getD 0=-1∧¬ (k:Int)∈ps.map (·.1)
      · rw [if_pos hc,if_pos ⟨hc.1,fun z=>(List.mem_cons.mp z).elim hne hc.2⟩]
      · rw [if_neg hc,if_neg fun z=>hc ⟨z.1,fun y=>z.2 (List.mem_cons_of_mem _ y)⟩]
theorem qK (ls:List Lic) (ps:List (Int × Int × Int)) (xs:List Int):∀ n,((tK ls ps n).map fun j=>xs.getD j 0).sum=Tn.iV n fun j=>if (ls[j]?.map Lic.back).getD 0=-1∧¬ (j:Int)∈ps.map (·.1) then xs.getD j 0 else 0
  | 0=>rfl
  | n + 1=>by
    rw [rE,List.map_append,List.sum_append,qK ls ps xs n]
    show _=Tn.iV n _ + _
    congr 1
    dsimp only
    by_cases hc:(ls[n]?.map Lic.back).getD 0=-1∧¬ (n:Int)∈ps.map (·.1)
    · rw [if_pos hc,if_pos (by simp only [decide_eq_true hc.1,decide_eq_false hc.2];rfl)];simp
    · rw [if_neg hc,if_neg fun z=>hc ⟨by simp at z;exact z.1,by simp at z;simpa using z.2⟩];rfl
theorem uL:∀ (ms:List (Int × Int × Int)) (ks:List Int),(∀ m∈ms,m.1.toNat<ks.length)→(bN ks ms).sum=ks.sum - (ms.map fun m=>m.2.2).sum
  | [],ks,_=>by show ks.sum=ks.sum - 0;omega
  | m :: ms,ks,h=>by
    have hm:=h m List.mem_cons_self
    have ih:=uL ms (o7 ks m) fun x hx=>by
      unfold o7;rw [List.length_set];exact h x (List.mem_cons_of_mem _ hx)
    show (bN (o7 ks m) ms).sum=_
    rw [ih,List.map_cons,List.sum_cons]
    have e:(o7 ks m).sum=ks.sum - m.2.2:=by
      unfold o7
      have key:∀ (l:List Int) (i:Nat) (v:Int),i<l.length→(l.set i v).sum=l.sum - l.getD i 0 + v:=fun l=>by
        induction l with
        | nil=>intro i v hi;simp at hi
        | cons a l ihl =>
          intro i v hi
          cases i with
          | zero=>simp;omega
          | succ i =>
            have:=ihl i v (by simpa using hi)
            rw [List.set_cons_succ,List.sum_cons,List.sum_cons,this]
            simp;omega
      rw [key ks _ _ hm];omega
    omega
theorem Og (ps:List (Int × Int × Int)) (ks xs:List Int) (h:ks.length=ps.length):(qw ps ks xs).sum + (Ey ps ks xs).sum=ks.sum + (ps.map fun p=>xs.getD p.1.toNat 0).sum:=by
  unfold qw Ey
  rw [jM,jM,← Tn.jN,Tn.bD (g:=fun i=>ks.getD i 0 + xs.getD (ps.getD i (0,0,0)).1.toNat 0) fun k _=>(by unfold nM;omega),Tn.jN]
  congr 1
  · rw [← Rv.rJ,← h,Rv.vI]
  · have e:=Rv.vI (ps.map fun p=>xs.getD p.1.toNat 0)
    rw [List.length_map] at e
    rw [← e,Rv.rJ]
    refine Tn.bD fun k hk=>?_
    rw [List.getD_eq_getElem?_getD (l:=ps.map _),List.getElem?_map,List.getElem?_eq_getElem hk,getD_some (List.getElem?_eq_getElem hk)];rfl
theorem DOk.balance {r s:List Int} {ls:List Lic} {ps ms:List (Int × Int × Int)} {ks cs xs:List Int} (h:DOk r s ls ps ms ks cs) (PO:qy ls ps) (hx:xs.length=ls.length) :
    s.sum + ks.sum=rF ls ps xs ms + (qw ps (bN ks ms) xs).sum + (Ey ps (bN ks ms) xs).sum + Ou r (Rv.tL r s (mL ls ps xs ms)):=by
  have e1:=Rv.Ej h.riv h.sl (ms:=mL ls ps xs ms) h.moves
  rw [List.take_length] at e1
  have e2:Ou r (Rv.tL r s (mL ls ps xs ms))=Rv.O1 r (fun k=>Rv.lN r s (k:Int) - Rv.lJ r (mL ls ps xs ms) (k:Int)) r.length:=by
    rw [Nf]
    exact Ge fun k hk=>(Rv.sV r s (mL ls ps xs ms)).getD hk
  have e3:Rv.stops (mL ls ps xs ms) (-1)=Rv.stops (Dw ls xs) (-1) + Rv.stops (ms.map (m5 ls ps)) (-1):=Ac _ _ _
  have e4:=zQ (xs:=xs) PO.nd (fun p hp=>⟨(PO.rg p hp).1,(PO.rg p hp).2.1⟩) PO.bk
  rw [M6 hx,e4,← qK,Ad] at e3
  have e5:=Og ps (bN ks ms) xs (by rw [j4];exact h.kl)
  have e6:=uL ms ks fun m hm=>by
    obtain ⟨i,hi⟩:=List.getElem?_of_mem hm
    obtain ⟨p,l,hp,_⟩:=(h.good i m hi).pd
    have:=(List.getElem?_eq_some_iff.mp hp).1
    have:=h.kl
    omega
  unfold rF
  omega
theorem pI {s:List Int} (h:∀ x∈s,0≤x):0≤s.sum:=by
  induction s with
  | nil=>exact Int.le_refl _
  | cons a s ih =>
    rw [List.sum_cons]
    have:=h a List.mem_cons_self
    have:=ih fun x hx=>h x (List.mem_cons_of_mem _ hx)
    omega
theorem QL {f k:Int} (hf:0≤f) (k0:0≤k) (k1:k≤1000):0≤f * k / 1000∧f * k / 1000≤f:=by
  have h:=Int.mul_le_mul_of_nonneg_left k1 hf
  have h0:=Int.mul_nonneg hf k0
  generalize f * k=m at h h0
  omega
theorem yC {r s:List Int} {ls:List Lic} {cs xs:List Int} (D:tH r s ls cs xs):∀ x∈xs,0≤x:=fun x hx=>by
  obtain ⟨i,hi⟩:=List.getElem?_of_mem hx
  have hl:=(List.getElem?_eq_some_iff.mp hi).1
  have h:=D.fit.nn i (by rw [← D.len];exact hl)
  unfold Tn.fX at h
  rw [getD_some hi] at h
  exact h
theorem Oi {ps:List (Int × Int × Int)} {ks xs:List Int} (hp:∀ p∈ps,0≤p.2.2∧p.2.2≤1000) (hk:∀ x∈ks,0≤x) (hx:∀ x∈xs,0≤x) {i:Nat} (hi:i<ps.length):0≤jV ps ks xs i∧jV ps ks xs i≤nM ps ks xs i:=by
  have e:ps[i]?=some ps[i]:=List.getElem?_eq_getElem hi
  obtain ⟨k0,k1⟩:=hp _ (List.getElem_mem hi)
  have hf:0≤nM ps ks xs i:=Int.add_nonneg (qg hk i) (qg hx _)
  unfold jV
  rw [getD_some e]
  exact QL hf k0 k1
theorem Vh {ps:List (Int × Int × Int)} {ks xs:List Int} (hp:∀ p∈ps,0≤p.2.2∧p.2.2≤1000) (hk:∀ x∈ks,0≤x) (hx:∀ x∈xs,0≤x):∀ x∈qw ps ks xs,0≤x:=fun x h=>by
  obtain ⟨i,hi,rfl⟩:=List.mem_map.mp h
  have:=Oi hp hk hx (List.mem_range.mp hi)
  omega
theorem QM {ps:List (Int × Int × Int)} {ks xs:List Int} (hp:∀ p∈ps,0≤p.2.2∧p.2.2≤1000) (hk:∀ x∈ks,0≤x) (hx:∀ x∈xs,0≤x):∀ x∈Ey ps ks xs,0≤x:=fun x h=>by
  obtain ⟨i,hi,rfl⟩:=List.mem_map.mp h
  exact (Oi hp hk hx (List.mem_range.mp hi)).1
theorem MK {ls:List Lic} {ps ms:List (Int × Int × Int)} {xs:List Int} (hx:∀ x∈xs,0≤x) (hm:∀ m∈ms,0≤m.2.2):0≤rF ls ps xs ms:=by
  refine Int.add_nonneg (pI fun x h=>?_) (pI fun x h=>?_)
  · obtain ⟨i,_,rfl⟩:=List.mem_map.mp h
    exact qg hx i
  · obtain ⟨m,h1,rfl⟩:=List.mem_map.mp h
    exact hm m (List.mem_filter.mp h1).1
theorem Qf {r fl:List Int} (h:∀ x∈fl,0≤x):0≤Ou r fl:=pI fun x hx=>by
  obtain ⟨i,_,rfl⟩:=List.mem_map.mp hx
  exact qg h _
theorem Qd {w:Int} (h0:0≤w) (h1:w<4):∃ s:Int,atI [V.int 1,V.int 13,V.int 17,V.int 19] w=some (V.int s)∧(s=1∨s=13∨s=17∨s=19):=by
  rcases (by omega:w=0∨w=1∨w=2∨w=3) with rfl | rfl | rfl | rfl
  · exact ⟨1,rfl,.inl rfl⟩
  · exact ⟨13,rfl,.inr (.inl rfl)⟩
  · exact ⟨17,rfl,.inr (.inr (.inl rfl))⟩
  · exact ⟨19,rfl,.inr (.inr (.inr rfl))⟩
def Vr (up:List Int):Prop:=∀ (j:Nat) (u:Int),up[j]?=some u→u=-1∨(0≤u∧u<(j:Int))
theorem MN {up:List Int} {i:Nat} {z:Int} (hl:up.length=i) (h:Vr up) (hz:z=-1∨(0≤z∧z<(i:Int))):Vr (up++[z]):=fun j u hu=>by
  by_cases hj:j<up.length
  · rw [List.getElem?_append_left hj] at hu;exact h j u hu
  · rw [List.getElem?_append_right (by omega)] at hu
    have e:j=i:=by
      have:=(List.getElem?_eq_some_iff.mp hu).1
      simp at this;omega
    subst e
    rw [hl,Nat.sub_self] at hu
    have:z=u:=Option.some.inj hu
    rw [← this];exact hz
abbrev cW:Stmt:=top 47
theorem cG:aX ["cell","xs","size","up","k","step","places","below"] ["cell"] (ao cW):=⟨rfl,rfl,rfl,by decide +kernel,rfl,by decide +kernel,by decide +kernel⟩
def xK (T:fC):Sp:=fun vs H Q _=>∃ (c:Int),vs=[.int c]∧TabsOk T H∧m7 T H (fun xs=>∃ r,xs=r.map V.int∧Rv.dJ r∧1≤r.length∧r.length≤12) Q
theorem Em {f f1:Addr} {fd fd1:FuncData} (D:Df K mg "_law_river" cW ["cell"] f fd) (B:Blt mg)
    (aJ:Df K mg "_law_draws" bW ["cell","many"] f1 fd1) (cg:bR P w K mg base CX0 1 f1 fd1 ["cell","many"] (uq T)):bR P w K mg base CX0 2 f fd ["cell"] (xK T):=by
  refine D.F.ok cG (fun vs H Q E h=>?_) (fun cdv A outer s H vs Q E hr h=>?_)
  · obtain ⟨_,rfl,_⟩:=h;rfl
  · obtain ⟨c,rfl,tk,q⟩:=h
    change ∃ t,PSs _ (_ :: _) t∧_
    refine ⟨_,(aq (aR (i:=1) cG.nd rfl (Or.inr rfl) (aK cg (hr.mono (by decide)) rfl aJ.m aJ.F.kp aJ.b .nil bC (ak (pv 0) (ak aA au))))
      (aq (aR (i:=2) cG.nd rfl (Or.inr rfl) (aQ dz aA (aQ bJ (aL aG (pv 1) aA (fun _ _=>rfl)) aA)))
      (aq (aR (i:=3) cG.nd rfl (Or.inl rfl) (eZ au))
      (aq (dH PassesOwn.never rfl (cZ rfl B.range (ak (pv 2) au)) (aF (i:=4) cG.nd rfl (Or.inl rfl))
        (aB (gZ (PW.pt (pw_or (aW jZ (pv 4) aA (bx _)) (pw_or1 (aW jZ (aQ bJ (aL aG (pv 1) (aQ dz aA (pv 4)) (fun _ _=>rfl)) aA) aA (bx _)))))
          (aB (eN (mK PySem.F.plainAttrs_list PySem.F.slot_list_append PySem.F.type_list_append cC (pv 3) (ak (mZ jH aA) au))))
          (aB (gZ (aW Bs (aQ bJ (aL aG (pv 1) (aQ dz aA (pv 4)) (fun _ _=>rfl)) aA) aA (bx _))
            (aB (eN (mK PySem.F.plainAttrs_list PySem.F.slot_list_append PySem.F.type_list_append cC (pv 3) (ak (aQ lH (pv 4) aA) au))))
            (aB (eN (mK PySem.F.plainAttrs_list PySem.F.slot_list_append PySem.F.type_list_append cC (pv 3) (ak (aQ bJ (aQ fQ (aL aG (pv 1) (aQ dz aA (pv 4)) (fun _ _=>rfl)) aA) (pv 4)) au)))))))))
      (aq (aR (i:=5) cG.nd rfl (Or.inr rfl) (aL aG (eZ (ak aA (ak aA (ak aA (ak aA au))))) (aQ bJ (aL aG (pv 1) aA (fun _ _=>rfl)) aA) (fun _ _=>rfl)))
      (aq (fZ (i:=6) (ao cW) rfl ["cell","xs","size","up","k","step","places","below"] rfl ["k","size","step","xs"] [none,some 2,some 5,some 1] (by decide +kernel) (by decide +kernel) (by decide +kernel) rfl cG.nd rfl rfl (cZ rfl B.range (ak (pv 2) au)) (fun _ _ _=>(aF (i:=0) (show (["k","size","step","xs"]:List Str).Nodup by decide +kernel) rfl (Or.inl rfl))) (fun _ _ _=>iz) (fun _ _ _=>(aQ bJ (aQ dz (aQ jP (pv 2) (pv 0)) (aQ fQ (aL (bQ (K:=K) rfl) (pv 3) aA (fun _ _=>rfl)) aA)) (pv 1))) rfl)
      (aq (aR (i:=7) cG.nd rfl (Or.inl rfl) (aQ xW (eZ (ak (mZ jH aA) au)) (pv 2)))
      (aq (dH PassesOwn.never rfl (cZ rfl B.range (ak (pv 2) au)) (aF (i:=4) cG.nd rfl (Or.inl rfl))
        (aB (gZ (aW Qi (aL aG (pv 3) (pv 4) (fun _ _=>rfl)) aA (bx _))
          (aB (iD (aL aG (pv 6) (aL aG (pv 3) (pv 4) (fun _ _=>rfl)) (fun _ _=>rfl)) (pX (pv 7) (aL aG (pv 6) (pv 4) (fun _ _=>rfl)) set_list)))
          bY)))
      (aB (aZ (pv 7))))))))))),?_⟩
    refine V6 ?_
    intro zu0 zu1 zu2 zu3 zu4 zu5 zu6 zu7 zu8 zu9 zu10 zu11 zu12 zu13 zu14
    have O:=Ow.refl tk
    have s0:=O.same
    refine ⟨_,rfl,_,14,rfl,by decide,by decide,tk,O.qF fun lx H1 xs O e=>?_⟩
    obtain ⟨ys,rfl,hyl,hyb⟩:=e
    have hyl:ys.length=14:=hyl
    have yn:∀ k,0≤ys.getD k 0:=fun k=>by
      by_cases hk:k<ys.length
      · exact (hyb _ (getD_mem' hk)).1
      · rw [List.getD_eq_getElem?_getD,List.getElem?_eq_none (by omega)];exact Int.le_refl _
    clear hyb
    refine ⟨_,rfl,lx,_,0,_,rfl,rfl,O.sq 0,aV (by omega) (by omega),_,_,rfl,rfl,(by show (0:Int)<12;decide),_,_,rfl,rfl,?_⟩
    dsimp only
    obtain ⟨n,hn⟩:∃ n:Nat,1 + ys.getD (0:Int).toNat 0 % 12=(n:Int):=⟨_,(Int.toNat_of_nonneg (by omega)).symm⟩
    have n1:1≤n:=by omega
    have n40:n≤12:=by omega
    rw [hn]
    clear hn
    refine ⟨szl,fun lu hlu=>?_⟩
    walk_at "nw"
    refine ⟨_,rfl,(n:Int),rfl,by omega,by omega,?_⟩
    rw [Int.toNat_natCast]
    refine jL (n:=n) (fun i σ H'=>Iv (∃ (v4:Option V) (up:List Int),σ=[some (.int c),some (.ref lx),some (.int (n:Int)),some (.ref lu),v4,none,none,none]∧up.length=i∧Vr up∧Ow T H H' [(lu,.lst (up.map V.int)),(lx,.lst (ys.map V.int))]))
      ⟨trivial,none,[],rfl,rfl,(fun j u h=>by simp at h),O⟩ ?_ ?_
    · rintro i σ H3 hi ⟨-,v4,up,rfl,hul,hup,O⟩
      rw [show (0:Int) + (i:Int)=(i:Int) by omega]
      have yi:=yn (2 + (i:Int)).toNat
      have mm:(i:Int)≠0→0≤ys.getD (2 + (i:Int)).toNat 0 / 8 % (i:Int)∧ys.getD (2 + (i:Int)).toNat 0 / 8 % (i:Int)<(i:Int):=fun h=>⟨Int.emod_nonneg _ h,Int.emod_lt_of_pos _ (by omega)⟩
      have fin:∀ (z:Int) (H':Hp),(z=-1∨(0≤z∧z<(i:Int)))→Ow T H H' [(lu,.lst (up.map V.int++[.int z])),(lx,.lst (ys.map V.int))]→Iv (∃ (v4:Option V) (up:List Int),[some (.int c),some (.ref lx),some (.int (n:Int)),some (.ref lu),some (.int (i:Int)),none,none,none]=[some (.int c),some (.ref lx),some (.int (n:Int)),some (.ref lu),v4,none,none,none]∧up.length=i + 1∧Vr up∧Ow T H H' [(lu,.lst (up.map V.int)),(lx,.lst (ys.map V.int))]):=fun z H' hz O=>by
        rw [nG] at O
        exact ⟨trivial,_,up++[z],rfl,by rw [List.length_append,hul];rfl,MN hul hup hz,O⟩
      refine ⟨_,rfl,rfl,_,rfl,ifI (fun h0=>Cp ?_) fun h0=>?_⟩
      · refine ⟨_,rfl,.inl ⟨rfl,_,O.sq 0⟩,_,rfl,lu,_,_,rfl,rfl,O.get 0,aP (by rw [List.length_map];omega),?_⟩
        walk_at "pt"
        exact fin (-1) _ (.inl rfl) O
      obtain ⟨m0,m1⟩:=mm h0
      refine ⟨_,rfl,_,rfl,_,_,rfl,rfl,lx,_,_,_,rfl,rfl,O.sq 1,aV (by omega) (by omega),_,_,rfl,rfl,(by show (0:Int)<8;decide),rfl,_,rfl,ifI (fun h1=>?_) fun h1=>?_⟩
      · refine ⟨_,rfl,.inl ⟨rfl,_,O.sq 0⟩,_,rfl,lu,_,_,rfl,rfl,O.get 0,aP (by rw [List.length_map];omega),?_⟩
        walk_at "pt"
        exact fin (-1) _ (.inl rfl) O
      refine ⟨_,rfl,_,rfl,_,_,rfl,rfl,lx,_,_,_,rfl,rfl,O.sq 1,aV (by omega) (by omega),_,_,rfl,rfl,(by show (0:Int)<8;decide),_,_,rfl,rfl,_,rfl,ifD (fun h2=>?_) fun h2=>?_⟩
      · refine ⟨_,rfl,.inl ⟨rfl,_,O.sq 0⟩,_,rfl,_,_,rfl,rfl,lu,_,_,rfl,rfl,O.get 0,aP (by rw [List.length_map];omega),?_⟩
        walk_at "pt"
        exact fin ((i:Int) - 1) _ (.inr ⟨by omega,by omega⟩) O
      · refine ⟨_,rfl,.inl ⟨rfl,_,O.sq 0⟩,_,rfl,_,rfl,_,_,rfl,rfl,lx,_,_,_,rfl,rfl,O.sq 1,aV (by omega) (by omega),_,_,rfl,rfl,⟨by decide,by decide⟩,_,rfl,_,_,rfl,rfl,(by show (0:Int)<(i:Int);omega),lu,_,_,rfl,rfl,O.get 0,aP (by rw [List.length_map];omega),?_⟩
        walk_at "pt"
        exact fin _ _ (.inr ⟨m0,m1⟩) O
    rintro σ H3 ⟨-,v4,up,rfl,hul,hup,O⟩
    obtain ⟨st,hv,hst⟩:=Qd (w:=ys.getD (1:Int).toNat 0 % 4) (Int.emod_nonneg _ (by decide)) (Int.emod_lt_of_pos _ (by decide))
    refine ⟨szl,fun l1 h1=>?_⟩
    walk_at "nw"
    refine ⟨_,rfl,lx,_,1,_,rfl,rfl,O.sq 2,aV (by omega) (by omega),_,_,rfl,rfl,(by show (0:Int)<4;decide),l1,_,_,_,rfl,rfl,O.sq 0,hv,?_⟩
    have O:=O.tail
    have nn:(0:Int)<(n:Int):=by omega
    refine ⟨_,rfl,(n:Int),rfl,by omega,by omega,fun lp hlp=>?_⟩
    refine iK (fun i τ H'=>Iv (∃ (v0:Option V),τ=[v0,some (.int (n:Int)),some (.int st),some (.ref lx)]∧Ow T H H' [(lp,.lst ((Rv.ni n st (ys.getD (1:Int).toNat 0 / 4) i).map V.int)),(lu,.lst (up.map V.int)),(lx,.lst (ys.map V.int))])) ⟨trivial,none,rfl,O.mk' hlp rfl⟩ ?_ ?_
    · rintro i τ H4 hi ⟨-,v0,rfl,O⟩
      rw [show (0:Int) + (i:Int)=(i:Int) by omega]
      refine zF ?_
      refine ⟨_,rfl,_,rfl,_,_,rfl,rfl,.inl ⟨by omega,by omega⟩,_,rfl,lx,_,1,_,rfl,rfl,O.sq 2,aV (by omega) (by omega),_,_,rfl,rfl,⟨by decide,by decide⟩,_,_,rfl,rfl,_,rfl,_,_,rfl,rfl,nn,?_⟩
      refine ⟨_,O.get 0,aP (by rw [List.length_map,Rv.yW];omega),?_⟩
      walk_at "pt"
      refine ⟨trivial,_,rfl,?_⟩
      rw [Rv.vN,List.map_append];exact O
    rintro τ H4 ⟨-,v0,rfl,O⟩
    rw [Int.toNat_natCast] at O
    generalize ys.getD (1:Int).toNat 0 / 4=x1 at O
    refine ⟨_,rfl,szl,fun l2 h2=>?_⟩
    walk_at "nw"
    refine ⟨_,rfl,l2,_,_,rfl,rfl,O.get 0,by omega,by omega,kE (by rw [Int.toNat_natCast];simp;omega),fun lb hlb=>?_⟩
    walk_at "nw"
    rw [Int.toNat_natCast,nA] at O
    have O:=O.two
    refine ⟨_,rfl,(n:Int),rfl,by omega,by omega,?_⟩
    rw [Int.toNat_natCast]
    refine jL (n:=n) (fun i σ H'=>Iv (∃ (v4:Option V) (b:List Int),σ=[some (.int c),some (.ref lx),some (.int (n:Int)),some (.ref lu),v4,some (.int st),some (.ref lp),some (.ref lb)]∧Rv.Lnk n (Rv.pL n st x1) i b ∧
      Ow T H H' [(lb,.lst (b.map V.int)),(lp,.lst ((Rv.ni n st x1 n).map V.int)),(lu,.lst (up.map V.int)),(lx,.lst (ys.map V.int))])) ⟨trivial,_,_,rfl,Rv.Lnk.Pj _ _,O⟩ ?_ ?_
    · rintro i σ H5 hi ⟨-,v4,b,rfl,L,O⟩
      rw [show (0:Int) + (i:Int)=(i:Int) by omega]
      obtain ⟨u,hu⟩:∃ u,up[i]?=some u:=⟨_,List.getElem?_eq_getElem (by omega)⟩
      refine ⟨_,rfl,_,rfl,lu,_,_,_,rfl,rfl,O.sq 2,bZ hu,_,_,rfl,rfl,_,rfl,ifD (fun hc=>?_) fun hc=>?_⟩
      · obtain ⟨j,rfl⟩:=Int.eq_ofNat_of_zero_le (show 0≤u from hc)
        have hj:j<i:=by rcases hup i _ hu with e | e <;> omega
        refine ⟨_,rfl,_,rfl,_,rfl,lu,_,_,_,rfl,rfl,O.sq 2,bZ hu,lp,_,_,_,rfl,rfl,O.sq 1,bZ (Rv.uf (by omega)),?_⟩
        have p0:=Rv.xu (x:=x1) (s:=st) nn i
        have p1:=Rv.xG (x:=x1) (s:=st) nn i
        refine ⟨_,rfl,_,rfl,_,rfl,lp,_,_,_,rfl,rfl,O.sq 1,bZ (Rv.uf (by omega)),lb,_,_,_,rfl,rfl,O.get 0,Cm p0 (by rw [List.length_map,L.len];exact p1),?_⟩
        walk_at "pt"
        refine ⟨trivial,_,_,rfl,L.turn (by omega) hj p0,?_⟩
        rw [List.map_set];exact O
      · exact ⟨trivial,_,b,rfl,L.skip,O⟩
    · rintro σ H5 ⟨-,v4,b,rfl,L,O⟩
      refine ⟨_,rfl,O.ret 0 rfl q ⟨b,rfl,L.Wm (Rv.xu nn) (Rv.xG nn) (fun j k hj hk h=>Rv.Ag n40 hst hj hk h) n1,by rw [L.len];exact n1,by rw [L.len];exact n40⟩⟩
abbrev fP:Stmt:=top 51
theorem jf:aX ["xs","below","kind","start","way","back"] ["xs","below","kind"] (ao fP):=⟨rfl,rfl,rfl,by decide +kernel,rfl,by decide +kernel,by decide +kernel⟩
def Vu (r:List Int) (l:Lic):Prop:=rA r l∧0≤l.day
def Gv (K:PySem.W.Frag) (T:fC):Sp:=fun vs H Q _=>∃ (a b:Addr) (ys r:List Int) (kd:Int),vs=[.ref a,.ref b,.int kd]∧SqL K H a (ys.map V.int)∧4≤ys.length∧SqL K H b (r.map V.int)∧Rv.dJ r∧1≤r.length∧r.length≤900∧TabsOk T H∧Ol T H (fun xs=>∃ l,xs=zP l∧Vu r l) Q
theorem Qz {f f1 f2:Addr} {fd fd1 fd2:FuncData} (D:Df K mg "_law_line" fP ["xs","below","kind"] f fd) (B:Blt mg) (dN:Df K mg "_law_way" fY ["below","start"] f1 fd1) (oH:bR P w K mg base CX0 1 f1 fd1 ["below","start"] (vO K T))
    (aU:Df K mg "_law_amount" bV ["number","kind"] f2 fd2) (eV:bR P w K mg base CX0 1 f2 fd2 ["number","kind"] xR):bR P w K mg base CX0 2 f fd ["xs","below","kind"] (Gv K T):=by
  refine D.F.ok jf (fun vs H Q E h=>?_) (fun cdv A outer s H vs Q E hr h=>?_)
  · obtain ⟨_,_,_,_,_,rfl,_⟩:=h;rfl
  · obtain ⟨a,b,ys,r,kd,rfl,hA,hyl,hB,hR,r1,r9,tk,q⟩:=h
    have O:=Ow.refl tk
    have hml:((r.map V.int).length:Int)=(r.length:Int):=by rw [List.length_map]
    refine ⟨_,(aq (aR (i:=3) jf.nd rfl (Or.inl rfl) (aQ bJ (aL aG (pv 0) aA (fun _ _=>rfl)) (aN aM rfl B.len PySem.boot_len (ak (pv 1) au))))
      (aq (aR (i:=4) jf.nd rfl (Or.inl rfl) (aK oH (hr.mono (by decide)) rfl dN.m dN.F.kp dN.b .nil bC (ak (pv 1) (ak (pv 3) au))))
      (aq (aR (i:=5) jf.nd rfl (Or.inl rfl) (mZ jH aA))
      (pU (gZ (PW.pt (pw_and (aW jZ (aQ bJ (aL aG (pv 0) aA (fun _ _=>rfl)) aA) aA (bx _)) (pw_and1 (aW wg (aN aM rfl B.len PySem.boot_len (ak (pv 4) au)) aA (bx _)))))
        (aB (aR (i:=5) jf.nd rfl (Or.inl rfl) (aL aG (pv 4) (aQ dz aA (aQ bJ (aQ fQ (aL aG (pv 0) aA (fun _ _=>rfl)) aA) (aQ lH (aN aM rfl B.len PySem.boot_len (ak (pv 4) au)) aA))) (fun _ _=>rfl))))
        bY)
      (aB (aZ (jJ (ak (aQ jP (aQ bJ (aL aG (pv 0) aA (fun _ _=>rfl)) aA) aA) (ak (pv 3) (ak (pv 5) (ak (aK eV (hr.mono (by decide)) rfl aU.m aU.F.kp aU.b .nil bC (ak (aL aG (pv 0) aA (fun _ _=>rfl)) (ak (pv 2) au))) au))))))))))),?_⟩
    refine V5 ?_
    intro zu0 zu1 zu2 zu3 zu4
    have p0:=Int.emod_nonneg (ys.getD (0:Int).toNat 0) (show (r.length:Int)≠0 by omega)
    have p1:=Int.emod_lt_of_pos (ys.getD (0:Int).toNat 0) (show (0:Int)<(r.length:Int) by omega)
    refine ⟨_,rfl,a,_,0,_,rfl,rfl,hA,aV (by omega) (by omega),_,rfl,b,_,rfl,.inl hB,_,_,rfl,rfl,(by rw [hml];omega),?_⟩
    dsimp only
    rw [hml]
    generalize ys.getD (0:Int).toNat 0 % (r.length:Int)=st at p0 p1
    refine ⟨_,rfl,_,rfl,b,r,st,rfl,hB,hR,p0,p1,r9,tk,O.qF fun lw H1 xs O e=>?_⟩
    subst e
    have hwm:(((Rv.walk r st).map V.int).length:Int)=((Rv.walk r st).length:Int):=by rw [List.length_map]
    refine ⟨_,rfl,?_⟩
    refine ⟨fun σ H'=>Iv (∃ (bk:Int),σ=[some (.ref a),some (.ref b),some (.int kd),some (.int st),some (.ref lw),some (.int bk)]∧Rv.Stop r st bk∧H'=H1),?_,?_⟩
    · refine ⟨_,rfl,a,_,1,_,rfl,rfl,O.same.seq hA,aV (by omega) (by omega),_,_,rfl,rfl,(by show (0:Int)<3;decide),rfl,_,rfl,ifI (fun hc=>?_) fun hc=>pA ⟨trivial,_,rfl,.inl rfl,rfl⟩⟩
      refine ⟨_,rfl,lw,_,rfl,.inl (O.sq 0),_,_,rfl,rfl,_,rfl,ifD (fun hc2=>?_) fun hc2=>⟨trivial,_,rfl,.inl rfl,rfl⟩⟩
      rw [hwm] at hc2
      have j0:=Int.emod_nonneg (ys.getD (1:Int).toNat 0 / 3) (show ((Rv.walk r st).length:Int) - 1≠0 by omega)
      have j1:=Int.emod_lt_of_pos (ys.getD (1:Int).toNat 0 / 3) (show (0:Int)<((Rv.walk r st).length:Int) - 1 by omega)
      refine ⟨_,rfl,_,rfl,a,_,1,_,rfl,rfl,O.same.seq hA,aV (by omega) (by omega),_,_,rfl,rfl,⟨by decide,by decide⟩,_,rfl,lw,_,rfl,.inl (O.sq 0),_,_,rfl,rfl,_,_,rfl,rfl,(by rw [hwm];omega),_,_,rfl,rfl,?_⟩
      dsimp only
      rw [hwm]
      exact ⟨lw,_,_,_,rfl,rfl,O.sq 0,aV (by omega) (by omega),trivial,_,rfl,.inr (getD_mem' (by omega)),rfl⟩
    rintro σ H4 ⟨-,bk,rfl,hst,rfl⟩
    have d0:0≤ys.getD (2:Int).toNat 0 % 4 * 211:=Int.mul_nonneg (Int.emod_nonneg _ (by decide)) (by decide)
    refine ⟨_,rfl,a,_,2,_,rfl,rfl,O.same.seq hA,aV (by omega) (by omega),_,_,rfl,rfl,(by show (0:Int)<4;decide),_,_,rfl,rfl,.inr ⟨by decide,by decide⟩,_,rfl,_,rfl,_,rfl,a,_,3,_,rfl,rfl,O.same.seq hA,aV (by omega) (by omega),_,rfl,_,_,rfl,fun z z0 z1=>?_⟩
    refine ⟨szl,fun t ht=>?_⟩
    walk_at "nw"
    exact O.retT 0 rfl q ⟨⟨_,st,bk,z⟩,rfl,⟨⟨p0,p1,hst⟩,z0⟩,d0⟩
abbrev fM:Stmt:=top 52
theorem fH:aX ["cell","cells","below","kind","many","roll","k","one","xs"] ["cell","cells","below","kind"] (ao fM):=⟨rfl,rfl,rfl,by decide +kernel,rfl,by decide +kernel,by decide +kernel⟩
def Gj (K:PySem.W.Frag) (T:fC):Sp:=fun vs H Q _=>∃ (c kd:Int) (g a:Addr) (qs r:List Int),vs=[.int c,.ref g,.ref a,.int kd]∧SqL K H g (qs.map V.int)∧SqL K H a (r.map V.int)∧Rv.dJ r∧1≤r.length∧r.length≤900∧TabsOk T H ∧
  ∀ (l:Addr) (H1 H':Hp) (us:List V) (ls:List Lic),bB T H H1→Ow T H1 H' [(l,.lst us)]→bM K H1 us (ls.map qI)→ls.length≤30→(∀ l∈ls,Vu r l)→Q (.ref l) H'
theorem Qn {f f1 f2:Addr} {fd fd1 fd2:FuncData} (D:Df K mg "_law_roll" fM ["cell","cells","below","kind"] f fd) (B:Blt mg) (aJ:Df K mg "_law_draws" bW ["cell","many"] f1 fd1) (cg:bR P w K mg base CX0 1 f1 fd1 ["cell","many"] (uq T))
    (eX:Df K mg "_law_line" fP ["xs","below","kind"] f2 fd2) (qD:bR P w K mg base CX0 2 f2 fd2 ["xs","below","kind"] (Gv K T)):bR P w K mg base CX0 3 f fd ["cell","cells","below","kind"] (Gj K T):=by
  refine D.F.ok fH (fun vs H Q E h=>?_) (fun cdv A outer s H vs Q E hr h=>?_)
  · obtain ⟨_,_,_,_,_,_,rfl,_⟩:=h;rfl
  · obtain ⟨c,kd,g,a,qs,r,rfl,hG,hA,hR,r1,r9,tk,q⟩:=h
    have O:=Ow.refl tk
    have s0:=O.same
    have hml:((r.map V.int).length:Int)=(r.length:Int):=by rw [List.length_map]
    refine ⟨_,(aq (aR (i:=4) fH.nd rfl (Or.inl rfl) (aQ bJ (aQ fQ (pv 0) aA) aA))
      (pU (gZ (aW jZ (aQ bJ (pv 0) aA) aA (bx _))
        (aB (aR (i:=4) fH.nd rfl (Or.inl rfl) (aQ bJ (aQ fQ (pv 0) aA) aA)))
        bY)
      (aq (aR (i:=5) fH.nd rfl (Or.inl rfl) (eZ au))
      (aq (dH PassesOwn.never rfl (cZ rfl B.range (ak (pv 4) au)) (aF (i:=6) fH.nd rfl (Or.inl rfl))
        (aB (eN (mK PySem.F.plainAttrs_list PySem.F.slot_list_append PySem.F.type_list_append cC (pv 5) (ak (aK qD (hr.mono (by decide)) rfl eX.m eX.F.kp eX.b .nil bC (ak (aK cg (hr.mono (by decide)) rfl aJ.m aJ.F.kp aJ.b .nil bC (ak (aQ dz (aQ fQ (pv 0) aA) (aQ jP aA (aQ dz (pv 6) aA))) (ak aA au))) (ak (pv 2) (ak (pv 3) au)))) au)))))
      (aq (dH PassesOwn.never rfl (bO (pv 1)) (aF (i:=7) fH.nd rfl (Or.inl rfl))
        (aq (aR (i:=8) fH.nd rfl (Or.inl rfl) (aK cg (hr.mono (by decide)) rfl aJ.m aJ.F.kp aJ.b .nil bC (ak (pv 7) (ak aA au))))
        (aB (gZ (PW.pt (pw_and (aW jZ (aQ bJ (aL aG (pv 8) aA (fun _ _=>rfl)) aA) aA (bx _)) (pw_and1 (aW wg (pv 4) aA (bx _)))))
          (aB (iD (aK qD (hr.mono (by decide)) rfl eX.m eX.F.kp eX.b .nil bC (ak (nF pN (pv 8) (kW aA) rW) (ak (pv 2) (ak (pv 3) au)))) (pX (pv 5) (aQ bJ (pv 7) (pv 4)) set_list)))
          bY))))
      (aB (aZ (pv 5)))))))),?_⟩
    refine V4 ?_
    intro zu0 zu1 zu2 zu3 zu4 zu5 zu6 zu7 zu8 zu9
    refine ⟨_,rfl,_,_,rfl,rfl,⟨by decide,by decide⟩,_,_,rfl,rfl,(by show (0:Int)<11;decide),?_⟩
    refine ⟨fun σ H'=>Iv (∃ (n:Nat),σ=[some (.int c),some (.ref g),some (.ref a),some (.int kd),some (.int (n:Int)),none,none,none,none]∧n≤30∧H'=H),?_,?_⟩
    · have e1:((c / 8 % 11).toNat:Int)=c / 8 % 11:=Int.toNat_of_nonneg (Int.emod_nonneg _ (by decide))
      have e2:((c / 8 % 31).toNat:Int)=c / 8 % 31:=Int.toNat_of_nonneg (Int.emod_nonneg _ (by decide))
      have f1:Iv (∃ (n:Nat),[some (.int c),some (.ref g),some (.ref a),some (.int kd),some (.int (c / 8 % 11)),none,none,none,none]=[some (V.int c),some (.ref g),some (.ref a),some (.int kd),some (.int (n:Int)),none,none,none,none]∧n≤30∧H=H):=⟨trivial,(c / 8 % 11).toNat,by rw [e1],by omega,rfl⟩
      refine ⟨_,rfl,_,_,rfl,rfl,(by show (0:Int)<8;decide),rfl,_,rfl,ifI (fun hc=>?_) fun hc=>f1⟩
      refine ⟨_,rfl,_,_,rfl,rfl,⟨by decide,by decide⟩,_,_,rfl,rfl,(by show (0:Int)<31;decide),?_⟩
      exact ⟨trivial,(c / 8 % 31).toNat,by rw [e2];rfl,by omega,rfl⟩
    rintro σ H1 ⟨-,n,rfl,n30,rfl⟩
    refine ⟨szl,fun lr hlr=>?_⟩
    walk_at "nw"
    refine ⟨_,rfl,(n:Int),rfl,by omega,by omega,?_⟩
    rw [Int.toNat_natCast]
    refine jL (n:=n) (fun i σ H'=>Iv (∃ (v7:Option V) (Hb:Hp) (us:List V) (ls:List Lic),σ=[some (.int c),some (.ref g),some (.ref a),some (.int kd),some (.int (n:Int)),some (.ref lr),v7,none,none]∧bB T H1 Hb∧bM K Hb us (ls.map qI)∧ls.length=i∧(∀ l∈ls,Vu r l)∧Ow T Hb H' [(lr,.lst us)]))
      ⟨trivial,none,H1,[],[],rfl,bB.refl tk,.nil,rfl,(fun l hl=>nomatch hl),O⟩ ?_ ?_
    · rintro i σ H3 hi ⟨-,v7,Hb,us,ls,rfl,sb,d0,hli,hok,O⟩
      have hul:us.length=ls.length:=by rw [d0.length,List.length_map]
      refine ⟨_,rfl,.inl ⟨rfl,_,O.sq 0⟩,_,rfl,_,_,rfl,rfl,⟨by decide,by decide⟩,_,rfl,_,_,rfl,rfl,_,_,rfl,rfl,.inl ⟨by decide,by decide⟩,_,_,rfl,rfl,_,4,rfl,by decide,by decide,O.same.t1,O.qF fun lx H4 xs O e=>?_⟩
      obtain ⟨ys,rfl,hyl,hyb⟩:=e
      have hyl:ys.length=4:=hyl
      refine ⟨_,rfl,_,rfl,lx,a,ys,r,kd,rfl,O.sq 0,by omega,(sb.trans O.same).seq hA,hR,r1,r9,O.same.t1,O.U8 fun t H5 ts O e=>?_⟩
      obtain ⟨l,rfl,hl⟩:=e
      refine ⟨lr,_,_,rfl,rfl,O.get 2,aP (by omega),?_⟩
      walk_at "pt"
      obtain ⟨Hc,O,sc,en⟩:=O.frz
      refine ⟨trivial,_,Hc,us++[.ref t],ls++[l],rfl,sb.trans sc,?_,by rw [List.length_append,hli];rfl,fun x hx=>?_,O.tail⟩
      · rw [List.map_append]
        exact (d0.mo sc).append (.cons (Den.lic (SqT.of en)) .nil)
      · rcases List.mem_append.mp hx with e | e
        · exact hok x e
        · have e2:x=l:=by simpa using e
          rw [e2];exact hl
    rintro σ H3 ⟨-,v7,Hb,us,ls,rfl,sb,d0,hli,hok,O⟩
    refine ⟨_,rfl,g,rfl,⟨_,(sb.trans O.same).seq hG⟩,?_⟩
    refine eU (K:=K) (xs:=qs.map V.int) (fun i σ H'=>Iv (∃ (v8 v9:Option V) (Hb:Hp) (us:List V) (ls:List Lic),σ=[some (.int c),some (.ref g),some (.ref a),some (.int kd),some (.int (n:Int)),some (.ref lr),v7,v8,v9]∧bB T H1 Hb∧bM K Hb us (ls.map qI)∧ls.length=n∧(∀ l∈ls,Vu r l)∧Ow T Hb H' [(lr,.lst us)]))
      ⟨trivial,none,none,Hb,us,ls,rfl,sb,d0,hli,hok,O⟩ (fun _ _ _ _ ⟨_,_,_,_,_,_,_,sb,_,_,_,O⟩=>(sb.trans O.same).seq hG) ?_ ?_
    · rintro i y σ H4 hy ⟨-,v8,v9,Hb,us,ls,rfl,sb,d0,hli,hok,O⟩
      obtain ⟨z,hz,rfl⟩:=ints_get hy
      have hul:us.length=ls.length:=by rw [d0.length,List.length_map]
      refine ⟨_,rfl,z,5,rfl,by decide,by decide,O.same.t1,O.qF fun lx H5 xs O e=>?_⟩
      obtain ⟨ys,rfl,hyl,hyb⟩:=e
      have hyl:ys.length=5:=hyl
      clear hyb
      refine ⟨_,rfl,lx,_,0,_,rfl,rfl,O.sq 0,aV (by omega) (by omega),_,_,rfl,rfl,(by show (0:Int)<5;decide),rfl,_,rfl,ifI (fun hc=>?_) fun hc=>pA ⟨trivial,_,_,Hb,us,ls,rfl,sb,d0,hli,hok,O.tail⟩⟩
      refine ⟨_,rfl,_,_,rfl,rfl,_,rfl,ifD (fun hc2=>?_) fun hc2=>⟨trivial,_,_,Hb,us,ls,rfl,sb,d0,hli,hok,O.tail⟩⟩
      have j0:=Int.emod_nonneg z (show (n:Int)≠0 by omega)
      have j1:=Int.emod_lt_of_pos z (show (0:Int)<(n:Int) by omega)
      refine ⟨_,rfl,1,rfl,lx,_,rfl,O.sq 0,fun lc hlc=>?_⟩
      walk_at "nw"
      rw [show vC (ys.map V.int) (some 1) none=(ys.drop 1).map V.int from FQ ys 1] at O
      refine ⟨_,rfl,_,rfl,lc,a,ys.drop 1,r,kd,rfl,O.sq 0,by rw [List.length_drop];omega,(sb.trans O.same).seq hA,hR,r1,r9,O.same.t1,O.U8 fun t H6 ts O e=>?_⟩
      obtain ⟨l,rfl,hl⟩:=e
      refine ⟨_,rfl,_,rfl,_,rfl,_,_,rfl,rfl,(by show (0:Int)<(n:Int);omega),?_⟩
      refine pZ O 3 rfl (Cm j0 (by omega)) fun H7 O=>?_
      obtain ⟨Hc,O,sc,en⟩:=O.frz
      refine ⟨trivial,_,_,Hc,us.set (z % (n:Int)).toNat (.ref t),ls.set (z % (n:Int)).toNat l,rfl,sb.trans sc,?_,by rw [List.length_set];exact hli,fun x hx=>?_,O.tail.tail⟩
      · rw [List.map_set]
        exact bM.set (Den.lic (SqT.of en)) _ (d0.mo sc)
      · rcases List.mem_or_eq_of_mem_set hx with e | e
        · exact hok x e
        · rw [e];exact hl
    rintro σ H4 ⟨-,v8,v9,Hb,us,ls,rfl,sb,d0,hli,hok,O⟩
    exact ⟨_,rfl,q lr Hb _ us ls sb O d0 (by omega) hok⟩
abbrev bU:Stmt:=top 54
theorem pO:aX ["found","many"] ["found","many"] (ao bU):=⟨rfl,rfl,rfl,by decide +kernel,rfl,by decide +kernel,by decide +kernel⟩
def Gn (T:fC):Sp:=fun vs H Q _=>∃ (a:Addr) (ns:List Int) (n:Int),vs=[.ref a,.int n]∧H a=some (.lst (ns.map V.int))∧n=(ns.length:Int)∧(∀ x∈ns,0≤x)∧TabsOk T H∧∀ H',bB T H H'→Q (.bl true) H'
theorem Qt {f:Addr} {fd:FuncData} (D:Df K mg "_law_numbers" bU ["found","many"] f fd) (B:Blt mg):bR P w K mg base CX0 1 f fd ["found","many"] (Gn T):=by
  refine D.F.ok pO (fun vs H Q E h=>?_) (fun cdv A outer s H vs Q E hr h=>?_)
  · obtain ⟨_,_,_,rfl,_⟩:=h;rfl
  · obtain ⟨a,ns,n,rfl,hA,hn,h0,tk,q⟩:=h
    have hu:=hr.units
    have hS:SqL K H a (ns.map V.int):=SqL.of hA
    refine ⟨_,(aq (gZ (PW.pt (pw_or (mR (mQ (aN lE rfl B.isinstance PyProof.Rows.boot_isinstance (ak (pv 0) (ak (pY (v:=.ty "list") rfl B.list PyProof.Rows.boot_list rfl) au))))) (pw_or1 (aW oZ (aN aM rfl B.len PySem.boot_len (ak (pv 0) au)) (pv 1) (bx _)))))
        (aB (aZ za))
        bY)
      (aB (aZ (oA (Qj hu) (iC (ao bU) rfl ["found","many"] rfl ["one"] [none] (by decide +kernel) (by decide +kernel) (by decide +kernel) rfl (bO (pv 0)) (fun _ _ _=>(aF (i:=0) (show (["one"]:List Str).Nodup by decide +kernel) rfl (Or.inl rfl))) (fun _ _ _=>(kO (PW.pt (pw_or (mR (mQ (aN (oX (K:=K) rfl) rfl B.isinstance PyProof.Rows.boot_isinstance (ak (pv 0) (ak (pY (v:=.ty "int") rfl B.int PyProof.Rows.boot_int rfl) au))))) (pw_or (mQ (aN (oX (K:=K) rfl) rfl B.isinstance PyProof.Rows.boot_isinstance (ak (pv 0) (ak (pY (v:=.ty "bool") rfl B.bool PyProof.Rows.boot_bool rfl) au)))) (pw_or1 (aW Bs (pv 0) aA (bx _)))))))) (fun _ _ _=>(pv 0))) (eZ au) (bx _))))),?_⟩
    refine V3 ?_
    intro zu0 zu1
    have O:=Ow.refl tk
    refine ⟨_,rfl,_,_,_,true,rfl,.lst hA,GP K,_,rfl,pA ?_⟩
    refine ⟨_,rfl,a,_,rfl,.inl hS,_,rfl,rfl,_,rfl,ifN (ifI (fun _=>?_) fun hc=>absurd (by rw [List.length_map,hn]) hc)⟩
    refine ⟨_,rfl,a,rfl,⟨_,hS⟩,fun l hl=>?_⟩
    refine dI (K:=K) (xs:=ns.map V.int) (fun i τ H'=>Iv (∃ (v0:Option V),τ=[v0]∧Ow T H H' [(l,.lst (([]:List Int).map V.int))]))
      ⟨trivial,none,rfl,O.mk' hl rfl⟩ (fun _ _ _ _ ⟨_,_,_,O⟩=>O.same.seq hS) ?_ ?_
    · rintro i y τ H3 hy ⟨-,v0,rfl,O⟩
      obtain ⟨z,hz,rfl⟩:=ints_get hy
      have z0:=h0 z (List.mem_of_getElem? hz)
      refine ⟨_,rfl,_,_,_,true,rfl,.int _,GQ K,_,rfl,pA ?_⟩
      refine ⟨_,rfl,_,_,_,false,rfl,.int _,GR K,_,rfl,pA ?_⟩
      exact ⟨_,rfl,_,_,rfl,rfl,_,rfl,ifD (fun hc=>absurd hc (by omega)) fun _=>⟨trivial,_,rfl,O⟩⟩
    rintro τ H3 ⟨-,v0,rfl,O⟩
    refine ⟨szl,fun l2 hl2=>?_⟩
    walk_at "nw"
    refine ⟨l,l2,[],[],rfl,rfl,O.sq 1,O.sq 0,?_⟩
    rw [if_neg Bool.false_ne_true,decide_eq_true rfl]
    exact q _ O.same
theorem Cg (K:PySem.W.Frag):PySem.W.kitOne K (.type "tuple") (.type "tuple")=some true:=by rfl
abbrev cX:Stmt:=top 55
theorem rR:aX ["told","below","roll","ponds"] ["told","below","roll","ponds"] (ao cX):=⟨rfl,rfl,rfl,by decide +kernel,rfl,by decide +kernel,by decide +kernel⟩
def Gk (K:PySem.W.Frag) (T:fC):Sp:=fun vs H Q _=>∃ (t lt la lf lh a b c:Addr) (xs as fs hs:List Int) (rv rs us:List V) (ps:List (Int × Int × Int)),vs=[.ref t,.ref a,.ref b,.ref c]∧H t=some (.tup [.ref lt,.ref la,.ref lf,.ref lh])∧H lt=some (.lst (xs.map V.int))∧H la=some (.lst (as.map V.int))∧H lf=some (.lst (fs.map V.int))∧H lh=some (.tup (hs.map V.int))∧SqL K H a rv∧SqL K H b rs∧SqL K H c us∧bM K H us (ps.map dMv)∧ps.length≤100∧rs.length=xs.length∧us.length=as.length∧rv.length=fs.length∧hs.length=6∧(∀ x∈xs,0≤x)∧(∀ x∈as,0≤x)∧(∀ x∈fs,0≤x)∧(∀ x∈hs,0≤x)∧(∀ j,j<ps.length→as.getD j 0≤(ps.getD j (0,0,0)).2.1)∧TabsOk T H∧∀ H',bB T H H'→Q (.bl true) H'
theorem Qo {f f1:Addr} {fd fd1:FuncData} (D:Df K mg "_law_right" cX ["told","below","roll","ponds"] f fd) (B:Blt mg) (aY:Df K mg "_law_numbers" bU ["found","many"] f1 fd1) (jc:bR P w K mg base CX0 1 f1 fd1 ["found","many"] (Gn T)):bR P w K mg base CX0 2 f fd ["told","below","roll","ponds"] (Gk K T):=by
  refine D.F.ok rR (fun vs H Q E h=>?_) (fun cdv A outer s H vs Q E hr h=>?_)
  · obtain ⟨_,_,_,_,_,_,_,_,_,_,_,_,_,_,_,_,rfl,_⟩:=h;rfl
  · obtain ⟨t,lt,la,lf,lh,a,b,c,xs,as,fs,hs,rv,rs,us,ps,rfl,hT,h1,h2,h3,h4,hA,hB,hC,d1,hp1,e1,e2,e3,e4,n1,n2,n3,n4,room,tk,q⟩:=h
    have hu:=hr.units
    have hul:us.length=ps.length:=by rw [d1.length,List.length_map]
    refine ⟨_,(aq (gZ (PW.pt (pw_or (mR (mQ (aN lE rfl B.isinstance PyProof.Rows.boot_isinstance (ak (pv 0) (ak (pY (v:=.ty "tuple") rfl B.tuple PyProof.Rows.boot_tuple rfl) au))))) (pw_or (aW oZ (aN aM rfl B.len PySem.boot_len (ak (pv 0) au)) aA (bx _)) (pw_or1 (mR (mQ (aN lE rfl B.isinstance PyProof.Rows.boot_isinstance (ak (aL cD (pv 0) aA (fun _ _=>rfl)) (ak (pY (v:=.ty "tuple") rfl B.tuple PyProof.Rows.boot_tuple rfl) au)))))))))
        (aB (aZ za))
        bY)
      (aq (gZ (PW.pt (pw_or (mR (mQ (aK jc (hr.mono (by decide)) rfl aY.m aY.F.kp aY.b .nil bC (ak (aL cD (pv 0) aA (fun _ _=>rfl)) (ak (aN aM rfl B.len PySem.boot_len (ak (pv 2) au)) au))))) (pw_or1 (mR (mQ (aK jc (hr.mono (by decide)) rfl aY.m aY.F.kp aY.b .nil bC (ak (aL cD (pv 0) aA (fun _ _=>rfl)) (ak (aN aM rfl B.len PySem.boot_len (ak (pv 3) au)) au))))))))
        (aB (aZ za))
        bY)
      (aq (gZ (aW (Qg hu) (iC (ao cX) rfl ["told","below","roll","ponds"] rfl ["k","told","ponds"] [none,some 0,some 3] (by decide +kernel) (by decide +kernel) (by decide +kernel) rfl (cZ rfl B.range (ak (aN aM rfl B.len PySem.boot_len (ak (pv 3) au)) au)) (fun _ _ _=>(aF (i:=0) (show (["k","told","ponds"]:List Str).Nodup by decide +kernel) rfl (Or.inl rfl))) (fun _ _ _=>(kO (aW wg (aL (bQ (K:=K) rfl) (aL (lA (K:=K) rfl) (pv 1) aA (fun _ _=>rfl)) (pv 0) (fun _ _=>rfl)) (aL (lA (K:=K) rfl) (aL (bQ (K:=K) rfl) (pv 2) (pv 0) (fun _ _=>rfl)) aA (fun _ _=>rfl)) (bx _)))) (fun _ _ _=>(pv 0))) (eZ au) (bx _))
        (aB (aZ za))
        bY)
      (aB (aZ (Bp (aK jc (hr.mono (by decide)) rfl aY.m aY.F.kp aY.b .nil bC (ak (aL cD (pv 0) aA (fun _ _=>rfl)) (ak (aN aM rfl B.len PySem.boot_len (ak (pv 1) au)) au))) (GC (aK jc (hr.mono (by decide)) rfl aY.m aY.F.kp aY.b .nil bC (ak (bI bf rfl B.list PyProof.Rows.boot_list (ak (aL cD (pv 0) aA (fun _ _=>rfl)) au)) (ak aA au)))))))))),?_⟩
    refine PJ ?_
    intro zu0 zu1 zu2 zu3 zu4 zu5
    have O:=Ow.refl tk
    have nt:∀ (H':Hp) (p:Addr) (o:HO),bB T H H'→H p=some o→jY o=true→H' p=some o:=fun H' p o sm h ho=>sm.keep _ _ h (uF ho)
    refine ⟨_,rfl,_,_,_,true,rfl,.tup hT,Cg K,_,rfl,pA ?_⟩
    refine ⟨_,rfl,t,_,rfl,.inr (SqT.of hT),rfl,_,rfl,ifN (ifI (fun _=>?_) fun hc=>absurd rfl hc)⟩
    refine ⟨_,rfl,t,_,3,_,rfl,rfl,SqT.of hT,rfl,_,_,_,true,rfl,.tup h4,Cg K,_,rfl,pA ?_⟩
    refine ⟨_,rfl,t,_,0,_,rfl,rfl,SqT.of hT,rfl,_,rfl,b,_,rfl,.inl hB,lt,xs,_,rfl,h1,by rw [e1],n1,tk,fun H1 sm=>?_⟩
    have O:=O.lZ sm
    refine ⟨_,rfl,pA ?_⟩
    refine ⟨_,rfl,t,_,1,_,rfl,rfl,SqT.of (nt _ _ _ O.same hT rfl),rfl,_,rfl,c,_,rfl,.inl (O.same.seq hC),la,as,_,rfl,nt _ _ _ O.same h2 rfl,by rw [e2],n2,O.same.t1,fun H2 sm=>?_⟩
    have O:=O.lZ sm
    refine ⟨_,rfl,pA ?_⟩
    /- no pond above its room -/
    refine ⟨_,rfl,c,_,rfl,.inl (O.same.seq hC),(us.length:Int),rfl,by omega,by omega,fun lk hlk=>?_⟩
    rw [Int.toNat_natCast]
    refine iK (n:=us.length) (fun i τ H'=>Iv (∃ (v0:Option V),τ=[v0,some (.ref t),some (.ref c)]∧Ow T H H' [(lk,.lst (([]:List Int).map V.int))]))
      ⟨trivial,none,rfl,O.mk' hlk rfl⟩ ?_ ?_
    · clear O
      rintro i τ H7 hi ⟨-,v0,rfl,O⟩
      rw [show (0:Int) + (i:Int)=(i:Int) by omega]
      obtain ⟨u,hu9⟩:∃ u,us[i]?=some u:=⟨_,List.getElem?_eq_getElem hi⟩
      obtain ⟨ap,p,rfl,hp,hTp⟩:=d1.jQ hu9
      have hr9:=room i (by omega)
      rw [getD_some hp] at hr9
      exact ⟨_,rfl,t,_,1,.ref la,rfl,rfl,SqT.of (nt _ _ _ O.same hT rfl),rfl,_,rfl,la,_,_,_,rfl,rfl,SqL.of (nt _ _ _ O.same h2 rfl),bZ (bh (ns:=as) (k:=i) (by omega)),_,rfl,_,rfl,c,_,_,_,rfl,rfl,O.same.seq hC,cN hu9,ap,_,1,_,rfl,rfl,hTp.mo O.same,rfl,_,_,rfl,rfl,_,rfl,ifD (fun h=>absurd h (by omega)) fun _=>⟨trivial,_,rfl,O⟩⟩
    clear O
    rintro τ H7 ⟨-,v0,rfl,O⟩
    refine ⟨szl,fun l2 hl2=>?_⟩
    walk_at "nw"
    refine ⟨lk,l2,[],[],rfl,rfl,O.sq 1,O.sq 0,?_⟩
    rw [if_pos rfl,decide_eq_true rfl]
    refine ⟨_,rfl,pA ?_⟩
    refine ⟨_,rfl,t,_,2,_,rfl,rfl,SqT.of (nt _ _ _ O.same hT rfl),rfl,_,rfl,a,_,rfl,.inl (O.same.seq hA),lf,fs,_,rfl,nt _ _ _ O.same h3 rfl,by rw [e3],n3,O.same.t1,fun H3 sm=>?_⟩
    have O:=O.lZ sm
    refine ⟨_,rfl,Cp ?_⟩
    refine ⟨_,rfl,t,_,3,.ref lh,rfl,rfl,SqT.of (nt _ _ _ O.same hT rfl),rfl,lh,_,rfl,.inr (SqT.of (nt _ _ _ O.same h4 rfl)),fun l hl=>?_⟩
    walk_at "nw"
    exact ⟨l,hs,_,rfl,O.get 0,by rw [e4];rfl,n4,O.same.t1,fun H5 sm=>q _ (O.same.trans sm)⟩
abbrev fO:Stmt:=top 57
theorem fJ:aX ["told","ponds","left","lost","k","take","gone","rest"] ["told","ponds","left"] (ao fO):=⟨rfl,rfl,rfl,by decide +kernel,rfl,by decide +kernel,by decide +kernel⟩
def Gu (K:PySem.W.Frag) (T:fC):Sp:=fun vs H Q _=>∃ (t lt la lf lh d g:Addr) (us:List V) (ps:List (Int × Int × Int)) (zs xs:List Int),vs=[.ref t,.ref d,.ref g]∧SqT K H t [.ref lt,.ref la,.ref lf,.ref lh]∧SqL K H lt (xs.map V.int)∧SqL K H la ((qw ps zs xs).map V.int)∧SqL K H d us∧bM K H us (ps.map dMv)∧ps.length≤100∧(∀ p∈ps,0≤p.1∧p.1<(xs.length:Int)∧0≤p.2.2∧p.2.2≤1000)∧SqL K H g (zs.map V.int)∧zs.length=ps.length∧(∀ j,j<ps.length→xs.getD (ps.getD j (0,0,0)).1.toNat 0≤(ps.getD j (0,0,0)).2.1 - zs.getD j 0)∧Q (.int (Ey ps zs xs).sum) H
theorem Qy {f:Addr} {fd:FuncData} (D:Df K mg "_law_lost" fO ["told","ponds","left"] f fd) (B:Blt mg):bR P w K mg base CX0 1 f fd ["told","ponds","left"] (Gu K T):=by
  refine D.F.ok fJ (fun vs H Q E h=>?_) (fun cdv A outer s H vs Q E hr h=>?_)
  · obtain ⟨_,_,_,_,_,_,_,_,_,_,_,rfl,_⟩:=h;rfl
  · obtain ⟨t,lt,la,lf,lh,d,g,us,ps,zs,xs,rfl,hT,hX,hAf,hD,d1,hp1,hpo,hG,hzl,room,q⟩:=h
    have hul:us.length=ps.length:=by rw [d1.length,List.length_map]
    refine ⟨_,(aq (aR (i:=3) fJ.nd rfl (Or.inl rfl) aA)
      (aq (dH PassesOwn.never rfl (cZ rfl B.range (ak (aN aM rfl B.len PySem.boot_len (ak (pv 1) au)) au)) (aF (i:=4) fJ.nd rfl (Or.inl rfl))
        (aq (aR (i:=5) fJ.nd rfl (Or.inl rfl) (aL aG (aL cD (pv 0) aA (fun _ _=>rfl)) (aL cD (aL aG (pv 1) (pv 4) (fun _ _=>rfl)) aA (fun _ _=>rfl)) (fun _ _=>rfl)))
        (aq (aR (i:=6) fJ.nd rfl (Or.inl rfl) (aQ lH (aQ dz (aL aG (pv 2) (pv 4) (fun _ _=>rfl)) (pv 5)) (aL aG (aL cD (pv 0) aA (fun _ _=>rfl)) (pv 4) (fun _ _=>rfl))))
        (aq (aR (i:=7) fJ.nd rfl (Or.inl rfl) (aQ lH (aQ jP (aQ dz (aL aG (pv 2) (pv 4) (fun _ _=>rfl)) (pv 5)) (aL cD (aL aG (pv 1) (pv 4) (fun _ _=>rfl)) aA (fun _ _=>rfl))) (aQ jP aA (pv 6))))
        (aq (gZ (PW.pt (pw_or (aW wg (pv 5) (aQ lH (aL cD (aL aG (pv 1) (pv 4) (fun _ _=>rfl)) aA (fun _ _=>rfl)) (aL aG (pv 2) (pv 4) (fun _ _=>rfl))) (bx _)) (pw_or (aW Bs (pv 7) aA (bx _)) (pw_or1 (aW Qi (pv 7) aA (bx _))))))
          (aB (aZ (mZ jH aA)))
          bY)
        (aB (aR (i:=3) fJ.nd rfl (Or.inl rfl) (aQ dz (pv 3) (pv 6)))))))))
      (aB (aZ (pv 3))))),?_⟩
    refine V2 ?_
    intro zu0 zu1 zu2 zu3 zu4 zu5 zu6 zu7
    refine ⟨_,rfl,d,_,rfl,.inl hD,(us.length:Int),rfl,by omega,by omega,?_⟩
    rw [Int.toNat_natCast,hul]
    refine jL (n:=ps.length) (fun i σ H'=>Iv (∃ (v4 v5 v6 v7:Option V),σ=[some (.ref t),some (.ref d),some (.ref g),some (.int ((List.range i).map (jV ps zs xs)).sum),v4,v5,v6,v7]∧H'=H))
      ⟨trivial,none,none,none,none,rfl,rfl⟩ ?_ ?_
    · rintro i σ H8 hi ⟨-,v4,v5,v6,v7,rfl,rfl⟩
      rw [show (0:Int) + (i:Int)=(i:Int) by omega]
      obtain ⟨u,hu9⟩:∃ u,us[i]?=some u:=⟨_,List.getElem?_eq_getElem (by omega)⟩
      obtain ⟨ap,p,rfl,hp,hTp⟩:=d1.jQ hu9
      have hr9:=hpo p (List.mem_of_getElem? hp)
      have hrm:=room i hi
      rw [getD_some hp] at hrm
      have e1:nM ps zs xs i=zs.getD i 0 + xs.getD p.1.toNat 0:=by unfold nM;rw [getD_some hp]
      have e2:jV ps zs xs i=(zs.getD i 0 + xs.getD p.1.toNat 0) * p.2.2 / 1000:=by unfold jV;rw [e1,getD_some hp]
      have ha:(qw ps zs xs)[i]?=some (nM ps zs xs i - jV ps zs xs i):=by unfold qw;rw [List.getElem?_map,List.getElem?_range hi];rfl
      have hsum:((List.range (i + 1)).map (jV ps zs xs)).sum=((List.range i).map (jV ps zs xs)).sum + jV ps zs xs i:=by
        rw [List.range_succ,List.map_append,List.sum_append];simp
      rw [e2] at hsum
      rw [e1,e2] at ha
      have zi:=bh (ns:=zs) (k:=i) (by omega)
      refine ⟨_,rfl,t,_,0,.ref lt,rfl,rfl,hT,rfl,_,rfl,_,rfl,d,_,_,_,rfl,rfl,hD,cN hu9,ap,_,0,_,rfl,rfl,hTp,rfl,lt,_,_,_,rfl,rfl,hX,aV hr9.1 hr9.2.1,?_⟩
      generalize xs.getD p.1.toNat 0=ta at ha hsum hrm
      refine ⟨_,rfl,_,rfl,g,_,_,_,rfl,rfl,hG,bZ zi,_,rfl,_,_,rfl,rfl,_,rfl,t,_,1,.ref la,rfl,rfl,hT,rfl,_,rfl,la,_,_,_,rfl,rfl,hAf,bZ ha,_,_,rfl,rfl,?_⟩
      dsimp only
      generalize zs.getD i 0=zv at ha hsum hrm zi
      refine ⟨_,rfl,_,rfl,g,_,_,_,rfl,rfl,hG,bZ zi,_,rfl,_,_,rfl,rfl,_,rfl,_,rfl,d,_,_,_,rfl,rfl,hD,cN hu9,ap,_,2,_,rfl,rfl,hTp,rfl,_,_,rfl,rfl,.inr ⟨by omega,by omega⟩,_,rfl,_,_,rfl,rfl,.inl ⟨by decide,by decide⟩,_,_,rfl,rfl,?_⟩
      dsimp only
      generalize (zv + ta) * p.2.2=m at ha hsum
      refine ⟨_,rfl,_,rfl,_,rfl,d,_,_,_,rfl,rfl,hD,cN hu9,ap,_,1,_,rfl,rfl,hTp,rfl,_,rfl,_,rfl,g,_,_,_,rfl,rfl,hG,bZ zi,_,_,rfl,rfl,_,_,rfl,rfl,_,rfl,ifD (fun hc=>absurd hc (by omega)) fun hc=>?_⟩
      refine ⟨_,rfl,_,_,rfl,rfl,_,rfl,ifD (fun hc=>absurd hc (by omega)) fun hc=>?_⟩
      refine ⟨_,rfl,_,_,rfl,rfl,_,rfl,ifD (fun hc=>absurd hc (by omega)) fun hc=>?_⟩
      refine ⟨_,rfl,_,rfl,_,_,rfl,rfl,?_⟩
      refine ⟨trivial,some (.int (i:Int)),some (.int ta),some (.int (zv + ta - (zv + ta - m / 1000))),some (.int (m - 1000 * (zv + ta - (zv + ta - m / 1000)))),?_,rfl⟩
      rw [hsum]
      dsimp only
      rw [show ((List.range i).map (jV ps zs xs)).sum + (zv + ta - (zv + ta - m / 1000))=((List.range i).map (jV ps zs xs)).sum + m / 1000 by omega];rfl
    rintro σ H8 ⟨-,v4,v5,v6,v7,rfl,rfl⟩
    exact ⟨_,rfl,q⟩
abbrev dw:Stmt:=top 58
theorem je:aX ["roll","ponds","lets","takes","keepers","used","k"] ["roll","ponds","lets","takes"] (ao dw):=⟨rfl,rfl,rfl,by decide +kernel,rfl,by decide +kernel,by decide +kernel⟩
def Gi (K:PySem.W.Frag) (T:fC):Sp:=fun vs H Q _=>∃ (b c e d:Addr) (xs:List Int) (rs us ts:List V) (ls:List Lic) (ps ms:List (Int × Int × Int)),vs=[.ref b,.ref c,.ref e,.ref d]∧SqL K H b rs∧bM K H rs (ls.map qI)∧ls.length≤100∧SqL K H c us∧bM K H us (ps.map dMv)∧ps.length≤1000∧SqL K H e ts∧bM K H ts (ms.map dMv)∧ms.length≤1000∧SqL K H d (xs.map V.int)∧xs.length=ls.length∧TabsOk T H∧∀ H',bB T H H'→Q (.int (rF ls ps xs ms)) H'
theorem Ql {f:Addr} {fd:FuncData} (D:Df K mg "_law_used" dw ["roll","ponds","lets","takes"] f fd) (B:Blt mg):bR P w K mg base CX0 1 f fd ["roll","ponds","lets","takes"] (Gi K T):=by
  refine D.F.ok je (fun vs H Q E h=>?_) (fun cdv A outer s H vs Q E hr h=>?_)
  · obtain ⟨_,_,_,_,_,_,_,_,_,_,_,rfl,_⟩:=h;rfl
  · obtain ⟨b,c,e,d,xs,rs,us,ts,ls,ps,ms,rfl,hB,d0,hl1,hC,d1,hp1,hE,d2,hm1,hD,hxl,tk,q⟩:=h
    have hrl:rs.length=ls.length:=by rw [d0.length,List.length_map]
    have hul:us.length=ps.length:=by rw [d1.length,List.length_map]
    have htl:ts.length=ms.length:=by rw [d2.length,List.length_map]
    refine ⟨_,(aq (fZ (i:=4) (ao dw) rfl ["roll","ponds","lets","takes","keepers","used","k"] rfl ["pond"] [none] (by decide +kernel) (by decide +kernel) (by decide +kernel) rfl je.nd rfl rfl (bO (pv 1)) (fun _ _ _=>(aF (i:=0) (show (["pond"]:List Str).Nodup by decide +kernel) rfl (Or.inl rfl))) (fun _ _ _=>iz) (fun _ _ _=>(aL (lA (K:=K) rfl) (pv 0) aA (fun _ _=>rfl))) rfl)
      (aq (aR (i:=5) je.nd rfl (Or.inl rfl) (aN (fB rfl) rfl B.sum PyProof.Rows.boot_sum (ak (iC (ao dw) rfl ["roll","ponds","lets","takes","keepers","used","k"] rfl ["let"] [none] (by decide +kernel) (by decide +kernel) (by decide +kernel) rfl (bO (pv 2)) (fun _ _ _=>(aF (i:=0) (show (["let"]:List Str).Nodup by decide +kernel) rfl (Or.inl rfl))) (fun _ _ _=>(kO (aW oZ (aL (lA (K:=K) rfl) (pv 0) aA (fun _ _=>rfl)) (mZ jH aA) (bx _)))) (fun _ _ _=>(aL (lA (K:=K) rfl) (pv 0) aA (fun _ _=>rfl)))) au)))
      (aq (dH PassesOwn.never rfl (cZ rfl B.range (ak (aN aM rfl B.len PySem.boot_len (ak (pv 0) au)) au)) (aF (i:=6) je.nd rfl (Or.inl rfl))
        (aB (gZ (PW.pt (pw_and (aW jZ (aL cD (aL aG (pv 0) (pv 6) (fun _ _=>rfl)) aA (fun _ _=>rfl)) (mZ jH aA) (bx _)) (pw_and1 (aW jO (pv 6) (pv 4) (by rfl)))))
          (aB (aR (i:=5) je.nd rfl (Or.inl rfl) (aQ dz (pv 5) (aL aG (pv 3) (pv 6) (fun _ _=>rfl)))))
          bY)))
      (aB (aZ (pv 5)))))),?_⟩
    refine V1 ?_
    intro zu0 zu1 zu2 zu3 zu4
    have O:=Ow.refl tk
    refine ⟨_,rfl,c,rfl,⟨_,hC⟩,fun lk hlk=>?_⟩
    refine dI (K:=K) (xs:=us) (fun i τ H'=>Iv (∃ (v0:Option V),τ=[v0]∧Ow T H H' [(lk,.lst (((ps.take i).map (·.1)).map V.int))]))
      ⟨trivial,none,rfl,O.mk' hlk rfl⟩ (fun _ _ _ _ ⟨_,_,_,O⟩=>O.same.seq hC) ?_ ?_
    · clear O
      rintro i y τ H3 hy ⟨-,v0,rfl,O⟩
      obtain ⟨ap,p,rfl,hp,hT⟩:=d1.jQ hy
      have hi:=(List.getElem?_eq_some_iff.mp hp).1
      refine zF ?_
      refine ⟨_,rfl,ap,_,0,_,rfl,rfl,hT.mo O.same,rfl,_,O.get 0,aP (by rw [List.length_map,List.length_map,List.length_take];omega),?_⟩
      walk_at "pt"
      refine ⟨trivial,_,rfl,?_⟩
      rw [List.take_add_one,hp,List.map_append,List.map_append];exact O
    clear O
    rintro τ H3 ⟨-,v0,rfl,O⟩
    rw [hul,List.take_length] at O
    refine ⟨_,rfl,e,rfl,⟨_,O.same.seq hE⟩,fun l2 hl2=>?_⟩
    refine dI (K:=K) (xs:=ts) (fun i τ H'=>Iv (∃ (v0:Option V),τ=[v0]∧Ow T H H' [(l2,.lst ((zG (ms.take i)).map V.int)),(lk,.lst ((ps.map (·.1)).map V.int))]))
      ⟨trivial,none,rfl,O.mk' hl2 rfl⟩ (fun _ _ _ _ ⟨_,_,_,O⟩=>O.same.seq hE) ?_ ?_
    · clear O
      rintro i y τ H6 hy ⟨-,v0,rfl,O⟩
      obtain ⟨am,m,rfl,hm,hTm⟩:=d2.jQ hy
      have hi:=(List.getElem?_eq_some_iff.mp hm).1
      have hfl2:=zT (ms.take i)
      rw [List.length_take] at hfl2
      have hnx:=wY hm
      refine ⟨_,rfl,am,_,1,_,rfl,rfl,hTm.mo O.same,rfl,_,rfl,rfl,_,rfl,ifN (ifI (fun hc=>?_) fun hc=>?_)⟩
      · refine ⟨trivial,_,rfl,?_⟩
        rw [hnx,if_pos hc,List.append_nil];exact O
      · refine ⟨_,rfl,am,_,2,_,rfl,rfl,hTm.mo O.same,rfl,_,O.get 0,aP (by rw [List.length_map];omega),?_⟩
        walk_at "pt"
        refine ⟨trivial,_,rfl,?_⟩
        rw [hnx,if_neg hc,List.map_append];exact O
    clear O
    rintro τ H6 ⟨-,v0,rfl,O⟩
    rw [htl,List.take_length] at O
    refine ⟨l2,_,rfl,O.sq 0,?_⟩
    have O:=O.tail
    refine ⟨_,rfl,b,_,rfl,.inl (O.same.seq hB),(rs.length:Int),rfl,by omega,by omega,?_⟩
    rw [Int.toNat_natCast,hrl]
    refine jL (n:=ls.length) (fun i σ H'=>Iv (∃ (v6:Option V),σ=[some (.ref b),some (.ref c),some (.ref e),some (.ref d),some (.ref lk),some (.int ((zG ms).sum + ((tK ls ps i).map fun j=>xs.getD j 0).sum)),v6]∧Ow T H H' [(lk,.lst ((ps.map (·.1)).map V.int))]))
      ⟨trivial,none,(by show _=_;rw [show ((tK ls ps 0).map fun j=>xs.getD j 0).sum=0 from rfl,Int.add_zero];rfl),O⟩ ?_ ?_
    · clear O
      rintro i σ H7 hi ⟨-,v6,rfl,O⟩
      rw [show (0:Int) + (i:Int)=(i:Int) by omega]
      obtain ⟨l,hl⟩:∃ l,ls[i]?=some l:=⟨_,List.getElem?_eq_getElem hi⟩
      obtain ⟨al,hal,hTl⟩:=d0.oV hl
      have hsu:=rE ls ps i
      rw [hl] at hsu
      refine ⟨_,rfl,_,rfl,b,_,_,_,rfl,rfl,O.same.seq hB,cN hal,al,_,2,_,rfl,rfl,hTl.mo O.same,rfl,_,rfl,rfl,_,rfl,ifI (fun hc=>?_) fun hc=>pA ⟨trivial,_,(by rw [hsu,if_neg (by simp [hc]),List.append_nil];rfl),O⟩⟩
      refine ⟨_,rfl,_,rfl,lk,_,rfl,.inl (O.sq 0),rfl,nO _,_,rfl,?_⟩
      rw [if_pos rfl,sI]
      refine ifN (ifD (fun hm=>?_) fun hm=>?_)
      · exact ⟨trivial,_,(by rw [hsu,if_neg (by simp [hm]),List.append_nil];rfl),O⟩
      · refine ⟨_,rfl,_,rfl,_,rfl,d,_,_,_,rfl,rfl,O.same.seq hD,bZ (bh (ns:=xs) (k:=i) (by omega)),_,_,rfl,rfl,?_⟩
        refine ⟨trivial,some (.int (i:Int)),?_,O⟩
        have e9:((tK ls ps (i + 1)).map fun j=>xs.getD j 0).sum=((tK ls ps i).map fun j=>xs.getD j 0).sum + xs.getD i 0:=by
          rw [hsu,if_pos (by simp [hc,hm]),List.map_append,List.sum_append]
          show _ + (xs.getD i 0 + 0)=_
          rw [Int.add_zero]
        rw [e9,← Int.add_assoc];rfl
    clear O
    rintro σ H7 ⟨-,v6,rfl,O⟩
    refine ⟨_,rfl,?_⟩
    rw [show (zG ms).sum + ((tK ls ps ls.length).map fun j=>xs.getD j 0).sum=rF ls ps xs ms by unfold rF;omega]
    exact q _ O.same
theorem Wq {x y w:Int} (h0:0≤w) (h1:w<2):∃ v:Int,atI [V.int x,V.int y] w=some (V.int v)∧(v=x∨v=y):=by
  rcases (by omega:w=0∨w=1) with rfl | rfl
  · exact ⟨x,rfl,.inl rfl⟩
  · exact ⟨y,rfl,.inr rfl⟩
abbrev fu:Stmt:=top 56
theorem dh:aX ["cells","number","below","roll","ponds","kept","kind","springs","xs","calls","left","lets","cell","ys","pond","way"] ["cells","number","below","roll","ponds","kept","kind"] (ao fu):=⟨rfl,rfl,rfl,by decide +kernel,rfl,by decide +kernel,by decide +kernel⟩
def Py (K:PySem.W.Frag) (T:fC):Sp:=fun vs H Q _=>∃ (u a b c e:Addr) (num kd:Int) (qs r ks:List Int) (rs us:List V) (ls:List Lic) (ps:List (Int × Int × Int)),vs=[.ref u,.int num,.ref a,.ref b,.ref c,.ref e,.int kd]∧SqL K H u (qs.map V.int)∧qs.length≤100∧SqL K H a (r.map V.int)∧Rv.dJ r∧1≤r.length∧r.length≤900∧SqL K H b rs∧bM K H rs (ls.map qI)∧ls.length≤60∧(∀ l∈ls,rA r l)∧SqL K H c us∧bM K H us (ps.map dMv)∧qy ls ps∧SqL K H e (ks.map V.int)∧ks.length=ps.length∧(∀ x∈ks,0≤x)∧TabsOk T H ∧
  ∀ (t lg lc lt lf:Addr) (H1 H':Hp) (s cs:List Int) (ts:List V) (ms:List (Int × Int × Int)),bB T H H1→Ow T H1 H' [(t,.tup [.ref lg,.ref lc,.ref lt,.ref lf]),(lt,.lst ts),(lf,.lst ((bN ks ms).map V.int)),(lc,.lst (cs.map V.int)),(lg,.lst (s.map V.int))]→bM K H1 ts (ms.map dMv)→s.length=r.length→(∀ x∈s,0≤x)→cs.length=ls.length→(∀ x∈cs,0≤x)→ms.length≤100→uX r ls ps ks ms→(∀ x∈bN ks ms,0≤x)→Q (.ref t) H'
theorem Wx {f f1 f2 f3 f4:Addr} {fd fd1 fd2 fd3 fd4:FuncData} (D:Df K mg "_law_day" fu ["cells","number","below","roll","ponds","kept","kind"] f fd) (B:Blt mg) (aJ:Df K mg "_law_draws" bW ["cell","many"] f1 fd1) (cg:bR P w K mg base CX0 1 f1 fd1 ["cell","many"] (uq T))
    (dN:Df K mg "_law_way" fY ["below","start"] f2 fd2) (oH:bR P w K mg base CX0 1 f2 fd2 ["below","start"] (vO K T))
    (bK:Df K mg "_law_some" eH ["number","most"] f3 fd3) (lG:bR P w K mg base CX0 1 f3 fd3 ["number","most"] Ak)
    (aU:Df K mg "_law_amount" bV ["number","kind"] f4 fd4) (eV:bR P w K mg base CX0 1 f4 fd4 ["number","kind"] xR):bR P w K mg base CX0 2 f fd ["cells","number","below","roll","ponds","kept","kind"] (Py K T):=by
  refine D.F.ok dh (fun vs H Q E h=>?_) (fun cdv A outer s H vs Q E hr h=>?_)
  · obtain ⟨_,_,_,_,_,_,_,_,_,_,_,_,_,_,rfl,_⟩:=h;rfl
  · obtain ⟨u,lv,lr,lp,lk,num,kd,qs,r,ks,rs,us,ls,ps,rfl,hU,hql,hV,hR,r1,r9,hL,d0,l60,hok,hC,d1,PO,hK,hkl,hk0,tk,q⟩:=h
    have hu:=hr.units
    have hrl:rs.length=ls.length:=by rw [d0.length,List.length_map]
    have hul:us.length=ps.length:=by rw [d1.length,List.length_map]
    have hpl:=PO.len
    have hml:((r.map V.int).length:Int)=(r.length:Int):=by rw [List.length_map]
    have e12:(10:Int) ^ (12:Int).toNat=1000000000000:=by decide
    have O:=Ow.refl tk
    refine ⟨_,(aq (fZ (i:=7) (ao fu) rfl ["cells","number","below","roll","ponds","kept","kind","springs","xs","calls","left","lets","cell","ys","pond","way"] rfl ["x","kind"] [none,some 6] (by decide +kernel) (by decide +kernel) (by decide +kernel) rfl dh.nd rfl rfl (bO (aK cg (hr.mono (by decide)) rfl aJ.m aJ.F.kp aJ.b .nil bC (ak (pv 1) (ak (aN aM rfl B.len PySem.boot_len (ak (pv 2) au)) au)))) (fun _ _ _=>(aF (i:=0) (show (["x","kind"]:List Str).Nodup by decide +kernel) rfl (Or.inl rfl))) (fun _ _ _=>iz) (fun _ _ _=>(aK eV (hr.mono (by decide)) rfl aU.m aU.F.kp aU.b .nil bC (ak (pv 0) (ak (pv 1) au)))) rfl)
      (aq (aR (i:=8) dh.nd rfl (Or.inr rfl) (aK cg (hr.mono (by decide)) rfl aJ.m aJ.F.kp aJ.b .nil bC (ak (aQ dz (pv 1) aA) (ak (aN aM rfl B.len PySem.boot_len (ak (pv 3) au)) au))))
      (aq (fZ (i:=9) (ao fu) rfl ["cells","number","below","roll","ponds","kept","kind","springs","xs","calls","left","lets","cell","ys","pond","way"] rfl ["k","xs","number","roll"] [none,some 8,some 1,some 3] (by decide +kernel) (by decide +kernel) (by decide +kernel) rfl dh.nd rfl rfl (cZ rfl B.range (ak (aN aM rfl B.len PySem.boot_len (ak (pv 3) au)) au)) (fun _ _ _=>(aF (i:=0) (show (["k","xs","number","roll"]:List Str).Nodup by decide +kernel) rfl (Or.inl rfl))) (fun _ _ _=>iz) (fun _ _ _=>(aK lG (hr.mono (by decide)) rfl bK.m bK.F.kp bK.b .nil bC (ak (aL (bQ (K:=K) rfl) (pv 1) (pv 0) (fun _ _=>rfl)) (ak (aL (bQ (K:=K) rfl) (eZ (ak (aL (lA (K:=K) rfl) (aL (bQ (K:=K) rfl) (pv 3) (pv 0) (fun _ _=>rfl)) aA (fun _ _=>rfl)) (ak (aQ xX aA aA) au))) (aQ bJ (pv 2) aA) (fun _ _=>rfl)) au)))) rfl)
      (aq (aR (i:=10) dh.nd rfl (Or.inl rfl) (bI bf rfl B.list PyProof.Rows.boot_list (ak (pv 5) au)))
      (aq (aR (i:=11) dh.nd rfl (Or.inl rfl) (eZ au))
      (aq (dH PassesOwn.never rfl (bO (pv 0)) (aF (i:=12) dh.nd rfl (Or.inl rfl))
        (aq (aR (i:=13) dh.nd rfl (Or.inl rfl) (aK cg (hr.mono (by decide)) rfl aJ.m aJ.F.kp aJ.b .nil bC (ak (pv 12) (ak aA au))))
        (aB (gZ (aW jZ (aQ bJ (aL aG (pv 13) aA (fun _ _=>rfl)) aA) aA (bx _))
          (aB (iD (aK eV (hr.mono (by decide)) rfl aU.m aU.F.kp aU.b .nil bC (ak (aL aG (pv 13) aA (fun _ _=>rfl)) (ak (pv 6) au))) (pX (pv 7) (aQ bJ (aL aG (pv 13) aA (fun _ _=>rfl)) (aN aM rfl B.len PySem.boot_len (ak (pv 2) au))) set_list)))
          (aB (gZ (PW.pt (pw_and (aW jZ (aQ bJ (aL aG (pv 13) aA (fun _ _=>rfl)) aA) aA (bx _)) (pw_and1 (aW (Br hu) (pv 3) (eZ au) (bx _)))))
            (aB (iD (aK eV (hr.mono (by decide)) rfl aU.m aU.F.kp aU.b .nil bC (ak (aL aG (pv 13) aA (fun _ _=>rfl)) (ak (pv 6) au))) (pX (pv 9) (aQ bJ (aL aG (pv 13) aA (fun _ _=>rfl)) (aN aM rfl B.len PySem.boot_len (ak (pv 3) au))) set_list)))
            (aB (gZ (PW.pt (pw_and (aW wg (aQ bJ (aL aG (pv 13) aA (fun _ _=>rfl)) aA) aA (bx _)) (pw_and1 (aW (Br hu) (pv 4) (eZ au) (bx _)))))
              (aq (aR (i:=14) dh.nd rfl (Or.inl rfl) (aQ bJ (aL aG (pv 13) aA (fun _ _=>rfl)) (aN aM rfl B.len PySem.boot_len (ak (pv 4) au))))
              (aq (aR (i:=15) dh.nd rfl (Or.inl rfl) (aQ GF (eZ (ak (mZ jH aA) au)) (aK oH (hr.mono (by decide)) rfl dN.m dN.F.kp dN.b .nil bC (ak (pv 2) (ak (aL cD (aL aG (pv 3) (aL cD (aL aG (pv 4) (pv 14) (fun _ _=>rfl)) aA (fun _ _=>rfl)) (fun _ _=>rfl)) aA (fun _ _=>rfl)) au)))))
              (aq (eN (mK PySem.F.plainAttrs_list PySem.F.slot_list_append PySem.F.type_list_append cC (pv 11) (ak (jJ (ak (pv 14) (ak (aL aG (pv 15) (aQ bJ (aL aG (pv 13) aA (fun _ _=>rfl)) (aN aM rfl B.len PySem.boot_len (ak (pv 15) au))) (fun _ _=>rfl)) (ak (aK lG (hr.mono (by decide)) rfl bK.m bK.F.kp bK.b .nil bC (ak (aL aG (pv 13) aA (fun _ _=>rfl)) (ak (aL aG (pv 10) (pv 14) (fun _ _=>rfl)) au))) au)))) au)))
              (aB (iD (aQ lH (aL aG (pv 10) (pv 14) (fun _ _=>rfl)) (aL cD (aL aG (pv 11) (mZ jH aA) (fun _ _=>rfl)) aA (fun _ _=>rfl))) (pX (pv 10) (pv 14) set_list))))))
              bY))))))))
      (aB (aZ (jJ (ak (pv 7) (ak (pv 9) (ak (pv 11) (ak (pv 10) au))))))))))))),?_⟩
    refine V0 ?_
    intro zu0 zu1 zu2 zu3 zu4 zu5 zu6 zu7 zu8 zu9 zu10 zu11 zu12 zu13 zu14 zu15
    /- springs -/
    refine ⟨_,rfl,_,rfl,lv,_,rfl,.inl hV,num,_,rfl,by rw [hml];omega,by rw [hml];omega,tk,O.qF fun lz H12 xs O e=>?_⟩
    obtain ⟨zs,rfl,hzl,-⟩:=e
    rw [hml,Int.toNat_natCast] at hzl
    refine ⟨lz,rfl,⟨_,O.sq 0⟩,fun lg hlg=>?_⟩
    refine dI (K:=K) (xs:=zs.map V.int) (fun i τ H'=>Iv (∃ (v0:Option V) (gs:List Int),τ=[v0,some (.int kd)]∧gs.length=i∧(∀ x∈gs,0≤x)∧Ow T H H' [(lg,.lst (gs.map V.int)),(lz,.lst (zs.map V.int))]))
      ⟨trivial,none,[],rfl,rfl,(fun x hx=>nomatch hx),O.mk' hlg rfl⟩ (fun _ _ _ _ ⟨_,_,_,_,_,_,O⟩=>O.sq 1) ?_ ?_
    · clear O
      rintro i y τ H13 hy ⟨-,v0,gs,rfl,hgi,hg0,O⟩
      obtain ⟨z,hz,rfl⟩:=ints_get hy
      have hi:=(List.getElem?_eq_some_iff.mp hz).1
      refine zF ?_
      refine ⟨_,rfl,_,rfl,_,_,rfl,fun x x0 x1=>?_⟩
      refine ⟨_,O.get 0,aP (by rw [List.length_map];omega),?_⟩
      walk_at "pt"
      rw [nG] at O
      refine ⟨trivial,_,gs++[x],rfl,by rw [List.length_append,hgi];rfl,fun u hu=>?_,O⟩
      rcases List.mem_append.mp hu with e | e
      · exact hg0 u e
      · have e2:u=x:=by simpa using e
        rw [e2];exact x0
    clear O
    rintro τ H13 ⟨-,v0,sp,rfl,hspl,hsp0,O⟩
    rw [List.length_map,hzl] at hspl
    have O:=O.two
    /- calls -/
    refine ⟨_,rfl,_,_,rfl,rfl,_,rfl,lr,_,rfl,.inl (O.same.seq hL),_,_,rfl,by omega,by omega,O.same.t1,O.qF fun ly H15 xs O e=>?_⟩
    obtain ⟨ys,rfl,hyl,-⟩:=e
    rw [Int.toNat_natCast] at hyl
    refine ⟨_,rfl,lr,_,rfl,.inl (O.same.seq hL),(rs.length:Int),rfl,by omega,by omega,fun lc hlc=>?_⟩
    rw [Int.toNat_natCast]
    refine iK (n:=rs.length) (fun i τ H'=>Iv (∃ (v0:Option V) (cs:List Int),τ=[v0,some (.ref ly),some (.int num),some (.ref lr)]∧cs.length=i∧(∀ x∈cs,0≤x)∧Ow T H H' [(lc,.lst (cs.map V.int)),(ly,.lst (ys.map V.int)),(lg,.lst (sp.map V.int))]))
      ⟨trivial,none,[],rfl,rfl,(fun x hx=>nomatch hx),O.mk' hlc rfl⟩ ?_ ?_
    · clear O
      rintro i τ H16 hi ⟨-,v0,cs,rfl,hci,hc0,O⟩
      rw [show (0:Int) + (i:Int)=(i:Int) by omega]
      obtain ⟨li,hli⟩:∃ li,ls[i]?=some li:=⟨_,List.getElem?_eq_getElem (by omega)⟩
      obtain ⟨al,hal,hT⟩:=d0.oV hli
      have hmo:=(hok li (List.mem_of_getElem? hli)).2
      have b0:=Int.emod_nonneg num (show (2:Int)≠0 by decide)
      have b1:=Int.emod_lt_of_pos num (show (0:Int)<2 by decide)
      obtain ⟨v,hv,hv2⟩:=Wq (x:=li.most) (y:=1000000000000) b0 b1
      refine zF ?_
      refine ⟨_,rfl,_,rfl,ly,_,_,_,rfl,rfl,O.sq 1,bZ (bh (ns:=ys) (k:=i) (by omega)),_,rfl,_,rfl,lr,_,_,_,rfl,rfl,O.same.seq hL,cN hal,al,_,3,_,rfl,rfl,hT.mo O.same,rfl,_,_,rfl,rfl,⟨by decide,by decide,by decide⟩,szl,fun l2 hl2=>?_⟩
      walk_at "nw"
      dsimp only at O
      rw [e12] at O
      refine ⟨_,rfl,_,_,rfl,rfl,(by show (0:Int)<2;decide),l2,_,_,_,rfl,rfl,O.sq 0,hv,_,v,rfl,by omega,fun x x0 x1=>?_⟩
      have O:=O.tail
      refine ⟨_,O.get 0,aP (by rw [List.length_map];omega),?_⟩
      walk_at "pt"
      rw [nG] at O
      refine ⟨trivial,_,cs++[x],rfl,by rw [List.length_append,hci];rfl,fun u hu=>?_,O⟩
      rcases List.mem_append.mp hu with e | e
      · exact hc0 u e
      · have e2:u=x:=by simpa using e
        rw [e2];exact x0
    clear O
    rintro τ H16 ⟨-,v0,cs,rfl,hcl,hc0,O⟩
    rw [hrl] at hcl
    have O:=O.two
    /- left, lets -/
    refine ⟨_,rfl,lk,_,rfl,.inl (O.same.seq hK),fun lf hlf=>?_⟩
    walk_at "nw"
    refine ⟨szl,fun lt hlt=>?_⟩
    walk_at "nw"
    refine ⟨_,rfl,u,rfl,⟨_,O.same.seq hU⟩,?_⟩
    refine eU (K:=K) (xs:=qs.map V.int) (fun i σ H'=>Iv (∃ (Hb:Hp) (ts:List V) (ms:List (Int × Int × Int)) (s' cs':List Int) (v12 v13 v14 v15:Option V),σ=[some (.ref u),some (.int num),some (.ref lv),some (.ref lr),some (.ref lp),some (.ref lk),some (.int kd),some (.ref lg),some (.ref ly),some (.ref lc),some (.ref lf),some (.ref lt),v12,v13,v14,v15] ∧
      Ow T Hb H' [(lt,.lst ts),(lf,.lst ((bN ks ms).map V.int)),(lc,.lst (cs'.map V.int)),(lg,.lst (s'.map V.int))]∧bB T H Hb∧bM K Hb ts (ms.map dMv)∧s'.length=r.length∧(∀ x∈s',0≤x)∧cs'.length=ls.length∧(∀ x∈cs',0≤x)∧ms.length≤i∧uX r ls ps ks ms∧∀ z∈bN ks ms,0≤z))
      ⟨trivial,H,[],[],sp,cs,none,none,none,none,rfl,O,bB.refl O.same.t0,.nil,hspl,hsp0,hcl,hc0,Nat.le_refl _,(fun i m h=>by simp at h),hk0⟩ (fun i σ H' _ ⟨_,_,_,_,_,_,_,_,_,_,_,O,sb,_⟩=>(sb.trans O.same).seq hU) ?_ ?_
    · clear O
      rintro i y σ H14 hy ⟨-,Hb,ts,ms,s',cs',v12,v13,v14,v15,rfl,O,sb,d2,hs',sn,hc',cn,hmi,LO,hl0⟩
      obtain ⟨z,hz,rfl⟩:=ints_get hy
      have hi:=(List.getElem?_eq_some_iff.mp hz).1
      have htl:ts.length=ms.length:=by rw [d2.length,List.length_map]
      refine ⟨_,rfl,z,5,rfl,by decide,by decide,O.same.t1,O.qF fun lx H15 xs O e=>?_⟩
      obtain ⟨ys2,rfl,hyl2,-⟩:=e
      have hyl2:ys2.length=5:=hyl2
      have y0:=aV (ns:=ys2) (i:=0) (by omega) (by omega)
      refine ⟨_,rfl,lx,_,0,_,rfl,rfl,O.sq 0,y0,_,_,rfl,rfl,(by show (0:Int)<5;decide),rfl,_,rfl,ifI (fun hc=>?_) fun hc=>?_⟩
      · have j0:=Int.emod_nonneg (ys2.getD (1:Int).toNat 0) (show (r.length:Int)≠0 by omega)
        have j1:=Int.emod_lt_of_pos (ys2.getD (1:Int).toNat 0) (show (0:Int)<(r.length:Int) by omega)
        refine ⟨_,rfl,lx,_,2,_,rfl,rfl,O.sq 0,aV (by omega) (by omega),_,rfl,_,_,rfl,fun x x0 x1=>?_⟩
        refine ⟨_,rfl,_,rfl,lx,_,1,_,rfl,rfl,O.sq 0,aV (by omega) (by omega),_,rfl,lv,_,rfl,.inl ((sb.trans O.same).seq hV),_,_,rfl,rfl,(by rw [hml];omega),?_⟩
        dsimp only
        rw [hml]
        refine pZ O 4 rfl (Cm j0 (by rw [List.length_map,hs'];exact j1)) fun H5 O=>?_
        refine ⟨trivial,Hb,ts,ms,s'.set (ys2.getD (1:Int).toNat 0 % (r.length:Int)).toNat x,cs',_,_,_,_,rfl,?_,sb,d2,by rw [List.length_set];exact hs',Ay sn x0,hc',cn,by omega,LO,hl0⟩
        rw [List.map_set];exact O.tail
      refine ⟨_,rfl,lx,_,0,_,rfl,rfl,O.sq 0,y0,_,_,rfl,rfl,(by show (0:Int)<5;decide),rfl,_,rfl,ifI (fun hc2=>?_) fun hc2=>pA ?_⟩
      · refine ⟨_,rfl,szl,fun l0 h0=>?_⟩
        walk_at "nw"
        refine ⟨_,_,Den.list ((sb.trans O.same).seq hL) ((d0.mo sb).mo O.same),Den.list (ds:=[]) (O.sq 0) .nil,(Sh.roll 0 ls).ok (by decide),(Sh.mvs 0 []).ok (by decide),?_⟩
        have O:=O.tail
        rw [if_pos rfl,CG]
        refine ⟨_,rfl,ifN (ifD (fun he=>?_) fun he=>?_)⟩
        · refine ⟨_,rfl,lx,_,0,_,rfl,rfl,O.sq 0,y0,_,_,rfl,rfl,(by show (0:Int)<5;decide),_,_,rfl,rfl,_,rfl,ifD (fun hc3=>absurd hc3 (by omega)) fun hc3=>pA ⟨trivial,Hb,ts,ms,s',cs',_,_,_,_,rfl,O.tail,sb,d2,hs',sn,hc',cn,by omega,LO,hl0⟩⟩
        have j0:=Int.emod_nonneg (ys2.getD (1:Int).toNat 0) (show (rs.length:Int)≠0 by omega)
        have j1:=Int.emod_lt_of_pos (ys2.getD (1:Int).toNat 0) (show (0:Int)<(rs.length:Int) by omega)
        refine ⟨_,rfl,lx,_,2,_,rfl,rfl,O.sq 0,aV (by omega) (by omega),_,rfl,_,_,rfl,fun x x0 x1=>?_⟩
        refine ⟨_,rfl,_,rfl,lx,_,1,_,rfl,rfl,O.sq 0,aV (by omega) (by omega),_,rfl,lr,_,rfl,.inl ((sb.trans O.same).seq hL),_,_,rfl,rfl,(by show (0:Int)<(rs.length:Int);omega),?_⟩
        refine pZ O 3 rfl (Cm j0 (by rw [List.length_map];omega)) fun H5 O=>?_
        refine ⟨trivial,Hb,ts,ms,s',cs'.set (ys2.getD (1:Int).toNat 0 % (rs.length:Int)).toNat x,_,_,_,_,rfl,?_,sb,d2,hs',sn,by rw [List.length_set];exact hc',Ay cn x0,by omega,LO,hl0⟩
        rw [List.map_set];exact O.tail
      refine ⟨_,rfl,lx,_,0,_,rfl,rfl,O.sq 0,y0,_,_,rfl,rfl,(by show (0:Int)<5;decide),_,_,rfl,rfl,_,rfl,ifD (fun hc3=>?_) fun hc3=>pA ⟨trivial,Hb,ts,ms,s',cs',_,_,_,_,rfl,O.tail,sb,d2,hs',sn,hc',cn,by omega,LO,hl0⟩⟩
      refine ⟨_,rfl,szl,fun l0 h0=>?_⟩
      walk_at "nw"
      refine ⟨_,_,Den.list ((sb.trans O.same).seq hC) ((d1.mo sb).mo O.same),Den.list (ds:=[]) (O.sq 0) .nil,(Sh.mvs 0 ps).ok (by decide),(Sh.mvs 0 []).ok (by decide),?_⟩
      have O:=O.tail
      rw [if_pos rfl,show PyData.eqv (.list (ps.map dMv)) (.list [])=decide (ps=[]) from Fx ps]
      refine ⟨_,rfl,ifN (ifD (fun he=>?_) fun he=>?_)⟩
      · exact ⟨trivial,Hb,ts,ms,s',cs',_,_,_,_,rfl,O.tail,sb,d2,hs',sn,hc',cn,by omega,LO,hl0⟩
      have hps:0<ps.length:=List.length_pos_iff.mpr he
      have q0:=Int.emod_nonneg (ys2.getD (2:Int).toNat 0) (show (us.length:Int)≠0 by omega)
      have q1:=Int.emod_lt_of_pos (ys2.getD (2:Int).toNat 0) (show (0:Int)<(us.length:Int) by omega)
      refine ⟨_,rfl,lx,_,2,_,rfl,rfl,O.sq 0,aV (by omega) (by omega),_,rfl,lp,_,rfl,.inl ((sb.trans O.same).seq hC),_,_,rfl,rfl,(by show (0:Int)<(us.length:Int);omega),?_⟩
      dsimp only
      generalize ys2.getD (2:Int).toNat 0 % (us.length:Int)=pn at q0 q1
      obtain ⟨n,rfl⟩:=Int.eq_ofNat_of_zero_le q0
      obtain ⟨u1,hu1⟩:∃ u,us[n]?=some u:=⟨_,List.getElem?_eq_getElem (by omega)⟩
      obtain ⟨ap,p,rfl,hp,hTp⟩:=d1.jQ hu1
      have hpr:=PO.rg p (List.mem_of_getElem? hp)
      have p0:=hpr.1
      obtain ⟨pi,pr,pk⟩:=p
      dsimp only at hpr p0
      obtain ⟨pm,rfl⟩:=Int.eq_ofNat_of_zero_le p0
      obtain ⟨l,hl⟩:∃ l,ls[pm]?=some l:=⟨_,List.getElem?_eq_getElem (by omega)⟩
      obtain ⟨al,hal,hTl⟩:=d0.oV hl
      obtain ⟨lb0,lb1,_⟩:=(hok l (List.mem_of_getElem? hl)).1
      refine ⟨_,rfl,szl,fun l5 h5=>?_⟩
      walk_at "nw"
      refine ⟨_,rfl,_,rfl,_,rfl,_,rfl,lp,_,_,_,rfl,rfl,(sb.trans O.same).seq hC,cN hu1,ap,_,0,_,rfl,rfl,(hTp.mo sb).mo O.same,rfl,lr,_,_,_,rfl,rfl,(sb.trans O.same).seq hL,cN hal,al,_,1,_,rfl,rfl,(hTl.mo sb).mo O.same,rfl,lv,r,l.start,rfl,(sb.trans O.same).seq hV,hR,lb0,lb1,by omega,O.same.t1,O.qF fun lw H16 xs O e=>?_⟩
      subst e
      have hwk:=Rv.rD r l.start
      refine ⟨l5,lw,_,_,rfl,rfl,O.get 1,O.get 0,kE (by simp only [List.length_map,List.length_cons,List.length_nil];omega),fun l6 h6=>?_⟩
      walk_at "nw"
      obtain ⟨ww,hww⟩:∃ ww,ww=(-1) :: Rv.walk r l.start:=⟨_,rfl⟩
      rw [show [V.int (-1)]++(Rv.walk r l.start).map V.int=ww.map V.int by rw [hww];rfl] at O
      have hwm:((ww.map V.int).length:Int)=(ww.length:Int):=by rw [List.length_map]
      have hw1:1≤ww.length:=by rw [hww];exact Nat.succ_le_succ (Nat.zero_le _)
      have O:=(O.del 1).del 1
      walk_at "er"
      have hlf:=j4 ms ks
      have hg0:0≤(bN ks ms).getD n 0:=hl0 _ (getD_mem' (by omega))
      have j0:=Int.emod_nonneg (ys2.getD (1:Int).toNat 0) (show (ww.length:Int)≠0 by omega)
      have j1:=Int.emod_lt_of_pos (ys2.getD (1:Int).toNat 0) (show (0:Int)<(ww.length:Int) by omega)
      refine ⟨_,rfl,.inl ⟨rfl,_,O.sq 2⟩,_,rfl,_,rfl,_,rfl,lx,_,1,_,rfl,rfl,O.sq 1,aV (by omega) (by omega),_,rfl,l6,_,rfl,.inl (O.sq 0),_,_,rfl,rfl,(by rw [hwm];omega),?_⟩
      dsimp only
      rw [hwm]
      generalize ys2.getD (1:Int).toNat 0 % (ww.length:Int)=j at j0 j1
      refine ⟨l6,_,_,_,rfl,rfl,O.sq 0,aV j0 j1,_,rfl,lx,_,3,_,rfl,rfl,O.sq 1,aV (by omega) (by omega),_,rfl,_,rfl,lf,_,_,_,rfl,rfl,O.sq 3,bZ (bh (ns:=bN ks ms) (k:=n) (by omega)),_,_,rfl,hg0,fun x x0 x1=>?_⟩
      refine ⟨szl,fun t ht=>?_⟩
      walk_at "nw"
      refine ⟨lt,_,_,rfl,rfl,O.get 3,aP (by omega),?_⟩
      walk_at "pt"
      refine ⟨_,rfl,_,rfl,lf,_,_,_,rfl,rfl,O.sq 4,bZ (bh (ns:=bN ks ms) (k:=n) (by omega)),_,rfl,_,rfl,lt,_,_,_,rfl,rfl,O.sq 3,QS _ _,t,_,2,_,rfl,rfl,O.sqT 0,rfl,_,_,rfl,rfl,_,rfl,_,rfl,?_⟩
      refine pZ O 4 rfl (lB (by rw [List.length_map];omega)) fun H17 O=>?_
      rw [← List.map_set] at O
      obtain ⟨Hc,O,sc,en⟩:=O.frz
      have hin:ww.getD j.toNat 0∈ww:=getD_mem' (by omega)
      have LM:wM r ls ps (bN ks ms) ((n:Int),ww.getD j.toNat 0,x):=⟨by show (0:Int)≤(n:Int);omega,⟨_,l,hp,by show (0:Int)≤(pm:Int);omega,hl,lb0,lb1,by rw [hww] at hin ⊢;exact List.mem_cons.mp hin⟩,x0,x1⟩
      refine ⟨trivial,Hc,ts++[.ref t],ms++[((n:Int),ww.getD j.toNat 0,x)],s',cs',_,_,_,_,rfl,?_,sb.trans sc,?_,hs',sn,hc',cn,by rw [List.length_append];show ms.length + 1≤_;omega,LO.snoc LM,?_⟩
      · rw [oG];exact O.tail.tail
      · rw [List.map_append]
        exact (d2.mo sc).append (.cons (Den.mv (m:=((n:Int),ww.getD j.toNat 0,x)) (SqT.of en)) .nil)
      · rw [oG]
        intro z hz
        rcases List.mem_or_eq_of_mem_set hz with e | e
        · exact hl0 z e
        · rw [e]
          show 0≤(bN ks ms).getD n 0 - x
          omega
    clear O
    rintro σ H14 ⟨-,Hb,ts,ms,s',cs',v12,v13,v14,v15,rfl,O,sb,d2,hs',sn,hc',cn,hmi,LO,hl0⟩
    rw [List.length_map] at hmi
    refine ⟨_,rfl,_,rfl,_,rfl,_,rfl,szl,fun t ht=>?_⟩
    walk_at "nw"
    exact q t lg lc lt lf Hb _ s' cs' ts ms sb O d2 hs' sn hc' cn (by omega) LO hl0
theorem yh {cs ks:List Int} {ps:List (Int × Int × Int)} (nd:(ps.map (·.1)).Nodup) (h0:∀ p∈ps,0≤p.1) {j:Nat} (hl:(ps.getD j (0,0,0)).1.toNat<cs.length):∀ i,j<i→i≤ps.length→(kZ cs ps ks i).getD (ps.getD j (0,0,0)).1.toNat 0=min (cs.getD (ps.getD j (0,0,0)).1.toNat 0) ((ps.getD j (0,0,0)).2.1 - ks.getD j 0)
  | 0,h,_=>absurd h (Nat.not_lt_zero _)
  | i + 1,h,hi=>by
    by_cases e:i=j
    · subst e
      rw [kZ,List.getD_eq_getElem?_getD,List.getElem?_set_self (by rw [lV];exact hl)];rfl
    · rw [kZ,List.getD_eq_getElem?_getD,List.getElem?_set_ne (fun z=>QJ nd h0 (show j<i by omega) (show i<ps.length by omega) z.symm),← List.getD_eq_getElem?_getD]
      exact yh nd h0 hl i (by omega) (by omega)
theorem tY {r s:List Int} {ls:List Lic} {ps:List (Int × Int × Int)} {cs zs xs:List Int} (PO:qy ls ps) (hcl:ls.length=cs.length) (D:tH r s ls (kZ cs ps zs ps.length) xs):∀ j,j<ps.length→xs.getD (ps.getD j (0,0,0)).1.toNat 0≤(ps.getD j (0,0,0)).2.1 - zs.getD j 0:=fun j hj=>by
  have ej:ps[j]?=some ps[j]:=List.getElem?_eq_getElem hj
  have g:=PO.rg _ (List.getElem_mem hj)
  have hn:(ps.getD j (0,0,0)).1.toNat<ls.length:=by rw [getD_some ej];omega
  have ha:=yh (cs:=cs) (ks:=zs) PO.nd (fun p hp=>(PO.rg p hp).1) (j:=j) (by omega) ps.length hj (Nat.le_refl _)
  have hle:=D.fit.le _ hn
  have hc:(kZ cs ps zs ps.length)[(ps.getD j (0,0,0)).1.toNat]?=some (min (cs.getD (ps.getD j (0,0,0)).1.toNat 0) ((ps.getD j (0,0,0)).2.1 - zs.getD j 0)):=by
    rw [← ha];exact bh (by rw [lV];omega)
  have hw:=zO (List.getElem?_eq_getElem hn) hc
  unfold Tn.fX at hle
  rw [getD_some hw] at hle
  have m1:=Int.min_le_left (min (cs.getD (ps.getD j (0,0,0)).1.toNat 0) ((ps.getD j (0,0,0)).2.1 - zs.getD j 0)) (ls[(ps.getD j (0,0,0)).1.toNat]'hn).most
  have m2:=Int.min_le_right (cs.getD (ps.getD j (0,0,0)).1.toNat 0) ((ps.getD j (0,0,0)).2.1 - zs.getD j 0)
  exact Int.le_trans hle (Int.le_trans m1 m2)
theorem Oj {ps:List (Int × Int × Int)} {zs xs:List Int} {j:Nat} (hj:j<ps.length):(qw ps zs xs).getD j 0=nM ps zs xs j - jV ps zs xs j:=by
  unfold qw
  rw [List.getD_eq_getElem?_getD,List.getElem?_map,List.getElem?_range hj];rfl
theorem Gd {r s:List Int} {ls:List Lic} {ps:List (Int × Int × Int)} {cs zs xs:List Int} (PO:qy ls ps) (hcl:ls.length=cs.length) (hz:∀ x∈zs,0≤x) (D:tH r s ls (kZ cs ps zs ps.length) xs):∀ j,j<ps.length→(qw ps zs xs).getD j 0≤(ps.getD j (0,0,0)).2.1:=fun j hj=>by
  have h1:=tY PO hcl D j hj
  have h2:=(Oi (fun p hp=>(PO.rg p hp).2.2.2) hz (yC D) hj).1
  rw [Oj hj]
  have h3:nM ps zs xs j=zs.getD j 0 + xs.getD (ps.getD j (0,0,0)).1.toNat 0:=rfl
  omega
theorem Oh (ps:List (Int × Int × Int)) (zs xs:List Int):(qw ps zs xs).length=ps.length:=by
  unfold qw;rw [List.length_map,List.length_range]
def FN (r s:List Int) (ls:List Lic) (ps ms:List (Int × Int × Int)) (ks xs:List Int):PyData:=.tuple [lY xs,lY (qw ps (bN ks ms) xs),lY (Rv.tL r s (mL ls ps xs ms)),dTup (Ot r s ls ps ms ks xs)]
def Fst (K:PySem.W.Frag) (H:Hp) (r:List Int) (rs us:List V) (ls:List Lic) (ps:List (Int × Int × Int)) (lv lr lp lF:Addr):Prop :=
  ∃ (t cp lg lc lt lk:Addr) (s cs ks xs:List Int) (ts:List V) (ms:List (Int × Int × Int)),SqL K H lF [.ref t,.ref cp,.ref lg,.ref lc,.ref lt,.ref lk]∧DIn K H r s rs us ts ls ps ms ks cs lv lg lr lp lk lc lt∧DOk r s ls ps ms ks cs∧tH r s ls (kZ cs ps (bN ks ms) ps.length) xs∧Den K H (.ref t) (FN r s ls ps ms ks xs)∧Den K H (.ref cp) (FN r s ls ps ms ks xs)
theorem Fst.mo {T:fC} {K:PySem.W.Frag} {H H':Hp} {r:List Int} {rs us:List V} {ls:List Lic} {ps:List (Int × Int × Int)} {lv lr lp lF:Addr} (h:Fst K H r rs us ls ps lv lr lp lF) (m:bB T H H'):Fst K H' r rs us ls ps lv lr lp lF:=by
  obtain ⟨t,cp,lg,lc,lt,lk,s,cs,ks,xs,ts,ms,h1,h2,h3,h4,h5,h6⟩:=h
  exact ⟨t,cp,lg,lc,lt,lk,s,cs,ks,xs,ts,ms,m.seq h1,h2.mo m,h3,h4,h5.mo m,h6.mo m⟩
abbrev oY:Stmt:=top 59
theorem fD:aX ["script","kind","below","cells","roll","ponds","xs","kept","many","balance","first","day","springs","calls","lets","left","told","lost","out","again"] ["script"] (ao oY):=⟨rfl,rfl,rfl,by decide +kernel,rfl,by decide +kernel,by decide +kernel⟩
def xM (K:PySem.W.Frag) (T:fC):Sp:=fun vs H Q _=>∃ (a:Addr) (ns:List Int),vs=[.ref a]∧SqL K H a (ns.map V.int)∧ns.length≤63∧TabsOk T H∧∀ H',Q (.bl true) H'
theorem QB {f f1 f2 f3 f4 f5 f6 f7 f8 f9 f10 f11:Addr} {fd fd1 fd2 fd3 fd4 fd5 fd6 fd7 fd8 fd9 fd10 fd11:FuncData} (D:Df K mg "law" oY ["script"] f fd) (B:Blt mg)
    (bG:Df K mg "_law_nth" gH ["script","k"] f1 fd1) (j6:bR P w K mg base CX0 1 f1 fd1 ["script","k"] (Gp K T))
    (gU:Df K mg "_law_river" cW ["cell"] f2 fd2) (vo:bR P w K mg base CX0 2 f2 fd2 ["cell"] (xK T))
    (iT:Df K mg "_law_roll" fM ["cell","cells","below","kind"] f3 fd3) (wR:bR P w K mg base CX0 3 f3 fd3 ["cell","cells","below","kind"] (Gj K T))
    (aJ:Df K mg "_law_draws" bW ["cell","many"] f4 fd4) (cg:bR P w K mg base CX0 1 f4 fd4 ["cell","many"] (uq T))
    (gY:Df K mg "_law_ponds" cY ["xs","roll","kind"] f5 fd5) (vq:bR P w K mg base CX0 2 f5 fd5 ["xs","roll","kind"] (Gm K T))
    (bK:Df K mg "_law_some" eH ["number","most"] f7 fd7) (lG:bR P w K mg base CX0 1 f7 fd7 ["number","most"] Ak)
    (jG:Df K mg "_law_day" fu ["cells","number","below","roll","ponds","kept","kind"] f8 fd8) (zE:bR P w K mg base CX0 2 f8 fd8 ["cells","number","below","roll","ponds","kept","kind"] (Py K T))
    (jA:Df K mg "day_of" jx ["below","springs","roll","ponds","kept","calls","lets"] f9 fd9) (yJ:bR P w K mg base CX0 8 f9 fd9 ["below","springs","roll","ponds","kept","calls","lets"] (xP K T))
    (gW:Df K mg "_law_right" cX ["told","below","roll","ponds"] f10 fd10) (vp:bR P w K mg base CX0 2 f10 fd10 ["told","below","roll","ponds"] (Gk K T))
    (iU:Df K mg "_law_lost" fO ["told","ponds","left"] f11 fd11) (wU:bR P w K mg base CX0 1 f11 fd11 ["told","ponds","left"] (Gu K T))
    (iR:Df K mg "_law_used" dw ["roll","ponds","lets","takes"] f6 fd6) (wQ:bR P w K mg base CX0 1 f6 fd6 ["roll","ponds","lets","takes"] (Gi K T)) :
    bR P w K mg base CX0 9 f fd ["script"] (xM K T):=by
  refine D.F.ok fD (fun vs H Q E h=>?_) (fun cdv A outer s H vs Q E hr h=>?_)
  · obtain ⟨a,ns,rfl,_⟩:=h;rfl
  · obtain ⟨a,ns,rfl,hS,hlen,tk,k⟩:=h
    have hu:=hr.units
    refine ⟨_,(aq (aR (i:=1) fD.nd rfl (Or.inl rfl) (aQ bJ (aK j6 (hr.mono (by decide)) rfl bG.m bG.F.kp bG.b .nil bC (ak (pv 0) (ak aA au))) aA))
      (aq (aR (i:=2) fD.nd rfl (Or.inr rfl) (aK vo (hr.mono (by decide)) rfl gU.m gU.F.kp gU.b .nil bC (ak (aQ fQ (aK j6 (hr.mono (by decide)) rfl bG.m bG.F.kp bG.b .nil bC (ak (pv 0) (ak aA au))) aA) au)))
      (aq (aR (i:=3) fD.nd rfl (Or.inl rfl) (nF pN (pv 0) (kW aA) (kW aA)))
      (aq (aR (i:=4) fD.nd rfl (Or.inl rfl) (aK wR (hr.mono (by decide)) rfl iT.m iT.F.kp iT.b .nil bC (ak (aK j6 (hr.mono (by decide)) rfl bG.m bG.F.kp bG.b .nil bC (ak (pv 0) (ak aA au))) (ak (pv 3) (ak (pv 2) (ak (pv 1) au))))))
      (aq (aR (i:=5) fD.nd rfl (Or.inr rfl) (aK vq (hr.mono (by decide)) rfl gY.m gY.F.kp gY.b .nil bC (ak (aK cg (hr.mono (by decide)) rfl aJ.m aJ.F.kp aJ.b .nil bC (ak (aQ dz (aK j6 (hr.mono (by decide)) rfl bG.m bG.F.kp bG.b .nil bC (ak (pv 0) (ak aA au))) aA) (ak aA au))) (ak (pv 4) (ak (pv 1) au)))))
      (aq (aR (i:=6) fD.nd rfl (Or.inr rfl) (aK cg (hr.mono (by decide)) rfl aJ.m aJ.F.kp aJ.b .nil bC (ak (aQ dz (aK j6 (hr.mono (by decide)) rfl bG.m bG.F.kp bG.b .nil bC (ak (pv 0) (ak aA au))) aA) (ak aA au))))
      (aq (fZ (i:=7) (ao oY) rfl ["script","kind","below","cells","roll","ponds","xs","kept","many","balance","first","day","springs","calls","lets","left","told","lost","out","again"] rfl ["k","xs","ponds"] [none,some 6,some 5] (by decide +kernel) (by decide +kernel) (by decide +kernel) rfl fD.nd rfl rfl (cZ rfl B.range (ak (aN aM rfl B.len PySem.boot_len (ak (pv 5) au)) au)) (fun _ _ _=>(aF (i:=0) (show (["k","xs","ponds"]:List Str).Nodup by decide +kernel) rfl (Or.inl rfl))) (fun _ _ _=>iz) (fun _ _ _=>(aK lG (hr.mono (by decide)) rfl bK.m bK.F.kp bK.b .nil bC (ak (aL (bQ (K:=K) rfl) (pv 1) (pv 0) (fun _ _=>rfl)) (ak (aL (lA (K:=K) rfl) (aL (bQ (K:=K) rfl) (pv 2) (pv 0) (fun _ _=>rfl)) aA (fun _ _=>rfl)) au)))) rfl)
      (aq (aR (i:=8) fD.nd rfl (Or.inl rfl) (aQ dz aA (aQ bJ (aL aG (pv 6) aA (fun _ _=>rfl)) aA)))
      (aq (aR (i:=9) fD.nd rfl (Or.inl rfl) (aN (fB rfl) rfl B.sum PyProof.Rows.boot_sum (ak (pv 7) au)))
      (aq (aR (i:=10) fD.nd rfl (Or.inl rfl) GD)
      (aq (dH PassesOwn.never rfl (cZ rfl B.range (ak (pv 8) au)) (aF (i:=11) fD.nd rfl (Or.inl rfl))
        (aq (iD (aK zE (hr.mono (by decide)) rfl jG.m jG.F.kp jG.b .nil bC (ak (Bo (pv 3) (kW (pv 11)) rW (kW (pv 8))) (ak (aL aG (pv 6) (aQ dz aA (pv 11)) (fun _ _=>rfl)) (ak (pv 2) (ak (pv 4) (ak (pv 5) (ak (pv 7) (ak (pv 1) au)))))))) (iB rfl (aH (aF (i:=12) fD.nd rfl (Or.inl rfl)) (aH (aF (i:=13) fD.nd rfl (Or.inl rfl)) (aH (aF (i:=14) fD.nd rfl (Or.inl rfl)) (aH (aF (i:=15) fD.nd rfl (Or.inl rfl)) cJ))))))
        (aq (aR (i:=16) fD.nd rfl (Or.inr rfl) (aK yJ (hr.mono (by decide)) rfl jA.m jA.F.kp jA.b .nil bC (ak (bI bf rfl B.list PyProof.Rows.boot_list (ak (pv 2) au)) (ak (bI bf rfl B.list PyProof.Rows.boot_list (ak (pv 12) au)) (ak (bI bf rfl B.list PyProof.Rows.boot_list (ak (pv 4) au)) (ak (bI bf rfl B.list PyProof.Rows.boot_list (ak (pv 5) au)) (ak (bI bf rfl B.list PyProof.Rows.boot_list (ak (pv 7) au)) (ak (bI bf rfl B.list PyProof.Rows.boot_list (ak (pv 13) au)) (ak (bI bf rfl B.list PyProof.Rows.boot_list (ak (pv 14) au)) au)))))))))
        (aq (gZ (mR (mQ (aK vp (hr.mono (by decide)) rfl gW.m gW.F.kp gW.b .nil bC (ak (pv 16) (ak (pv 2) (ak (pv 4) (ak (pv 5) au)))))))
          (aB (aZ za))
          bY)
        (aq (aR (i:=17) fD.nd rfl (Or.inl rfl) (aK wU (hr.mono (by decide)) rfl iU.m iU.F.kp iU.b .nil bC (ak (pv 16) (ak (pv 5) (ak (pv 15) au)))))
        (aq (gZ (PW.pt (pw_or (aW oZ (pv 17) (aL cD (aL cD (pv 16) aA (fun _ _=>rfl)) aA (fun _ _=>rfl)) (bx _)) (pw_or (aW oZ (aL cD (aL cD (pv 16) aA (fun _ _=>rfl)) aA (fun _ _=>rfl)) (aN (fB rfl) rfl B.sum PyProof.Rows.boot_sum (ak (pv 7) au)) (bx _)) (pw_or1 (aW oZ (aL cD (aL cD (pv 16) aA (fun _ _=>rfl)) aA (fun _ _=>rfl)) (aN (fB rfl) rfl B.sum PyProof.Rows.boot_sum (ak (aL cD (pv 16) aA (fun _ _=>rfl)) au)) (bx _))))))
          (aB (aZ za))
          bY)
        (aq (aR (i:=18) fD.nd rfl (Or.inl rfl) (aN (fB rfl) rfl B.sum PyProof.Rows.boot_sum (ak (iC (ao oY) rfl ["script","kind","below","cells","roll","ponds","xs","kept","many","balance","first","day","springs","calls","lets","left","told","lost","out","again"] rfl ["at","told","below"] [none,some 16,some 2] (by decide +kernel) (by decide +kernel) (by decide +kernel) rfl (cZ rfl B.range (ak (aN aM rfl B.len PySem.boot_len (ak (pv 2) au)) au)) (fun _ _ _=>(aF (i:=0) (show (["at","told","below"]:List Str).Nodup by decide +kernel) rfl (Or.inl rfl))) (fun _ _ _=>(kO (aW jZ (aL (bQ (K:=K) rfl) (pv 2) (pv 0) (fun _ _=>rfl)) (mZ jH aA) (bx _)))) (fun _ _ _=>(aL (bQ (K:=K) rfl) (aL (lA (K:=K) rfl) (pv 1) aA (fun _ _=>rfl)) (pv 0) (fun _ _=>rfl)))) au)))
        (aq (aR (i:=9) fD.nd rfl (Or.inl rfl) (aQ lH (aQ lH (aQ lH (aQ dz (pv 9) (aN (fB rfl) rfl B.sum PyProof.Rows.boot_sum (ak (pv 12) au))) (aK wQ (hr.mono (by decide)) rfl iR.m iR.F.kp iR.b .nil bC (ak (pv 4) (ak (pv 5) (ak (pv 14) (ak (aL cD (pv 16) aA (fun _ _=>rfl)) au)))))) (pv 17)) (pv 18)))
        (pU (gZ (aW Qh (pv 10) GD (bx _))
          (aB (aR (i:=10) fD.nd rfl (Or.inl rfl) (eZ (ak (pv 16) (ak (jJ (ak (bI bf rfl B.list PyProof.Rows.boot_list (ak (aL cD (pv 16) aA (fun _ _=>rfl)) au)) (ak (bI bf rfl B.list PyProof.Rows.boot_list (ak (aL cD (pv 16) aA (fun _ _=>rfl)) au)) (ak (bI bf rfl B.list PyProof.Rows.boot_list (ak (aL cD (pv 16) aA (fun _ _=>rfl)) au)) (ak (bI wH rfl B.tuple PyProof.Rows.boot_tuple (ak (aL cD (pv 16) aA (fun _ _=>rfl)) au)) au))))) (ak (pv 12) (ak (pv 13) (ak (pv 14) (ak (pv 7) au)))))))))
          bY)
        (aB (aR (i:=7) fD.nd rfl (Or.inl rfl) (bI bf rfl B.list PyProof.Rows.boot_list (ak (aL cD (pv 16) aA (fun _ _=>rfl)) au)))))))))))))
      (aq (aR (i:=19) fD.nd rfl (Or.inl rfl) (aK yJ (hr.mono (by decide)) rfl jA.m jA.F.kp jA.b .nil bC (ak (pv 2) (ak (aL aG (pv 10) aA (fun _ _=>rfl)) (ak (pv 4) (ak (pv 5) (ak (aL aG (pv 10) aA (fun _ _=>rfl)) (ak (aL aG (pv 10) aA (fun _ _=>rfl)) (ak (aL aG (pv 10) aA (fun _ _=>rfl)) au)))))))))
      (aB (aZ (Bp (oA jZ (pv 9) (aN (fB rfl) rfl B.sum PyProof.Rows.boot_sum (ak (pv 7) au)) (bx _)) (Bp (oA (Bt hu) (aL aG (pv 10) aA (fun _ _=>rfl)) (aL aG (pv 10) aA (fun _ _=>rfl)) (bx _)) (GC (oA (Bt hu) (pv 19) (aL aG (pv 10) aA (fun _ _=>rfl)) (bx _))))))))))))))))))),?_⟩
    refine VR ?_
    intro zu0 zu1 zu2 zu3 zu4 zu5 zu6 zu7 zu8 zu9 zu10 zu11 zu12 zu13 zu14 zu15 zu16 zu17 zu18 zu19 zu20 zu21 zu22 zu23
    have O:=Ow.refl tk
    have s0:=O.same
    refine ⟨_,rfl,a,ns,0,rfl,hS,tk,fun H1 sm=>?_⟩
    have O:=O.lZ sm
    refine ⟨_,_,rfl,rfl,(by show (0:Int)<3;decide),?_⟩
    dsimp only
    generalize ns.getD 0 0 % 3=kd
    refine ⟨_,rfl,a,ns,0,rfl,O.same.seq hS,O.same.t1,fun H2 sm=>?_⟩
    have O:=O.lZ sm
    refine ⟨_,_,rfl,rfl,⟨by decide,by decide⟩,_,rfl,O.same.t1,O.qF fun lv H3 rs O e=>?_⟩
    obtain ⟨r,rfl,hR,r1,r12⟩:=e
    have hml:((r.map V.int).length:Int)=(r.length:Int):=by rw [List.length_map]
    /- cells -/
    refine ⟨_,rfl,2,rfl,62,rfl,a,_,rfl,O.same.seq hS,fun lq hlq=>?_⟩
    walk_at "nw"
    rw [show vC (ns.map V.int) (some 2) (some 62)=((ns.drop 2).take 60).map V.int from Mw ns 2 62] at O
    have hql:((ns.drop 2).take 60).length≤60:=by rw [List.length_take];omega
    generalize (ns.drop 2).take 60=qs at O hql
    /- roll -/
    refine ⟨_,rfl,a,ns,1,rfl,O.same.seq hS,O.same.t1,fun H4 sm=>?_⟩
    have O:=O.lZ sm
    refine ⟨_,rfl,_,rfl,_,rfl,_,kd,lq,lv,qs,r,rfl,O.sq 0,O.sq 1,hR,r1,by omega,O.same.t1,fun lr H5 H6 rs ls s5 O5 d0 l30 hok=>?_⟩
    have hV:SqL K H5 lv (r.map V.int):=s5.seq (O.sq 1)
    have hQ:SqL K H5 lq (qs.map V.int):=s5.seq (O.sq 0)
    replace s0:=O.same.trans s5
    clear O
    have O:=O5
    clear O5 s5
    have hrl:rs.length=ls.length:=by rw [d0.length,List.length_map]
    /- ponds -/
    refine ⟨_,rfl,a,ns,1,rfl,(s0.trans O.same).seq hS,O.same.t1,fun H7 sm=>?_⟩
    have O:=O.lZ sm
    refine ⟨_,_,rfl,rfl,_,56,rfl,by decide,by decide,O.same.t1,O.qF fun lx H8 xs O e=>?_⟩
    obtain ⟨ys,rfl,hyl,hyb⟩:=e
    have hyl:ys.length=56:=hyl
    clear hyb
    refine ⟨_,rfl,_,rfl,kd,lx,lr,ys,rs,ls,rfl,O.sq 0,by omega,O.sq 1,d0.mo O.same,by omega,O.same.t1,fun lp H9 H10 us ps s9 O9 d1 PO=>?_⟩
    replace hV:=(O.same.trans s9).seq hV
    replace hQ:=(O.same.trans s9).seq hQ
    have hL:SqL K H9 lr rs:=s9.seq (O.sq 1)
    replace d0:=d0.mo (O.same.trans s9)
    replace s0:=s0.trans (O.same.trans s9)
    clear O
    have O:=O9
    clear O9 s9
    have hul:us.length=ps.length:=by rw [d1.length,List.length_map]
    have hpl:=PO.len
    /- xs, kept -/
    refine ⟨_,rfl,a,ns,0,rfl,(s0.trans O.same).seq hS,O.same.t1,fun H11 sm=>?_⟩
    have O:=O.lZ sm
    refine ⟨_,_,rfl,rfl,_,16,rfl,by decide,by decide,O.same.t1,O.qF fun lw H19 xs O e=>?_⟩
    obtain ⟨ys,rfl,hyl,-⟩:=e
    have hyl:ys.length=16:=hyl
    refine ⟨_,rfl,lp,_,rfl,.inl (O.sq 1),(us.length:Int),rfl,by omega,by omega,fun lk hlk=>?_⟩
    rw [Int.toNat_natCast]
    refine iK (n:=us.length) (fun i τ H'=>Iv (∃ (v0:Option V) (ks:List Int),τ=[v0,some (.ref lw),some (.ref lp)]∧ks.length=i∧(∀ z∈ks,0≤z)∧(∀ j,j<i→ks.getD j 0≤(ps.getD j (0,0,0)).2.1)∧Ow T H9 H' [(lk,.lst (ks.map V.int)),(lw,.lst (ys.map V.int)),(lp,.lst us)]))
      ⟨trivial,none,[],rfl,rfl,(fun z hz=>nomatch hz),(fun j hj=>absurd hj (Nat.not_lt_zero j)),O.mk' hlk rfl⟩ ?_ ?_
    · rintro i τ H20 hi ⟨-,v0,ks,rfl,hki,hk0,hkr,O⟩
      rw [show (0:Int) + (i:Int)=(i:Int) by omega]
      obtain ⟨u,hu⟩:∃ u,us[i]?=some u:=⟨_,List.getElem?_eq_getElem hi⟩
      obtain ⟨ap,p,rfl,hp,hT⟩:=d1.jQ hu
      refine zF ?_
      refine ⟨_,rfl,_,rfl,lw,_,_,_,rfl,rfl,O.sq 1,bZ (bh (ns:=ys) (k:=i) (by omega)),_,rfl,_,rfl,lp,_,_,_,rfl,rfl,O.sq 2,cN hu,ap,_,1,_,rfl,rfl,hT.mo O.same,rfl,_,_,rfl,(PO.rg p (List.mem_of_getElem? hp)).2.2.1,fun x x0 x1=>?_⟩
      refine ⟨_,O.get 0,aP (by rw [List.length_map];omega),?_⟩
      walk_at "pt"
      rw [nG] at O
      refine ⟨trivial,_,ks++[x],rfl,by rw [List.length_append,hki];rfl,fun z hz=>?_,fun j hj=>?_,O⟩
      · rcases List.mem_append.mp hz with e | e
        · exact hk0 z e
        · have:z=x:=by simpa using e
          rw [this];exact x0
      · by_cases hji:j<i
        · rw [List.getD_eq_getElem?_getD,List.getElem?_append_left (by omega),← List.getD_eq_getElem?_getD]
          exact hkr j hji
        · have e:j=i:=by omega
          subst e
          rw [List.getD_eq_getElem?_getD,List.getElem?_append_right (by omega),hki,Nat.sub_self,getD_some hp]
          exact x1
    rintro τ H20 ⟨-,v0,ks,rfl,hki,hk0,hkr,O⟩
    rw [hul] at hki hkr
    clear v0
    /- many, balance -/
    have m0:=Int.emod_nonneg (ys.getD (11:Int).toNat 0) (show (4:Int)≠0 by decide)
    have m1:=Int.emod_lt_of_pos (ys.getD (11:Int).toNat 0) (show (0:Int)<4 by decide)
    refine ⟨_,rfl,lw,_,11,_,rfl,rfl,O.sq 1,aV (by omega) (by omega),_,_,rfl,rfl,(by show (0:Int)<4;decide),_,_,rfl,rfl,?_⟩
    dsimp only
    generalize ys.getD (11:Int).toNat 0 % 4=mm at m0 m1
    obtain ⟨n,rfl⟩:∃ n:Nat,mm=(n:Int):=⟨mm.toNat,by omega⟩
    refine ⟨_,rfl,lk,ks,rfl,O.sq 0,?_⟩
    replace hV:=O.same.seq hV
    replace hQ:=O.same.seq hQ
    replace hL:=O.same.seq hL
    replace d0:=d0.mo O.same
    replace d1:=d1.mo O.same
    have hP:SqL K H20 lp us:=O.sq 2
    have hW:SqL K H20 lw (ys.map V.int):=O.sq 1
    have hK:SqL K H20 lk (ks.map V.int):=O.sq 0
    have tk:=O.same.t1
    clear O s0 hS
    refine ⟨_,rfl,_,rfl,by omega,by omega,?_⟩
    rw [show ((1:Int) + (n:Int)).toNat=n + 1 by omega]
    refine jL (n:=n + 1) (fun i σ H'=>Iv (∃ (v11 v12 v13 v14 v15 v16 v17 v18:Option V) (v10:V) (lk:Addr) (ks:List Int),σ=[some (.ref a),some (.int kd),some (.ref lv),some (.ref lq),some (.ref lr),some (.ref lp),some (.ref lw),some (.ref lk),some (.int (1 + (n:Int))),some (.int ks.sum),some v10,v11,v12,v13,v14,v15,v16,v17,v18,none]∧bB T H20 H'∧SqL K H' lk (ks.map V.int)∧ks.length=ps.length∧(∀ z∈ks,0≤z)∧(∀ j,j<ps.length→ks.getD j 0≤(ps.getD j (0,0,0)).2.1)∧((i=0∧v10=.non)∨∃ lF,v10=.ref lF∧Fst K H' r rs us ls ps lv lr lp lF)))
      ⟨trivial,none,none,none,none,none,none,none,none,.non,lk,ks,rfl,(Ow.refl tk).same,hK,hki,hk0,hkr,.inl ⟨rfl,rfl⟩⟩ ?_ ?_
    · clear hK hki hk0 hkr
      rintro i σ H21 hi ⟨-,v11,v12,v13,v14,v15,v16,v17,v18,v10,lk,ks,rfl,s1,hK,hki,hk0,hkr,hF⟩
      rw [show (0:Int) + (i:Int)=(i:Int) by omega]
      replace hV:=s1.seq hV
      replace hQ:=s1.seq hQ
      replace hL:=s1.seq hL
      replace hP:=s1.seq hP
      replace hW:=s1.seq hW
      replace d0:=d0.mo s1
      replace d1:=d1.mo s1
      have O:=Ow.refl s1.t1
      /- a day -/
      refine ⟨_,rfl,_,rfl,(i:Int),rfl,_,rfl,1 + (n:Int),rfl,lq,qs,rfl,hQ,(by intro e;injection e;omega),fun lu us2 hlu hul2=>?_⟩
      walk_at "nw"
      refine ⟨_,rfl,_,rfl,_,_,rfl,rfl,lw,_,12 + (i:Int),_,rfl,rfl,O.same.seq hW,aV (by omega) (by omega),_,rfl,_,rfl,_,rfl,_,rfl,_,rfl,?_⟩
      refine ⟨lu,lv,lr,lp,lk,_,kd,us2,r,ks,rs,us,ls,ps,rfl,O.sq 0,by omega,O.same.seq hV,hR,r1,by omega,O.same.seq hL,d0.mo O.same,by omega,fun l hl=>(hok l hl).1,O.same.seq hP,d1.mo O.same,PO,O.same.seq hK,hki,hk0,O.same.t1,fun t lg lc lt lf Ha H22 s cs ts ms sa Oa d2 hsl hsn hcl hcn hm1 LO hl0=>?_⟩
      refine ⟨t,_,rfl,Oa.sqT 0,rfl,_,_,rfl,_,_,rfl,_,_,rfl,_,_,rfl,rfl,?_⟩
      have s2:=(O.same.trans sa).trans Oa.same
      replace hV:=s2.seq hV
      replace hQ:=s2.seq hQ
      replace hL:=s2.seq hL
      replace hP:=s2.seq hP
      replace hK:=s2.seq hK
      replace d0:=d0.mo s2
      replace d1:=d1.mo s2
      replace d2:=d2.mo Oa.same
      have s3:=s1.trans s2
      have hF:(i=0∧v10=.non)∨∃ lF,v10=.ref lF∧Fst K H22 r rs us ls ps lv lr lp lF:=by
        rcases hF with e | ⟨lF,e,h⟩
        · exact .inl e
        · exact .inr ⟨lF,e,h.mo s2⟩
      have hG:SqL K H22 lg (s.map V.int):=Oa.sq 4
      have hC:SqL K H22 lc (cs.map V.int):=Oa.sq 3
      have hX:SqL K H22 lt ts:=Oa.sq 1
      have hE:SqL K H22 lf ((bN ks ms).map V.int):=Oa.sq 2
      clear O
      have O:=Ow.refl Oa.same.t1
      clear Oa sa s1 s2
      /- told -/
      refine ⟨_,rfl,lv,_,rfl,.inl (O.same.seq hV),fun pa hpa=>?_⟩
      walk_at "nw"
      refine ⟨_,rfl,lg,_,rfl,.inl (O.same.seq hG),fun pb hpb=>?_⟩
      walk_at "nw"
      refine ⟨_,rfl,lr,_,rfl,.inl (O.same.seq hL),fun pc hpc=>?_⟩
      walk_at "nw"
      refine ⟨_,rfl,lp,_,rfl,.inl (O.same.seq hP),fun pd hpd=>?_⟩
      walk_at "nw"
      refine ⟨_,rfl,lk,_,rfl,.inl (O.same.seq hK),fun pe hpe=>?_⟩
      walk_at "nw"
      refine ⟨_,rfl,lc,_,rfl,.inl (O.same.seq hC),fun pf hpf=>?_⟩
      walk_at "nw"
      refine ⟨_,rfl,lt,_,rfl,.inl (O.same.seq hX),fun pg hpg=>?_⟩
      walk_at "nw"
      have amt0:∀ m∈ms,0≤m.2.2:=fun m hm=>by
        obtain ⟨i,hi⟩:=List.getElem?_of_mem hm
        exact (LO i m hi).amt
      have hbn:=yg (cs:=cs) (ks:=bN ks ms) (ps:=ps) hcn (fun j hj=>Int.le_trans (yj ms ks amt0 j) (hkr j hj)) ps.length (Nat.le_refl _)
      have DK:DOk r s ls ps ms ks cs:=⟨hR,by omega,hsl,hsn,by omega,fun l hl=>(hok l hl).1,hki,by omega,fun p hp=>⟨(PO.rg p hp).1,(PO.rg p hp).2.1,(PO.rg p hp).2.2.2.1,(PO.rg p hp).2.2.2.2⟩,by omega,by omega,LO,hbn⟩
      refine ⟨pa,pb,pc,pd,pe,pf,pg,r,s,rs,us,ts,ls,ps,ms,ks,cs,rfl,⟨O.sq 6,O.sq 5,O.sq 4,d0.mo O.same,O.sq 3,d1.mo O.same,O.sq 2,O.sq 1,O.sq 0,d2.mo O.same⟩,DK,O.same.t1,fun t l1 l2 l3 l4 H23 xs OD DX=>?_⟩
      have O:=O.join OD
      walk_at "jn"
      have hxl:=DX.len
      have hfw:(Rv.tL r s (mL ls ps xs ms)).length=r.length:=(Rv.sV r s (mL ls ps xs ms)).len
      have hxn:=yC DX
      have hal:=Oh ps (bN ks ms) xs
      have hpk:∀ p∈ps,0≤p.2.2∧p.2.2≤1000:=fun p hp=>⟨(PO.rg p hp).2.2.2.1,(PO.rg p hp).2.2.2.2⟩
      have hfn:=N5 (ps:=ps) (ms:=ms) hsn DX amt0
      have han:=Vh hpk hl0 hxn
      have hsh:∀ x∈Ot r s ls ps ms ks xs,0≤x:=fun x hx=>by
        unfold Ot at hx
        simp only [List.mem_cons,List.not_mem_nil,or_false] at hx
        rcases hx with e | e | e | e | e | e <;> rw [e]
        · exact pI hsn
        · exact pI hk0
        · exact MK hxn amt0
        · exact pI han
        · exact pI (QM hpk hl0 hxn)
        · exact Qf hfn
      have hrm:=tY PO (by omega) DX
      have har:=Gd PO (by omega) hl0 DX
      refine ⟨_,rfl,_,rfl,_,rfl,_,rfl,t,l1,l2,l3,l4,lv,lr,lp,xs,qw ps (bN ks ms) xs,Rv.tL r s (mL ls ps xs ms),Ot r s ls ps ms ks xs,_,rs,us,ps,rfl,O.get 0,O.get 4,O.get 3,O.get 2,O.get 1,O.same.seq hV,O.same.seq hL,O.same.seq hP,d1.mo O.same,by omega,by omega,by omega,by rw [List.length_map];omega,rfl,hxn,han,hfn,hsh,har,O.same.t1,fun H24 sm=>?_⟩
      have O:=O.lZ sm
      refine ⟨_,rfl,pA ?_⟩
      have hfl:=j4 ms ks
      refine ⟨_,rfl,_,rfl,_,rfl,t,l1,l2,l3,l4,lp,lf,us,ps,bN ks ms,xs,rfl,O.sqT 0,O.sq 4,O.sq 3,O.same.seq hP,d1.mo O.same,by omega,fun p hp=>⟨(PO.rg p hp).1,by have:=(PO.rg p hp).2.1;omega,hpk p hp⟩,O.same.seq hE,by omega,hrm,?_⟩
      have tT:SqT K H24 t [.ref l1,.ref l2,.ref l3,.ref l4]:=O.sqT 0
      have t4:SqT K H24 l4 ((Ot r s ls ps ms ks xs).map V.int):=O.sqT 1
      have t3:SqL K H24 l3 ((Rv.tL r s (mL ls ps xs ms)).map V.int):=O.sq 2
      have t2:SqL K H24 l2 ((qw ps (bN ks ms) xs).map V.int):=O.sq 3
      have t1:SqL K H24 l1 (xs.map V.int):=O.sq 4
      replace hV:=O.same.seq hV
      replace hL:=O.same.seq hL
      replace hP:=O.same.seq hP
      replace hK:=O.same.seq hK
      replace hG:=O.same.seq hG
      replace hC:=O.same.seq hC
      replace hX:=O.same.seq hX
      replace d0:=d0.mo O.same
      replace d1:=d1.mo O.same
      replace d2:=d2.mo O.same
      replace s3:=s3.trans O.same
      have hF:(i=0∧v10=.non)∨∃ lF,v10=.ref lF∧Fst K H24 r rs us ls ps lv lr lp lF:=by
        rcases hF with e | ⟨lF,e,h⟩
        · exact .inl e
        · exact .inr ⟨lF,e,h.mo O.same⟩
      have O:=Ow.refl O.same.t1
      refine ⟨_,rfl,_,rfl,t,_,3,.ref l4,rfl,rfl,tT,rfl,l4,_,4,_,rfl,rfl,t4,rfl,rfl,_,rfl,ifN (ifI (fun _=>?_) fun hc=>absurd rfl hc)⟩
      refine ⟨_,rfl,t,_,3,.ref l4,rfl,rfl,tT,rfl,l4,_,1,_,rfl,rfl,t4,rfl,_,rfl,lk,ks,rfl,hK,rfl,_,rfl,ifN (ifI (fun _=>?_) fun hc=>absurd rfl hc)⟩
      refine ⟨_,rfl,t,_,3,.ref l4,rfl,rfl,tT,rfl,l4,_,3,_,rfl,rfl,t4,rfl,_,rfl,t,_,1,.ref l2,rfl,rfl,tT,rfl,l2,qw ps (bN ks ms) xs,rfl,t2,rfl,_,rfl,ifN (ifI (fun _=>?_) fun hc=>absurd rfl hc)⟩
      refine ⟨_,rfl,lv,_,rfl,.inl hV,((r.map V.int).length:Int),rfl,by omega,by omega,fun lo hlo=>?_⟩
      rw [Int.toNat_natCast,List.length_map]
      refine iK (n:=r.length) (fun i τ H'=>Iv (∃ (v0:Option V),τ=[v0,some (.ref t),some (.ref lv)]∧Ow T H24 H' [(lo,.lst (((Rv.vB r i).map fun z=>(Rv.tL r s (mL ls ps xs ms)).getD z.toNat 0).map V.int))]))
        ⟨trivial,none,rfl,O.mk' hlo rfl⟩ ?_ ?_
      · clear O
        rintro i τ H25 hi ⟨-,v0,rfl,O⟩
        rw [show (0:Int) + (i:Int)=(i:Int) by omega]
        have ol:=Rv.su r i
        have hri:=bh (ns:=r) (k:=i) hi
        have g:=Rv.jW (r:=r) (p:=(i:Int)) (by omega) (by omega)
        refine ⟨_,rfl,_,rfl,lv,_,_,_,rfl,rfl,O.same.seq hV,lC (by omega) g,1,rfl,rfl,_,rfl,?_⟩
        by_cases hm:Rv.nxt r (i:Int)=-1
        · rw [hm]
          refine Cp ?_
          refine ⟨_,rfl,t,_,2,.ref l3,rfl,rfl,tT.mo O.same,rfl,_,rfl,l3,_,_,_,rfl,rfl,O.same.seq t3,bZ (bh (ns:=Rv.tL r s (mL ls ps xs ms)) (k:=i) (by omega)),?_⟩
          refine ⟨_,O.get 0,aP (by rw [List.length_map,List.length_map];omega),?_⟩
          walk_at "pt"
          exact ⟨trivial,_,rfl,by rw [Rv.lU,if_pos hm,List.map_append,List.map_append];exact O⟩
        · have hd:decide (V.int (Rv.nxt r (i:Int))=V.int (-1))=false:=by simp [hm]
          rw [hd]
          refine pA ?_
          exact ⟨trivial,_,rfl,by rw [Rv.lU,if_neg hm,List.append_nil];exact O⟩
      clear O
      rintro τ H25 ⟨-,v0,rfl,O⟩
      refine ⟨lo,_,rfl,O.sq 0,?_⟩
      /- balance -/
      refine ⟨_,rfl,_,rfl,lg,s,rfl,O.same.seq hG,_,_,rfl,rfl,?_⟩
      refine ⟨_,rfl,_,rfl,_,rfl,_,rfl,t,_,0,.ref l1,rfl,rfl,tT.mo O.same,rfl,?_⟩
      refine ⟨lr,lp,lt,l1,xs,rs,us,ts,ls,ps,ms,rfl,O.same.seq hL,d0.mo O.same,by omega,O.same.seq hP,d1.mo O.same,by omega,O.same.seq hX,d2.mo O.same,by omega,O.same.seq t1,by omega,O.same.t1,fun H26 sm=>?_⟩
      have O:=O.lZ sm
      refine ⟨_,_,rfl,rfl,_,rfl,_,_,rfl,rfl,_,rfl,_,_,rfl,rfl,?_⟩
      dsimp only
      have bal:=DK.balance (xs:=xs) PO hxl
      unfold Ou at bal
      rw [show ks.sum + s.sum - rF ls ps xs ms - (Ey ps (bN ks ms) xs).sum - ((Rv.vB r r.length).map fun z=>(Rv.tL r s (mL ls ps xs ms)).getD z.toNat 0).sum=(qw ps (bN ks ms) xs).sum by omega]
      clear bal
      refine ⟨fun σ H'=>Iv (∃ (lF:Addr) (v17 v18:Option V),σ=[some (.ref a),some (.int kd),some (.ref lv),some (.ref lq),some (.ref lr),some (.ref lp),some (.ref lw),some (.ref lk),some (.int (1 + (n:Int))),some (.int (qw ps (bN ks ms) xs).sum),some (.ref lF),some (.int (i:Int)),some (.ref lg),some (.ref lc),some (.ref lt),some (.ref lf),some (.ref t),v17,v18,none]∧bB T H24 H'∧Fst K H' r rs us ls ps lv lr lp lF),?_,?_⟩
      · refine ⟨_,rfl,rfl,_,rfl,?_⟩
        rcases hF with ⟨rfl,rfl⟩ | ⟨lF,rfl,hF9⟩
        · rw [decide_eq_true rfl]
          refine Cp ?_
          refine ⟨_,rfl,_,rfl,t,_,0,.ref l1,rfl,rfl,tT.mo O.same,rfl,l1,_,rfl,.inl (O.same.seq t1),fun q1 hq1=>?_⟩
          walk_at "nw"
          refine ⟨_,rfl,t,_,1,.ref l2,rfl,rfl,tT.mo O.same,rfl,l2,_,rfl,.inl (O.same.seq t2),fun q2 hq2=>?_⟩
          walk_at "nw"
          refine ⟨_,rfl,t,_,2,.ref l3,rfl,rfl,tT.mo O.same,rfl,l3,_,rfl,.inl (O.same.seq t3),fun q3 hq3=>?_⟩
          walk_at "nw"
          refine ⟨_,rfl,t,_,3,.ref l4,rfl,rfl,tT.mo O.same,rfl,l4,_,rfl,t4.mo O.same,?_⟩
          refine ⟨szl,fun cp hcp=>?_⟩
          walk_at "nw"
          refine ⟨_,rfl,_,rfl,_,rfl,_,rfl,szl,fun lF hlF=>?_⟩
          walk_at "nw"
          refine ⟨trivial,lF,_,_,rfl,O.same,t,cp,lg,lc,lt,lk,s,cs,ks,xs,ts,ms,O.sq 0,⟨O.same.seq hV,O.same.seq hG,O.same.seq hL,d0.mo O.same,O.same.seq hP,d1.mo O.same,O.same.seq hK,O.same.seq hC,O.same.seq hX,d2.mo O.same⟩,DK,DX,?_,?_⟩
          · exact Den.tuple (tT.mo O.same) (.cons (Den.ints (O.same.seq t1)) (.cons (Den.ints (O.same.seq t2)) (.cons (Den.ints (O.same.seq t3)) (.cons (Den.tup (t4.mo O.same)) .nil))))
          · exact Den.tuple (O.sqT 1) (.cons (Den.ints (O.sq 4)) (.cons (Den.ints (O.sq 3)) (.cons (Den.ints (O.sq 2)) (.cons (Den.tup (t4.mo O.same)) .nil))))
        · exact pA ⟨trivial,lF,_,_,rfl,O.same,hF9.mo O.same⟩
      · rintro σ H27 ⟨-,lF,v17,v18,rfl,sm,hF⟩
        refine ⟨_,rfl,t,_,1,.ref l2,rfl,rfl,tT.mo sm,rfl,l2,_,rfl,.inl (sm.seq t2),fun lk' hlk'=>?_⟩
        have O:=Ow.refl sm.t1
        walk_at "nw"
        exact ⟨trivial,_,_,_,_,_,_,_,_,_,lk',qw ps (bN ks ms) xs,rfl,s3.trans (sm.trans O.same),O.sq 0,hal,han,har,.inr ⟨lF,rfl,hF.mo O.same⟩⟩
    rintro σ H21 ⟨-,v11,v12,v13,v14,v15,v16,v17,v18,v10,lk,ks,rfl,s1,hK,hki,hk0,hkr,hF⟩
    rcases hF with ⟨e,-⟩ | ⟨lF,rfl,hF9⟩
    · omega
    obtain ⟨t,cp,lg,lc,lt,l0,s,cs,k0,xs,ts,ms,h1,h2,h3,h4,h5,h6⟩:=hF9
    refine ⟨_,rfl,_,rfl,lF,_,2,_,rfl,rfl,h1,rfl,_,rfl,_,rfl,_,rfl,lF,_,5,_,rfl,rfl,h1,rfl,_,rfl,lF,_,3,_,rfl,rfl,h1,rfl,_,rfl,lF,_,4,_,rfl,rfl,h1,rfl,?_⟩
    refine ⟨lv,lg,lr,lp,l0,lc,lt,r,s,rs,us,ts,ls,ps,ms,k0,cs,rfl,h2,h3,s1.t1,fun t9 m1 m2 m3 m4 H30 xs9 O DX=>?_⟩
    have e:=Fz (fun l hl=>(hok l hl).2) h4 DX
    subst e
    have hsh:Sh 2 (FN r s ls ps ms k0 xs9):=.tuple fun d hd=>by
      simp at hd
      rcases hd with z | z | z | z <;> rw [z]
      · exact Sh.ints 0 _
      · exact Sh.ints 0 _
      · exact Sh.ints 0 _
      · exact Sh.tup 0 _
    have h9:Den K H30 (.ref t9) (FN r s ls ps ms k0 xs9):=Den.tuple (O.sqT 0) (.cons (Den.ints (O.sq 4)) (.cons (Den.ints (O.sq 3)) (.cons (Den.ints (O.sq 2)) (.cons (Den.tup (O.sqT 1)) .nil))))
    refine ⟨_,rfl,_,rfl,lk,ks,rfl,O.same.seq hK,rfl,?_⟩
    rw [wD,decide_eq_true rfl]
    refine ⟨_,rfl,Cp ?_⟩
    refine ⟨_,rfl,lF,_,0,_,rfl,rfl,O.same.seq h1,rfl,_,rfl,lF,_,1,_,rfl,rfl,O.same.seq h1,rfl,_,_,h5.mo O.same,h6.mo O.same,hsh.ok (by decide),hsh.ok (by decide),?_⟩
    rw [if_neg Bool.false_ne_true,yw hsh]
    refine ⟨_,rfl,Cp ?_⟩
    refine ⟨_,rfl,_,rfl,lF,_,1,_,rfl,rfl,O.same.seq h1,rfl,_,_,h9,h6.mo O.same,hsh.ok (by decide),hsh.ok (by decide),?_⟩
    rw [if_neg Bool.false_ne_true,yw hsh]
    exact k _
theorem mX {K:PySem.W.Frag} {x qual:Str} {st:Stmt} {f:Addr} {fd:FuncData} {n0:Str} (F:Fun K x qual st f fd) (h:∀ (kV doc pm:Value) (an:Option Addr) (cdv ct u0:Value),bindArgs (PySem.W.fnOf x qual (aD st) (aC st) (ao st) .none kV doc pm an cdv ct) ⟨[u0],[]⟩=pure (([n0]:List Str).zip [u0])):Binds K fd [n0] [] :=
  F.binds (ps:=[n0]) fun kV doc pm an cdv ct us hl=>match us,hl with | [u0],_=>h kV doc pm an cdv ct u0
theorem lM {K:PySem.W.Frag} {x qual:Str} {st:Stmt} {f:Addr} {fd:FuncData} {n0 n1:Str} (F:Fun K x qual st f fd) (h:∀ (kV doc pm:Value) (an:Option Addr) (cdv ct u0 u1:Value),bindArgs (PySem.W.fnOf x qual (aD st) (aC st) (ao st) .none kV doc pm an cdv ct) ⟨[u0,u1],[]⟩=pure (([n0,n1]:List Str).zip [u0,u1])):Binds K fd [n0,n1] [] :=
  F.binds (ps:=[n0,n1]) fun kV doc pm an cdv ct us hl=>match us,hl with | [u0,u1],_=>h kV doc pm an cdv ct u0 u1
theorem nR {K:PySem.W.Frag} {x qual:Str} {st:Stmt} {f:Addr} {fd:FuncData} {n0 n1 n2:Str} (F:Fun K x qual st f fd) (h:∀ (kV doc pm:Value) (an:Option Addr) (cdv ct u0 u1 u2:Value),bindArgs (PySem.W.fnOf x qual (aD st) (aC st) (ao st) .none kV doc pm an cdv ct) ⟨[u0,u1,u2],[]⟩=pure (([n0,n1,n2]:List Str).zip [u0,u1,u2])):Binds K fd [n0,n1,n2] [] :=
  F.binds (ps:=[n0,n1,n2]) fun kV doc pm an cdv ct us hl=>match us,hl with | [u0,u1,u2],_=>h kV doc pm an cdv ct u0 u1 u2
theorem qu {K:PySem.W.Frag} {x qual:Str} {st:Stmt} {f:Addr} {fd:FuncData} {n0 n1 n2 n3:Str} (F:Fun K x qual st f fd) (h:∀ (kV doc pm:Value) (an:Option Addr) (cdv ct u0 u1 u2 u3:Value),bindArgs (PySem.W.fnOf x qual (aD st) (aC st) (ao st) .none kV doc pm an cdv ct) ⟨[u0,u1,u2,u3],[]⟩=pure (([n0,n1,n2,n3]:List Str).zip [u0,u1,u2,u3])):Binds K fd [n0,n1,n2,n3] [] :=
  F.binds (ps:=[n0,n1,n2,n3]) fun kV doc pm an cdv ct us hl=>match us,hl with | [u0,u1,u2,u3],_=>h kV doc pm an cdv ct u0 u1 u2 u3
theorem yH {K:PySem.W.Frag} {x qual:Str} {st:Stmt} {f:Addr} {fd:FuncData} {n0 n1 n2 n3 n4:Str} (F:Fun K x qual st f fd) (h:∀ (kV doc pm:Value) (an:Option Addr) (cdv ct u0 u1 u2 u3 u4:Value),bindArgs (PySem.W.fnOf x qual (aD st) (aC st) (ao st) .none kV doc pm an cdv ct) ⟨[u0,u1,u2,u3,u4],[]⟩=pure (([n0,n1,n2,n3,n4]:List Str).zip [u0,u1,u2,u3,u4])):Binds K fd [n0,n1,n2,n3,n4] [] :=
  F.binds (ps:=[n0,n1,n2,n3,n4]) fun kV doc pm an cdv ct us hl=>match us,hl with | [u0,u1,u2,u3,u4],_=>h kV doc pm an cdv ct u0 u1 u2 u3 u4
theorem Vg {K:PySem.W.Frag} {x qual:Str} {st:Stmt} {f:Addr} {fd:FuncData} {n0 n1 n2 n3 n4 n5:Str} (F:Fun K x qual st f fd) (h:∀ (kV doc pm:Value) (an:Option Addr) (cdv ct u0 u1 u2 u3 u4 u5:Value),bindArgs (PySem.W.fnOf x qual (aD st) (aC st) (ao st) .none kV doc pm an cdv ct) ⟨[u0,u1,u2,u3,u4,u5],[]⟩=pure (([n0,n1,n2,n3,n4,n5]:List Str).zip [u0,u1,u2,u3,u4,u5])):Binds K fd [n0,n1,n2,n3,n4,n5] [] :=
  F.binds (ps:=[n0,n1,n2,n3,n4,n5]) fun kV doc pm an cdv ct us hl=>match us,hl with | [u0,u1,u2,u3,u4,u5],_=>h kV doc pm an cdv ct u0 u1 u2 u3 u4 u5
theorem Mx {K:PySem.W.Frag} {x qual:Str} {st:Stmt} {f:Addr} {fd:FuncData} {n0 n1 n2 n3 n4 n5 n6:Str} (F:Fun K x qual st f fd) (h:∀ (kV doc pm:Value) (an:Option Addr) (cdv ct u0 u1 u2 u3 u4 u5 u6:Value),bindArgs (PySem.W.fnOf x qual (aD st) (aC st) (ao st) .none kV doc pm an cdv ct) ⟨[u0,u1,u2,u3,u4,u5,u6],[]⟩=pure (([n0,n1,n2,n3,n4,n5,n6]:List Str).zip [u0,u1,u2,u3,u4,u5,u6])):Binds K fd [n0,n1,n2,n3,n4,n5,n6] [] :=
  F.binds (ps:=[n0,n1,n2,n3,n4,n5,n6]) fun kV doc pm an cdv ct us hl=>match us,hl with | [u0,u1,u2,u3,u4,u5,u6],_=>h kV doc pm an cdv ct u0 u1 u2 u3 u4 u5 u6
theorem all_mk {l:PySem.W.OpenLaw} {w:World} {K:PySem.W.Frag} {h:Heap} {mg:Str→Option Value} {fa f0 f1 f2 f3 f4 f5 f6 f7 f8 f9 f10 f11 f12 f13 f14 f15 f16 f17 f18 f19 f20 f21 f22 f23 f24 f25 f26 f27 f28 f29 f30 f31 f32 f33 f34 f35 f36 f37 f38 f39 f40 f41 f42 f43 f44 pT0 cT0 pT1 cT1:Addr} (X:K.In h) (G:h.Ns mainGlobals mg) (hfa:mg "law"=some (.ref fa))
    {od0 an0 od1 an1 od2 an2 od3 an3 od4 an4 od5 an5 od6 an6 od7 an7 od8 an8 od9 an9 od10 an10 od11 an11 od12 an12 od13 an13 od14 an14 od15 an15 od16 an16 od17 an17 od18 an18 od19 an19 od20 an20 od21 an21 od22 an22 od23 an23 od24 an24 od25 an25 od26 an26 od27 an27 od28 an28 od29 an29 od30 an30 od31 an31 od32 an32 od33 an33 od34 an34 od35 an35 od36 an36 od37 an37 od38 an38 od39 an39 od40 an40 od41 an41 od42 an42 od43 an43 od44 an44:Option Addr} {sl0 sl1 sl2 sl3 sl4 sl5 sl6 sl7 sl8 sl9 sl10 sl11 sl12 sl13 sl14 sl15 sl16 sl17 sl18 sl19 sl20 sl21 sl22 sl23 sl24 sl25 sl26 sl27 sl28 sl29 sl30 sl31 sl32 sl33 sl34 sl35 sl36 sl37 sl38 sl39 sl40 sl41 sl42 sl43 sl44:Array (Option Value)} {oc0 kV0 dc0 pm0 cd0 ct0 oc1 kV1 dc1 pm1 ct1 oc2 kV2 dc2 pm2 cd2 ct2 oc3 kV3 dc3 pm3 cd3 ct3 oc4 kV4 dc4 pm4 cd4 ct4 oc5 kV5 dc5 pm5 cd5 ct5 oc6 kV6 dc6 pm6 cd6 ct6 oc7 kV7 dc7 pm7 cd7 ct7 oc8 kV8 dc8 pm8 cd8 ct8 oc9 kV9 dc9 pm9 cd9 ct9 oc10 kV10 dc10 pm10 cd10 ct10 oc11 kV11 dc11 pm11 ct11 oc12 kV12 dc12 pm12 cd12 ct12 oc13 kV13 dc13 pm13 cd13 ct13 oc14 kV14 dc14 pm14 cd14 ct14 oc15 kV15 dc15 pm15 cd15 ct15 oc16 kV16 dc16 pm16 cd16 ct16 oc17 kV17 dc17 pm17 cd17 ct17 oc18 kV18 dc18 pm18 cd18 ct18 oc19 kV19 dc19 pm19 cd19 ct19 oc20 kV20 dc20 pm20 cd20 ct20 oc21 kV21 dc21 pm21 cd21 ct21 oc22 kV22 dc22 pm22 cd22 ct22 oc23 kV23 dc23 pm23 cd23 ct23 oc24 kV24 dc24 pm24 cd24 ct24 oc25 kV25 dc25 pm25 cd25 ct25 oc26 kV26 dc26 pm26 cd26 ct26 oc27 kV27 dc27 pm27 cd27 ct27 oc28 kV28 dc28 pm28 cd28 ct28 oc29 kV29 dc29 pm29 cd29 ct29 oc30 kV30 dc30 pm30 cd30 ct30 oc31 kV31 dc31 pm31 cd31 ct31 oc32 kV32 dc32 pm32 cd32 ct32 oc33 kV33 dc33 pm33 cd33 ct33 oc34 kV34 dc34 pm34 cd34 ct34 oc35 kV35 dc35 pm35 cd35 ct35 oc36 kV36 dc36 pm36 cd36 ct36 oc37 kV37 dc37 pm37 cd37 ct37 oc38 kV38 dc38 pm38 cd38 ct38 oc39 kV39 dc39 pm39 cd39 ct39 oc40 kV40 dc40 pm40 cd40 ct40 oc41 kV41 dc41 pm41 cd41 ct41 oc42 kV42 dc42 pm42 cd42 ct42 oc43 kV43 dc43 pm43 cd43 ct43 oc44 kV44 dc44 pm44 cd44 ct44:Value} {t0 t1:Tok}
    (a0:PySem.W.nsIn K mainGlobals "way_of"=some (some (.ref f0))) (l0:K.lookup f0=some ⟨oc0,od0,.func (PySem.W.fnOf "way_of" "way_of" (aD iY) (aC iY) (ao iY) .none kV0 dc0 pm0 an0 cd0 ct0),sl0⟩) (c0:PySem.W.codeIn K cd0 "way_of"=true) (k0:PySem.W.keepIn K (.ref f0)=true)
    (a1:PySem.W.nsIn K mainGlobals "tops_first"=some (some (.ref f1))) (l1:K.lookup f1=some ⟨oc1,od1,.func (PySem.W.fnOf "tops_first" "tops_first" (aD cP) (aC cP) (ao cP) .none kV1 dc1 pm1 an1 (.ref cT1) ct1),sl1⟩) (c1:PySem.W.codeIn K (.ref cT1) "tops_first"=true) (k1:PySem.W.keepIn K (.ref f1)=true)
    (a2:PySem.W.nsIn K mainGlobals "mouths_of"=some (some (.ref f2))) (l2:K.lookup f2=some ⟨oc2,od2,.func (PySem.W.fnOf "mouths_of" "mouths_of" (aD eE) (aC eE) (ao eE) .none kV2 dc2 pm2 an2 cd2 ct2),sl2⟩) (c2:PySem.W.codeIn K cd2 "mouths_of"=true) (k2:PySem.W.keepIn K (.ref f2)=true)
    (a3:PySem.W.nsIn K mainGlobals "stretch_of"=some (some (.ref f3))) (l3:K.lookup f3=some ⟨oc3,od3,.func (PySem.W.fnOf "stretch_of" "stretch_of" (aD cQ) (aC cQ) (ao cQ) .none kV3 dc3 pm3 an3 cd3 ct3),sl3⟩) (c3:PySem.W.codeIn K cd3 "stretch_of"=true) (k3:PySem.W.keepIn K (.ref f3)=true)
    (a4:PySem.W.nsIn K mainGlobals "natural_of"=some (some (.ref f4))) (l4:K.lookup f4=some ⟨oc4,od4,.func (PySem.W.fnOf "natural_of" "natural_of" (aD cU) (aC cU) (ao cU) .none kV4 dc4 pm4 an4 cd4 ct4),sl4⟩) (c4:PySem.W.codeIn K cd4 "natural_of"=true) (k4:PySem.W.keepIn K (.ref f4)=true)
    (a5:PySem.W.nsIn K mainGlobals "flows_of"=some (some (.ref f5))) (l5:K.lookup f5=some ⟨oc5,od5,.func (PySem.W.fnOf "flows_of" "flows_of" (aD gG) (aC gG) (ao gG) .none kV5 dc5 pm5 an5 cd5 ct5),sl5⟩) (c5:PySem.W.codeIn K cd5 "flows_of"=true) (k5:PySem.W.keepIn K (.ref f5)=true)
    (a6:PySem.W.nsIn K mainGlobals "reaches_of"=some (some (.ref f6))) (l6:K.lookup f6=some ⟨oc6,od6,.func (PySem.W.fnOf "reaches_of" "reaches_of" (aD dO) (aC dO) (ao dO) .none kV6 dc6 pm6 an6 cd6 ct6),sl6⟩) (c6:PySem.W.codeIn K cd6 "reaches_of"=true) (k6:PySem.W.keepIn K (.ref f6)=true)
    (a7:PySem.W.nsIn K mainGlobals "day_filed"=some (some (.ref f7))) (l7:K.lookup f7=some ⟨oc7,od7,.func (PySem.W.fnOf "day_filed" "day_filed" (aD eG) (aC eG) (ao eG) .none kV7 dc7 pm7 an7 cd7 ct7),sl7⟩) (c7:PySem.W.codeIn K cd7 "day_filed"=true) (k7:PySem.W.keepIn K (.ref f7)=true)
    (a8:PySem.W.nsIn K mainGlobals "start_of"=some (some (.ref f8))) (l8:K.lookup f8=some ⟨oc8,od8,.func (PySem.W.fnOf "start_of" "start_of" (aD gD) (aC gD) (ao gD) .none kV8 dc8 pm8 an8 cd8 ct8),sl8⟩) (c8:PySem.W.codeIn K cd8 "start_of"=true) (k8:PySem.W.keepIn K (.ref f8)=true)
    (a9:PySem.W.nsIn K mainGlobals "gives_back"=some (some (.ref f9))) (l9:K.lookup f9=some ⟨oc9,od9,.func (PySem.W.fnOf "gives_back" "gives_back" (aD dX) (aC dX) (ao dX) .none kV9 dc9 pm9 an9 cd9 ct9),sl9⟩) (c9:PySem.W.codeIn K cd9 "gives_back"=true) (k9:PySem.W.keepIn K (.ref f9)=true)
    (a10:PySem.W.nsIn K mainGlobals "most_of"=some (some (.ref f10))) (l10:K.lookup f10=some ⟨oc10,od10,.func (PySem.W.fnOf "most_of" "most_of" (aD jg) (aC jg) (ao jg) .none kV10 dc10 pm10 an10 cd10 ct10),sl10⟩) (c10:PySem.W.codeIn K cd10 "most_of"=true) (k10:PySem.W.keepIn K (.ref f10)=true)
    (a11:PySem.W.nsIn K mainGlobals "ranked"=some (some (.ref f11))) (l11:K.lookup f11=some ⟨oc11,od11,.func (PySem.W.fnOf "ranked" "ranked" (aD jw) (aC jw) (ao jw) .none kV11 dc11 pm11 an11 (.ref cT0) ct11),sl11⟩) (c11:PySem.W.codeIn K (.ref cT0) "ranked"=true) (k11:PySem.W.keepIn K (.ref f11)=true)
    (a12:PySem.W.nsIn K mainGlobals "groups_of"=some (some (.ref f12))) (l12:K.lookup f12=some ⟨oc12,od12,.func (PySem.W.fnOf "groups_of" "groups_of" (aD fL) (aC fL) (ao fL) .none kV12 dc12 pm12 an12 cd12 ct12),sl12⟩) (c12:PySem.W.codeIn K cd12 "groups_of"=true) (k12:PySem.W.keepIn K (.ref f12)=true)
    (a13:PySem.W.nsIn K mainGlobals "wants_of"=some (some (.ref f13))) (l13:K.lookup f13=some ⟨oc13,od13,.func (PySem.W.fnOf "wants_of" "wants_of" (aD fV) (aC fV) (ao fV) .none kV13 dc13 pm13 an13 cd13 ct13),sl13⟩) (c13:PySem.W.codeIn K cd13 "wants_of"=true) (k13:PySem.W.keepIn K (.ref f13)=true)
    (a14:PySem.W.nsIn K mainGlobals "count_ways"=some (some (.ref f14))) (l14:K.lookup f14=some ⟨oc14,od14,.func (PySem.W.fnOf "count_ways" "count_ways" (aD dZ) (aC dZ) (ao dZ) .none kV14 dc14 pm14 an14 cd14 ct14),sl14⟩) (c14:PySem.W.codeIn K cd14 "count_ways"=true) (k14:PySem.W.keepIn K (.ref f14)=true)
    (a15:PySem.W.nsIn K mainGlobals "whole_turns"=some (some (.ref f15))) (l15:K.lookup f15=some ⟨oc15,od15,.func (PySem.W.fnOf "whole_turns" "whole_turns" (aD cH) (aC cH) (ao cH) .none kV15 dc15 pm15 an15 cd15 ct15),sl15⟩) (c15:PySem.W.codeIn K cd15 "whole_turns"=true) (k15:PySem.W.keepIn K (.ref f15)=true)
    (a16:PySem.W.nsIn K mainGlobals "draw"=some (some (.ref f16))) (l16:K.lookup f16=some ⟨oc16,od16,.func (PySem.W.fnOf "draw" "draw" (aD nu) (aC nu) (ao nu) .none kV16 dc16 pm16 an16 cd16 ct16),sl16⟩) (c16:PySem.W.codeIn K cd16 "draw"=true) (k16:PySem.W.keepIn K (.ref f16)=true)
    (a17:PySem.W.nsIn K mainGlobals "take_whole_turns"=some (some (.ref f17))) (l17:K.lookup f17=some ⟨oc17,od17,.func (PySem.W.fnOf "take_whole_turns" "take_whole_turns" (aD bw) (aC bw) (ao bw) .none kV17 dc17 pm17 an17 cd17 ct17),sl17⟩) (c17:PySem.W.codeIn K cd17 "take_whole_turns"=true) (k17:PySem.W.keepIn K (.ref f17)=true)
    (a18:PySem.W.nsIn K mainGlobals "take_one_turn"=some (some (.ref f18))) (l18:K.lookup f18=some ⟨oc18,od18,.func (PySem.W.fnOf "take_one_turn" "take_one_turn" (aD bH) (aC bH) (ao bH) .none kV18 dc18 pm18 an18 cd18 ct18),sl18⟩) (c18:PySem.W.codeIn K cd18 "take_one_turn"=true) (k18:PySem.W.keepIn K (.ref f18)=true)
    (a19:PySem.W.nsIn K mainGlobals "deal_turns"=some (some (.ref f19))) (l19:K.lookup f19=some ⟨oc19,od19,.func (PySem.W.fnOf "deal_turns" "deal_turns" (aD dY) (aC dY) (ao dY) .none kV19 dc19 pm19 an19 cd19 ct19),sl19⟩) (c19:PySem.W.codeIn K cd19 "deal_turns"=true) (k19:PySem.W.keepIn K (.ref f19)=true)
    (a20:PySem.W.nsIn K mainGlobals "deal"=some (some (.ref f20))) (l20:K.lookup f20=some ⟨oc20,od20,.func (PySem.W.fnOf "deal" "deal" (aD mO) (aC mO) (ao mO) .none kV20 dc20 pm20 an20 cd20 ct20),sl20⟩) (c20:PySem.W.codeIn K cd20 "deal"=true) (k20:PySem.W.keepIn K (.ref f20)=true)
    (a21:PySem.W.nsIn K mainGlobals "pond_start"=some (some (.ref f21))) (l21:K.lookup f21=some ⟨oc21,od21,.func (PySem.W.fnOf "pond_start" "pond_start" (aD cR) (aC cR) (ao cR) .none kV21 dc21 pm21 an21 cd21 ct21),sl21⟩) (c21:PySem.W.codeIn K cd21 "pond_start"=true) (k21:PySem.W.keepIn K (.ref f21)=true)
    (a22:PySem.W.nsIn K mainGlobals "look_at_let"=some (some (.ref f22))) (l22:K.lookup f22=some ⟨oc22,od22,.func (PySem.W.fnOf "look_at_let" "look_at_let" (aD cV) (aC cV) (ao cV) .none kV22 dc22 pm22 an22 cd22 ct22),sl22⟩) (c22:PySem.W.codeIn K cd22 "look_at_let"=true) (k22:PySem.W.keepIn K (.ref f22)=true)
    (a23:PySem.W.nsIn K mainGlobals "let_out"=some (some (.ref f23))) (l23:K.lookup f23=some ⟨oc23,od23,.func (PySem.W.fnOf "let_out" "let_out" (aD jh) (aC jh) (ao jh) .none kV23 dc23 pm23 an23 cd23 ct23),sl23⟩) (c23:PySem.W.codeIn K cd23 "let_out"=true) (k23:PySem.W.keepIn K (.ref f23)=true)
    (a24:PySem.W.nsIn K mainGlobals "pond_calls"=some (some (.ref f24))) (l24:K.lookup f24=some ⟨oc24,od24,.func (PySem.W.fnOf "pond_calls" "pond_calls" (aD dU) (aC dU) (ao dU) .none kV24 dc24 pm24 an24 cd24 ct24),sl24⟩) (c24:PySem.W.codeIn K cd24 "pond_calls"=true) (k24:PySem.W.keepIn K (.ref f24)=true)
    (a25:PySem.W.nsIn K mainGlobals "evening"=some (some (.ref f25))) (l25:K.lookup f25=some ⟨oc25,od25,.func (PySem.W.fnOf "evening" "evening" (aD ji) (aC ji) (ao ji) .none kV25 dc25 pm25 an25 cd25 ct25),sl25⟩) (c25:PySem.W.codeIn K cd25 "evening"=true) (k25:PySem.W.keepIn K (.ref f25)=true)
    (a26:PySem.W.nsIn K mainGlobals "morning_of"=some (some (.ref f26))) (l26:K.lookup f26=some ⟨oc26,od26,.func (PySem.W.fnOf "morning_of" "morning_of" (aD dW) (aC dW) (ao dW) .none kV26 dc26 pm26 an26 cd26 ct26),sl26⟩) (c26:PySem.W.codeIn K cd26 "morning_of"=true) (k26:PySem.W.keepIn K (.ref f26)=true)
    (a27:PySem.W.nsIn K mainGlobals "moves_of"=some (some (.ref f27))) (l27:K.lookup f27=some ⟨oc27,od27,.func (PySem.W.fnOf "moves_of" "moves_of" (aD gF) (aC gF) (ao gF) .none kV27 dc27 pm27 an27 cd27 ct27),sl27⟩) (c27:PySem.W.codeIn K cd27 "moves_of"=true) (k27:PySem.W.keepIn K (.ref f27)=true)
    (a28:PySem.W.nsIn K mainGlobals "used_of"=some (some (.ref f28))) (l28:K.lookup f28=some ⟨oc28,od28,.func (PySem.W.fnOf "used_of" "used_of" (aD eY) (aC eY) (ao eY) .none kV28 dc28 pm28 an28 cd28 ct28),sl28⟩) (c28:PySem.W.codeIn K cd28 "used_of"=true) (k28:PySem.W.keepIn K (.ref f28)=true)
    (a29:PySem.W.nsIn K mainGlobals "day_of"=some (some (.ref f29))) (l29:K.lookup f29=some ⟨oc29,od29,.func (PySem.W.fnOf "day_of" "day_of" (aD jx) (aC jx) (ao jx) .none kV29 dc29 pm29 an29 cd29 ct29),sl29⟩) (c29:PySem.W.codeIn K cd29 "day_of"=true) (k29:PySem.W.keepIn K (.ref f29)=true)
    (a30:PySem.W.nsIn K mainGlobals "_law_nth"=some (some (.ref f30))) (l30:K.lookup f30=some ⟨oc30,od30,.func (PySem.W.fnOf "_law_nth" "_law_nth" (aD gH) (aC gH) (ao gH) .none kV30 dc30 pm30 an30 cd30 ct30),sl30⟩) (c30:PySem.W.codeIn K cd30 "_law_nth"=true) (k30:PySem.W.keepIn K (.ref f30)=true)
    (a31:PySem.W.nsIn K mainGlobals "_law_draws"=some (some (.ref f31))) (l31:K.lookup f31=some ⟨oc31,od31,.func (PySem.W.fnOf "_law_draws" "_law_draws" (aD bW) (aC bW) (ao bW) .none kV31 dc31 pm31 an31 cd31 ct31),sl31⟩) (c31:PySem.W.codeIn K cd31 "_law_draws"=true) (k31:PySem.W.keepIn K (.ref f31)=true)
    (a32:PySem.W.nsIn K mainGlobals "_law_river"=some (some (.ref f32))) (l32:K.lookup f32=some ⟨oc32,od32,.func (PySem.W.fnOf "_law_river" "_law_river" (aD cW) (aC cW) (ao cW) .none kV32 dc32 pm32 an32 cd32 ct32),sl32⟩) (c32:PySem.W.codeIn K cd32 "_law_river"=true) (k32:PySem.W.keepIn K (.ref f32)=true)
    (a33:PySem.W.nsIn K mainGlobals "_law_way"=some (some (.ref f33))) (l33:K.lookup f33=some ⟨oc33,od33,.func (PySem.W.fnOf "_law_way" "_law_way" (aD fY) (aC fY) (ao fY) .none kV33 dc33 pm33 an33 cd33 ct33),sl33⟩) (c33:PySem.W.codeIn K cd33 "_law_way"=true) (k33:PySem.W.keepIn K (.ref f33)=true)
    (a34:PySem.W.nsIn K mainGlobals "_law_amount"=some (some (.ref f34))) (l34:K.lookup f34=some ⟨oc34,od34,.func (PySem.W.fnOf "_law_amount" "_law_amount" (aD bV) (aC bV) (ao bV) .none kV34 dc34 pm34 an34 cd34 ct34),sl34⟩) (c34:PySem.W.codeIn K cd34 "_law_amount"=true) (k34:PySem.W.keepIn K (.ref f34)=true)
    (a35:PySem.W.nsIn K mainGlobals "_law_some"=some (some (.ref f35))) (l35:K.lookup f35=some ⟨oc35,od35,.func (PySem.W.fnOf "_law_some" "_law_some" (aD eH) (aC eH) (ao eH) .none kV35 dc35 pm35 an35 cd35 ct35),sl35⟩) (c35:PySem.W.codeIn K cd35 "_law_some"=true) (k35:PySem.W.keepIn K (.ref f35)=true)
    (a36:PySem.W.nsIn K mainGlobals "_law_line"=some (some (.ref f36))) (l36:K.lookup f36=some ⟨oc36,od36,.func (PySem.W.fnOf "_law_line" "_law_line" (aD fP) (aC fP) (ao fP) .none kV36 dc36 pm36 an36 cd36 ct36),sl36⟩) (c36:PySem.W.codeIn K cd36 "_law_line"=true) (k36:PySem.W.keepIn K (.ref f36)=true)
    (a37:PySem.W.nsIn K mainGlobals "_law_roll"=some (some (.ref f37))) (l37:K.lookup f37=some ⟨oc37,od37,.func (PySem.W.fnOf "_law_roll" "_law_roll" (aD fM) (aC fM) (ao fM) .none kV37 dc37 pm37 an37 cd37 ct37),sl37⟩) (c37:PySem.W.codeIn K cd37 "_law_roll"=true) (k37:PySem.W.keepIn K (.ref f37)=true)
    (a38:PySem.W.nsIn K mainGlobals "_law_ponds"=some (some (.ref f38))) (l38:K.lookup f38=some ⟨oc38,od38,.func (PySem.W.fnOf "_law_ponds" "_law_ponds" (aD cY) (aC cY) (ao cY) .none kV38 dc38 pm38 an38 cd38 ct38),sl38⟩) (c38:PySem.W.codeIn K cd38 "_law_ponds"=true) (k38:PySem.W.keepIn K (.ref f38)=true)
    (a39:PySem.W.nsIn K mainGlobals "_law_numbers"=some (some (.ref f39))) (l39:K.lookup f39=some ⟨oc39,od39,.func (PySem.W.fnOf "_law_numbers" "_law_numbers" (aD bU) (aC bU) (ao bU) .none kV39 dc39 pm39 an39 cd39 ct39),sl39⟩) (c39:PySem.W.codeIn K cd39 "_law_numbers"=true) (k39:PySem.W.keepIn K (.ref f39)=true)
    (a40:PySem.W.nsIn K mainGlobals "_law_right"=some (some (.ref f40))) (l40:K.lookup f40=some ⟨oc40,od40,.func (PySem.W.fnOf "_law_right" "_law_right" (aD cX) (aC cX) (ao cX) .none kV40 dc40 pm40 an40 cd40 ct40),sl40⟩) (c40:PySem.W.codeIn K cd40 "_law_right"=true) (k40:PySem.W.keepIn K (.ref f40)=true)
    (a41:PySem.W.nsIn K mainGlobals "_law_day"=some (some (.ref f41))) (l41:K.lookup f41=some ⟨oc41,od41,.func (PySem.W.fnOf "_law_day" "_law_day" (aD fu) (aC fu) (ao fu) .none kV41 dc41 pm41 an41 cd41 ct41),sl41⟩) (c41:PySem.W.codeIn K cd41 "_law_day"=true) (k41:PySem.W.keepIn K (.ref f41)=true)
    (a42:PySem.W.nsIn K mainGlobals "_law_lost"=some (some (.ref f42))) (l42:K.lookup f42=some ⟨oc42,od42,.func (PySem.W.fnOf "_law_lost" "_law_lost" (aD fO) (aC fO) (ao fO) .none kV42 dc42 pm42 an42 cd42 ct42),sl42⟩) (c42:PySem.W.codeIn K cd42 "_law_lost"=true) (k42:PySem.W.keepIn K (.ref f42)=true)
    (a43:PySem.W.nsIn K mainGlobals "_law_used"=some (some (.ref f43))) (l43:K.lookup f43=some ⟨oc43,od43,.func (PySem.W.fnOf "_law_used" "_law_used" (aD dw) (aC dw) (ao dw) .none kV43 dc43 pm43 an43 cd43 ct43),sl43⟩) (c43:PySem.W.codeIn K cd43 "_law_used"=true) (k43:PySem.W.keepIn K (.ref f43)=true)
    (a44:PySem.W.nsIn K mainGlobals "law"=some (some (.ref f44))) (l44:K.lookup f44=some ⟨oc44,od44,.func (PySem.W.fnOf "law" "law" (aD oY) (aC oY) (ao oY) .none kV44 dc44 pm44 an44 cd44 ct44),sl44⟩) (c44:PySem.W.codeIn K cd44 "law"=true) (k44:PySem.W.keepIn K (.ref f44)=true)
    (e0:PySem.W.nsIn K mainGlobals "MOUTH"=some (some (.int (-1) t0)))
    (e1:PySem.W.nsIn K mainGlobals "WHOLE"=some (some (.int (1000) t1)))
    (z_len:PySem.W.nsIn K mainGlobals "len"=some none)
    (z_range:PySem.W.nsIn K mainGlobals "range"=some none)
    (z_list:PySem.W.nsIn K mainGlobals "list"=some none)
    (z_isinstance:PySem.W.nsIn K mainGlobals "isinstance"=some none)
    (z_bool:PySem.W.nsIn K mainGlobals "bool"=some none)
    (z_int:PySem.W.nsIn K mainGlobals "int"=some none)
    (z_all:PySem.W.nsIn K mainGlobals "all"=some none)
    (z_min:PySem.W.nsIn K mainGlobals "min"=some none)
    (z_max:PySem.W.nsIn K mainGlobals "max"=some none)
    (z_sum:PySem.W.nsIn K mainGlobals "sum"=some none)
    (z_sorted:PySem.W.nsIn K mainGlobals "sorted"=some none)
    (z_zip:PySem.W.nsIn K mainGlobals "zip"=some none)
    (z_tuple:PySem.W.nsIn K mainGlobals "tuple"=some none)
    (z_str:PySem.W.nsIn K mainGlobals "str"=some none)
    (z_any:PySem.W.nsIn K mainGlobals "any"=some none)
    (z_enumerate:PySem.W.nsIn K mainGlobals "enumerate"=some none)
    (z_reversed:PySem.W.nsIn K mainGlobals "reversed"=some none)
    (z_abs:PySem.W.nsIn K mainGlobals "abs"=some none)
    (z_ValueError:PySem.W.nsIn K mainGlobals "ValueError"=some none)
    (z_set:PySem.W.nsIn K mainGlobals "set"=some none)
    (y0:PySem.W.codeHdIn K cT0 pT0=true)
    (y1:PySem.W.codeHdIn K cT1 pT1=true)
    (dd0_1:pT0≠pT1)
    : ∃ fd:FuncData,(∀ (s:Shared) (v:Value),BindsTo s fd ⟨[v],[]⟩ [("script",v)])∧∀ base:Heap,K.In base→base.Ns mainGlobals mg→BM mg base→bR l.prog w K mg base CX0 9 fa fd ["script"] (xM K [(pT0,bL.1,bL.2),(pT1,dD.1,dD.2)]):=by
  have e:=hfa.symm.trans (PySem.W.mg_of X G a44)
  cases e
  have B:Blt mg:=⟨PySem.W.mg_none_of X G z_len,PySem.W.mg_none_of X G z_range,PySem.W.mg_none_of X G z_list,PySem.W.mg_none_of X G z_isinstance,PySem.W.mg_none_of X G z_bool,PySem.W.mg_none_of X G z_int,PySem.W.mg_none_of X G z_all,PySem.W.mg_none_of X G z_min,PySem.W.mg_none_of X G z_max,PySem.W.mg_none_of X G z_sum,PySem.W.mg_none_of X G z_sorted,PySem.W.mg_none_of X G z_zip,PySem.W.mg_none_of X G z_tuple,PySem.W.mg_none_of X G z_str,PySem.W.mg_none_of X G z_any,PySem.W.mg_none_of X G z_enumerate,PySem.W.mg_none_of X G z_reversed,PySem.W.mg_none_of X G z_abs,PySem.W.mg_none_of X G z_ValueError,PySem.W.mg_none_of X G z_set⟩
  have h_MOUTH:∃ t,mg "MOUTH"=some (.int (-1) t):=⟨_,PySem.W.mg_of X G e0⟩
  have h_WHOLE:∃ t,mg "WHOLE"=some (.int (1000) t):=⟨_,PySem.W.mg_of X G e1⟩
  have F0:=bF (st:=iY) l0 c0 k0
  have dF:Df K mg "way_of" iY ["below","reach"] _ _:=⟨F0,lM F0 (fun _ _ _ _ _ _ _ _=>rfl),PySem.W.mg_of X G a0⟩
  have F1:=bF (st:=cP) l1 c1 k1
  have gJ:Df K mg "tops_first" cP ["below"] _ _:=⟨F1,mX F1 (fun _ _ _ _ _ _ _=>rfl),PySem.W.mg_of X G a1⟩
  have F2:=bF (st:=eE) l2 c2 k2
  have iM:Df K mg "mouths_of" eE ["below"] _ _:=⟨F2,mX F2 (fun _ _ _ _ _ _ _=>rfl),PySem.W.mg_of X G a2⟩
  have F3:=bF (st:=cQ) l3 c3 k3
  have cj:Df K mg "stretch_of" cQ ["below","start","stop"] _ _:=⟨F3,nR F3 (fun _ _ _ _ _ _ _ _ _=>rfl),PySem.W.mg_of X G a3⟩
  have F4:=bF (st:=cU) l4 c4 k4
  have cA:Df K mg "natural_of" cU ["below","springs"] _ _:=⟨F4,lM F4 (fun _ _ _ _ _ _ _ _=>rfl),PySem.W.mg_of X G a4⟩
  have F5:=bF (st:=gG) l5 c5 k5
  have jF:Df K mg "flows_of" gG ["below","springs","moves"] _ _:=⟨F5,nR F5 (fun _ _ _ _ _ _ _ _ _=>rfl),PySem.W.mg_of X G a5⟩
  have F6:=bF (st:=dO) l6 c6 k6
  have gK:Df K mg "reaches_of" dO ["below","one"] _ _:=⟨F6,lM F6 (fun _ _ _ _ _ _ _ _=>rfl),PySem.W.mg_of X G a6⟩
  have F7:=bF (st:=eG) l7 c7 k7
  have cM:Df K mg "day_filed" eG ["one"] _ _:=⟨F7,mX F7 (fun _ _ _ _ _ _ _=>rfl),PySem.W.mg_of X G a7⟩
  have F8:=bF (st:=gD) l8 c8 k8
  have jD:Df K mg "start_of" gD ["one"] _ _:=⟨F8,mX F8 (fun _ _ _ _ _ _ _=>rfl),PySem.W.mg_of X G a8⟩
  have F9:=bF (st:=dX) l9 c9 k9
  have gP:Df K mg "gives_back" dX ["one"] _ _:=⟨F9,mX F9 (fun _ _ _ _ _ _ _=>rfl),PySem.W.mg_of X G a9⟩
  have F10:=bF (st:=jg) l10 c10 k10
  have j8:Df K mg "most_of" jg ["one"] _ _:=⟨F10,mX F10 (fun _ _ _ _ _ _ _=>rfl),PySem.W.mg_of X G a10⟩
  have F11:=bF (st:=jw) l11 c11 k11
  have mJ:Df K mg "ranked" jw ["roll"] _ _:=⟨F11,mX F11 (fun _ _ _ _ _ _ _=>rfl),PySem.W.mg_of X G a11⟩
  have F12:=bF (st:=fL) l12 c12 k12
  have iQ:Df K mg "groups_of" fL ["roll"] _ _:=⟨F12,mX F12 (fun _ _ _ _ _ _ _=>rfl),PySem.W.mg_of X G a12⟩
  have F13:=bF (st:=fV) l13 c13 k13
  have jC:Df K mg "wants_of" fV ["roll","calls"] _ _:=⟨F13,lM F13 (fun _ _ _ _ _ _ _ _=>rfl),PySem.W.mg_of X G a13⟩
  have F14:=bF (st:=dZ) l14 c14 k14
  have gR:Df K mg "count_ways" dZ ["free","ways"] _ _:=⟨F14,lM F14 (fun _ _ _ _ _ _ _ _=>rfl),PySem.W.mg_of X G a14⟩
  have F15:=bF (st:=cH) l15 c15 k15
  have gq:Df K mg "whole_turns" cH ["free","ways","rests"] _ _:=⟨F15,nR F15 (fun _ _ _ _ _ _ _ _ _=>rfl),PySem.W.mg_of X G a15⟩
  have F16:=bF (st:=nu) l16 c16 k16
  have mD:Df K mg "draw" nu ["left","way","drops"] _ _:=⟨F16,nR F16 (fun _ _ _ _ _ _ _ _ _=>rfl),PySem.W.mg_of X G a16⟩
  have F17:=bF (st:=bw) l17 c17 k17
  have cB:Df K mg "take_whole_turns" bw ["left","ways","rests","takes","going"] _ _:=⟨F17,yH F17 (fun _ _ _ _ _ _ _ _ _ _ _=>rfl),PySem.W.mg_of X G a17⟩
  have F18:=bF (st:=bH) l18 c18 k18
  have dM:Df K mg "take_one_turn" bH ["left","ways","rests","takes","going"] _ _:=⟨F18,yH F18 (fun _ _ _ _ _ _ _ _ _ _ _=>rfl),PySem.W.mg_of X G a18⟩
  have F19:=bF (st:=dY) l19 c19 k19
  have gQ:Df K mg "deal_turns" dY ["free","ways","rests"] _ _:=⟨F19,nR F19 (fun _ _ _ _ _ _ _ _ _=>rfl),PySem.W.mg_of X G a19⟩
  have F20:=bF (st:=mO) l20 c20 k20
  have rB:Df K mg "deal" mO ["below","springs","roll","calls"] _ _:=⟨F20,qu F20 (fun _ _ _ _ _ _ _ _ _ _=>rfl),PySem.W.mg_of X G a20⟩
  have F21:=bF (st:=cR) l21 c21 k21
  have cu:Df K mg "pond_start" cR ["roll","pond"] _ _:=⟨F21,lM F21 (fun _ _ _ _ _ _ _ _=>rfl),PySem.W.mg_of X G a21⟩
  have F22:=bF (st:=cV) l22 c22 k22
  have gw:Df K mg "look_at_let" cV ["below","roll","ponds","kept","let"] _ _:=⟨F22,yH F22 (fun _ _ _ _ _ _ _ _ _ _ _=>rfl),PySem.W.mg_of X G a22⟩
  have F23:=bF (st:=jh) l23 c23 k23
  have j9:Df K mg "let_out" jh ["below","roll","ponds","kept","lets"] _ _:=⟨F23,yH F23 (fun _ _ _ _ _ _ _ _ _ _ _=>rfl),PySem.W.mg_of X G a23⟩
  have F24:=bF (st:=dU) l24 c24 k24
  have gM:Df K mg "pond_calls" dU ["roll","ponds","kept","calls"] _ _:=⟨F24,qu F24 (fun _ _ _ _ _ _ _ _ _ _=>rfl),PySem.W.mg_of X G a24⟩
  have F25:=bF (st:=ji) l25 c25 k25
  have kh:Df K mg "evening" ji ["ponds","kept","takes"] _ _:=⟨F25,nR F25 (fun _ _ _ _ _ _ _ _ _=>rfl),PySem.W.mg_of X G a25⟩
  have F26:=bF (st:=dW) l26 c26 k26
  have gO:Df K mg "morning_of" dW ["below","roll","ponds","kept","calls","lets"] _ _:=⟨F26,Vg F26 (fun _ _ _ _ _ _ _ _ _ _ _ _=>rfl),PySem.W.mg_of X G a26⟩
  have F27:=bF (st:=gF) l27 c27 k27
  have jE:Df K mg "moves_of" gF ["roll","ponds","takes","lets"] _ _:=⟨F27,qu F27 (fun _ _ _ _ _ _ _ _ _ _=>rfl),PySem.W.mg_of X G a27⟩
  have F28:=bF (st:=eY) l28 c28 k28
  have j7:Df K mg "used_of" eY ["roll","ponds","takes","lets"] _ _:=⟨F28,qu F28 (fun _ _ _ _ _ _ _ _ _ _=>rfl),PySem.W.mg_of X G a28⟩
  have F29:=bF (st:=jx) l29 c29 k29
  have jA:Df K mg "day_of" jx ["below","springs","roll","ponds","kept","calls","lets"] _ _:=⟨F29,Mx F29 (fun _ _ _ _ _ _ _ _ _ _ _ _ _=>rfl),PySem.W.mg_of X G a29⟩
  have F30:=bF (st:=gH) l30 c30 k30
  have bG:Df K mg "_law_nth" gH ["script","k"] _ _:=⟨F30,lM F30 (fun _ _ _ _ _ _ _ _=>rfl),PySem.W.mg_of X G a30⟩
  have F31:=bF (st:=bW) l31 c31 k31
  have aJ:Df K mg "_law_draws" bW ["cell","many"] _ _:=⟨F31,lM F31 (fun _ _ _ _ _ _ _ _=>rfl),PySem.W.mg_of X G a31⟩
  have F32:=bF (st:=cW) l32 c32 k32
  have gU:Df K mg "_law_river" cW ["cell"] _ _:=⟨F32,mX F32 (fun _ _ _ _ _ _ _=>rfl),PySem.W.mg_of X G a32⟩
  have F33:=bF (st:=fY) l33 c33 k33
  have dN:Df K mg "_law_way" fY ["below","start"] _ _:=⟨F33,lM F33 (fun _ _ _ _ _ _ _ _=>rfl),PySem.W.mg_of X G a33⟩
  have F34:=bF (st:=bV) l34 c34 k34
  have aU:Df K mg "_law_amount" bV ["number","kind"] _ _:=⟨F34,lM F34 (fun _ _ _ _ _ _ _ _=>rfl),PySem.W.mg_of X G a34⟩
  have F35:=bF (st:=eH) l35 c35 k35
  have bK:Df K mg "_law_some" eH ["number","most"] _ _:=⟨F35,lM F35 (fun _ _ _ _ _ _ _ _=>rfl),PySem.W.mg_of X G a35⟩
  have F36:=bF (st:=fP) l36 c36 k36
  have eX:Df K mg "_law_line" fP ["xs","below","kind"] _ _:=⟨F36,nR F36 (fun _ _ _ _ _ _ _ _ _=>rfl),PySem.W.mg_of X G a36⟩
  have F37:=bF (st:=fM) l37 c37 k37
  have iT:Df K mg "_law_roll" fM ["cell","cells","below","kind"] _ _:=⟨F37,qu F37 (fun _ _ _ _ _ _ _ _ _ _=>rfl),PySem.W.mg_of X G a37⟩
  have F38:=bF (st:=cY) l38 c38 k38
  have gY:Df K mg "_law_ponds" cY ["xs","roll","kind"] _ _:=⟨F38,nR F38 (fun _ _ _ _ _ _ _ _ _=>rfl),PySem.W.mg_of X G a38⟩
  have F39:=bF (st:=bU) l39 c39 k39
  have aY:Df K mg "_law_numbers" bU ["found","many"] _ _:=⟨F39,lM F39 (fun _ _ _ _ _ _ _ _=>rfl),PySem.W.mg_of X G a39⟩
  have F40:=bF (st:=cX) l40 c40 k40
  have gW:Df K mg "_law_right" cX ["told","below","roll","ponds"] _ _:=⟨F40,qu F40 (fun _ _ _ _ _ _ _ _ _ _=>rfl),PySem.W.mg_of X G a40⟩
  have F41:=bF (st:=fu) l41 c41 k41
  have jG:Df K mg "_law_day" fu ["cells","number","below","roll","ponds","kept","kind"] _ _:=⟨F41,Mx F41 (fun _ _ _ _ _ _ _ _ _ _ _ _ _=>rfl),PySem.W.mg_of X G a41⟩
  have F42:=bF (st:=fO) l42 c42 k42
  have iU:Df K mg "_law_lost" fO ["told","ponds","left"] _ _:=⟨F42,nR F42 (fun _ _ _ _ _ _ _ _ _=>rfl),PySem.W.mg_of X G a42⟩
  have F43:=bF (st:=dw) l43 c43 k43
  have iR:Df K mg "_law_used" dw ["roll","ponds","lets","takes"] _ _:=⟨F43,qu F43 (fun _ _ _ _ _ _ _ _ _ _=>rfl),PySem.W.mg_of X G a43⟩
  have F44:=bF (st:=oY) l44 c44 k44
  have Yc:Df K mg "law" oY ["script"] _ _:=⟨F44,mX F44 (fun _ _ _ _ _ _ _=>rfl),PySem.W.mg_of X G a44⟩
  refine ⟨PySem.W.fnOf "law" "law" (aD oY) (aC oY) (ao oY) .none kV44 dc44 pm44 an44 cd44 ct44,fun s v=>.of_eq rfl,fun base _ _ hbm=>?_⟩
  have C:Mth mg:=⟨h_MOUTH⟩
  have nd:([(pT0,bL.1,bL.2),(pT1,dD.1,dD.2)].map (·.1)).Nodup:=by
    show ([pT0,pT1]:List Addr).Nodup
    simp [dd0_1]
  have hT:TT1 pT1 [(pT0,bL.1,bL.2),(pT1,dD.1,dD.2)]:=⟨List.mem_cons_of_mem _ List.mem_cons_self,nd⟩
  have hT2:TT2 pT0 [(pT0,bL.1,bL.2),(pT1,dD.1,dD.2)]:=⟨List.mem_cons_self,nd⟩
  clear nd
  generalize ([(pT0,bL.1,bL.2),(pT1,dD.1,dD.2)]:fC)=T at hT hT2 ⊢
  have g5:=Qk (P:=l.prog) (w:=w) (base:=base) dF C
  have g6:=El cj C dF g5
  have g7:=zc gK cj g6
  have g8:=Ni (T:=T) gJ rfl y1 hT hbm B dF g5
  have g9:=Qv cA B C gJ g8
  have g10:=Nk (P:=l.prog) (w:=w) (base:=base) j8
  have g11:=Ek (T:=T) jC B j8 g10
  have g12:=Ep (P:=l.prog) (w:=w) (base:=base) (T:=T) gR B
  have g13:=Wr gq B gR g12
  have g14:=Np (P:=l.prog) (w:=w) (base:=base) (T:=T) mD
  have g15:=Ws cB B gq g13 mD g14
  have g16:=Wt dM B mD g14
  have g17:=Wy gQ B cB g15 dM g16
  have g18:=QG (P:=l.prog) (w:=w) (base:=base) cM
  have g19:=Bu (T:=T) mJ rfl y0 hT2 hbm B cM g18
  have g20:=Bw iQ B cM g18 mJ g19
  have g21:=Nq rB B cA g9 jC g11 iQ g20 gK g7 gQ g17
  have h1:=Nj (P:=l.prog) (w:=w) (base:=base) jD
  have h2:=Qq cu jD h1
  have h3:=QC (T:=T) gw B C dF g5 cu h2
  have h4:=Wv j9 B gw h3
  have h5:=Wu (P:=l.prog) (w:=w) (base:=base) (T:=T) gM B
  have h6:=QD (P:=l.prog) (w:=w) (base:=base) (T:=T) kh B h_WHOLE
  have h7:=Qx gO B j9 h4 gM h5
  have h8:=Qw (T:=T) jE B cu h2
  have h9:=Ww (P:=l.prog) (w:=w) (base:=base) gP C
  have h10:=Nh (T:=T) j7 B C gP h9
  have h11:=En jF cA g9 cj g6
  have h12:=Bv (P:=l.prog) (w:=w) (base:=base) (T:=T) iM B C
  have h13:=Eo jA B gO h7 rB g21 kh h6 jF h11 jE h8 iM h12 j7 h10
  have k1:=Qu (P:=l.prog) (w:=w) (base:=base) (T:=T) bG
  have k2:=QF (P:=l.prog) (w:=w) (K:=K) (base:=base) (T:=T) aJ B
  have k3:=Qm (P:=l.prog) (w:=w) (base:=base) bK B
  have k4:=Em gU B aJ k2
  have k5:=Nm (P:=l.prog) (w:=w) (base:=base) (T:=T) dN
  have k6:=QH (P:=l.prog) (w:=w) (base:=base) aU
  have k7:=Qz eX B dN k5 aU k6
  have k9:=Qn iT B aJ k2 eX k7
  have k11:=Qs (T:=T) gY B aU k6
  have k13:=Qt (P:=l.prog) (w:=w) (K:=K) (base:=base) (T:=T) aY B
  have k14:=Qo gW B aY k13
  have k15:=Qy (P:=l.prog) (w:=w) (base:=base) (T:=T) iU B
  have k16:=Ql (P:=l.prog) (w:=w) (base:=base) (T:=T) iR B
  have k17:=Wx jG B aJ k2 dN k5 bK k3 aU k6
  exact QB Yc B bG k1 gU k4 iT k9 aJ k2 gY k11 bK k3 jG k17 jA h13 gW k14 iU k15 iR k16
def codeOf (K:PySem.W.Frag) (x:Str):Addr:=match PySem.W.nsIn K mainGlobals x with
  | some (some (.ref f))=>match K.lookup f with
    | some ⟨_,_,.func fd,_⟩=>match fd.code with
      | .ref c=>c
      | _=>0
    | _=>0
  | _=>0
theorem Dc {K:PySem.W.Frag} {P:Addr} (x:Str) (h:PySem.W.codeHdIn K (codeOf K x) P=true):∃ c,PySem.W.codeHdIn K c P=true:=⟨_,h⟩
theorem walk {l:PySem.W.OpenLaw} {q:Program} {loose:List Str} {XP:(Str→Option Value)→Heap→Prop} {YP:World→Heap→Prop} {d:DefRec} {K:Params→PySem.W.Frag} {P0 P1:Addr} (hn:l.most=some 63) (hdf:d.params.defaults=[])
    (hY:∀ (w:World) (h:Heap),YP w h→(K w.params).In h) (hYt:∀ (w:World) (h:Heap),YP w h→∀ P∈([P0,P1]:List Addr),h.get? P=some (PySem.W.tabObj #[])) (hts:∀ (w:World),∀ P∈([P0,P1]:List Addr),(K w.params).lookup P=none∧∃ c,PySem.W.codeHdIn (K w.params) c P=true)
    (F:∀ (w:World) (mg:Str→Option Value) (fa:Addr) (h:Heap),(K w.params).In h→h.Ns mainGlobals mg→mg d.name=some (.ref fa) →
      ∃ fd:FuncData,(∀ (s:Shared) (u:Value),BindsTo s fd ⟨[u],[]⟩ [("script",u)])∧∀ base:Heap,(K w.params).In base→base.Ns mainGlobals mg→BM mg base→bR l.prog w (K w.params) mg base CX0 9 fa fd ["script"] (xM (K w.params) [(P0,bL.1,bL.2),(P1,dD.1,dD.2)])) :
    PySem.W.WalkO q loose XP YP l.row.toRowW d [] (fun f vs=>PySem.call f vs) :=
  L2.DR (n:=63) (k:=9) (x:="script") (CX:=fun _=>CX0) (sp:=fun w=>xM (K w.params) [(P0,bL.1,bL.2),(P1,dD.1,dD.2)]) (ts:=([P0,P1]:List Addr)) hn (by decide) hdf ⟨rfl,by decide,by decide⟩ hY hYt hts F (fun _ H a ns hl _ hT hS=>⟨a,ns,rfl,hS,hl,fun t ht=>.inl (hT t.1 (by simp only [List.mem_cons,List.not_mem_nil,or_false] at ht ⊢;(try rcases ht with rfl | ht) <;> (try subst ht) <;> simp)),fun _=>rfl⟩) fun _ _ _ _ _ z=>z
end My
open PySem PySem.W PyProof.Rows
set_option maxRecDepth 100000 in
set_option maxHeartbeats 0 in
theorem PySem.Challenge.cw_sluice_k48_whole_days_on_end_holds : PySem.Challenge.rw_sluice_k48_whole_days_on_end.Holds := by
  w_on;o_law
  refine PySem.W.holds_open (q:=My.qv) (loose:=My.yd) (Xt:=(fun s=>PySem.W.xlAt My.qv [] s && PySem.W.recOk (PySem.W.RowW.records PySem.Challenge.rw_sluice_k48_whole_days_on_end.row.toRowW) s)) (XP:=PySem.W.XL My.qv []) (Yf:=PySem.W.Hook.obs (PySem.W.kmHook My.Kf My.asK My.hkE My.tsK)) (Ya:=PySem.W.Hook.val (PySem.W.kmHook My.Kf My.asK My.hkE My.tsK)) (YP:=PySem.W.Hook.says (PySem.W.kmHook My.Kf My.asK My.hkE My.tsK)) (N:=4756) My.hlE (PySem.W.Hook.of (PySem.W.kmHook My.Kf My.asK My.hkE My.tsK)) (PySem.W.Hook.keeps (PySem.W.kmHook My.Kf My.asK My.hkE My.tsK)) (fun s e=>PySem.W.xl_of s (Bool.and_eq_true_iff.mp e).1) PySem.W.XL.keeps (by rfl) (by rfl) (by rfl) (fun s e=>PySem.W.recFacts_of (Bool.and_eq_true_iff.mp e).2) (by rfl) (by first | assumption | decide +kernel) (by decide +kernel) ⟨rfl,rfl,rfl,rfl,rfl,by decide +kernel⟩ ?hw ?hc
  case hw=>w_witness2
  k_fill
  refine' My.walk (l:=PySem.Challenge.rw_sluice_k48_whole_days_on_end) rfl rfl (fun w h Y=>PySem.W.km_in_of Y) (fun w h Y=>PySem.W.km_tabs_of Y) ?hts ?F
  case F =>
    intro w mg fa h KX G hmg
    refine' My.all_mk KX G hmg ?a0 ?l0 ?c0 ?k0 ?a1 ?l1 ?c1 ?k1 ?a2 ?l2 ?c2 ?k2 ?a3 ?l3 ?c3 ?k3 ?a4 ?l4 ?c4 ?k4 ?a5 ?l5 ?c5 ?k5 ?a6 ?l6 ?c6 ?k6 ?a7 ?l7 ?c7 ?k7 ?a8 ?l8 ?c8 ?k8 ?a9 ?l9 ?c9 ?k9 ?a10 ?l10 ?c10 ?k10 ?a11 ?l11 ?c11 ?k11 ?a12 ?l12 ?c12 ?k12 ?a13 ?l13 ?c13 ?k13 ?a14 ?l14 ?c14 ?k14 ?a15 ?l15 ?c15 ?k15 ?a16 ?l16 ?c16 ?k16 ?a17 ?l17 ?c17 ?k17 ?a18 ?l18 ?c18 ?k18 ?a19 ?l19 ?c19 ?k19 ?a20 ?l20 ?c20 ?k20 ?a21 ?l21 ?c21 ?k21 ?a22 ?l22 ?c22 ?k22 ?a23 ?l23 ?c23 ?k23 ?a24 ?l24 ?c24 ?k24 ?a25 ?l25 ?c25 ?k25 ?a26 ?l26 ?c26 ?k26 ?a27 ?l27 ?c27 ?k27 ?a28 ?l28 ?c28 ?k28 ?a29 ?l29 ?c29 ?k29 ?a30 ?l30 ?c30 ?k30 ?a31 ?l31 ?c31 ?k31 ?a32 ?l32 ?c32 ?k32 ?a33 ?l33 ?c33 ?k33 ?a34 ?l34 ?c34 ?k34 ?a35 ?l35 ?c35 ?k35 ?a36 ?l36 ?c36 ?k36 ?a37 ?l37 ?c37 ?k37 ?a38 ?l38 ?c38 ?k38 ?a39 ?l39 ?c39 ?k39 ?a40 ?l40 ?c40 ?k40 ?a41 ?l41 ?c41 ?k41 ?a42 ?l42 ?c42 ?k42 ?a43 ?l43 ?c43 ?k43 ?a44 ?l44 ?c44 ?k44 ?e0 ?e1 ?z_len ?z_range ?z_list ?z_isinstance ?z_bool ?z_int ?z_all ?z_min ?z_max ?z_sum ?z_sorted ?z_zip ?z_tuple ?z_str ?z_any ?z_enumerate ?z_reversed ?z_abs ?z_ValueError ?z_set ?y0 ?y1 ?dd0_1
    (case a0=>k_is)
    (case l0=>k_is)
    (case c0=>k_is)
    (case k0=>k_is)
    (case a1=>k_is)
    (case l1=>k_is)
    (case c1=>k_is)
    (case k1=>k_is)
    (case a2=>k_is)
    (case l2=>k_is)
    (case c2=>k_is)
    (case k2=>k_is)
    (case a3=>k_is)
    (case l3=>k_is)
    (case c3=>k_is)
    (case k3=>k_is)
    (case a4=>k_is)
    (case l4=>k_is)
    (case c4=>k_is)
    (case k4=>k_is)
    (case a5=>k_is)
    (case l5=>k_is)
    (case c5=>k_is)
    (case k5=>k_is)
    (case a6=>k_is)
    (case l6=>k_is)
    (case c6=>k_is)
    (case k6=>k_is)
    (case a7=>k_is)
    (case l7=>k_is)
    (case c7=>k_is)
    (case k7=>k_is)
    (case a8=>k_is)
    (case l8=>k_is)
    (case c8=>k_is)
    (case k8=>k_is)
    (case a9=>k_is)
    (case l9=>k_is)
    (case c9=>k_is)
    (case k9=>k_is)
    (case a10=>k_is)
    (case l10=>k_is)
    (case c10=>k_is)
    (case k10=>k_is)
    (case a11=>k_is)
    (case l11=>k_is)
    (case c11=>k_is)
    (case k11=>k_is)
    (case a12=>k_is)
    (case l12=>k_is)
    (case c12=>k_is)
    (case k12=>k_is)
    (case a13=>k_is)
    (case l13=>k_is)
    (case c13=>k_is)
    (case k13=>k_is)
    (case a14=>k_is)
    (case l14=>k_is)
    (case c14=>k_is)
    (case k14=>k_is)
    (case a15=>k_is)
    (case l15=>k_is)
    (case c15=>k_is)
    (case k15=>k_is)
    (case a16=>k_is)
    (case l16=>k_is)
    (case c16=>k_is)
    (case k16=>k_is)
    (case a17=>k_is)
    (case l17=>k_is)
    (case c17=>k_is)
    (case k17=>k_is)
    (case a18=>k_is)
    (case l18=>k_is)
    (case c18=>k_is)
    (case k18=>k_is)
    (case a19=>k_is)
    (case l19=>k_is)
    (case c19=>k_is)
    (case k19=>k_is)
    (case a20=>k_is)
    (case l20=>k_is)
    (case c20=>k_is)
    (case k20=>k_is)
    (case a21=>k_is)
    (case l21=>k_is)
    (case c21=>k_is)
    (case k21=>k_is)
    (case a22=>k_is)
    (case l22=>k_is)
    (case c22=>k_is)
    (case k22=>k_is)
    (case a23=>k_is)
    (case l23=>k_is)
    (case c23=>k_is)
    (case k23=>k_is)
    (case a24=>k_is)
    (case l24=>k_is)
    (case c24=>k_is)
    (case k24=>k_is)
    (case a25=>k_is)
    (case l25=>k_is)
    (case c25=>k_is)
    (case k25=>k_is)
    (case a26=>k_is)
    (case l26=>k_is)
    (case c26=>k_is)
    (case k26=>k_is)
    (case a27=>k_is)
    (case l27=>k_is)
    (case c27=>k_is)
    (case k27=>k_is)
    (case a28=>k_is)
    (case l28=>k_is)
    (case c28=>k_is)
    (case k28=>k_is)
    (case a29=>k_is)
    (case l29=>k_is)
    (case c29=>k_is)
    (case k29=>k_is)
    (case a30=>k_is)
    (case l30=>k_is)
    (case c30=>k_is)
    (case k30=>k_is)
    (case a31=>k_is)
    (case l31=>k_is)
    (case c31=>k_is)
    (case k31=>k_is)
    (case a32=>k_is)
    (case l32=>k_is)
    (case c32=>k_is)
    (case k32=>k_is)
    (case a33=>k_is)
    (case l33=>k_is)
    (case c33=>k_is)
    (case k33=>k_is)
    (case a34=>k_is)
    (case l34=>k_is)
    (case c34=>k_is)
    (case k34=>k_is)
    (case a35=>k_is)
    (case l35=>k_is)
    (case c35=>k_is)
    (case k35=>k_is)
    (case a36=>k_is)
    (case l36=>k_is)
    (case c36=>k_is)
    (case k36=>k_is)
    (case a37=>k_is)
    (case l37=>k_is)
    (case c37=>k_is)
    (case k37=>k_is)
    (case a38=>k_is)
    (case l38=>k_is)
    (case c38=>k_is)
    (case k38=>k_is)
    (case a39=>k_is)
    (case l39=>k_is)
    (case c39=>k_is)
    (case k39=>k_is)
    (case a40=>k_is)
    (case l40=>k_is)
    (case c40=>k_is)
    (case k40=>k_is)
    (case a41=>k_is)
    (case l41=>k_is)
    (case c41=>k_is)
    (case k41=>k_is)
    (case a42=>k_is)
    (case l42=>k_is)
    (case c42=>k_is)
    (case k42=>k_is)
    (case a43=>k_is)
    (case l43=>k_is)
    (case c43=>k_is)
    (case k43=>k_is)
    (case a44=>k_is)
    (case l44=>k_is)
    (case c44=>k_is)
    (case k44=>k_is)
    (case e0=>k_is)
    (case e1=>k_is)
    (case z_len=>k_is)
    (case z_range=>k_is)
    (case z_list=>k_is)
    (case z_isinstance=>k_is)
    (case z_bool=>k_is)
    (case z_int=>k_is)
    (case z_all=>k_is)
    (case z_min=>k_is)
    (case z_max=>k_is)
    (case z_sum=>k_is)
    (case z_sorted=>k_is)
    (case z_zip=>k_is)
    (case z_tuple=>k_is)
    (case z_str=>k_is)
    (case z_any=>k_is)
    (case z_enumerate=>k_is)
    (case z_reversed=>k_is)
    (case z_abs=>k_is)
    (case z_ValueError=>k_is)
    (case z_set=>k_is)
    (case y0=>kernel_rfl)
    (case y1=>kernel_rfl)
    (case dd0_1=>(first | decide | (intro h;cases h) | (intro h;simp at h)))
  case hts =>
    intro w P hP
    simp only [List.mem_cons,List.not_mem_nil,or_false] at hP
    rcases hP with rfl | rfl
    · exact ⟨by kernel_rfl,My.Dc "ranked" (by kernel_rfl)⟩
    · exact ⟨by kernel_rfl,My.Dc "tops_first" (by kernel_rfl)⟩
