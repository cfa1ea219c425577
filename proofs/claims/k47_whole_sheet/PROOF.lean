import PyProof.Rows.All
import Wide.All
import OpenK.AllK
import Wide.FinOn
import Lean
import PyProof.EqAt
import PyProof.EqKinds
import PyProof.TupleCall
import KE.KSortTup
import PySem.Challenge.RW_sluice_k47_whole_sheet
set_option Elab.async false
set_option linter.all false
set_option maxRecDepth 100000
set_option maxHeartbeats 4000000
local macro_rules | `(tactic| omega) => `(tactic| first | lia | omega (splitDisjunctions := true))
namespace L2
open PySem
def aF (s:Stmt):Arguments:=match s with
  | .FunctionDef _ a _ _ _ _ _ _ _ _=>a
  | _=>{ posonlyargs:=[],args:=[],vararg:=none,kwonlyargs:=[],kw_defaults:=[],kwarg:=none,defaults:=[] }
def aC (s:Stmt):List Stmt:=match s with
  | .FunctionDef _ _ b _ _ _ _ _ _ _=>b
  | _=>[]
def ao (s:Stmt):Scope:=match s with
  | .FunctionDef _ _ _ _ _ _ sc _ _ _=>sc
  | _=>{ kind:=.function,names:=[],isGenerator:=false,isCoroutine:=false }
end L2
namespace My
open PySem L2
noncomputable def top0 (i:Nat):Stmt:=PySem.Challenge.pw_sluice_k47_whole_sheet.main.body.getD i (.Pass ⟨0,0,0,0⟩)
noncomputable def en (P:Params) (x:Str) (t:Tok) (v:Value):DictEntry:=⟨PyData.keyHash P x,.str x t,v⟩
noncomputable section
def tq (a:Array Value):Obj:={ cls:=.type "tuple",data:=.seq a }
def fc (a:Array Value):Obj:={ cls:=.type "code",data:=.fields a }
def cp (n:Nat):Value:=.str "/claim/cut.py" n
def pr0 (x:Str) (i:Nat):Obj:={ cls:=.none,data:=.func { name:=x,qualname:=x,params:=aF (top0 i),body:=.stmts (aC (top0 i)),scope:=ao (top0 i),globals:=0,closure:=[],defaults:=.none,kwdefaults:=.none } }
def YQ (P:Params):Obj:={ cls:=.type "dict",data:=Data.dict #[en P "__name__" 1 (.str "builtins" 160),en P "__doc__" 2 (.builtin "builtins.__doc__:str#opaque"),en P "__package__" 3 (.builtin "builtins.__package__:str#opaque"),en P "__loader__" 4 (.builtin "builtins.__loader__:shared#opaque"),en P "__spec__" 5 (.builtin "builtins.__spec__#opaque"),en P "__build_class__" 6 (.builtin "__build_class__"),en P "__import__" 7 (.builtin "__import__"),en P "abs" 8 (.builtin "abs"),en P "all" 9 (.builtin "all"),en P "any" 10 (.builtin "any"),en P "ascii" 11 (.builtin "ascii"),en P "bin" 12 (.builtin "bin"),en P "breakpoint" 13 (.builtin "breakpoint"),en P "callable" 14 (.builtin "callable"),en P "chr" 15 (.builtin "chr"),en P "compile" 16 (.builtin "compile"),en P "delattr" 17 (.builtin "delattr"),en P "dir" 18 (.builtin "dir"),en P "divmod" 19 (.builtin "divmod"),en P "eval" 20 (.builtin "eval"),en P "exec" 21 (.builtin "exec"),en P "format" 22 (.builtin "format"),en P "getattr" 23 (.builtin "getattr"),en P "globals" 24 (.builtin "globals"),en P "hasattr" 25 (.builtin "hasattr"),en P "hash" 26 (.builtin "hash"),en P "hex" 27 (.builtin "hex"),en P "id" 28 (.builtin "id"),en P "input" 29 (.builtin "input"),en P "isinstance" 30 (.builtin "isinstance"),en P "issubclass" 31 (.builtin "issubclass"),en P "iter" 32 (.builtin "iter"),en P "aiter" 33 (.builtin "aiter"),en P "len" 34 (.builtin "len"),en P "locals" 35 (.builtin "locals"),en P "max" 36 (.builtin "max"),en P "min" 37 (.builtin "min"),en P "next" 38 (.builtin "next"),en P "anext" 39 (.builtin "anext"),en P "oct" 40 (.builtin "oct"),en P "ord" 41 (.builtin "ord"),en P "pow" 42 (.builtin "pow"),en P "print" 43 (.builtin "print"),en P "repr" 44 (.builtin "repr"),en P "round" 45 (.builtin "round"),en P "setattr" 46 (.builtin "setattr"),en P "sorted" 47 (.builtin "sorted"),en P "sum" 48 (.builtin "sum"),en P "vars" 49 (.builtin "vars"),en P "None" 50 .none,en P "Ellipsis" 51 .ellipsis,en P "NotImplemented" 52 .notImplemented,en P "False" 53 (.bool false),en P "True" 54 (.bool true),en P "bool" 55 (.type "bool"),en P "memoryview" 56 (.type "memoryview"),en P "bytearray" 57 (.type "bytearray"),en P "bytes" 58 (.type "bytes"),en P "classmethod" 59 (.type "classmethod"),en P "complex" 60 (.type "complex"),en P "dict" 61 (.type "dict"),en P "enumerate" 62 (.type "enumerate"),en P "filter" 63 (.type "filter"),en P "float" 64 (.type "float"),en P "frozenset" 65 (.type "frozenset"),en P "property" 66 (.type "property"),en P "int" 67 (.type "int"),en P "list" 68 (.type "list"),en P "map" 69 (.type "map"),en P "object" 70 (.type "object"),en P "range" 71 (.type "range"),en P "reversed" 72 (.type "reversed"),en P "set" 73 (.type "set"),en P "slice" 74 (.type "slice"),en P "staticmethod" 75 (.type "staticmethod"),en P "str" 76 (.type "str"),en P "super" 77 (.type "super"),en P "tuple" 78 (.type "tuple"),en P "type" 79 (.type "type"),en P "zip" 80 (.type "zip"),en P "__debug__" 81 (.bool true),en P "BaseException" 82 (.type "BaseException"),en P "BaseExceptionGroup" 83 (.type "BaseExceptionGroup"),en P "Exception" 84 (.type "Exception"),en P "GeneratorExit" 85 (.type "GeneratorExit"),en P "KeyboardInterrupt" 86 (.type "KeyboardInterrupt"),en P "SystemExit" 87 (.type "SystemExit"),en P "ArithmeticError" 88 (.type "ArithmeticError"),en P "AssertionError" 89 (.type "AssertionError"),en P "AttributeError" 90 (.type "AttributeError"),en P "BufferError" 91 (.type "BufferError"),en P "EOFError" 92 (.type "EOFError"),en P "ImportError" 93 (.type "ImportError"),en P "LookupError" 94 (.type "LookupError"),en P "MemoryError" 95 (.type "MemoryError"),en P "NameError" 96 (.type "NameError"),en P "OSError" 97 (.type "OSError"),en P "ReferenceError" 98 (.type "ReferenceError"),en P "RuntimeError" 99 (.type "RuntimeError"),en P "StopAsyncIteration" 100 (.type "StopAsyncIteration"),en P "StopIteration" 101 (.type "StopIteration"),en P "SyntaxError" 102 (.type "SyntaxError"),en P "SystemError" 103 (.type "SystemError"),en P "TypeError" 104 (.type "TypeError"),en P "ValueError" 105 (.type "ValueError"),en P "Warning" 106 (.type "Warning"),en P "FloatingPointError" 107 (.type "FloatingPointError"),en P "OverflowError" 108 (.type "OverflowError"),en P "ZeroDivisionError" 109 (.type "ZeroDivisionError"),en P "BytesWarning" 110 (.type "BytesWarning"),en P "DeprecationWarning" 111 (.type "DeprecationWarning"),en P "EncodingWarning" 112 (.type "EncodingWarning"),en P "FutureWarning" 113 (.type "FutureWarning"),en P "ImportWarning" 114 (.type "ImportWarning"),en P "PendingDeprecationWarning" 115 (.type "PendingDeprecationWarning"),en P "ResourceWarning" 116 (.type "ResourceWarning"),en P "RuntimeWarning" 117 (.type "RuntimeWarning"),en P "SyntaxWarning" 118 (.type "SyntaxWarning"),en P "UnicodeWarning" 119 (.type "UnicodeWarning"),en P "UserWarning" 120 (.type "UserWarning"),en P "BlockingIOError" 121 (.type "BlockingIOError"),en P "ChildProcessError" 122 (.type "ChildProcessError"),en P "ConnectionError" 123 (.type "ConnectionError"),en P "FileExistsError" 124 (.type "FileExistsError"),en P "FileNotFoundError" 125 (.type "FileNotFoundError"),en P "InterruptedError" 126 (.type "InterruptedError"),en P "IsADirectoryError" 127 (.type "IsADirectoryError"),en P "NotADirectoryError" 128 (.type "NotADirectoryError"),en P "PermissionError" 129 (.type "PermissionError"),en P "ProcessLookupError" 130 (.type "ProcessLookupError"),en P "TimeoutError" 131 (.type "TimeoutError"),en P "IndentationError" 132 (.type "IndentationError"),en P "_IncompleteInputError" 133 (.type "_IncompleteInputError"),en P "IndexError" 134 (.type "IndexError"),en P "KeyError" 135 (.type "KeyError"),en P "ModuleNotFoundError" 136 (.type "ModuleNotFoundError"),en P "NotImplementedError" 137 (.type "NotImplementedError"),en P "PythonFinalizationError" 138 (.type "PythonFinalizationError"),en P "RecursionError" 139 (.type "RecursionError"),en P "UnboundLocalError" 140 (.type "UnboundLocalError"),en P "UnicodeError" 141 (.type "UnicodeError"),en P "BrokenPipeError" 142 (.type "BrokenPipeError"),en P "ConnectionAbortedError" 143 (.type "ConnectionAbortedError"),en P "ConnectionRefusedError" 144 (.type "ConnectionRefusedError"),en P "ConnectionResetError" 145 (.type "ConnectionResetError"),en P "TabError" 146 (.type "TabError"),en P "UnicodeDecodeError" 147 (.type "UnicodeDecodeError"),en P "UnicodeEncodeError" 148 (.type "UnicodeEncodeError"),en P "UnicodeTranslateError" 149 (.type "UnicodeTranslateError"),en P "ExceptionGroup" 150 (.type "ExceptionGroup"),en P "EnvironmentError" 151 (.type "OSError"),en P "IOError" 152 (.type "OSError"),en P "open" 153 (.builtin "open"),en P "quit" 154 (.builtin "builtins.quit#opaque"),en P "exit" 155 (.builtin "builtins.exit#opaque"),en P "copyright" 156 (.builtin "builtins.copyright#opaque"),en P "credits" 157 (.builtin "builtins.credits#opaque"),en P "license" 158 (.builtin "builtins.license#opaque"),en P "help" 159 (.builtin "builtins.help#opaque")] 159 }
def YM (P:Params):Obj:={ cls:=.type "dict",data:=Data.dict #[en P "builtins" 162 (.ref 4),en P "__main__" 163 (.ref 5)] 2 }
def X3 (P:Params):Obj:={ cls:=.none,data:=Data.dict #[] }
def ho_4 (P:Params):Obj:={ cls:=.type "dict",data:=Data.dict #[en P "__name__" 165 (.str "__main__" 164),en P "__doc__" 166 .none,en P "__package__" 167 .none,en P "__loader__" 168 (.builtin "__main__.__loader__#opaque"),en P "__spec__" 169 .none,en P "__annotations__" 170 (.ref 6),en P "__builtins__" 171 (.ref 4),en P "__file__" 173 (cp 172),en P "__cached__" 174 .none] 9 }
def YL (P:Params):Obj:={ cls:=.type "module",dict:=some 0 }
def YK (P:Params):Obj:={ cls:=.type "module",dict:=some 3 }
def YJ (P:Params):Obj:={ cls:=.type "dict",data:=Data.dict #[] }
def YH (P:Params):Obj:=(tq #[])
def YG (P:Params):Obj:={ cls:=.none,data:=Data.fields #[] }
def Vj (P:Params):Obj:=(fc #[.str "<module>" 176,.str "<module>" 177,cp 178,.int 1 0,.int 0 0,.int 0 0,.int 0 0,.int 0 0,.ref 7,.bool false,.int 175 0,.ref 8,.none,.none,.none,.none,.int 179 0,.int 1 0,cp 180])
def Vf (P:Params):Obj:={ cls:=.type "frame",slots:=#[some (.ref 9),some (.ref 3),some (.ref 3),none,some (.str "__main__" 164),none,some (.ref 0)] }
def U8 (P:Params):Obj:={ cls:=.type "dict",data:=Data.dict #[en P "__name__" 165 (.str "law_sluice_k47_whole_sheet" 571),en P "__doc__" 166 .none,en P "__package__" 167 .none,en P "__loader__" 168 (.builtin "__main__.__loader__#opaque"),en P "__spec__" 169 .none,en P "__annotations__" 170 (.ref 6),en P "__builtins__" 171 (.ref 4),en P "__file__" 173 (cp 172),en P "__cached__" 174 .none,en P "SluiceError" 206 (.ref 24),en P "NoReach" 222 (.ref 37),en P "TooMuch" 238 (.ref 49),en P "NoPond" 254 (.ref 61),en P "MOUTH" 259 (.int (-1) 258),en P "way_of" 268 (.ref 70),en P "tops_first" 276 (.ref 77),en P "mouths_of" 282 (.ref 82),en P "stretch_of" 292 (.ref 89),en P "natural_of" 304 (.ref 96),en P "flows_of" 318 (.ref 103),en P "reaches_of" 332 (.ref 110),en P "day_filed" 339 (.ref 117),en P "start_of" 346 (.ref 124),en P "gives_back" 353 (.ref 131),en P "most_of" 360 (.ref 138),en P "ranked" 368 (.ref 145),en P "groups_of" 377 (.ref 152),en P "wants_of" 383 (.ref 157),en P "count_ways" 396 (.ref 164),en P "whole_turns" 402 (.ref 169),en P "draw" 412 (.ref 176),en P "take_whole_turns" 418 (.ref 181),en P "take_one_turn" 424 (.ref 186),en P "deal_turns" 436 (.ref 193),en P "deal" 444 (.ref 198),en P "WHOLE" 448 (.int 1000 447),en P "pond_start" 459 (.ref 205),en P "look_at_let" 473 (.ref 212),en P "let_out" 489 (.ref 219),en P "pond_calls" 505 (.ref 226),en P "evening" 523 (.ref 233),en P "morning_of" 538 (.ref 240),en P "moves_of" 558 (.ref 247),en P "used_of" 564 (.ref 252),en P "day_of" 570 (.ref 257),en P "_law_nth" 581 (.ref 264),en P "_law_draws" 592 (.ref 271),en P "_law_river" 598 (.ref 276),en P "_law_way" 609 (.ref 283),en P "_law_amount" 617 (.ref 290),en P "_law_some" 625 (.ref 297),en P "_law_line" 638 (.ref 304),en P "_law_roll" 654 (.ref 311),en P "_law_ponds" 660 (.ref 316),en P "_law_lets" 676 (.ref 323),en P "_law_numbers" 682 (.ref 328),en P "_law_kinds" 692 (.ref 335),en P "_law_shown" 698 (.ref 340),en P "_law_sheet" 704 (.ref 345),en P "law" 710 (.ref 350)] 60 }
def Yh (P:Params):Obj:=(tq #[])
def Yg (P:Params):Obj:={ cls:=.none,data:=Data.fields #[.int 2 0,.int 0 0,.ref 20,.int 4 0,.int 0 0,.ref 33,.int 6 0,.int 0 0,.ref 45,.int 8 0,.int 0 0,.ref 57,.int 12 0,.int 0 0,.ref 69,.int 17 0,.int 0 0,.ref 76,.int 19 0,.int 0 0,.ref 81,.int 21 0,.int 0 0,.ref 88,.int 29 0,.int 0 0,.ref 95,.int 35 0,.int 0 0,.ref 102,.int 42 0,.int 0 0,.ref 109,.int 45 0,.int 0 0,.ref 116,.int 47 0,.int 0 0,.ref 123,.int 49 0,.int 0 0,.ref 130,.int 51 0,.int 0 0,.ref 137,.int 53 0,.int 0 0,.ref 144,.int 55 0,.int 0 0,.ref 151,.int 60 0,.int 0 0,.ref 156,.int 63 0,.int 0 0,.ref 163,.int 69 0,.int 0 0,.ref 168,.int 73 0,.int 0 0,.ref 175,.int 76 0,.int 0 0,.ref 180,.int 82 0,.int 0 0,.ref 185,.int 90 0,.int 0 0,.ref 192,.int 99 0,.int 0 0,.ref 197,.int 111 0,.int 0 0,.ref 204,.int 114 0,.int 0 0,.ref 211,.int 122 0,.int 0 0,.ref 218,.int 129 0,.int 0 0,.ref 225,.int 135 0,.int 0 0,.ref 232,.int 146 0,.int 0 0,.ref 239,.int 149 0,.int 0 0,.ref 246,.int 157 0,.int 0 0,.ref 251,.int 161 0,.int 0 0,.ref 256,.int 170 0,.int 0 0,.ref 263,.int 174 0,.int 0 0,.ref 270,.int 180 0,.int 0 0,.ref 275,.int 200 0,.int 0 0,.ref 282,.int 207 0,.int 0 0,.ref 289,.int 215 0,.int 0 0,.ref 296,.int 221 0,.int 0 0,.ref 303,.int 228 0,.int 0 0,.ref 310,.int 241 0,.int 0 0,.ref 315,.int 248 0,.int 0 0,.ref 322,.int 258 0,.int 0 0,.ref 327,.int 262 0,.int 0 0,.ref 334,.int 268 0,.int 0 0,.ref 339,.int 289 0,.int 0 0,.ref 344,.int 303 0,.int 0 0,.ref 349] }
def Ye (P:Params):Obj:=(fc #[.str "<module>" 182,.str "<module>" 183,cp 184,.int 1 0,.int 0 0,.int 0 0,.int 0 0,.int 0 0,.ref 11,.bool false,.int 181 0,.ref 12,.none,.none,.none,.none,.int 185 0,.int 1 0,cp 186])
def Yd (P:Params):Obj:={ cls:=.type "frame",slots:=#[some (.ref 13),some (.ref 3),some (.ref 3),none,some (.str "__main__" 164),none,some (.ref 0)] }
def Uu (P:Params):Obj:=(tq #[.type "ValueError"])
def Yc (P:Params):Obj:={ cls:=.type "builtin_function_or_method",data:=Data.fields #[.builtin "type.__prepare__",.type "type"] }
def Yb (P:Params):Obj:={ cls:=.type "dict",data:=Data.dict #[en P "__module__" 196 (.str "sluice.errors" 187),en P "__qualname__" 198 (.str "SluiceError" 197),en P "__firstlineno__" 200 (.int 2 199),en P "__static_attributes__" 201 (.ref 22)] 4 }
def X8 (P:Params):Obj:=(tq #[])
def X7 (P:Params):Obj:={ cls:=.none,data:=Data.fields #[] }
def X6 (P:Params):Obj:=(fc #[.str "SluiceError" 191,.str "SluiceError" 192,cp 193,.int 2 0,.int 0 0,.int 0 0,.int 0 0,.int 0 0,.ref 18,.bool false,.int 181 0,.ref 19,.none,.none,.none,.none,.int 194 0,.int 2 0,cp 195])
def X5 (P:Params):Obj:={ cls:=.type "frame",slots:=#[some (.ref 20),some (.ref 3),some (.ref 17),none,some (.str "sluice.errors" 187),none,some (.ref 0)] }
def T4 (P:Params):Obj:=(tq #[])
def TJ (P:Params):Obj:={ cls:=.type "dict",data:=Data.dict #[en P "__module__" 196 (.str "sluice.errors" 187),en P "__firstlineno__" 200 (.int 2 199),en P "__static_attributes__" 201 (.ref 22),en P "__weakref__" 203 (.ref 25),en P "__doc__" 204 .none] 3 }
def Tt (P:Params):Obj:={ cls:=.type "type",data:=Data.cls { name:="SluiceError",bases:=[.type "ValueError"],mro:=[.ref 24,.type "ValueError",.type "Exception",.type "BaseException",.type "object"],ns:=23,qualname:="SluiceError",subclasses:=[.ref 37,.ref 49,.ref 61] },slots:=#[some (.ref 15),none,some (.str "SluiceError" 189),some (.str "SluiceError" 197),some (.builtin "ValueError.__new__"),some (.bool true)] }
def Tj (P:Params):Obj:={ cls:=.type "getset_descriptor",data:=Data.fields #[.str "__weakref__" 202,.ref 24,.builtin "ExceptionGroup.__weakref__",.none] }
def X4 (P:Params):Obj:={ cls:=.type "super",data:=Data.fields #[.ref 24,.ref 24,.ref 24] }
def XS (P:Params):Obj:={ cls:=.type "builtin_function_or_method",data:=Data.fields #[.builtin "object.__init_subclass__",.ref 24] }
def S6 (P:Params):Obj:=(tq #[.ref 24])
def XR (P:Params):Obj:={ cls:=.type "builtin_function_or_method",data:=Data.fields #[.builtin "type.__prepare__",.type "type"] }
def XQ (P:Params):Obj:={ cls:=.type "dict",data:=Data.dict #[en P "__module__" 214 (.str "sluice.errors" 187),en P "__qualname__" 216 (.str "NoReach" 215),en P "__firstlineno__" 218 (.int 4 217),en P "__static_attributes__" 219 (.ref 35)] 4 }
def XM (P:Params):Obj:=(tq #[])
def XJ (P:Params):Obj:={ cls:=.none,data:=Data.fields #[] }
def XH (P:Params):Obj:=(fc #[.str "NoReach" 209,.str "NoReach" 210,cp 211,.int 4 0,.int 0 0,.int 0 0,.int 0 0,.int 0 0,.ref 31,.bool false,.int 181 0,.ref 32,.none,.none,.none,.none,.int 212 0,.int 4 0,cp 213])
def XF (P:Params):Obj:={ cls:=.type "frame",slots:=#[some (.ref 33),some (.ref 3),some (.ref 30),none,some (.str "sluice.errors" 187),none,some (.ref 0)] }
def R8 (P:Params):Obj:=(tq #[])
def R7 (P:Params):Obj:={ cls:=.type "dict",data:=Data.dict #[en P "__module__" 214 (.str "sluice.errors" 187),en P "__firstlineno__" 218 (.int 4 217),en P "__static_attributes__" 219 (.ref 35),en P "__doc__" 220 .none] 2 }
def R6 (P:Params):Obj:={ cls:=.type "type",data:=Data.cls { name:="NoReach",bases:=[.ref 24],mro:=[.ref 37,.ref 24,.type "ValueError",.type "Exception",.type "BaseException",.type "object"],ns:=36,qualname:="NoReach" },slots:=#[some (.ref 28),none,some (.str "NoReach" 207),some (.str "NoReach" 215),some (.builtin "ValueError.__new__"),some (.bool true)] }
def XD (P:Params):Obj:={ cls:=.type "super",data:=Data.fields #[.ref 37,.ref 37,.ref 37] }
def XC (P:Params):Obj:={ cls:=.type "builtin_function_or_method",data:=Data.fields #[.builtin "object.__init_subclass__",.ref 37] }
def R5 (P:Params):Obj:=(tq #[.ref 24])
def Xz (P:Params):Obj:={ cls:=.type "builtin_function_or_method",data:=Data.fields #[.builtin "type.__prepare__",.type "type"] }
def Xy (P:Params):Obj:={ cls:=.type "dict",data:=Data.dict #[en P "__module__" 230 (.str "sluice.errors" 187),en P "__qualname__" 232 (.str "TooMuch" 231),en P "__firstlineno__" 234 (.int 6 233),en P "__static_attributes__" 235 (.ref 47)] 4 }
def Xx (P:Params):Obj:=(tq #[])
def Xw (P:Params):Obj:={ cls:=.none,data:=Data.fields #[] }
def Xv (P:Params):Obj:=(fc #[.str "TooMuch" 225,.str "TooMuch" 226,cp 227,.int 6 0,.int 0 0,.int 0 0,.int 0 0,.int 0 0,.ref 43,.bool false,.int 181 0,.ref 44,.none,.none,.none,.none,.int 228 0,.int 6 0,cp 229])
def Xu (P:Params):Obj:={ cls:=.type "frame",slots:=#[some (.ref 45),some (.ref 3),some (.ref 42),none,some (.str "sluice.errors" 187),none,some (.ref 0)] }
def R4 (P:Params):Obj:=(tq #[])
def R3 (P:Params):Obj:={ cls:=.type "dict",data:=Data.dict #[en P "__module__" 230 (.str "sluice.errors" 187),en P "__firstlineno__" 234 (.int 6 233),en P "__static_attributes__" 235 (.ref 47),en P "__doc__" 236 .none] 2 }
def R0 (P:Params):Obj:={ cls:=.type "type",data:=Data.cls { name:="TooMuch",bases:=[.ref 24],mro:=[.ref 49,.ref 24,.type "ValueError",.type "Exception",.type "BaseException",.type "object"],ns:=48,qualname:="TooMuch" },slots:=#[some (.ref 40),none,some (.str "TooMuch" 223),some (.str "TooMuch" 231),some (.builtin "ValueError.__new__"),some (.bool true)] }
def Xr (P:Params):Obj:={ cls:=.type "super",data:=Data.fields #[.ref 49,.ref 49,.ref 49] }
def Xq (P:Params):Obj:={ cls:=.type "builtin_function_or_method",data:=Data.fields #[.builtin "object.__init_subclass__",.ref 49] }
def RZ (P:Params):Obj:=(tq #[.ref 24])
def Xp (P:Params):Obj:={ cls:=.type "builtin_function_or_method",data:=Data.fields #[.builtin "type.__prepare__",.type "type"] }
def Xo (P:Params):Obj:={ cls:=.type "dict",data:=Data.dict #[en P "__module__" 246 (.str "sluice.errors" 187),en P "__qualname__" 248 (.str "NoPond" 247),en P "__firstlineno__" 250 (.int 8 249),en P "__static_attributes__" 251 (.ref 59)] 4 }
def Xn (P:Params):Obj:=(tq #[])
def Xm (P:Params):Obj:={ cls:=.none,data:=Data.fields #[] }
def Xl (P:Params):Obj:=(fc #[.str "NoPond" 241,.str "NoPond" 242,cp 243,.int 8 0,.int 0 0,.int 0 0,.int 0 0,.int 0 0,.ref 55,.bool false,.int 181 0,.ref 56,.none,.none,.none,.none,.int 244 0,.int 8 0,cp 245])
def Xk (P:Params):Obj:={ cls:=.type "frame",slots:=#[some (.ref 57),some (.ref 3),some (.ref 54),none,some (.str "sluice.errors" 187),none,some (.ref 0)] }
def RX (P:Params):Obj:=(tq #[])
def RW (P:Params):Obj:={ cls:=.type "dict",data:=Data.dict #[en P "__module__" 246 (.str "sluice.errors" 187),en P "__firstlineno__" 250 (.int 8 249),en P "__static_attributes__" 251 (.ref 59),en P "__doc__" 252 .none] 2 }
def RV (P:Params):Obj:={ cls:=.type "type",data:=Data.cls { name:="NoPond",bases:=[.ref 24],mro:=[.ref 61,.ref 24,.type "ValueError",.type "Exception",.type "BaseException",.type "object"],ns:=60,qualname:="NoPond" },slots:=#[some (.ref 52),none,some (.str "NoPond" 239),some (.str "NoPond" 247),some (.builtin "ValueError.__new__"),some (.bool true)] }
def Xj (P:Params):Obj:={ cls:=.type "super",data:=Data.fields #[.ref 61,.ref 61,.ref 61] }
def Xi (P:Params):Obj:={ cls:=.type "builtin_function_or_method",data:=Data.fields #[.builtin "object.__init_subclass__",.ref 61] }
def RT (P:Params):Obj:=(tq #[])
def Xh (P:Params):Obj:={ cls:=.none,data:=Data.fields #[] }
def RQ (P:Params):Obj:=(tq #[.str "below" 263,.str "reach" 264,.str "way" 265])
def RP (P:Params):Obj:=(tq #[])
def Xg (P:Params):Obj:=(pr0 "way_of" 7)
def RN (P:Params):Obj:=(fc #[.str "way_of" 260,.str "way_of" 261,cp 262,.int 12 0,.int 2 0,.int 0 0,.int 0 0,.int 3 0,.ref 64,.bool true,.int 181 0,.ref 65,.none,.ref 66,.ref 67,.ref 68,.int 266 0,.int 12 0,cp 267])
def RM (P:Params):Obj:=⟨.type "function",none,.func (PySem.W.fnOf "way_of" "way_of" (aF (top0 7)) (aC (top0 7)) (ao (top0 7)) .none .none .none (.str "sluice.rivers" 255) none (.ref 69) .none),#[]⟩
def RL (P:Params):Obj:=(tq #[])
def Xf (P:Params):Obj:={ cls:=.none,data:=Data.fields #[] }
def RK (P:Params):Obj:=(tq #[.str "below" 272])
def RJ (P:Params):Obj:=(tq #[.str "below" 273])
def Xe (P:Params):Obj:=(pr0 "tops_first" 8)
def RG (P:Params):Obj:=(fc #[.str "tops_first" 269,.str "tops_first" 270,cp 271,.int 17 0,.int 1 0,.int 0 0,.int 0 0,.int 3 0,.ref 71,.bool true,.int 181 0,.ref 72,.none,.ref 73,.ref 74,.ref 75,.int 274 0,.int 17 0,cp 275])
def RD (P:Params):Obj:=⟨.type "function",none,.func (PySem.W.fnOf "tops_first" "tops_first" (aF (top0 8)) (aC (top0 8)) (ao (top0 8)) .none .none .none (.str "sluice.rivers" 255) none (.ref 76) .none),#[]⟩
def RB (P:Params):Obj:=(tq #[])
def Xd (P:Params):Obj:={ cls:=.none,data:=Data.fields #[] }
def Xc (P:Params):Obj:=(pr0 "mouths_of" 9)
def Rz (P:Params):Obj:=(fc #[.str "mouths_of" 277,.str "mouths_of" 278,cp 279,.int 19 0,.int 1 0,.int 0 0,.int 0 0,.int 3 0,.ref 78,.bool true,.int 181 0,.ref 79,.none,.none,.none,.ref 80,.int 280 0,.int 19 0,cp 281])
def Ry (P:Params):Obj:=⟨.type "function",none,.func (PySem.W.fnOf "mouths_of" "mouths_of" (aF (top0 9)) (aC (top0 9)) (ao (top0 9)) .none .none .none (.str "sluice.rivers" 255) none (.ref 81) .none),#[]⟩
def Rx (P:Params):Obj:=(tq #[])
def Xb (P:Params):Obj:={ cls:=.none,data:=Data.fields #[] }
def Rw (P:Params):Obj:=(tq #[.str "below" 286,.str "start" 287,.str "stop" 288,.str "way" 289])
def Ru (P:Params):Obj:=(tq #[])
def Xa (P:Params):Obj:=(pr0 "stretch_of" 10)
def Rt (P:Params):Obj:=(fc #[.str "stretch_of" 283,.str "stretch_of" 284,cp 285,.int 21 0,.int 3 0,.int 0 0,.int 0 0,.int 3 0,.ref 83,.bool true,.int 181 0,.ref 84,.none,.ref 85,.ref 86,.ref 87,.int 290 0,.int 21 0,cp 291])
def Rr (P:Params):Obj:=⟨.type "function",none,.func (PySem.W.fnOf "stretch_of" "stretch_of" (aF (top0 10)) (aC (top0 10)) (ao (top0 10)) .none .none .none (.str "sluice.rivers" 255) none (.ref 88) .none),#[]⟩
def Rq (P:Params):Obj:=(tq #[])
def W9 (P:Params):Obj:={ cls:=.none,data:=Data.fields #[] }
def Rp (P:Params):Obj:=(tq #[.str "below" 298,.str "springs" 299,.str "flows" 300,.str "reach" 301])
def Ro (P:Params):Obj:=(tq #[])
def W8 (P:Params):Obj:=(pr0 "natural_of" 12)
def Rn (P:Params):Obj:=(fc #[.str "natural_of" 295,.str "natural_of" 296,cp 297,.int 29 0,.int 2 0,.int 0 0,.int 0 0,.int 3 0,.ref 90,.bool true,.int 181 0,.ref 91,.none,.ref 92,.ref 93,.ref 94,.int 302 0,.int 29 0,cp 303])
def Rm (P:Params):Obj:=⟨.type "function",none,.func (PySem.W.fnOf "natural_of" "natural_of" (aF (top0 12)) (aC (top0 12)) (ao (top0 12)) .none .none .none (.str "sluice.flows" 293) none (.ref 95) .none),#[]⟩
def Nb (P:Params):Obj:=(tq #[])
def Vi (P:Params):Obj:={ cls:=.none,data:=Data.fields #[] }
def M9 (P:Params):Obj:=(tq #[.str "below" 308,.str "springs" 309,.str "moves" 310,.str "flows" 311,.str "start" 312,.str "stop" 313,.str "amount" 314,.str "reach" 315])
def M8 (P:Params):Obj:=(tq #[])
def Vh (P:Params):Obj:=(pr0 "flows_of" 13)
def M7 (P:Params):Obj:=(fc #[.str "flows_of" 305,.str "flows_of" 306,cp 307,.int 35 0,.int 3 0,.int 0 0,.int 0 0,.int 3 0,.ref 97,.bool true,.int 181 0,.ref 98,.none,.ref 99,.ref 100,.ref 101,.int 316 0,.int 35 0,cp 317])
def M6 (P:Params):Obj:=⟨.type "function",none,.func (PySem.W.fnOf "flows_of" "flows_of" (aF (top0 13)) (aC (top0 13)) (ao (top0 13)) .none .none .none (.str "sluice.flows" 293) none (.ref 102) .none),#[]⟩
def M5 (P:Params):Obj:=(tq #[])
def Vg (P:Params):Obj:={ cls:=.none,data:=Data.fields #[] }
def M4 (P:Params):Obj:=(tq #[.str "below" 324,.str "one" 325,.str "day" 326,.str "start" 327,.str "back" 328,.str "most" 329])
def MP (P:Params):Obj:=(tq #[])
def Ve (P:Params):Obj:=(pr0 "reaches_of" 15)
def MN (P:Params):Obj:=(fc #[.str "reaches_of" 321,.str "reaches_of" 322,cp 323,.int 42 0,.int 2 0,.int 0 0,.int 0 0,.int 3 0,.ref 104,.bool true,.int 181 0,.ref 105,.none,.ref 106,.ref 107,.ref 108,.int 330 0,.int 42 0,cp 331])
def MK (P:Params):Obj:=⟨.type "function",none,.func (PySem.W.fnOf "reaches_of" "reaches_of" (aF (top0 15)) (aC (top0 15)) (ao (top0 15)) .none .none .none (.str "sluice.licences" 319) none (.ref 109) .none),#[]⟩
def MJ (P:Params):Obj:=(tq #[])
def Vd (P:Params):Obj:={ cls:=.none,data:=Data.fields #[] }
def MF (P:Params):Obj:=(tq #[.str "one" 336])
def Mz (P:Params):Obj:=(tq #[])
def Vc (P:Params):Obj:=(pr0 "day_filed" 16)
def Mx (P:Params):Obj:=(fc #[.str "day_filed" 333,.str "day_filed" 334,cp 335,.int 45 0,.int 1 0,.int 0 0,.int 0 0,.int 3 0,.ref 111,.bool true,.int 181 0,.ref 112,.none,.ref 113,.ref 114,.ref 115,.int 337 0,.int 45 0,cp 338])
def Mw (P:Params):Obj:=⟨.type "function",none,.func (PySem.W.fnOf "day_filed" "day_filed" (aF (top0 16)) (aC (top0 16)) (ao (top0 16)) .none .none .none (.str "sluice.licences" 319) none (.ref 116) .none),#[]⟩
def Mu (P:Params):Obj:=(tq #[])
def Vb (P:Params):Obj:={ cls:=.none,data:=Data.fields #[] }
def Mt (P:Params):Obj:=(tq #[.str "one" 343])
def Ms (P:Params):Obj:=(tq #[])
def Va (P:Params):Obj:=(pr0 "start_of" 17)
def Mr (P:Params):Obj:=(fc #[.str "start_of" 340,.str "start_of" 341,cp 342,.int 47 0,.int 1 0,.int 0 0,.int 0 0,.int 3 0,.ref 118,.bool true,.int 181 0,.ref 119,.none,.ref 120,.ref 121,.ref 122,.int 344 0,.int 47 0,cp 345])
def Mq (P:Params):Obj:=⟨.type "function",none,.func (PySem.W.fnOf "start_of" "start_of" (aF (top0 17)) (aC (top0 17)) (ao (top0 17)) .none .none .none (.str "sluice.licences" 319) none (.ref 123) .none),#[]⟩
def Mp (P:Params):Obj:=(tq #[])
def U9 (P:Params):Obj:={ cls:=.none,data:=Data.fields #[] }
def Ml (P:Params):Obj:=(tq #[.str "one" 350])
def Mj (P:Params):Obj:=(tq #[])
def U7 (P:Params):Obj:=(pr0 "gives_back" 18)
def Mi (P:Params):Obj:=(fc #[.str "gives_back" 347,.str "gives_back" 348,cp 349,.int 49 0,.int 1 0,.int 0 0,.int 0 0,.int 3 0,.ref 125,.bool true,.int 181 0,.ref 126,.none,.ref 127,.ref 128,.ref 129,.int 351 0,.int 49 0,cp 352])
def Mh (P:Params):Obj:=⟨.type "function",none,.func (PySem.W.fnOf "gives_back" "gives_back" (aF (top0 18)) (aC (top0 18)) (ao (top0 18)) .none .none .none (.str "sluice.licences" 319) none (.ref 130) .none),#[]⟩
def Mg (P:Params):Obj:=(tq #[])
def U6 (P:Params):Obj:={ cls:=.none,data:=Data.fields #[] }
def Mf (P:Params):Obj:=(tq #[.str "one" 357])
def Ma (P:Params):Obj:=(tq #[])
def U5 (P:Params):Obj:=(pr0 "most_of" 19)
def LR (P:Params):Obj:=(fc #[.str "most_of" 354,.str "most_of" 355,cp 356,.int 51 0,.int 1 0,.int 0 0,.int 0 0,.int 3 0,.ref 132,.bool true,.int 181 0,.ref 133,.none,.ref 134,.ref 135,.ref 136,.int 358 0,.int 51 0,cp 359])
def LQ (P:Params):Obj:=⟨.type "function",none,.func (PySem.W.fnOf "most_of" "most_of" (aF (top0 19)) (aC (top0 19)) (ao (top0 19)) .none .none .none (.str "sluice.licences" 319) none (.ref 137) .none),#[]⟩
def LK (P:Params):Obj:=(tq #[])
def U4 (P:Params):Obj:={ cls:=.none,data:=Data.fields #[] }
def LC (P:Params):Obj:=(tq #[.str "roll" 364])
def Lz (P:Params):Obj:=(tq #[.str "roll" 365])
def U3 (P:Params):Obj:=(pr0 "ranked" 20)
def Ly (P:Params):Obj:=(fc #[.str "ranked" 361,.str "ranked" 362,cp 363,.int 53 0,.int 1 0,.int 0 0,.int 0 0,.int 3 0,.ref 139,.bool true,.int 181 0,.ref 140,.none,.ref 141,.ref 142,.ref 143,.int 366 0,.int 53 0,cp 367])
def Lx (P:Params):Obj:=⟨.type "function",none,.func (PySem.W.fnOf "ranked" "ranked" (aF (top0 20)) (aC (top0 20)) (ao (top0 20)) .none .none .none (.str "sluice.licences" 319) none (.ref 144) .none),#[]⟩
def Lw (P:Params):Obj:=(tq #[])
def U0 (P:Params):Obj:={ cls:=.none,data:=Data.fields #[] }
def Ls (P:Params):Obj:=(tq #[.str "roll" 372,.str "groups" 373,.str "number" 374])
def Lr (P:Params):Obj:=(tq #[])
def UW (P:Params):Obj:=(pr0 "groups_of" 21)
def Lq (P:Params):Obj:=(fc #[.str "groups_of" 369,.str "groups_of" 370,cp 371,.int 55 0,.int 1 0,.int 0 0,.int 0 0,.int 3 0,.ref 146,.bool true,.int 181 0,.ref 147,.none,.ref 148,.ref 149,.ref 150,.int 375 0,.int 55 0,cp 376])
def Lp (P:Params):Obj:=⟨.type "function",none,.func (PySem.W.fnOf "groups_of" "groups_of" (aF (top0 21)) (aC (top0 21)) (ao (top0 21)) .none .none .none (.str "sluice.licences" 319) none (.ref 151) .none),#[]⟩
def Ln (P:Params):Obj:=(tq #[])
def UL (P:Params):Obj:={ cls:=.none,data:=Data.fields #[] }
def UJ (P:Params):Obj:=(pr0 "wants_of" 22)
def Lk (P:Params):Obj:=(fc #[.str "wants_of" 378,.str "wants_of" 379,cp 380,.int 60 0,.int 2 0,.int 0 0,.int 0 0,.int 3 0,.ref 153,.bool true,.int 181 0,.ref 154,.none,.none,.none,.ref 155,.int 381 0,.int 60 0,cp 382])
def Lj (P:Params):Obj:=⟨.type "function",none,.func (PySem.W.fnOf "wants_of" "wants_of" (aF (top0 22)) (aC (top0 22)) (ao (top0 22)) .none .none .none (.str "sluice.licences" 319) none (.ref 156) .none),#[]⟩
def Li (P:Params):Obj:=(tq #[])
def UG (P:Params):Obj:={ cls:=.none,data:=Data.fields #[] }
def Lh (P:Params):Obj:=(tq #[.str "free" 389,.str "ways" 390,.str "counts" 391,.str "way" 392,.str "reach" 393])
def Lg (P:Params):Obj:=(tq #[])
def Uz (P:Params):Obj:=(pr0 "count_ways" 24)
def Lf (P:Params):Obj:=(fc #[.str "count_ways" 386,.str "count_ways" 387,cp 388,.int 63 0,.int 2 0,.int 0 0,.int 0 0,.int 3 0,.ref 158,.bool true,.int 181 0,.ref 159,.none,.ref 160,.ref 161,.ref 162,.int 394 0,.int 63 0,cp 395])
def Le (P:Params):Obj:=⟨.type "function",none,.func (PySem.W.fnOf "count_ways" "count_ways" (aF (top0 24)) (aC (top0 24)) (ao (top0 24)) .none .none .none (.str "sluice.turns" 384) none (.ref 163) .none),#[]⟩
def Ld (P:Params):Obj:=(tq #[])
def Uy (P:Params):Obj:={ cls:=.none,data:=Data.fields #[] }
def Ux (P:Params):Obj:=(pr0 "whole_turns" 25)
def Lb (P:Params):Obj:=(fc #[.str "whole_turns" 397,.str "whole_turns" 398,cp 399,.int 69 0,.int 3 0,.int 0 0,.int 0 0,.int 3 0,.ref 165,.bool true,.int 181 0,.ref 166,.none,.none,.none,.ref 167,.int 400 0,.int 69 0,cp 401])
def La (P:Params):Obj:=⟨.type "function",none,.func (PySem.W.fnOf "whole_turns" "whole_turns" (aF (top0 25)) (aC (top0 25)) (ao (top0 25)) .none .none .none (.str "sluice.turns" 384) none (.ref 168) .none),#[]⟩
def K9 (P:Params):Obj:=(tq #[])
def Uw (P:Params):Obj:={ cls:=.none,data:=Data.fields #[] }
def K8 (P:Params):Obj:=(tq #[.str "left" 406,.str "way" 407,.str "drops" 408,.str "reach" 409])
def K7 (P:Params):Obj:=(tq #[])
def Uv (P:Params):Obj:=(pr0 "draw" 26)
def K6 (P:Params):Obj:=(fc #[.str "draw" 403,.str "draw" 404,cp 405,.int 73 0,.int 3 0,.int 0 0,.int 0 0,.int 3 0,.ref 170,.bool true,.int 181 0,.ref 171,.none,.ref 172,.ref 173,.ref 174,.int 410 0,.int 73 0,cp 411])
def K5 (P:Params):Obj:=⟨.type "function",none,.func (PySem.W.fnOf "draw" "draw" (aF (top0 26)) (aC (top0 26)) (ao (top0 26)) .none .none .none (.str "sluice.turns" 384) none (.ref 175) .none),#[]⟩
def K4 (P:Params):Obj:=(tq #[])
def Ut (P:Params):Obj:={ cls:=.none,data:=Data.fields #[] }
def Us (P:Params):Obj:=(pr0 "take_whole_turns" 27)
def K1 (P:Params):Obj:=(fc #[.str "take_whole_turns" 413,.str "take_whole_turns" 414,cp 415,.int 76 0,.int 5 0,.int 0 0,.int 0 0,.int 3 0,.ref 177,.bool true,.int 181 0,.ref 178,.none,.none,.none,.ref 179,.int 416 0,.int 76 0,cp 417])
def KZ (P:Params):Obj:=⟨.type "function",none,.func (PySem.W.fnOf "take_whole_turns" "take_whole_turns" (aF (top0 27)) (aC (top0 27)) (ao (top0 27)) .none .none .none (.str "sluice.turns" 384) none (.ref 180) .none),#[]⟩
def KY (P:Params):Obj:=(tq #[])
def Ur (P:Params):Obj:={ cls:=.none,data:=Data.fields #[] }
def Uq (P:Params):Obj:=(pr0 "take_one_turn" 28)
def KR (P:Params):Obj:=(fc #[.str "take_one_turn" 419,.str "take_one_turn" 420,cp 421,.int 82 0,.int 5 0,.int 0 0,.int 0 0,.int 3 0,.ref 182,.bool true,.int 181 0,.ref 183,.none,.none,.none,.ref 184,.int 422 0,.int 82 0,cp 423])
def KQ (P:Params):Obj:=⟨.type "function",none,.func (PySem.W.fnOf "take_one_turn" "take_one_turn" (aF (top0 28)) (aC (top0 28)) (ao (top0 28)) .none .none .none (.str "sluice.turns" 384) none (.ref 185) .none),#[]⟩
def KN (P:Params):Obj:=(tq #[])
def Uo (P:Params):Obj:={ cls:=.none,data:=Data.fields #[] }
def KJ (P:Params):Obj:=(tq #[.str "free" 428,.str "ways" 429,.str "rests" 430,.str "left" 431,.str "takes" 432,.str "going" 433])
def KH (P:Params):Obj:=(tq #[])
def Um (P:Params):Obj:=(pr0 "deal_turns" 29)
def KD (P:Params):Obj:=(fc #[.str "deal_turns" 425,.str "deal_turns" 426,cp 427,.int 90 0,.int 3 0,.int 0 0,.int 0 0,.int 3 0,.ref 187,.bool true,.int 181 0,.ref 188,.none,.ref 189,.ref 190,.ref 191,.int 434 0,.int 90 0,cp 435])
def KC (P:Params):Obj:=⟨.type "function",none,.func (PySem.W.fnOf "deal_turns" "deal_turns" (aF (top0 29)) (aC (top0 29)) (ao (top0 29)) .none .none .none (.str "sluice.turns" 384) none (.ref 192) .none),#[]⟩
def Kz (P:Params):Obj:=(tq #[])
def Ul (P:Params):Obj:={ cls:=.none,data:=Data.fields #[] }
def Uk (P:Params):Obj:=(pr0 "deal" 31)
def Ky (P:Params):Obj:=(fc #[.str "deal" 439,.str "deal" 440,cp 441,.int 99 0,.int 4 0,.int 0 0,.int 0 0,.int 3 0,.ref 194,.bool true,.int 181 0,.ref 195,.none,.none,.none,.ref 196,.int 442 0,.int 99 0,cp 443])
def Kw (P:Params):Obj:=⟨.type "function",none,.func (PySem.W.fnOf "deal" "deal" (aF (top0 31)) (aC (top0 31)) (ao (top0 31)) .none .none .none (.str "sluice.dealing" 437) none (.ref 197) .none),#[]⟩
def Kv (P:Params):Obj:=(tq #[])
def Uj (P:Params):Obj:={ cls:=.none,data:=Data.fields #[] }
def Ku (P:Params):Obj:=(tq #[.str "roll" 452,.str "pond" 453,.str "number" 454,.str "room" 455,.str "leak" 456])
def Ks (P:Params):Obj:=(tq #[])
def Ui (P:Params):Obj:=(pr0 "pond_start" 34)
def Kr (P:Params):Obj:=(fc #[.str "pond_start" 449,.str "pond_start" 450,cp 451,.int 111 0,.int 2 0,.int 0 0,.int 0 0,.int 3 0,.ref 199,.bool true,.int 181 0,.ref 200,.none,.ref 201,.ref 202,.ref 203,.int 457 0,.int 111 0,cp 458])
def Kq (P:Params):Obj:=⟨.type "function",none,.func (PySem.W.fnOf "pond_start" "pond_start" (aF (top0 34)) (aC (top0 34)) (ao (top0 34)) .none .none .none (.str "sluice.ponds" 445) none (.ref 204) .none),#[]⟩
def Ko (P:Params):Obj:=(tq #[])
def Uh (P:Params):Obj:={ cls:=.none,data:=Data.fields #[] }
def Km (P:Params):Obj:=(tq #[.str "below" 463,.str "roll" 464,.str "ponds" 465,.str "kept" 466,.str "let" 467,.str "place" 468,.str "reach" 469,.str "amount" 470])
def Kl (P:Params):Obj:=(tq #[])
def Ug (P:Params):Obj:=(pr0 "look_at_let" 35)
def Kh (P:Params):Obj:=(fc #[.str "look_at_let" 460,.str "look_at_let" 461,cp 462,.int 114 0,.int 5 0,.int 0 0,.int 0 0,.int 3 0,.ref 206,.bool true,.int 181 0,.ref 207,.none,.ref 208,.ref 209,.ref 210,.int 471 0,.int 114 0,cp 472])
def Kg (P:Params):Obj:=⟨.type "function",none,.func (PySem.W.fnOf "look_at_let" "look_at_let" (aF (top0 35)) (aC (top0 35)) (ao (top0 35)) .none .none .none (.str "sluice.ponds" 445) none (.ref 211) .none),#[]⟩
def Ke (P:Params):Obj:=(tq #[])
def Ue (P:Params):Obj:={ cls:=.none,data:=Data.fields #[] }
def Kd (P:Params):Obj:=(tq #[.str "below" 477,.str "roll" 478,.str "ponds" 479,.str "kept" 480,.str "lets" 481,.str "left" 482,.str "let" 483,.str "place" 484,.str "reach" 485,.str "amount" 486])
def Kc (P:Params):Obj:=(tq #[])
def Ud (P:Params):Obj:=(pr0 "let_out" 36)
def Ka (P:Params):Obj:=(fc #[.str "let_out" 474,.str "let_out" 475,cp 476,.int 122 0,.int 5 0,.int 0 0,.int 0 0,.int 3 0,.ref 213,.bool true,.int 181 0,.ref 214,.none,.ref 215,.ref 216,.ref 217,.int 487 0,.int 122 0,cp 488])
def J9 (P:Params):Obj:=⟨.type "function",none,.func (PySem.W.fnOf "let_out" "let_out" (aF (top0 36)) (aC (top0 36)) (ao (top0 36)) .none .none .none (.str "sluice.ponds" 445) none (.ref 218) .none),#[]⟩
def J8 (P:Params):Obj:=(tq #[])
def Uc (P:Params):Obj:={ cls:=.none,data:=Data.fields #[] }
def J7 (P:Params):Obj:=(tq #[.str "roll" 493,.str "ponds" 494,.str "kept" 495,.str "calls" 496,.str "lessened" 497,.str "pond" 498,.str "keeps" 499,.str "number" 500,.str "room" 501,.str "leak" 502])
def J6 (P:Params):Obj:=(tq #[])
def Ub (P:Params):Obj:=(pr0 "pond_calls" 37)
def J5 (P:Params):Obj:=(fc #[.str "pond_calls" 490,.str "pond_calls" 491,cp 492,.int 129 0,.int 4 0,.int 0 0,.int 0 0,.int 3 0,.ref 220,.bool true,.int 181 0,.ref 221,.none,.ref 222,.ref 223,.ref 224,.int 503 0,.int 129 0,cp 504])
def J4 (P:Params):Obj:=⟨.type "function",none,.func (PySem.W.fnOf "pond_calls" "pond_calls" (aF (top0 37)) (aC (top0 37)) (ao (top0 37)) .none .none .none (.str "sluice.ponds" 445) none (.ref 225) .none),#[]⟩
def J3 (P:Params):Obj:=(tq #[])
def Ua (P:Params):Obj:={ cls:=.none,data:=Data.fields #[] }
def J2 (P:Params):Obj:=(tq #[.str "ponds" 509,.str "kept" 510,.str "takes" 511,.str "after" 512,.str "lost" 513,.str "pond" 514,.str "keeps" 515,.str "number" 516,.str "room" 517,.str "leak" 518,.str "full" 519,.str "loss" 520])
def J1 (P:Params):Obj:=(tq #[])
def T9 (P:Params):Obj:=(pr0 "evening" 38)
def J0 (P:Params):Obj:=(fc #[.str "evening" 506,.str "evening" 507,cp 508,.int 135 0,.int 3 0,.int 0 0,.int 0 0,.int 3 0,.ref 227,.bool true,.int 181 0,.ref 228,.none,.ref 229,.ref 230,.ref 231,.int 521 0,.int 135 0,cp 522])
def JZ (P:Params):Obj:=⟨.type "function",none,.func (PySem.W.fnOf "evening" "evening" (aF (top0 38)) (aC (top0 38)) (ao (top0 38)) .none .none .none (.str "sluice.ponds" 445) none (.ref 232) .none),#[]⟩
def JX (P:Params):Obj:=(tq #[])
def T8 (P:Params):Obj:={ cls:=.none,data:=Data.fields #[] }
def JW (P:Params):Obj:=(tq #[.str "below" 529,.str "roll" 530,.str "ponds" 531,.str "kept" 532,.str "calls" 533,.str "lets" 534,.str "left" 535])
def JV (P:Params):Obj:=(tq #[])
def T7 (P:Params):Obj:=(pr0 "morning_of" 40)
def JT (P:Params):Obj:=(fc #[.str "morning_of" 526,.str "morning_of" 527,cp 528,.int 146 0,.int 6 0,.int 0 0,.int 0 0,.int 3 0,.ref 234,.bool true,.int 181 0,.ref 235,.none,.ref 236,.ref 237,.ref 238,.int 536 0,.int 146 0,cp 537])
def JR (P:Params):Obj:=⟨.type "function",none,.func (PySem.W.fnOf "morning_of" "morning_of" (aF (top0 40)) (aC (top0 40)) (ao (top0 40)) .none .none .none (.str "sluice.days" 524) none (.ref 239) .none),#[]⟩
def JQ (P:Params):Obj:=(tq #[])
def T6 (P:Params):Obj:={ cls:=.none,data:=Data.fields #[] }
def JN (P:Params):Obj:=(tq #[.str "roll" 542,.str "ponds" 543,.str "takes" 544,.str "lets" 545,.str "moves" 546,.str "one" 547,.str "take" 548,.str "day" 549,.str "start" 550,.str "back" 551,.str "most" 552,.str "place" 553,.str "reach" 554,.str "amount" 555])
def JM (P:Params):Obj:=(tq #[])
def T5 (P:Params):Obj:=(pr0 "moves_of" 41)
def JL (P:Params):Obj:=(fc #[.str "moves_of" 539,.str "moves_of" 540,cp 541,.int 149 0,.int 4 0,.int 0 0,.int 0 0,.int 3 0,.ref 241,.bool true,.int 181 0,.ref 242,.none,.ref 243,.ref 244,.ref 245,.int 556 0,.int 149 0,cp 557])
def JK (P:Params):Obj:=⟨.type "function",none,.func (PySem.W.fnOf "moves_of" "moves_of" (aF (top0 41)) (aC (top0 41)) (ao (top0 41)) .none .none .none (.str "sluice.days" 524) none (.ref 246) .none),#[]⟩
def JH (P:Params):Obj:=(tq #[])
def T3 (P:Params):Obj:={ cls:=.none,data:=Data.fields #[] }
def TY (P:Params):Obj:=(pr0 "used_of" 42)
def JG (P:Params):Obj:=(fc #[.str "used_of" 559,.str "used_of" 560,cp 561,.int 157 0,.int 4 0,.int 0 0,.int 0 0,.int 3 0,.ref 248,.bool true,.int 181 0,.ref 249,.none,.none,.none,.ref 250,.int 562 0,.int 157 0,cp 563])
def JF (P:Params):Obj:=⟨.type "function",none,.func (PySem.W.fnOf "used_of" "used_of" (aF (top0 42)) (aC (top0 42)) (ao (top0 42)) .none .none .none (.str "sluice.days" 524) none (.ref 251) .none),#[]⟩
def JD (P:Params):Obj:=(tq #[])
def TV (P:Params):Obj:={ cls:=.none,data:=Data.fields #[] }
def TQ (P:Params):Obj:=(pr0 "day_of" 43)
def JC (P:Params):Obj:=(fc #[.str "day_of" 565,.str "day_of" 566,cp 567,.int 161 0,.int 7 0,.int 0 0,.int 0 0,.int 3 0,.ref 253,.bool true,.int 181 0,.ref 254,.none,.none,.none,.ref 255,.int 568 0,.int 161 0,cp 569])
def JB (P:Params):Obj:=⟨.type "function",none,.func (PySem.W.fnOf "day_of" "day_of" (aF (top0 43)) (aC (top0 43)) (ao (top0 43)) .none .none .none (.str "sluice.days" 524) none (.ref 256) .none),#[]⟩
def Jz (P:Params):Obj:=(tq #[])
def TF (P:Params):Obj:={ cls:=.none,data:=Data.fields #[] }
def Jy (P:Params):Obj:=(tq #[.str "script" 576,.str "k" 577,.str "cell" 578])
def Jx (P:Params):Obj:=(tq #[])
def Tw (P:Params):Obj:=(pr0 "_law_nth" 45)
def Jw (P:Params):Obj:=(fc #[.str "_law_nth" 573,.str "_law_nth" 574,cp 575,.int 170 0,.int 2 0,.int 0 0,.int 0 0,.int 3 0,.ref 258,.bool true,.int 181 0,.ref 259,.none,.ref 260,.ref 261,.ref 262,.int 579 0,.int 170 0,cp 580])
def Jv (P:Params):Obj:=⟨.type "function",none,.func (PySem.W.fnOf "_law_nth" "_law_nth" (aF (top0 45)) (aC (top0 45)) (ao (top0 45)) .none .none .none (.str "law_sluice_k47_whole_sheet" 571) none (.ref 263) .none),#[]⟩
def Ju (P:Params):Obj:=(tq #[])
def Tv (P:Params):Obj:={ cls:=.none,data:=Data.fields #[] }
def Jt (P:Params):Obj:=(tq #[.str "cell" 585,.str "many" 586,.str "drawn" 587,.str "k" 588,.str "base" 589])
def Js (P:Params):Obj:=(tq #[])
def Tr (P:Params):Obj:=(pr0 "_law_draws" 46)
def Jr (P:Params):Obj:=(fc #[.str "_law_draws" 582,.str "_law_draws" 583,cp 584,.int 174 0,.int 2 0,.int 0 0,.int 0 0,.int 3 0,.ref 265,.bool true,.int 181 0,.ref 266,.none,.ref 267,.ref 268,.ref 269,.int 590 0,.int 174 0,cp 591])
def Jq (P:Params):Obj:=⟨.type "function",none,.func (PySem.W.fnOf "_law_draws" "_law_draws" (aF (top0 46)) (aC (top0 46)) (ao (top0 46)) .none .none .none (.str "law_sluice_k47_whole_sheet" 571) none (.ref 270) .none),#[]⟩
def Jp (P:Params):Obj:=(tq #[])
def Tq (P:Params):Obj:={ cls:=.none,data:=Data.fields #[] }
def Tp (P:Params):Obj:=(pr0 "_law_river" 47)
def Jo (P:Params):Obj:=(fc #[.str "_law_river" 593,.str "_law_river" 594,cp 595,.int 180 0,.int 1 0,.int 0 0,.int 0 0,.int 3 0,.ref 272,.bool true,.int 181 0,.ref 273,.none,.none,.none,.ref 274,.int 596 0,.int 180 0,cp 597])
def Jm (P:Params):Obj:=⟨.type "function",none,.func (PySem.W.fnOf "_law_river" "_law_river" (aF (top0 47)) (aC (top0 47)) (ao (top0 47)) .none .none .none (.str "law_sluice_k47_whole_sheet" 571) none (.ref 275) .none),#[]⟩
def Jl (P:Params):Obj:=(tq #[])
def Ti (P:Params):Obj:={ cls:=.none,data:=Data.fields #[] }
def Jk (P:Params):Obj:=(tq #[.str "below" 602,.str "start" 603,.str "stop" 604,.str "way" 605,.str "at" 606])
def Jj (P:Params):Obj:=(tq #[])
def Tg (P:Params):Obj:=(pr0 "_law_way" 48)
def Ji (P:Params):Obj:=(fc #[.str "_law_way" 599,.str "_law_way" 600,cp 601,.int 200 0,.int 3 0,.int 0 0,.int 0 0,.int 3 0,.ref 277,.bool true,.int 181 0,.ref 278,.none,.ref 279,.ref 280,.ref 281,.int 607 0,.int 200 0,cp 608])
def Jh (P:Params):Obj:=⟨.type "function",none,.func (PySem.W.fnOf "_law_way" "_law_way" (aF (top0 48)) (aC (top0 48)) (ao (top0 48)) .none .none .none (.str "law_sluice_k47_whole_sheet" 571) none (.ref 282) .none),#[]⟩
def Jg (P:Params):Obj:=(tq #[])
def Tf (P:Params):Obj:={ cls:=.none,data:=Data.fields #[] }
def Jf (P:Params):Obj:=(tq #[.str "number" 613,.str "kind" 614])
def Je (P:Params):Obj:=(tq #[])
def Te (P:Params):Obj:=(pr0 "_law_amount" 49)
def Jd (P:Params):Obj:=(fc #[.str "_law_amount" 610,.str "_law_amount" 611,cp 612,.int 207 0,.int 2 0,.int 0 0,.int 0 0,.int 3 0,.ref 284,.bool true,.int 181 0,.ref 285,.none,.ref 286,.ref 287,.ref 288,.int 615 0,.int 207 0,cp 616])
def Jc (P:Params):Obj:=⟨.type "function",none,.func (PySem.W.fnOf "_law_amount" "_law_amount" (aF (top0 49)) (aC (top0 49)) (ao (top0 49)) .none .none .none (.str "law_sluice_k47_whole_sheet" 571) none (.ref 289) .none),#[]⟩
def Jb (P:Params):Obj:=(tq #[])
def Td (P:Params):Obj:={ cls:=.none,data:=Data.fields #[] }
def Ja (P:Params):Obj:=(tq #[.str "number" 621,.str "most" 622])
def IW (P:Params):Obj:=(tq #[])
def Tc (P:Params):Obj:=(pr0 "_law_some" 50)
def IV (P:Params):Obj:=(fc #[.str "_law_some" 618,.str "_law_some" 619,cp 620,.int 215 0,.int 2 0,.int 0 0,.int 0 0,.int 3 0,.ref 291,.bool true,.int 181 0,.ref 292,.none,.ref 293,.ref 294,.ref 295,.int 623 0,.int 215 0,cp 624])
def IK (P:Params):Obj:=⟨.type "function",none,.func (PySem.W.fnOf "_law_some" "_law_some" (aF (top0 50)) (aC (top0 50)) (ao (top0 50)) .none .none .none (.str "law_sluice_k47_whole_sheet" 571) none (.ref 296) .none),#[]⟩
def Iz (P:Params):Obj:=(tq #[])
def S9 (P:Params):Obj:={ cls:=.none,data:=Data.fields #[] }
def Iw (P:Params):Obj:=(tq #[.str "xs" 629,.str "below" 630,.str "kind" 631,.str "far" 632,.str "start" 633,.str "way" 634,.str "back" 635])
def Iu (P:Params):Obj:=(tq #[])
def S8 (P:Params):Obj:=(pr0 "_law_line" 51)
def Ir (P:Params):Obj:=(fc #[.str "_law_line" 626,.str "_law_line" 627,cp 628,.int 221 0,.int 4 0,.int 0 0,.int 0 0,.int 3 0,.ref 298,.bool true,.int 181 0,.ref 299,.none,.ref 300,.ref 301,.ref 302,.int 636 0,.int 221 0,cp 637])
def Ip (P:Params):Obj:=⟨.type "function",none,.func (PySem.W.fnOf "_law_line" "_law_line" (aF (top0 51)) (aC (top0 51)) (ao (top0 51)) .none .none .none (.str "law_sluice_k47_whole_sheet" 571) none (.ref 303) .none),#[]⟩
def Io (P:Params):Obj:=(tq #[])
def S7 (P:Params):Obj:={ cls:=.none,data:=Data.fields #[] }
def Im (P:Params):Obj:=(tq #[.str "cell" 642,.str "cells" 643,.str "below" 644,.str "kind" 645,.str "many" 646,.str "far" 647,.str "roll" 648,.str "k" 649,.str "one" 650,.str "xs" 651])
def Il (P:Params):Obj:=(tq #[])
def S5 (P:Params):Obj:=(pr0 "_law_roll" 52)
def Ik (P:Params):Obj:=(fc #[.str "_law_roll" 639,.str "_law_roll" 640,cp 641,.int 228 0,.int 4 0,.int 0 0,.int 0 0,.int 3 0,.ref 305,.bool true,.int 181 0,.ref 306,.none,.ref 307,.ref 308,.ref 309,.int 652 0,.int 228 0,cp 653])
def Ij (P:Params):Obj:=⟨.type "function",none,.func (PySem.W.fnOf "_law_roll" "_law_roll" (aF (top0 52)) (aC (top0 52)) (ao (top0 52)) .none .none .none (.str "law_sluice_k47_whole_sheet" 571) none (.ref 310) .none),#[]⟩
def Ii (P:Params):Obj:=(tq #[])
def SX (P:Params):Obj:={ cls:=.none,data:=Data.fields #[] }
def SQ (P:Params):Obj:=(pr0 "_law_ponds" 53)
def Ih (P:Params):Obj:=(fc #[.str "_law_ponds" 655,.str "_law_ponds" 656,cp 657,.int 241 0,.int 3 0,.int 0 0,.int 0 0,.int 3 0,.ref 312,.bool true,.int 181 0,.ref 313,.none,.none,.none,.ref 314,.int 658 0,.int 241 0,cp 659])
def Ig (P:Params):Obj:=⟨.type "function",none,.func (PySem.W.fnOf "_law_ponds" "_law_ponds" (aF (top0 53)) (aC (top0 53)) (ao (top0 53)) .none .none .none (.str "law_sluice_k47_whole_sheet" 571) none (.ref 315) .none),#[]⟩
def Ie (P:Params):Obj:=(tq #[])
def SN (P:Params):Obj:={ cls:=.none,data:=Data.fields #[] }
def Ib (P:Params):Obj:=(tq #[.str "cells" 664,.str "below" 665,.str "roll" 666,.str "ponds" 667,.str "left" 668,.str "lets" 669,.str "one" 670,.str "xs" 671,.str "pond" 672,.str "way" 673])
def Ia (P:Params):Obj:=(tq #[])
def SM (P:Params):Obj:=(pr0 "_law_lets" 54)
def HY (P:Params):Obj:=(fc #[.str "_law_lets" 661,.str "_law_lets" 662,cp 663,.int 248 0,.int 5 0,.int 0 0,.int 0 0,.int 3 0,.ref 317,.bool true,.int 181 0,.ref 318,.none,.ref 319,.ref 320,.ref 321,.int 674 0,.int 248 0,cp 675])
def HX (P:Params):Obj:=⟨.type "function",none,.func (PySem.W.fnOf "_law_lets" "_law_lets" (aF (top0 54)) (aC (top0 54)) (ao (top0 54)) .none .none .none (.str "law_sluice_k47_whole_sheet" 571) none (.ref 322) .none),#[]⟩
def HW (P:Params):Obj:=(tq #[])
def SJ (P:Params):Obj:={ cls:=.none,data:=Data.fields #[] }
def Sy (P:Params):Obj:=(pr0 "_law_numbers" 55)
def HS (P:Params):Obj:=(fc #[.str "_law_numbers" 677,.str "_law_numbers" 678,cp 679,.int 258 0,.int 2 0,.int 0 0,.int 0 0,.int 3 0,.ref 324,.bool true,.int 181 0,.ref 325,.none,.none,.none,.ref 326,.int 680 0,.int 258 0,cp 681])
def HN (P:Params):Obj:=⟨.type "function",none,.func (PySem.W.fnOf "_law_numbers" "_law_numbers" (aF (top0 55)) (aC (top0 55)) (ao (top0 55)) .none .none .none (.str "law_sluice_k47_whole_sheet" 571) none (.ref 327) .none),#[]⟩
def HJ (P:Params):Obj:=(tq #[])
def Sx (P:Params):Obj:={ cls:=.none,data:=Data.fields #[] }
def HF (P:Params):Obj:=(tq #[.str "told" 686,.str "below" 687,.str "roll" 688,.str "ponds" 689])
def HD (P:Params):Obj:=(tq #[])
def Sw (P:Params):Obj:=(pr0 "_law_kinds" 56)
def HB (P:Params):Obj:=(fc #[.str "_law_kinds" 683,.str "_law_kinds" 684,cp 685,.int 262 0,.int 4 0,.int 0 0,.int 0 0,.int 3 0,.ref 329,.bool true,.int 181 0,.ref 330,.none,.ref 331,.ref 332,.ref 333,.int 690 0,.int 262 0,cp 691])
def Hz (P:Params):Obj:=⟨.type "function",none,.func (PySem.W.fnOf "_law_kinds" "_law_kinds" (aF (top0 56)) (aC (top0 56)) (ao (top0 56)) .none .none .none (.str "law_sluice_k47_whole_sheet" 571) none (.ref 334) .none),#[]⟩
def Hy (P:Params):Obj:=(tq #[])
def Sv (P:Params):Obj:={ cls:=.none,data:=Data.fields #[] }
def Ss (P:Params):Obj:=(pr0 "_law_shown" 57)
def Hx (P:Params):Obj:=(fc #[.str "_law_shown" 693,.str "_law_shown" 694,cp 695,.int 268 0,.int 5 0,.int 0 0,.int 0 0,.int 3 0,.ref 336,.bool true,.int 181 0,.ref 337,.none,.none,.none,.ref 338,.int 696 0,.int 268 0,cp 697])
def Hw (P:Params):Obj:=⟨.type "function",none,.func (PySem.W.fnOf "_law_shown" "_law_shown" (aF (top0 57)) (aC (top0 57)) (ao (top0 57)) .none .none .none (.str "law_sluice_k47_whole_sheet" 571) none (.ref 339) .none),#[]⟩
def Hv (P:Params):Obj:=(tq #[])
def Sq (P:Params):Obj:={ cls:=.none,data:=Data.fields #[] }
def Sg (P:Params):Obj:=(pr0 "_law_sheet" 58)
def Hu (P:Params):Obj:=(fc #[.str "_law_sheet" 699,.str "_law_sheet" 700,cp 701,.int 289 0,.int 8 0,.int 0 0,.int 0 0,.int 3 0,.ref 341,.bool true,.int 181 0,.ref 342,.none,.none,.none,.ref 343,.int 702 0,.int 289 0,cp 703])
def Ht (P:Params):Obj:=⟨.type "function",none,.func (PySem.W.fnOf "_law_sheet" "_law_sheet" (aF (top0 58)) (aC (top0 58)) (ao (top0 58)) .none .none .none (.str "law_sluice_k47_whole_sheet" 571) none (.ref 344) .none),#[]⟩
def Hs (P:Params):Obj:=(tq #[])
def Sd (P:Params):Obj:={ cls:=.none,data:=Data.fields #[] }
def R9 (P:Params):Obj:=(pr0 "law" 59)
def Hr (P:Params):Obj:=(fc #[.str "law" 705,.str "law" 706,cp 707,.int 303 0,.int 1 0,.int 0 0,.int 0 0,.int 3 0,.ref 346,.bool true,.int 181 0,.ref 347,.none,.none,.none,.ref 348,.int 708 0,.int 303 0,cp 709])
def Hq (P:Params):Obj:=⟨.type "function",none,.func (PySem.W.fnOf "law" "law" (aF (top0 59)) (aC (top0 59)) (ao (top0 59)) .none .none .none (.str "law_sluice_k47_whole_sheet" 571) none (.ref 349) .none),#[]⟩
def H0:Params→Heap:=fun P=>{ objs:=⟨YQ P :: YM P :: X3 P :: ho_4 P :: YL P :: YK P :: YJ P :: YH P :: YG P :: Vj P :: Vf P :: []⟩ }
def H1:Params→Heap:=fun P=>{ objs:=⟨YQ P :: YM P :: X3 P :: U8 P :: YL P :: YK P :: YJ P :: YH P :: YG P :: Vj P :: Vf P :: Yh P :: Yg P :: Ye P :: Yd P :: Uu P :: Yc P :: Yb P :: X8 P :: X7 P :: X6 P :: X5 P :: T4 P :: TJ P :: Tt P :: Tj P :: X4 P :: XS P :: S6 P :: XR P :: XQ P :: XM P :: XJ P :: XH P :: XF P :: R8 P :: R7 P :: R6 P :: XD P :: XC P :: R5 P :: Xz P :: Xy P :: Xx P :: Xw P :: Xv P :: Xu P :: R4 P :: R3 P :: R0 P :: Xr P :: Xq P :: RZ P :: Xp P :: Xo P :: Xn P :: Xm P :: Xl P :: Xk P :: RX P :: RW P :: RV P :: Xj P :: Xi P :: RT P :: Xh P :: RQ P :: RP P :: Xg P :: RN P :: RM P :: RL P :: Xf P :: RK P :: RJ P :: Xe P :: RG P :: RD P :: RB P :: Xd P :: Xc P :: Rz P :: Ry P :: Rx P :: Xb P :: Rw P :: Ru P :: Xa P :: Rt P :: Rr P :: Rq P :: W9 P :: Rp P :: Ro P :: W8 P :: Rn P :: Rm P :: Nb P :: Vi P :: M9 P :: M8 P :: Vh P :: M7 P :: M6 P :: M5 P :: Vg P :: M4 P :: MP P :: Ve P :: MN P :: MK P :: MJ P :: Vd P :: MF P :: Mz P :: Vc P :: Mx P :: Mw P :: Mu P :: Vb P :: Mt P :: Ms P :: Va P :: Mr P :: Mq P :: Mp P :: U9 P :: Ml P :: Mj P :: U7 P :: Mi P :: Mh P :: Mg P :: U6 P :: Mf P :: Ma P :: U5 P :: LR P :: LQ P :: LK P :: U4 P :: LC P :: Lz P :: U3 P :: Ly P :: Lx P :: Lw P :: U0 P :: Ls P :: Lr P :: UW P :: Lq P :: Lp P :: Ln P :: UL P :: UJ P :: Lk P :: Lj P :: Li P :: UG P :: Lh P :: Lg P :: Uz P :: Lf P :: Le P :: Ld P :: Uy P :: Ux P :: Lb P :: La P :: K9 P :: Uw P :: K8 P :: K7 P :: Uv P :: K6 P :: K5 P :: K4 P :: Ut P :: Us P :: K1 P :: KZ P :: KY P :: Ur P :: Uq P :: KR P :: KQ P :: KN P :: Uo P :: KJ P :: KH P :: Um P :: KD P :: KC P :: Kz P :: Ul P :: Uk P :: Ky P :: Kw P :: Kv P :: Uj P :: Ku P :: Ks P :: Ui P :: Kr P :: Kq P :: Ko P :: Uh P :: Km P :: Kl P :: Ug P :: Kh P :: Kg P :: Ke P :: Ue P :: Kd P :: Kc P :: Ud P :: Ka P :: J9 P :: J8 P :: Uc P :: J7 P :: J6 P :: Ub P :: J5 P :: J4 P :: J3 P :: Ua P :: J2 P :: J1 P :: T9 P :: J0 P :: JZ P :: JX P :: T8 P :: JW P :: JV P :: T7 P :: JT P :: JR P :: JQ P :: T6 P :: JN P :: JM P :: T5 P :: JL P :: JK P :: JH P :: T3 P :: TY P :: JG P :: JF P :: JD P :: TV P :: TQ P :: JC P :: JB P :: Jz P :: TF P :: Jy P :: Jx P :: Tw P :: Jw P :: Jv P :: Ju P :: Tv P :: Jt P :: Js P :: Tr P :: Jr P :: Jq P :: Jp P :: Tq P :: Tp P :: Jo P :: Jm P :: Jl P :: Ti P :: Jk P :: Jj P :: Tg P :: Ji P :: Jh P :: Jg P :: Tf P :: Jf P :: Je P :: Te P :: Jd P :: Jc P :: Jb P :: Td P :: Ja P :: IW P :: Tc P :: IV P :: IK P :: Iz P :: S9 P :: Iw P :: Iu P :: S8 P :: Ir P :: Ip P :: Io P :: S7 P :: Im P :: Il P :: S5 P :: Ik P :: Ij P :: Ii P :: SX P :: SQ P :: Ih P :: Ig P :: Ie P :: SN P :: Ib P :: Ia P :: SM P :: HY P :: HX P :: HW P :: SJ P :: Sy P :: HS P :: HN P :: HJ P :: Sx P :: HF P :: HD P :: Sw P :: HB P :: Hz P :: Hy P :: Sv P :: Ss P :: Hx P :: Hw P :: Hv P :: Sq P :: Sg P :: Hu P :: Ht P :: Hs P :: Sd P :: R9 P :: Hr P :: Hq P :: []⟩ }
def Kf:Params→PySem.W.Frag:=fun P=>(nat_lit 2,X3 P) ::
 (nat_lit 3,U8 P) ::
 (nat_lit 15,Uu P) ::
 (nat_lit 22,T4 P) ::
 (nat_lit 23,TJ P) ::
 (nat_lit 24,Tt P) ::
 (nat_lit 25,Tj P) ::
 (nat_lit 28,S6 P) ::
 (nat_lit 35,R8 P) ::
 (nat_lit 36,R7 P) ::
 (nat_lit 37,R6 P) ::
 (nat_lit 40,R5 P) ::
 (nat_lit 47,R4 P) ::
 (nat_lit 48,R3 P) ::
 (nat_lit 49,R0 P) ::
 (nat_lit 52,RZ P) ::
 (nat_lit 59,RX P) ::
 (nat_lit 60,RW P) ::
 (nat_lit 61,RV P) ::
 (nat_lit 64,RT P) ::
 (nat_lit 66,RQ P) ::
 (nat_lit 67,RP P) ::
 (nat_lit 69,RN P) ::
 (nat_lit 70,RM P) ::
 (nat_lit 71,RL P) ::
 (nat_lit 73,RK P) ::
 (nat_lit 74,RJ P) ::
 (nat_lit 76,RG P) ::
 (nat_lit 77,RD P) ::
 (nat_lit 78,RB P) ::
 (nat_lit 81,Rz P) ::
 (nat_lit 82,Ry P) ::
 (nat_lit 83,Rx P) ::
 (nat_lit 85,Rw P) ::
 (nat_lit 86,Ru P) ::
 (nat_lit 88,Rt P) ::
 (nat_lit 89,Rr P) ::
 (nat_lit 90,Rq P) ::
 (nat_lit 92,Rp P) ::
 (nat_lit 93,Ro P) ::
 (nat_lit 95,Rn P) ::
 (nat_lit 96,Rm P) ::
 (nat_lit 97,Nb P) ::
 (nat_lit 99,M9 P) ::
 (nat_lit 100,M8 P) ::
 (nat_lit 102,M7 P) ::
 (nat_lit 103,M6 P) ::
 (nat_lit 104,M5 P) ::
 (nat_lit 106,M4 P) ::
 (nat_lit 107,MP P) ::
 (nat_lit 109,MN P) ::
 (nat_lit 110,MK P) ::
 (nat_lit 111,MJ P) ::
 (nat_lit 113,MF P) ::
 (nat_lit 114,Mz P) ::
 (nat_lit 116,Mx P) ::
 (nat_lit 117,Mw P) ::
 (nat_lit 118,Mu P) ::
 (nat_lit 120,Mt P) ::
 (nat_lit 121,Ms P) ::
 (nat_lit 123,Mr P) ::
 (nat_lit 124,Mq P) ::
 (nat_lit 125,Mp P) ::
 (nat_lit 127,Ml P) ::
 (nat_lit 128,Mj P) ::
 (nat_lit 130,Mi P) ::
 (nat_lit 131,Mh P) ::
 (nat_lit 132,Mg P) ::
 (nat_lit 134,Mf P) ::
 (nat_lit 135,Ma P) ::
 (nat_lit 137,LR P) ::
 (nat_lit 138,LQ P) ::
 (nat_lit 139,LK P) ::
 (nat_lit 141,LC P) ::
 (nat_lit 142,Lz P) ::
 (nat_lit 144,Ly P) ::
 (nat_lit 145,Lx P) ::
 (nat_lit 146,Lw P) ::
 (nat_lit 148,Ls P) ::
 (nat_lit 149,Lr P) ::
 (nat_lit 151,Lq P) ::
 (nat_lit 152,Lp P) ::
 (nat_lit 153,Ln P) ::
 (nat_lit 156,Lk P) ::
 (nat_lit 157,Lj P) ::
 (nat_lit 158,Li P) ::
 (nat_lit 160,Lh P) ::
 (nat_lit 161,Lg P) ::
 (nat_lit 163,Lf P) ::
 (nat_lit 164,Le P) ::
 (nat_lit 165,Ld P) ::
 (nat_lit 168,Lb P) ::
 (nat_lit 169,La P) ::
 (nat_lit 170,K9 P) ::
 (nat_lit 172,K8 P) ::
 (nat_lit 173,K7 P) ::
 (nat_lit 175,K6 P) ::
 (nat_lit 176,K5 P) ::
 (nat_lit 177,K4 P) ::
 (nat_lit 180,K1 P) ::
 (nat_lit 181,KZ P) ::
 (nat_lit 182,KY P) ::
 (nat_lit 185,KR P) ::
 (nat_lit 186,KQ P) ::
 (nat_lit 187,KN P) ::
 (nat_lit 189,KJ P) ::
 (nat_lit 190,KH P) ::
 (nat_lit 192,KD P) ::
 (nat_lit 193,KC P) ::
 (nat_lit 194,Kz P) ::
 (nat_lit 197,Ky P) ::
 (nat_lit 198,Kw P) ::
 (nat_lit 199,Kv P) ::
 (nat_lit 201,Ku P) ::
 (nat_lit 202,Ks P) ::
 (nat_lit 204,Kr P) ::
 (nat_lit 205,Kq P) ::
 (nat_lit 206,Ko P) ::
 (nat_lit 208,Km P) ::
 (nat_lit 209,Kl P) ::
 (nat_lit 211,Kh P) ::
 (nat_lit 212,Kg P) ::
 (nat_lit 213,Ke P) ::
 (nat_lit 215,Kd P) ::
 (nat_lit 216,Kc P) ::
 (nat_lit 218,Ka P) ::
 (nat_lit 219,J9 P) ::
 (nat_lit 220,J8 P) ::
 (nat_lit 222,J7 P) ::
 (nat_lit 223,J6 P) ::
 (nat_lit 225,J5 P) ::
 (nat_lit 226,J4 P) ::
 (nat_lit 227,J3 P) ::
 (nat_lit 229,J2 P) ::
 (nat_lit 230,J1 P) ::
 (nat_lit 232,J0 P) ::
 (nat_lit 233,JZ P) ::
 (nat_lit 234,JX P) ::
 (nat_lit 236,JW P) ::
 (nat_lit 237,JV P) ::
 (nat_lit 239,JT P) ::
 (nat_lit 240,JR P) ::
 (nat_lit 241,JQ P) ::
 (nat_lit 243,JN P) ::
 (nat_lit 244,JM P) ::
 (nat_lit 246,JL P) ::
 (nat_lit 247,JK P) ::
 (nat_lit 248,JH P) ::
 (nat_lit 251,JG P) ::
 (nat_lit 252,JF P) ::
 (nat_lit 253,JD P) ::
 (nat_lit 256,JC P) ::
 (nat_lit 257,JB P) ::
 (nat_lit 258,Jz P) ::
 (nat_lit 260,Jy P) ::
 (nat_lit 261,Jx P) ::
 (nat_lit 263,Jw P) ::
 (nat_lit 264,Jv P) ::
 (nat_lit 265,Ju P) ::
 (nat_lit 267,Jt P) ::
 (nat_lit 268,Js P) ::
 (nat_lit 270,Jr P) ::
 (nat_lit 271,Jq P) ::
 (nat_lit 272,Jp P) ::
 (nat_lit 275,Jo P) ::
 (nat_lit 276,Jm P) ::
 (nat_lit 277,Jl P) ::
 (nat_lit 279,Jk P) ::
 (nat_lit 280,Jj P) ::
 (nat_lit 282,Ji P) ::
 (nat_lit 283,Jh P) ::
 (nat_lit 284,Jg P) ::
 (nat_lit 286,Jf P) ::
 (nat_lit 287,Je P) ::
 (nat_lit 289,Jd P) ::
 (nat_lit 290,Jc P) ::
 (nat_lit 291,Jb P) ::
 (nat_lit 293,Ja P) ::
 (nat_lit 294,IW P) ::
 (nat_lit 296,IV P) ::
 (nat_lit 297,IK P) ::
 (nat_lit 298,Iz P) ::
 (nat_lit 300,Iw P) ::
 (nat_lit 301,Iu P) ::
 (nat_lit 303,Ir P) ::
 (nat_lit 304,Ip P) ::
 (nat_lit 305,Io P) ::
 (nat_lit 307,Im P) ::
 (nat_lit 308,Il P) ::
 (nat_lit 310,Ik P) ::
 (nat_lit 311,Ij P) ::
 (nat_lit 312,Ii P) ::
 (nat_lit 315,Ih P) ::
 (nat_lit 316,Ig P) ::
 (nat_lit 317,Ie P) ::
 (nat_lit 319,Ib P) ::
 (nat_lit 320,Ia P) ::
 (nat_lit 322,HY P) ::
 (nat_lit 323,HX P) ::
 (nat_lit 324,HW P) ::
 (nat_lit 327,HS P) ::
 (nat_lit 328,HN P) ::
 (nat_lit 329,HJ P) ::
 (nat_lit 331,HF P) ::
 (nat_lit 332,HD P) ::
 (nat_lit 334,HB P) ::
 (nat_lit 335,Hz P) ::
 (nat_lit 336,Hy P) ::
 (nat_lit 339,Hx P) ::
 (nat_lit 340,Hw P) ::
 (nat_lit 341,Hv P) ::
 (nat_lit 344,Hu P) ::
 (nat_lit 345,Ht P) ::
 (nat_lit 346,Hs P) ::
 (nat_lit 349,Hr P) ::
 (nat_lit 350,Hq P) :: []
def asK:List Addr:=[2,3,15,22,23,24,25,28,35,36,37,40,47,48,49,52,59,60,61,64,66,67,69,70,71,73,74,76,77,78,81,82,83,85,86,88,89,90,92,93,95,96,97,99,100,102,103,104,106,107,109,110,111,113,114,116,117,118,120,121,123,124,125,127,128,130,131,132,134,135,137,138,139,141,142,144,145,146,148,149,151,152,153,156,157,158,160,161,163,164,165,168,169,170,172,173,175,176,177,180,181,182,185,186,187,189,190,192,193,194,197,198,199,201,202,204,205,206,208,209,211,212,213,215,216,218,219,220,222,223,225,226,227,229,230,232,233,234,236,237,239,240,241,243,244,246,247,248,251,252,253,256,257,258,260,261,263,264,265,267,268,270,271,272,275,276,277,279,280,282,283,284,286,287,289,290,291,293,294,296,297,298,300,301,303,304,305,307,308,310,311,312,315,316,317,319,320,322,323,324,327,328,329,331,332,334,335,336,339,340,341,344,345,346,349,350]
def tsK:List Addr:=[140,72]
theorem hkE:∀ P,asK=(Kf P).map (·.1):=fun _=>by kernel_rfl
def qv:Program:={ PySem.Challenge.pw_sluice_k47_whole_sheet with main:={ PySem.Challenge.pw_sluice_k47_whole_sheet.main with body:=[top0 59] } }
def yI:List Str:=("SluiceError":Str) :: ("NoReach":Str) :: ("TooMuch":Str) :: ("NoPond":Str) :: ("MOUTH":Str) :: ("way_of":Str) :: ("tops_first":Str) :: ("mouths_of":Str) :: ("stretch_of":Str) :: ("natural_of":Str) :: ("flows_of":Str) :: ("reaches_of":Str) :: ("day_filed":Str) :: ("start_of":Str) :: ("gives_back":Str) :: ("most_of":Str) :: ("ranked":Str) :: ("groups_of":Str) :: ("wants_of":Str) :: ("count_ways":Str) :: ("whole_turns":Str) :: ("draw":Str) :: ("take_whole_turns":Str) :: ("take_one_turn":Str) :: ("deal_turns":Str) :: ("deal":Str) :: ("WHOLE":Str) :: ("pond_start":Str) :: ("look_at_let":Str) :: ("let_out":Str) :: ("pond_calls":Str) :: ("evening":Str) :: ("morning_of":Str) :: ("moves_of":Str) :: ("used_of":Str) :: ("day_of":Str) :: ("_law_nth":Str) :: ("_law_draws":Str) :: ("_law_river":Str) :: ("_law_way":Str) :: ("_law_amount":Str) :: ("_law_some":Str) :: ("_law_line":Str) :: ("_law_roll":Str) :: ("_law_ponds":Str) :: ("_law_lets":Str) :: ("_law_numbers":Str) :: ("_law_kinds":Str) :: ("_law_shown":Str) :: ("_law_sheet":Str) :: []
end
theorem hp1:∀ w:World,(PySem.W.fencedOpening PySem.treeTable PySem.Challenge.rw_sluice_k47_whole_sheet.row.toRowW.prog w 4778).map (fun s=>(s.heap,s.gens,s.drawn,s.toks))=some (H0 w.params,#[],{},181):=by
  intro w;kernel_rfl
theorem hp2:∀ w:World,((H0 w.params).isNs mainGlobals && (#[]:Array GenState).size == 0,(H0 w.params).objs.size,(H0 w.params).nsMap mainGlobals "__annotations__")=(true,11,some (Value.ref 6)):=by
  intro w;kernel_rfl
theorem hp3:∀ (w:World) (os:OsState),PySem.W.topRun PySem.treeTable PySem.Challenge.rw_sluice_k47_whole_sheet.row.toRowW.prog w 11 (some (Value.ref 6)) 4778 ⟨H0 w.params,#[],{},181,os⟩ (PySem.W.topStub PySem.Challenge.rw_sluice_k47_whole_sheet.row.toRowW.prog)=some ⟨H1 w.params,#[],{},711,os⟩:=by
  intro w os;kernel_rfl
theorem hp4:∀ w:World,(fun os=>((PySem.W.staticsOk (importedModules PySem.Challenge.rw_sluice_k47_whole_sheet.row.toRowW.prog.main.body) (H0 w.params) (H1 w.params) && PySem.W.namesBound PySem.Challenge.rw_sluice_k47_whole_sheet.row.toRowW.prog (H1 w.params) && PySem.W.gensDone ⟨H1 w.params,#[],{},711,os⟩ && PySem.W.laidKept (H0 w.params) (H1 w.params)),PySem.W.openSeen qv yI (importedModules PySem.Challenge.rw_sluice_k47_whole_sheet.row.toRowW.prog.main.body) (fun s=>PySem.W.xlAt My.qv [] s && PySem.W.recOk (PySem.W.RowW.records PySem.Challenge.rw_sluice_k47_whole_sheet.row.toRowW) s) true ⟨H1 w.params,#[],{},711,os⟩,(PySem.W.Hook.obs (PySem.W.kmHook My.Kf My.asK My.hkE My.tsK)) ⟨H1 w.params,#[],{},711,os⟩))=fun _=>(true,PySem.W.openGood qv yI,(PySem.W.Hook.val (PySem.W.kmHook My.Kf My.asK My.hkE My.tsK)) w):=by
  intro w;kernel_rfl
theorem hlE:PySem.W.LeftO PySem.Challenge.rw_sluice_k47_whole_sheet.row.toRowW.prog qv My.yI (fun s=>PySem.W.xlAt My.qv [] s && PySem.W.recOk (PySem.W.RowW.records PySem.Challenge.rw_sluice_k47_whole_sheet.row.toRowW) s) (PySem.W.Hook.obs (PySem.W.kmHook My.Kf My.asK My.hkE My.tsK)) (PySem.W.Hook.val (PySem.W.kmHook My.Kf My.asK My.hkE My.tsK)) 4778:=PySem.W.LeftO.of_pieces hp1 hp2 hp3 (by decide) hp4
end My
namespace L2
open PySem PySem.Spec PyProof.Rows
abbrev Key:=Sum Int Str
def zH:Key→Value→Bool
  | .inl k,v=>Value.isInt k v
  | .inr x,v=>Value.isStrOf x v
def keyH (w:World):Key→Int
  | .inl k=>hashInt k
  | .inr x=>hashStr w x
theorem fD:∀ {k:Key} {v:Value},zH k v=true→(∃ i t,k=Sum.inl i∧v=Value.int i t)∨(∃ x t,k=Sum.inr x∧v=Value.str x t)
  | .inl i,v,h=>by
    obtain ⟨t,e⟩:=Value.isInt_shape (k:=i) (v:=v) h
    exact .inl ⟨i,t,rfl,e⟩
  | .inr x,v,h=>by
    obtain ⟨t,e⟩:=Value.isStrOf_shape (x:=x) (v:=v) h
    exact .inr ⟨x,t,rfl,e⟩
theorem Cr (i:Int) (t:Tok):zH (.inl i) (.int i t)=true:=by simp [zH,Value.isInt]
theorem Cq (x:Str) (t:Tok):zH (.inr x) (.str x t)=true:=by simp [zH,Value.isStrOf]
theorem Rg (a b:Int):decide ((Sum.inl a:Key)=Sum.inl b)=(a == b):=by
  by_cases e:a=b
  · subst e;simp
  · have h:¬ (Sum.inl a:Key)=Sum.inl b:=fun q=>e (Sum.inl.inj q)
    rw [decide_eq_false h]
    exact (beq_eq_false_iff_ne.mpr e).symm
theorem Ra (a b:Str):decide ((Sum.inr a:Key)=Sum.inr b)=decide (a=b):=by
  by_cases e:a=b
  · subst e;simp
  · have h:¬ (Sum.inr a:Key)=Sum.inr b:=fun q=>e (Sum.inr.inj q)
    rw [decide_eq_false h,decide_eq_false e]
theorem Rf (a:Int) (b:Str):decide ((Sum.inl a:Key)=Sum.inr b)=false:=decide_eq_false (fun q=>nomatch q)
theorem Rb (a:Str) (b:Int):decide ((Sum.inr a:Key)=Sum.inl b)=false:=decide_eq_false (fun q=>nomatch q)
def gF (prog:Program) (w:World):PySem.KeyKind prog w Key where
  is:=zH
  hash:=keyH w
  inj:=fun v a b ha hb=>by
    rcases fD ha with ⟨i,t,rfl,rfl⟩ | ⟨x,t,rfl,rfl⟩
    · rcases fD hb with ⟨j,u,rfl,e⟩ | ⟨y,u,rfl,e⟩
      · injection e with e1 _;rw [e1]
      · exact nomatch e
    · rcases fD hb with ⟨j,u,rfl,e⟩ | ⟨y,u,rfl,e⟩
      · exact nomatch e
      · injection e with e1 _;rw [e1]
  byValue:=fun k v h=>by
    rcases fD h with ⟨i,t,rfl,rfl⟩ | ⟨x,t,rfl,rfl⟩ <;> rfl
  pyHash:=fun hv h=>by
    rcases fD hv with ⟨i,t,rfl,rfl⟩ | ⟨x,t,rfl,rfl⟩
    · exact wpAny_pyHash_int h
    · exact wpAny_pyHash_str h
  eqBool:=fun hu hv h=>by
    rcases fD hu with ⟨i,t,rfl,rfl⟩ | ⟨x,t,rfl,rfl⟩
    · rcases fD hv with ⟨j,u,rfl,rfl⟩ | ⟨y,u,rfl,rfl⟩
      · rw [Rg] at h;exact wpAny_eqBool_int h
      · rw [Rf] at h;exact SeqAt.EqAt.int_str i t y u _ _ _ _ h
    · rcases fD hv with ⟨j,u,rfl,rfl⟩ | ⟨y,u,rfl,rfl⟩
      · rw [Rb] at h;exact SeqAt.EqAt.str_int x t j u _ _ _ _ h
      · rw [Ra] at h;exact wpAny_eqBool_str h
  «strs»:=fun k x t v h=>by
    rcases fD h with ⟨i,u,rfl,e⟩ | ⟨y,u,rfl,e⟩
    · exact nomatch e
    · injection e with e1 _
      subst e1
      cases v <;> rfl
theorem wQ (prog:Program) (w:World) (i:Int) (t:Tok):(gF prog w).is (.inl i) (.int i t)=true:=Cr i t
theorem wO (prog:Program) (w:World) (x:Str) (t:Tok):(gF prog w).is (.inr x) (.str x t)=true:=Cq x t
end L2
namespace L2
open PySem PySem.Spec PyProof.Rows
inductive V where
  | non | bl (b:Bool) | int (i:Int) | str (x:Str) | byt (b:Array UInt8) | flt (b:UInt64) | ref (a:Addr) | ty (n:String)
  deriving DecidableEq
def RelV:V→Value→Prop
  | .non,u=>u=Value.none
  | .bl b,u=>u=Value.bool b
  | .int i,u=>∃ t,u=Value.int i t
  | .str x,u=>∃ t,u=Value.str x t
  | .byt b,u=>∃ t,u=Value.bytes b t
  | .flt b,u=>∃ t,u=Value.float b t
  | .ref a,u=>u=Value.ref a
  | .ty n,u=>u=Value.type n
abbrev Vals:List V→List Value→Prop:=Paired RelV
theorem Vals.length {xs:List V} {us:List Value} (r:Vals xs us):xs.length=us.length:=Paired.length r
theorem Vals.get:∀ {xs:List V} {us:List Value} {i:Nat} {x:V},Vals xs us→xs[i]?=some x→∃ u,us[i]?=some u∧RelV x u
  | _,_,_,_,.nil,e=>by simp at e
  | _,_,0,_,.cons r _,e=>by simp at e;subst e;exact ⟨_,rfl,r⟩
  | _,_,i + 1,x,.cons _ t,e=>by
    obtain ⟨u,h1,h2⟩:=Vals.get (i:=i) (x:=x) t (by simpa using e)
    exact ⟨u,by simpa using h1,h2⟩
theorem Vals.set {x:V} {u:Value} (r:RelV x u):∀ {xs:List V} {us:List Value} (i:Nat),Vals xs us→Vals (xs.set i x) (us.set i u)
  | _,_,_,.nil=>.nil
  | _,_,0,.cons _ t=>.cons r t
  | _,_,i + 1,.cons q t=>.cons q (Vals.set r i t)
theorem Vals.append:∀ {xs ys:List V} {us ws:List Value},Vals xs us→Vals ys ws→Vals (xs++ys) (us++ws)
  | _,_,_,_,.nil,s=>s
  | _,_,_,_,.cons r t,s=>.cons r (Vals.append t s)
theorem Vals.take:∀ {xs:List V} {us:List Value} (n:Nat),Vals xs us→Vals (xs.take n) (us.take n)
  | _,_,0,_=>.nil
  | _,_,_ + 1,.nil=>.nil
  | _,_,n + 1,.cons r t=>.cons r (Vals.take n t)
theorem Vals.drop:∀ {xs:List V} {us:List Value} (n:Nat),Vals xs us→Vals (xs.drop n) (us.drop n)
  | _,_,0,r=>r
  | _,_,_ + 1,.nil=>.nil
  | _,_,n + 1,.cons _ t=>Vals.drop n t
def VN:Option V→Option Value→Prop
  | some v,some u=>RelV v u
  | none,none=>True
  | _,_=>False
def KV {κ:Type}:List (κ × V)→List (κ × Value)→Prop:=Paired fun (p:κ × V) (q:κ × Value)=>p.1=q.1∧RelV p.2 q.2
def kV:Key→V
  | .inl i=>.int i
  | .inr x=>.str x
inductive HO where
  /-- a list -/
  | lst (xs:List V)
  /-- a tuple (never changes) -/
  | tup (xs:List V)
  /-- a dict whose keys are ints and texts; one whose keys are tuples of ints and texts (the empty one is both) -/
  | dK (kvs:List (Key × V)) | dT (kvs:List (List Key × V))
  /-- a set of ints: its members, its size -/
  | set (S:Int→Bool) (n:Nat)
  /-- an instance of the class at C, its dict at dx, its attributes -/
  | ins (C dx:Addr) (fs:List (Str × V))
  /-- the dict of the instance at x -/
  | own (x:Addr)
  /-- the dict of an exception -/
  | xd (fs:List (Str × V))
  /-- a bound method, f of x -/
  | met (f x:Addr)
  /-- a range object lo, lo + 1, .. below hi -/
  | rng (lo hi:Int)
  /-- a thing that is known to the object (the script; a dict while a loop walks it): read, never written while it is so -/
  | frz (o:Obj) (u:HO)
  /-- a code object's table -/
  | tbl (ps:Array Value)
  /-- any other thing, by what is true of its one object (a def of one's own: SetO a S n := HO.ext fun h => ..) -/
  | ext (φ:Heap→Prop)
abbrev Hp:=Addr→Option HO
def upd (H:Hp) (a:Addr) (o:HO):Hp:=fun b=>if b=a then some o else H b
theorem cU {H:Hp} {a:Addr} {o:HO}:upd H a o a=some o:=by unfold upd;rw [if_pos rfl]
theorem bF {H:Hp} {a b:Addr} {o:HO} (h:b≠a):upd H a o b=H b:=by unfold upd;rw [if_neg h]
theorem cB {H:Hp} {a b:Addr} {o:HO} (h:H a=some o) (h':H b=none):a≠b:=by
  intro e;subst e;rw [h] at h';cases h'
section
variable (P:Program) (w:World)
def gH (H:Hp) (h:Heap) (a:Addr):HO→Prop
  | .lst xs=>xs.length≤sizeLine∧∃ (its:List Value) (n:Nat),Vals xs its∧h.get? a=some { cls:=.type "list",data:=.seq its.toArray n }
  | .tup xs=>xs.length≤sizeLine∧∃ its:List Value,Vals xs its∧IsTup h a its.toArray
  | .dK kvs=>kvs.length≤sizeLine∧(a == sysModules)=false∧∃ vs,KV kvs vs∧h.DictOf (gF P w) a vs
  | .dT kvs=>kvs.length≤sizeLine∧(a == sysModules)=false∧∃ xs:List (List Key × Addr × Value),
      Paired (fun (p:List Key × V) (q:List Key × Addr × Value)=>p.1=q.1∧H q.2.1=some (.tup (p.1.map kV))∧RelV p.2 q.2.2) kvs xs ∧
      ∃ o es ep,h.get? a=some o∧o.ExactDict∧o.data=.dict es ep∧es.toList=xs.map (entryOfKey (tupleKind (gF P w)))∧(xs.map (·.1)).Nodup
  | .set S n=>h.SetOf (intKind P w) a S n
  | .ins C dx fs=>H dx=some (.own a)∧fs.length≤1000∧dx≠a∧h.get? a=some (PySem.W.instObj C dx) ∧
      ∃ mA,h.Ns1 dx mA∧(∀ f,VN (fs.lookup f) (mA f))∧PySem.Within mA (fs.map (·.1))
  | .own _=>∃ o,h.get? a=some o
  | .xd fs=>∃ mA,h.Ns1 a mA∧∀ f,VN (fs.lookup f) (mA f)
  | .rng lo hi=>∃ t u v,h.get? a=some { cls:=.type "range",data:=.fields #[.int lo t,.int hi u,.int 1 v] }
  | .frz o u=>h.get? a=some o∧gH H h a u
  | .tbl ps=>h.get? a=some { cls:=.none,data:=.fields ps }
  | .met f x=>h.get? a=some (PySem.W.methodObj (.ref f) (.ref x))
  | .ext φ=>φ h∧(∃ o,h.get? a=some o)∧∀ h1 h2:Heap,φ h1→(∀ o,h1.get? a=some o→h2.get? a=some o)→φ h2
def HOk (H:Hp) (h:Heap):Prop:=∀ a o,H a=some o→gH P w H h a o
end
section
variable {P:Program} {w:World} {H H':Hp} {h h':Heap} {a:Addr} {o:HO}
theorem gH.lt (x:gH P w H h a o):a<h.objs.size:=by
  cases o with
  | lst xs=>obtain ⟨_,_,_,_,e⟩:=x;exact Heap.lt_size e
  | tup xs=>obtain ⟨_,_,_,p⟩:=x;exact p.lt
  | dK kvs=>obtain ⟨_,_,_,_,o,_,_,e,_⟩:=x;exact Heap.lt_size e
  | dT kvs=>obtain ⟨_,_,_,_,o,_,_,e,_⟩:=x;exact Heap.lt_size e
  | set S n=>obtain ⟨o,_,_,_,e,_⟩:=x;exact Heap.lt_size e
  | ins C dx fs=>obtain ⟨_,_,_,e,_⟩:=x;exact Heap.lt_size e
  | own y=>obtain ⟨_,e⟩:=x;exact Heap.lt_size e
  | xd fs=>obtain ⟨_,⟨_,_,_,e,_⟩,_⟩:=x;exact Heap.lt_size e
  | rng lo hi=>obtain ⟨_,_,_,e⟩:=x;exact Heap.lt_size e
  | frz ob u=>obtain ⟨e,_⟩:=x;exact Heap.lt_size e
  | tbl ps=>exact Heap.lt_size (show h.get? a=some _ from x)
  | met f y=>exact Heap.lt_size (show h.get? a=some _ from x)
  | ext φ=>obtain ⟨_,⟨_,e⟩,_⟩:=x;exact Heap.lt_size e
theorem Paired.YD {α β:Type} {F G:α→β→Prop}:∀ {l₁:List α} {l₂:List β},Paired F l₁ l₂→(∀ a b,F a b→G a b)→Paired G l₁ l₂
  | _,_,.nil,_=>.nil
  | _,_,.cons r t,f=>.cons (f _ _ r) (Paired.YD t f)
theorem gH.stay (x:gH P w H h a o) (k:∀ b u,(b=a∨H b=some (.own a))→h.get? b=some u→h'.get? b=some u)
    (ho:∀ b,H b=some (.own a)→H' b=some (.own a)) (ht:∀ b xs,H b=some (.tup xs)→H' b=some (.tup xs)):gH P w H' h' a o:=by
  induction o with
  | lst xs=>obtain ⟨z,its,n,r,e⟩:=x;exact ⟨z,its,n,r,k _ _ (.inl rfl) e⟩
  | tup xs=>obtain ⟨z,its,r,ob,e,c⟩:=x;exact ⟨z,its,r,ob,k _ _ (.inl rfl) e,c⟩
  | dK kvs=>obtain ⟨z,y,vs,r,ob,es,ep,e,c⟩:=x;exact ⟨z,y,vs,r,ob,es,ep,k _ _ (.inl rfl) e,c⟩
  | dT kvs =>
    obtain ⟨z,y,xs,r,ob,es,ep,e,c⟩:=x
    exact ⟨z,y,xs,Paired.YD r fun p q z=>⟨z.1,ht _ _ z.2.1,z.2.2⟩,ob,es,ep,k _ _ (.inl rfl) e,c⟩
  | set S n=>obtain ⟨ob,es,ep,t,e,c⟩:=x;exact ⟨ob,es,ep,t,k _ _ (.inl rfl) e,c⟩
  | ins C dx fs =>
    obtain ⟨d,z,ne,e,mA,⟨od,es,ep,e2,c⟩,r⟩:=x
    exact ⟨ho _ d,z,ne,k _ _ (.inl rfl) e,mA,⟨od,es,ep,k _ _ (.inr d) e2,c⟩,r⟩
  | own y=>obtain ⟨ob,e⟩:=x;exact ⟨ob,k _ _ (.inl rfl) e⟩
  | xd fs=>obtain ⟨mA,⟨od,es,ep,e,c⟩,r⟩:=x;exact ⟨mA,⟨od,es,ep,k _ _ (.inl rfl) e,c⟩,r⟩
  | rng lo hi=>obtain ⟨t,u,v,e⟩:=x;exact ⟨t,u,v,k _ _ (.inl rfl) e⟩
  | frz ob u ih=>obtain ⟨e,q⟩:=x;exact ⟨k _ _ (.inl rfl) e,ih q⟩
  | tbl ps =>
    have e:h.get? a=some { cls:=.none,data:=.fields ps }:=x
    show h'.get? a=some { cls:=.none,data:=.fields ps }
    exact k a _ (.inl rfl) e
  | met f y =>
    have e:h.get? a=some (PySem.W.methodObj (.ref f) (.ref y)):=x
    show h'.get? a=some (PySem.W.methodObj (.ref f) (.ref y))
    exact k a _ (.inl rfl) e
  | ext φ=>obtain ⟨p,⟨o,e⟩,st⟩:=x;exact ⟨st _ _ p fun o q=>k _ _ (.inl rfl) q,⟨o,k _ _ (.inl rfl) e⟩,st⟩
theorem HOk.lt (x:HOk P w H h) (e:H a=some o):a<h.objs.size:=(x a o e).lt
theorem HOk.fresh (x:HOk P w H h) (e:h.objs.size≤a):H a=none:=by
  cases q:H a with
  | none=>rfl
  | some u=>exact absurd (Nat.lt_of_lt_of_le (x.lt q) e) (Nat.lt_irrefl _)
theorem HOk.kept (x:HOk P w H h) (k:∀ b u,h.get? b=some u→h'.get? b=some u):HOk P w H h':=fun a o e =>
  (x a o e).stay (fun b u _ q=>k b u q) (fun _ q=>q) fun _ _ q=>q
theorem HOk.laid (x:HOk P w H h) (k:∀ b u,h.get? b=some u→h'.get? b=some u) (hp:h.objs.size≤a) (new:gH P w (upd H a o) h' a o):HOk P w (upd H a o) h':=fun b u e=>by
  have hn:=x.fresh hp
  by_cases hb:b=a
  · subst hb;rw [cU] at e;cases e;exact new
  · rw [bF hb] at e
    exact (x b u e).stay (fun c v _ q=>k c v q) (fun c q=>by rw [bF (cB q hn)];exact q) fun c xs q=>by rw [bF (cB q hn)];exact q
end
def Rd (H:Hp) (a:Addr) (u:HO):Prop:=H a=some u∨∃ o,H a=some (.frz o u)
theorem Rd.ok {P:Program} {w:World} {H:Hp} {h:Heap} {a:Addr} {u:HO} (r:Rd H a u) (x:HOk P w H h):gH P w H h a u:=by
  rcases r with r | ⟨o,r⟩
  · exact x a u r
  · obtain ⟨_,q⟩:=x a _ r
    exact q
def Mut:Option HO→Prop
  | some (.lst _)=>True
  | some (.dK _)=>True
  | some (.dT _)=>True
  | some (.set _ _)=>True
  | some (.ins _ _ _)=>True
  | some (.ext _)=>True
  | _=>False
section
variable {P:Program} {w:World} {H:Hp} {h h':Heap} {x e:Addr} {o':HO}
theorem HOk.write (ok:HOk P w H h) (mu:Mut (H x)) (he:e=x∨H e=some (.own x)) (k:∀ b u,b≠e→h.get? b=some u→h'.get? b=some u) (heo:∃ u,h'.get? e=some u)
    (new:gH P w (upd H x o') h' x o'):HOk P w (upd H x o') h':=fun b u q=>by
  have nown:∀ c y,H c=some (.own y)→c≠x:=fun c y r z=>by subst z;rw [r] at mu;exact mu
  have ntup:∀ c xs,H c=some (.tup xs)→c≠x:=fun c xs r z=>by subst z;rw [r] at mu;exact mu
  by_cases hb:b=x
  · subst hb;rw [cU] at q;cases q;exact new
  · rw [bF hb] at q
    by_cases hbe:b=e
    · have q':H b=some (.own x):=by
        rcases he with z | z
        · exact absurd (hbe.trans z) hb
        · rw [hbe];exact z
      rw [q] at q';cases q'
      obtain ⟨v,hv⟩:=heo
      exact ⟨v,by rw [hbe];exact hv⟩
    · refine (ok b u q).stay (fun c v hc r=>k c v ?_ r) (fun c r=>by rw [bF (nown c b r)];exact r) fun c xs r=>by rw [bF (ntup c xs r)];exact r
      rcases hc with rfl | hc
      · exact hbe
      · rintro rfl
        rcases he with z | z
        · exact nown c b hc z
        · rw [hc] at z;cases z;exact hb rfl
end
structure Un (fs ex:List Addr) (H H':Hp) (h h':Heap):Prop where
  keep:∀ b o,h.get? b=some o→H b=none→b ∉ fs→b ∉ ex→h'.get? b=some o
  slot:∀ b o,h.get? b=some o→H b=none→b∈fs→b ∉ ex→∃ sl,h'.get? b=some { o with slots:=sl }
  free:∀ b o,h.get? b=some o→H b=none→b ∉ ex→H' b=none
  there:∀ b o,h.get? b=some o→b ∉ ex→∃ o',h'.get? b=some o'
  tups:∀ b xs,H b=some (.tup xs)→H' b=some (.tup xs)
  frzs:∀ b o u,H b=some (.frz o u)→H' b=some (.frz o u)
  tbls:∀ b ps,H b=some (.tbl ps)→∃ more,H' b=some (.tbl (ps++more))
section
variable {fs fs' ex ex':List Addr} {H H1 H2:Hp} {h h1 h2 h':Heap} {a x e:Addr} {o:HO}
theorem Un.any (u:Un fs ex H H1 h h1) {b:Addr} {ob:Obj} (q:h.get? b=some ob) (n:H b=none) (hx:b ∉ ex):∃ sl,h1.get? b=some { ob with slots:=sl }:=by
  by_cases hb:b∈fs
  · exact u.slot b ob q n hb hx
  · exact ⟨ob.slots,u.keep b ob q n hb hx⟩
theorem Un.kept (k:∀ b u,h.get? b=some u→h'.get? b=some u):Un fs ex H H h h' :=
  ⟨fun b ob q _ _ _=>k b ob q,fun b ob q _ _ _=>⟨ob.slots,k b ob q⟩,fun _ _ _ n _=>n,fun b ob q _=>⟨ob,k b ob q⟩,fun _ _ q=>q,fun _ _ _ q=>q,fun _ ps q=>⟨#[],by rw [q];simp⟩⟩
theorem Un.refl:Un fs ex H H h h:=Un.kept fun _ _ q=>q
theorem Un.laid (k:∀ b u,h.get? b=some u→h'.get? b=some u) (hp:h.objs.size≤a) (hn:H a=none):Un fs ex H (upd H a o) h h' where
  keep:=fun b u q _ _ _=>k b u q
  slot:=fun b u q _ _ _=>⟨u.slots,k b u q⟩
  free:=fun b u q n _=>by rw [bF (Nat.ne_of_lt (Nat.lt_of_lt_of_le (Heap.lt_size q) hp))];exact n
  there:=fun b u q _=>⟨u,k b u q⟩
  tups:=fun b xs q=>by rw [bF (cB q hn)];exact q
  frzs:=fun b u xs q=>by rw [bF (cB q hn)];exact q
  tbls:=fun b ps q=>⟨#[],by rw [bF (cB q hn),q];simp⟩
theorem Un.write (mu:Mut (H x)) (he:e=x∨H e=some (.own x)) (k:∀ b u,b≠e→h.get? b=some u→h'.get? b=some u) (heo:∃ u,h'.get? e=some u):Un fs ex H (upd H x o) h h':=by
  have hx:∀ b,H b=none→b≠x:=fun b n z=>by subst z;rw [n] at mu;exact mu
  have hb:∀ b,H b=none→b≠e:=fun b n z=>by
    subst z
    rcases he with r | r
    · exact hx b n r
    · rw [n] at r;cases r
  have hm:∀ b u,H b=some u→¬ Mut (some u)→b≠x:=fun b u q nm z=>by subst z;rw [q] at mu;exact nm mu
  refine ⟨fun b u q n _ _=>k b u (hb b n) q,fun b u q n _ _=>⟨u.slots,k b u (hb b n) q⟩,fun b u q n _=>by rw [bF (hx b n)];exact n,fun b u q _=>?_,
    fun b xs q=>by rw [bF (hm b _ q fun z=>z)];exact q,fun b u xs q=>by rw [bF (hm b _ q fun z=>z)];exact q,fun b ps q=>⟨#[],by rw [bF (hm b _ q fun z=>z),q];simp⟩⟩
  by_cases hbe:b=e
  · subst hbe;exact heo
  · exact ⟨u,k b u hbe q⟩
end
def trk (h:Heap) (H:Hp):List Addr:=(List.range h.objs.size).filter fun a=>(H a).isSome
def DP (h:Heap) (H:Hp):Heap:=PySem.W.hideAll h (trk h H)
theorem CJ (h:Heap) (H:Hp):(DP h H).objs.size=h.objs.size:=PySem.W.hideAll_size _ _
theorem Fz {h:Heap} {H:Hp} {b:Addr} {o:Obj} (e:h.get? b=some o) (n:H b=none):(DP h H).get? b=some o :=
  PySem.W.hideAll_get _ e fun hm=>by
    have q:(H b).isSome=true:=(List.mem_filter.mp hm).2
    rw [n] at q;simp at q
theorem Ob {h:Heap} {H:Hp} {b:Addr} {o:Obj} (e:(DP h H).get? b=some o):h.get? b=some o∧H b=none:=by
  have e':h.get? b=some o:=PySem.W.of_hideAll (trk h H) e
  refine ⟨e',?_⟩
  cases q:H b with
  | none=>rfl
  | some x =>
    have hm:b∈trk h H:=List.mem_filter.mpr ⟨List.mem_range.mpr (Heap.lt_size e'),by simp [q]⟩
    have z:(DP h H).get? b=none:=PySem.W.hideAll_none (trk h H) hm
    rw [z] at e;cases e
end L2
namespace L2
open PySem PySem.Spec PyProof.Rows
structure Mod (K:PySem.W.Frag) (mg:Str→Option Value) (base:Heap):Prop where
  kin:K.In base
  glob:base.Ns mainGlobals mg
  blt:∃ mb,base.Ns builtinsNs mb∧∀ x:Str,x≠"__name__"→mb x=bootBuiltins x
  nolimit:base.NoLimit
structure Cx where
  prog:Program
  w:World
  K:PySem.W.Frag
  mg:Str→Option Value
  base:Heap
  A:Around
  N:List Str
  s₀:Shared
  H₀:Hp
  env:Env
  outer:List Env
  stack:List Env
  ex:List Addr
  fn:Str→Bool
  calm:Bool
  pn:List (Addr × Obj)
  xe:Value→Shared→Prop
def frs (l:List Env):List Addr:=l.filterMap (·.frame)
abbrev Cx.fs (X:Cx):List Addr:=frs X.outer
def Vis (sc:Scope) (x:Str):Prop:=sc.names.lookup x=some .local∨sc.names.lookup x=some .cell∨sc.names.lookup x=some .free
def Loc (sc:Scope) (x:Str):Prop:=sc.names.lookup x=some .local∨sc.names.lookup x=some .cell
def Look (env:Env) (h:Heap) (m:Str→Option Value) (x:Str) (u:Value):Prop :=
  (env.kindOf x=some .local∧m x=some u)∨((env.kindOf x=some .cell∨env.kindOf x=some .free)∧∃ c,env.cells.lookup x=some c∧h.IsCell c (some u))
structure Cx.Ok (X:Cx):Prop where
  mod:Mod X.K X.mg X.base
  kind:X.env.scope.kind=.function
  glob:X.env.globals=mainGlobals
  blt:X.env.builtins=builtinsNs
  above:X.s₀.heap.objs.size≤X.env.locals
  inj:∀ x y c,X.env.cells.lookup x=some c→X.env.cells.lookup y=some c→x=y
  has:∀ x,(X.env.kindOf x=some .cell∨X.env.kindOf x=some .free)→∃ c,X.env.cells.lookup x=some c
  cab:∀ x c,X.fn x=true→X.env.cells.lookup x=some c→X.s₀.heap.objs.size≤c
  hd:X.calm=true→X.A.handled=none
  frames:X.A.frames=some X.stack
  stk:X.stack=X.outer∨(X.stack=X.env :: X.outer∧X.env.frame=some X.env.locals)
  exf:∀ b∈X.ex,b≠X.env.locals∧∀ x c,X.env.cells.lookup x=some c→c≠b
  bs:∀ b o,X.base.get? b=some o→X.s₀.heap.get? b=some o∧X.H₀ b=none
  bsz:X.base.objs.size≤X.s₀.heap.objs.size
  noex:∀ b o,X.base.get? b=some o→b ∉ X.ex
  exfs:∀ b∈X.ex,b ∉ X.fs
  CK:X.s₀.heap.FunFrames X.base X.outer
  frf:∀ b∈X.fs,X.H₀ b=none
structure Inv (X:Cx) (pins:List (Addr × Obj)) (σ:List (Option V)) (H:Hp) (s:Shared):Prop where
  ok:X.Ok
  os:s.os=X.s₀.os
  bare:AllBare s.gens
  base:Un X.fs X.ex X.H₀ H X.s₀.heap s.heap
  loc:∃ m,s.heap.Ns X.env.locals m∧∀ (i:Nat) (x:Str) (v:V),X.N[i]?=some x→σ[i]?=some (some v)→Vis X.env.scope x→∃ u,RelV v u∧Look X.env s.heap m x u
  cell:∀ x c,X.env.cells.lookup x=some c→∃ v,s.heap.IsCell c v
  free:H X.env.locals=none
  freeC:∀ x c,X.env.cells.lookup x=some c→H c=none
  pin:∀ p∈X.pn++pins,s.heap.get? p.1=some p.2∧H p.1=none∧p.1≠X.env.locals∧p.1 ∉ X.fs∧∀ v,p.2.data≠.cell v
  hok:HOk X.prog X.w H s.heap
  len:σ.length=X.N.length
section
variable {X:Cx} {pins:List (Addr × Obj)} {σ:List (Option V)} {H H':Hp} {s:Shared} {h':Heap}
theorem Cx.Ok.nofr (ok:X.Ok) {b:Addr} {o:Obj} (e:X.base.get? b=some o):b ∉ X.fs:=fun hb=>by
  have:=(ok.CK.mem hb).1
  rw [e] at this;cases this
theorem Inv.bs (I:Inv X pins σ H s):∀ b o,X.base.get? b=some o→s.heap.get? b=some o∧H b=none:=fun b o e =>
  ⟨I.base.keep b o (I.ok.bs b o e).1 (I.ok.bs b o e).2 (I.ok.nofr e) (I.ok.noex b o e),I.base.free b o (I.ok.bs b o e).1 (I.ok.bs b o e).2 (I.ok.noex b o e)⟩
theorem Inv.bk (I:Inv X pins σ H s):∀ b o,X.base.get? b=some o→s.heap.get? b=some o:=fun b o e=>(I.bs b o e).1
theorem Inv.mod (I:Inv X pins σ H s):Mod X.K X.mg X.base:=I.ok.mod
theorem Inv.kIn (I:Inv X pins σ H s):X.K.In s.heap:=I.ok.mod.kin.keeps I.bk
theorem Inv.nolimit (I:Inv X pins σ H s):s.heap.NoLimit:=I.ok.mod.nolimit.keeps I.bk
theorem Inv.lt (I:Inv X pins σ H s):X.env.locals<s.heap.objs.size:=let ⟨_,hn,_⟩:=I.loc;hn.lt
theorem Inv.sz (I:Inv X pins σ H s):X.s₀.heap.objs.size≤s.heap.objs.size:=Nat.le_trans I.ok.above (Nat.le_of_lt I.lt)
theorem Inv.nofs (I:Inv X pins σ H s) {a:Addr} (h:s.heap.objs.size≤a):a ∉ X.fs:=fun hb=>by
  obtain ⟨_,o,ho,_⟩:=I.ok.CK.mem hb
  exact absurd (Nat.lt_of_lt_of_le (Heap.lt_size ho) (Nat.le_trans I.sz h)) (Nat.lt_irrefl _)
theorem Inv.cne (I:Inv X pins σ H s):∀ x c,X.env.cells.lookup x=some c→c≠X.env.locals:=fun x c e z=>by
  obtain ⟨v,o,ho,hd⟩:=I.cell x c e
  obtain ⟨m,⟨o',es,ep,ho',hd',_⟩,_⟩:=I.loc
  rw [z,ho'] at ho;cases ho;rw [hd'] at hd;cases hd
theorem Inv.CK (I:Inv X pins σ H s):s.heap.FunFrames X.base X.outer:=by
  have all:∀ (l:List Env),(∀ b∈frs l,b∈X.fs)→X.s₀.heap.FunFrames X.base l→s.heap.FunFrames X.base l:=by
    intro l
    induction l with
    | nil=>intro _ _;trivial
    | cons env r ih =>
      intro hs hl
      obtain ⟨hk,⟨L,o,hf,hn,ho,hd⟩,hr⟩:=hl
      have hL:L∈X.fs:=hs L (by unfold frs;rw [List.filterMap_cons,hf];exact List.mem_cons_self)
      obtain ⟨sl,e⟩:=I.base.slot L o ho (I.ok.frf L hL) hL fun z=>I.ok.exfs L z hL
      exact ⟨hk,⟨L,_,hf,hn,e,hd⟩,ih (fun b hb=>hs b (by unfold frs;rw [List.filterMap_cons,hf];exact List.mem_cons_of_mem _ hb)) hr⟩
  exact all X.outer (fun _ hb=>hb) I.ok.CK
theorem Inv.stack (I:Inv X pins σ H s):s.heap.FunFrames X.base X.stack:=by
  rcases I.ok.stk with e | ⟨e,hf⟩
  · rw [e];exact I.CK
  · rw [e]
    obtain ⟨m,hn,_⟩:=I.loc
    refine .cons (by rw [I.ok.kind];decide) hf hn ?_ I.CK
    exact Heap.get?_none_of_le (Nat.le_trans I.ok.bsz I.ok.above)
theorem Inv.Am (I:Inv X pins σ H s):∀ b∈frs X.stack,b∈X.env.locals :: X.fs:=fun b hb=>by
  rcases I.ok.stk with e | ⟨e,hf⟩
  · rw [e] at hb;exact List.mem_cons_of_mem _ hb
  · rw [e] at hb
    unfold frs at hb
    rw [List.filterMap_cons,hf] at hb
    exact hb
theorem Inv.wz (I:Inv X pins σ H s):∀ b∈frs X.stack,H b=none:=fun b hb=>by
  rcases List.mem_cons.mp (I.Am b hb) with e | hb
  · rw [e];exact I.free
  · obtain ⟨_,o,ho,_⟩:=I.ok.CK.mem hb
    exact I.base.free b o ho (I.ok.frf b hb) fun z=>I.ok.exfs b z hb
theorem Inv.step {g':Array GenState} {t':Nat} {d':Drawn} {ch:List Addr} (I:Inv X pins σ H s)
    (hch:∀ b∈ch,(b∈X.ex∨X.s₀.heap.objs.size≤b)∧b≠X.env.locals∧(∀ x c,X.env.cells.lookup x=some c→c≠b)∧∀ p∈X.pn++pins,p.1≠b)
    (keep:∀ b o,b≠X.env.locals→b ∉ X.fs→b ∉ ch→s.heap.get? b=some o→H b=none→h'.get? b=some o)
    (slot:∀ b o,b≠X.env.locals→b∈X.fs→b ∉ ch→s.heap.get? b=some o→H b=none→∃ sl,h'.get? b=some { o with slots:=sl }) (free:∀ b o,b ∉ ch→s.heap.get? b=some o→H b=none→H' b=none)
    (there:∀ b o,b ∉ ch→s.heap.get? b=some o→∃ o',h'.get? b=some o')
    (tups:∀ b xs,H b=some (.tup xs)→H' b=some (.tup xs)) (frzs:∀ b o u,H b=some (.frz o u)→H' b=some (.frz o u)) (tbls:∀ b ps,H b=some (.tbl ps)→∃ more,H' b=some (.tbl (ps++more)))
    (ns:∀ m,s.heap.Ns X.env.locals m→h'.Ns X.env.locals m) (hok:HOk X.prog X.w H' h') (hg:AllBare g') :
    Inv X pins σ H' { s with heap:=h',gens:=g',drawn:=d',toks:=t' }:=by
  have neL:∀ b o,X.s₀.heap.get? b=some o→b≠X.env.locals:=fun b o e=>Nat.ne_of_lt (Nat.lt_of_lt_of_le (Heap.lt_size e) I.ok.above)
  have neC:∀ b o,X.s₀.heap.get? b=some o→b ∉ X.ex→b ∉ ch:=fun b o e hx hb=>by
    rcases (hch b hb).1 with z | z
    · exact hx z
    · exact absurd (Nat.lt_of_lt_of_le (Heap.lt_size e) z) (Nat.lt_irrefl _)
  have cellK:∀ x c,X.env.cells.lookup x=some c→∀ v,s.heap.IsCell c v→h'.IsCell c v:=fun x c e v ⟨o,ho,hd⟩=>by
    have nch:c ∉ ch:=fun z=>(hch c z).2.2.1 x c e rfl
    by_cases hc:c∈X.fs
    · obtain ⟨sl,q⟩:=slot c o (I.cne x c e) hc nch ho (I.freeC x c e)
      exact ⟨_,q,hd⟩
    · exact ⟨o,keep c o (I.cne x c e) hc nch ho (I.freeC x c e),hd⟩
  refine ⟨I.ok,I.os,hg,⟨fun b o e n hb hx=>?_,fun b o e n hb hx=>?_,fun b o e n hx=>?_,fun b o e hx=>?_,fun b xs e=>tups b xs (I.base.tups b xs e),fun b o xs e=>frzs b o xs (I.base.frzs b o xs e),fun b ps e=>?_⟩,?_,fun x c e=>?_,?_,fun x c e=>?_,fun p hp=>?_,hok,I.len⟩
  · exact keep b o (neL b o e) hb (neC b o e hx) (I.base.keep b o e n hb hx) (I.base.free b o e n hx)
  · obtain ⟨sl,e1⟩:=I.base.slot b o e n hb hx
    obtain ⟨sl',e2⟩:=slot b _ (neL b o e) hb (neC b o e hx) e1 (I.base.free b o e n hx)
    exact ⟨sl',e2⟩
  · obtain ⟨o',e1⟩:=I.base.there b o e hx
    exact free b o' (neC b o e hx) e1 (I.base.free b o e n hx)
  · obtain ⟨o',e1⟩:=I.base.there b o e hx
    exact there b o' (neC b o e hx) e1
  · obtain ⟨m1,e1⟩:=I.base.tbls b ps e
    obtain ⟨m2,e2⟩:=tbls b _ e1
    exact ⟨m1++m2,by rw [e2,Array.append_assoc]⟩
  · obtain ⟨m,hn,hl⟩:=I.loc
    refine ⟨m,ns m hn,fun i x v e1 e2 e3=>?_⟩
    obtain ⟨u,r,l⟩:=hl i x v e1 e2 e3
    refine ⟨u,r,?_⟩
    rcases l with l | ⟨k,c,e,z⟩
    · exact .inl l
    · exact .inr ⟨k,c,e,cellK x c e _ z⟩
  · obtain ⟨v,z⟩:=I.cell x c e
    exact ⟨v,cellK x c e v z⟩
  · obtain ⟨m,⟨o,_,_,ho,_⟩,_⟩:=I.loc
    exact free _ o (fun z=>(hch _ z).2.1 rfl) ho I.free
  · obtain ⟨v,o,ho,hd⟩:=I.cell x c e
    exact free c o (fun z=>(hch c z).2.2.1 x c e rfl) ho (I.freeC x c e)
  · obtain ⟨e,n,ne,nf,d⟩:=I.pin p hp
    have nch:p.1 ∉ ch:=fun z=>(hch p.1 z).2.2.2 p hp rfl
    exact ⟨keep p.1 p.2 ne nf nch e n,free p.1 p.2 nch e n,ne,nf,d⟩
theorem Inv.un {t':Nat} (I:Inv X pins σ H s) (u:Un X.fs [] H H' s.heap h') (hok:HOk X.prog X.w H' h'):Inv X pins σ H' { s with heap:=h',toks:=t' }:=by
  obtain ⟨m,⟨o,es,ep,ho,r⟩,_⟩:=id I.loc
  obtain ⟨sl,hL⟩:=u.any ho I.free (by simp)
  exact I.step (g':=s.gens) (d':=s.drawn) (ch:=[]) (fun _ z=>nomatch z) (fun b o _ hb _ e n=>u.keep b o e n hb (by simp)) (fun b o _ hb _ e n=>u.slot b o e n hb (by simp)) (fun b o _ e n=>u.free b o e n (by simp)) (fun b o _ e=>u.there b o e (by simp)) u.tups u.frzs u.tbls (fun m' hm=>by
    obtain ⟨o',es',ep',ho',r'⟩:=hm
    rw [ho] at ho';cases ho'
    exact ⟨_,es',ep',hL,r'⟩) hok I.bare
theorem Inv.call {g':Array GenState} {t':Nat} {d':Drawn} {ch:List Addr} (I:Inv X pins σ H s) (u:Un (frs X.stack) ch H H' s.heap h') (hok:HOk X.prog X.w H' h') (hg:AllBare g')
    (hch:∀ b∈ch,(b∈X.ex∨X.s₀.heap.objs.size≤b)∧b≠X.env.locals∧(∀ x c,X.env.cells.lookup x=some c→c≠b)∧∀ p∈X.pn++pins,p.1≠b) :
    Inv X pins σ H' { s with heap:=h',gens:=g',drawn:=d',toks:=t' }:=by
  obtain ⟨m,⟨o,es,ep,ho,r⟩,_⟩:=id I.loc
  obtain ⟨sl,hL⟩:=u.any ho I.free fun z=>(hch _ z).2.1 rfl
  exact I.step (ch:=ch) hch (fun b o hL hb hc e n=>u.keep b o e n (fun z=>(List.mem_cons.mp (I.Am b z)).elim hL hb) hc) (fun b o _ _ hc e n=>u.any e n hc) (fun b o hc e n=>u.free b o e n hc) (fun b o hc e=>u.there b o e hc) u.tups u.frzs u.tbls (fun m' hm=>by
    obtain ⟨o',es',ep',ho',r'⟩:=hm
    rw [ho] at ho';cases ho'
    exact ⟨_,es',ep',hL,r'⟩) hok hg
theorem Inv.turned {t':Nat} {it:Addr} (I:Inv X pins σ H s) (k:∀ b o,b≠it→s.heap.get? b=some o→h'.get? b=some o) (hn:H it=none) (hL:it≠X.env.locals)
    (h1:it∈X.ex∨X.s₀.heap.objs.size≤it) (h2:∀ x c,X.env.cells.lookup x=some c→c≠it) (h3:∀ p∈X.pn++pins,p.1≠it):Inv X pins σ H { s with heap:=h',toks:=t' }:=by
  have nit:∀ b u,H b=some u→b≠it:=fun b u e z=>by rw [z,hn] at e;cases e
  refine I.step (g':=s.gens) (d':=s.drawn) (ch:=[it]) (fun b hb=>?_) (fun b o _ _ hc e _=>k b o (fun z=>hc (by simp [z])) e) (fun b o _ _ hc e _=>⟨o.slots,k b o (fun z=>hc (by simp [z])) e⟩) (fun _ _ _ _ n=>n)
    (fun b o hc e=>⟨o,k b o (fun z=>hc (by simp [z])) e⟩) (fun _ _ e=>e) (fun _ _ _ e=>e) (fun b ps e=>⟨#[],by rw [e];simp⟩) (fun m hm=>?_) (fun b u e=>?_) I.bare
  · have e:b=it:=by simpa using hb
    subst e
    exact ⟨h1,hL,h2,h3⟩
  · obtain ⟨o,es,ep,ho,r⟩:=hm
    exact ⟨o,es,ep,k _ o (Ne.symm hL) ho,r⟩
  · refine (I.hok b u e).stay (fun c v hc q=>k c v ?_ q) (fun _ q=>q) fun _ _ q=>q
    rcases hc with z | z
    · rw [z];exact nit b u e
    · exact nit c _ z
theorem Inv.tok (I:Inv X pins σ H s) (t:Nat):Inv X pins σ H { s with toks:=t }:=I.un (h':=s.heap) (t':=t) Un.refl I.hok
theorem Inv.kept {t':Nat} (I:Inv X pins σ H s) (k:∀ b u,s.heap.get? b=some u→h'.get? b=some u):Inv X pins σ H { s with heap:=h',toks:=t' }:=I.un (Un.kept k) (I.hok.kept k)
theorem Inv.laid {a:Addr} {o:HO} {t':Nat} (I:Inv X pins σ H s) (k:∀ b u,s.heap.get? b=some u→h'.get? b=some u) (hp:s.heap.objs.size≤a) (new:gH X.prog X.w (upd H a o) h' a o) :
    Inv X pins σ (upd H a o) { s with heap:=h',toks:=t' }:=I.un (Un.laid k hp (I.hok.fresh hp)) (I.hok.laid k hp new)
theorem Inv.write {x e:Addr} {o:HO} {t':Nat} (I:Inv X pins σ H s) (mu:Mut (H x)) (he:e=x∨H e=some (.own x)) (k:∀ b u,b≠e→s.heap.get? b=some u→h'.get? b=some u) (heo:∃ u,h'.get? e=some u)
    (new:gH X.prog X.w (upd H x o) h' x o):Inv X pins σ (upd H x o) { s with heap:=h',toks:=t' }:=I.un (Un.write mu he k heo) (I.hok.write mu he k heo new)
theorem Inv.wI {pins':List (Addr × Obj)} (I:Inv X pins σ H s) (h:∀ p∈pins',s.heap.get? p.1=some p.2∧H p.1=none∧p.1≠X.env.locals∧p.1 ∉ X.fs∧∀ v,p.2.data≠.cell v):Inv X pins' σ H s :=
  ⟨I.ok,I.os,I.bare,I.base,I.loc,I.cell,I.free,I.freeC,fun p hp=>(List.mem_append.mp hp).elim (fun z=>I.pin p (List.mem_append_left _ z)) (h p),I.hok,I.len⟩
theorem yG {N:List Str} (hN:N.Nodup) {i j:Nat} {x:Str} (a:N[i]?=some x) (b:N[j]?=some x):i=j:=by
  obtain ⟨h1,e1⟩:=List.getElem?_eq_some_iff.mp a
  obtain ⟨h2,e2⟩:=List.getElem?_eq_some_iff.mp b
  exact (List.getElem_inj hN).mp (e1.trans e2.symm)
theorem uH {M:Model} {A:Around} {E:Value→Shared→Prop} {i:Nat} {x:Str} {v:V} {u:Value} {Q:Unit→Shared→Prop} (I:Inv X pins σ H s) (hN:X.N.Nodup) (hi:X.N[i]?=some x) (hx:Loc X.env.scope x) (r:RelV v u)
    (h:∀ s',Inv X pins (σ.set i (some v)) H s'→(∃ a,Heap.SameBut a s.heap s'.heap∧(a=X.env.locals∨X.env.cells.lookup x=some a))→Q () s') (hf:X.fn x=true∨X.env.scope.names.lookup x=some .local:=by first | exact .inl rfl | exact .inr rfl | assumption):wpAny M A (storeName X.env x u) Q E s:=by
  obtain ⟨m,hn,hl⟩:=id I.loc
  have hcls:(X.env.scope.kind == .class || (X.env.scope.kind == .module && X.env.locals != X.env.globals))=false:=by rw [I.ok.kind];rfl
  have hiσ:i<σ.length:=by rw [I.len];exact (List.getElem?_eq_some_iff.mp hi).1
  have cne:=I.cne
  have tracked:∀ {a:Addr} {h':Heap},(∃ o,s.heap.get? a=some o∧H a=none)→Heap.SameBut a s.heap h'→HOk X.prog X.w H h':=fun {a h'} ha hs b ob e=>by
    obtain ⟨_,_,hfree⟩:=ha
    refine (I.hok b ob e).stay (fun c w' hc q=>(hs.2 c ?_).trans q) (fun _ q=>q) fun _ _ q=>q
    rintro rfl
    rcases hc with rfl | hc
    · rw [hfree] at e;cases e
    · rw [hfree] at hc;cases hc
  rcases hx with hk | hk
  · refine wpAny_storeName_local hk hn (fun h' hn' hs=>?_) hcls
    obtain ⟨oL,_,_,hoL,_⟩:=id hn
    refine h _ ⟨I.ok,I.os,I.bare,⟨fun b o e n hb hx=>?_,fun b o e n hb hx=>?_,I.base.free,fun b o e hx=>?_,I.base.tups,I.base.frzs,I.base.tbls⟩,⟨_,hn',fun j y v' e1 e2 e3=>?_⟩,fun y c e=>?_,I.free,I.freeC,fun p hp=>?_,tracked ⟨oL,hoL,I.free⟩ hs,by simpa using I.len⟩ ⟨_,hs,.inl rfl⟩
    · exact (hs.2 b (Nat.ne_of_lt (Nat.lt_of_lt_of_le (Heap.lt_size e) I.ok.above))).trans (I.base.keep b o e n hb hx)
    · obtain ⟨sl,e1⟩:=I.base.slot b o e n hb hx
      exact ⟨sl,(hs.2 b (Nat.ne_of_lt (Nat.lt_of_lt_of_le (Heap.lt_size e) I.ok.above))).trans e1⟩
    · obtain ⟨o',e1⟩:=I.base.there b o e hx
      exact ⟨o',(hs.2 b (Nat.ne_of_lt (Nat.lt_of_lt_of_le (Heap.lt_size e) I.ok.above))).trans e1⟩
    · by_cases hj:j=i
      · subst hj
        rw [hi] at e1;cases e1
        rw [List.getElem?_set_self hiσ] at e2
        cases e2
        exact ⟨u,r,.inl ⟨hk,by simp⟩⟩
      · rw [List.getElem?_set_ne (Ne.symm hj)] at e2
        obtain ⟨u',r',q⟩:=hl j y v' e1 e2 e3
        refine ⟨u',r',?_⟩
        rcases q with ⟨k,e⟩ | ⟨k,c,e,z⟩
        · refine .inl ⟨k,?_⟩
          have:y≠x:=fun e=>hj (yG hN e1 (e ▸ hi))
          simp [this,e]
        · exact .inr ⟨k,c,e,z.sameBut hs (cne y c e)⟩
    · obtain ⟨w',z⟩:=I.cell y c e
      exact ⟨w',z.sameBut hs (cne y c e)⟩
    · obtain ⟨e,n,ne,nf,d⟩:=I.pin p hp
      exact ⟨(hs.2 p.1 ne).trans e,n,ne,nf,d⟩
  · have hfn:X.fn x=true:=by
      rcases hf with z | z
      · exact z
      · rw [z] at hk;cases hk
    obtain ⟨c,hc⟩:=I.ok.has x (.inl hk)
    obtain ⟨w',z⟩:=I.cell x c hc
    refine wpAny_storeName_cell I.ok.kind hk hc z (fun h' hc' hs=>?_)
    obtain ⟨oc,hoc,hocd⟩:=id z
    refine h { s with heap:=h' } ⟨I.ok,I.os,I.bare,⟨fun b o e n hb hx=>?_,fun b o e n hb hx=>?_,I.base.free,fun b o e hx=>?_,I.base.tups,I.base.frzs,I.base.tbls⟩,⟨m,hn.sameBut hs (Ne.symm (cne x c hc)),fun j y v' e1 e2 e3=>?_⟩,fun y c' e=>?_,I.free,I.freeC,fun p hp=>?_,tracked ⟨oc,hoc,I.freeC x c hc⟩ hs,by simpa using I.len⟩ ⟨c,hs,.inr hc⟩
    · exact (hs.2 b (Nat.ne_of_lt (Nat.lt_of_lt_of_le (Heap.lt_size e) (I.ok.cab x c hfn hc)))).trans (I.base.keep b o e n hb hx)
    · obtain ⟨sl,e1⟩:=I.base.slot b o e n hb hx
      exact ⟨sl,(hs.2 b (Nat.ne_of_lt (Nat.lt_of_lt_of_le (Heap.lt_size e) (I.ok.cab x c hfn hc)))).trans e1⟩
    · obtain ⟨o',e1⟩:=I.base.there b o e hx
      exact ⟨o',(hs.2 b (Nat.ne_of_lt (Nat.lt_of_lt_of_le (Heap.lt_size e) (I.ok.cab x c hfn hc)))).trans e1⟩
    · by_cases hj:j=i
      · subst hj
        rw [hi] at e1;cases e1
        rw [List.getElem?_set_self hiσ] at e2
        cases e2
        exact ⟨u,r,.inr ⟨.inl hk,c,hc,hc'⟩⟩
      · rw [List.getElem?_set_ne (Ne.symm hj)] at e2
        obtain ⟨u',r',q⟩:=hl j y v' e1 e2 e3
        refine ⟨u',r',?_⟩
        rcases q with q | ⟨k,c',e,z'⟩
        · exact .inl q
        · refine .inr ⟨k,c',e,z'.sameBut hs ?_⟩
          rintro rfl
          exact hj (yG hN e1 (I.ok.inj _ _ _ e hc ▸ hi))
    · by_cases hcc:c'=c
      · subst hcc;exact ⟨_,hc'⟩
      · obtain ⟨w2,z2⟩:=I.cell y c' e
        exact ⟨w2,z2.sameBut hs hcc⟩
    · obtain ⟨e,n,ne,nf,d⟩:=I.pin p hp
      refine ⟨(hs.2 p.1 ?_).trans e,n,ne,nf,d⟩
      intro q
      rw [q,hoc] at e
      have q':oc=p.2:=Option.some.inj e
      exact d w' (by rw [← q'];exact hocd)
theorem yc {M:Model} {A:Around} {E:Value→Shared→Prop} {i:Nat} {x:Str} {v:V} {u:Value} {Q:Unit→Shared→Prop} (I:Inv X pins σ H s) (hN:X.N.Nodup) (hi:X.N[i]?=some x) (hx:Loc X.env.scope x) (r:RelV v u)
    (h:∀ s',Inv X pins (σ.set i (some v)) H s'→Q () s') (hf:X.fn x=true∨X.env.scope.names.lookup x=some .local:=by first | exact .inl rfl | exact .inr rfl | assumption):wpAny M A (storeName X.env x u) Q E s :=
  uH I hN hi hx r (fun s' I' _=>h s' I') hf
theorem Inv.call' {s':Shared} {ch:List Addr} (I:Inv X pins σ H s) (ho:s'.os=s.os) (u:Un (frs X.stack) ch H H' s.heap s'.heap) (hok:HOk X.prog X.w H' s'.heap) (hg:AllBare s'.gens)
    (hch:∀ b∈ch,(b∈X.ex∨X.s₀.heap.objs.size≤b)∧b≠X.env.locals∧(∀ x c,X.env.cells.lookup x=some c→c≠b)∧∀ p∈X.pn++pins,p.1≠b):Inv X pins σ H' s':=by
  obtain ⟨h',g',d',t',o'⟩:=s'
  have e:o'=s.os:=ho
  subst e
  exact I.call (g':=g') (t':=t') (d':=d') u hok hg hch
end
abbrev XK:=Value→Option Addr→Hp→Prop
abbrev St:=List (Option V)
abbrev VK:=V→Hp→Prop
abbrev TE:=St→Hp→VK→Prop
abbrev TT:=St→Hp→(Bool→Hp→Prop)→Prop
abbrev TA:=St→Hp→(List V→Hp→Prop)→Prop
structure Ends where
  nx:St→Hp→Prop
  rt:VK
  bk:St→Hp→Prop:=fun _ _=>False
  ct:St→Hp→Prop:=fun _ _=>False
abbrev TS:=Ends→St→Hp→Prop
def EP (X:Cx) (pins:List (Addr × Obj)) (σ:St) (Q:VK) (u:Value) (s':Shared):Prop:=∃ v H',Inv X pins σ H' s'∧RelV v u∧Q v H'
def TP (X:Cx) (pins:List (Addr × Obj)) (σ:St) (Q:Bool→Hp→Prop) (b:Bool) (s':Shared):Prop:=∃ H',Inv X pins σ H' s'∧Q b H'
def AP (X:Cx) (pins:List (Addr × Obj)) (σ:St) (Q:List V→Hp→Prop) (us:List Value) (s':Shared):Prop:=∃ vs H',Inv X pins σ H' s'∧Vals vs us∧Q vs H'
def SP (X:Cx) (pins:List (Addr × Obj)) (D:Ends) (f:Flow) (s':Shared):Prop :=
  match f with
  | .next=>∃ σ' H',Inv X pins σ' H' s'∧D.nx σ' H'
  | .brk=>∃ σ' H',Inv X pins σ' H' s'∧D.bk σ' H'
  | .cont=>∃ σ' H',Inv X pins σ' H' s'∧D.ct σ' H'
  | .ret u=>∃ v σ' H',Inv X pins σ' H' s'∧RelV v u∧D.rt v H'
def PE (X:Cx) (e:Expr) (t:TE):Prop :=
  ∀ (pins:List (Addr × Obj)) (s:Shared) (σ:St) (H:Hp) (Q:VK),Inv X pins σ H s→t σ H Q→wpAny (model X.prog X.w) X.A (eval e X.env) (EP X pins σ Q) X.xe s
def PT (X:Cx) (e:Expr) (t:TT):Prop :=
  ∀ (pins:List (Addr × Obj)) (s:Shared) (σ:St) (H:Hp) (Q:Bool→Hp→Prop),Inv X pins σ H s→t σ H Q→wpAny (model X.prog X.w) X.A (isTrue e X.env (eval e X.env)) (TP X pins σ Q) X.xe s
def PW (X:Cx) (e:Expr) (t:TT):Prop :=
  ∀ (whole:Sem Value) (pins:List (Addr × Obj)) (s:Shared) (σ:St) (H:Hp) (Q:Bool→Hp→Prop),Inv X pins σ H s→t σ H Q→wpAny (model X.prog X.w) X.A (isTrue e X.env whole) (TP X pins σ Q) X.xe s
theorem PW.pt {X:Cx} {e:Expr} {t:TT} (h:PW X e t):PT X e t:=h _
def PA (X:Cx) (es:List Expr) (t:TA):Prop :=
  ∀ (pos:Pos) (pins:List (Addr × Obj)) (s:Shared) (σ:St) (H:Hp) (Q:List V→Hp→Prop),Inv X pins σ H s→t σ H Q→wpAny (model X.prog X.w) X.A (spliced (backTo pos (starEach es X.env))) (AP X pins σ Q) X.xe s
def PS (X:Cx) (st:Stmt) (t:TS):Prop :=
  ∀ (pins:List (Addr × Obj)) (s:Shared) (σ:St) (H:Hp) (D:Ends),Inv X pins σ H s→t D σ H→wpAny (model X.prog X.w) X.A (exec st X.env) (SP X pins D) X.xe s
def PSs (X:Cx) (st:List Stmt) (t:TS):Prop :=
  ∀ (pins:List (Addr × Obj)) (s:Shared) (σ:St) (H:Hp) (D:Ends),Inv X pins σ H s→t D σ H→wpAny (model X.prog X.w) X.A (execs st X.env) (SP X pins D) X.xe s
theorem thn {α:Type} {t:Sem α} {Q Q':α→Shared→Prop} {M:Model} {A:Around} {E:Value→Shared→Prop} {s:Shared} (h:wpAny M A t Q E s) (hQ:∀ a s,Q a s→Q' a s):wpAny M A t Q' E s:=wpAny_mono h hQ fun _ _ x=>x
end L2
namespace L2
open PySem PySem.Spec PyProof.Rows
section
variable {X:Cx}
def Ys (i:Nat):TE:=fun σ H Q=>∃ v,σ[i]?=some (some v)∧Q v H
def tC (v:V):TE:=fun _ H Q=>Q v H
theorem Qs {i:Nat} {x:Str} {pos:Pos} (hN:X.N[i]?=some x) (hv:Vis X.env.scope x) (hd:(x == ("__debug__":Str))=false:=by decide) (hcd:(x == ("__classdict__":Str))=false:=by decide):PE X (.Name x pos) (Ys i):=by
  intro pins s σ H Q I h
  obtain ⟨v,e,h⟩:=h
  obtain ⟨m,hn,hl⟩:=I.loc
  obtain ⟨u,r,l⟩:=hl i x v hN e hv
  have fin:EP X pins σ Q u s:=⟨v,H,I,r,h⟩
  rcases l with ⟨hk,hm⟩ | ⟨hk,c,hc,hcell⟩
  · exact wpAny_Name (wpAny_loadName_local I.ok.kind hk hn hm fin) hd
  · rcases hk with hk | hk
    · exact wpAny_Name (wpAny_loadName_cell I.ok.kind hk hc hcell fin) hd
    · exact wpAny_Name (wpAny_loadName_free I.ok.kind hk hc hcell fin hcd) hd
theorem aA {i j pos}:PE X (.Constant (.int i) j pos) (tC (.int i)):=fun _ _ _ H _ I h=>wpAny_Constant_int ⟨.int i,H,I.tok _,⟨_,rfl⟩,h⟩
theorem BJ {b j pos}:PE X (.Constant (.bool b) j pos) (tC (.bl b)):=fun _ _ _ H _ I h=>Constant_bool ⟨.bl b,H,I,rfl,h⟩
def Gl (X:Cx) (x:Str):Prop:=X.env.kindOf x=some .globalImplicit
theorem Ck {E:Value→Shared→Prop} {pins:List (Addr × Obj)} {s:Shared} {σ:St} {H:Hp} {x:Str} {u:Value} {pos:Pos} {Q:Value→Shared→Prop} (I:Inv X pins σ H s) (hg:Gl X x) (hm:X.mg x=some u) (h:Q u s)
    (hd:(x == ("__debug__":Str))=false:=by decide):wpAny (model X.prog X.w) X.A (eval (.Name x pos) X.env) Q E s :=
  Calls.Name_function_global I.ok.kind hg (Calls.loadGlobal_global (by rw [I.ok.glob];exact I.mod.glob.keeps I.bk) hm h) hd
theorem lW {E:Value→Shared→Prop} {pins:List (Addr × Obj)} {s:Shared} {σ:St} {H:Hp} {x:Str} {u:Value} {pos:Pos} {Q:Value→Shared→Prop} (I:Inv X pins σ H s) (hg:Gl X x) (hm:X.mg x=none) (hv:bootBuiltins x=some u) (h:Q u s)
    (hn:x≠"__name__":=by decide) (hd:(x == ("__debug__":Str))=false:=by decide):wpAny (model X.prog X.w) X.A (eval (.Name x pos) X.env) Q E s:=by
  obtain ⟨mb,h1,h2⟩:=I.mod.blt
  exact Calls.Name_function_global I.ok.kind hg (Calls.loadGlobal_builtin (by rw [I.ok.glob];exact I.mod.glob.keeps I.bk) hm (by rw [I.ok.blt];exact h1.keeps I.bk) ((h2 x hn).trans hv) h) hd
theorem lZ {x:Str} {v:V} {u:Value} {pos:Pos} (hg:Gl X x) (hm:X.mg x=some u) (r:RelV v u) (hd:(x == ("__debug__":Str))=false:=by decide):PE X (.Name x pos) (tC v) :=
  fun _ _ _ H _ I h=>Ck I hg hm ⟨v,H,I,r,h⟩ hd
theorem qp {x:Str} {v:V} {u:Value} {pos:Pos} (hg:Gl X x) (hm:X.mg x=none) (hv:bootBuiltins x=some u) (r:RelV v u) (hn:x≠"__name__":=by decide) (hd:(x == ("__debug__":Str))=false:=by decide):PE X (.Name x pos) (tC v) :=
  fun _ _ _ H _ I h=>lW I hg hm hv ⟨v,H,I,r,h⟩ hn hd
def t2I (ta tb:TE) (k:Int→Int→Hp→Prop):St→Hp→Prop:=fun σ H=>ta σ H fun x H1=>tb σ H1 fun y H2=>∃ i j,x=.int i∧y=.int j∧k i j H2
variable {a b:Expr} {ta tb:TE} {pos:Pos}
def Pn (p:Int→Int→Bool) (ta tb:TE):TE:=fun σ H Q=>t2I ta tb (fun i j H2=>Q (.bl (p i j)) H2) σ H
abbrev tLt:TE→TE→TE:=Pn fun i j=>decide (i<j)
abbrev tLe:TE→TE→TE:=Pn fun i j=>decide (i≤j)
abbrev tGt:TE→TE→TE:=Pn fun i j=>decide (j<i)
abbrev tGe:TE→TE→TE:=Pn fun i j=>decide (j≤i)
abbrev tEqI:TE→TE→TE:=Pn fun i j=>decide (i=j)
abbrev tNeI:TE→TE→TE:=Pn fun i j=>!decide (i=j)
def tB (t:TE):TT:=fun σ H Q=>t σ H fun x H1=>∃ c,x=.bl c∧Q c H1
theorem kE {e:Expr} {t:TE} (h:PE X e t) (he:∀ whole,isTrue e X.env whole=(do let v ← whole;standAt e.pos;holding [v] (truthy v)):=by intro _;rfl):PT X e (tB t):=by
  intro pins s σ H Q I hw
  refine isTrue_plain (thn (h pins s σ H _ I hw) fun v s1 ⟨x,H1,I1,r1,q1⟩=>?_) (he _)
  obtain ⟨d,rfl,q⟩:=q1
  cases r1
  exact wpAny_truthy_bool ⟨H1,I1,q⟩
variable {tA tB':TT} {rest:List Expr}
def tAnd (t u:TT):TT:=fun σ H Q=>t σ H fun c H1=>if c=true then u σ H1 Q else Q false H1
def tOr (t u:TT):TT:=fun σ H Q=>t σ H fun c H1=>if c=true then Q true H1 else u σ H1 Q
def tNot (t:TT):TT:=fun σ H Q=>t σ H fun c H1=>Q (!c) H1
theorem pw_and1 (ha:PT X a tA):PW X (.BoolOp .And [a] pos) tA:=by
  intro wh pins s σ H Q I h
  refine isTrue_and (thn (ha pins s σ H Q I h) fun c s1 e=>?_)
  cases c with
  | true=>exact isTrue_and_nil e
  | false=>exact e
theorem pw_or1 (ha:PT X a tA):PW X (.BoolOp .Or [a] pos) tA:=by
  intro wh pins s σ H Q I h
  refine isTrue_or (thn (ha pins s σ H Q I h) fun c s1 e=>?_)
  cases c with
  | false=>exact isTrue_or_nil e
  | true=>exact e
theorem pw_and (ha:PT X a tA) (hb:PW X (.BoolOp .And (b :: rest) pos) tB'):PW X (.BoolOp .And (a :: b :: rest) pos) (tAnd tA tB'):=by
  intro wh pins s σ H Q I h
  refine isTrue_and (thn (ha pins s σ H _ I h) fun c s1 ⟨H1,I1,q1⟩=>?_)
  cases c with
  | true=>exact hb wh pins s1 σ H1 Q I1 q1
  | false=>exact ⟨H1,I1,q1⟩
theorem pw_or (ha:PT X a tA) (hb:PW X (.BoolOp .Or (b :: rest) pos) tB'):PW X (.BoolOp .Or (a :: b :: rest) pos) (tOr tA tB'):=by
  intro wh pins s σ H Q I h
  refine isTrue_or (thn (ha pins s σ H _ I h) fun c s1 ⟨H1,I1,q1⟩=>?_)
  cases c with
  | true=>exact ⟨H1,I1,q1⟩
  | false=>exact hb wh pins s1 σ H1 Q I1 q1
theorem kI (ha:PT X a tA):PT X (.UnaryOp .Not a pos) (tNot tA):=by
  intro pins s σ H Q I h
  exact isTrue_not (ha pins s σ H (fun c H1=>Q (!c) H1) I h)
def Wb (ta tb:TE):TE:=fun σ H Q=>ta σ H fun x H1=>∃ c,x=.bl c∧if c=true then tb σ H1 Q else Q (.bl false) H1
theorem G4 {op} {t:TE} (h:PE X a t):PE X (.BoolOp op [a] pos) t:=fun pins s σ H Q I hw=>BoolOp_one (h pins s σ H Q I hw)
theorem G5 (ha:PE X a ta) (hb:PE X (.BoolOp .And (b :: rest) pos) tb):PE X (.BoolOp .And (a :: b :: rest) pos) (Wb ta tb):=by
  intro pins s σ H Q I h
  refine BoolOp_and (thn (ha pins s σ H _ I h) fun v s1 ⟨x,H1,I1,r1,q1⟩=>?_)
  obtain ⟨c,rfl,q1⟩:=q1
  cases r1
  refine wpAny_truthy_bool ?_
  cases c with
  | true=>exact hb pins s1 σ H1 Q I1 q1
  | false=>exact ⟨.bl false,H1,I1,rfl,q1⟩
end
end L2
namespace L2
open PySem PySem.Spec PyProof.Rows
def SqL (K:PySem.W.Frag) (H:Hp) (a:Addr) (xs:List V):Prop :=
  Rd H a (.lst xs) ∨
    ∃ (o:Obj) (its:Array Value) (n:Nat),K.lookup a=some o∧o.cls=.type "list"∧o.dict=none∧o.data=.seq its n∧its.size≤sizeLine∧Vals xs its.toList
def SqT (K:PySem.W.Frag) (H:Hp) (a:Addr) (xs:List V):Prop :=
  Rd H a (.tup xs) ∨
    ∃ (o:Obj) (its:Array Value) (n:Nat),K.lookup a=some o∧o.cls=.type "tuple"∧o.data=.seq its n∧its.size≤sizeLine∧Vals xs its.toList
def absV:Value→Option V
  | .none=>some .non
  | .bool b=>some (.bl b)
  | .int i _=>some (.int i)
  | .str x _=>some (.str x)
  | .bytes b _=>some (.byt b)
  | .float b _=>some (.flt b)
  | .ref a=>some (.ref a)
  | .type n=>some (.ty n)
  | _=>none
theorem RelV.abs {x:V} {u:Value} (r:RelV x u):absV u=some x:=by
  cases x with
  | non=>cases r;rfl
  | bl _=>cases r;rfl
  | int _=>obtain ⟨t,rfl⟩:=r;rfl
  | str _=>obtain ⟨t,rfl⟩:=r;rfl
  | byt _=>obtain ⟨t,rfl⟩:=r;rfl
  | flt _=>obtain ⟨t,rfl⟩:=r;rfl
  | ref _=>cases r;rfl
  | ty _=>cases r;rfl
theorem RelV.inj {x y:V} {u:Value} (r:RelV x u) (q:RelV y u):x=y:=Option.some.inj (r.abs.symm.trans q.abs)
theorem Vals.inj:∀ {xs ys:List V} {us:List Value},Vals xs us→Vals ys us→xs=ys
  | _,_,_,.nil,.nil=>rfl
  | _,_,_,.cons r t,.cons r' t'=>by rw [r.inj r',Vals.inj t t']
section
variable {X:Cx} {pins:List (Addr × Obj)} {σ:St} {H:Hp} {s:Shared} {a:Addr} {xs ys:List V}
theorem SqL.of {K:PySem.W.Frag} (h:H a=some (.lst xs)):SqL K H a xs:=.inl (.inl h)
theorem SqT.of {K:PySem.W.Frag} (h:H a=some (.tup xs)):SqT K H a xs:=.inl (.inl h)
theorem Inv.list (I:Inv X pins σ H s) (h:SqL X.K H a xs):∃ its:List Value,Vals xs its∧PlainL s.heap a its.toArray∧xs.length≤sizeLine:=by
  rcases h with h | ⟨o,its,n,hk,hc,hd,hs,hz,r⟩
  · obtain ⟨z,its,n,r,e⟩:=h.ok I.hok
    exact ⟨its,r,⟨_,n,e,rfl,rfl,rfl⟩,z⟩
  · refine ⟨its.toList,r,⟨o,n,I.kIn a o hk,hc,hd,by simpa using hs⟩,?_⟩
    have e:=r.length
    simp only [Array.length_toList] at e
    omega
theorem Inv.tuple (I:Inv X pins σ H s) (h:SqT X.K H a xs):∃ its:List Value,Vals xs its∧IsTup s.heap a its.toArray∧xs.length≤sizeLine:=by
  rcases h with h | ⟨o,its,n,hk,hc,hs,hz,r⟩
  · obtain ⟨z,its,r,p⟩:=h.ok I.hok
    exact ⟨its,r,p,z⟩
  · refine ⟨its.toList,r,⟨o,I.kIn a o hk,hc,n,by simpa using hs⟩,?_⟩
    have e:=r.length
    simp only [Array.length_toList] at e
    omega
theorem Inv.Fi (I:Inv X pins σ H s) (h:SqL X.K H a xs) (h':SqL X.K H a ys):xs=ys:=by
  obtain ⟨its,r,⟨o,n,e,_,_,d⟩,_⟩:=I.list h
  obtain ⟨its',r',⟨o',n',e',_,_,d'⟩,_⟩:=I.list h'
  rw [e] at e';cases e'
  rw [d] at d'
  injection d' with d1 _
  have:its=its':=by simpa using congrArg Array.toList d1
  subst this
  exact r.inj r'
end
abbrev Cx.wish (X:Cx) (E:Value→Shared→Prop):Cx:={ X with xe:=E }
abbrev Cx.nox (X:Cx):Cx:=X.wish fun _ _=>False
theorem Cx.Ok.wish {X:Cx} (ok:X.Ok) (E:Value→Shared→Prop):(X.wish E).Ok :=
  ⟨ok.mod,ok.kind,ok.glob,ok.blt,ok.above,ok.inj,ok.has,ok.cab,ok.hd,ok.frames,ok.stk,ok.exf,ok.bs,ok.bsz,ok.noex,ok.exfs,ok.CK,ok.frf⟩
theorem Cx.Ok.o8 {X:Cx} {E:Value→Shared→Prop} (ok:(X.wish E).Ok):X.Ok :=
  ⟨ok.mod,ok.kind,ok.glob,ok.blt,ok.above,ok.inj,ok.has,ok.cab,ok.hd,ok.frames,ok.stk,ok.exf,ok.bs,ok.bsz,ok.noex,ok.exfs,ok.CK,ok.frf⟩
section
variable {X:Cx} {pins:List (Addr × Obj)} {σ:St} {H:Hp} {s:Shared} {E:Value→Shared→Prop}
theorem Inv.wish (I:Inv X pins σ H s) (E:Value→Shared→Prop):Inv (X.wish E) pins σ H s:=⟨I.ok.wish E,I.os,I.bare,I.base,I.loc,I.cell,I.free,I.freeC,I.pin,I.hok,I.len⟩
theorem Inv.o8 (I:Inv (X.wish E) pins σ H s):Inv X pins σ H s:=⟨I.ok.o8,I.os,I.bare,I.base,I.loc,I.cell,I.free,I.freeC,I.pin,I.hok,I.len⟩
theorem SP.o8 {D:Ends} {f:Flow} {s':Shared} (h:SP (X.wish E) pins D f s'):SP X pins D f s':=by
  cases f with
  | next=>obtain ⟨σ',H',I,q⟩:=h;exact ⟨σ',H',I.o8,q⟩
  | brk=>obtain ⟨σ',H',I,q⟩:=h;exact ⟨σ',H',I.o8,q⟩
  | cont=>obtain ⟨σ',H',I,q⟩:=h;exact ⟨σ',H',I.o8,q⟩
  | ret u=>obtain ⟨v,σ',H',I,r,q⟩:=h;exact ⟨v,σ',H',I.o8,r,q⟩
theorem PSs.nox {st:List Stmt} {t:TS} (h:PSs X.nox st t):PSs X st t:=fun pins s σ H D I hw =>
  wpAny_mono (h pins s σ H D (I.wish _) hw) (fun _ _ q=>q.o8) fun _ _ z=>False.elim z
end
section
variable {X:Cx} {st:Stmt} {rest:List Stmt} {t u:TS} {e:Expr} {te:TE} {pos:Pos}
def V3:TS:=fun D σ H=>D.nx σ H
def aO (t u:TS):TS:=fun D σ H=>t { D with nx:=u D } σ H
theorem cu:PSs X [] V3:=fun _ _ σ H _ I h=>wpAny_execs_nil ⟨σ,H,I,h⟩
theorem au (h1:PS X st t) (h2:PSs X rest u):PSs X (st :: rest) (aO t u):=by
  intro pins s σ H D I h
  refine wpAny_execs_cons (thn (h1 pins s σ H { D with nx:=u D } I h) fun f s1 q=>?_)
  cases f with
  | next =>
    obtain ⟨σ',H',I',q⟩:=q
    exact h2 pins s1 σ' H' D I' q
  | ret v=>exact q
  | brk=>exact q
  | cont=>exact q
theorem aB (h1:PS X st t):PSs X [st] t:=by
  intro pins s σ H D I h
  refine wpAny_execs_cons (thn (h1 pins s σ H D I h) fun f s1 q=>?_)
  cases f with
  | next=>exact wpAny_execs_nil q
  | ret v=>exact q
  | brk=>exact q
  | cont=>exact q
theorem Inv.quiet {pins:List (Addr × Obj)} {σ:St} {H:Hp} {s:Shared} (I:Inv X pins σ H s):interactive X.env=false:=by simp [interactive,I.ok.kind]
def V5 (te:TE):TS:=fun D σ H=>te σ H fun _ H1=>D.nx σ H1
theorem dZ (he:PE X e te) (hs:swapsWith e none pos.line X.env=pure false:=by rfl):PS X (.Expr e pos) (V5 te):=by
  intro pins s σ H D I h
  exact wpAny_Expr_any (thn (he pins s σ H _ I h) fun v s1 ⟨x,H1,I1,r1,q1⟩=>⟨σ,H1,I1,q1⟩) I.quiet hs
def tRet (te:TE):TS:=fun D σ H=>te σ H D.rt
theorem bx (he:PE X e te):PS X (.Return (some e) pos) (tRet te):=by
  intro pins s σ H D I h
  exact wpAny_Return_some (thn (he pins s σ H _ I h) fun v s1 ⟨x,H1,I1,r1,q1⟩=>⟨x,σ,H1,I1,r1,q1⟩)
def iW (c:TT) (t u:TS):TS:=fun D σ H=>c σ H fun b H1=>if b=true then t D σ H1 else u D σ H1
theorem iK {c:Expr} {a b:List Stmt} {tc:TT} (hc:PT X c tc) (ha:PSs X a t) (hb:PSs X b u):PS X (.If c a b pos) (iW tc t u):=by
  intro pins s σ H D I h
  refine wpAny_If (thn (hc pins s σ H _ I h) fun d s1 ⟨H1,I1,q1⟩=>?_)
  cases d with
  | true=>exact ha pins s1 σ H1 D I1 q1
  | false=>exact hb pins s1 σ H1 D I1 q1
def PJ:TS:=fun _ _ _=>False
theorem pO:PS X st PJ:=fun _ _ _ _ _ _ h=>h.elim
end
abbrev TG:=V→St→Hp→(St→Hp→Prop)→Prop
abbrev TGs:=List V→St→Hp→(St→Hp→Prop)→Prop
def PG (X:Cx) (target:Expr) (t:TG):Prop :=
  ∀ (pins:List (Addr × Obj)) (s:Shared) (σ:St) (H:Hp) (v:V) (u:Value) (Q:St→Hp→Prop),Inv X pins σ H s→RelV v u→t v σ H Q →
    wpAny (model X.prog X.w) X.A (assign target X.env u) (fun _ s'=>∃ σ' H',Inv X pins σ' H' s'∧Q σ' H') X.xe s
def PGs (X:Cx) (ts:List Expr) (t:TGs):Prop :=
  ∀ (pins:List (Addr × Obj)) (s:Shared) (σ:St) (H:Hp) (vs:List V) (us:List Value) (Q:St→Hp→Prop),Inv X pins σ H s→Vals vs us→t vs σ H Q →
    wpAny (model X.prog X.w) X.A (assignInOrder ((assignEach ts X.env).map (·.2)) us) (fun _ s'=>∃ σ' H',Inv X pins σ' H' s'∧Q σ' H') X.xe s
abbrev Vx:=V→V→V→Hp→(Hp→Prop)→Prop
def Yo (X:Cx) (t:Vx):Prop :=
  ∀ (pins:List (Addr × Obj)) (s:Shared) (σ:St) (H:Hp) (o i v:V) (ov iv u:Value) (Q:Hp→Prop),Inv X pins σ H s→RelV o ov→RelV i iv→RelV v u→t o i v H Q →
    wpAny (model X.prog X.w) X.A (setItem ov iv u) (fun _ s'=>∃ H',Inv X pins σ H' s'∧Q H') X.xe s
abbrev TIp:=V→V→Hp→VK→Prop
def PIp (X:Cx) (op:Operator) (t:TIp):Prop :=
  ∀ (pins:List (Addr × Obj)) (s:Shared) (σ:St) (H:Hp) (x y:V) (v u:Value) (Q:VK),Inv X pins σ H s→RelV x v→RelV y u→t x y H Q →
    wpAny (model X.prog X.w) X.A (inplaceOp op v u) (EP X pins σ Q) X.xe s
section
variable {X:Cx} {pos:Pos}
def FJ (i:Nat):TG:=fun v σ H Q=>Q (σ.set i (some v)) H
theorem aD {i:Nat} {x:Str} (hN:X.N.Nodup) (hi:X.N[i]?=some x) (hx:Loc X.env.scope x) (hf:X.fn x=true∨X.env.scope.names.lookup x=some .local:=by first | exact .inl rfl | exact .inr rfl | assumption):PG X (.Name x pos) (FJ i):=by
  intro pins s σ H v u Q I r h
  exact wpAny_assign_Name (yc I hN hi hx r (fun s' I'=>⟨_,H,I',h⟩) hf)
def gNil:TGs:=fun vs σ H Q=>vs=[]∧Q σ H
def Yi (t:TG) (u:TGs):TGs:=fun vs σ H Q=>∃ v r,vs=v :: r∧t v σ H fun σ' H'=>u r σ' H' Q
theorem dB:PGs X [] gNil:=by
  intro pins s σ H vs us Q I r h
  obtain ⟨e,h⟩:=h
  subst e
  cases r
  exact assignInOrder_nil ⟨σ,H,I,h⟩
theorem aN {e:Expr} {es:List Expr} {t:TG} {u:TGs} (h1:PG X e t) (h2:PGs X es u)
    (hs:(assignEach (e :: es) X.env).map (·.2)=assign e X.env :: (assignEach es X.env).map (·.2):=by rfl):PGs X (e :: es) (Yi t u):=by
  intro pins s σ H vs us Q I r h
  obtain ⟨v,vr,e1,h⟩:=h
  subst e1
  cases r with
  | cons r rr =>
    rw [hs]
    refine assignInOrder_cons (thn (h1 pins s σ H _ _ _ I r h) fun _ s1 ⟨σ1,H1,I1,q1⟩=>?_)
    exact h2 pins s1 σ1 H1 _ _ Q I1 rr q1
def YS (K:PySem.W.Frag) (n:Nat) (t:TGs):TG:=fun v σ H Q=>∃ a xs,v=.ref a∧SqT K H a xs∧xs.length=n∧t xs σ H Q
theorem iY {es:List Expr} {k:Nat} {t:TGs} {n:Nat} (hc:X.calm=true) (h:PGs X es t)
    (hn:(assignEach es X.env).length=n:=by rfl) (hst:(assignEach es X.env).findIdx? (·.1)=none:=by rfl):PG X (.Tuple es k pos) (YS X.K n t):=by
  intro pins s σ H v u Q I r hw
  obtain ⟨a,xs,e1,hq,hl,hw⟩:=hw
  subst e1
  cases r
  obtain ⟨its,rv,ht,hz⟩:=I.tuple hq
  refine assign_Tuple_tuple (I.ok.hd hc) ht (by simp [hn,← hl,rv.length]) hst fun h' hx=>?_
  have I1:Inv X pins σ H { s with heap:=h' }:=I.kept (t':=s.toks) fun b o e=>hx b o (Nat.ne_of_lt (Heap.lt_size e)) e
  exact h pins _ σ H xs _ Q I1 (by simpa using rv) hw
def gSub (to ti:TE) (t:Vx):TG:=fun v σ H Q=>to σ H fun o H1=>ti σ H1 fun i H2=>t o i v H2 fun H3=>Q σ H3
theorem nj {o i:Expr} {to ti:TE} {t:Vx} (ho:PE X o to) (hi:PE X i ti) (hs:Yo X t)
    (ha:∀ v,assign (.Subscript o i pos) X.env v=(do
      let ov ← holding [v] (eval o X.env)
      let iv ← holding [v,ov] (eval i X.env)
      standAt pos
      holding [v,ov,iv] (setItem ov iv v)
      release [v,ov,iv] []):=by intro _;rfl):PG X (.Subscript o i pos) (gSub to ti t):=by
  intro pins s σ H v u Q I r h
  rw [ha]
  refine wpAny_bind (wpAny_holding (thn (ho pins s σ H _ I h) fun ov s1 ⟨x,H1,I1,r1,q1⟩=>?_))
  refine wpAny_bind (wpAny_holding (thn (hi pins s1 σ H1 _ I1 q1) fun iv s2 ⟨y,H2,I2,r2,q2⟩=>?_))
  refine wpAny_bind (wpAny_standAt (wpAny_bind (wpAny_holding (thn (hs pins s2 σ H2 x y v ov iv u _ I2 r1 r2 r q2) fun _ s3 ⟨H3,I3,q3⟩=>?_))))
  exact wpAny_release ⟨σ,H3,I3,q3⟩
def Wa (te:TE) (g:TG):TS:=fun D σ H=>te σ H fun x H1=>g x σ H1 D.nx
theorem gY {tg e:Expr} {te:TE} {g:TG} (he:PE X e te) (hg:PG X tg g) (hs:swapsWithSole [tg] e pos.line X.env=pure false:=by rfl) (hw:swappedStores [tg] e X.env=pure none:=by rfl)
    (h1:(assignEach [tg] X.env).map (·.2)=[assign tg X.env]:=by rfl):PS X (.Assign [tg] e pos) (Wa te g):=by
  intro pins s σ H D I h
  refine wpAny_Assign_stores (thn (he pins s σ H _ I h) fun v s1 ⟨x,H1,I1,r1,q1⟩=>?_) hs hw
  rw [h1]
  exact thn (hg pins s1 σ H1 x v _ I1 r1 q1) fun _ s2 q=>q
theorem aR {i:Nat} {x:Str} {e:Expr} {te:TE} {pos':Pos} (hN:X.N.Nodup) (hi:X.N[i]?=some x) (hx:Loc X.env.scope x) (he:PE X e te) (hs:swapsWith e (some (.Name x pos')) pos.line X.env=pure false:=by rfl) (hf:X.fn x=true∨X.env.scope.names.lookup x=some .local:=by first | exact .inl rfl | exact .inr rfl | assumption) :
    PS X (.Assign [.Name x pos'] e pos) (Wa te (FJ i)):=by
  intro pins s σ H D I h
  refine wpAny_Assign_Name (thn (he pins s σ H _ I h) fun v s1 ⟨y,H1,I1,r1,q1⟩=>?_) hs
  exact yc I1 hN hi hx r1 (fun s2 I2=>⟨_,H1,I2,q1⟩) hf
def V9 (to ti te:TE) (tget:V→V→Hp→VK→Prop) (tip:TIp) (tset:Vx):TS:=fun D σ H=>to σ H fun o H1=>ti σ H1 fun i H2=>tget o i H2 fun x H3=>te σ H3 fun y H4=>tip x y H4 fun z H5=>tset o i z H5 fun H6=>D.nx σ H6
def YX (X:Cx) (t:V→V→Hp→VK→Prop):Prop :=
  ∀ (pins:List (Addr × Obj)) (s:Shared) (σ:St) (H:Hp) (o i:V) (ov iv:Value) (Q:VK),Inv X pins σ H s→RelV o ov→RelV i iv→t o i H Q →
    wpAny (model X.prog X.w) X.A (getItem ov iv) (EP X pins σ Q) X.xe s
theorem nG {o i e:Expr} {to ti te:TE} {tget:V→V→Hp→VK→Prop} {tip:TIp} {tset:Vx} {op:Operator} {tpos:Pos} (ho:PE X o to) (hi:PE X i ti) (hg:YX X tget) (he:PE X e te) (hp:PIp X op tip) (hs:Yo X tset)
    (ha:∀ ov iv new,augStore i ov iv new=(do holding [new,ov,iv] (setItem ov iv new);release [new,ov,iv] [];pure .next):=by intros;rfl):PS X (.AugAssign (.Subscript o i tpos) op e pos) (V9 to ti te tget tip tset):=by
  intro pins s σ H D I h
  refine wpAny_AugAssign_SubscriptAny (thn (ho pins s σ H _ I h) fun ov s1 ⟨x1,H1,I1,r1,q1⟩=>?_) ha
  refine thn (hi pins s1 σ H1 _ I1 q1) fun iv s2 ⟨x2,H2,I2,r2,q2⟩=>?_
  refine thn (hg pins s2 σ H2 x1 x2 ov iv _ I2 r1 r2 q2) fun old s3 ⟨x3,H3,I3,r3,q3⟩=>?_
  refine thn (he pins s3 σ H3 _ I3 q3) fun v s4 ⟨x4,H4,I4,r4,q4⟩=>?_
  refine thn (hp pins s4 σ H4 x3 x4 old v _ I4 r3 r4 q4) fun new s5 ⟨x5,H5,I5,r5,q5⟩=>?_
  exact thn (hs pins s5 σ H5 x1 x2 x5 ov iv new _ I5 r1 r2 r5 q5) fun _ s6 ⟨H6,I6,q6⟩=>⟨σ,H6,I6,q6⟩
def ipI (f:Int→Int→Int):TIp:=fun x y H Q=>∃ i j,x=.int i∧y=.int j∧Q (.int (f i j)) H
theorem yO:PIp X .Add (ipI fun i j=>i + j):=by
  intro pins s σ H x y v u Q I r1 r2 h
  obtain ⟨i,j,e1,e2,q⟩:=h
  subst e1;subst e2
  obtain ⟨t,rfl⟩:=r1
  obtain ⟨t',rfl⟩:=r2
  exact iadd_int ⟨.int _,H,I.tok _,⟨_,rfl⟩,q⟩
theorem Cw:PIp X .Sub (ipI fun i j=>i - j):=by
  intro pins s σ H x y v u Q I r1 r2 h
  obtain ⟨i,j,e1,e2,q⟩:=h
  subst e1;subst e2
  obtain ⟨t,rfl⟩:=r1
  obtain ⟨t',rfl⟩:=r2
  exact isub_int ⟨.int _,H,I.tok _,⟨_,rfl⟩,q⟩
end
section
variable {X:Cx} {pos:Pos}
def pX (c:TT) (tb:TS):TS:=fun D σ H=>∃ W:Nat→St→Hp→Prop,(∃ m,W m σ H)∧∀ m σ H,W m σ H →
  c σ H fun b H1=>if b=true then ∃ N:St→Hp→Prop,(∀ σ' H',N σ' H'→∃ m',m'<m∧W m' σ' H')∧tb { D with nx:=N,ct:=N,bk:=D.nx } σ H1 else D.nx σ H1
theorem sY {c:Expr} {body:List Stmt} {tc:TT} {tb:TS} (hp:PassesOwn (model X.prog X.w) X.A X.env X.xe) (hc:PT X c tc) (hb:PSs X body tb):PS X (.While c body [] pos) (pX tc tb):=by
  intro pins s σ H D I h
  obtain ⟨W,⟨m0,w0⟩,turn⟩:=h
  refine wpAny_While (codeAny_whileLoop (fun n s'=>∃ σ' H',Inv X pins σ' H' s'∧W n σ' H') ?_ m0 ⟨σ,H,I,w0⟩)
  rintro n s1 ⟨σ1,H1,I1,w1⟩
  refine wpAny_passesOwn hp (thn (hc pins s1 σ1 H1 _ I1 (turn n σ1 H1 w1)) fun b s2 ⟨H2,I2,q2⟩=>?_)
  cases b with
  | true =>
    obtain ⟨N,hN,q2⟩:=q2
    rw [if_pos rfl]
    refine wpAny_passesOwn hp (thn (hb pins s2 σ1 H2 _ I2 q2) fun f s3 q3=>?_)
    cases f with
    | next =>
      obtain ⟨σ3,H3,I3,n3⟩:=q3
      obtain ⟨m',hm,w3⟩:=hN σ3 H3 n3
      exact ⟨m',hm,σ3,H3,I3,w3⟩
    | cont =>
      obtain ⟨σ3,H3,I3,n3⟩:=q3
      obtain ⟨m',hm,w3⟩:=hN σ3 H3 n3
      exact ⟨m',hm,σ3,H3,I3,w3⟩
    | brk=>exact q3
    | ret v=>exact q3
  | false =>
    rw [if_neg Bool.false_ne_true]
    exact wpAny_execs_nil ⟨σ1,H2,I2,q2⟩
end
structure It where
  go:Nat→Hp→Prop
  yld:Nat→Hp→V→Hp→Prop
  stop:Nat→Hp→Prop
def wg (X:Cx) (pins:List (Addr × Obj)) (H:Hp) (b:Addr):Prop :=
  H b=none∧b≠X.env.locals∧b ∉ X.fs∧(b∈X.ex∨X.s₀.heap.objs.size≤b)∧(∀ x c,X.env.cells.lookup x=some c→c≠b)∧∀ p∈X.pn++pins,p.1≠b
theorem Inv.zR {X:Cx} {pins:List (Addr × Obj)} {σ:St} {H H':Hp} {s:Shared} {b:Addr} (I:Inv X pins σ H s) (hb:s.heap.objs.size≤b) (hn:H' b=none):wg X pins H' b:=by
  refine ⟨hn,Nat.ne_of_gt (Nat.lt_of_lt_of_le I.lt hb),I.nofs hb,.inr (Nat.le_trans I.sz hb),fun x c e z=>?_,fun p hp z=>?_⟩
  · obtain ⟨v,q⟩:=I.cell x c e
    exact absurd (Nat.lt_of_lt_of_le q.lt (by rw [z];exact hb)) (Nat.lt_irrefl _)
  · exact absurd (Nat.lt_of_lt_of_le (Heap.lt_size (I.pin p hp).1) (by rw [z];exact hb)) (Nat.lt_irrefl _)
structure Turn (P:Program) (w:World) (K:PySem.W.Frag) (tg:Expr) (J:It) (fp:List Addr) (it:Addr) (tn:Nat→Heap→Prop):Prop where
  mem:it∈fp
  obj:∀ i h,tn i h→∀ b∈fp,∃ o,h.get? b=some o∧∀ v,o.data≠.cell v
  keep:∀ i h h',tn i h→(∀ b∈fp,∀ o,h.get? b=some o→h'.get? b=some o)→tn i h'
  item:∀ (X:Cx),X.prog=P→X.w=w→X.K=K→X.calm=true→∀ (i:Nat) (pins:List (Addr × Obj)) (s:Shared) (σ:St) (H:Hp) (E:Value→Shared→Prop),Inv X pins σ H s→(∀ b∈fp,wg X pins H b)→tn i s.heap→J.go i H →
    wpAny (model P w) X.A (pyNext (.ref it)) (fun r s1=>∃ u,r=some u ∧
      wpAny (model P w) X.A (letOwnedTupleGo tg (.ref it) u) (fun _ s2=>∃ x H',Inv X pins σ H' s2∧RelV x u∧J.yld i H x H'∧tn (i + 1) s2.heap∧∀ b∈fp,H' b=none) E s1) E s
  done:∀ (X:Cx),X.prog=P→X.w=w→X.K=K→X.calm=true→∀ (i:Nat) (pins:List (Addr × Obj)) (s:Shared) (σ:St) (H:Hp) (E:Value→Shared→Prop),Inv X pins σ H s→(∀ b∈fp,wg X pins H b)→tn i s.heap→J.stop i H →
    wpAny (model P w) X.A (pyNext (.ref it)) (fun r s1=>r=none∧Inv X pins σ H s1) E s
  self:∀ (A:Around) (i:Nat) (s:Shared) (Q:Value→Shared→Prop) (E:Value→Shared→Prop),tn i s.heap→Q (.ref it) s→wpAny (model P w) A (pyIter (.ref it)) Q E s
abbrev TI:=St→Hp→(It→Hp→Prop)→Prop
def PIE (X:Cx) (pins:List (Addr × Obj)) (σ:St) (tg:Expr) (R:It→Hp→Prop) (itv:Value) (s2:Shared):Prop :=
  ∃ (it:Addr) (fp:List Addr) (tn:Nat→Heap→Prop) (J:It) (H':Hp),itv=.ref it∧Inv X pins σ H' s2∧Turn X.prog X.w X.K tg J fp it tn∧tn 0 s2.heap∧(∀ b∈fp,wg X pins H' b)∧R J H'
def PI (X:Cx) (tg iter:Expr) (wi:TI):Prop :=
  ∀ (pins:List (Addr × Obj)) (s:Shared) (σ:St) (H:Hp) (R:It→Hp→Prop),Inv X pins σ H s→wi σ H R →
    wpAny (model X.prog X.w) X.A (eval iter X.env) (fun v s1=>wpAny (model X.prog X.w) X.A (pyIter v) (PIE X pins σ tg R) X.xe s1) X.xe s
theorem Vl {M:Model} {A:Around} {E:Value→Shared→Prop} {s:Shared} {tg:Expr} {it:Addr} {u:Value} {o:Obj} {n:String} {vs:Array Value} {Q:Unit→Shared→Prop} (ho:s.heap.get? it=some o) (hc:o.cls=.type n) (hd:o.data=.fields vs)
    (hn:["enumerate","zip","dict_itemiterator","dict_reverseitemiterator","odict_iterator","itertools.zip_longest","itertools.pairwise"].contains n=false) (hQ:Q () s):wpAny M A (letOwnedTupleGo tg (.ref it) u) Q E s:=by
  unfold letOwnedTupleGo
  cases tg <;> first
    | exact wpAny_pure hQ
    | (cases u <;> first
        | exact wpAny_pure hQ
        | (refine wpAny_bind (wpAny_load ho ?_)
           rw [hc,hd]
           show wpAny M A (if (["enumerate","zip","dict_itemiterator","dict_reverseitemiterator","odict_iterator","itertools.zip_longest","itertools.pairwise"].contains n && vs[0]? == some (rawInt _))=true then _ else _) Q E s
           rw [if_neg (by intro h;rw [hn,Bool.false_and] at h;cases h)]
           exact wpAny_pure hQ))
def Itl (K:PySem.W.Frag) (a:Addr):It :=
  ⟨fun i H=>∃ xs x,SqL K H a xs∧xs[i]?=some x,fun i H x H'=>H'=H∧∀ xs,SqL K H a xs→xs[i]?=some x,fun i H=>∃ xs,SqL K H a xs∧xs.length≤i⟩
def Itr (lo:Int) (n:Nat):It:=⟨fun i _=>i<n,fun i H x H'=>H'=H∧x=.int (lo + i),fun i _=>n≤i⟩
theorem Ae {P:Program} {w:World} {K:PySem.W.Frag} {tg:Expr} (a it:Addr):Turn P w K tg (Itl K a) [it] it (fun i h=>h.IsListIter it a i) where
  mem:=by simp
  obj:=fun i h st b hb=>by
    have e:b=it:=by simpa using hb
    subst e
    obtain ⟨o,e,c,d⟩:=st
    exact ⟨o,e,fun v z=>by rw [d] at z;cases z⟩
  keep:=fun i h h' st k=>st.at fun o e=>k it (by simp) o e
  item:=by
    intro X hP hw hK hc i pins s σ H E I hf st hg
    subst hP hw hK
    obtain ⟨xs,x,hq,hx⟩:=hg
    obtain ⟨its,rv,p,hz⟩:=I.list hq
    obtain ⟨u,hu,ru⟩:=rv.get hx
    obtain ⟨f0,f1,f2,f3,f4,f5⟩:=hf it (by simp)
    refine wpAny_pyNext_list_item st p.isList (x:=u) (by simpa using hu) fun h' st' sb=>?_
    have I1:Inv X pins σ H { s with heap:=h' }:=I.turned (t':=s.toks) (fun b o hb e=>(sb.2 b hb).trans e) f0 f1 f3 f4 f5
    obtain ⟨o,e,c,d⟩:=id st'
    exact ⟨u,rfl,Vl (s:={ s with heap:=h' }) e c d (by decide) ⟨x,H,I1,ru,⟨rfl,fun ys hy=>by rw [I.Fi hy hq];exact hx⟩,st',fun b hb=>(hf b hb).1⟩⟩
  done:=by
    intro X hP hw hK hc i pins s σ H E I hf st hg
    subst hP hw hK
    obtain ⟨xs,hq,hx⟩:=hg
    obtain ⟨its,rv,p,hz⟩:=I.list hq
    obtain ⟨f0,f1,f2,f3,f4,f5⟩:=hf it (by simp)
    have hl:=rv.length
    exact wpAny_pyNext_list_end (I.ok.hd hc) st p.isList (by simp;omega) fun h' eb=>⟨rfl,I.turned (t':=s.toks) (fun b o hb e=>eb b o hb e) f0 f1 f3 f4 f5⟩
  self:=fun _ _ _ _ _ st h=>wpAny_pyIter_listiter st h
theorem zm {P:Program} {w:World} {K:PySem.W.Frag} {tg:Expr} (it:Addr) (lo:Int) (n:Nat):Turn P w K tg (Itr lo n) [it] it (fun i h=>IsRangeIter h it (lo + (i:Nat) * 1) ((n:Int) - (i:Nat)) 1) where
  mem:=by simp
  obj:=fun i h st b hb=>by
    have e:b=it:=by simpa using hb
    subst e
    exact ⟨_,st,fun v z=>by
      have z':Data.fields _=Data.cell v:=z
      cases z'⟩
  keep:=fun i h h' st k=>k it (by simp) _ st
  item:=by
    intro X hP hw hK hc i pins s σ H E I hf st hg
    subst hP hw hK
    obtain ⟨f0,f1,f2,f3,f4,f5⟩:=hf it (by simp)
    have W:=Walks.range (prog:=X.prog) (w:=X.w) (I.ok.hd hc) it lo 1 n
    refine W.item i s _ _ hg st fun v h' tk hv st' kk=>?_
    obtain ⟨t,rfl⟩:=hv
    have I1:Inv X pins σ H { s with heap:=h',toks:=tk }:=I.turned (fun b o hb e=>kk b o (by simpa using hb) e) f0 f1 f3 f4 f5
    refine ⟨_,rfl,Vl (s:={ s with heap:=h',toks:=tk }) (n:="range_iterator") st' rfl rfl (by decide) ⟨.int (lo + i),H,I1,⟨t,?_⟩,⟨rfl,rfl⟩,st',fun b hb=>(hf b hb).1⟩⟩
    rw [Int.mul_one]
  done:=by
    intro X hP hw hK hc i pins s σ H E I hf st hg
    subst hP hw hK
    obtain ⟨f0,f1,f2,f3,f4,f5⟩:=hf it (by simp)
    exact wpAny_pyNext_range_end (I.ok.hd hc) st (by have:n≤i:=hg;omega) fun h' eb=>⟨rfl,I.turned (t':=s.toks) (fun b o hb e=>eb b o hb e) f0 f1 f3 f4 f5⟩
  self:=fun _ _ _ _ _ st h=>wpAny_pyIter_rangeiter st h
end L2
namespace L2
open PySem PySem.Spec PyProof.Rows
section
variable {X:Cx} {tg:Expr}
def W6 (K:PySem.W.Frag) (tl:TE):TI:=fun σ H R=>tl σ H fun x H1=>∃ a,x=.ref a∧(∃ xs,SqL K H1 a xs)∧R (Itl K a) H1
theorem bO {l:Expr} {tl:TE} (hl:PE X l tl):PI X tg l (W6 X.K tl):=by
  intro pins s σ H R I h
  refine thn (hl pins s σ H _ I h) fun v s1 ⟨x,H1,I1,r1,q1⟩=>?_
  obtain ⟨a,e,⟨xs,hq⟩,q⟩:=q1
  subst e
  cases r1
  obtain ⟨its,rv,p,hz⟩:=I1.list hq
  refine wpAny_pyIter_list p.isList ?_
  refine ⟨s1.heap.objs.size,[s1.heap.objs.size],_,_,H1,rfl,I1.kept (t':=s1.toks) fun b o e=>Heap.get?_push_of_some _ e,Ae a _,⟨_,Heap.get?_push_size _ rfl,rfl,rfl⟩,fun b hb=>?_,q⟩
  have e:b=s1.heap.objs.size:=by simpa using hb
  subst e
  exact I1.zR (Nat.le_refl _) (I1.hok.fresh (Nat.le_refl _))
theorem Em {pins:List (Addr × Obj)} {σ:St} {H:Hp} {s:Shared} {R:It→Hp→Prop} {E:Value→Shared→Prop} {lo hi:Int} {t u v:Tok} {tk:Nat} (I:Inv X pins σ H s) (h1:-(2 ^ 62)≤lo) (h2:lo<2 ^ 62) (h3:-(2 ^ 62)≤hi) (h4:hi<2 ^ 62)
    (q:R (Itr lo (hi - lo).toNat) H):wpAny (model X.prog X.w) X.A (pyIter (.ref s.heap.objs.size)) (PIE X pins σ tg R) E { s with heap:=s.heap.push { cls:=.type "range",data:=.fields #[.int lo t,.int hi u,.int 1 v] },toks:=tk }:=by
  refine wpAny_pyIter_range (IsRange.new ..) (small_one h1 h2 h3 h4) ?_
  have I1:Inv X pins σ H { s with heap:=s.heap.push { cls:=.type "range",data:=.fields #[.int lo t,.int hi u,.int 1 v] },toks:=tk }:=I.kept fun b o e=>Heap.get?_push_of_some _ e
  refine ⟨(s.heap.push { cls:=.type "range",data:=.fields #[.int lo t,.int hi u,.int 1 v] }).objs.size,[(s.heap.push { cls:=.type "range",data:=.fields #[.int lo t,.int hi u,.int 1 v] }).objs.size],_,_,H,rfl,
    I1.kept (t':=tk) fun b o e=>Heap.get?_push_of_some _ e,zm _ lo (hi - lo).toNat,?_,fun b hb=>?_,q⟩
  · have e1:lo + ((0:Nat):Int) * 1=lo:=by simp
    have e2:(((hi - lo).toNat:Nat):Int) - ((0:Nat):Int)=Builtin.Range.rangeSize lo hi 1:=by rw [rangeSize_one];split <;> omega
    show IsRangeIter _ _ (lo + ((0:Nat):Int) * 1) ((((hi - lo).toNat:Nat):Int) - ((0:Nat):Int)) 1
    rw [e1,e2]
    exact Heap.get?_push_size _ rfl
  · have e:b=(s.heap.push { cls:=.type "range",data:=.fields #[.int lo t,.int hi u,.int 1 v] }).objs.size:=by simpa using hb
    subst e
    exact I1.zR (Nat.le_refl _) (I1.hok.fresh (Nat.le_refl _))
def W5 (ta:TA):TI:=fun σ H R=>ta σ H fun vs H1=>∃ j:Int,vs=[.int j]∧-(2 ^ 62)≤j∧j<2 ^ 62∧R (Itr 0 j.toNat) H1
theorem bW {a:Expr} {ta:TA} {p pos:Pos} (hg:Gl X "range") (hm:X.mg "range"=none) (ha:PA X [a] ta) (hs:starEach [a] X.env=[(false,eval a X.env)]:=by rfl):PI X tg (.Call (.Name "range" p) [a] [] pos) (W5 ta):=by
  intro pins s σ H R I h
  refine Call_ (lW I hg hm boot_range (PyProof.Rows.callWith_type1 (thn (ha pos pins s σ H _ I h) fun us s1 ⟨vs,H1,I1,r1,q1⟩=>?_) hs rfl))
  obtain ⟨j,e,q1,q2,q⟩:=q1
  subst e
  cases r1 with
  | cons r rr =>
    cases rr
    obtain ⟨t,rfl⟩:=r
    exact call_range_1 (Em I1 (by omega) (by omega) q1 q2 (by simpa using q))
def gK (wi:TI) (g:TG) (tb:TS):TS:=fun D σ H=>wi σ H fun J H1=>∃ W:Nat→Nat→St→Hp→Prop,(∃ m,W 0 m σ H1)∧∀ i m σ H,W i m σ H →
  (J.stop i H∧D.nx σ H)∨(J.go i H∧∃ N:St→Hp→Prop,(∀ σ' H',N σ' H'→∃ m',m'<m∧W (i + 1) m' σ' H')∧∀ x H',J.yld i H x H'→g x σ H' fun σ2 H2=>tb { D with nx:=N,ct:=N,bk:=D.nx } σ2 H2)
def uY (fp:List Addr) (h:Heap):List (Addr × Obj):=fp.filterMap fun b=>(h.get? b).map fun o=>(b,o)
theorem mY {fp:List Addr} {h:Heap} {b:Addr} {o:Obj} (hb:b∈fp) (e:h.get? b=some o):(b,o)∈uY fp h:=List.mem_filterMap.mpr ⟨b,hb,by rw [e];rfl⟩
theorem BW {fp:List Addr} {h:Heap} {p:Addr × Obj} (hp:p∈uY fp h):p.1∈fp∧h.get? p.1=some p.2:=by
  obtain ⟨b,hb,e⟩:=List.mem_filterMap.mp hp
  cases q:h.get? b with
  | none=>rw [q] at e;cases e
  | some o =>
    rw [q] at e
    have e':(b,o)=p:=Option.some.inj e
    subst e'
    exact ⟨hb,q⟩
theorem Inv.pinned {pins:List (Addr × Obj)} {σ:St} {H:Hp} {s:Shared} {fp:List Addr} (I:Inv X pins σ H s) (hf:∀ b∈fp,wg X pins H b) (ho:∀ b∈fp,∃ o,s.heap.get? b=some o∧∀ v,o.data≠.cell v):Inv X (pins++uY fp s.heap) σ H s :=
  I.wI fun p hp=>(List.mem_append.mp hp).elim (fun z=>I.pin p (List.mem_append_right _ z)) fun z=>by
    obtain ⟨hb,e⟩:=BW z
    obtain ⟨f0,f1,f2,_⟩:=hf p.1 hb
    obtain ⟨o,e',d⟩:=ho p.1 hb
    rw [e] at e';cases e'
    exact ⟨e,f0,f1,f2,d⟩
theorem Inv.jE {pins pl:List (Addr × Obj)} {σ:St} {H:Hp} {s:Shared} (I:Inv X (pins++pl) σ H s):Inv X pins σ H s:=I.wI fun p hp=>I.pin p (List.mem_append_right _ (List.mem_append_left _ hp))
theorem cP {iter:Expr} {body:List Stmt} {wi:TI} {g:TG} {tb:TS} {pos:Pos} (hp:PassesOwn (model X.prog X.w) X.A X.env X.xe) (hc:X.calm=true) (hi:PI X tg iter wi) (hg:PG X tg g) (hb:PSs X body tb)
    (hs:∀ x,foldedSetIterable iter X.env x=pure x:=by intro _;rfl):PS X (.For tg iter body [] pos) (gK wi g tb):=by
  intro pins s σ H D I h
  refine wpAny_For (thn (hi pins s σ H _ I h) fun v s1 h1=>thn h1 fun itv s2 h2=>?_) hs
  obtain ⟨it,fp,tn,J,H2,e,I2,T,st2,f2,W,⟨m0,w0⟩,turn⟩:=h2
  subst e
  have stat:∀ {H':Hp},(∀ b∈fp,H' b=none)→∀ b∈fp,wg X pins H' b:=fun hn b hb=>⟨hn b hb,(f2 b hb).2⟩
  refine codeAny_forLoop_any (fun n s'=>∃ i σ' H',Inv X pins σ' H' s'∧tn i s'.heap∧(∀ b∈fp,H' b=none)∧W i n σ' H') ?_ m0 ⟨0,σ,H2,I2,st2,fun b hb=>(f2 b hb).1,w0⟩
  rintro n s3 ⟨i,σ3,H3,I3,st3,fr3,w3⟩
  rcases turn i n σ3 H3 w3 with ⟨stop,qn⟩ | ⟨go,N,hN,step⟩
  · refine wpAny_passesOwn hp (thn (T.done X rfl rfl rfl hc i pins s3 σ3 H3 X.xe I3 (stat fr3) st3 stop) fun r s4 ⟨hr,I4⟩=>?_)
    subst hr
    exact wpAny_execs_nil ⟨σ3,H3,I4,qn⟩
  · refine wpAny_passesOwn hp (thn (T.item X rfl rfl rfl hc i pins s3 σ3 H3 X.xe I3 (stat fr3) st3 go) fun r s4 ⟨u,hr,h4⟩=>?_)
    subst hr
    refine wpAny_passesOwn hp (thn h4 fun _ s5 ⟨x,H5,I5,r5,y5,st5,fr5⟩=>?_)
    have I5':=I5.pinned (stat fr5) (T.obj _ _ st5)
    refine wpAny_passesOwn hp (thn (hg _ s5 σ3 H5 x u _ I5' r5 (step x H5 y5)) fun _ s6 ⟨σ6,H6,I6,q6⟩=>?_)
    refine wpAny_passesOwn hp (thn (hb _ s6 σ6 H6 _ I6 q6) fun f s7 q7=>?_)
    have again:∀ {σ7:St} {H7:Hp},Inv X (pins++uY fp s5.heap) σ7 H7 s7→N σ7 H7→∃ m,m<n∧∃ i σ' H',Inv X pins σ' H' s7∧tn i s7.heap∧(∀ b∈fp,H' b=none)∧W i m σ' H':=fun {σ7 H7} I7 n7=>by
      obtain ⟨m',hm,w7⟩:=hN σ7 H7 n7
      refine ⟨m',hm,i + 1,σ7,H7,I7.jE,T.keep _ _ _ st5 fun b hb o e=>(I7.pin (b,o) (List.mem_append_right _ (List.mem_append_right _ (mY hb e)))).1,fun b hb=>?_,w7⟩
      obtain ⟨o,e,d⟩:=T.obj _ _ st5 b hb
      exact (I7.pin (b,o) (List.mem_append_right _ (List.mem_append_right _ (mY hb e)))).2.1
    cases f with
    | next=>obtain ⟨σ7,H7,I7,n7⟩:=q7;exact again I7 n7
    | cont=>obtain ⟨σ7,H7,I7,n7⟩:=q7;exact again I7 n7
    | brk=>obtain ⟨σ7,H7,I7,q7⟩:=q7;exact ⟨σ7,H7,I7.jE,q7⟩
    | ret v=>obtain ⟨x7,σ7,H7,I7,r7,q7⟩:=q7;exact ⟨x7,σ7,H7,I7.jE,r7,q7⟩
end
theorem cW {K:PySem.W.Frag} {a:Addr} {xs:List V} {g:TG} {tb:TS} {D:Ends} {σ:St} {H:Hp} (Pv:Nat→St→Hp→Prop) (h0:Pv 0 σ H) (hl:∀ i σ H,i≤xs.length→Pv i σ H→SqL K H a xs)
    (hs:∀ i x σ H,xs[i]?=some x→Pv i σ H→g x σ H fun σ2 H2=>tb { D with nx:=Pv (i + 1),ct:=Pv (i + 1),bk:=D.nx } σ2 H2) (hd:∀ σ H,Pv xs.length σ H→D.nx σ H) :
    ∃ W:Nat→Nat→St→Hp→Prop,(∃ m,W 0 m σ H)∧∀ i m σ H,W i m σ H →
      ((Itl K a).stop i H∧D.nx σ H)∨((Itl K a).go i H∧∃ N:St→Hp→Prop,(∀ σ' H',N σ' H'→∃ m',m'<m∧W (i + 1) m' σ' H')∧∀ x H',(Itl K a).yld i H x H'→g x σ H' fun σ2 H2=>tb { D with nx:=N,ct:=N,bk:=D.nx } σ2 H2):=by
  refine ⟨fun i m σ H=>m=xs.length - i∧i≤xs.length∧Pv i σ H,⟨xs.length,by simp,Nat.zero_le _,h0⟩,?_⟩
  rintro i m σ H ⟨rfl,hi,p⟩
  have q:=hl i σ H hi p
  by_cases hlt:i<xs.length
  · refine .inr ⟨⟨xs,xs[i],q,by simp [hlt]⟩,Pv (i + 1),fun σ' H' p'=>⟨xs.length - (i + 1),by omega,rfl,hlt,p'⟩,fun x H' y=>?_⟩
    obtain ⟨e,y⟩:=y
    subst e
    exact hs i x σ _ (y xs q) p
  · have e:i=xs.length:=by omega
    subst e
    exact .inl ⟨⟨xs,q,Nat.le_refl _⟩,hd σ H p⟩
theorem gG {lo:Int} {n:Nat} {g:TG} {tb:TS} {D:Ends} {σ:St} {H:Hp} (Pv:Nat→St→Hp→Prop) (h0:Pv 0 σ H)
    (hs:∀ i σ H,i<n→Pv i σ H→g (.int (lo + i)) σ H fun σ2 H2=>tb { D with nx:=Pv (i + 1),ct:=Pv (i + 1),bk:=D.nx } σ2 H2) (hd:∀ σ H,Pv n σ H→D.nx σ H) :
    ∃ W:Nat→Nat→St→Hp→Prop,(∃ m,W 0 m σ H)∧∀ i m σ H,W i m σ H →
      ((Itr lo n).stop i H∧D.nx σ H)∨((Itr lo n).go i H∧∃ N:St→Hp→Prop,(∀ σ' H',N σ' H'→∃ m',m'<m∧W (i + 1) m' σ' H')∧∀ x H',(Itr lo n).yld i H x H'→g x σ H' fun σ2 H2=>tb { D with nx:=N,ct:=N,bk:=D.nx } σ2 H2):=by
  refine ⟨fun i m σ H=>m=n - i∧i≤n∧Pv i σ H,⟨n,by simp,Nat.zero_le _,h0⟩,?_⟩
  rintro i m σ H ⟨rfl,hi,p⟩
  by_cases hlt:i<n
  · refine .inr ⟨hlt,Pv (i + 1),fun σ' H' p'=>⟨n - (i + 1),by omega,rfl,hlt,p'⟩,fun x H' y=>?_⟩
    obtain ⟨e,y⟩:=y
    subst e y
    exact hs i σ _ hlt p
  · have e:i=n:=by omega
    subst e
    exact .inl ⟨Nat.le_refl _,hd σ H p⟩
end L2
namespace L2
open PySem PySem.Spec PyProof.Rows
abbrev R2:=V→V→Hp→VK→Prop
def OpR (X:Cx) (f:Value→Value→Sem Value) (r:R2):Prop :=
  ∀ (pins:List (Addr × Obj)) (s:Shared) (σ:St) (H:Hp) (x y:V) (v u:Value) (Q:VK),Inv X pins σ H s→RelV x v→RelV y u→r x y H Q →
    wpAny (model X.prog X.w) X.A (f v u) (EP X pins σ Q) X.xe s
def UnR (X:Cx) (f:Value→Sem Value) (r:V→Hp→VK→Prop):Prop :=
  ∀ (pins:List (Addr × Obj)) (s:Shared) (σ:St) (H:Hp) (x:V) (v:Value) (Q:VK),Inv X pins σ H s→RelV x v→r x H Q →
    wpAny (model X.prog X.w) X.A (f v) (EP X pins σ Q) X.xe s
def pJ (X:Cx) (f:Value) (r:List V→Hp→VK→Prop):Prop :=
  ∀ (pins:List (Addr × Obj)) (s:Shared) (σ:St) (H:Hp) (xs:List V) (us:List Value) (Q:VK),Inv X pins σ H s→Vals xs us→r xs H Q →
    wpAny (model X.prog X.w) X.A (call f us) (EP X pins σ Q) X.xe s
def TruR (X:Cx) (r:V→Hp→(Bool→Hp→Prop)→Prop):Prop :=
  ∀ (pins:List (Addr × Obj)) (s:Shared) (σ:St) (H:Hp) (x:V) (v:Value) (Q:Bool→Hp→Prop),Inv X pins σ H s→RelV x v→r x H Q →
    wpAny (model X.prog X.w) X.A (truthy v) (TP X pins σ Q) X.xe s
def tOp (r:R2) (ta tb:TE):TE:=fun σ H Q=>ta σ H fun x H1=>tb σ H1 fun y H2=>r x y H2 Q
def tUn (r:V→Hp→VK→Prop) (ta:TE):TE:=fun σ H Q=>ta σ H fun x H1=>r x H1 Q
def rI (C:Int→Int→Prop) (g:Int→Int→V):R2:=fun x y H Q=>∃ i j,x=.int i∧y=.int j∧C i j∧Q (g i j) H
def rI0 (g:Int→Int→V):R2:=fun x y H Q=>∃ i j,x=.int i∧y=.int j∧Q (g i j) H
def rU (g:Int→V):V→Hp→VK→Prop:=fun x H Q=>∃ i,x=.int i∧Q (g i) H
section
variable {X:Cx} {a b c:Expr} {ta tb tc:TE} {pos:Pos}
theorem Ym (ha:PE X a ta) (hb:PE X b tb) {pins:List (Addr × Obj)} {s:Shared} {σ:St} {H:Hp} {R:V→V→Hp→Prop} (I:Inv X pins σ H s)
    (h:ta σ H fun x H1=>tb σ H1 fun y H2=>R x y H2) {Q:Value→Shared→Prop} {f:Value→Value→Sem Value}
    (hf:∀ v u s2 x y H2,Inv X pins σ H2 s2→RelV x v→RelV y u→R x y H2→wpAny (model X.prog X.w) X.A (f v u) Q X.xe s2) :
    wpAny (model X.prog X.w) X.A (eval a X.env) (fun v s₁=>wpAny (model X.prog X.w) X.A (eval b X.env) (fun u s₂=>wpAny (model X.prog X.w) X.A (f v u) Q X.xe s₂) X.xe s₁) X.xe s:=by
  refine thn (ha pins s σ H _ I h) fun v s1 ⟨x,H1,I1,r1,q1⟩=>?_
  refine thn (hb pins s1 σ H1 _ I1 q1) fun u s2 ⟨y,H2,I2,r2,q2⟩=>?_
  exact hf v u s2 x y H2 I2 r1 r2 q2
theorem aQ {op:Operator} {r:R2} (ho:OpR X (binaryOp op) r) (ha:PE X a ta) (hb:PE X b tb):PE X (.BinOp a op b pos) (tOp r ta tb):=by
  intro pins s σ H Q I h
  exact wpAny_BinOp (Ym ha hb I h fun v u s2 x y H2 I2 rx ry q=>ho pins s2 σ H2 x y v u Q I2 rx ry q)
theorem lY {op:UnaryOp} {r:V→Hp→VK→Prop} (ho:UnR X (unaryOp op) r) (ha:PE X a ta):PE X (.UnaryOp op a pos) (tUn r ta):=by
  intro pins s σ H Q I h
  exact UnaryOp_ (thn (ha pins s σ H _ I h) fun v s1 ⟨x,H1,I1,r1,q1⟩=>ho pins s1 σ H1 x v Q I1 r1 q1)
theorem opI {f:Value→Value→Sem Value} {C:Int→Int→Prop} {g:Int→Int→Int}
    (rule:∀ (i j:Int) (t u:Tok) (s:Shared) (Q:Value→Shared→Prop) (E:Value→Shared→Prop),C i j→Q (.int (g i j) s.toks) { s with toks:=s.toks + 1 }→wpAny (model X.prog X.w) X.A (f (.int i t) (.int j u)) Q E s) :
    OpR X f (rI C fun i j=>.int (g i j)):=by
  intro pins s σ H x y v u Q I rx ry h
  obtain ⟨i,j,rfl,rfl,hc,q⟩:=h
  obtain ⟨t,rfl⟩:=rx
  obtain ⟨t',rfl⟩:=ry
  exact rule i j t t' s _ _ hc ⟨.int (g i j),H,I.tok _,⟨_,rfl⟩,q⟩
theorem YC {f:Value→Value→Sem Value} {g:Int→Int→Int}
    (rule:∀ (i j:Int) (t u:Tok) (s:Shared) (Q:Value→Shared→Prop) (E:Value→Shared→Prop),Q (.int (g i j) s.toks) { s with toks:=s.toks + 1 }→wpAny (model X.prog X.w) X.A (f (.int i t) (.int j u)) Q E s) :
    OpR X f (rI0 fun i j=>.int (g i j)):=by
  intro pins s σ H x y v u Q I rx ry h
  obtain ⟨i,j,rfl,rfl,q⟩:=h
  obtain ⟨t,rfl⟩:=rx
  obtain ⟨t',rfl⟩:=ry
  exact rule i j t t' s _ _ ⟨.int (g i j),H,I.tok _,⟨_,rfl⟩,q⟩
theorem VF {f:Value→Value→Sem Value} {g:Int→Int→Bool}
    (rule:∀ (i j:Int) (t u:Tok) (s:Shared) (Q:Value→Shared→Prop) (E:Value→Shared→Prop),Q (.bool (g i j)) s→wpAny (model X.prog X.w) X.A (f (.int i t) (.int j u)) Q E s) :
    OpR X f (rI0 fun i j=>.bl (g i j)):=by
  intro pins s σ H x y v u Q I rx ry h
  obtain ⟨i,j,rfl,rfl,q⟩:=h
  obtain ⟨t,rfl⟩:=rx
  obtain ⟨t',rfl⟩:=ry
  exact rule i j t t' s _ _ ⟨.bl (g i j),H,I,rfl,q⟩
def CDiv (i j:Int):Prop:=0<j∧j<1073741824
def CPow (i j:Int):Prop:=0≤j∧j≤1000000∧i.natAbs<2 ^ 64
def Yr (i j:Int):Prop:=(-(2 ^ 64)<i∧i<2 ^ 64)∨(-(2 ^ 64)<j∧j<2 ^ 64)
theorem Yr.ok {i j:Int} (h:Yr i j):IntMulOk i j:=by
  rcases h with ⟨h1,h2⟩ | ⟨h1,h2⟩
  · exact .of_left (intBits_le_64 h1 h2)
  · exact .of_right (intBits_le_64 h1 h2)
theorem cQ:OpR X (binaryOp .Add) (rI0 fun i j=>.int (i + j)):=YC fun _ _ _ _ _ _ _ q=>add_int q
theorem nu:OpR X (binaryOp .Sub) (rI0 fun i j=>.int (i - j)):=YC fun _ _ _ _ _ _ _ q=>sub_int q
theorem jW:OpR X (binaryOp .Mult) (rI Yr fun i j=>.int (i * j)):=opI fun _ _ _ _ _ _ _ hc q=>mul_int q hc.ok
theorem d8:OpR X (binaryOp .FloorDiv) (rI CDiv fun i j=>.int (i / j)):=opI fun i j _ _ _ _ _ hc q=>by
  have h1:(0:Int)<j:=hc.1
  have h2:j<1073741824:=hc.2
  exact floordiv_int (by omega) (by rw [Int.fdiv_eq_ediv_of_nonneg i (by omega)];exact q) (.inl (PyProof.noPylong_small (by omega)))
theorem bU:OpR X (binaryOp .Mod) (rI (fun _ j=>0<j) fun i j=>.int (i % j)):=opI fun i j _ _ _ _ _ hc q=>by
  have h1:(0:Int)<j:=hc
  exact mod_int' (by omega) (by rw [Int.fmod_eq_emod_of_nonneg i (by omega)];exact q)
theorem yE:OpR X (binaryOp .Pow) (rI CPow fun i j=>.int (i ^ j.toNat)):=opI fun _ _ _ _ _ _ _ hc q=>pow_int_small hc.1 hc.2.1 hc.2.2 q
theorem unI {f:Value→Sem Value} {g:Int→Int}
    (rule:∀ (i:Int) (t:Tok) (s:Shared) (Q:Value→Shared→Prop) (E:Value→Shared→Prop),Q (.int (g i) s.toks) { s with toks:=s.toks + 1 }→wpAny (model X.prog X.w) X.A (f (.int i t)) Q E s) :
    UnR X f (rU fun i=>.int (g i)):=by
  intro pins s σ H x v Q I rx h
  obtain ⟨i,rfl,q⟩:=h
  obtain ⟨t,rfl⟩:=rx
  exact rule i t s _ _ ⟨.int (g i),H,I.tok _,⟨_,rfl⟩,q⟩
theorem jo:UnR X (unaryOp .USub) (rU fun i=>.int (-i)):=unI fun _ _ _ _ _ q=>neg_int q
end
def Yv:V→V→Bool
  | .non,.non=>true | .non,.int _=>true | .int _,.non=>true | .non,.bl _=>true | .bl _,.non=>true | .non,.str _=>true | .str _,.non=>true
  | .int _,.int _=>true | .bl _,.bl _=>true | .str _,.str _=>true | .byt _,.byt _=>true
  | .int _,.str _=>true | .str _,.int _=>true | .bl _,.str _=>true | .str _,.bl _=>true
  | _,_=>false
def rEq:R2:=fun x y H Q=>Yv x y=true∧Q (.bl (decide (x=y))) H
def rNe:R2:=fun x y H Q=>Yv x y=true∧Q (.bl (!decide (x=y))) H
theorem CT {i j:Int}:decide (V.int i=V.int j)=(i == j):=by
  rw [Bool.eq_iff_iff]
  simp
theorem Ng {i j:Bool}:decide (V.bl i=V.bl j)=(i == j):=by
  rw [Bool.eq_iff_iff]
  simp
theorem CQ {i j:Str}:decide (V.str i=V.str j)=(i == j):=by
  rw [Bool.eq_iff_iff]
  simp
theorem CV {i j:Array UInt8}:decide (V.byt i=V.byt j)=(i.toList == j.toList):=by
  rw [Bool.eq_iff_iff]
  cases i
  cases j
  simp
section
variable {X:Cx} {a b c:Expr} {ta tb tc:TE} {pos:Pos}
theorem dz {pins:List (Addr × Obj)} {σ:St} {H:Hp} {s:Shared} {Q:VK} {k k':Bool} (I:Inv X pins σ H s) (q:Q (.bl k) H) (e:k=k'):EP X pins σ Q (.bool k') s:=by
  subst e
  exact ⟨.bl k,H,I,rfl,q⟩
theorem jB:OpR X (compareOp .Eq) rEq:=by
  intro pins s σ H x y v u Q I rx ry h
  obtain ⟨hs,q⟩:=h
  cases x with
  | non =>
    cases rx
    cases y with
    | non=>cases ry;exact PySem.EqNone.eq_none_none (dz I q (by simp))
    | bl j=>cases ry;exact PySem.EqNone.eq_none_bool (dz I q (by simp))
    | int j=>obtain ⟨t',rfl⟩:=ry;exact PySem.EqNone.eq_none_int (dz I q (by simp))
    | str j=>obtain ⟨t',rfl⟩:=ry;exact PySem.EqNone.eq_none_str (dz I q (by simp))
    | _=>exact absurd (show false=true from hs) Bool.false_ne_true
  | bl i =>
    cases rx
    cases y with
    | non=>cases ry;exact PySem.EqNone.eq_bool_none (dz I q (by simp))
    | bl j=>cases ry;exact eq_bool (dz I q Ng)
    | str j=>obtain ⟨t',rfl⟩:=ry;exact PySem.EqMixed.eq_bool_str (dz I q (by simp))
    | _=>exact absurd (show false=true from hs) Bool.false_ne_true
  | int i =>
    obtain ⟨t,rfl⟩:=rx
    cases y with
    | non=>cases ry;exact PySem.EqNone.eq_int_none (dz I q (by simp))
    | int j=>obtain ⟨t',rfl⟩:=ry;exact eq_int (dz I q CT)
    | str j=>obtain ⟨t',rfl⟩:=ry;exact PySem.EqMixed.eq_int_str (dz I q (by simp))
    | _=>exact absurd (show false=true from hs) Bool.false_ne_true
  | str i =>
    obtain ⟨t,rfl⟩:=rx
    cases y with
    | non=>cases ry;exact PySem.EqNone.eq_str_none (dz I q (by simp))
    | bl j=>cases ry;exact PySem.EqMixed.eq_str_bool (dz I q (by simp))
    | int j=>obtain ⟨t',rfl⟩:=ry;exact PySem.EqMixed.eq_str_int (dz I q (by simp))
    | str j=>obtain ⟨t',rfl⟩:=ry;exact eq_str (dz I q CQ)
    | _=>exact absurd (show false=true from hs) Bool.false_ne_true
  | byt i =>
    obtain ⟨t,rfl⟩:=rx
    cases y with
    | byt j=>obtain ⟨t',rfl⟩:=ry;exact PySem.W.eq_bytes (dz I q CV)
    | _=>exact absurd (show false=true from hs) Bool.false_ne_true
  | _=>cases y <;> exact absurd (show false=true from hs) Bool.false_ne_true
theorem tu:OpR X (compareOp .NotEq) rNe:=by
  intro pins s σ H x y v u Q I rx ry h
  obtain ⟨hs,q⟩:=h
  cases x with
  | non =>
    cases rx
    cases y with
    | non=>cases ry;exact PySem.EqNone.ne_none_none (dz I q (by simp))
    | bl j=>cases ry;exact PySem.EqNone.ne_none_bool (dz I q (by simp))
    | int j=>obtain ⟨t',rfl⟩:=ry;exact PySem.EqNone.ne_none_int (dz I q (by simp))
    | str j=>obtain ⟨t',rfl⟩:=ry;exact PySem.EqNone.ne_none_str (dz I q (by simp))
    | _=>exact absurd (show false=true from hs) Bool.false_ne_true
  | bl i =>
    cases rx
    cases y with
    | non=>cases ry;exact PySem.EqNone.ne_bool_none (dz I q (by simp))
    | bl j=>cases ry;exact ne_bool (dz I q (congrArg not Ng))
    | str j=>obtain ⟨t',rfl⟩:=ry;exact PySem.EqMixed.ne_bool_str (dz I q (by simp))
    | _=>exact absurd (show false=true from hs) Bool.false_ne_true
  | int i =>
    obtain ⟨t,rfl⟩:=rx
    cases y with
    | non=>cases ry;exact PySem.EqNone.ne_int_none (dz I q (by simp))
    | int j=>obtain ⟨t',rfl⟩:=ry;exact ne_int (dz I q (congrArg not CT))
    | str j=>obtain ⟨t',rfl⟩:=ry;exact PySem.EqMixed.ne_int_str (dz I q (by simp))
    | _=>exact absurd (show false=true from hs) Bool.false_ne_true
  | str i =>
    obtain ⟨t,rfl⟩:=rx
    cases y with
    | non=>cases ry;exact PySem.EqNone.ne_str_none (dz I q (by simp))
    | bl j=>cases ry;exact PySem.EqMixed.ne_str_bool (dz I q (by simp))
    | int j=>obtain ⟨t',rfl⟩:=ry;exact PySem.EqMixed.ne_str_int (dz I q (by simp))
    | str j=>obtain ⟨t',rfl⟩:=ry;exact ne_str (dz I q (congrArg not CQ))
    | _=>exact absurd (show false=true from hs) Bool.false_ne_true
  | byt i =>
    obtain ⟨t,rfl⟩:=rx
    cases y with
    | byt j=>obtain ⟨t',rfl⟩:=ry;exact PySem.W.ne_bytes (dz I q (congrArg not CV))
    | _=>exact absurd (show false=true from hs) Bool.false_ne_true
  | _=>cases y <;> exact absurd (show false=true from hs) Bool.false_ne_true
theorem zB:OpR X (compareOp .Lt) (rI0 fun i j=>.bl (decide (i<j))):=VF fun _ _ _ _ _ _ _ q=>lt_int q
theorem NP:OpR X (compareOp .LtE) (rI0 fun i j=>.bl (decide (i≤j))):=VF fun _ _ _ _ _ _ _ q=>le_int q
theorem wL:OpR X (compareOp .Gt) (rI0 fun i j=>.bl (decide (j<i))):=VF fun _ _ _ _ _ _ _ q=>gt_int q
theorem Qv:OpR X (compareOp .GtE) (rI0 fun i j=>.bl (decide (j≤i))):=VF fun _ _ _ _ _ _ _ q=>ge_int q
theorem bw (b:Expr) {op:CmpOp} (h:op≠.In:=by decide) (h2:op≠.NotIn:=by decide):behindInMarks op b=false:=by
  have e1:(op == CmpOp.In)=false:=by cases op <;> first | rfl | exact absurd rfl h
  have e2:(op == CmpOp.NotIn)=false:=by cases op <;> first | rfl | exact absurd rfl h2
  cases b <;> simp [behindInMarks,e1,e2]
theorem mj {op:CmpOp} {r:R2} (ho:OpR X (compareOp op) r) (ha:PE X a ta) (hb:PE X b tb) (hm:behindInMarks op b=false):PE X (.Compare a [op] [b] pos) (tOp r ta tb):=by
  intro pins s σ H Q I h
  exact wpAny_Compare1 (Ym ha hb I h fun v u s2 x y H2 I2 rx ry q=>ho pins s2 σ H2 x y v u Q I2 rx ry q) hm
def PB (t:TE):TT:=fun σ H Q=>t σ H fun x H'=>∃ k,x=.bl k∧Q k H'
theorem aW {op:CmpOp} {r:R2} (ho:OpR X (compareOp op) r) (ha:PE X a ta) (hb:PE X b tb) (hm:behindInMarks op b=false):PT X (.Compare a [op] [b] pos) (PB (tOp r ta tb)):=by
  intro pins s σ H Q I h
  refine wpAny_isTrue_Compare1 (thn (ha pins s σ H _ I h) fun v s1 ⟨x,H1,I1,r1,q1⟩=>thn (hb pins s1 σ H1 _ I1 q1) fun u s2 ⟨y,H2,I2,r2,q2⟩ =>
    thn (ho pins s2 σ H2 x y v u _ I2 r1 r2 q2) fun c s3 ⟨z,H3,I3,r3,k,e,q3⟩=>?_) hm
  subst e
  cases r3
  exact wpAny_truthy_bool ⟨H3,I3,q3⟩
def PL (r r':R2) (ta tb tc:TE):TE:=fun σ H Q=>ta σ H fun x H1=>tb σ H1 fun y H2=>r x y H2 fun z H3=>∃ k,z=.bl k ∧
  (if k=true then tc σ H3 fun w' H4=>r' y w' H4 Q else Q (.bl false) H3)
theorem yD {op op':CmpOp} {r r':R2} (ho:OpR X (compareOp op) r) (ho':OpR X (compareOp op') r') (ha:PE X a ta) (hb:PE X b tb) (hc:PE X c tc)
    (hm:lastMarks [op,op'] [b,c]=false:=by with_unfolding_all rfl):PT X (.Compare a [op,op'] [b,c] pos) (PB (PL r r' ta tb tc)):=by
  intro pins s σ H Q I h
  refine isTrue_chain (thn (ha pins s σ H _ I h) fun v s1 ⟨x,H1,I1,r1,q1⟩=>test_link (thn (hb pins s1 σ H1 _ I1 q1) fun u s2 ⟨y,H2,I2,r2,q2⟩ =>
    thn (ho pins s2 σ H2 x y v u _ I2 r1 r2 q2) fun d s3 ⟨z,H3,I3,r3,k,e,q3⟩=>?_)) hm
  subst e
  cases r3
  refine wpAny_truthy_bool ?_
  cases k with
  | false =>
    obtain ⟨k',e',q'⟩:=q3
    cases e'
    exact ite_ff ⟨H3,I3,q'⟩
  | true =>
    refine ite_tt (test_last (thn (hc pins s3 σ H3 _ I3 q3) fun w' s4 ⟨z',H4,I4,r4,q4⟩=>thn (ho' pins s4 σ H4 y z' u w' _ I4 r2 r4 q4) fun d' s5 ⟨z2,H5,I5,r5,k2,e2,q5⟩=>?_))
    subst e2
    cases r5
    exact wpAny_truthy_bool ⟨H5,I5,q5⟩
def YW (K:PySem.W.Frag) (x:V) (H:Hp) (k:Bool):Prop :=
  match x with
  | .non=>k=false
  | .bl b=>k=b
  | .int i=>k=(i != 0)
  | .str y=>y.length≤sizeLine∧k=((y.length:Int) != 0)
  | .byt y=>y.size≤sizeLine∧k=((y.size:Int) != 0)
  | .ref p=>(∃ xs,SqL K H p xs∧k=!xs.isEmpty)∨(∃ xs,SqT K H p xs∧k=!xs.isEmpty)∨∃ kvs,H p=some (.dK kvs)∧k=!kvs.isEmpty
  | _=>False
theorem zK {κ:Type} {kvs:List (κ × V)} {vs:List (κ × Value)} (r:KV kvs vs):(!vs.isEmpty)=!kvs.isEmpty:=by
  cases r <;> rfl
theorem rJ {xs:List V} {its:List Value} (r:Vals xs its):(!its.toArray.isEmpty)=!xs.isEmpty:=by
  cases r <;> simp
theorem qy:(sizeLine:Nat)<2 ^ 63:=by rw [sizeLine_eq];decide
theorem Py:TruR X (fun x H Q=>∃ k,YW X.K x H k∧Q k H):=by
  intro pins s σ H x v Q I rx h
  obtain ⟨k,e,q⟩:=h
  have hl:=qy
  have hs:sizeLine=16777216:=sizeLine_eq
  cases x with
  | non =>
    cases rx
    have e':k=false:=e
    subst e'
    exact truthy_none ⟨H,I,q⟩
  | bl b =>
    cases rx
    have e':k=b:=e
    subst e'
    exact wpAny_truthy_bool ⟨H,I,q⟩
  | int i =>
    obtain ⟨t,rfl⟩:=rx
    have e':k=(i != 0):=e
    subst e'
    exact PySem.P.truthy_int ⟨H,I,q⟩
  | str y =>
    obtain ⟨t,rfl⟩:=rx
    obtain ⟨hy,e'⟩:y.length≤sizeLine∧k=((y.length:Int) != 0):=e
    subst e'
    exact PySem.P.truthy_str (by omega) ⟨H,I.tok _,q⟩
  | byt y =>
    obtain ⟨t,rfl⟩:=rx
    obtain ⟨hy,e'⟩:y.size≤sizeLine∧k=((y.size:Int) != 0):=e
    subst e'
    exact PySem.W.truthy_bytes (by omega) ⟨H,I.tok _,q⟩
  | ref p =>
    cases rx
    have e':(∃ xs,SqL X.K H p xs∧k=!xs.isEmpty)∨(∃ xs,SqT X.K H p xs∧k=!xs.isEmpty)∨∃ kvs,H p=some (.dK kvs)∧k=!kvs.isEmpty:=e
    rcases e' with ⟨xs,hx,e'⟩ | ⟨xs,hx,e'⟩ | ⟨kvs,hx,e'⟩
    · subst e'
      obtain ⟨its,r,pl,hz⟩:=I.list hx
      have hlen:=r.length
      exact wpAny_truthy_list pl.isList (by simp only [List.size_toArray];omega) ⟨H,I.tok _,by rw [rJ r];exact q⟩
    · subst e'
      obtain ⟨its,r,pl,hz⟩:=I.tuple hx
      have hlen:=r.length
      exact truthy_tuple pl (by simp only [List.size_toArray];omega) ⟨H,I.tok _,by rw [rJ r];exact q⟩
    · subst e'
      obtain ⟨hz,hS,vs,r,m⟩:kvs.length≤sizeLine∧(p == sysModules)=false∧∃ vs,KV kvs vs∧s.heap.DictOf (gF X.prog X.w) p vs:=I.hok p _ hx
      have hlen:kvs.length=vs.length:=Paired.length r
      exact wpAny_truthy_dict hS m (by omega) ⟨H,I.tok _,by rw [zK r];exact q⟩
  | _=>exact (show False from e).elim
theorem Eo (ha:PE X a ta) (he:∀ whole,isTrue a X.env whole=(do let v ← whole;standAt a.pos;holding [v] (truthy v))) :
    PT X a (fun σ H Q=>ta σ H fun x H'=>∃ k,YW X.K x H' k∧Q k H'):=by
  intro pins s σ H Q I h
  exact isTrue_plain (thn (ha pins s σ H _ I h) fun v s1 ⟨x,H1,I1,r1,q1⟩=>Py pins s1 σ H1 x v Q I1 r1 q1) (he _)
theorem vals1 {x:V} {us:List Value} (r:Vals [x] us):∃ u,us=[u]∧RelV x u:=by
  cases r with
  | cons r1 r2=>cases r2;exact ⟨_,rfl,r1⟩
theorem vals2 {x y:V} {us:List Value} (r:Vals [x,y] us):∃ u w',us=[u,w']∧RelV x u∧RelV y w':=by
  cases r with
  | cons r1 r2 =>
    cases r2 with
    | cons r3 r4=>cases r4;exact ⟨_,_,rfl,r1,r3⟩
theorem Dm (hc:X.calm=true):pJ X (.builtin "max") (fun xs H Q=>∃ i j,xs=[.int i,.int j]∧Q (.int (if j > i then j else i)) H):=by
  intro pins s σ H xs us Q I r h
  obtain ⟨i,j,rfl,q⟩:=h
  obtain ⟨u,w',rfl,⟨t,rfl⟩,⟨t',rfl⟩⟩:=vals2 r
  refine max_two_ints (I.ok.hd hc) fun h' tk k=>⟨_,H,I.kept k,?_,q⟩
  by_cases hj:j > i
  · rw [if_pos hj,if_pos hj];exact ⟨_,rfl⟩
  · rw [if_neg hj,if_neg hj];exact ⟨_,rfl⟩
theorem mJ (hc:X.calm=true):pJ X (.builtin "min") (fun xs H Q=>∃ i j,xs=[.int i,.int j]∧Q (.int (if j<i then j else i)) H):=by
  intro pins s σ H xs us Q I r h
  obtain ⟨i,j,rfl,q⟩:=h
  obtain ⟨u,w',rfl,⟨t,rfl⟩,⟨t',rfl⟩⟩:=vals2 r
  refine min_two_ints (I.ok.hd hc) fun h' tk k=>⟨_,H,I.kept k,?_,q⟩
  by_cases hj:j<i
  · rw [if_pos hj,if_pos hj];exact ⟨_,rfl⟩
  · rw [if_neg hj,if_neg hj];exact ⟨_,rfl⟩
end
end L2
namespace L2
open PySem PySem.Spec PyProof.Rows
structure Yp (h:Heap) (x dx C:Addr) (mA:Str→Option Value):Prop where
  obj:h.get? x=some (PySem.W.instObj C dx)
  ns:h.Ns1 dx mA
  ne:dx≠x
theorem Cg {h:Heap} {dx:Addr} {mA:Str→Option Value} (n:h.Ns1 dx mA):∃ od,h.get? dx=some od∧∀ name,PySem.W.lookIn name od=some (mA name):=by
  obtain ⟨o,es,ep,ho,hd,hk,_,hm⟩:=n
  refine ⟨o,ho,fun name=>?_⟩
  have e:=hm name
  unfold nsFind findBy at e
  rw [← Array.find?_toList] at e
  unfold PySem.W.lookIn
  rw [hd]
  dsimp only
  split
  · rename_i y q
    rw [q] at e
    exact congrArg some e
  · rename_i q
    rw [q] at e
    have a:es.toList.any (·.refKey)=false:=by
      rw [List.any_eq_false]
      intro y hy
      obtain ⟨z,t,hkey⟩:=hk y (Array.mem_toList_iff.mp hy)
      simp [DictEntry.refKey,hkey]
    have a':¬ es.toList.any (·.refKey)=true:=by rw [a];exact Bool.false_ne_true
    rw [if_neg a']
    exact congrArg some e
theorem Yp.look {h:Heap} {x dx C:Addr} {mA:Str→Option Value} (I:Yp h x dx C mA):∃ od,PySem.W.InstAt h x (PySem.W.instObj C dx) C (some od)∧∀ name,PySem.W.lookIn name od=some (mA name) :=
  let ⟨od,ho,hl⟩:=Cg I.ns
  ⟨od,⟨I.obj,rfl,rfl,ho⟩,hl⟩
section
variable {prog:Program} {w:World} {A:Around} {E:Value→Shared→Prop} {s:Shared} {K:PySem.W.Frag} {x dx C f:Addr} {mA:Str→Option Value} {name:Str} {v:Value}
end
section
variable {P:Program} {w:World} {H H':Hp} {h h':Heap} {a C dx:Addr} {fs fs':List (Str × V)}
theorem Oq (hok:HOk P w H h) (e:H a=some (.ins C dx fs)):∃ mA,Yp h a dx C mA∧(∀ f,VN (fs.lookup f) (mA f))∧PySem.Within mA (fs.map (·.1))∧fs.length≤1000∧H dx=some (.own a):=by
  obtain ⟨d,z,ne,ob,mA,n,r,q⟩:=(show gH P w H h a (.ins C dx fs) from hok a _ e)
  exact ⟨mA,⟨ob,n,ne⟩,r,q,z,d⟩
end
structure Cls (K:PySem.W.Frag) (C:Addr):Prop where
  pg:PySem.W.plainGet K C Str.empty=true
  hd:PySem.W.hasDictIn K C=true
  po:PySem.W.plainOver K C=true
  sa:PySem.W.findIn K (.ref C) "__setattr__"=some (some (.builtin "object.__setattr__"))
theorem Cls.get {K:PySem.W.Frag} {C:Addr} (c:Cls K C) (f:Str):PySem.W.plainGet K C f=true:=c.pg
section
variable {X:Cx} {pins:List (Addr × Obj)} {σ:St} {H:Hp} {s:Shared} {a C dx:Addr} {fs:List (Str × V)} {f:Str} {v:V} {A:Around} {E:Value→Shared→Prop}
end
section
variable {X:Cx} {o e value:Expr} {f:Str} {pos pos' tpos:Pos} {ta tv:TE}
end
section
variable {X:Cx} {pins:List (Addr × Obj)} {σ:St} {H:Hp} {s:Shared} {A:Around} {E:Value→Shared→Prop} {Q:Value→Shared→Prop} {c:Value} {b:Bool}
inductive xG (K:PySem.W.Frag) (H:Hp):V→Value→Prop where
  | non:xG K H .non (.type "NoneType")
  | bl (x:Bool):xG K H (.bl x) (.type "bool")
  | int (i:Int):xG K H (.int i) (.type "int")
  | str (x:Str):xG K H (.str x) (.type "str")
  | flt (x:UInt64):xG K H (.flt x) (.type "float")
  | lst {a:Addr} {xs:List V} (e:H a=some (.lst xs)):xG K H (.ref a) (.type "list")
  | frz {a:Addr} {o:Obj} {xs:List V} (e:H a=some (.frz o (.lst xs))):xG K H (.ref a) (.type "list")
  | tup {a:Addr} {xs:List V} (e:H a=some (.tup xs)):xG K H (.ref a) (.type "tuple")
  | dK {a:Addr} {kvs:List (Key × V)} (e:H a=some (.dK kvs)):xG K H (.ref a) (.type "dict")
  | dT {a:Addr} {kvs:List (List Key × V)} (e:H a=some (.dT kvs)):xG K H (.ref a) (.type "dict")
  | ins {a C dx:Addr} {fs:List (Str × V)} (e:H a=some (.ins C dx fs)) (cl:Cls K C) (ha:PySem.W.findIn K (.ref C) "__class__"=some (some (.builtin "object.__class__")))
      (hn:PySem.W.specialIn K (.builtin "object.__class__") "__get__"=some (some (.builtin "getset_descriptor.__get__"))) (htk:PySem.W.takesIn K (.builtin "object.__class__")=some true)
      (hm:PySem.W.mroIn K C (.type "object")=some true):xG K H (.ref a) (.ref C)
theorem Cv {x:V} {u t:Value} (I:Inv X pins σ H s) (rx:RelV x u) (ty:xG X.K H x t) (e:PySem.W.kitOne X.K t c=some b) (h:∀ tk,Q (.bool b) { s with toks:=tk }) :
    wpAny (model X.prog X.w) A (call (.builtin "isinstance") [u,c]) Q E s:=by
  cases ty with
  | non=>cases (show u=Value.none from rx);exact PySem.W.kia_one PySem.W.kitx_none I.kIn True.intro e (fun z=>nomatch z) h
  | bl y=>cases (show u=Value.bool y from rx);exact PySem.W.kia_one PySem.W.kitx_bool I.kIn True.intro e (fun z=>nomatch z) h
  | int i=>obtain ⟨t,q⟩:=(show ∃ t,u=Value.int i t from rx);cases q;exact PySem.W.kia_one PySem.W.kitx_int I.kIn True.intro e (fun z=>nomatch z) h
  | str y=>obtain ⟨t,q⟩:=(show ∃ t,u=Value.str y t from rx);cases q;exact PySem.W.kia_one PySem.W.kitx_str I.kIn True.intro e (fun z=>nomatch z) h
  | flt y=>obtain ⟨t,q⟩:=(show ∃ t,u=Value.float y t from rx);cases q;exact PySem.W.kia_one PySem.W.kitx_float I.kIn True.intro e (fun z=>nomatch z) h
  | @lst a xs ea =>
    cases (show u=Value.ref a from rx)
    obtain ⟨_,_,n,_,h1⟩:=(show gH X.prog X.w H s.heap a (.lst xs) from I.hok a _ ea)
    exact PySem.W.kia_one PySem.W.kitx_list I.kIn ⟨_,h1,rfl⟩ e (fun z=>nomatch z) h
  | @frz a ob xs ea =>
    cases (show u=Value.ref a from rx)
    obtain ⟨_,_,_,n,_,h1⟩:=(show gH X.prog X.w H s.heap a (.frz ob (.lst xs)) from I.hok a _ ea)
    exact PySem.W.kia_one PySem.W.kitx_list I.kIn ⟨_,h1,rfl⟩ e (fun z=>nomatch z) h
  | @tup a xs ea =>
    cases (show u=Value.ref a from rx)
    obtain ⟨_,_,_,p⟩:=(show gH X.prog X.w H s.heap a (.tup xs) from I.hok a _ ea)
    obtain ⟨o,h1,h2,_⟩:=p
    exact PySem.W.kia_one PySem.W.kitx_tuple I.kIn ⟨o,h1,h2⟩ e (fun z=>nomatch z) h
  | @dK a kvs ea =>
    cases (show u=Value.ref a from rx)
    obtain ⟨_,_,vs,_,p⟩:=(show gH X.prog X.w H s.heap a (.dK kvs) from I.hok a _ ea)
    obtain ⟨o,es,ep,h1,h2,_⟩:=p
    exact PySem.W.kia_one PySem.W.kitx_dict I.kIn ⟨o,h1,h2.1⟩ e (fun z=>nomatch z) h
  | @dT a kvs ea =>
    cases (show u=Value.ref a from rx)
    obtain ⟨_,_,xs,_,o,es,ep,h1,h2,_⟩:=(show gH X.prog X.w H s.heap a (.dT kvs) from I.hok a _ ea)
    exact PySem.W.kia_one PySem.W.kitx_dict I.kIn ⟨o,h1,h2.1⟩ e (fun z=>nomatch z) h
  | @ins a C dx fs ea cl ha hn htk hm =>
    cases (show u=Value.ref a from rx)
    obtain ⟨mA,O,_⟩:=Oq I.hok ea
    obtain ⟨od,J,_⟩:=O.look
    exact PySem.W.kia_one (PySem.W.kitx_own (cl.get _) cl.hd ha hn htk hm) I.kIn J e (fun z=>nomatch z) h
end
end L2
namespace L2
open PySem PySem.Spec PyProof.Rows
structure qZ (k:Nat) (A:Around):Prop where
  hd:A.handled=none
  dp:A.depth + 3 * k + 5<recursionLimit
  un:A.units + 16 * k + 200<cLine
theorem qZ.mono {j k:Nat} {A:Around} (r:qZ k A) (h:j≤k):qZ j A:=⟨r.hd,by have:=r.dp;omega,by have:=r.un;omega⟩
theorem qZ.deeper {k:Nat} {A:Around} (r:qZ (k + 1) A) (env:Env):qZ k (A.deeper env) :=
  ⟨r.hd,by have:=r.dp;show A.depth + 1 + 3 * k + 5<_;omega,by have:=r.un;show A.units + 3 + 16 * k + 200<_;omega⟩
theorem qZ.depth {k:Nat} {A:Around} (r:qZ k A):A.depth<recursionLimit:=by have:=r.dp;omega
theorem qZ.units {k:Nat} {A:Around} (r:qZ k A):A.units + 64<cLine:=by have:=r.un;omega
def tNil:TA:=fun _ H Q=>Q [] H
def V7 (ta:TE) (tr:TA):TA:=fun σ H Q=>ta σ H fun x H1=>tr σ H1 fun xs H2=>Q (x :: xs) H2
section
variable {X:Cx} {e:Expr} {es:List Expr} {te:TE} {t:TA} {pos:Pos}
theorem aq:PA X [] tNil:=fun _ _ _ _ H Q I h=>Calls.spliced_nil ⟨[],H,I,.nil,h⟩
theorem ak (ha:PE X e te) (hr:PA X es t) (hs:starEach (e :: es) X.env=(false,eval e X.env) :: starEach es X.env:=by rfl):PA X (e :: es) (V7 te t):=by
  intro pos pins s σ H Q I h
  rw [hs]
  show wpAny _ _ (spliced ((false,eval e X.env) :: backTo pos (starEach es X.env))) _ _ s
  refine Calls.spliced_cons (thn (ha pins s σ H _ I h) fun u s1 ⟨x,H1,I1,r1,q1⟩=>?_)
  exact thn (hr pos pins s1 σ H1 _ I1 q1) fun us s2 ⟨xs,H2,I2,r2,q2⟩=>⟨x :: xs,H2,I2,.cons r1 r2,q2⟩
def tTup (t:TA):TE:=fun σ H Q=>t σ H fun xs H1=>xs.length≤sizeLine∧∀ p,H1 p=none→Q (.ref p) (upd H1 p (.tup xs))
def tLst (t:TA):TE:=fun σ H Q=>t σ H fun xs H1=>xs.length≤sizeLine∧∀ p,H1 p=none→Q (.ref p) (upd H1 p (.lst xs))
theorem jV {x1} (h:PA X es t):PE X (.Tuple es x1 pos) (tTup t):=by
  intro pins s σ H Q I hq
  refine wpAny_Tuple_spliced (thn (h pos pins s σ H _ I hq) fun us s1 ⟨xs,H1,I1,r,z,q⟩=>⟨by rw [← r.length];exact z,?_⟩)
  have hf:H1 s1.heap.objs.size=none:=I1.hok.fresh (Nat.le_refl _)
  refine ⟨.ref s1.heap.objs.size,upd H1 s1.heap.objs.size (.tup xs),I1.laid (t':=s1.toks) (fun b u e=>Heap.get?_push_of_some _ e) (Nat.le_refl _) ?_,rfl,q _ hf⟩
  exact ⟨z,us,r,⟨_,Heap.get?_push_size _ rfl,rfl,_,rfl⟩⟩
theorem cZ (h:PA X es t):PE X (.List es pos) (tLst t):=by
  intro pins s σ H Q I hq
  refine wpAny_List_spliced (thn (h pos pins s σ H _ I hq) fun us s1 ⟨xs,H1,I1,r,z,q⟩=>⟨by rw [← r.length];exact z,?_⟩)
  have hf:H1 s1.heap.objs.size=none:=I1.hok.fresh (Nat.le_refl _)
  refine ⟨.ref s1.heap.objs.size,upd H1 s1.heap.objs.size (.lst xs),I1.laid (t':=s1.toks) (fun b u e=>Heap.get?_push_of_some _ e) (Nat.le_refl _) ?_,rfl,q _ hf⟩
  exact ⟨z,us,0,r,Heap.get?_push_size _ rfl⟩
end
abbrev Sp:=List V→Hp→VK→XK→Prop
abbrev CXT:=List Env→Hp→Shared→XK→Value→Shared→Prop
structure VR (P:Program) (w:World) (K:PySem.W.Frag) (mg:Str→Option Value) (base:Heap) (A:Around) (outer:List Env) (s:Shared) (H:Hp):Prop where
  frames:A.frames=some outer
  mod:Mod K mg base
  bs:∀ b o,base.get? b=some o→s.heap.get? b=some o∧H b=none
  bsz:base.objs.size≤s.heap.objs.size
  CK:s.heap.FunFrames base outer
  frf:∀ b∈frs outer,H b=none
  hok:HOk P w H s.heap
  bare:AllBare s.gens
def CE (outer:List Env) (P:Program) (w:World) (H:Hp) (s:Shared) (Q:VK) (u:Value) (s':Shared):Prop :=
  ∃ v H',s'.os=s.os∧AllBare s'.gens∧Un (frs outer) [] H H' s.heap s'.heap∧HOk P w H' s'.heap∧RelV v u∧Q v H'
def CR (CX:CXT) (outer:List Env) (P:Program) (w:World) (H:Hp) (s:Shared) (Q:VK) (E:XK) (r:Result) (s':Shared):Prop :=
  match r with
  | .ok (.ret u)=>CE outer P w H s Q u s'
  | .ok _=>False
  | .error e=>CX outer H s E e s'
structure cA (P:Program) (w:World) (K:PySem.W.Frag) (mg:Str→Option Value) (base:Heap) (CX:CXT) (k:Nat) (f:Addr) (fd:FuncData) (ps:List Str) (sp:Sp):Prop where
  len:∀ vs H Q E,sp vs H Q E→vs.length=ps.length
  run:∀ (A:Around) (outer:List Env) (s:Shared) (H:Hp) (args:Args) (us:List Value) (vs:List V) (Q:VK) (E:XK),qZ k A→VR P w K mg base A outer s H→BindsTo s fd args (ps.zip us)→Vals vs us→sp vs H Q E →
    codeAny (model P w) A (.call (.ref f) args) (CR CX outer P w H s Q E) s
section
variable {X:Cx} {pins:List (Addr × Obj)} {σ:St} {H:Hp} {s s':Shared}
theorem Inv.env0 (I:Inv X pins σ H s):VR X.prog X.w X.K X.mg X.base X.A X.stack s H :=
  ⟨I.ok.frames,I.ok.mod,I.bs,Nat.le_trans I.ok.bsz I.sz,I.stack,I.wz,I.hok,I.bare⟩
theorem Inv.after {Q:VK} {u:Value} (I:Inv X pins σ H s) (h:CE X.stack X.prog X.w H s Q u s'):EP X pins σ Q u s':=by
  obtain ⟨v,H',os,bare,un,hok,r,q⟩:=h
  obtain ⟨hh,g,d,t,os'⟩:=s'
  obtain rfl:os'=s.os:=os
  exact ⟨v,H',I.call (h':=hh) (g':=g) (d':=d) (t':=t) (ch:=[]) un hok bare (fun b z=>absurd z (by simp)),r,q⟩
end
def V8 (sp:Sp) (dvs:List V) (E:XK) (t:TA):TE:=fun σ H Q=>t σ H fun vs H1=>sp (vs++dvs) H1 Q E
def Binds (K:PySem.W.Frag) (fd:FuncData) (ps:List Str) (ds:List Value):Prop :=
  ∀ (s:Shared) (us:List Value),K.In s.heap→(us++ds).length=ps.length→BindsTo s fd ⟨us,[]⟩ (ps.zip (us++ds))
theorem Binds.all {K:PySem.W.Frag} {fd:FuncData} {ps:List Str} (h:∀ us:List Value,us.length=ps.length→bindArgs fd ⟨us,[]⟩=pure (ps.zip us)):Binds K fd ps []:=fun s us _ hl=>by
  rw [List.append_nil] at hl ⊢
  exact .of_eq (h us hl)
def Passes (CX:CXT) (X:Cx) (E:XK):Prop:=∀ (pins:List (Addr × Obj)) (σ:St) (H:Hp) (s:Shared) (e:Value) (s':Shared),Inv X pins σ H s→CX X.stack H s E e s'→X.xe e s'
section
variable {X:Cx} {CX:CXT} {k:Nat} {f C:Addr} {fd:FuncData} {ps:List Str} {sp:Sp} {dvs:List V} {ds:List Value} {E:XK} {x m:Str} {p pos apos:Pos} {e o:Expr} {es:List Expr} {ta:TE} {t:TA}
theorem Qj {pins:List (Addr × Obj)} {σ:St} {H:Hp} {s:Shared} {Q:VK} {us:List Value} {vs:List V} (F:cA X.prog X.w X.K X.mg X.base CX k f fd ps sp) (hr:qZ k X.A) (hb:Binds X.K fd ps ds) (hd:Vals dvs ds) (hx:Passes CX X E)
    (I:Inv X pins σ H s) (r:Vals vs us) (h:sp (vs++dvs) H Q E):wpAny (model X.prog X.w) X.A (call (.ref f) us) (EP X pins σ Q) X.xe s:=by
  have r2:Vals (vs++dvs) (us++ds):=r.append hd
  have hl:(us++ds).length=ps.length:=by rw [← r2.length];exact F.len _ _ _ _ h
  refine wpAny_call (codeAny_mono (F.run X.A X.stack s H ⟨us,[]⟩ (us++ds) (vs++dvs) Q E hr I.env0 (hb s us I.kIn hl) r2 h) fun r s' hq=>?_)
  cases r with
  | error e=>exact hx pins σ H s e s' I hq
  | ok fl =>
    cases fl with
    | ret u=>exact I.after hq
    | next=>exact False.elim hq
    | brk=>exact False.elim hq
    | cont=>exact False.elim hq
theorem aM (F:cA X.prog X.w X.K X.mg X.base CX k f fd ps sp) (hr:qZ k X.A) (hg:Gl X x) (hm:X.mg x=some (.ref f)) (hk:PySem.W.keepIn X.K (.ref f)=true) (hb:Binds X.K fd ps ds) (hd:Vals dvs ds) (hx:Passes CX X E)
    (ha:PA X (e :: es) t) (hdb:(x == ("__debug__":Str))=false:=by decide) (he:starEach (e :: es) X.env=(false,eval e X.env) :: starEach es X.env:=by rfl) (hpl:(backTo pos (starEach es X.env)).any (·.1)=false:=by rfl) :
    PE X (.Call (.Name x p) (e :: es) [] pos) (V8 sp dvs E t):=by
  intro pins s σ H Q I h
  refine wpAny_Call_Name_kw (Ck I hg hm ?_ hdb)
  refine PySem.W.callWith_K (h₀:=X.base) I.ok.mod.kin hk (thn (ha pos pins s σ H _ I h) fun us s1 ⟨vs,H1,I1,r,q⟩=>⟨I1.kIn,?_⟩) he hpl
  exact Qj F hr hb hd hx I1 r q
end
section
variable {X:Cx} {CX:CXT} {k:Nat} {f C:Addr} {fd:FuncData} {ps ks:List Str} {sp:Sp} {E:XK} {x m:Str} {p pos apos kpos:Pos} {e o:Expr} {es:List Expr} {kws:List Keyword} {te ta:TE} {t tk:TA} {nm:Option Str}
variable {g:List Value→List Value→List Value} {gV:List V→List V→List V}
end
structure aX (N P:List Str) (sc:Scope):Prop where
  kind:sc.kind=.function
  co:sc.isCoroutine=false
  gen:sc.isGenerator=false
  nd:N.Nodup
  pre:N.take P.length=P
  par:∀ x∈P,sc.names.lookup x=some .local∨sc.names.lookup x=some .cell
  nofree:∀ y∈sc.names,y.2≠.free
theorem vA {kindOf:Str→Option NameKind} {x:Str}:∀ {binds:List (Str × Value)} {m:Str→Option Value},(∀ v,(x,v) ∉ binds)→bindL kindOf binds m x=m x
  | [],_,_=>rfl
  | (n,v) :: r,m,h=>by
    unfold bindL
    rw [vA fun w hw=>h w (List.mem_cons_of_mem _ hw)]
    split
    · have:x≠n:=by rintro rfl;exact h v List.mem_cons_self
      simp [this]
    · rfl
theorem vC {kindOf:Str→Option NameKind} {x:Str}:∀ {binds:List (Str × Value)} {m:Str→Option Value},(∀ v,(x,v) ∉ binds)→bindC kindOf binds m x=m x
  | [],_,_=>rfl
  | (n,v) :: r,m,h=>by
    unfold bindC
    rw [vC fun w hw=>h w (List.mem_cons_of_mem _ hw)]
    split
    · rfl
    · have:x≠n:=by rintro rfl;exact h v List.mem_cons_self
      simp [this]
theorem vB {kindOf:Str→Option NameKind} {x:Str} {v:Value}:∀ {P:List Str} {vs:List Value} {i:Nat} {m:Str→Option Value},P.Nodup→P[i]?=some x→vs[i]?=some v→kindOf x=some .local →
    bindL kindOf (P.zip vs) m x=some v
  | [],_,_,_,_,h,_,_=>by simp at h
  | _ :: _,[],_,_,_,_,h,_=>by simp at h
  | p :: P,w :: vs,0,m,nd,h1,h2,hk=>by
    simp at h1 h2;subst h1;subst h2
    show bindL kindOf ((p,w) :: P.zip vs) m p=_
    unfold bindL
    rw [vA fun v hv=>(List.nodup_cons.mp nd).1 (List.of_mem_zip hv).1,if_pos hk]
    simp
  | p :: P,w :: vs,i + 1,m,nd,h1,h2,hk=>by
    show bindL kindOf ((p,w) :: P.zip vs) m x=_
    unfold bindL
    exact vB (i:=i) (List.nodup_cons.mp nd).2 (by simpa using h1) (by simpa using h2) hk
theorem vD {kindOf:Str→Option NameKind} {x:Str} {v:Value}:∀ {P:List Str} {vs:List Value} {i:Nat} {m:Str→Option Value},P.Nodup→P[i]?=some x→vs[i]?=some v→kindOf x≠some .local →
    bindC kindOf (P.zip vs) m x=some v
  | [],_,_,_,_,h,_,_=>by simp at h
  | _ :: _,[],_,_,_,_,h,_=>by simp at h
  | p :: P,w :: vs,0,m,nd,h1,h2,hk=>by
    simp at h1 h2;subst h1;subst h2
    show bindC kindOf ((p,w) :: P.zip vs) m p=_
    unfold bindC
    rw [vC fun v hv=>(List.nodup_cons.mp nd).1 (List.of_mem_zip hv).1,if_neg hk]
    simp
  | p :: P,w :: vs,i + 1,m,nd,h1,h2,hk=>by
    show bindC kindOf ((p,w) :: P.zip vs) m x=_
    unfold bindC
    exact vD (i:=i) (List.nodup_cons.mp nd).2 (by simpa using h1) (by simpa using h2) hk
def start (N:List Str) (vs:List V):St:=vs.map some++List.replicate (N.length - vs.length) none
def Ox (CX:CXT) (P:Program) (w:World) (K:PySem.W.Frag) (mg:Str→Option Value) (base:Heap) (N:List Str) (qual:Str) (scope:Scope) (f:Addr) (cd:Value) (A:Around) (outer:List Env) (s:Shared) (H:Hp) (E:XK):Cx where
  prog:=P
  w:=w
  K:=K
  mg:=mg
  base:=base
  A:=A.deeper (envOfC qual scope s.heap.objs.size f cd)
  N:=N
  s₀:=s
  H₀:=H
  env:=envOfC qual scope s.heap.objs.size f cd
  outer:=outer
  stack:=envOfC qual scope s.heap.objs.size f cd :: outer
  ex:=[]
  calm:=true
  fn:=fun _=>true
  pn:=[]
  xe:=fun e s'=>wpAny (model P w) (A.deeper (envOfC qual scope s.heap.objs.size f cd)) (leaving (envOfC qual scope s.heap.objs.size f cd) e) (fun _ s''=>CX outer H s E e s'') (fun e' s''=>CX outer H s E e' s'') s'
theorem yW {sc:Scope} {n:Nat} {x:Str} (h:sc.names.lookup x=some .cell):∃ c,(cellsFrom n sc.names []).lookup x=some c:=by
  have q:=PySem.W.cellsFrom_some sc.names n [] (.inl h)
  exact Option.isSome_iff_exists.mp q
theorem Cy {CX:CXT} {P:Program} {w:World} {K:PySem.W.Frag} {mg:Str→Option Value} {base:Heap} {N ps:List Str} {qual:Str} {scope:Scope} {f:Addr} {cd:Value} {A:Around} {outer:List Env} {s s1:Shared} {H:Hp} {E:XK} {us:List Value} {vs:List V}
    (S:aX N ps scope) (hd:A.handled=none) (e0:VR P w K mg base A outer s H) (hl:vs.length=ps.length) (r:Vals vs us)
    (x:InCallC s s.heap.objs.size (bindL (envOfC qual scope s.heap.objs.size f cd).kindOf (ps.zip us) fun _=>none) (cellsFrom (s.heap.objs.size + 1) scope.names []) (bindC (envOfC qual scope s.heap.objs.size f cd).kindOf (ps.zip us) fun _=>none) s1) :
    Inv (Ox CX P w K mg base N qual scope f cd A outer s H E) [] (start N vs) H s1:=by
  have hpl:ps.length≤N.length:=by have:=congrArg List.length S.pre;rw [List.length_take] at this;omega
  obtain ⟨h1,tk,rfl,hk⟩:=x.done
  have noA:∀ b:Addr,b ∉ (Ox CX P w K mg base N qual scope f cd A outer s H E).ex:=fun b z=>absurd (show b∈([]:List Addr) from z) (by simp)
  refine ⟨⟨e0.mod,S.kind,rfl,rfl,Nat.le_refl _,fun y z c h1 h2=>?_,fun y hy=>?_,fun y c _ h=>?_,fun _=>hd,Around.frames_deeper e0.frames,.inr ⟨rfl,rfl⟩,fun b z=>absurd z (noA b),e0.bs,e0.bsz,fun b _ _=>noA b,fun b z=>absurd z (noA b),e0.CK,e0.frf⟩,
    rfl,e0.bare,Un.kept hk,⟨_,x.toInCall.ns,fun i y v h1 h2 h3=>?_⟩,fun y c h=>⟨_,x.cell y c h⟩,e0.hok.fresh (Nat.le_refl _),fun y c h=>?_,fun p hp=>absurd (show p∈([]:List (Addr × Obj)) from hp) (by simp),e0.hok.kept hk,?_⟩
  · exact name_of_addr x.apart (PySem.mem_of_lookup h1) (PySem.mem_of_lookup h2)
  · have hy:scope.names.lookup y=some .cell∨scope.names.lookup y=some .free:=hy
    rcases hy with hy | hy
    · exact yW hy
    · exact absurd rfl (S.nofree _ (PySem.mem_of_lookup hy))
  · exact Nat.le_of_lt (x.above y c (PySem.mem_of_lookup h))
  · have hi:i<vs.length:=by
      unfold start at h2
      by_cases hi:i<vs.length
      · exact hi
      · rw [List.getElem?_append_right (by simpa using hi)] at h2
        rw [List.getElem?_replicate] at h2
        split at h2 <;> cases h2
    have ha:vs[i]?=some v:=by
      unfold start at h2
      rw [List.getElem?_append_left (by simpa using hi),List.getElem?_map] at h2
      cases e:vs[i]? with
      | none=>rw [e] at h2;cases h2
      | some a=>rw [e] at h2;cases h2;rfl
    obtain ⟨u,hu,rv⟩:=r.get ha
    have hp:ps[i]?=some y:=by
      rw [← S.pre,List.getElem?_take_of_lt (by omega)];exact h1
    have ndP:ps.Nodup:=by rw [← S.pre];exact S.nd.sublist (List.take_sublist _ _)
    refine ⟨u,rv,?_⟩
    rcases S.par y (List.mem_of_getElem? hp) with k | k
    · exact .inl ⟨k,vB ndP hp hu k⟩
    · obtain ⟨c,e⟩:=yW (n:=s.heap.objs.size + 1) k
      refine .inr ⟨.inl k,c,e,?_⟩
      have q:=x.cell y c e
      rw [vD ndP hp hu (by show scope.names.lookup y≠_;rw [k];decide)] at q
      exact q
  · exact e0.hok.fresh (Nat.le_of_lt (x.above y c (PySem.mem_of_lookup h)))
  · unfold start
    show _=N.length
    rw [List.length_append,List.length_map,List.length_replicate]
    omega
theorem Vm {CX:CXT} {P:Program} {w:World} {K:PySem.W.Frag} {mg:Str→Option Value} {base:Heap} {k:Nat} {f:Addr} {name qual:Str} {params:Arguments} {body:List Stmt} {scope:Scope} {dV kV doc pm cdv ct oc:Value} {an od:Option Addr}
    {osl:Array (Option Value)} {N ps:List Str} {sp:Sp} (lk:K.lookup f=some ⟨oc,od,.func (PySem.W.fnOf name qual params body scope dV kV doc pm an cdv ct),osl⟩) (hcd:PySem.W.codeIn K cdv qual=true) (S:aX N ps scope)
    (len:∀ vs H Q E,sp vs H Q E→vs.length=ps.length)
    (hbody:∀ (A:Around) (outer:List Env) (s:Shared) (H:Hp) (vs:List V) (Q:VK) (E:XK),qZ k (A.deeper (envOfC qual scope s.heap.objs.size f cdv))→sp vs H Q E →
      ∃ t,PSs (Ox CX P w K mg base N qual scope f cdv A outer s H E) body t∧t { nx:=fun _ H'=>Q .non H',rt:=Q } (start N vs) H) :
    cA P w K mg base CX (k + 1) f (PySem.W.fnOf name qual params body scope dV kV doc pm an cdv ct) ps sp:=by
  refine ⟨len,fun A outer s H args us vs Q E hr e0 hb r hsp=>?_⟩
  have hl:=len _ _ _ _ hsp
  have KX:K.In s.heap:=e0.mod.kin.keeps fun b o e=>(e0.bs b o e).1
  have lim:s.heap.NoLimit:=e0.mod.nolimit.keeps fun b o e=>(e0.bs b o e).1
  have hkind:∀ y∈ps.zip us,scope.names.lookup y.1=some .local∨(scope.names.lookup y.1=some .cell∧((cellsFrom (s.heap.objs.size + 1) scope.names []).lookup y.1).isSome=true):=fun ⟨n,v⟩ hy=>by
    rcases S.par n (List.of_mem_zip hy).1 with q | q
    · exact .inl q
    · exact .inr ⟨q,PySem.W.cellsFrom_some _ _ _ (.inl q)⟩
  refine codeAny_call_function hr.depth (KX _ _ lk) rfl S.co S.gen rfl (PySem.W.codeRec_of KX hcd) (hb _ _ _ _ ?_)
  refine wpAny_newFunctionEnv_cells S.kind hkind fun env he s1 x=>?_
  subst he
  refine ⟨lim.keeps x.toInCall.keep,codeAny_func ?_⟩
  obtain ⟨t,ht,hq⟩:=hbody A outer s H vs Q E (hr.deeper _) hsp
  have I:Inv (Ox CX P w K mg base N qual scope f cdv A outer s H E) [] (start N vs) H s1:=Cy S hr.hd e0 hl r x
  refine wpAny_mono (ht [] s1 (start N vs) H _ I hq) (fun fl s' hs=>?_) fun e s' hs=>hs
  have fin:∀ {σ':St} {H':Hp} {v:V} {u:Value},Inv (Ox CX P w K mg base N qual scope f cdv A outer s H E) [] σ' H' s'→RelV v u→Q v H'→CE outer P w H s Q u s' :=
    fun {σ' H' v u} J rv q=>⟨v,H',J.os,J.bare,J.base,J.hok,rv,q⟩
  cases fl with
  | ret u =>
    obtain ⟨v,σ',H',J,rv,q⟩:=hs
    exact fin J rv q
  | next =>
    obtain ⟨σ',H',J,q⟩:=hs
    exact fin (v:=V.non) (u:=Value.none) J rfl q
  | brk =>
    obtain ⟨_,_,_,q⟩:=hs
    exact False.elim q
  | cont =>
    obtain ⟨_,_,_,q⟩:=hs
    exact False.elim q
end L2
namespace L2
open PySem PySem.Spec PyProof.Rows
section
variable {X:Cx} {x:Str} {p pos:Pos} {e:Expr} {es:List Expr} {t:TA} {id T:String} {r:List V→Hp→VK→Prop}
def tCB (r:List V→Hp→VK→Prop) (t:TA):TE:=fun σ H Q=>t σ H fun vs H1=>r vs H1 Q
theorem aK (hc:pJ X (.builtin id) r) (hg:Gl X x) (hm:X.mg x=none) (hv:bootBuiltins x=some (.builtin id)) (ha:PA X (e :: es) t) (hn:x≠"__name__":=by decide) (hdb:(x == ("__debug__":Str))=false:=by decide)
    (he:starEach (e :: es) X.env=(false,eval e X.env) :: starEach es X.env:=by rfl) (hpl:(backTo pos (starEach es X.env)).any (·.1)=false:=by rfl):PE X (.Call (.Name x p) (e :: es) [] pos) (tCB r t):=by
  intro pins s σ H Q I h
  refine wpAny_Call_Name_kw (lW I hg hm hv ?_ hn hdb)
  exact PyProof.Rows.callWith_builtin1 (thn (ha pos pins s σ H _ I h) fun us s1 ⟨vs,H1,I1,r1,q1⟩=>hc pins s1 σ H1 vs us Q I1 r1 q1) he hpl
theorem dh (hc:pJ X (.type T) r) (hg:Gl X x) (hm:X.mg x=none) (hv:bootBuiltins x=some (.type T)) (ha:PA X (e :: es) t) (hn:x≠"__name__":=by decide) (hdb:(x == ("__debug__":Str))=false:=by decide)
    (he:starEach (e :: es) X.env=(false,eval e X.env) :: starEach es X.env:=by rfl) (hpl:(backTo pos (starEach es X.env)).any (·.1)=false:=by rfl):PE X (.Call (.Name x p) (e :: es) [] pos) (tCB r t):=by
  intro pins s σ H Q I h
  refine wpAny_Call_Name_kw (lW I hg hm hv ?_ hn hdb)
  exact PyProof.Rows.callWith_type1 (thn (ha pos pins s σ H _ I h) fun us s1 ⟨vs,H1,I1,r1,q1⟩=>hc pins s1 σ H1 vs us Q I1 r1 q1) he hpl
end
end L2
namespace HT
open PySem PyProof.Rows
def lexLt:List Int→List Int→Bool
  | [],[]=>false
  | [],_ :: _=>true
  | _ :: _,[]=>false
  | x :: xs,y :: ys=>if x=y then lexLt xs ys else decide (x<y)
theorem gZ (x y:Int) (xs ys:List Int):lexLt (x :: xs) (y :: ys)=if x=y then lexLt xs ys else decide (x<y):=rfl
theorem lH:lexLt [] []=false:=rfl
theorem qX (y:Int) (ys:List Int):lexLt [] (y :: ys)=true:=rfl
theorem qY (x:Int) (xs:List Int):lexLt (x :: xs) []=false:=rfl
theorem Gb (A:Around) (s:Shared) (a:Int) (t:Tok) (c:Int) (u:Tok):∃ e,SeqAt.EqAt A s (.int a t) (.int c u) e∧(e=true↔a=c) :=
  ⟨(a == c),SeqAt.EqAt.int_int a t c u,by simp⟩
section
open PySem.SeqAt
open PySem.AutoSeq1 (wpAny_loadPart')
open PySem.MeetsSeq PySem.MeetsSeq2 PySem.MeetsSeq3
end
section
variable {prog:Program} {w:World} {A:Around} {E:Value→Shared→Prop} {s:Shared}
def sIx (n d:Nat):Option Int→Nat
  | none=>d
  | some v=>if v<0 then (v + (n:Int)).toNat else min v.toNat n
theorem Ej (n d:Nat):sIx n d none=d:=rfl
theorem qg (n d k:Nat):sIx n d (some (k:Int))=min k n:=by
  show (if (k:Int)<0 then ((k:Int) + (n:Int)).toNat else min (k:Int).toNat n)=min k n
  rw [if_neg (by omega),Int.toNat_natCast]
end
end HT
namespace L2
open PySem PySem.Spec PyProof.Rows
abbrev TO:=St→Hp→(Option Int→Hp→Prop)→Prop
def PO (X:Cx) (e:Option Expr) (t:TO):Prop :=
  ∀ (pins:List (Addr × Obj)) (s:Shared) (σ:St) (H:Hp) (Q:Option Int→Hp→Prop),Inv X pins σ H s→t σ H Q →
    wpAny (model X.prog X.w) X.A (evalPart e X.env) (fun u s'=>∃ o H',Inv X pins σ H' s'∧IsPart u o∧Q o H') X.xe s
def Nr:TO:=fun _ H Q=>Q none H
def V2 (t:TE):TO:=fun σ H Q=>t σ H fun x H1=>∃ i,x=.int i∧Q (some i) H1
theorem intsAre_of {ns:List Int}:∀ {us:List Value},Vals (ns.map V.int) us→IntsAre us ns:=by
  induction ns with
  | nil=>intro us r;rw [List.map_nil] at r;cases r;exact .nil
  | cons n ns ih =>
    intro us r
    rw [List.map_cons] at r
    cases r with
    | cons r1 r2 =>
      obtain ⟨t,e⟩:=r1
      subst e
      exact .cons n t (ih r2)
section
variable {X:Cx} {e:Expr} {te:TE} {lo hi:Option Expr} {tl th:TO} {pos p2:Pos}
theorem wH:PO X none Nr:=by
  intro pins s σ H Q I h
  rw [evalPart_none]
  exact wpAny_pure ⟨none,H,I,.none,h⟩
theorem nH (h:PE X e te):PO X (some e) (V2 te):=by
  intro pins s σ H Q I hw
  rw [evalPart_some]
  refine thn (h pins s σ H _ I hw) fun u s1 ⟨x,H1,I1,r1,q1⟩=>?_
  obtain ⟨i,rfl,q⟩:=q1
  obtain ⟨t,rfl⟩:=r1
  exact ⟨some i,H1,I1,.int i t,q⟩
def SlR (X:Cx) (r:V→Option Int→Option Int→Hp→VK→Prop):Prop :=
  ∀ (pins:List (Addr × Obj)) (s:Shared) (σ:St) (H:Hp) (x:V) (v vl vu:Value) (lo hi:Option Int) (sl:Addr) (Q:VK),Inv X pins σ H s→RelV x v→s.heap.IsSliceOf sl vl vu .none→IsPart vl lo→IsPart vu hi→r x lo hi H Q →
    ∃ T id,typeLookup (.type T) "__getitem__"=pure (some (.builtin id))∧s.TypeIs v T∧wpAny (model X.prog X.w) X.A (getItem v (.ref sl)) (EP X pins σ Q) X.xe s
def tSl (r:V→Option Int→Option Int→Hp→VK→Prop) (te:TE) (tl th:TO):TE:=fun σ H Q=>te σ H fun x H1=>tl σ H1 fun l H2=>th σ H2 fun u H3=>r x l u H3 Q
theorem oA {r:V→Option Int→Option Int→Hp→VK→Prop} (hr:SlR X r) (he:PE X e te) (hl:PO X lo tl) (hu:PO X hi th):PE X (.Subscript e (.Slice lo hi none p2) pos) (tSl r te tl th):=by
  intro pins s σ H Q I h
  refine Subscript_ (thn (he pins s σ H _ I h) fun v s1 ⟨x,H1,I1,r1,q1⟩=>?_)
  refine wpAny_Slice (thn (hl pins s1 σ H1 _ I1 q1) fun vl s2 ⟨l,H2,I2,pl,q2⟩=>thn (hu pins s2 σ H2 _ I2 q2) fun vu s3 ⟨u,H3,I3,pu,q3⟩=>?_)
  rw [evalPart_none]
  refine wpAny_pure ?_
  have I4:Inv X pins σ H3 { s3 with heap:=s3.heap.push { cls:=.type "slice",data:=.fields #[vl,vu,.none] } }:=I3.kept (t':=s3.toks) fun b ob q=>Heap.get?_push_of_some _ q
  obtain ⟨T,id,hT,ht,hg⟩:=hr pins { s3 with heap:=s3.heap.push { cls:=.type "slice",data:=.fields #[vl,vu,.none] } } σ H3 x v vl vu l u s3.heap.objs.size Q I4 r1 (Heap.IsSliceOf.new ..) pl pu q3
  show wpAny (model X.prog X.w) X.A (subscriptTail e (.Slice lo hi none p2) v (.ref s3.heap.objs.size)) (EP X pins σ Q) X.xe { s3 with heap:=s3.heap.push { cls:=.type "slice",data:=.fields #[vl,vu,.none] } }
  exact tail_any (ops:=[.ref s3.heap.objs.size,v]) ht hT hg (by with_unfolding_all rfl)
def vZ (xs:List V) (lo hi:Option Int):List V:=(xs.drop (HT.sIx xs.length 0 lo)).take (HT.sIx xs.length xs.length hi - HT.sIx xs.length 0 lo)
theorem xg (xs:List V) (lo hi:Option Int):(vZ xs lo hi).length≤xs.length:=by
  unfold vZ
  rw [List.length_take,List.length_drop]
  omega
end
end L2
namespace L2
open PySem PySem.Spec PyProof.Rows
def ixN (n:Nat) (i:Int):Option Nat:=if 0≤i then (if i<n then some i.toNat else none) else if -(n:Int)≤i then some (i + n).toNat else none
def atI {α:Type} (xs:List α) (i:Int):Option α:=(ixN xs.length i).bind fun j=>xs[j]?
theorem Cu {n:Nat} {i:Int} {j:Nat} (h:ixN n i=some j):seqIndex? i n=some j∧j<n∧-(n:Int)≤i∧i<n:=by
  unfold ixN at h
  by_cases h0:0≤i
  · rw [if_pos h0] at h
    by_cases h1:i<n
    · rw [if_pos h1] at h
      have e:i.toNat=j:=Option.some.inj h
      exact ⟨by rw [seqIndex_of h0 h1,e],by omega,by omega,h1⟩
    · rw [if_neg h1] at h;cases h
  · rw [if_neg h0] at h
    by_cases h1:-(n:Int)≤i
    · rw [if_pos h1] at h
      have e:(i + n).toNat=j:=Option.some.inj h
      exact ⟨by rw [seqIndex_neg (by omega) h1,e],by omega,h1,by omega⟩
    · rw [if_neg h1] at h;cases h
theorem Ds {α:Type} {xs:List α} {i:Int} {v:α} (h:atI xs i=some v):∃ j,seqIndex? i xs.length=some j∧xs[j]?=some v∧j<xs.length∧-(xs.length:Int)≤i∧i<xs.length:=by
  unfold atI at h
  cases e:ixN xs.length i with
  | none=>rw [e] at h;cases h
  | some j =>
    rw [e] at h
    obtain ⟨h1,h2,h3,h4⟩:=Cu e
    exact ⟨j,h1,h,h2,h3,h4⟩
theorem bR {α:Type} {xs:List α} {j:Nat} {v:α} (h:xs[j]?=some v):atI xs (j:Int)=some v:=by
  have hj:j<xs.length:=(List.getElem?_eq_some_iff.mp h).1
  have e:ixN xs.length (j:Int)=some j:=by
    unfold ixN
    rw [if_pos (by omega),if_pos (by omega)];simp
  unfold atI;rw [e];exact h
theorem Gm {α:Type} (xs:List α) (v:α):atI (xs++[v]) (-1)=some v:=by
  have hl:(xs++[v]).length=xs.length + 1:=by simp
  have e:ixN (xs++[v]).length (-1)=some xs.length:=by
    unfold ixN
    rw [hl,if_neg (by decide),if_pos (by omega)]
    congr 1
    omega
  unfold atI
  rw [e]
  show (xs++[v])[xs.length]?=some v
  simp
def Ph (b:Expr):Prop:=∀ o i,subscripted b false o i=operate [o,i] (getItem o i)
def IxR (X:Cx) (r:R2):Prop :=
  ∀ (value slice:Expr) (pins:List (Addr × Obj)) (s:Shared) (σ:St) (H:Hp) (x y:V) (v u:Value) (Q:VK),Inv X pins σ H s→RelV x v→RelV y u→r x y H Q →
    subscripted slice false v u=operate [v,u] (getItem v u)→wpAny (model X.prog X.w) X.A (subscriptTail value slice v u) (EP X pins σ Q) X.xe s
def MtR (X:Cx) (id:String) (r:V→List V→Hp→VK→Prop):Prop :=
  ∀ (pins:List (Addr × Obj)) (s:Shared) (σ:St) (H:Hp) (x:V) (xs:List V) (v:Value) (us:List Value) (Q:VK),Inv X pins σ H s→RelV x v→Vals xs us→r x xs H Q →
    wpAny (model X.prog X.w) X.A (call (.builtin id) (v :: us)) (EP X pins σ Q) X.xe s
section
variable {X:Cx} {a b:Expr} {ta tb:TE} {pos:Pos}
theorem aL {r:R2} (hr:IxR X r) (ha:PE X a ta) (hb:PE X b tb) (hs:Ph b):PE X (.Subscript a b pos) (tOp r ta tb):=by
  intro pins s σ H Q I h
  exact Subscript_ (Ym ha hb I h fun v u s2 x y H2 I2 rx ry q=>hr a b pins s2 σ H2 x y v u Q I2 rx ry q (hs _ _))
def Yx (K:PySem.W.Frag):R2:=fun x y H Q=>∃ p xs i v,x=.ref p∧y=.int i∧SqL K H p xs∧atI xs i=some v∧Q v H
def Yw (K:PySem.W.Frag):R2:=fun x y H Q=>∃ p xs i v,x=.ref p∧y=.int i∧SqT K H p xs∧atI xs i=some v∧Q v H
theorem aG:IxR X (Yx X.K):=by
  intro value slice pins s σ H x y v u Q I rx ry h hs
  obtain ⟨p,xs,i,z,rfl,rfl,hq,he,q⟩:=h
  cases rx
  obtain ⟨t,rfl⟩:=ry
  obtain ⟨its,r,pl,hz⟩:=I.list hq
  obtain ⟨j,h1,h2,h3,h4,h5⟩:=Ds he
  obtain ⟨w,ew,rw'⟩:=r.get h2
  have hl:=r.length
  have hn:=qy
  have fin:EP X pins σ Q w s:=⟨z,H,I,rw',q⟩
  by_cases h0:0≤i
  · have hj:i.toNat=j:=by
      rw [seqIndex_of h0 h5] at h1
      exact Option.some.inj h1
    exact item_listR pl.isList h0 (by omega) (by rw [hj];simpa using ew) fin hs
  · have hj:(i + (its.toArray.size:Int)).toNat=j:=by
      rw [seqIndex_neg (by omega) h4] at h1
      rw [List.size_toArray,← hl]
      exact Option.some.inj h1
    exact subscriptTail_builtinR (x:=w) pl.isList.typeIs slot_list_getitem.lookup
      (wpAny_getItem_list_neg (Q:=fun r s'=>r=w∧EP X pins σ Q r s') pl.isList (by omega) (by rw [List.size_toArray] <;> omega) (by omega) (by rw [hj];simpa using ew) ⟨rfl,fin⟩) hs
theorem cX:IxR X (Yw X.K):=by
  intro value slice pins s σ H x y v u Q I rx ry h hs
  obtain ⟨p,xs,i,z,rfl,rfl,hq,he,q⟩:=h
  cases rx
  obtain ⟨t,rfl⟩:=ry
  obtain ⟨its,r,pl,hz⟩:=I.tuple hq
  obtain ⟨j,h1,h2,h3,h4,h5⟩:=Ds he
  obtain ⟨w,ew,rw'⟩:=r.get h2
  have hl:=r.length
  have hn:=qy
  have fin:EP X pins σ Q w s:=⟨z,H,I,rw',q⟩
  exact subscriptTail_builtinR (x:=w) pl.typeIs slot_tuple_getitem.lookup
    (getItem_tuple (j:=j) (Q:=fun r s'=>r=w∧EP X pins σ Q r s') pl (by omega) (by omega) (by rw [List.size_toArray,← hl];exact h1) (by simpa using ew) ⟨rfl,fin⟩) hs
theorem zG (its:List Value) (n j:Nat) (u:Value):Obj.mapSeq (·.setIfInBounds j u) { cls:=.type "list",data:=.seq its.toArray n }={ cls:=.type "list",data:=.seq (its.set j u).toArray n }:=by
  simp [Obj.mapSeq]
theorem Inv.lst {pins:List (Addr × Obj)} {σ:St} {H:Hp} {s:Shared} {p:Addr} {xs:List V} (I:Inv X pins σ H s) (h:H p=some (.lst xs)) :
    ∃ (its:List Value) (n:Nat),Vals xs its∧s.heap.get? p=some { cls:=.type "list",data:=.seq its.toArray n }∧xs.length≤sizeLine:=by
  obtain ⟨z,its,n,r,e⟩:=I.hok p _ h
  exact ⟨its,n,r,e,z⟩
theorem Inv.Q6 {pins:List (Addr × Obj)} {σ:St} {H:Hp} {s:Shared} {p:Addr} {xs ys:List V} {its its':List Value} {n n':Nat} {f:Obj→Obj} (I:Inv X pins σ H s) (h:H p=some (.lst xs))
    (ho:s.heap.get? p=some { cls:=.type "list",data:=.seq its.toArray n }) (hf:f { cls:=.type "list",data:=.seq its.toArray n }={ cls:=.type "list",data:=.seq its'.toArray n' }) (r:Vals ys its') (hz:ys.length≤sizeLine) (t:Nat) :
    Inv X pins σ (upd H p (.lst ys)) { s with heap:=s.heap.update p f,toks:=t }:=by
  have e:(s.heap.update p f).get? p=some { cls:=.type "list",data:=.seq its'.toArray n' }:=by
    rw [Heap.get?_update_self f ho (by rw [hf] <;> rfl),hf]
  refine I.write (x:=p) (e:=p) (by rw [h];trivial) (.inl rfl) (fun b u hb q=>(Heap.get?_update_other _ _ (Ne.symm hb)).trans q) ⟨_,e⟩ ?_
  exact ⟨hz,its',n',r,e⟩
def Qm:V→V→V→Hp→(Hp→Prop)→Prop:=fun o i v H Q=>∃ p xs k j,o=.ref p∧i=.int k∧H p=some (.lst xs)∧ixN xs.length k=some j∧Q (upd H p (.lst (xs.set j v)))
theorem set_list:Yo X Qm:=by
  intro pins s σ H o i v ov iv u Q I ro ri rv h
  obtain ⟨p,xs,k,j,rfl,rfl,hp,hj,q⟩:=h
  cases ro
  obtain ⟨t,rfl⟩:=ri
  obtain ⟨its,n,r,ho,hz⟩:=I.lst hp
  obtain ⟨h1,h2,h3,h4⟩:=Cu hj
  have hl:=r.length
  have hn:=qy
  have I':Inv X pins σ (upd H p (.lst (xs.set j v))) { s with heap:=s.heap.update p (Obj.mapSeq (·.setIfInBounds j u)) } :=
    I.Q6 hp ho (zG its n j u) (r.set rv j) (by rw [List.length_set];exact hz) s.toks
  by_cases h0:0≤k
  · have hk:k.toNat=j:=by
      rw [seqIndex_of h0 h4] at h1
      exact Option.some.inj h1
    exact PySem.W.ki_setAt ho h0 (by omega) (by rw [List.size_toArray,← hl];exact h4) (by rw [hk];exact ⟨_,I',q⟩)
  · have hk:(k + (its.toArray.size:Int)).toNat=j:=by
      rw [seqIndex_neg (by omega) h3] at h1
      rw [List.size_toArray,← hl]
      exact Option.some.inj h1
    exact PySem.W.ki_setBack ho (by omega) (by rw [List.size_toArray,← hl];exact h3) (by omega) (by rw [hk];exact ⟨_,I',q⟩)
theorem uP (lo hi:Option Int) (n:Nat):(sliceBounds lo hi none n).1=((HT.sIx n 0 lo:Nat):Int)∧(sliceBounds lo hi none n).2.1=((HT.sIx n n hi:Nat):Int)∧(sliceBounds lo hi none n).2.2=1:=by
  refine ⟨?_,?_,rfl⟩
  · cases lo with
    | none=>simp [sliceBounds,HT.sIx]
    | some i =>
      simp only [sliceBounds,HT.sIx,Option.getD_none,show (1:Int) > 0 by decide,if_true]
      by_cases h:i<0
      · simp only [h,if_true] <;> omega
      · simp only [h,if_false] <;> omega
  · cases hi with
    | none=>simp [sliceBounds,HT.sIx]
    | some i =>
      simp only [sliceBounds,HT.sIx,Option.getD_none,show (1:Int) > 0 by decide,if_true]
      by_cases h:i<0
      · simp only [h,if_true] <;> omega
      · simp only [h,if_false] <;> omega
theorem sU (its:List Value) (lo hi:Option Int):slicePick its.toArray lo hi none=((its.drop (HT.sIx its.length 0 lo)).take (HT.sIx its.length its.length hi - HT.sIx its.length 0 lo)).toArray:=by
  obtain ⟨h1,h2,h3⟩:=uP lo hi its.toArray.size
  unfold slicePick
  rw [h1,h2,h3]
  simp only [sliceRange_one,pick_run,List.size_toArray] <;> rfl
def rSlL (K:PySem.W.Frag):V→Option Int→Option Int→Hp→VK→Prop:=fun x lo hi H Q=>∃ a xs,x=.ref a∧SqL K H a xs∧∀ p,H p=none→Q (.ref p) (upd H p (.lst (vZ xs lo hi)))
theorem qb:SlR X (rSlL X.K):=by
  intro pins s σ H x v vl vu lo hi sl Q I rx hs pl pu h
  obtain ⟨a,xs,rfl,hx,q⟩:=h
  cases rx
  obtain ⟨its,r,ht,hz⟩:=I.list hx
  have hlen:=r.length
  refine ⟨"list",_,slot_list_getitem.lookup,ht.isList.typeIs,?_⟩
  refine wpAny_getItem_list_slice ht.isList hs pl pu .none (by simp) ?_ (by rw [List.size_toArray] <;> omega)
  rw [sU,← hlen]
  refine ⟨.ref s.heap.objs.size,_,I.laid (t':=s.toks) (o:=.lst (vZ xs lo hi)) (fun b ob q=>Heap.get?_push_of_some _ q) (Nat.le_refl _) ?_,rfl,q _ (I.hok.fresh (Nat.le_refl _))⟩
  exact ⟨Nat.le_trans (xg xs lo hi) hz,_,0,(r.drop (HT.sIx xs.length 0 lo)).take (HT.sIx xs.length xs.length hi - HT.sIx xs.length 0 lo),Heap.get?_push_size _ rfl⟩
def tX:V→Bool
  | .non=>true
  | .bl _=>true
  | .int _=>true
  | .str _=>true
  | _=>false
def eqV:V→V→Bool
  | .non,.non=>true
  | .bl a,.bl b=>a == b
  | .bl a,.int b=>(if a then 1 else 0) == b
  | .int a,.bl b=>a == (if b then 1 else 0)
  | .int a,.int b=>a == b
  | .str a,.str b=>a == b
  | _,_=>false
theorem Vn {A:Around} {s:Shared} {y x:V} {u v:Value} (ry:RelV y u) (rx:RelV x v) (fy:tX y=true) (fx:tX x=true):SeqAt.EqAt A s u v (eqV y x):=by
  cases y with
  | non =>
    cases ry
    cases x with
    | non=>cases rx;exact SeqAt.EqAt.same _
    | bl b=>cases rx;exact SeqAt.EqAt.none_bool b
    | int b=>obtain ⟨t,rfl⟩:=rx;exact SeqAt.EqAt.none_int b t
    | str b=>obtain ⟨t,rfl⟩:=rx;exact SeqAt.EqAt.none_str b t
    | _=>exact absurd (show false=true from fx) Bool.false_ne_true
  | bl a =>
    cases ry
    cases x with
    | non=>cases rx;exact SeqAt.EqAt.bool_none a
    | bl b=>cases rx;exact SeqAt.EqAt.bool_bool a b
    | int b=>obtain ⟨t,rfl⟩:=rx;exact SeqAt.EqAt.bool_int a b t
    | str b=>obtain ⟨t,rfl⟩:=rx;exact SeqAt.EqAt.bool_str a b t
    | _=>exact absurd (show false=true from fx) Bool.false_ne_true
  | int a =>
    obtain ⟨t',rfl⟩:=ry
    cases x with
    | non=>cases rx;exact SeqAt.EqAt.int_none a t'
    | bl b=>cases rx;exact SeqAt.EqAt.int_bool a t' b
    | int b=>obtain ⟨t,rfl⟩:=rx;exact SeqAt.EqAt.int_int a t' b t
    | str b=>obtain ⟨t,rfl⟩:=rx;exact SeqAt.EqAt.int_str a t' b t
    | _=>exact absurd (show false=true from fx) Bool.false_ne_true
  | str a =>
    obtain ⟨t',rfl⟩:=ry
    cases x with
    | non=>cases rx;exact SeqAt.EqAt.str_none a t'
    | bl b=>cases rx;exact SeqAt.EqAt.str_bool a t' b
    | int b=>obtain ⟨t,rfl⟩:=rx;exact SeqAt.EqAt.str_int a t' b t
    | str b=>obtain ⟨t,rfl⟩:=rx;exact SeqAt.EqAt.str_str a t' b t
    | _=>exact absurd (show false=true from fx) Bool.false_ne_true
  | _=>exact absurd (show false=true from fy) Bool.false_ne_true
def eqU (x:V) (u:Value):Bool:=match u with
  | .none=>eqV .non x
  | .bool b=>eqV (.bl b) x
  | .int i _=>eqV (.int i) x
  | .str z _=>eqV (.str z) x
  | _=>false
theorem Nf {x y:V} {u:Value} (r:RelV y u) (f:tX y=true):eqU x u=eqV y x:=by
  cases y with
  | non=>cases r;rfl
  | bl b=>cases r;rfl
  | int i=>obtain ⟨t,rfl⟩:=r;rfl
  | str z=>obtain ⟨t,rfl⟩:=r;rfl
  | _=>exact absurd (show false=true from f) Bool.false_ne_true
theorem xu {x:V}:∀ {xs:List V} {us:List Value},Vals xs us→xs.all tX=true→us.any (eqU x)=xs.any fun y=>eqV y x
  | _,_,.nil,_=>rfl
  | y :: xs,u :: us,.cons r t,f=>by
    rw [List.all_cons,Bool.and_eq_true] at f
    rw [List.any_cons,List.any_cons,Nf r f.1,xu t f.2]
theorem tL {A:Around} {s:Shared} {x:V} {v:Value} (rx:RelV x v) (fx:tX x=true):∀ {xs:List V} {us:List Value},Vals xs us→xs.all tX=true→∀ u∈us,SeqAt.EqAt A s u v (eqU x u)
  | _,_,.nil,_=>fun u hu=>by cases hu
  | y :: xs,u :: us,.cons r t,f=>fun u' hu=>by
    rw [List.all_cons,Bool.and_eq_true] at f
    rcases List.mem_cons.mp hu with rfl | hu
    · rw [Nf r f.1];exact Vn r rx f.1 fx
    · exact tL rx fx t f.2 u' hu
def inV (x:V) (xs:List V):Bool:=xs.any fun y=>eqV y x
def rIn (K:PySem.W.Frag) (neg:Bool):R2:=fun x y H Q=>∃ p xs,y=.ref p∧(SqL K H p xs∨SqT K H p xs)∧tX x=true∧xs.all tX=true∧Q (.bl (if neg then !inV x xs else inV x xs)) H
theorem mC:OpR X (compareOp .NotIn) (rIn X.K true):=by
  intro pins s σ H x y v u Q I rx ry h
  obtain ⟨p,xs,rfl,hq,fx,fs,q⟩:=h
  cases ry
  rcases hq with hq | hq
  · obtain ⟨its,r,pl,hz⟩:=I.list hq
    refine SeqAt.notIn_listAt (eqU x) pl.isList (fun w hw=>tL rx fx r fs w (by simpa using hw)) ⟨.bl _,H,I,rfl,?_⟩
    rw [show its.toArray.any (eqU x)=its.any (eqU x) by simp,xu r fs]
    exact q
  · obtain ⟨its,r,pl,hz⟩:=I.tuple hq
    refine SeqAt.notIn_tupleAt (eqU x) pl (fun w hw=>tL rx fx r fs w (by simpa using hw)) ⟨.bl _,H,I,rfl,?_⟩
    rw [show its.toArray.any (eqU x)=its.any (eqU x) by simp,xu r fs]
    exact q
theorem aH:pJ X (.builtin "len") (fun xs H Q=>∃ p ys,xs=[.ref p]∧(SqL X.K H p ys∨SqT X.K H p ys)∧Q (.int ys.length) H):=by
  intro pins s σ H xs us Q I r h
  obtain ⟨p,ys,rfl,hq,q⟩:=h
  obtain ⟨u,rfl,rx⟩:=vals1 r
  cases rx
  have hn:=qy
  rcases hq with hq | hq
  · obtain ⟨its,r',pl,hz⟩:=I.list hq
    have hlen:=r'.length
    exact Calls.call_len_list pl.isList (by simp only [List.size_toArray] <;> omega) ⟨.int ys.length,H,I.tok _,⟨s.toks + 1,by rw [List.size_toArray,hlen]⟩,q⟩
  · obtain ⟨its,r',pl,hz⟩:=I.tuple hq
    have hlen:=r'.length
    exact len_tuple pl (by simp only [List.size_toArray] <;> omega) ⟨.int ys.length,H,I.tok _,⟨s.toks + 1,by rw [List.size_toArray,hlen]⟩,q⟩
theorem bJ:pJ X (.type "list") (fun xs H Q=>∃ p ys,xs=[.ref p]∧(SqL X.K H p ys∨SqT X.K H p ys)∧∀ l,H l=none→Q (.ref l) (upd H l (.lst ys))):=by
  intro pins s σ H xs us Q I r h
  obtain ⟨p,ys,rfl,hq,q⟩:=h
  obtain ⟨u,rfl,rx⟩:=vals1 r
  cases rx
  have fin:∀ (its:List Value),Vals ys its→ys.length≤sizeLine→∀ (h':Heap) (c':Nat),(∀ b o',s.heap.get? b=some o'→h'.get? b=some o') →
      h'.get? s.heap.objs.size=some { cls:=.type "list",dict:=none,data:=.seq its.toArray c',slots:=#[] }→EP X pins σ Q (.ref s.heap.objs.size) { s with heap:=h' }:=fun its r' hz h' c' kp e =>
    ⟨.ref s.heap.objs.size,_,I.laid (t':=s.toks) kp (Nat.le_refl _) (show gH X.prog X.w _ h' _ (.lst ys) from ⟨hz,its,c',r',e⟩),rfl,q _ (I.hok.fresh (Nat.le_refl _))⟩
  rcases hq with hq | hq
  · obtain ⟨its,r',pl,hz⟩:=I.list hq
    have hlen:=r'.length
    obtain ⟨o,ho,hc,n,hd⟩:=pl.isList
    exact call_list_seq p (.inl rfl) ho hc hd (fun h' c' kp e=>fin its r' hz h' c' kp e) (by simp only [List.size_toArray] <;> omega)
  · obtain ⟨its,r',pl,hz⟩:=I.tuple hq
    have hlen:=r'.length
    obtain ⟨o,ho,hc,n,hd⟩:=pl
    exact call_list_seq p (.inr rfl) ho hc hd (fun h' c' kp e=>fin its r' hz h' c' kp e) (by simp only [List.size_toArray] <;> omega)
def tyV (K:PySem.W.Frag) (T:String) (x:V) (H:Hp):Prop:=match x with
  | .str _=>T="str"
  | .int _=>T="int"
  | .ref p=>(T="list"∧∃ xs,SqL K H p xs)∨(T="tuple"∧∃ o,K.lookup p=some o∧o.cls=.type "tuple"∧o.dict=none) ∨
      (T="dict"∧((∃ kvs,H p=some (.dK kvs))∨∃ kvs,H p=some (.dT kvs)))∨(T="set"∧∃ S n,H p=some (.set S n))
  | _=>False
theorem Px {pins:List (Addr × Obj)} {σ:St} {H:Hp} {s:Shared} {T:String} {x:V} {v:Value} (I:Inv X pins σ H s) (r:RelV x v) (ty:tyV X.K T x H) :
    s.TypeIs v T∧∀ a,v=.ref a→∃ ob,s.heap.get? a=some ob∧ob.dict=none:=by
  cases x with
  | str z =>
    obtain ⟨t,rfl⟩:=r
    cases (show T="str" from ty)
    exact ⟨typeIs_str s z t,fun _ e=>nomatch e⟩
  | int i =>
    obtain ⟨t,rfl⟩:=r
    cases (show T="int" from ty)
    exact ⟨typeIs_int s i t,fun _ e=>nomatch e⟩
  | ref p =>
    cases r
    rcases ty with ⟨rfl,xs,hq⟩ | ⟨rfl,o,hk,hc,hd⟩ | ⟨rfl,hk⟩ | ⟨rfl,S,n,hk⟩
    · obtain ⟨its,_,pl,_⟩:=I.list hq
      refine ⟨pl.isList.typeIs,fun a e=>?_⟩
      cases e
      obtain ⟨o,n,e,c,hd,_⟩:=pl
      exact ⟨o,e,hd⟩
    · refine ⟨⟨o,I.kIn p o hk,hc⟩,fun a e=>?_⟩
      cases e
      exact ⟨o,I.kIn _ o hk,hd⟩
    · have z:∃ o,s.heap.get? p=some o∧o.ExactDict:=by
        rcases hk with ⟨kvs,hk⟩ | ⟨kvs,hk⟩
        · obtain ⟨_,_,_,_,o,_,_,e,ex,_⟩:=I.hok p _ hk
          exact ⟨o,e,ex⟩
        · obtain ⟨_,_,_,_,o,_,_,e,ex,_⟩:=I.hok p _ hk
          exact ⟨o,e,ex⟩
      obtain ⟨o,e,ex⟩:=z
      refine ⟨⟨o,e,ex.1⟩,fun a e2=>?_⟩
      cases e2
      exact ⟨o,e,ex.2.1⟩
    · obtain ⟨o,_,_,_,e,ex,_⟩:=I.hok p _ hk
      refine ⟨⟨o,e,ex.1⟩,fun a e2=>?_⟩
      cases e2
      exact ⟨o,e,ex.2.1⟩
  | _=>exact False.elim ty
def tBM (K:PySem.W.Frag) (T:String) (r:V→List V→Hp→VK→Prop) (to:TE) (t:TA):TE:=fun σ H Q=>to σ H fun x H1=>tyV K T x H1∧t σ H1 fun xs H2=>r x xs H2 Q
variable {o e:Expr} {es:List Expr} {to:TE} {t:TA} {name:Str} {apos cpos:Pos} {T id:String} {r:V→List V→Hp→VK→Prop}
theorem mq (pa:PlainAttrs T) (slot:Slot T name id) (hty:typeOf (.builtin id)=pure (.type "method_descriptor")) (hm:MtR X id r) (ho:PE X o to) (ha:PA X (e :: es) t)
    (hbase:attributeBase o name X.env (eval o X.env)=eval o X.env:=by rfl)
    (hfew:((backTo cpos (starEach (e :: es) X.env)).all (fun x=>!x.1) && (backToKw cpos (keywordEach [] X.env)).all (fun x=>x.1.isSome)
      && decide ((e :: es).length + ([]:List Keyword).length + (if ([]:List Keyword).isEmpty then 0 else 1)<30))=true:=by rfl)
    (hline:(apos.endLine == cpos.line)=true:=by rfl) (hs:starEach (e :: es) X.env=(false,eval e X.env) :: starEach es X.env:=by rfl) (hplain:(backTo cpos (starEach es X.env)).any (·.1)=false:=by rfl) :
    PE X (.Call (.Attribute o name apos) (e :: es) [] cpos) (tBM X.K T r to t):=by
  intro pins s σ H Q I h
  refine wpAny_Call_method_late hbase hfew hline rfl (thn (ho pins s σ H _ I h) fun v s1 ⟨x,H1,I1,r1,ty,q1⟩=>?_)
  obtain ⟨h1,h2⟩:=Px I1 r1 ty
  refine ⟨T,id,pa,slot,hty,h1,h2,?_⟩
  have hA:=ha cpos pins s1 σ H1 _ I1 q1
  rw [hs] at hA ⊢
  refine Calls.callWith_builtin (by show (false || (backTo cpos (starEach es X.env)).any (·.1))=false;rw [hplain] <;> rfl) (Calls.evalArgs_plain ?_)
  exact thn hA fun us s2 ⟨vs,H2,I2,r2,q2⟩=>hm pins s2 σ H2 x vs v us Q I2 r1 r2 q2
end
end L2
namespace L2
open PySem PySem.Spec PyProof.Rows
def MtM (X:Cx) (id:String) (r:V→List V→Hp→VK→Prop):Prop :=
  ∀ (pins:List (Addr × Obj)) (s:Shared) (σ:St) (H:Hp) (x:V) (xs:List V) (v:Value) (us:List Value) (Q:VK),Inv X pins σ H s→RelV x v→Vals xs us→r x xs H Q →
    wpAny (model X.prog X.w) X.A (call (.builtin id) (v :: us)) (EP X pins σ Q) X.xe s
theorem Vals.one:∀ {x:V} {us:List Value},Vals [x] us→∃ u,us=[u]∧RelV x u
  | _,_,.cons r .nil=>⟨_,rfl,r⟩
theorem Vals.rep {xs:List V} {us:List Value} (h:Vals xs us):∀ k:Nat,Vals (List.replicate k xs).flatten (List.replicate k us).flatten
  | 0=>.nil
  | k + 1=>by
    rw [List.replicate_succ,List.replicate_succ,List.flatten_cons,List.flatten_cons]
    exact Vals.append h (Vals.rep h k)
theorem foldl_rep (its:List Value):∀ (k:Nat) (acc:List Value),
    List.foldl (fun x1 x2=>x1++x2) acc.toArray (List.replicate k its.toArray)=(acc++(List.replicate k its).flatten).toArray
  | 0,acc=>by simp
  | k + 1,acc=>by
    have e:acc.toArray++its.toArray=(acc++its).toArray:=by simp
    have e2:(acc++its)++(List.replicate k its).flatten=acc++(List.replicate (k + 1) its).flatten:=by
      rw [List.replicate_succ,List.flatten_cons,List.append_assoc]
    rw [← e2,← foldl_rep its k (acc++its),← e,List.replicate_succ,List.foldl_cons]
section
variable {X:Cx} {pins:List (Addr × Obj)} {σ:St} {H:Hp} {s:Shared} {l b:Addr} {xs ys zs:List V}
theorem Inv.lset {its its':List Value} {n:Nat} {f:Array Value→Array Value} {t':Nat} (I:Inv X pins σ H s) (hH:H l=some (.lst xs))
    (e:s.heap.get? l=some { cls:=.type "list",data:=.seq its.toArray n }) (hf:f its.toArray=its'.toArray) (hv:Vals ys its') (hz:ys.length≤sizeLine) :
    Inv X pins σ (upd H l (.lst ys)) { s with heap:=s.heap.update l (Obj.mapSeq f),toks:=t' }:=by
  have q:=PySem.IsL.update e f
  rw [hf] at q
  refine I.write (x:=l) (e:=l) (by rw [hH];exact trivial) (.inl rfl) (fun b' u hb hu=>(Heap.get?_update_other s.heap (Obj.mapSeq f) (Ne.symm hb)).trans hu) ⟨_,q⟩ ?_
  exact ⟨hz,its',_,hv,q⟩
theorem Inv.YF {its:List Value} {t':Nat} (I:Inv X pins σ H s) (hv:Vals ys its) (hz:ys.length≤sizeLine) :
    Inv X pins σ (upd H s.heap.objs.size (.lst ys)) { s with heap:=s.heap.push { cls:=.type "list",data:=.seq its.toArray },toks:=t' } :=
  I.laid (fun _ _ q=>Heap.get?_push_of_some _ q) (Nat.le_refl _) ⟨hz,its,0,hv,Heap.get?_push_size _ rfl⟩
theorem Inv.fresh (I:Inv X pins σ H s):H s.heap.objs.size=none:=I.hok.fresh (Nat.le_refl _)
theorem Inv.VG (I:Inv X pins σ H s) (hH:H l=some (.lst xs)):xs.length≤sizeLine∧∃ (its:List Value) (n:Nat),Vals xs its∧xs.length=its.length∧s.heap.get? l=some { cls:=.type "list",data:=.seq its.toArray n }:=by
  obtain ⟨z,its,n,r,e⟩:=I.hok l _ hH
  exact ⟨z,its,n,r,r.length,e⟩
theorem EY {n:Nat} (h:n≤sizeLine):Builtin.List.listTooLong n=false:=by
  unfold Builtin.List.listTooLong
  exact decide_eq_false (by omega)
end
section
variable {X:Cx}
def Nx:V→List V→Hp→VK→Prop:=fun x vs H Q=>∃ l xs y,x=.ref l∧vs=[y]∧H l=some (.lst xs)∧xs.length<sizeLine∧Q .non (upd H l (.lst (xs++[y])))
theorem cL:MtM X "list.append" Nx:=by
  intro pins s σ H x vs v us Q I rx rv h
  obtain ⟨l,xs,y,rfl,rfl,hH,hz,q⟩:=h
  cases rx
  obtain ⟨u,rfl,ru⟩:=rv.one
  obtain ⟨z,its,n,r,hl,e⟩:=I.VG hH
  refine call_meets F.slot_list_append ⟨_,e,rfl⟩ F.entry_list_append (F.args_list_append_2 _ _) (PySem.list_append l its.toArray n u (by rw [List.size_toArray];omega)) ⟨e,?_⟩
  refine ⟨.non,_,I.lset (its':=its++[u]) hH e (by simp) (r.append (.cons ru .nil)) ?_,rfl,q⟩
  rw [List.length_append,List.length_singleton]
  omega
def rCat:R2:=fun x y H Q=>∃ l b xs zs,x=.ref l∧y=.ref b∧H l=some (.lst xs)∧H b=some (.lst zs)∧xs.length + zs.length≤sizeLine∧∀ p,H p=none→Q (.ref p) (upd H p (.lst (xs++zs)))
theorem G8:OpR X (binaryOp .Add) rCat:=by
  intro pins s σ H x y v u Q I rx ry h
  obtain ⟨l,b,xs,zs,rfl,rfl,hH,hB,hz,q⟩:=h
  cases rx
  cases ry
  obtain ⟨z,its,n,r,hl,e⟩:=I.VG hH
  obtain ⟨z2,its2,n2,r2,hl2,e2⟩:=I.VG hB
  refine PySem.P.add_list e e2 ?_ (by rw [List.size_toArray,List.size_toArray];omega)
  have ea:its.toArray++its2.toArray=(its++its2).toArray:=by simp
  rw [ea]
  exact ⟨.ref _,_,I.YF (t':=s.toks) (r.append r2) (by rw [List.length_append];omega),rfl,q _ I.fresh⟩
def rRep:R2:=fun x y H Q=>∃ l k xs,x=.ref l∧y=.int k∧H l=some (.lst xs)∧-(2 ^ 63)≤k∧k<2 ^ 63∧xs.length * k.toNat≤sizeLine ∧
  ∀ p,H p=none→Q (.ref p) (upd H p (.lst (List.replicate k.toNat xs).flatten))
theorem len_rep {α:Type} (xs:List α) (k:Nat):(List.replicate k xs).flatten.length=k * xs.length:=by
  induction k with
  | zero=>simp
  | succ k ih=>rw [List.replicate_succ,List.flatten_cons,List.length_append,ih,Nat.succ_mul,Nat.add_comm]
theorem qt:OpR X (binaryOp .Mult) rRep:=by
  intro pins s σ H x y v u Q I rx ry h
  obtain ⟨l,k,xs,rfl,rfl,hH,h1,h2,hz,q⟩:=h
  cases rx
  obtain ⟨t,rfl⟩:=ry
  obtain ⟨z,its,n,r,hl,e⟩:=I.VG hH
  have hlen:its.toArray.size * k.toNat≤sizeLine:=by rw [List.size_toArray,← hl];exact hz
  have hcap:¬ its.toArray.size * k.toNat > (2 ^ 63 - 1) / 8:=by
    have:(sizeLine:Nat)≤(2 ^ 63 - 1) / 8:=by decide
    omega
  have hfit:¬ (!Builtin.List.listFitsIndex k)=true:=by
    rw [fitsIndex_both h1 h2]
    exact Bool.false_ne_true
  have hlong:¬ Builtin.List.listTooLong (its.toArray.size * k.toNat)=true:=by
    rw [EY hlen]
    exact Bool.false_ne_true
  have hnew:List.foldl (fun x1 x2=>x1++x2) #[] (List.replicate (if its.toArray.isEmpty=true then 0 else k.toNat) its.toArray)=(List.replicate k.toNat its).flatten.toArray:=by
    have f0:∀ m:Nat,List.foldl (fun x1 x2=>x1++x2) #[] (List.replicate m its.toArray)=(List.replicate m its).flatten.toArray:=fun m=>by
      have:=foldl_rep its m []
      rw [List.nil_append] at this
      exact this
    rw [f0]
    cases its with
    | nil=>simp
    | cons a r'=>rw [if_neg (by simp)]
  refine wpAny_binaryOp_repeat_ref (T:="list") (U:="int") (by decide) ⟨_,e,rfl⟩ (fun s'=>typeIs_int s' k t) noFill_list_mul F.fills_int_mul F.slot_int_rmul repeat_list F.slot_int_index.lookup
    (call_meets F.slot_int_rmul (typeIs_int s k t) F.entry_int_rmul (F.args_int_rmul_2 _ _) (int___rmul___int_list k t l its.toArray n)
      ⟨e,rfl,⟨_,e,rfl⟩,call_meets F.slot_list_mul ⟨_,e,rfl⟩ F.entry_list_mul (F.args_list_mul_2 _ _) (AutoListH.list___mul___list_int_3 l its.toArray n k t hfit hcap hlong) ⟨e,?_⟩⟩)
  rw [hnew]
  exact ⟨.ref _,_,I.YF (t':=s.toks) (r.rep k.toNat) (by rw [len_rep,Nat.mul_comm];exact hz),rfl,q _ I.fresh⟩
end
section
variable {prog:Program} {w:World} {A:Around} {E:Value→Shared→Prop} {s:Shared}
end
section
variable {X:Cx}
end
end L2
namespace Att
open PySem PySem.W PySem.Calls PyProof.Rows
theorem qD {P:Params} {h:Heap}:∀ (ns:List Int) (vs:List Value),WellAll P h vs (ns.map WData.int)→IntsAre vs ns:=by
  intro ns
  induction ns with
  | nil =>
    intro vs w
    rw [List.map_nil] at w
    cases w
    exact .nil
  | cons n ns ih =>
    intro vs w
    rw [List.map_cons] at w
    cases w with
    | cons a b =>
      cases a
      exact .cons _ _ (ih _ b)
theorem Bm {l:OpenLaw} {n:Nat} (hn:l.most=some n) {P:Params} {h:Heap} {args:List WData} {vals:List Value}
    (hpre:l.row.toRowW.claim.pre args=true) (hwl:WellAll P h vals args) :
    ∃ a vs ns,vals=[Value.ref a]∧args=[WData.list (ns.map WData.int)]∧h.get? a=some { cls:=.type "list",data:=.seq vs.toArray }∧IntsAre vs ns∧ns.length≤n:=by
  have hsh:WShape.hasAll [] args [.list .int]=true:=(pre_splitW hpre).1
  have hc:l.pre.holds [] { args:=args }=true:=(pre_splitW hpre).2
  obtain ⟨d,r,rfl,h1,h2⟩:=hasAllW_cons hsh
  obtain rfl:=hasAllW_nil h2
  obtain ⟨xs,rfl,h3⟩:=hasW_list h1
  obtain ⟨ns,rfl⟩:=items_int h3
  have hlen:ns.length≤n:=by
    unfold OpenLaw.pre at hc
    have h4:(WTm.not (.lt (.lit (.int (n:Int))) (.len (.arg 0)))).holds [] { args:=[.list (ns.map .int)] }=true:=by
      have h4:=(holds_andW hc).1
      rw [hn] at h4
      exact h4
    have h5:=condW_of h4 (w_not (w_lt w_lit (w_len_list (w_arg rfl))))
    rw [List.length_map] at h5
    refine Nat.le_of_not_lt fun q=>?_
    have q':(n:Int)<((ns.length:Nat):Int):=by omega
    first
      | (rw [decide_eq_true q'] at h5;exact absurd h5 (by decide))
      | (simp at h5;omega)
  cases hwl with
  | cons w1 w2 =>
    cases w2
    cases w1 with
    | list ho hall=>exact ⟨_,_,ns,rfl,rfl,ho,qD ns _ hall,hlen⟩
theorem Bv (l:OpenLaw) (args:List WData):l.row.toRowW.claim.post args (.bool true) args=true :=
  postW_of (r:=l.row.toRowW) (X:=(true == true))
    (show WShape.has [] (.bool true) .bool=true by first | rfl | decide | simp [WShape.has,WShape.arms,WShape.armsAll])
    (show (WTm.eq .res (.lit (.bool true))).value [] { args:=args,res:=some (.bool true),after:=args }=some (.bool (true == true)) from w_eq_bool (w_res rfl) w_lit) rfl
theorem xr {l:OpenLaw} {n:Nat} {q:Program} {loose:List Str} {XP:(Str→Option Value)→Heap→Prop} {YP:World→Heap→Prop} {d:DefRec}
    (hn:l.most=some n) (hdf:d.params.defaults=[])
    (call:∀ (w:World) (s₀ s₁:Shared) (mg mb:Str→Option Value) (fa:Addr) (o:Obj) (pm cd doc:Value) (a:Addr) (vs:List Value) (ns:List Int),
      Ground q loose [] XP w s₀ mg mb s₁.heap→YP w s₁.heap →
      s₁.heap.get? fa=some o→o.data=.func (docDef d.name d.params d.body d.scope pm cd doc)→s₁.heap.CodeRec cd d.name→mg d.name=some (.ref fa) →
      s₁.heap.get? a=some { cls:=.type "list",data:=.seq vs.toArray }→IntsAre vs ns→ns.length≤n→s₁.gens=#[] →
      codeAny (model l.prog w) callerA (.call (.ref fa) ⟨[.ref a],[]⟩) (fun r s'=>r=.ok (.ret (.bool true))∧OldK s₁.heap s'.heap∧s'.os=s₁.os∧AllBare s'.gens) s₁) :
    WalkO q loose XP YP l.row.toRowW d [] (fun f vs=>PySem.call f vs):=by
  intro w s₀ s₁ mg mb G Y fa o pm cd doc dV kV ho hd hcd hD hmg hg args vals as hpre hlay hrd hwl hlo
  obtain rfl:dV=.none:=Dflts.none hD hdf
  obtain rfl:kV=.none:=Dflts.noKw hD
  obtain ⟨a,vs,ns,rfl,rfl,hobj,hints,hlen⟩:=Bm hn hpre hwl
  refine enter_call (codeAny_mono (call w s₀ s₁ mg mb fa o pm cd doc a vs ns G Y ho (fd_plain hd) hcd hmg hobj hints hlen hg) fun r s' hq=>?_)
  obtain ⟨rfl,h2,h3,h4⟩:=hq
  exact ⟨.inl ⟨.bool true,.bool true,[],rfl,fun _=>rfl,.bool true,Bv l _,fun _=>⟨List.Pairwise.nil,fun _ hm=>(nomatch hm)⟩⟩,h2,h3,h4⟩
section
variable {prog:Program} {w:World} {A:Around} {E:Value→Shared→Prop} {s:Shared} {K:Frag}
end
end Att
namespace L2
open PySem PySem.Spec PyProof.Rows
theorem uw:∀ {vs:List Value} {ns:List Int},IntsAre vs ns→Vals (ns.map V.int) vs
  | _,_,.nil=>.nil
  | _,_,.cons n t h=>.cons ⟨t,rfl⟩ (uw h)
end L2
namespace L2
open PySem PySem.Spec PyProof.Rows
abbrev KOf {K:PySem.W.Frag} {h:Heap} (_:K.In h):PySem.W.Frag:=K
end L2
namespace L2
open PySem PySem.Spec PyProof.Rows
abbrev CX0:CXT:=fun _ _ _ _ _ _=>False
abbrev E0:XK:=fun _ _ _=>False
theorem bD {X:Cx}:Passes CX0 X E0:=fun _ _ _ _ _ _ _ h=>h.elim
structure Fun (K:PySem.W.Frag) (x qual:Str) (st:Stmt) (f:Addr) (fd:FuncData):Prop where
  ex:∃ (oc:Value) (od:Option Addr) (kV doc pm:Value) (an:Option Addr) (cdv ct:Value) (osl:Array (Option Value)),
    fd=PySem.W.fnOf x qual (aF st) (aC st) (ao st) .none kV doc pm an cdv ct∧K.lookup f=some ⟨oc,od,.func fd,osl⟩∧PySem.W.codeIn K cdv qual=true
  kp:PySem.W.keepIn K (.ref f)=true
variable {P:Program} {w:World} {K:PySem.W.Frag} {mg:Str→Option Value} {base:Heap} {T:fZ}
theorem Fun.ok {x qual:Str} {st:Stmt} {f:Addr} {fd:FuncData} {N ps:List Str} {k:Nat} {sp:Sp} (F:Fun K x qual st f fd) (S:aX N ps (ao st)) (len:∀ vs H Q E,sp vs H Q E→vs.length=ps.length)
    (hbody:∀ (cdv:Value) (A:Around) (outer:List Env) (s:Shared) (H:Hp) (vs:List V) (Q:VK) (E:XK),qZ k (A.deeper (envOfC qual (ao st) s.heap.objs.size f cdv))→sp vs H Q E →
      ∃ t,PSs (Ox CX0 P w K mg base N qual (ao st) f cdv A outer s H E).nox (aC st) t∧t { nx:=fun _ H'=>Q .non H',rt:=Q } (start N vs) H):cA P w K mg base CX0 (k + 1) f fd ps sp:=by
  obtain ⟨oc,od,kV,doc,pm,an,cdv,ct,osl,rfl,lk,hcd⟩:=F.ex
  refine Vm lk hcd S len fun A outer s H vs Q E hr hsp=>?_
  obtain ⟨t,h,q⟩:=hbody cdv A outer s H vs Q E hr hsp
  exact ⟨t,h.nox,q⟩
theorem Fun.binds {x qual:Str} {st:Stmt} {f:Addr} {fd:FuncData} {ps:List Str} (F:Fun K x qual st f fd)
    (h:∀ (kV doc pm:Value) (an:Option Addr) (cdv ct:Value) (us:List Value),us.length=ps.length→bindArgs (PySem.W.fnOf x qual (aF st) (aC st) (ao st) .none kV doc pm an cdv ct) ⟨us,[]⟩=pure (ps.zip us)):Binds K fd ps []:=by
  obtain ⟨oc,od,kV,doc,pm,an,cdv,ct,osl,rfl,lk,hcd⟩:=F.ex
  exact .all (h kV doc pm an cdv ct)
theorem bN {x qual:Str} {st:Stmt} {f:Addr} {oc:Value} {od an:Option Addr} {osl:Array (Option Value)} {kV doc pm cdv ct:Value} (l:K.lookup f=some ⟨oc,od,.func (PySem.W.fnOf x qual (aF st) (aC st) (ao st) .none kV doc pm an cdv ct),osl⟩)
    (c:PySem.W.codeIn K cdv qual=true) (k:PySem.W.keepIn K (.ref f)=true):Fun K x qual st f (PySem.W.fnOf x qual (aF st) (aC st) (ao st) .none kV doc pm an cdv ct):=⟨⟨oc,od,kV,doc,pm,an,cdv,ct,osl,rfl,l,c⟩,k⟩
section
variable {X:Cx}
theorem pv (i:Nat) {x:Str} {pos:Pos} (hN:X.N[i]?=some x:=by rfl) (hv:Vis X.env.scope x:=by first | exact Or.inl rfl | exact Or.inr (Or.inl rfl) | exact Or.inr (Or.inr rfl)) (hd:(x == ("__debug__":Str))=false:=by decide)
    (hcd:(x == ("__classdict__":Str))=false:=by decide):PE X (.Name x pos) (Ys i):=Qs hN hv hd hcd
end
theorem pH {A B:Prop} (h:B):if false=true then A else B:=by
  rw [if_neg Bool.false_ne_true]
  exact h
theorem Oo {A B:Prop} (h:A):if true=true then A else B:=by
  rw [if_pos rfl]
  exact h
theorem ite2 {c A B:Prop} [Decidable c] (h1:c→A) (h2:¬ c→B):if c then A else B:=by
  by_cases h:c
  · rw [if_pos h]
    exact h1 h
  · rw [if_neg h]
    exact h2 h
theorem Ri {c A B:Prop} [Decidable c] (hc:c) (h:B):if (!decide c)=true then A else B:=by
  rw [decide_eq_true hc]
  exact pH h
def Same (H H':Hp):Prop:=∀ b o,H b=some o→H' b=some o
theorem Same.refl (H:Hp):Same H H:=fun _ _ h=>h
theorem Same.free {H H':Hp} (e:Same H H') {l:Addr} (h:H' l=Option.none):H l=Option.none:=by
  cases q:H l with
  | none=>rfl
  | some o =>
    rw [e l o q] at h
    cases h
theorem Same.seq {K:PySem.W.Frag} {H H':Hp} {a:Addr} {xs:List V} (e:Same H H') (h:SqL K H a xs):SqL K H' a xs:=by
  rcases h with (h | ⟨o,h⟩) | h
  · exact .inl (.inl (e _ _ h))
  · exact .inl (.inr ⟨o,e _ _ h⟩)
  · exact .inr h
end L2
namespace L2
open PySem PySem.Spec PyProof.Rows
def clo (cells:List (Str × Addr)):List (Str × NameKind)→List (Str × Addr)→List (Str × Addr)
  | [],cs=>cs
  | (n,k) :: r,cs=>clo cells r (if k == .free then (n,(cells.lookup n).getD 0) :: cs else cs)
theorem Dj {env:Env}:∀ (names:List (Str × NameKind)) (cs:List (Str × Addr)),(∀ y∈names,y.2=.free→∃ c,env.cells.lookup y.1=some c) →
    (forIn names cs fun (x:Str × NameKind) (r:List (Str × Addr))=>(do
      let cs:=r
      match x with
      | (name,kind) =>
        if kind == .free then do
          let c ← cellOf env name
          let cs:=(name,c) :: cs
          pure (ForInStep.yield cs)
        else pure (ForInStep.yield cs):Sem (ForInStep (List (Str × Addr)))))=pure (clo env.cells names cs)
  | [],cs,_=>rfl
  | (n,k) :: r,cs,h=>by
    rw [List.forIn_cons]
    by_cases hk:k=.free
    · subst hk
      obtain ⟨c,hc⟩:=h (n,.free) List.mem_cons_self rfl
      have e:cellOf env n=pure c:=by unfold cellOf;rw [hc]
      simp only [beq_self_eq_true,if_true,e,pure_bind]
      rw [Dj r _ fun y hy=>h y (List.mem_cons_of_mem _ hy)]
      simp [clo,hc]
    · have hb:(k == NameKind.free)=false:=by simpa using hk
      simp only [hb,Bool.false_eq_true,if_false,pure_bind]
      rw [Dj r _ fun y hy=>h y (List.mem_cons_of_mem _ hy)]
      simp [clo,hb]
theorem nC {env:Env} {scope:Scope} (h:∀ y∈scope.names,y.2=.free→∃ c,env.cells.lookup y.1=some c):closureFor scope env=pure (clo env.cells scope.names []):=by
  unfold closureFor
  have e:=Dj (env:=env) scope.names [] h
  first
    | (rw [← e];rfl)
    | (simp only [bind_pure];exact e)
    | exact e
theorem Di {cells:List (Str × Addr)}:∀ (names:List (Str × NameKind)) (cs:List (Str × Addr)) (p:Str × Addr),p∈clo cells names cs→p∈cs∨p.2=(cells.lookup p.1).getD 0
  | [],_,_,h=>.inl h
  | (n,k) :: r,cs,p,h=>by
    rcases Di r _ p h with h' | h'
    · by_cases hk:(k == NameKind.free)=true
      · rw [if_pos hk] at h'
        rcases List.mem_cons.mp h' with e | e
        · subst e;exact .inr rfl
        · exact .inl e
      · rw [if_neg hk] at h';exact .inl h'
    · exact .inr h'
theorem yV {cells:List (Str × Addr)}:∀ (names:List (Str × NameKind)) (cs:List (Str × Addr)) (x:Str),(cs.lookup x).isSome=true→((clo cells names cs).lookup x).isSome=true
  | [],_,_,h=>h
  | (n,k) :: r,cs,x,h=>by
    refine yV r _ x ?_
    by_cases hk:(k == NameKind.free)=true
    · rw [if_pos hk]
      rw [List.lookup_cons]
      cases x == n with
      | true=>rfl
      | false=>exact h
    · rw [if_neg hk];exact h
theorem qL {cells:List (Str × Addr)}:∀ (names:List (Str × NameKind)) (cs:List (Str × Addr)) (x:Str),(x,NameKind.free)∈names→((clo cells names cs).lookup x).isSome=true
  | [],_,_,h=>nomatch h
  | (n,k) :: r,cs,x,h=>by
    show ((clo cells r _).lookup x).isSome=true
    rcases List.mem_cons.mp h with e | e
    · have e1:x=n:=congrArg Prod.fst e
      have e2:NameKind.free=k:=congrArg Prod.snd e
      subst e1
      subst e2
      refine yV r _ x ?_
      rw [if_pos (by decide),List.lookup_cons]
      simp
    · exact qL r _ x e
theorem Dh {cells:List (Str × Addr)} {names:List (Str × NameKind)} {x:Str} {c:Addr} (h:(clo cells names []).lookup x=some c):c=(cells.lookup x).getD 0:=by
  rcases Di names [] _ (PySem.mem_of_lookup h) with z | z
  · exact nomatch z
  · exact z
theorem uc {cells:List (Str × Addr)}:∀ {names:List (Str × NameKind)} (cs:List (Str × Addr)) {p:Str × Addr},p∈clo cells names cs→p∈cs∨(p.1,NameKind.free)∈names
  | [],_,_,h=>.inl h
  | (n,k) :: r,cs,p,h=>by
    rcases uc (names:=r) _ h with h' | h'
    · by_cases hk:(k == NameKind.free)=true
      · rw [if_pos hk] at h'
        rcases List.mem_cons.mp h' with e | e
        · subst e
          have:k=.free:=by simpa using hk
          subst this
          exact .inr List.mem_cons_self
        · exact .inl e
      · rw [if_neg hk] at h';exact .inl h'
    · exact .inr (List.mem_cons_of_mem _ h')
def nA (X:Cx) (scope:Scope) (N:List Str) (s:Shared) (H:Hp) (ex:List Addr):Cx :=
  { X with N:=N,s₀:=s,H₀:=H,env:=compEnvC scope (clo X.env.cells scope.names []) s.heap.objs.size X.env,outer:=X.stack,stack:=X.stack,ex:=ex,fn:=fun x=>((clo X.env.cells scope.names []).lookup x).isNone,pn:=[],xe:=fun _ _=>False }
def freeOk (sc scope:Scope):Bool:=scope.names.all fun y=>(y.2 != .free) || (sc.names.lookup y.1 == some .cell) || (sc.names.lookup y.1 == some .free)
def wK (scope:Scope):Bool:=(scope.kind == .function) && (scope.names.all fun y=>y.2 != .cell) && (scope.names.all fun y=>y.2 != .local || scope.names.lookup y.1 == some .local)
def xq (scope:Scope) (N N':List Str) (cap:List (Option Nat)):Bool:=(cap.length == N'.length) && (N'.zip cap).all fun p=>match p.2 with
  | none=>true
  | some j=>N[j]? == some p.1 && scope.names.lookup p.1 == some .free
def Dk (cap:List (Option Nat)) (σ:St):St:=cap.map fun o=>o.bind fun j=>(σ[j]?).bind id
theorem nM {f:Str × NameKind→Str × NameKind} (hf:∀ y,(f y).1=y.1) (x:Str):∀ names:List (Str × NameKind),(names.map f).lookup x=(names.lookup x).map fun k=>(f (x,k)).2
  | []=>rfl
  | (n,k) :: r=>by
    have ih:=nM hf x r
    have e1:(f (n,k)).1=n:=hf (n,k)
    have e2:f (n,k)=(n,(f (n,k)).2):=Prod.ext e1 rfl
    rw [List.map_cons,e2,List.lookup_cons,List.lookup_cons]
    cases hx:x == n with
    | true =>
      have:x=n:=by simpa using hx
      subst this
      rfl
    | false=>exact ih
def rlb (env:Env):Str × NameKind→Str × NameKind:=fun (n,k)=>if (k == NameKind.free && env.scope.kind == .function && env.kindOf n == some .cell) then (n,NameKind.cell) else (n,k)
theorem Br (env:Env) (y:Str × NameKind):(rlb env y).1=y.1:=by
  obtain ⟨n,k⟩:=y
  unfold rlb
  dsimp only
  split <;> rfl
theorem Bq (env:Env) (n:Str) (k:NameKind):(rlb env (n,k)).2=k∨((rlb env (n,k)).2=.cell∧k=.free):=by
  unfold rlb
  dsimp only
  split
  · rename_i h
    rw [Bool.and_eq_true,Bool.and_eq_true] at h
    exact .inr ⟨rfl,by simpa using h.1.1⟩
  · exact .inl rfl
theorem oh (scope:Scope) (env:Env):(relabel scope env).names=scope.names.map (rlb env):=rfl
theorem uV {scope:Scope} {env:Env} {x:Str} (h:scope.names.lookup x=some .free):(relabel scope env).names.lookup x=some .cell∨(relabel scope env).names.lookup x=some .free:=by
  rw [oh,nM (Br env),h]
  rcases Bq env x .free with e | ⟨e,_⟩
  · exact .inr (congrArg some e)
  · exact .inl (congrArg some e)
theorem pA {scope:Scope} {env:Env} {x:Str} {k':NameKind} (hk:k'=.cell∨k'=.free) (hn:∀ y∈scope.names,y.2≠.cell) (h:(relabel scope env).names.lookup x=some k'):(x,NameKind.free)∈scope.names:=by
  rw [oh,nM (Br env)] at h
  cases e:scope.names.lookup x with
  | none=>rw [e] at h;cases h
  | some k =>
    rw [e] at h
    have h':(rlb env (x,k)).2=k':=Option.some.inj h
    have hm:=PySem.mem_of_lookup e
    rcases Bq env x k with z | ⟨_,z⟩
    · rw [z] at h'
      subst h'
      rcases hk with z2 | z2
      · exact absurd z2 (hn _ hm)
      · rw [z2] at hm;exact hm
    · rw [z] at hm;exact hm
def PTs (X:Cx) (ifs:List Expr) (t:TT):Prop :=
  ∀ (pins:List (Addr × Obj)) (s:Shared) (σ:St) (H:Hp) (Q:Bool→Hp→Prop),Inv X pins σ H s→t σ H Q →
    wpAny (model X.prog X.w) X.A (forIn ifs true fun c r=>if r=true then do let ok ← isTrue c X.env (eval c X.env);pure (ForInStep.yield ok) else pure (ForInStep.yield r)) (TP X pins σ Q) X.xe s
def V1:TT:=fun _ H Q=>Q true H
theorem za {i:Nat} {x:V} {τ:St} {H:Hp} {A B:St→Hp→Prop} (h:A (τ.set i (some x)) H):FJ i x τ H fun τ4 H4=>V1 τ4 H4 fun b H5=>if b=true then A τ4 H5 else B τ4 H5:=by
  show if true=true then A (τ.set i (some x)) H else B (τ.set i (some x)) H
  rw [if_pos rfl];exact h
theorem gM {X:Cx}:PTs X [] V1:=fun _ _ _ H _ I h=>wpAny_tests_nil ⟨H,I,h⟩
theorem jU {X:Cx} {c:Expr} {t:TT} (h:PT X c t):PTs X [c] t:=fun pins s σ H Q I hq=>wpAny_tests_one (h pins s σ H Q I hq)
def uF (J:It) (acc:Addr) (g:TG) (tc:TT) (te:TE) (τ:St) (H1:Hp) (Q:Hp→Prop):Prop :=
  ∃ W:Nat→Nat→St→Hp→Prop,(∃ m,W 0 m τ (upd H1 acc (.lst [])))∧∀ i m τ H2,W i m τ H2→(J.stop i H2∧Q H2)∨(J.go i H2∧∃ N:St→Hp→Prop,(∀ τ' H',N τ' H'→∃ m',m'<m∧W (i + 1) m' τ' H')∧∀ x H3,J.yld i H2 x H3→g x τ H3 fun τ4 H4 =>
    tc τ4 H4 fun b H5=>if b=true then te τ4 H5 fun y H6=>∃ ys,H6 acc=some (.lst ys)∧ys.length<sizeLine∧N τ4 (upd H6 acc (.lst (ys++[y]))) else N τ4 H5)
theorem gA {lo:Int} {n:Nat} {acc:Addr} {g:TG} {tc:TT} {te:TE} {τ:St} {H1:Hp} {Q:Hp→Prop} (Pv:Nat→St→Hp→Prop) (h0:Pv 0 τ (upd H1 acc (.lst [])))
    (hs:∀ i τ H,i<n→Pv i τ H→g (.int (lo + i)) τ H fun τ4 H4=>tc τ4 H4 fun b H5=>if b=true then te τ4 H5 fun y H6=>∃ ys,H6 acc=some (.lst ys)∧ys.length<sizeLine∧Pv (i + 1) τ4 (upd H6 acc (.lst (ys++[y]))) else Pv (i + 1) τ4 H5)
    (hd:∀ τ H,Pv n τ H→Q H):uF (Itr lo n) acc g tc te τ H1 Q:=by
  refine ⟨fun i m τ H=>m=n - i∧i≤n∧Pv i τ H,⟨n,by simp,Nat.zero_le _,h0⟩,?_⟩
  rintro i m τ H ⟨rfl,hi,p⟩
  by_cases hlt:i<n
  · refine .inr ⟨hlt,Pv (i + 1),fun τ' H' p'=>⟨n - (i + 1),by omega,rfl,hlt,p'⟩,fun x H' y=>?_⟩
    obtain ⟨e,y⟩:=y
    subst e y
    exact hs i τ _ hlt p
  · have e:i=n:=by omega
    subst e
    exact .inl ⟨Nat.le_refl _,hd τ H p⟩
theorem dO {K:PySem.W.Frag} {a:Addr} {xs:List V} {acc:Addr} {g:TG} {tc:TT} {te:TE} {τ:St} {H1:Hp} {Q:Hp→Prop} (Pv:Nat→St→Hp→Prop) (h0:Pv 0 τ (upd H1 acc (.lst []))) (hl:∀ i τ H,i≤xs.length→Pv i τ H→SqL K H a xs)
    (hs:∀ i x τ H,xs[i]?=some x→Pv i τ H→g x τ H fun τ4 H4=>tc τ4 H4 fun b H5=>if b=true then te τ4 H5 fun y H6=>∃ ys,H6 acc=some (.lst ys)∧ys.length<sizeLine∧Pv (i + 1) τ4 (upd H6 acc (.lst (ys++[y]))) else Pv (i + 1) τ4 H5)
    (hd:∀ τ H,Pv xs.length τ H→Q H):uF (Itl K a) acc g tc te τ H1 Q:=by
  refine ⟨fun i m τ H=>m=xs.length - i∧i≤xs.length∧Pv i τ H,⟨xs.length,by simp,Nat.zero_le _,h0⟩,?_⟩
  rintro i m τ H ⟨rfl,hi,p⟩
  have q:=hl i τ H hi p
  by_cases hlt:i<xs.length
  · refine .inr ⟨⟨xs,xs[i],q,by simp [hlt]⟩,Pv (i + 1),fun τ' H' p'=>⟨xs.length - (i + 1),by omega,rfl,hlt,p'⟩,fun x H' y=>?_⟩
    obtain ⟨e,y⟩:=y
    subst e
    exact hs i x τ _ (y xs q) p
  · have e:i=xs.length:=by omega
    subst e
    exact .inl ⟨⟨xs,q,Nat.le_refl _⟩,hd τ H p⟩
def Nt (wi:TI) (cap:List (Option Nat)) (g:TG) (tc:TT) (te:TE):TE:=fun σ H Q=>wi σ H fun J H1=>∀ acc,H1 acc=none→uF J acc g tc te (Dk cap σ) H1 (fun H2=>Q (.ref acc) H2)
abbrev Vr (ifs:List Expr) (env:Env):Sem Bool:=forIn ifs true fun c r=>if r=true then do let ok ← isTrue c env (eval c env);pure (ForInStep.yield ok) else pure (ForInStep.yield r)
abbrev wpQ {α:Type} (prog:Program) (w:World) (A:Around) (m:Sem α) (Q:α→Shared→Prop) (s:Shared):Prop:=wpAny (model prog w) A m Q (fun _ _=>False) s
theorem Dc {prog:Program} {w:World} {A:Around} {R:Result→Shared→Prop} {s:Shared} {elt target iter:Expr} {ifs:List Expr} {scope:Scope} {pos:Pos} {it acc:Value} {env:Env} (I:Nat→Shared→Prop)
    (turn:∀ k s0,I k s0→wpQ prog w A (pyNext it) (fun r s1=>(r=none∧R (.ok .next) s1)∨∃ v,r=some v ∧
      wpQ prog w A (letOwnedTupleGo target it v) (fun _ s2=>wpQ prog w A (assign target env v) (fun _ s3=>wpQ prog w A (Vr ifs env) (fun ok s4 =>
        (ok=false∧∃ m,m<k∧I m s4)∨(ok=true∧wpQ prog w A (eval elt env) (fun x s5=>wpQ prog w A (call (.builtin "list.append") [acc,x]) (fun _ s6=>∃ m,m<k∧I m s6) s5) s4)) s3) s2) s1) s0)
    (k:Nat) (h:I k s):codeAny (model prog w) A (.compLoop (.ListComp elt [⟨target,iter,ifs,0⟩] scope pos) 0 it acc env) R s:=by
  have quiet:∀ (e:Value) (s':Shared),False→notedBy (model prog w) A env (fun e s'=>R (.error e) s') e s':=fun _ _ z=>z.elim
  apply codeAny_loop rfl I _ k h
  intro k s0 start
  apply wpAny_noted
  rw [compTurn_list]
  apply wpAny_bind
  apply wpAny_standAt
  apply wpAny_bind
  apply wpAny_mono (turn k s0 start) _ quiet
  rintro r s1 (⟨rfl,stop⟩ | ⟨v,rfl,rest⟩)
  · exact wpAny_pure stop
  apply wpAny_bind
  apply wpAny_mono rest _ quiet
  intro _ s2 h2
  apply wpAny_bind
  apply wpAny_mono h2 _ quiet
  intro _ s3 h3
  apply wpAny_bind
  apply wpAny_mono h3 _ quiet
  rintro ok s4 (⟨rfl,skip⟩ | ⟨rfl,add⟩)
  · exact wpAny_pure ⟨rfl,skip⟩
  apply wpAny_bind
  apply wpAny_bind
  apply wpAny_mono add _ quiet
  intro x s5 h5
  apply wpAny_bind
  apply wpAny_mono h5 _ quiet
  intro _ s6 h6
  exact wpAny_pure (wpAny_pure ⟨rfl,h6⟩)
section
variable {X:Cx} {tg iter elt:Expr} {ifs:List Expr} {scope:Scope} {pos:Pos} {wi:TI} {N':List Str} {cap:List (Option Nat)} {g:TG} {tc:TT} {te:TE}
theorem rO {use:Option (Value→Sem Unit)} {R:Value→Shared→Prop} (sc:Scope) (hsc:X.env.scope=sc) (N₀:List Str) (hN₀:X.N=N₀) (f1:freeOk sc scope=true) (f2:wK scope=true) (f3:xq scope N₀ N' cap=true) (hcalm:X.calm=true)
    (hi:PI X tg iter wi)
    (hg:∀ (s:Shared) (H:Hp) (ex:List Addr),PG (nA X scope N' s H ex) tg g)
    (hc:∀ (s:Shared) (H:Hp) (ex:List Addr),PTs (nA X scope N' s H ex) ifs tc)
    (he:∀ (s:Shared) (H:Hp) (ex:List Addr),PE (nA X scope N' s H ex) elt te)
    (hs:∀ x,foldedSetIterable iter X.env x=pure x)
    {pins:List (Addr × Obj)} {s:Shared} {σ:St} {H:Hp} {Q:V→Hp→Prop} (I:Inv X pins σ H s) (h:Nt wi cap g tc te σ H Q)
    (fin:∀ (acc C:Addr) (s':Shared) (H':Hp) (m:Str→Option Value),Inv X pins σ H' s'→s'.heap.Ns C m→H' C=none→C≠X.env.locals→X.s₀.heap.objs.size≤C→(∀ x c,X.env.cells.lookup x=some c→c≠C)→(∀ p∈X.pn++pins,p.1≠C)→Q (.ref acc) H' →
      compPost (model X.prog X.w) X.A X.xe use R (.ref acc) C (.ok .next) s') :
    wpAny (model X.prog X.w) X.A (comprehension (.ListComp elt [⟨tg,iter,ifs,0⟩] scope pos) scope X.env (firstIterPos [⟨tg,iter,ifs,0⟩] pos) (newList []) false (firstIter [⟨tg,iter,ifs,0⟩] X.env) use) R X.xe s:=by
  have ok:=I.ok
  have fr:∀ y∈scope.names,y.2=.free→X.env.kindOf y.1=some .cell∨X.env.kindOf y.1=some .free:=fun y hy e=>by
    have q:=List.all_eq_true.mp f1 y hy
    rw [e] at q
    have q':((sc.names.lookup y.1 == some NameKind.cell) || (sc.names.lookup y.1 == some NameKind.free))=true:=by simpa using q
    rw [Bool.or_eq_true] at q'
    unfold Env.kindOf
    rw [hsc]
    rcases q' with z | z
    · exact .inl (by simpa using z)
    · exact .inr (by simpa using z)
  obtain ⟨⟨k1,k2⟩,k3⟩:((scope.kind == .function)=true∧(scope.names.all fun y=>y.2 != .cell)=true)∧(scope.names.all fun y=>y.2 != .local || scope.names.lookup y.1 == some .local)=true:=by
    unfold wK at f2
    rw [Bool.and_eq_true,Bool.and_eq_true] at f2
    exact f2
  have hkind:scope.kind=.function:=by simpa using k1
  have hcell:∀ y∈scope.names,y.2≠.cell:=fun y hy=>by
    have q:=List.all_eq_true.mp k2 y hy
    simpa using q
  have hnames:∀ y∈scope.names,y.2=.local→scope.names.lookup y.1=some .local:=fun y hy e=>by
    have q:=List.all_eq_true.mp k3 y hy
    rw [e] at q
    simpa using q
  have hclos:closureFor scope X.env=pure (clo X.env.cells scope.names []):=nC fun y hy e=>ok.has y.1 (fr y hy e)
  have clX:∀ x c,(clo X.env.cells scope.names []).lookup x=some c→X.env.cells.lookup x=some c:=fun x c e=>by
    have e1:=Dh e
    have hx:(x,NameKind.free)∈scope.names:=by
      rcases uc [] (PySem.mem_of_lookup e) with z | z
      · exact nomatch z
      · exact z
    obtain ⟨c',e2⟩:=ok.has x (fr (x,.free) hx rfl)
    rw [e2] at e1 ⊢
    rw [e1];rfl
  refine wpAny_comprehension_free (use:=use) rfl hs hclos hkind hnames ?_
  show wpAny (model X.prog X.w) X.A (eval iter X.env) _ X.xe s
  refine thn (hi pins s σ H _ I h) fun v s1 h1=>thn h1 fun itv s2 h2=>?_
  obtain ⟨it,fp,tn,J,H2,e,I2,T,st2,f2',h3⟩:=h2
  subst e
  refine wpAny_newObj_type ?_
  have fresh2:H2 s2.heap.objs.size=none:=I2.hok.fresh (Nat.le_refl _)
  have I3:Inv X pins σ (upd H2 s2.heap.objs.size (.lst [])) { s2 with heap:=s2.heap.push { cls:=.type "list",data:=.seq ([]:List Value).toArray } } :=
    I2.laid (t':=s2.toks) (fun b o e=>Heap.get?_push_of_some _ e) (Nat.le_refl _) ⟨Nat.zero_le _,[],0,.nil,Heap.get?_push_size _ rfl⟩
  have st3:tn 0 (s2.heap.push { cls:=.type "list",data:=.seq ([]:List Value).toArray }):=T.keep _ _ _ st2 fun b _ o e=>Heap.get?_push_of_some _ e
  have fpne:∀ b∈fp,b≠s2.heap.objs.size:=fun b hb z=>by
    obtain ⟨o,eo,_⟩:=T.obj 0 _ st2 b hb
    exact absurd (Heap.lt_size eo) (by rw [z];exact Nat.lt_irrefl _)
  have fp3:∀ b∈fp,wg X pins (upd H2 s2.heap.objs.size (.lst [])) b:=fun b hb=>by
    obtain ⟨a0,a1⟩:=f2' b hb
    exact ⟨by rw [bF (fpne b hb)];exact a0,a1⟩
  obtain ⟨W,⟨m0,w0⟩,turn⟩:=h3 s2.heap.objs.size fresh2
  generalize hacc:s2.heap.objs.size=acc at I3 fp3 w0 turn fpne ⊢
  generalize hs3:({ s2 with heap:=s2.heap.push { cls:=.type "list",data:=.seq ([]:List Value).toArray } }:Shared)=s3 at I3 ⊢
  have st3:tn 0 s3.heap:=by rw [← hs3];exact st3
  have accTr:(upd H2 acc (.lst [])) acc=some (.lst []):=cU
  refine wpAny_newFunctionEnv hcell (by intro y hy;cases hy) (fun h4 hns hsb=>?_) hkind
  have hCf:s3.heap.get? s3.heap.objs.size=none:=Heap.get?_none_of_le (Nat.le_refl _)
  have kp4:∀ b o,s3.heap.get? b=some o→h4.get? b=some o:=fun b o e=>hsb.extBut b o (Nat.ne_of_lt (Heap.lt_size e)) (Heap.get?_push_of_some _ e)
  let Y:Cx:=nA X scope N' s3 (upd H2 acc (.lst [])) fp
  have envY:Y.env=compEnvC scope (clo X.env.cells scope.names []) s3.heap.objs.size X.env:=rfl
  have okY:Y.Ok:=by
    refine ⟨ok.mod,?_,ok.glob,ok.blt,Nat.le_refl _,?_,?_,?_,ok.hd,ok.frames,.inl rfl,?_,?_,?_,?_,?_,?_,?_⟩
    · show (relabel scope X.env).kind=.function
      exact hkind
    · exact fun x y c h1 h2=>ok.inj x y c (clX x c h1) (clX y c h2)
    · intro x hx
      have hx':(relabel scope X.env).names.lookup x=some .cell∨(relabel scope X.env).names.lookup x=some .free:=hx
      have hm:(x,NameKind.free)∈scope.names:=by
        rcases hx' with z | z
        · exact pA (.inl rfl) hcell z
        · exact pA (.inr rfl) hcell z
      exact Option.isSome_iff_exists.mp (qL scope.names [] x hm)
    · intro x c hx h1
      have hx':((clo X.env.cells scope.names []).lookup x).isNone=true:=hx
      have h1':(clo X.env.cells scope.names []).lookup x=some c:=h1
      rw [h1'] at hx';cases hx'
    · intro b hb
      obtain ⟨q0,q1,q2,q3,q4,q5⟩:=fp3 b hb
      refine ⟨?_,fun x c h1=>q4 x c (clX x c h1)⟩
      obtain ⟨o,eo,_⟩:=T.obj 0 _ st3 b hb
      exact Nat.ne_of_lt (Heap.lt_size eo)
    · exact fun b o e=>I3.bs b o e
    · exact Nat.le_trans ok.bsz I3.sz
    · intro b o e hb
      obtain ⟨q0,q1,q2,q3,q4,q5⟩:=fp3 b hb
      rcases q3 with z | z
      · exact ok.noex b o e z
      · exact absurd (Nat.lt_of_lt_of_le (Heap.lt_size e) (Nat.le_trans ok.bsz z)) (Nat.lt_irrefl _)
    · intro b hb hf
      obtain ⟨q0,q1,q2,q3,q4,q5⟩:=fp3 b hb
      rcases List.mem_cons.mp (I3.Am b hf) with z | z
      · exact q1 z
      · exact q2 z
    · exact I3.stack
    · exact I3.wz
  have capl:cap.length=N'.length∧∀ p∈N'.zip cap,(match p.2 with | none=>true | some j=>N₀[j]? == some p.1 && scope.names.lookup p.1 == some .free)=true:=by
    unfold xq at f3
    rw [Bool.and_eq_true] at f3
    exact ⟨by simpa using f3.1,fun p hp=>List.all_eq_true.mp f3.2 p hp⟩
  have IY:Inv Y [] (Dk cap σ) (upd H2 acc (.lst [])) { s3 with heap:=h4,toks:=s3.toks + ([]:List (Str × Value)).length }:=by
    refine ⟨okY,rfl,I3.bare,Un.kept kp4,⟨_,hns,?_⟩,?_,?_,?_,fun p hp=>absurd (show p∈([]:List (Addr × Obj)) from hp) (by simp),I3.hok.kept kp4,?_⟩
    · intro i x v e1 e2 e3
      have e1':N'[i]?=some x:=e1
      unfold Dk at e2
      rw [List.getElem?_map] at e2
      cases ec:cap[i]? with
      | none=>rw [ec] at e2;cases e2
      | some o =>
        rw [ec] at e2
        cases o with
        | none=>cases e2
        | some j =>
          have e2':(σ[j]?).bind id=some v:=by simpa using e2
          have hz:(x,some j)∈N'.zip cap:=by
            refine List.mem_of_getElem? (i:=i) ?_
            rw [List.getElem?_zip_eq_some]
            exact ⟨e1',ec⟩
          have q:=capl.2 _ hz
          have q':(N₀[j]? == some x)=true∧(scope.names.lookup x == some NameKind.free)=true:=by simpa [Bool.and_eq_true] using q
          have q1:X.N[j]?=some x:=by rw [hN₀];simpa using q'.1
          have q2:scope.names.lookup x=some .free:=by simpa using q'.2
          have eσ:σ[j]?=some (some v):=by
            cases z:σ[j]? with
            | none=>rw [z] at e2';cases e2'
            | some y =>
              rw [z] at e2'
              have:y=some v:=e2'
              rw [this]
          have hk:=fr (x,.free) (PySem.mem_of_lookup q2) rfl
          obtain ⟨m,hn,hl⟩:=I3.loc
          have vis:Vis X.env.scope x:=by
            rcases hk with z | z
            · exact .inr (.inl z)
            · exact .inr (.inr z)
          obtain ⟨u,r,l⟩:=hl j x v q1 eσ vis
          refine ⟨u,r,.inr ⟨?_,?_⟩⟩
          · rcases uV (scope:=scope) (env:=X.env) q2 with z | z
            · exact .inl z
            · exact .inr z
          · rcases l with ⟨kl,_⟩ | ⟨_,c,ecx,hcx⟩
            · rcases hk with z | z
              · have z':X.env.kindOf x=some .cell:=z
                rw [kl] at z';cases z'
              · have z':X.env.kindOf x=some .free:=z
                rw [kl] at z';cases z'
            · have hh:=qL (cells:=X.env.cells) scope.names [] x (PySem.mem_of_lookup q2)
              obtain ⟨c',ec'⟩:=Option.isSome_iff_exists.mp hh
              have ec2:=clX x c' ec'
              rw [ecx] at ec2
              cases ec2
              exact ⟨c,ec',hcx.keeps kp4⟩
    · intro x c e
      obtain ⟨v,z⟩:=I3.cell x c (clX x c e)
      exact ⟨v,z.keeps kp4⟩
    · exact I3.hok.fresh (Nat.le_refl _)
    · exact fun x c e=>I3.freeC x c (clX x c e)
    · show (Dk cap σ).length=N'.length
      unfold Dk
      rw [List.length_map];exact capl.1
  have fpY:∀ {H':Hp},(∀ b∈fp,H' b=none)→∀ b∈fp,wg Y [] H' b:=fun {H'} hn b hb=>by
    obtain ⟨q0,q1,q2,q3,q4,q5⟩:=fp3 b hb
    refine ⟨hn b hb,(okY.exf b hb).1,okY.exfs b hb,.inl hb,(okY.exf b hb).2,fun p hp=>absurd (show p∈([]:List (Addr × Obj)) from hp) (by simp)⟩
  have st4:tn 0 h4:=T.keep _ _ _ st3 fun b _ o e=>kp4 b o e
  have back:∀ {τ:St} {H':Hp} {s':Shared},Inv Y [] τ H' s'→Q (.ref acc) H'→compPost (model X.prog X.w) X.A X.xe use R (.ref acc) s3.heap.objs.size (.ok .next) s':=fun {τ H' s'} J q=>by
    have un:Un (frs X.stack) fp (upd H2 acc (.lst [])) H' s3.heap s'.heap:=J.base
    have IX:Inv X pins σ H' s':=I3.call' (J.os) un J.hok J.bare fun b hb=>by
      obtain ⟨q0,q1,q2,q3,q4,q5⟩:=fp3 b hb
      exact ⟨q3,q1,q4,q5⟩
    obtain ⟨m,hn,_⟩:=J.loc
    refine fin acc s3.heap.objs.size s' H' m IX hn J.free (Nat.ne_of_gt I3.lt) I3.sz (fun x c e z=>?_) (fun p hp z=>?_) q
    · obtain ⟨v,q⟩:=I3.cell x c e
      exact absurd q.lt (by rw [z];exact Nat.lt_irrefl _)
    · exact absurd (Heap.lt_size (I3.pin p hp).1) (by rw [z];exact Nat.lt_irrefl _)
  have loop:∀ s5:Shared,s5={ s3 with heap:=h4,toks:=s3.toks + ([]:List (Str × Value)).length } →
      codeAny (model X.prog X.w) X.A (.compLoop (.ListComp elt [⟨tg,iter,ifs,0⟩] scope pos) 0 (.ref it) (.ref acc) Y.env) (compPost (model X.prog X.w) X.A X.xe use R (.ref acc) s3.heap.objs.size) s5:=by
    rintro s5 rfl
    refine Dc (fun n s'=>∃ i τ H',Inv Y [] τ H' s'∧tn i s'.heap∧(∀ b∈fp,H' b=none)∧W i n τ H') ?_ m0 ⟨0,_,_,IY,st4,fun b hb=>(fp3 b hb).1,w0⟩
    rintro n s6 ⟨i,τ,H6,I6,st6,fr6,w6⟩
    rcases turn i n τ H6 w6 with ⟨stop,q⟩ | ⟨go,N,hN,step⟩
    · refine wpAny_mono (T.done Y rfl rfl rfl hcalm i [] s6 τ H6 (fun _ _=>False) I6 (fpY fr6) st6 stop) (fun r s7 ⟨hr,I7⟩=>?_) fun _ _ z=>z.elim
      exact .inl ⟨hr,back I7 q⟩
    · refine wpAny_mono (T.item Y rfl rfl rfl hcalm i [] s6 τ H6 (fun _ _=>False) I6 (fpY fr6) st6 go) (fun r s6b ⟨u,hr,h7⟩=>?_) fun _ _ z=>z.elim
      refine .inr ⟨u,hr,?_⟩
      refine wpAny_mono h7 (fun _ s7 ⟨x,H7,I7,r7,y7,st7,fr7⟩=>?_) fun _ _ z=>z.elim
      have I7':=I7.pinned (fpY fr7) (T.obj _ _ st7)
      have again:∀ {τ8:St} {H8:Hp} {s8:Shared},Inv Y ([]++uY fp s7.heap) τ8 H8 s8→N τ8 H8→∃ m,m<n∧∃ i τ H',Inv Y [] τ H' s8∧tn i s8.heap∧(∀ b∈fp,H' b=none)∧W i m τ H':=fun {τ8 H8 s8} I8 n8=>by
        obtain ⟨m',hm,w8⟩:=hN τ8 H8 n8
        refine ⟨m',hm,i + 1,τ8,H8,I8.jE,T.keep _ _ _ st7 fun b hb o e=>(I8.pin (b,o) (List.mem_append_right _ (List.mem_append_right _ (mY hb e)))).1,fun b hb=>?_,w8⟩
        obtain ⟨o,e,d⟩:=T.obj _ _ st7 b hb
        exact (I8.pin (b,o) (List.mem_append_right _ (List.mem_append_right _ (mY hb e)))).2.1
      refine wpAny_mono (hg s3 (upd H2 acc (.lst [])) fp _ s7 τ H7 x u _ I7' r7 (step x H7 y7)) (fun _ s8 ⟨τ8,H8,I8,q8⟩=>?_) fun _ _ z=>z.elim
      refine wpAny_mono (hc s3 (upd H2 acc (.lst [])) fp _ s8 τ8 H8 _ I8 q8) (fun b s9 ⟨H9,I9,q9⟩=>?_) fun _ _ z=>z.elim
      cases b with
      | false =>
        rw [if_neg Bool.false_ne_true] at q9
        exact .inl ⟨rfl,again I9 q9⟩
      | true =>
        rw [if_pos rfl] at q9
        refine .inr ⟨rfl,?_⟩
        refine wpAny_mono (he s3 (upd H2 acc (.lst [])) fp _ s9 τ8 H9 _ I9 q9) (fun y s10 ⟨yv,H10,I10,r10,ys,hl,hz,q10⟩=>?_) fun _ _ z=>z.elim
        refine wpAny_mono (cL (X:=Y) _ s10 τ8 H10 (.ref acc) [yv] (.ref acc) [y] (fun v H'=>N τ8 H') I10 rfl (.cons r10 .nil) ⟨acc,ys,yv,rfl,rfl,hl,hz,q10⟩) (fun v s11 ⟨vv,H11,I11,r11,q11⟩=>?_) fun _ _ z=>z.elim
        exact again I11 q11
  exact codeAny_compStart_list (loop _ rfl) (T.self _ _ _ _ _ st4 (loop _ rfl))
theorem gD (sc:Scope) (hsc:X.env.scope=sc) (N₀:List Str) (hN₀:X.N=N₀) (N':List Str) (cap:List (Option Nat)) (f1:freeOk sc scope=true) (f2:wK scope=true) (f3:xq scope N₀ N' cap=true) (hcalm:X.calm=true)
    (hi:PI X tg iter wi)
    (hg:∀ (s:Shared) (H:Hp) (ex:List Addr),PG (nA X scope N' s H ex) tg g)
    (hc:∀ (s:Shared) (H:Hp) (ex:List Addr),PTs (nA X scope N' s H ex) ifs tc)
    (he:∀ (s:Shared) (H:Hp) (ex:List Addr),PE (nA X scope N' s H ex) elt te)
    (hs:∀ x,foldedSetIterable iter X.env x=pure x:=by intro _;rfl) :
    PE X (.ListComp elt [⟨tg,iter,ifs,0⟩] scope pos) (Nt wi cap g tc te):=by
  intro pins s σ H Q I h
  rw [eval_ListComp]
  refine rO (use:=none) sc hsc N₀ hN₀ f1 f2 f3 hcalm hi hg hc he hs I h ?_
  intro acc C s' H' m IX hn hC h1 h2 h3 h4 q
  refine ⟨m,hn,fun h'' hs''=>?_⟩
  exact ⟨.ref acc,H',IX.turned (t':=s'.toks) (fun b o hb e=>(hs''.2 b hb).trans e) hC h1 (.inr h2) h3 h4,rfl,q⟩
theorem fP {i:Nat} {x:Str} {pos' spos:Pos} (sc:Scope) (hsc:X.env.scope=sc) (N₀:List Str) (hN₀:X.N=N₀) (N':List Str) (cap:List (Option Nat)) (f1:freeOk sc scope=true) (f2:wK scope=true) (f3:xq scope N₀ N' cap=true) (hcalm:X.calm=true)
    (hnd:X.N.Nodup) (hix:X.N[i]?=some x) (hx:X.env.scope.names.lookup x=some .local)
    (hi:PI X tg iter wi)
    (hg:∀ (s:Shared) (H:Hp) (ex:List Addr),PG (nA X scope N' s H ex) tg g)
    (hc:∀ (s:Shared) (H:Hp) (ex:List Addr),PTs (nA X scope N' s H ex) ifs tc)
    (he:∀ (s:Shared) (H:Hp) (ex:List Addr),PE (nA X scope N' s H ex) elt te)
    (hsw:swapsWith (.ListComp elt [⟨tg,iter,ifs,0⟩] scope pos) (some (.Name x pos')) spos.line X.env=pure true)
    (hs:∀ x,foldedSetIterable iter X.env x=pure x:=by intro _;rfl) :
    PS X (.Assign [.Name x pos'] (.ListComp elt [⟨tg,iter,ifs,0⟩] scope pos) spos) (Wa (Nt wi cap g tc te) (FJ i)):=by
  intro pins s σ H D I h
  rw [exec_Assign_Name_used _ _ _ _ hsw]
  refine wpAny_bind (wpAny_standAt (wpAny_bind ?_))
  show wpAny _ X.A (do let _ ← comprehension (.ListComp elt [⟨tg,iter,ifs,0⟩] scope pos) scope X.env _ (newList []) false (firstIter [⟨tg,iter,ifs,0⟩] X.env) (some (assign (.Name x pos') X.env))) _ _ s
  refine wpAny_bind (wpAny_mono (rO (use:=some (assign (.Name x pos') X.env)) (R:=fun _ s'=>SP X pins D .next s') sc hsc N₀ hN₀ f1 f2 f3 hcalm hi hg hc he hs I h ?_) (fun _ s' hq=>wpAny_pure (wpAny_pure hq)) fun _ _ e=>e)
  intro acc C s' H' m IX hn hC h1 h2 h3 h4 q
  show wpAny _ X.A (assign (.Name x pos') X.env (.ref acc)) _ _ _
  refine wpAny_assign_Name (uH (v:=.ref acc) IX hnd hix (.inl hx) rfl (fun s2 I2 hsb=>?_) (.inr hx))
  obtain ⟨a,sb,ha⟩:=hsb
  have hCa:C≠a:=by
    rcases ha with z | z
    · rw [z];exact h1
    · exact fun w=>h3 x a z w.symm
  refine ⟨m,hn.sameBut sb hCa,fun h'' hs''=>?_⟩
  exact ⟨_,H',I2.turned (t':=s2.toks) (fun b o hb e=>(hs''.2 b hb).trans e) hC h1 (.inr h2) h3 h4,q⟩
end
end L2
namespace L2
open PySem PySem.Spec PyProof.Rows
section
variable {X:Cx}
def WL (K:PySem.W.Frag):V→V→Hp→VK→Prop:=fun x y H Q=>∃ p xs j v,x=.ref p∧y=.int (j:Nat)∧SqL K H p xs∧xs[j]?=some v∧Q v H
theorem lN:YX X (WL X.K):=by
  intro pins s σ H o i ov iv Q I ro ri h
  obtain ⟨p,xs,j,z,rfl,rfl,hq,he,q⟩:=h
  cases ro
  obtain ⟨t,rfl⟩:=ri
  obtain ⟨its,r,pl,hz⟩:=I.list hq
  obtain ⟨w,ew,rw'⟩:=r.get he
  have hl:=r.length
  have hn:=qy
  have hj:j<xs.length:=(List.getElem?_eq_some_iff.mp he).1
  exact wpAny_getItem_list pl.isList (by omega) (by omega) (by rw [Int.toNat_natCast];simpa using ew) ⟨z,H,I,rw',q⟩
def rEqL (K:PySem.W.Frag) (neg:Bool):R2:=fun x y H Q=>∃ (a b:Addr) (ns ms:List Int),x=.ref a∧y=.ref b∧SqL K H a (ns.map V.int)∧SqL K H b (ms.map V.int)∧Q (.bl (if neg then !decide (ns=ms) else decide (ns=ms))) H
theorem lO:pJ X (.builtin "isinstance") (fun xs H Q=>∃ x t c b,xs=[x,.ty c]∧xG X.K H x t∧PySem.W.kitOne X.K t (.type c)=some b∧Q (.bl b) H):=by
  intro pins s σ H xs us Q I r h
  obtain ⟨x,t,c,b,rfl,ty,e,q⟩:=h
  obtain ⟨u,w,rfl,ru,rw'⟩:=vals2 r
  obtain rfl:w=Value.type c:=rw'
  exact Cv I ru ty e fun tk=>⟨.bl b,H,I.tok tk,rfl,q⟩
theorem zA:∀ (bs:List Bool),((List.range bs.length).all fun i=>(bs[i]?).getD true)=bs.all id:=by
  intro bs
  rw [Bool.eq_iff_iff]
  simp only [List.all_eq_true,List.mem_range,id_eq]
  constructor
  · intro h b hb
    obtain ⟨i,hi,e⟩:=List.getElem_of_mem hb
    have:=h i hi
    rw [List.getElem?_eq_getElem hi,e] at this
    exact this
  · intro h i hi
    rw [List.getElem?_eq_getElem hi]
    exact h _ (List.getElem_mem hi)
theorem Gj (hc:X.calm=true):pJ X (.builtin "all") (fun xs H Q=>∃ (p:Addr) (bs:List Bool),xs=[.ref p]∧SqL X.K H p (bs.map V.bl)∧Q (.bl (bs.all id)) H):=by
  intro pins s σ H xs us Q I r h
  obtain ⟨p,bs,rfl,hq,q⟩:=h
  obtain ⟨u,rfl,ru⟩:=vals1 r
  cases ru
  obtain ⟨its,r1,p1,hz⟩:=I.list hq
  have hl:=p1.isList
  have hlt:p<s.heap.objs.size:=p1.lt
  have hlen:=r1.length
  rw [List.length_map] at hlen
  refine call_all_walk (wpAny_pyIter_list hl ?_)
  refine ⟨s.heap.objs.size,[s.heap.objs.size,p],[s.heap.objs.size],its.toArray.size,_,_,fun i=>(bs[i]?).getD true,rfl,Walks.list (A:=X.A.in1) (I.ok.hd hc) _ p (Nat.ne_of_lt hlt) its.toArray,
    ⟨⟨_,Heap.get?_push_size _ rfl,rfl,rfl⟩,hl.push _⟩,fun i v s' Q' E' hP hQ=>?_,fun h' tk hk=>?_⟩
  · have hP':its[i]?=some v:=by simpa using hP
    have hi:i<bs.length:=by
      have:=(List.getElem?_eq_some_iff.mp hP').1
      omega
    obtain ⟨u,eu,ru⟩:=r1.get (x:=.bl bs[i]) (by rw [List.getElem?_map,List.getElem?_eq_getElem hi];rfl)
    rw [hP'] at eu
    cases eu
    cases ru
    dsimp only at hQ
    rw [List.getElem?_eq_getElem hi] at hQ
    exact wpAny_truthy_bool hQ
  · have e:((List.range its.toArray.size).all fun i=>(bs[i]?).getD true)=bs.all id:=by
      rw [List.size_toArray,← hlen];exact zA bs
    rw [e]
    refine ⟨.bl _,H,I.kept fun b o eo=>hk b o (fun hm=>?_) (Heap.get?_push_of_some _ eo),rfl,q⟩
    rw [List.mem_singleton.mp hm] at eo
    exact Nat.lt_irrefl _ (Heap.lt_size eo)
end
end L2
namespace L2
open PySem PySem.Spec PyProof.Rows
section
variable {X:Cx} {st:Stmt} {rest:List Stmt} {t u:TS}
def sH (t u:TS):TS:=fun D σ H=>∃ M:St→Hp→Prop,t { D with nx:=M } σ H∧∀ σ' H',M σ' H'→u D σ' H'
theorem ou (h1:PS X st t) (h2:PSs X rest u):PSs X (st :: rest) (sH t u):=by
  intro pins s σ H D I h
  obtain ⟨M,ha,hb⟩:=h
  refine wpAny_execs_cons (thn (h1 pins s σ H { D with nx:=M } I ha) fun f s1 q=>?_)
  cases f with
  | next =>
    obtain ⟨σ',H',I',q⟩:=q
    exact h2 pins s1 σ' H' D I' (hb σ' H' q)
  | ret v=>exact q
  | brk=>exact q
  | cont=>exact q
end
end L2
namespace L2
open PySem PySem.Spec PyProof.Rows
def VL (H:Hp) (P:List V→Prop) (Q:VK):Prop:=∀ (l:Addr) (H':Hp) (xs:List V),Same H H'→H l=none→H' l=some (.lst xs)→P xs→Q (.ref l) H'
structure Df (K:PySem.W.Frag) (mg:Str→Option Value) (x:Str) (st:Stmt) (ps:List Str) (a:Addr) (fd:FuncData):Prop where
  F:Fun K x x st a fd
  b:Binds K fd ps []
  m:mg x=some (.ref a)
theorem Same.upd {H H':Hp} {l:Addr} {o:HO} (s:Same H H') (h:H l=none):Same H (L2.upd H' l o):=fun b u e=>by
  rw [bF (cB e h)];exact s b u e
theorem ints_get {ns:List Int} {i:Nat} {y:V} (h:(ns.map V.int)[i]?=some y):∃ z,ns[i]?=some z∧y=V.int z:=by
  rw [List.getElem?_map] at h
  cases e:ns[i]? with
  | none=>rw [e] at h;cases h
  | some z=>rw [e] at h;exact ⟨z,rfl,(Option.some.inj h).symm⟩
theorem bh {ns:List Int} {i:Nat} {z:Int} (h:ns[i]?=some z):atI (ns.map V.int) (i:Int)=some (V.int z):=bR (by rw [List.getElem?_map,h];rfl)
theorem lM {ns:List Int} {i:Int} {z:Int} (h0:0≤i) (h:ns[i.toNat]?=some z):atI (ns.map V.int) i=some (V.int z):=by
  obtain ⟨k,rfl⟩:=Int.eq_ofNat_of_zero_le h0
  exact bh (by simpa using h)
theorem jY {n j:Nat} (h:j<n):ixN n (j:Int)=some j:=by
  unfold ixN
  rw [if_pos (by omega),if_pos (by omega)];simp
theorem Nv {α:Type} (n:Nat) (x:α):(List.replicate n [x]).flatten=List.replicate n x:=by
  induction n with
  | zero=>rfl
  | succ n ih=>rw [List.replicate_succ,List.flatten_cons,ih,List.replicate_succ];rfl
theorem jF {n:Nat} (h:n≤100000):n≤sizeLine:=Nat.le_trans h (by decide)
theorem aP {n:Nat} (h:n≤100000):n<sizeLine:=Nat.lt_of_le_of_lt h (by decide)
structure Blt (mg:Str→Option Value):Prop where
  len:mg "len"=none
  range:mg "range"=none
  list:mg "list"=none
  isinstance:mg "isinstance"=none
  bool:mg "bool"=none
  int:mg "int"=none
  all:mg "all"=none
  min:mg "min"=none
  max:mg "max"=none
  sum:mg "sum"=none
  sorted:mg "sorted"=none
  zip:mg "zip"=none
  tuple:mg "tuple"=none
  str:mg "str"=none
  any:mg "any"=none
  enumerate:mg "enumerate"=none
  reversed:mg "reversed"=none
  abs:mg "abs"=none
  ValueError:mg "ValueError"=none
structure Mth (mg:Str→Option Value):Prop where
  MOUTH:∃ t,mg "MOUTH"=some (.int (-1) t)
section
variable {X:Cx} {K:PySem.W.Frag}
theorem bM (h:X.K=K):IxR X (Yx K):=h ▸ aG
theorem lK (h:X.K=K):IxR X (Yw K):=h ▸ cX
theorem ud (h:X.K=K):pJ X (.builtin "len") (fun xs H Q=>∃ p ys,xs=[.ref p]∧(SqL K H p ys∨SqT K H p ys)∧Q (.int ys.length) H):=h ▸ aH
theorem sZ (h:X.K=K):OpR X (compareOp .NotIn) (rIn K true):=h ▸ mC
end
end L2
namespace L2
open PySem PySem.W PyProof.Rows
structure Arr (N:Nat) (p:Array Nat):Prop where
  size:p.size=N
  perm:p.toList.Perm (List.range N)
theorem Arr.start (N:Nat):Arr N (List.toArray (List.range N)):=⟨by simp,by simp⟩
theorem Arr.nd {N:Nat} {p:Array Nat} (h:Arr N p):p.toList.Nodup:=h.perm.nodup_iff.mpr List.nodup_range
theorem Arr.get {N:Nat} {p:Array Nat} (h:Arr N p) {i:Nat} (hi:i<N):p.toList[i]?=some (p.getD i 0):=by
  have hi':i<p.size:=by rw [h.size];exact hi
  simp [Array.getD,hi']
theorem Arr.lt {N:Nat} {p:Array Nat} (h:Arr N p) {i:Nat} (hi:i<N):p.getD i 0<N:=by
  have:=h.perm.mem_iff.mp (List.mem_of_getElem? (h.get hi))
  exact List.mem_range.mp this
theorem Arr.ne {N:Nat} {p:Array Nat} (h:Arr N p) {i j:Nat} (hi:i<N) (hj:j<N) (hij:i≠j):p.getD i 0≠p.getD j 0:=by
  intro e
  obtain ⟨a1,a2⟩:=List.getElem?_eq_some_iff.mp (h.get hi)
  obtain ⟨b1,b2⟩:=List.getElem?_eq_some_iff.mp (h.get hj)
  exact hij ((List.getElem_inj h.nd).mp (by rw [a2,b2,e]))
theorem Arr.BX {N:Nat} {p q:Array Nat} (h:Arr N p) (hs:q.size=p.size) (hp:q.Perm p):Arr N q:=⟨hs.trans h.size,(Array.perm_iff_toList_perm.mp hp).trans h.perm⟩
theorem Arr.rev {N:Nat} {p:Array Nat} (h:Arr N p) (i j:Nat):Arr N (kas_rev p i j):=h.BX (mirror_size _ _ _ _) (mirror_perm _ _ _ _)
theorem Arr.bub {N:Nat} {p:Array Nat} (h:Arr N p) (k d:Nat):Arr N (bubble p k d):=h.BX (bubble_size _ _ _) (bubble_perm _ _ _)
theorem tU {p q:Array Nat} {i j:Nat} (h:p[i]?=q[j]?):p.getD i 0=q.getD j 0:=by
  rw [Array.getD_eq_getD_getElem?,Array.getD_eq_getD_getElem?,h]
theorem Bs {N:Nat} {p:Array Nat} (h:Arr N p) {n k:Nat} (hn:n≤N) (hk:k<n):(kas_rev p 0 n).getD k 0=p.getD (n - 1 - k) 0:=by
  refine tU ?_
  unfold kas_rev
  rw [getElem?_mirror (by rw [h.size];exact hn) ((n - 0) / 2) (by omega) k]
  split
  · congr 1;omega
  · congr 1;omega
theorem Dq {N:Nat} {p:Array Nat} (h:Arr N p) {k l j:Nat} (hk:k<N) (hl:l≤k):(bubble p k (k - l)).getD j 0=if j=l then p.getD k 0 else if l<j∧j≤k then p.getD (j - 1) 0 else p.getD j 0:=by
  have e:=getElem?_bubble (xs:=p) (src:=k) (by rw [h.size];exact hk) (k - l) (by omega) j
  have e1:k - (k - l)=l:=by omega
  rw [e1] at e
  by_cases h1:j=l
  · rw [if_pos h1] at e ⊢;exact tU e
  · rw [if_neg h1] at e ⊢
    by_cases h2:l<j∧j≤k
    · rw [if_pos h2] at e ⊢;exact tU e
    · rw [if_neg h2] at e ⊢;exact tU e
section
variable {N:Nat} {κ:Nat→Int} {R:Shared→Prop} {cmp:Nat→Nat→(Bool→Shared→Prop)→Shared→Prop}
def Srt (κ:Nat→Int) (p:Array Nat) (n:Nat):Prop:=∀ i j,i<j→j<n→κ (p.getD i 0)<κ (p.getD j 0)
def Dsc (κ:Nat→Int) (p:Array Nat) (n:Nat):Prop:=∀ i j,i<j→j<n→κ (p.getD j 0)<κ (p.getD i 0)
def Cmp (N:Nat) (κ:Nat→Int) (R:Shared→Prop) (cmp:Nat→Nat→(Bool→Shared→Prop)→Shared→Prop):Prop :=
  ∀ i j C s,i<N→j<N→R s→(∀ s',R s'→C (decide (κ i<κ j)) s')→cmp i j C s
def Inj (N:Nat) (κ:Nat→Int):Prop:=∀ i j,i<N→j<N→i≠j→κ i≠κ j
theorem Srt.snoc {p:Array Nat} {n:Nat} (h:Srt κ p n) (hn:1≤n) (e:κ (p.getD (n - 1) 0)<κ (p.getD n 0)):Srt κ p (n + 1):=fun i j hij hj=>by
  by_cases hjn:j=n
  · subst hjn
    by_cases hi:i=j - 1
    · rw [hi];exact e
    · have:=h i (j - 1) (by omega) (by omega)
      omega
  · exact h i j hij (by omega)
theorem Dsc.snoc {p:Array Nat} {n:Nat} (h:Dsc κ p n) (hn:1≤n) (e:κ (p.getD n 0)<κ (p.getD (n - 1) 0)):Dsc κ p (n + 1):=fun i j hij hj=>by
  by_cases hjn:j=n
  · subst hjn
    by_cases hi:i=j - 1
    · rw [hi];exact e
    · have:=h i (j - 1) (by omega) (by omega)
      omega
  · exact h i j hij (by omega)
variable (hc:Cmp N κ R cmp) (hI:Inj N κ)
include hc hI
theorem sE {p:Array Nat} (A:Arr N p) {Q:Nat→Shared→Prop}:∀ (f n:Nat) (s:Shared),1≤n→n + f=N→Srt κ p n→R s →
    (∀ m s',n≤m→m≤N→Srt κ p m→(m<N→κ (p.getD m 0)<κ (p.getD (m - 1) 0))→R s'→Q m s')→(kas_asc p f n).kasWp cmp Q s
  | 0,n,s,h1,hf,hS,r,k=>k n s (Nat.le_refl _) (by omega) hS (fun z=>by omega) r
  | f + 1,n,s,h1,hf,hS,r,k=>by
    unfold kas_asc
    refine hc _ _ _ s (A.lt (by omega)) (A.lt (by omega)) r fun s' r'=>?_
    by_cases hlt:κ (p.getD n 0)<κ (p.getD (n - 1) 0)
    · rw [decide_eq_true hlt];dsimp only;rw [if_pos rfl]
      exact k n s' (Nat.le_refl _) (by omega) hS (fun _=>hlt) r'
    · rw [decide_eq_false hlt];dsimp only;rw [if_neg Bool.false_ne_true]
      have hne:=hI _ _ (A.lt (show n<N by omega)) (A.lt (show n - 1<N by omega)) (A.ne (show n<N by omega) (show n - 1<N by omega) (by omega))
      exact sE A f (n + 1) s' (by omega) (by omega) (hS.snoc h1 (by omega)) r' fun m s2 a b c d e=>k m s2 (by omega) b c d e
theorem uD {p:Array Nat} (A:Arr N p) {Q:Array Nat × Nat × Nat→Shared→Prop}:∀ (f n:Nat) (s:Shared),1≤n→n + f=N→Dsc κ p n→R s →
    (∀ m s',n≤m→m≤N→Dsc κ p m→R s'→Q (p,m,0) s')→(kas_desc f p n 0).kasWp cmp Q s
  | 0,n,s,h1,hf,hS,r,k=>k n s (Nat.le_refl _) (by omega) hS r
  | f + 1,n,s,h1,hf,hS,r,k=>by
    unfold kas_desc
    refine hc _ _ _ s (A.lt (by omega)) (A.lt (by omega)) r fun s' r'=>?_
    by_cases hlt:κ (p.getD n 0)<κ (p.getD (n - 1) 0)
    · rw [decide_eq_true hlt];dsimp only;rw [if_pos rfl,if_neg (by omega)]
      exact uD A f (n + 1) s' (by omega) (by omega) (hS.snoc h1 hlt) r' fun m s2 a b c d=>k m s2 (by omega) b c d
    · rw [decide_eq_false hlt];dsimp only;rw [if_neg Bool.false_ne_true]
      have hne:=hI _ _ (A.lt (show n<N by omega)) (A.lt (show n - 1<N by omega)) (A.ne (show n<N by omega) (show n - 1<N by omega) (by omega))
      refine hc _ _ _ s' (A.lt (by omega)) (A.lt (by omega)) r' fun s2 r2=>?_
      rw [decide_eq_true (by omega)];dsimp only;rw [if_pos rfl]
      exact k n s2 (Nat.le_refl _) (by omega) hS r2
theorem zq {p:Array Nat} (A:Arr N p) (h2:2≤N) {Q:Nat × Array Nat→Shared→Prop} {s:Shared} (r:R s)
    (k:∀ m p' s',1≤m→m≤N→Arr N p'→Srt κ p' m→R s'→Q (m,p') s'):(kas_count N p).kasWp cmp Q s:=by
  unfold kas_count
  rw [KasT.kasWp_bind]
  refine sE hc hI A (N - 1) 1 s (Nat.le_refl _) (by omega) (fun i j a b=>by omega) r fun n s' h1 hn hS hd r'=>?_
  by_cases hnN:n=N
  · rw [if_pos (by simp [hnN])]
    exact k n p s' h1 hn A hS r'
  · rw [if_neg (by simp [hnN])]
    have hd':=hd (by omega)
    by_cases h1n:n > 1
    · rw [if_pos h1n]
      refine hc _ _ _ s' (A.lt (by omega)) (A.lt (by omega)) r' fun s2 r2=>?_
      rw [decide_eq_true (hS 0 (n - 1) (by omega) (by omega))];dsimp only;rw [if_pos rfl]
      exact k n p s2 h1 hn A hS r2
    · rw [if_neg h1n]
      have hn1:n=1:=by omega
      subst hn1
      unfold kas_descPart
      rw [KasT.kasWp_bind]
      refine uD hc hI A (N - 2) 2 s' (by omega) (by omega) (fun i j a b=>?_) r' fun m s2 hm2 hm hD r2=>?_
      · have hi:i=0:=by omega
        have hj:j=1:=by omega
        subst hi;subst hj
        exact hd'
      · rw [if_neg (by show ¬ (0:Nat) > 0;omega)]
        show (kas_tail3 m N p).kasWp cmp Q s2
        unfold kas_tail3
        rw [KasT.kasWp_bind]
        refine sE hc hI (A.rev 0 m) (N - m) m s2 (by omega) (by omega) (fun i j a b=>?_) r2 fun m' s3 a b c d e=>?_
        · rw [Bs A hm (by omega),Bs A hm (by omega)]
          exact hD _ _ (by omega) (by omega)
        · exact k m' _ s3 (by omega) b (A.rev 0 m) c e
theorem oO {p:Array Nat} (A:Arr N p) {k:Nat} (hk:k<N) (hS:Srt κ p k) {Q:Nat→Shared→Prop}:∀ (f l r:Nat) (s:Shared),l≤r→r≤k→r - l≤f →
    (∀ i,i<l→κ (p.getD i 0)<κ (p.getD k 0))→(∀ i,r≤i→i<k→κ (p.getD k 0)<κ (p.getD i 0))→R s →
    (∀ l s',l≤k→(∀ i,i<l→κ (p.getD i 0)<κ (p.getD k 0))→(∀ i,l≤i→i<k→κ (p.getD k 0)<κ (p.getD i 0))→R s'→Q l s')→(kas_place p k f l r).kasWp cmp Q s
  | 0,l,r,s,h1,h2,hf,ha,hb,hr,q=>by
    have e:l=r:=by omega
    subst e
    exact q l s h2 ha hb hr
  | f + 1,l,r,s,h1,h2,hf,ha,hb,hr,q=>by
    unfold kas_place
    by_cases hlr:l ≥ r
    · rw [if_pos hlr]
      have e:l=r:=by omega
      subst e
      exact q l s h2 ha hb hr
    · rw [if_neg hlr]
      have m1:(l + r) / 2<r:=by omega
      have m0:l≤(l + r) / 2:=by omega
      refine hc _ _ _ s (A.lt hk) (A.lt (by omega)) hr fun s' r'=>?_
      by_cases hlt:κ (p.getD k 0)<κ (p.getD ((l + r) / 2) 0)
      · rw [decide_eq_true hlt];dsimp only;rw [if_pos rfl]
        refine oO A hk hS f l ((l + r) / 2) s' m0 (by omega) (by omega) ha (fun i hi hik=>?_) r' q
        by_cases he:i=(l + r) / 2
        · rw [he];exact hlt
        · have:=hS ((l + r) / 2) i (by omega) hik
          omega
      · rw [decide_eq_false hlt];dsimp only;rw [if_neg Bool.false_ne_true]
        have hne:=hI _ _ (A.lt hk) (A.lt (show (l + r) / 2<N by omega)) (A.ne hk (show (l + r) / 2<N by omega) (by omega))
        refine oO A hk hS f ((l + r) / 2 + 1) r s' (by omega) h2 (by omega) (fun i hi=>?_) hb r' q
        by_cases he:i=(l + r) / 2
        · rw [he];omega
        · have:=hS i ((l + r) / 2) (by omega) (by omega)
          omega
theorem xW {Q:Array Nat→Shared→Prop} (q:∀ p s',Arr N p→Srt κ p N→R s'→Q p s'):∀ (f:Nat) (p:Array Nat) (k:Nat) (s:Shared),Arr N p→k + f=N→Srt κ p k→R s→(kas_bin f p k).kasWp cmp Q s
  | 0,p,k,s,A,hf,hS,r=>by
    have e:k=N:=by omega
    subst e
    exact q p s A hS r
  | f + 1,p,k,s,A,hf,hS,r=>by
    unfold kas_bin
    rw [KasT.kasWp_bind]
    refine oO hc hI A (show k<N by omega) hS k 0 k s (Nat.zero_le _) (Nat.le_refl _) (by omega) (fun i hi=>by omega) (fun i a b=>by omega) r fun l s' hl ha hb r'=>?_
    refine xW q f _ (k + 1) s' (A.bub k (k - l)) (by omega) (fun i j hij hj=>?_) r'
    rw [Dq A (by omega) hl,Dq A (by omega) hl]
    by_cases h1:i=l
    · rw [if_pos h1,if_neg (by omega),if_pos (by omega)]
      exact hb _ (by omega) (by omega)
    · rw [if_neg h1]
      by_cases h2:j=l
      · rw [if_pos h2,if_neg (by omega)]
        exact ha _ (by omega)
      · rw [if_neg h2]
        by_cases h3:l<i∧i≤k
        · rw [if_pos h3,if_pos (by omega)]
          exact hS _ _ (by omega) (by omega)
        · rw [if_neg h3]
          by_cases h4:l<j∧j≤k
          · rw [if_pos h4]
            by_cases h5:i<j - 1
            · exact hS _ _ h5 (by omega)
            · omega
          · rw [if_neg h4]
            exact hS _ _ hij (by omega)
theorem uz (h2:2≤N) {Q:Array Nat→Shared→Prop} {s:Shared} (r:R s) (q:∀ p s',Arr N p→Srt κ p N→R s'→Q p s'):(kas_sort N).kasWp cmp Q s:=by
  unfold kas_sort
  rw [KasT.kasWp_bind]
  refine zq hc hI (Arr.start N) h2 r fun m p' s' h1 hm A hS r'=>?_
  by_cases hlt:m<N
  · rw [if_pos hlt]
    have e:max m 1=m:=by omega
    rw [e]
    exact xW hc hI q _ p' m s' A (by omega) hS r'
  · rw [if_neg hlt]
    have e:m=N:=by omega
    subst e
    exact q p' s' A hS r'
end
end L2
namespace L2
open PySem PySem.Spec PyProof.Rows
section
variable {X:Cx} {pins:List (Addr × Obj)} {σ:St} {H:Hp} {s:Shared} {a:Addr} {o:HO}
theorem Inv.adopt (I:Inv X pins σ H s) (hn:H a=none) (hL:a≠X.env.locals) (h0:X.s₀.heap.objs.size≤a) (hc:∀ x c,X.env.cells.lookup x=some c→c≠a) (hp:∀ p∈X.pn++pins,p.1≠a)
    (new:gH X.prog X.w (upd H a o) s.heap a o):Inv X pins σ (upd H a o) s:=by
  have ne:∀ b u,H b=some u→b≠a:=fun b u e=>cB e hn
  refine ⟨I.ok,I.os,I.bare,⟨I.base.keep,I.base.slot,fun b ob e n hx=>?_,I.base.there,fun b xs e=>?_,fun b ob xs e=>?_,fun b ps e=>?_⟩,I.loc,I.cell,?_,fun x c e=>?_,fun p hq=>?_,fun b u e=>?_,I.len⟩
  · rw [bF (Nat.ne_of_lt (Nat.lt_of_lt_of_le (Heap.lt_size e) h0))];exact I.base.free b ob e n hx
  · have:=I.base.tups b xs e;rw [bF (ne b _ this)];exact this
  · have:=I.base.frzs b ob xs e;rw [bF (ne b _ this)];exact this
  · obtain ⟨m,e1⟩:=I.base.tbls b ps e;exact ⟨m,by rw [bF (ne b _ e1)];exact e1⟩
  · rw [bF hL.symm];exact I.free
  · rw [bF (hc x c e)];exact I.freeC x c e
  · obtain ⟨e1,n,r⟩:=I.pin p hq;exact ⟨e1,by rw [bF (hp p hq)];exact n,r⟩
  · by_cases hb:b=a
    · subst hb;rw [cU] at e;cases e;exact new
    · rw [bF hb] at e
      exact (I.hok b u e).stay (fun _ _ _ q=>q) (fun c q=>by rw [bF (ne c _ q)];exact q) fun c xs q=>by rw [bF (ne c _ q)];exact q
end
section
variable {prog:Program} {w:World} {A:Around} {E:Value→Shared→Prop} {s:Shared}
theorem tZ {r:Addr} {b:Int} {t u v:Tok} {n:Nat} {Q:List Value→Shared→Prop} (hh:A.handled=none) (hr:IsRange s.heap r 0 b 1 t u v) (hsmall:Builtin.Range.small 0 b 1=true)
    (hn:Builtin.Range.rangeSize 0 b 1=n) (hlen:n≤2 ^ 24)
    (h:∀ h' tk vs,(∀ b o,s.heap.get? b=some o→h'.get? b=some o)→Vals ((List.range n).map fun (i:Nat)=>V.int (i:Int)) vs→Q vs { s with heap:=h',toks:=tk }) :
    wpAny (model prog w) A (collect (.ref r)) Q E s:=by
  unfold collect
  refine wpAny_bind (wpAny_runValue (codeAny_builtin entry_proto_collect' ?_))
  show wpAny _ _ (do again (.builtin "list.__iadd__" ⟨[← newList [],.ref r],[]⟩)) _ _ s
  refine wpAny_bind (wpAny_newList (wpAny_pure ⟨Code.quiet_builtin _ (by decide +kernel),codeAny_builtin entry_list_iadd' ?_⟩))
  have e1:A.under (.builtin "proto.collect" ⟨[.ref r],[]⟩)=A.in1:=Around.under_plainId F.plain_proto_collect _
  have e2:A.under (.builtin "list.__iadd__" ⟨[.ref s.heap.objs.size,.ref r],[]⟩)=A.in1:=Around.under_plainId F.plain_list_iadd _
  rw [e2]
  show wpAny _ A.in1 (Builtin.List.listExtendWith (.ref s.heap.objs.size) (.ref r) (.ref s.heap.objs.size)) _ _ { s with heap:=s.heap.push (seqObj "list" #[] 0) }
  have hS:(s.heap.push (seqObj "list" #[] 0)).get? s.heap.objs.size=some { cls:=.type "list",data:=.seq #[] 0 }:=Heap.get?_push_size _ rfl
  have hr':IsRange (s.heap.push (seqObj "list" #[] 0)) r 0 b 1 t u v:=Heap.get?_push_of_some _ hr
  refine wpAny_mono (wpAny_extend_range (A:=A) (R:=fun r s'=>match r with
      | .ok (.ret v)=>wpAny (model prog w) A (match v with
          | .ref a=>do
            let o ← load a
            match o.data with
            | .seq xs _=>pure xs.toList
            | _=>unsupported "internal:collect"
          | _=>unsupported "internal:collect") Q E s'
      | .ok _=>False
      | .error e=>E e s') (s:={ s with heap:=s.heap.push (seqObj "list" #[] 0) }) hh hr' hsmall hn hlen s.heap.objs.size (.ref s.heap.objs.size) 0 hS fun h' tk acc c hk hS' hacc=>?_) (fun fin s' q=>?_) (fun e s' q=>q)
  case refine_2 =>
    cases fin with
    | done f=>exact q
    | again c'=>exact q
  show wpAny (model prog w) A (do
      let o ← load s.heap.objs.size
      match o.data with
      | .seq xs _=>pure xs.toList
      | _=>unsupported "internal:collect") Q E { s with heap:=h',toks:=tk }
  refine wpAny_bind (wpAny_load hS' ?_)
  refine wpAny_pure (h h' tk acc.toList (fun b o e=>hk b o (Nat.ne_of_lt (Heap.lt_size e)) (Heap.get?_push_of_some _ e)) ?_)
  have hsz:acc.toList.length=n:=by rw [Array.length_toList];exact hacc.1
  have key:∀ (k:Nat) (l:List Value),l.length=k→(∀ (j:Nat) (v:Value),l[j]?=some v→∃ t,v=.int ((n - k + j:Nat):Int) t)→k≤n→Vals ((List.range' (n - k) k).map fun (i:Nat)=>V.int (i:Int)) l:=by
    intro k
    induction k with
    | zero =>
      intro l hl _ _
      have:l=[]:=List.length_eq_zero_iff.mp hl
      subst this
      exact .nil
    | succ k ih =>
      intro l hl hP hk
      match l,hl with
      | v :: l,hl =>
        have hl':l.length=k:=by simpa using hl
        rw [List.range'_succ,List.map_cons]
        obtain ⟨t,ht⟩:=hP 0 v rfl
        refine .cons ⟨t,?_⟩ ?_
        · rw [ht];rfl
        · have e:n - (k + 1) + 1=n - k:=by omega
          rw [e]
          refine ih l hl' (fun j v' e'=>?_) (by omega)
          obtain ⟨t',ht'⟩:=hP (j + 1) v' (by simpa using e')
          exact ⟨t',by rw [ht'];congr 2;omega⟩
  have:=key n acc.toList hsz (fun j v e=>by
    obtain ⟨t,ht⟩:=hacc.2 j v (by simpa using e)
    refine ⟨t,?_⟩
    rw [ht]
    congr 1
    omega) (Nat.le_refl _)
  rw [Nat.sub_self,← List.range_eq_range'] at this
  exact this
end
end L2
namespace L2
open PySem PySem.W PySem.Spec PyProof.Rows
section
variable {prog:Program} {w:World} {A:Around} {E:Value→Shared→Prop} {s:Shared}
theorem qC {Q:Bool→Shared→Prop}:∀ {xs ys:List Value} {ns ms:List Int},IntsAre xs ns→IntsAre ys ms→ns.length=ms.length→∀ i:Nat,Q (HT.lexLt ns ms) s→KatLex prog w A true false Q (xs.zip ys) i s
  | _,_,_,_,.nil,.nil,_,i,q=>by rw [List.zip_nil_left];exact kat_nil q
  | _,_,_,_,.nil,.cons _ _ _,hl,_,_=>by simp at hl
  | _,_,_,_,.cons _ _ _,.nil,hl,_,_=>by simp at hl
  | _,_,_,_,.cons a t hx,.cons c u hy,hl,i,q=>by
    rw [List.zip_cons_cons]
    refine kat_cons (wpAny_eqBool_int ?_)
    rw [HT.gZ] at q
    by_cases h:a=c
    · rw [if_pos h] at q
      have e:(a == c)=true:=by simp [h]
      rw [e]
      exact kat_yes (qC hx hy (by simpa using hl) (i + 1) q)
    · rw [if_neg h] at q
      have e:(a == c)=false:=by simp [h]
      rw [e]
      refine kat_no ?_
      by_cases hi:i=0
      · have ei:(true && i == 0)=true:=by simp [hi]
        rw [ei]
        exact oneLt_int q
      · have ei:(true && i == 0)=false:=by simp [hi]
        rw [ei]
        exact kat_one _ _ (lt_int q)
structure Keys (h:Heap) (ks:List Value) (key:Nat→List Int) (N len:Nat):Prop where
  size:ks.length=N
  at_:∀ i,i<N→∃ t its,ks[i]?=some (.ref t)∧IsTup h t its.toArray∧IntsAre its (key i)
  long:∀ i,i<N→(key i).length=len + 1
theorem Keys.cmp {ks:List Value} {key:Nat→List Int} {N len:Nat} {κ:Nat→Int} (K:Keys s.heap ks key N len) (hκ:∀ i j,i<N→j<N→HT.lexLt (key i) (key j)=decide (κ i<κ j)) :
    Cmp N κ (fun s'=>s'=s) (kas_ask prog w A (tuples' true) ks):=by
  intro i j C s1 hi hj e h
  subst e
  obtain ⟨t,its,e1,⟨o,ho,hc,n,hd⟩,i1⟩:=K.at_ i hi
  obtain ⟨t2,its2,e2,⟨o2,ho2,hc2,n2,hd2⟩,i2⟩:=K.at_ j hj
  unfold kas_ask
  rw [List.getD_eq_getElem?_getD,List.getD_eq_getElem?_getD,e1,e2]
  have l1:its.length=(key i).length:=i1.length
  have l2:its2.length=(key j).length:=i2.length
  have hl:(key i).length=(key j).length:=by rw [K.long i hi,K.long j hj]
  refine kat_lt ho hd ho2 hd2 ?_
  have ef:decide (its.toArray.size<its2.toArray.size)=false:=decide_eq_false (by simp only [List.size_toArray];omega)
  rw [ef]
  refine qC i1 i2 hl 0 ?_
  rw [hκ i j hi hj]
  exact h s1 rfl
theorem Keys.tups {key:Nat→List Int} {len:Nat}:∀ {ks:List Value} {N:Nat},Keys s.heap ks key N len→∃ fs:List Value,KatTups s.heap ks fs∧fs.length=N∧∀ v∈fs,∃ a t,v=.int a t:=by
  have go:∀ (ks:List Value),(∀ i,i<ks.length→∃ t its a u r,ks[i]?=some (.ref t)∧IsTup s.heap t its.toArray∧its=Value.int a u :: r)→∃ fs:List Value,KatTups s.heap ks fs∧fs.length=ks.length∧∀ v∈fs,∃ a t,v=Value.int a t:=by
    intro ks
    induction ks with
    | nil=>intro _;exact ⟨[],trivial,rfl,fun v hv=>nomatch hv⟩
    | cons k ks ih =>
      intro h
      obtain ⟨fs,h1,h2,h3⟩:=ih fun i hi=>by
        obtain ⟨t,its,a,u,r,e,p⟩:=h (i + 1) (by simpa using hi)
        exact ⟨t,its,a,u,r,by simpa using e,p⟩
      obtain ⟨t,its,a,u,r,e,⟨o,ho,hc,n,hd⟩,rfl⟩:=h 0 (by simp)
      have e':k=.ref t:=by simpa using e
      subst e'
      refine ⟨.int a u :: fs,KatTups.cons ho hc hd rfl h1,by simp [h2],fun v hv=>?_⟩
      rcases List.mem_cons.mp hv with e | e
      · exact ⟨a,u,e⟩
      · exact h3 v e
  intro ks N K
  obtain ⟨fs,h1,h2,h3⟩:=go ks fun i hi=>by
    obtain ⟨t,its,e1,p,i1⟩:=K.at_ i (by rw [← K.size];exact hi)
    have hl:=K.long i (by rw [← K.size];exact hi)
    generalize key i=kl at i1 hl
    cases i1 with
    | nil=>simp at hl
    | cons a u hx=>exact ⟨t,_,a,u,_,e1,p,rfl⟩
  exact ⟨fs,h1,by rw [h2,K.size],h3⟩
end
end L2
namespace L2
open PySem PySem.W PySem.Spec PyProof.Rows
def oJ (κ:Nat→Int) (xs ys:List V):Prop:=∃ p:List Nat,p.Perm (List.range xs.length)∧ys=p.map (fun i=>xs.getD i .non)∧p.Pairwise fun i j=>κ i<κ j
theorem uO {κ:Nat→Int} {xs:List V} {p:Array Nat} (A:Arr xs.length p) (hS:Srt κ p xs.length):oJ κ xs (p.toList.map fun i=>xs.getD i .non):=by
  refine ⟨p.toList,A.perm,rfl,?_⟩
  rw [List.pairwise_iff_getElem]
  intro i j hi hj hij
  have hj':j<xs.length:=by rw [Array.length_toList,A.size] at hj;exact hj
  have e1:p.toList[i]=p.getD i 0:=by
    have:=A.get (show i<xs.length by omega)
    rw [List.getElem?_eq_getElem hi] at this
    exact Option.some.inj this
  have e2:p.toList[j]=p.getD j 0:=by
    have:=A.get hj'
    rw [List.getElem?_eq_getElem hj] at this
    exact Option.some.inj this
  rw [e1,e2]
  exact hS i j hij hj'
theorem pU {xs:List V} {vs:List Value} (r:Vals xs vs):∀ (p:List Nat),(∀ i∈p,i<xs.length)→Vals (p.map fun i=>xs.getD i .non) (p.map fun i=>vs.getD i .none)
  | [],_=>.nil
  | i :: p,h=>by
    have hi:i<xs.length:=h i List.mem_cons_self
    obtain ⟨u,e,ru⟩:=r.get (List.getElem?_eq_getElem hi)
    refine .cons ?_ (pU r p fun j hj=>h j (List.mem_cons_of_mem _ hj))
    show RelV (xs.getD i .non) (vs.getD i .none)
    rw [List.getD_eq_getElem?_getD,List.getD_eq_getElem?_getD,e,List.getElem?_eq_getElem hi]
    exact ru
section
variable {X:Cx} {pins:List (Addr × Obj)} {σ:St} {H:Hp} {s:Shared} {A:Around} {E:Value→Shared→Prop}
theorem Inv.oV (I:Inv X pins σ H s) {b:Addr} {o:Obj} (f:wg X pins H b) (e:s.heap.get? b=some o) (d:∀ v,o.data≠.cell v):Inv X (pins++[(b,o)]) σ H s :=
  I.wI fun p hp=>(List.mem_append.mp hp).elim (fun z=>I.pin p (List.mem_append_right _ z)) fun z=>by
    have e':p=(b,o):=by simpa using z
    subst e'
    obtain ⟨f0,f1,f2,_⟩:=f
    exact ⟨e,f0,f1,f2,d⟩
theorem sort_keys {f:Value} {D kS:Addr} {e1:Nat} {xs:List V} {vs:List Value} (rv:Vals xs vs) (h64:xs.length<64) (Pv:Nat→List Addr→Hp→Prop)
    (fpD:∀ H',H' D=none→wg X pins H' D) (fpK:∀ H',H' kS=none→wg X pins H' kS) (hDK:D≠kS)
    (hcall:∀ i x u ts pins' s' H',xs[i]?=some x→RelV x u→Inv X pins' σ H' s'→(∀ p∈pins,p∈pins')→Pv i ts H'→wpAny (model X.prog X.w) A (call f [u]) (fun k s2=>∃ t H2,k=.ref t∧Inv X pins' σ H2 s2∧Pv (i + 1) (ts++[t]) H2) (fun _ _=>False) s')
    {body:Value→PUnit→Sem (ForInStep PUnit)}
    (hb:∀ x (s:Shared) (R:Value→Shared→Prop) (Q:ForInStep PUnit→Shared→Prop),wpAny (model X.prog X.w) A (call f [x]) R (fun _ _=>False) s→(∀ k s',R k s'→wpAny (model X.prog X.w) A (Builtin.List.listUpdate (.ref kS) (·.push k)) (fun _ s''=>Q (.yield ⟨⟩) s'') E s') →
      wpAny (model X.prog X.w) A (body x ⟨⟩) Q E s) :
    ∀ (r:List Value) (i:Nat) (ts:List Addr) (e:Nat) (s:Shared) (H:Hp),vs.drop i=r→ts.length=i→i≤vs.length→Inv X (pins++[(D,seqObj "list" #[] e1)]++[(kS,seqObj "list" (ts.map Value.ref).toArray e)]) σ H s→Pv i ts H →
      wpAny (model X.prog X.w) A (forIn r PUnit.unit body) (fun _ s'=>∃ ts' e' H',ts'.length=vs.length∧Inv X (pins++[(D,seqObj "list" #[] e1)]++[(kS,seqObj "list" (ts'.map Value.ref).toArray e')]) σ H' s'∧Pv vs.length ts' H') E s
  | [],i,ts,e,s,H,hr,hl,hi,I,p=>by
    rw [List.forIn_nil]
    have hn:i=vs.length:=by
      have:=congrArg List.length hr
      rw [List.length_drop] at this
      simp at this
      omega
    subst hn
    exact wpAny_pure ⟨ts,e,H,hl,I,p⟩
  | u :: r,i,ts,e,s,H,hr,hl,hi,I,p=>by
    rw [List.forIn_cons]
    have hlen:=rv.length
    have hiv:i<vs.length:=by
      have:=congrArg List.length hr
      rw [List.length_drop] at this
      simp at this
      omega
    have eu:vs[i]?=some u:=by
      have:(vs.drop i)[0]?=some u:=by rw [hr];rfl
      rw [List.getElem?_drop] at this
      simpa using this
    have hix:i<xs.length:=by omega
    obtain ⟨u',e',ru⟩:=rv.get (List.getElem?_eq_getElem hix)
    rw [eu] at e'
    cases e'
    refine wpAny_bind (hb u s _ _ (hcall i _ u ts _ s H (List.getElem?_eq_getElem hix) ru I (fun p hp=>List.mem_append_left _ (List.mem_append_left _ hp)) p) fun k s2 ⟨t,H2,ek,I2,p2⟩=>?_)
    subst ek
    have pk:=I2.pin (kS,seqObj "list" (ts.map Value.ref).toArray e) (List.mem_append_right _ (List.mem_append_right _ (by simp)))
    have pD:=I2.pin (D,seqObj "list" #[] e1) (List.mem_append_right _ (List.mem_append_left _ (List.mem_append_right _ (by simp))))
    refine listUpdate_at pk.1 rfl ?_ (by rw [List.size_toArray,List.length_map,sizeLine_eq];omega) (by rw [Array.size_push,List.size_toArray,List.length_map,sizeLine_eq];omega)
    have I2':Inv X (pins++[(D,seqObj "list" #[] e1)]) σ H2 s2:=I2.jE
    have fK:wg X (pins++[(D,seqObj "list" #[] e1)]) H2 kS:=by
      obtain ⟨a0,a1,a2,a3,a4,a5⟩:=fpK H2 pk.2.1
      refine ⟨a0,a1,a2,a3,a4,fun p hp=>?_⟩
      rcases List.mem_append.mp hp with z | z
      · exact a5 p (List.mem_append_left _ z)
      · rcases List.mem_append.mp z with z | z
        · exact a5 p (List.mem_append_right _ z)
        · have:p=(D,seqObj "list" #[] e1):=by simpa using z
          rw [this];exact hDK
    obtain ⟨a0,a1,a2,a3,a4,a5⟩:=fK
    have I3:Inv X (pins++[(D,seqObj "list" #[] e1)]) σ H2 { s2 with heap:=s2.heap.update kS (Obj.mapSeq (·.push (Value.ref t))) } :=
      I2'.turned (t':=s2.toks) (fun b o hb e=>(Heap.get?_update_other _ _ (Ne.symm hb)).trans e) a0 a1 a3 a4 a5
    have ea:((ts.map Value.ref).toArray).push (Value.ref t)=((ts++[t]).map Value.ref).toArray:=by simp
    obtain ⟨c2,hc2⟩:∃ c2,(s2.heap.update kS (Obj.mapSeq (·.push (Value.ref t)))).get? kS=some (seqObj "list" ((ts++[t]).map Value.ref).toArray c2):=⟨_,by rw [← ea];exact get?_update_seq pk.1 (·.push (Value.ref t))⟩
    have I4:=I3.oV ⟨a0,a1,a2,a3,a4,a5⟩ hc2 (fun v z=>by cases z)
    show wpAny (model X.prog X.w) A (forIn r PUnit.unit body) _ E _
    refine sort_keys rv h64 Pv fpD fpK hDK hcall hb r (i + 1) (ts++[t]) c2 _ H2 ?_ (by rw [List.length_append,hl];rfl) (by omega) I4 p2
    have:(vs.drop i).drop 1=r:=by rw [hr];rfl
    rw [List.drop_drop] at this
    exact this
end
end L2
namespace L2
open PySem PySem.W PySem.Spec PyProof.Rows
section
variable {X:Cx} {pins:List (Addr × Obj)} {σ:St} {H:Hp} {s:Shared} {A:Around} {E:Value→Shared→Prop}
theorem Bh {f:Value} {D:Addr} {n0 m:Nat} {xs:List V} {vs:List Value} {key:Nat→List Int} {κ:Nat→Int} (rv:Vals xs vs) (h64:xs.length<64) (Pv:Nat→List Addr→Hp→Prop) (I:Inv X pins σ H s)
    (hD:s.heap.get? D=some (seqObj "list" vs.toArray n0)) (fpD:∀ H',H' D=none→wg X pins H' D) (nD:H D=none) (hfresh:X.s₀.heap.objs.size≤D) (p0:Pv 0 [] H)
    (hcall:∀ i x u ts pins' s' H',xs[i]?=some x→RelV x u→Inv X pins' σ H' s'→(∀ p∈pins,p∈pins')→Pv i ts H'→wpAny (model X.prog X.w) A (call f [u]) (fun k s2=>∃ t H2,k=.ref t∧Inv X pins' σ H2 s2∧Pv (i + 1) (ts++[t]) H2) (fun _ _=>False) s')
    (htup:∀ ts H',Pv xs.length ts H'→∀ i t,ts[i]?=some t→H' t=some (.tup ((key i).map V.int))) (hlong:∀ i,i<xs.length→(key i).length=m + 1)
    (hκ:∀ i j,i<xs.length→j<xs.length→HT.lexLt (key i) (key j)=decide (κ i<κ j)) (hinj:Inj xs.length κ) :
    wpAny (model X.prog X.w) A (ksk_tree D f false) (fun fin s'=>fin=.done (.ret .none)∧∃ ts H' ys,Pv xs.length ts H'∧H' D=none∧oJ κ xs ys∧Inv X pins σ (upd H' D (.lst ys)) s') E s:=by
  have hlen:=rv.length
  unfold ksk_tree
  refine wpAny_bind (listItems_at hD rfl ?_)
  refine wpAny_bind (listUpdate_at hD rfl ?_ (by rw [List.size_toArray,sizeLine_eq];omega) (Nat.zero_le _))
  obtain ⟨e1,ho1⟩:∃ e1,(s.heap.update D (Obj.mapSeq fun _=>(#[]:Array Value))).get? D=some (seqObj "list" #[] e1):=⟨_,get?_update_seq hD fun _=>#[]⟩
  obtain ⟨a0,a1,a2,a3,a4,a5⟩:=fpD H nD
  have I1:Inv X pins σ H { s with heap:=s.heap.update D (Obj.mapSeq fun _=>(#[]:Array Value)) }:=I.turned (t':=s.toks) (fun b o hb e=>(Heap.get?_update_other _ _ (Ne.symm hb)).trans e) a0 a1 a3 a4 a5
  refine wpAny_bind (seqEpoch_at ho1 rfl ?_)
  refine wpAny_bind (wpAny_newTuple ?_ (by show vs.length≤_;rw [sizeLine_eq];omega))
  refine wpAny_bind (wpAny_newList ?_ (Nat.zero_le _))
  refine wpAny_holding ?_
  have I2:Inv X pins σ H { s with heap:=(s.heap.update D (Obj.mapSeq fun _=>(#[]:Array Value))).push (seqObj "tuple" vs.toArray 0) }:=I1.kept (t':=s.toks) fun b o e=>Heap.get?_push_of_some _ e
  have I3:Inv X pins σ H { s with heap:=((s.heap.update D (Obj.mapSeq fun _=>(#[]:Array Value))).push (seqObj "tuple" vs.toArray 0)).push (seqObj "list" #[] 0) }:=I2.kept (t':=s.toks) fun b o e=>Heap.get?_push_of_some _ e
  have fpK:∀ H',H' (((s.heap.update D (Obj.mapSeq fun _=>(#[]:Array Value))).push (seqObj "tuple" vs.toArray 0)).objs.size)=none→wg X pins H' _:=fun H' hn=>I2.zR (Nat.le_refl _) hn
  have nK:H (((s.heap.update D (Obj.mapSeq fun _=>(#[]:Array Value))).push (seqObj "tuple" vs.toArray 0)).objs.size)=none:=I2.hok.fresh (Nat.le_refl _)
  have hDK:D≠((s.heap.update D (Obj.mapSeq fun _=>(#[]:Array Value))).push (seqObj "tuple" vs.toArray 0)).objs.size:=Nat.ne_of_lt (Heap.lt_size (Heap.get?_push_of_some (seqObj "tuple" vs.toArray 0) ho1))
  have hD3:(((s.heap.update D (Obj.mapSeq fun _=>(#[]:Array Value))).push (seqObj "tuple" vs.toArray 0)).push (seqObj "list" #[] 0)).get? D=some (seqObj "list" #[] e1):=Heap.get?_push_of_some _ (Heap.get?_push_of_some _ ho1)
  have hK3:(((s.heap.update D (Obj.mapSeq fun _=>(#[]:Array Value))).push (seqObj "tuple" vs.toArray 0)).push (seqObj "list" #[] 0)).get? (((s.heap.update D (Obj.mapSeq fun _=>(#[]:Array Value))).push (seqObj "tuple" vs.toArray 0)).objs.size)=some (seqObj "list" #[] 0):=Heap.get?_push_size _ rfl
  generalize ((s.heap.update D (Obj.mapSeq fun _=>(#[]:Array Value))).push (seqObj "tuple" vs.toArray 0)).objs.size=kS at fpK nK hDK hK3 ⊢
  generalize hs3:({ s with heap:=((s.heap.update D (Obj.mapSeq fun _=>(#[]:Array Value))).push (seqObj "tuple" vs.toArray 0)).push (seqObj "list" #[] 0) }:Shared)=s3 at I3 ⊢
  have hD3':s3.heap.get? D=some (seqObj "list" #[] e1):=by rw [← hs3];exact hD3
  have hK3':s3.heap.get? kS=some (seqObj "list" #[] 0):=by rw [← hs3];exact hK3
  have I4:Inv X (pins++[(D,seqObj "list" #[] e1)]) σ H s3:=I3.oV (fpD H nD) hD3' (fun v z=>by cases z)
  have fK:∀ H',H' kS=none→wg X (pins++[(D,seqObj "list" #[] e1)]) H' kS:=fun H' hn=>by
    obtain ⟨b0,b1,b2,b3,b4,b5⟩:=fpK H' hn
    refine ⟨b0,b1,b2,b3,b4,fun p hp=>?_⟩
    rcases List.mem_append.mp hp with z | z
    · exact b5 p (List.mem_append_left _ z)
    · rcases List.mem_append.mp z with z | z
      · exact b5 p (List.mem_append_right _ z)
      · have:p=(D,seqObj "list" #[] e1):=by simpa using z
        rw [this];exact hDK
  have I5:=I4.oV (fK H nK) hK3' (fun v z=>by cases z)
  unfold ksk_rest
  refine wpAny_bind (wpAny_rule ?_)
  first
    | rw [List.forIn_toArray]
    | (rw [← Array.forIn_toList];simp only [List.toList_toArray])
    | rw [← Array.forIn_toList]
  refine wpAny_bind (wpAny_mono (sort_keys (E:=E) rv h64 Pv fpD fpK hDK hcall (fun x s' R Q' hx hk=>?_) vs 0 [] 0 s3 H rfl rfl (Nat.zero_le _) I5 p0) (fun _ s4 hd=>?_) fun _ _ x=>x)
  · refine wpAny_bind (wpAny_attempt (wpAny_mono hx (fun k s'' hq=>?_) fun _ _ hF=>hF.elim))
    dsimp only
    refine wpAny_bind (wpAny_mono (hk k s'' hq) (fun _ s5 hq5=>wpAny_pure hq5) fun _ _ x=>x)
  obtain ⟨ts,e',H4,htl,I6,p4⟩:=hd
  have pk:=I6.pin (kS,seqObj "list" (ts.map Value.ref).toArray e') (List.mem_append_right _ (List.mem_append_right _ (by simp)))
  have pD:=I6.pin (D,seqObj "list" #[] e1) (List.mem_append_right _ (List.mem_append_left _ (List.mem_append_right _ (by simp))))
  refine wpAny_bind (listItems_at pk.1 rfl ?_)
  have p4':Pv xs.length ts H4:=by rw [hlen];exact p4
  have I7:Inv X pins σ H4 s4:=I6.jE.jE
  have fin:∀ (st:SortSt) (q:List Nat),(arrOf st).map (·.2)=List.toArray (q.map fun i=>vs.getD i Value.none)→failedOf st=none→(∀ i∈q,i<xs.length)→q.length=xs.length→oJ κ xs (q.map fun i=>xs.getD i .non) →
      wpAny (model X.prog X.w) A (ksk_tail D false e1 (.ref kS) st) (fun fin s'=>fin=.done (.ret .none)∧∃ ts H' ys,Pv xs.length ts H'∧H' D=none∧oJ κ xs ys∧Inv X pins σ (upd H' D (.lst ys)) s') E s4:=by
    intro st q hout hf hq hql hsb
    unfold ksk_tail
    dsimp only
    refine wpAny_bind (listUpdate_at pk.1 rfl ?_ (by rw [List.size_toArray,List.length_map,sizeLine_eq];omega) (Nat.zero_le _))
    obtain ⟨b0,b1,b2,b3,b4,b5⟩:=fpK H4 pk.2.1
    have I8:Inv X pins σ H4 { s4 with heap:=s4.heap.update kS (Obj.mapSeq fun _=>(#[]:Array Value)) }:=I7.turned (t':=s4.toks) (fun b o hb e=>(Heap.get?_update_other _ _ (Ne.symm hb)).trans e) b0 b1 b3 b4 b5
    have hD8:(s4.heap.update kS (Obj.mapSeq fun _=>(#[]:Array Value))).get? D=some (seqObj "list" #[] e1):=(Heap.get?_update_other _ _ (Ne.symm hDK)).trans pD.1
    refine wpAny_bind (wpAny_letGo ?_)
    refine wpAny_bind (seqEpoch_at hD8 rfl ?_)
    have hsz:(if false=true then ((arrOf st).map (·.2)).reverse else (arrOf st).map (·.2))=List.toArray (q.map fun i=>vs.getD i Value.none):=by rw [if_neg Bool.false_ne_true];exact hout
    refine wpAny_bind (listUpdate_at hD8 rfl ?_ (Nat.zero_le _) (by show (if false=true then ((arrOf st).map (·.2)).reverse else (arrOf st).map (·.2)).size≤_;rw [hsz,List.size_toArray,List.length_map,sizeLine_eq];omega))
    rw [hf]
    simp only [bne_self_eq_false,Bool.false_eq_true,if_false]
    refine wpAny_pure ⟨rfl,ts,H4,_,p4',pD.2.1,hsb,?_⟩
    obtain ⟨c0,c1,c2,c3,c4,c5⟩:=fpD H4 pD.2.1
    have I9:=I8.turned (h':=(s4.heap.update kS (Obj.mapSeq fun _=>(#[]:Array Value))).update D (Obj.mapSeq fun _=>(arrOf st).map (·.2))) (t':=s4.toks) (fun b o hb e=>(Heap.get?_update_other _ _ (Ne.symm hb)).trans e) c0 c1 c3 c4 c5
    obtain ⟨cc,hcc⟩:∃ cc,((s4.heap.update kS (Obj.mapSeq fun _=>(#[]:Array Value))).update D (Obj.mapSeq fun _=>(arrOf st).map (·.2))).get? D=some (seqObj "list" (q.map fun i=>vs.getD i Value.none).toArray cc):=⟨_,by rw [← hout];exact get?_update_seq hD8 fun _=>(arrOf st).map (·.2)⟩
    exact I9.adopt pD.2.1 c1 hfresh c4 c5 ⟨by rw [List.length_map,sizeLine_eq];omega,_,cc,pU rv q hq,hcc⟩
  have eks:ts.length=xs.length:=by omega
  unfold ksk_end
  dsimp only
  rw [if_neg Bool.false_ne_true]
  by_cases h2:xs.length<2
  · have hs2:vs.toArray.size<2:=by rw [List.size_toArray];omega
    rw [if_pos hs2,if_pos hs2]
    refine wpAny_bind (wpAny_pure ?_)
    refine wpAny_bind ?_
    rw [StateT.run_pure]
    refine wpAny_pure ?_
    dsimp only
    have hr:∀ i∈List.range xs.length,i<xs.length:=fun i hi=>List.mem_range.mp hi
    refine fin _ (List.range xs.length) ?_ rfl hr (List.length_range) ⟨List.range xs.length,List.Perm.refl _,rfl,?_⟩
    · show ((if false=true then ((ts.map Value.ref).toArray.zip vs.toArray).reverse else (ts.map Value.ref).toArray.zip vs.toArray)).map (·.2)=_
      rw [if_neg Bool.false_ne_true]
      apply Array.toList_inj.mp
      rw [Array.toList_map,Array.toList_zip,List.map_snd_zip (by rw [List.toList_toArray,List.toList_toArray,List.length_map];omega)]
      rw [List.toList_toArray]
      apply List.ext_getElem?
      intro j
      rw [List.toList_toArray,List.getElem?_map]
      by_cases hj:j<xs.length
      · rw [List.getElem?_range hj]
        show _=some (vs.getD j Value.none)
        rw [List.getD_eq_getElem?_getD,List.getElem?_eq_getElem (by omega)];rfl
      · rw [List.getElem?_eq_none (by omega),List.getElem?_eq_none (by rw [List.length_range];omega)];rfl
    · match hx:xs.length,h2 with
      | 0,_=>exact List.Pairwise.nil
      | 1,_=>exact List.pairwise_singleton _ _
  · have hs2:¬ vs.toArray.size<2:=by rw [List.size_toArray];omega
    rw [if_neg hs2,if_neg hs2]
    have KK:Keys s4.heap (ts.map Value.ref) key xs.length m:=by
      refine ⟨by rw [List.length_map];exact eks,fun i hi=>?_,hlong⟩
      have hit:i<ts.length:=by omega
      have et:=htup ts H4 p4' i ts[i] (List.getElem?_eq_getElem hit)
      obtain ⟨_,its,r,hT⟩:=I7.hok _ _ et
      exact ⟨ts[i],its,by rw [List.getElem?_map,List.getElem?_eq_getElem hit];rfl,hT,intsAre_of r⟩
    obtain ⟨fs,kt,kl,kv⟩:=KK.tups
    refine wpAny_bind (kat_kind kt (by omega) (fun v hv=>by obtain ⟨a,t,rfl⟩:=kv v hv;exact Looks.of_pure rfl) (T:=.type "int") (by decide) ?_)
    have ett:(Value.type "int" != Value.type "tuple")=true:=by decide
    rw [ett]
    have ez:(if false=true then ((ts.map Value.ref).toArray.zip vs.toArray).reverse else (ts.map Value.ref).toArray.zip vs.toArray)=(ts.map Value.ref).toArray.zip vs.toArray:=by rw [if_neg Bool.false_ne_true]
    rw [ez]
    have hkl:(ts.map Value.ref).length=vs.length:=by rw [List.length_map];omega
    have run:=kat_run (prog:=X.prog) (w:=X.w) (A:=A) (E:=E) (s:=s4) (κ:=tuples' true) (ks:=ts.map Value.ref) (vs:=vs)
      (Q:=fun st' s'=>s'=s4∧∃ p:Array Nat,arrOf st'=p.map (kas_item ((ts.map Value.ref).toArray.zip vs.toArray))∧failedOf st'=none∧Arr xs.length p∧Srt κ p xs.length)
      (G:=fun p s'=>s'=s4∧Arr xs.length p∧Srt κ p xs.length) hkl (by omega) (by omega) (fun p st' s' _ b c ⟨d,a1,a2⟩=>⟨d,p,b,c,a1,a2⟩) (by
        have:=uz (N:=xs.length) (KK.cmp (prog:=X.prog) (w:=X.w) (A:=A) hκ) hinj (by omega) (Q:=fun p s'=>s'=s4∧Arr xs.length p∧Srt κ p xs.length) (s:=s4) rfl fun p s' a b c=>⟨c,a,b⟩
        rw [← hlen]
        exact this)
    refine wpAny_bind (wpAny_mono run ?_ fun _ _ x=>x)
    rintro ⟨⟨⟩,st'⟩ s5 ⟨rfl,p,har,hf,AR,SR⟩
    dsimp only
    refine fin st' p.toList (kat_snds hkl har) hf (fun i hi=>?_) (by rw [Array.length_toList,AR.size]) (uO AR SR)
    exact List.mem_range.mp (AR.perm.mem_iff.mp hi)
end
end L2
namespace L2
open PySem PySem.W PySem.Spec PyProof.Rows
def Om (X:Cx) (scope:Scope) (qual:Str) (c:Value) (N:List Str) (A:Around) (f:Addr) (s:Shared) (H:Hp):Cx :=
  let env:Env:=envX qual scope s.heap.objs.size f c (clo X.env.cells scope.names [])
  { prog:=X.prog,w:=X.w,K:=X.K,mg:=X.mg,base:=X.base,A:=A.deeper env,N:=N,s₀:=s,H₀:=H,env:=env,outer:=X.stack,stack:=env :: X.stack,ex:=[],fn:=fun x=>((clo X.env.cells scope.names []).lookup x).isNone,calm:=true,pn:=[],xe:=fun _ _=>False }
def tO (x:V) (cap:List (Option Nat)) (σ:St):St:=some x :: (cap.map fun o=>o.bind fun j=>(σ[j]?).bind id)
def Ol (scope:Scope) (p:Str) (N N':List Str) (cap:List (Option Nat)):Bool:=(scope.names.lookup p == some .local) && !scope.isCoroutine && !scope.isGenerator && (!N'.contains p) && xq scope N N' cap
section
variable {X:Cx} {pins:List (Addr × Obj)} {σ:St} {H:Hp} {s:Shared} {body:Expr} {scope:Scope} {params:Arguments} {te:TE}
theorem Ft (sc:Scope) (hsc:X.env.scope=sc) (N₀:List Str) (hN₀:X.N=N₀) {N':List Str} {cap:List (Option Nat)} {p:Str} (f1:freeOk sc scope=true) (f2:wK scope=true) (f3:Ol scope p N₀ N' cap=true)
    {A:Around} {f:Addr} {name qual:Str} {c pm ctv:Value} {x:V} {u:Value} {Q:VK} (I:Inv X pins σ H s) (hA:A.frames=some X.stack) (hd:A.handled=none) (hroom:A.depth<recursionLimit)
    (hf:(f,({ cls:=.type "function",data:=.func (kla_fn name qual params body scope (clo X.env.cells scope.names []) pm c ctv) }:Obj))∈pins) (hcd:s.heap.CodeRec c qual)
    (hbind:bindArgs (kla_fn name qual params body scope (clo X.env.cells scope.names []) pm c ctv) ⟨[u],[]⟩=pure [(p,u)])
    (hb:PE (Om X scope qual c (p :: N') A f s H) body te) (rx:RelV x u) (h:te (tO x cap σ) H Q) :
    wpAny (model X.prog X.w) A (call (.ref f) [u]) (fun k s2=>∃ v H2,RelV v k∧Inv X pins σ H2 s2∧Q v H2) (fun _ _=>False) s:=by
  have ok:=I.ok
  have fr:∀ y∈scope.names,y.2=.free→X.env.kindOf y.1=some .cell∨X.env.kindOf y.1=some .free:=fun y hy e=>by
    have q:=List.all_eq_true.mp f1 y hy
    rw [e] at q
    have q':((sc.names.lookup y.1 == some NameKind.cell) || (sc.names.lookup y.1 == some NameKind.free))=true:=by simpa using q
    rw [Bool.or_eq_true] at q'
    unfold Env.kindOf
    rw [hsc]
    rcases q' with z | z
    · exact .inl (by simpa using z)
    · exact .inr (by simpa using z)
  obtain ⟨⟨k1,k2⟩,k3⟩:((scope.kind == .function)=true∧(scope.names.all fun y=>y.2 != .cell)=true)∧(scope.names.all fun y=>y.2 != .local || scope.names.lookup y.1 == some .local)=true:=by
    unfold wK at f2
    rw [Bool.and_eq_true,Bool.and_eq_true] at f2
    exact f2
  have hkind:scope.kind=.function:=by simpa using k1
  have hcell:∀ y∈scope.names,y.2≠.cell:=fun y hy=>by
    have q:=List.all_eq_true.mp k2 y hy
    simpa using q
  obtain ⟨⟨⟨⟨g1,g2⟩,g3⟩,g4⟩,g5⟩:((((scope.names.lookup p == some .local)=true∧(!scope.isCoroutine)=true)∧(!scope.isGenerator)=true)∧(!N'.contains p)=true)∧xq scope N₀ N' cap=true:=by
    unfold Ol at f3
    rw [Bool.and_eq_true,Bool.and_eq_true,Bool.and_eq_true,Bool.and_eq_true] at f3
    exact f3
  have hploc:scope.names.lookup p=some .local:=by simpa using g1
  have clX:∀ x c,(clo X.env.cells scope.names []).lookup x=some c→X.env.cells.lookup x=some c:=fun x c e=>by
    have e1:=Dh e
    have hx:(x,NameKind.free)∈scope.names:=by
      rcases uc [] (PySem.mem_of_lookup e) with z | z
      · exact nomatch z
      · exact z
    obtain ⟨c',e2⟩:=ok.has x (fr (x,.free) hx rfl)
    rw [e2] at e1 ⊢
    rw [e1];rfl
  have pf:=I.pin _ (List.mem_append_right _ hf)
  refine wpAny_call (kla_callFunE hroom pf.1 rfl (by simpa using g2) (by simpa using g3) rfl hcd ?_)
  rw [hbind]
  refine wpAny_pure ?_
  refine wpAny_newFunctionEnv hcell (fun y hy=>?_) (fun h4 hns hsb=>?_) hkind
  · have:y=(p,u):=by simpa using hy
    rw [this];exact hploc
  have kp4:∀ b o,s.heap.get? b=some o→h4.get? b=some o:=fun b o e=>hsb.extBut b o (Nat.ne_of_lt (Heap.lt_size e)) (Heap.get?_push_of_some _ e)
  refine ⟨I.nolimit.keeps kp4,kla_codeExpr ?_⟩
  let Z:Cx:=Om X scope qual c (p :: N') A f s H
  have okZ:Z.Ok:=by
    refine ⟨ok.mod,hkind,rfl,rfl,Nat.le_refl _,?_,?_,?_,fun _=>hd,Around.frames_deeper hA,.inr ⟨rfl,rfl⟩,?_,?_,?_,?_,?_,?_,?_⟩
    · exact fun x y c h1 h2=>ok.inj x y c (clX x c h1) (clX y c h2)
    · intro x hx
      have hx':scope.names.lookup x=some .cell∨scope.names.lookup x=some .free:=hx
      rcases hx' with z | z
      · exact absurd rfl (hcell _ (PySem.mem_of_lookup z))
      · exact Option.isSome_iff_exists.mp (qL scope.names [] x (PySem.mem_of_lookup z))
    · intro x c hx h1
      have hx':((clo X.env.cells scope.names []).lookup x).isNone=true:=hx
      have h1':(clo X.env.cells scope.names []).lookup x=some c:=h1
      rw [h1'] at hx';cases hx'
    · exact fun b hb=>absurd (show b∈([]:List Addr) from hb) (by simp)
    · exact fun b o e=>I.bs b o e
    · exact Nat.le_trans ok.bsz I.sz
    · exact fun b o e hb=>absurd (show b∈([]:List Addr) from hb) (by simp)
    · exact fun b hb=>absurd (show b∈([]:List Addr) from hb) (by simp)
    · exact I.stack
    · exact I.wz
  have capl:cap.length=N'.length∧∀ p∈N'.zip cap,(match p.2 with | none=>true | some j=>N₀[j]? == some p.1 && scope.names.lookup p.1 == some .free)=true:=by
    unfold xq at g5
    rw [Bool.and_eq_true] at g5
    exact ⟨by simpa using g5.1,fun p hp=>List.all_eq_true.mp g5.2 p hp⟩
  have IZ:Inv Z [] (tO x cap σ) H { s with heap:=h4,toks:=s.toks + [(p,u)].length }:=by
    refine ⟨okZ,rfl,I.bare,Un.kept kp4,⟨_,hns,?_⟩,?_,?_,?_,fun p hp=>absurd (show p∈([]:List (Addr × Obj)) from hp) (by simp),I.hok.kept kp4,?_⟩
    · intro i y v e1 e2 e3
      cases i with
      | zero =>
        have e1':p=y:=by
          have e1'':(p :: N')[0]?=some y:=e1
          simpa using e1''
        have e2':x=v:=by
          have e2'':(tO x cap σ)[0]?=some (some v):=e2
          simpa [tO] using e2''
        subst e1' e2'
        exact ⟨u,rx,.inl ⟨hploc,by simp [List.lookup]⟩⟩
      | succ i =>
        have e1':N'[i]?=some y:=by
          have e1'':(p :: N')[i + 1]?=some y:=e1
          simpa using e1''
        have e2':(cap.map fun o=>o.bind fun j=>(σ[j]?).bind id)[i]?=some (some v):=by
          have e2'':(tO x cap σ)[i + 1]?=some (some v):=e2
          simpa [tO] using e2''
        rw [List.getElem?_map] at e2'
        cases ec:cap[i]? with
        | none=>rw [ec] at e2';cases e2'
        | some o =>
          rw [ec] at e2'
          cases o with
          | none=>cases e2'
          | some j =>
            have e3':(σ[j]?).bind id=some v:=by simpa using e2'
            have hz:(y,some j)∈N'.zip cap:=by
              refine List.mem_of_getElem? (i:=i) ?_
              rw [List.getElem?_zip_eq_some]
              exact ⟨e1',ec⟩
            have q:=capl.2 _ hz
            have q':(N₀[j]? == some y)=true∧(scope.names.lookup y == some NameKind.free)=true:=by simpa [Bool.and_eq_true] using q
            have q1:X.N[j]?=some y:=by rw [hN₀];simpa using q'.1
            have q2:scope.names.lookup y=some .free:=by simpa using q'.2
            have eσ:σ[j]?=some (some v):=by
              cases z:σ[j]? with
              | none=>rw [z] at e3';cases e3'
              | some y' =>
                rw [z] at e3'
                have:y'=some v:=e3'
                rw [this]
            have hk:=fr (y,.free) (PySem.mem_of_lookup q2) rfl
            obtain ⟨m,hn,hl⟩:=I.loc
            have vis:Vis X.env.scope y:=by
              rcases hk with z | z
              · exact .inr (.inl z)
              · exact .inr (.inr z)
            obtain ⟨u',r,l⟩:=hl j y v q1 eσ vis
            refine ⟨u',r,.inr ⟨.inr q2,?_⟩⟩
            rcases l with ⟨kl,_⟩ | ⟨_,c,ecx,hcx⟩
            · rcases hk with z | z
              · have z':X.env.kindOf y=some .cell:=z
                rw [kl] at z';cases z'
              · have z':X.env.kindOf y=some .free:=z
                rw [kl] at z';cases z'
            · have hh:=qL (cells:=X.env.cells) scope.names [] y (PySem.mem_of_lookup q2)
              obtain ⟨c',ec'⟩:=Option.isSome_iff_exists.mp hh
              have ec2:=clX y c' ec'
              rw [ecx] at ec2
              cases ec2
              exact ⟨c,ec',hcx.keeps kp4⟩
    · intro y c e
      obtain ⟨v,z⟩:=I.cell y c (clX y c e)
      exact ⟨v,z.keeps kp4⟩
    · exact I.hok.fresh (Nat.le_refl _)
    · exact fun y c e=>I.freeC y c (clX y c e)
    · show (tO x cap σ).length=(p :: N').length
      unfold tO
      rw [List.length_cons,List.length_cons,List.length_map,capl.1]
  refine wpAny_mono (hb [] _ _ H Q IZ h) (fun v s2 ⟨vv,H2,J,rv,q⟩=>?_) fun _ _ z=>z.elim
  refine ⟨vv,H2,rv,?_,q⟩
  have un:Un (frs X.stack) [] H H2 s.heap s2.heap:=J.base
  exact I.call' J.os un J.hok J.bare fun b hb=>absurd hb (by simp)
end
end L2
namespace L2
open PySem PySem.W PySem.Spec PyProof.Rows
section
variable {X:Cx} {pins:List (Addr × Obj)} {σ:St} {H:Hp} {s:Shared}
theorem Inv.grow {P:Addr} {ps more:Array Value} {h':Heap} {t':Nat} (I:Inv X pins σ H s) (hP:H P=some (.tbl ps)) (hx:Heap.ExtBut P s.heap h') (hP':h'.get? P=some { cls:=.none,data:=.fields (ps++more) }) :
    Inv X pins σ (upd H P (.tbl (ps++more))) { s with heap:=h',toks:=t' }:=by
  have ne:∀ b,H b=none→b≠P:=fun b n z=>by rw [z,hP] at n;cases n
  have hL:X.env.locals≠P:=ne _ I.free
  refine I.step (g':=s.gens) (d':=s.drawn) (ch:=[]) (fun _ z=>nomatch z) (fun b o _ _ _ e n=>hx b o (ne b n) e) (fun b o _ _ _ e n=>⟨o.slots,hx b o (ne b n) e⟩) (fun b o _ _ n=>by rw [bF (ne b n)];exact n) (fun b o _ e=>?_) (fun b xs e=>?_) (fun b ob u e=>?_) (fun b qs e=>?_) (fun m hm=>?_) (fun b u e=>?_) I.bare
  · by_cases hb:b=P
    · subst hb;exact ⟨_,hP'⟩
    · exact ⟨o,hx b o hb e⟩
  · rw [bF (fun z=>by rw [z,hP] at e;cases e)];exact e
  · rw [bF (fun z=>by rw [z,hP] at e;cases e)];exact e
  · by_cases hb:b=P
    · subst hb
      rw [hP] at e;cases e
      exact ⟨more,by rw [cU]⟩
    · exact ⟨#[],by rw [bF hb,e];simp⟩
  · exact hm.extBut hx hL
  · by_cases hb:b=P
    · subst hb;rw [cU] at e;cases e;exact hP'
    · rw [bF hb] at e
      refine (I.hok b u e).stay (fun c v hc q=>hx c v ?_ q) (fun c q=>by rw [bF (fun z=>by rw [z,hP] at q;cases q)];exact q) fun c xs q=>by rw [bF (fun z=>by rw [z,hP] at q;cases q)];exact q
      rcases hc with z | z
      · rw [z];exact hb
      · intro w;rw [w,hP] at z;cases z
def TabOk (P:Addr) (pos:Pos) (qual:Str) (H:Hp):Prop:=H P=some (.tbl #[])∨∃ c':Addr,H P=some (.tbl #[rawInt pos.line,rawInt pos.col,.ref c'])∧H c'=some (.ext fun h=>h.CodeRec (.ref c') qual)
def BM (mg:Str→Option Value) (base:Heap):Prop:=∃ bm ob,mg "__builtins__"=some (.ref bm)∧bm≠builtinsNs∧bm≠mainGlobals∧base.get? bm=some ob∧ob.cls=.type "module"∧ob.dict=some builtinsNs∧ob.data=.plain
theorem Fq {P c:Addr} {params:Arguments} {body:Expr} {scope:Scope} {pos:Pos} {Q:Value→Shared→Prop} {E:Value→Shared→Prop} {A:Around} (sc:Scope) (hsc:X.env.scope=sc) (f1:freeOk sc scope=true) (I:Inv X pins σ H s) (hbm:BM X.mg X.base) (hcode:X.env.code=.ref c)
    (hhd:codeHdIn X.K c P=true) (hT:TabOk P pos (X.env.qual++"<lambda>") H) (hdef:defaultsOf params X.env=([],[]))
    (h:∀ (f:Addr) (H':Hp) (s':Shared) (c':Addr) (pm ctv:Value),(∀ b o,H b=some o→b≠P→H' b=some o)→(∀ b,H' b=none→H b=none)→TabOk P pos (X.env.qual++"<lambda>") H'→H' c'=some (.ext fun h=>h.CodeRec (.ref c') (X.env.qual++"<lambda>")) →
      Inv X (pins++[(f,({ cls:=.type "function",data:=.func (kla_fn "<lambda>" (X.env.qual++"<lambda>") params body scope (clo X.env.cells scope.names []) pm (.ref c') ctv) }:Obj))]) σ H' s'→Q (.ref f) s') :
    wpAny (model X.prog X.w) A (eval (.Lambda params body scope pos) X.env) Q E s:=by
  have ok:=I.ok
  have fr:∀ y∈scope.names,y.2=.free→X.env.kindOf y.1=some .cell∨X.env.kindOf y.1=some .free:=fun y hy e=>by
    have q:=List.all_eq_true.mp f1 y hy
    rw [e] at q
    have q':((sc.names.lookup y.1 == some NameKind.cell) || (sc.names.lookup y.1 == some NameKind.free))=true:=by simpa using q
    rw [Bool.or_eq_true] at q'
    unfold Env.kindOf
    rw [hsc]
    rcases q' with z | z
    · exact .inl (by simpa using z)
    · exact .inr (by simpa using z)
  have hclos:closureFor scope X.env=pure (clo X.env.cells scope.names []):=nC fun y hy e=>ok.has y.1 (fr y hy e)
  have hg:s.heap.Ns mainGlobals X.mg:=I.mod.glob.keeps I.bk
  have C:CodeHd s.heap c P:=codeHd_of_K I.kIn hhd
  obtain ⟨bm,ob,b1,b2,b3,b4,b5,b6,b7⟩:=hbm
  have hbmP:∀ ps,H P=some (.tbl ps)→bm≠P:=fun ps e z=>by
    have:=(I.bs bm ob b4).2
    rw [z,e] at this;cases this
  have hB:∀ ps,H P=some (.tbl ps)→s.heap.BuiltinsAt X.mg P:=fun ps e=>⟨bm,ob,b1,b2,b3,hbmP ps e,I.bk bm ob b4,b5,b6,b7⟩
  refine kla_eval hdef ?_
  rcases hT with hT | ⟨c',hT,hc'⟩
  · have hPo:s.heap.get? P=some (tabObj #[]):=I.hok P _ hT
    have hgP:mainGlobals≠P:=fun q=>by
      obtain ⟨o,es,ep,e,hd,_⟩:=id hg
      rw [q,hPo] at e;cases e;cases hd
    refine kla_makeFunction (mg:=X.mg) hclos ok.glob hg hcode C hPo trivial rfl hgP (hB _ hT) fun c' ctv h' tk hx hge hlt hrec htb=>?_
    have hPlt:P<s.heap.objs.size:=Heap.lt_size hPo
    have I1:Inv X pins σ (upd H P (.tbl (#[]++#[rawInt pos.line,rawInt pos.col,.ref c']))) { s with heap:=h',toks:=tk }:=I.grow hT hx htb
    have nc':H c'=none:=I.hok.fresh hge
    have hcP:c'≠P:=fun z=>by rw [z] at hge;exact absurd hPlt (Nat.not_lt.mpr hge)
    have nc1:(upd H P (.tbl (#[]++#[rawInt pos.line,rawInt pos.col,.ref c']))) c'=none:=by rw [bF hcP];exact nc'
    obtain ⟨q0,q1,q2,q3,q4,q5⟩:=I.zR (H':=H) hge nc'
    have hs0:X.s₀.heap.objs.size≤c':=Nat.le_trans I.sz hge
    have I2:=I1.adopt (a:=c') (o:=.ext fun h=>h.CodeRec (.ref c') (X.env.qual++"<lambda>")) nc1 q1 hs0 q4 q5
      ⟨hrec,by obtain ⟨cc,o,vs,t,e1,e2,_⟩:=hrec;cases e1;exact ⟨o,e2⟩,fun h1 h2 x k=>x.at k⟩
    have I3:=I2.kept (h':=h'.push (kla_obj "<lambda>" (X.env.qual++"<lambda>") params body scope (clo X.env.cells scope.names []) ((X.mg "__name__").getD .none) c' ctv)) (t':=tk) fun b o e=>Heap.get?_push_of_some _ e
    have nf:(upd (upd H P (.tbl (#[]++#[rawInt pos.line,rawInt pos.col,.ref c']))) c' (.ext fun h=>h.CodeRec (.ref c') (X.env.qual++"<lambda>"))) h'.objs.size=none:=I2.hok.fresh (Nat.le_refl _)
    have I4:=I3.oV (I2.zR (Nat.le_refl _) nf) (Heap.get?_push_size _ rfl) (fun v z=>by cases z)
    refine h _ _ _ c' _ ctv (fun b o e hb=>?_) (fun b e=>?_) (.inr ⟨c',?_,cU⟩) cU I4
    · rw [bF (cB e nc'),bF hb];exact e
    · cases z:H b with
      | none=>rfl
      | some o =>
        by_cases hb:b=P
        · rw [hb,bF hcP.symm,cU] at e;cases e
        · rw [bF (cB z nc'),bF hb,z] at e;cases e
    · rw [bF hcP.symm,cU];simp
  · have hPo:s.heap.get? P=some (tabObj #[rawInt pos.line,rawInt pos.col,.ref c']):=I.hok P _ hT
    have hfnd:codeAmong pos (#[rawInt pos.line,rawInt pos.col,.ref c']:Array Value).toList=some (.ref c'):=by simp [codeAmong,rawInt]
    refine kla_makeFunctionHit (mg:=X.mg) hclos ok.glob hg hcode C hPo trivial hfnd (hB _ hT) fun ctv h' tk hk hsz=>?_
    have I1:Inv X pins σ H { s with heap:=h',toks:=tk }:=I.kept hk
    have I3:=I1.kept (h':=h'.push ({ cls:=.type "function",data:=.func (kla_fn "<lambda>" (X.env.qual++"<lambda>") params body scope (clo X.env.cells scope.names []) ((X.mg "__name__").getD .none) (.ref c') ctv) }:Obj)) (t':=tk) fun b o e=>Heap.get?_push_of_some _ e
    have nf:H h'.objs.size=none:=I1.hok.fresh (Nat.le_refl _)
    have I4:=I3.oV (I1.zR (Nat.le_refl _) nf) (Heap.get?_push_size _ rfl) (fun v z=>by cases z)
    exact h _ _ _ c' _ ctv (fun b o e _=>e) (fun b e=>e) (.inr ⟨c',hT,hc'⟩) hc' I4
end
end L2
namespace L2
open PySem PySem.W PySem.Spec PyProof.Rows
def iZ (n:Nat):List V:=(List.range n).map fun (i:Nat)=>V.int (i:Int)
def Ed (P:Addr) (lpos:Pos) (qual:Str) (cap:List (Option Nat)) (ta:TA) (te:TE):TE:=fun σ H Q=>ta σ H fun vs H1=>∃ n:Nat,vs=[.int (n:Int)]∧n<64∧TabOk P lpos qual H1 ∧
  ∀ H2,(∀ b o,H1 b=some o→b≠P→H2 b=some o)→(∀ b,H2 b=none→H1 b=none)→TabOk P lpos qual H2 →
    ∃ (Pv:Nat→List Addr→Hp→Prop) (key:Nat→List Int) (κ:Nat→Int) (m:Nat),Pv 0 [] H2∧(∀ i ts H3,i<n→Pv i ts H3→(∀ c',H2 c'=some (.ext fun h=>h.CodeRec (.ref c') qual)→H3 c'=some (.ext fun h=>h.CodeRec (.ref c') qual))∧te (tO (.int (i:Int)) cap σ) H3 fun v H4=>∃ t,v=.ref t∧Pv (i + 1) (ts++[t]) H4) ∧
      (∀ ts H3,Pv n ts H3→∀ i t,ts[i]?=some t→H3 t=some (.tup ((key i).map V.int)))∧(∀ i,i<n→(key i).length=m + 1)∧(∀ i j,i<n→j<n→HT.lexLt (key i) (key j)=decide (κ i<κ j))∧Inj n κ ∧
      ∀ ts H3 D ys,Pv n ts H3→H3 D=none→oJ κ (iZ n) ys→Q (.ref D) (upd H3 D (.lst ys))
section
variable {X:Cx} {e body:Expr} {ta:TA} {te:TE} {params:Arguments} {scope:Scope} {p1 p2 p3 lpos kp pos:Pos}
theorem pB {P c:Addr} {p:Str} (sc:Scope) (hsc:X.env.scope=sc) (N₀:List Str) (hN₀:X.N=N₀) (N':List Str) (cap:List (Option Nat)) (f1:freeOk sc scope=true) (f2:wK scope=true) (f3:Ol scope p N₀ N' cap=true)
    (hcalm:X.calm=true) (hbm:BM X.mg X.base) (hcode:X.env.code=.ref c) (hhd:codeHdIn X.K c P=true) (hroom:X.A.depth + 4<recursionLimit)
    (hgs:Gl X "sorted") (hms:X.mg "sorted"=none) (hgr:Gl X "range") (hmr:X.mg "range"=none) (ha:PA X [e] ta)
    (hb:∀ (A:Around) (f:Addr) (cv:Value) (s:Shared) (H:Hp),A.handled=none→A.depth≤X.A.depth + 2→A.units≤X.A.units + 2→PE (Om X scope (X.env.qual++"<lambda>") cv (p :: N') A f s H) body te)
    (hbind:∀ (pm cv ctv u:Value),bindArgs (kla_fn "<lambda>" (X.env.qual++"<lambda>") params body scope (clo X.env.cells scope.names []) pm cv ctv) ⟨[u],[]⟩=pure [(p,u)])
    (hdef:defaultsOf params X.env=([],[]):=by rfl) (hs:starEach [e] X.env=[(false,eval e X.env)]:=by rfl) :
    PE X (.Call (.Name "sorted" p1) [.Call (.Name "range" p2) [e] [] p3] [⟨some "key",.Lambda params body scope lpos,kp⟩] pos) (Ed P lpos (X.env.qual++"<lambda>") cap ta te):=by
  intro pins s σ H Q I h
  refine wpAny_Call_Name_kw (lW I hgs hms boot_sorted ?_)
  refine callWith_kw ?_
  show wpAny _ _ (spliced ((false,eval (.Call (.Name "range" p2) [e] [] p3) X.env) :: [])) _ _ s
  refine Calls.spliced_cons (Call_ (lW I hgr hmr boot_range (PyProof.Rows.callWith_type1 (thn (ha p3 pins s σ H _ I h) fun us s1 ⟨vs,H1,I1,r1,q1⟩=>?_) hs rfl)))
  obtain ⟨n,e1,hn,hT,q⟩:=q1
  subst e1
  obtain ⟨u,rfl,t,rfl⟩:=vals1 r1
  refine call_range_1 ?_
  refine Calls.spliced_nil ?_
  generalize hro:({ cls:=.type "range",data:=.fields #[.int 0 s1.toks,.int (n:Int) t,.int 1 (s1.toks + 1)] }:Obj)=ro
  have hrd:∀ v,ro.data≠.cell v:=fun v z=>by rw [← hro] at z;cases z
  have I2:Inv X pins σ H1 { s1 with heap:=s1.heap.push ro,toks:=s1.toks + 1 + 1 }:=I1.kept fun b o e=>Heap.get?_push_of_some _ e
  have nr:H1 s1.heap.objs.size=none:=I1.hok.fresh (Nat.le_refl _)
  have I3:=I2.oV (I1.zR (Nat.le_refl _) nr) (Heap.get?_push_size _ (by rw [← hro];rfl)) hrd
  generalize ({ s1 with heap:=s1.heap.push ro,toks:=s1.toks + 1 + 1 }:Shared)=s2 at I3 ⊢
  generalize s1.heap.objs.size=r at I3 ⊢
  refine kws_cons (Fq (P:=P) (c:=c) sc hsc f1 I3 hbm hcode hhd hT hdef fun f H2 s3 c' pm ctv k1 k2 hT2 hc' I4=>?_)
  refine kws_nil ?_
  show wpAny _ _ (call (.builtin "sorted") [.ref r] [(Str.ofString "key",.ref f)]) _ _ s3
  obtain ⟨Pv,key,κ,m,p0,step,htup,hlong,hκ,hinj,fin⟩:=q H2 k1 k2 hT2
  refine call_function_entry_kw kind_sorted plain_sorted entry_sorted (ksk_s1 _ _) ?_
  unfold Builtin.«sorted»
  refine wpAny_bind (m:=checkCount "sorted" 1 1 _) (wpAny_pure ?_)
  have pr:=I4.pin (r,ro) (List.mem_append_right _ (List.mem_append_left _ (List.mem_append_right _ (by simp))))
  have hR:IsRange s3.heap r 0 (n:Int) 1 s1.toks t (s1.toks + 1):=by
    show s3.heap.get? r=_
    rw [pr.1,← hro]
  have hrs:Builtin.Range.rangeSize 0 (n:Int) 1=(n:Nat):=by rw [rangeSize_one];split <;> omega
  refine wpAny_bind (tZ (A:=X.A.in1) (I.ok.hd hcalm) hR (small_one (by omega) (by omega) (by omega) (by omega)) hrs (by omega) fun h' tk vs hk rv=>?_)
  have I5:Inv X _ σ H2 { s3 with heap:=h',toks:=tk }:=I4.kept hk
  have hlen:=rv.length
  rw [List.length_map,List.length_range] at hlen
  refine wpAny_bind (wpAny_newList ?_ (by rw [sizeLine_eq];omega))
  have nD:H2 h'.objs.size=none:=I5.hok.fresh (Nat.le_refl _)
  have I6:Inv X _ σ H2 { s3 with heap:=h'.push (seqObj "list" vs.toArray 0),toks:=tk }:=I5.kept (t':=tk) fun b o e=>Heap.get?_push_of_some _ e
  have hD6:(h'.push (seqObj "list" vs.toArray 0)).get? h'.objs.size=some (seqObj "list" vs.toArray 0):=Heap.get?_push_size _ rfl
  have hxl:((List.range n).map fun (i:Nat)=>V.int (i:Int)).length=n:=by simp
  refine wpAny_bind (wpAny_holding (wpAny_call_entry_kw slot_list_sort ⟨_,hD6,rfl⟩ entry_list_sort ?body (ksk_l1 _ _)))
  show wpAny (model X.prog X.w) X.A.in1.in1 (Builtin.«list.sort» ⟨[.ref h'.objs.size],[(Str.ofString "key",.ref f)]⟩) _ _ _
  rw [ksk_t1]
  refine wpAny_mono (Bh (X:=X) (A:=X.A.in1.in1) (s:={ s3 with heap:=h'.push (seqObj "list" vs.toArray 0),toks:=tk }) (xs:=iZ n) (key:=key) (κ:=κ) (m:=m) (n0:=0) rv (by show ((List.range n).map _).length<64;rw [hxl];exact hn) Pv I6 hD6
    (fun H' hn'=>I5.zR (Nat.le_refl _) hn') nD (Nat.le_trans I5.sz (Nat.le_refl _)) p0 ?call ?tup ?long ?kap ?inj) ?_ fun _ _ x=>x
  case call =>
    intro i x u ts pins' s' H' hx rx I' hsub pv
    obtain ⟨hi,ex⟩:i<n∧x=V.int (i:Int):=by
      have hx':((List.range n).map fun (i:Nat)=>V.int (i:Int))[i]?=some x:=hx
      rw [List.getElem?_map] at hx'
      by_cases hi:i<n
      · rw [List.getElem?_range hi] at hx'
        exact ⟨hi,(Option.some.inj hx').symm⟩
      · rw [List.getElem?_eq_none (by rw [List.length_range];omega)] at hx';cases hx'
    subst ex
    obtain ⟨hkc,ht⟩:=step i ts H' hi pv
    have hcr:s'.heap.CodeRec (.ref c') (X.env.qual++"<lambda>"):=(I'.hok c' _ (hkc c' hc')).1
    refine wpAny_mono (Ft (X:=X) (A:=X.A.in1.in1) sc hsc N₀ hN₀ f1 f2 f3 I' I.ok.frames (I.ok.hd hcalm) (by show X.A.depth<recursionLimit;omega) (hsub _ (List.mem_append_right _ List.mem_cons_self)) hcr (hbind _ _ _ _)
      (hb _ f _ s' H' (I.ok.hd hcalm) (by show X.A.depth≤X.A.depth + 2;omega) (by show X.A.units + 1 + 1≤X.A.units + 2;omega)) rx ht) (fun k s2 ⟨v,H3,rv',I7,t',ev,pv'⟩=>?_) fun _ _ x=>x
    subst ev
    have ek:k=.ref t':=rv'
    exact ⟨t',H3,ek,I7,pv'⟩
  case tup =>
    intro ts H' pv
    have pv':Pv n ts H':=by
      have:Pv ((List.range n).map fun (i:Nat)=>V.int (i:Int)).length ts H':=pv
      rw [hxl] at this;exact this
    exact htup ts H' pv'
  case long =>
    intro i hi
    have hi':i<((List.range n).map fun (i:Nat)=>V.int (i:Int)).length:=hi
    rw [hxl] at hi'
    exact hlong i hi'
  case kap =>
    intro i j hi hj
    have hi':i<((List.range n).map fun (i:Nat)=>V.int (i:Int)).length:=hi
    have hj':j<((List.range n).map fun (i:Nat)=>V.int (i:Int)).length:=hj
    rw [hxl] at hi' hj'
    exact hκ i j hi' hj'
  case inj =>
    have:(iZ n).length=n:=hxl
    rw [this];exact hinj
  rintro fin' s8 ⟨rfl,ts,H8,ys,pv,nD8,hsb,I8⟩
  refine ⟨_,rfl,wpAny_pure ⟨_,rfl,?_⟩⟩
  have pv':Pv n ts H8:=by
    have e':(iZ n).length=n:=hxl
    rw [e'] at pv;exact pv
  exact ⟨.ref h'.objs.size,_,I8.jE.jE,rfl,fin ts H8 _ ys pv' nD8 hsb⟩
end
end L2
namespace L2
open PySem PySem.W PySem.Spec PyProof.Rows
def Pj (ts:List Addr) (H:Hp):Prop:=∀ b,H b=none∨(∃ o xs,H b=some (.frz o (.lst xs)))∨(b∈ts∧H b=some (.tbl #[]))
theorem Cm {P:Program} {w:World} {K:PySem.W.Frag} {mg mb:Str→Option Value} {CX:CXT} {k:Nat} {fa a:Addr} {fd:FuncData} {x:Str} {sp:Sp} {s₁:Shared} {vs:List Value} {ns:List Int} {ts:List Addr}
    (KX:K.In s₁.heap) (hns:s₁.heap.Ns mainGlobals mg) (hb:s₁.heap.Ns builtinsNs mb) (hbb:∀ x:Str,x≠"__name__"→mb x=bootBuiltins x) (hlim:s₁.heap.NoLimit) (hg:s₁.gens=#[])
    (ha:s₁.heap.get? a=some { cls:=.type "list",data:=.seq vs.toArray }) (hi:IntsAre vs ns) (hl:ns.length≤sizeLine) (hr:qZ k callerA)
    (hts:∀ P∈ts,s₁.heap.get? P=some (tabObj #[])) (htk:∀ P∈ts,K.lookup P=none) (htc:∀ P∈ts,isCodeTable s₁.heap P)
    (hbm:∃ bm ob,mg "__builtins__"=some (.ref bm)∧bm≠builtinsNs∧s₁.heap.get? bm=some ob∧ob.cls=.type "module"∧ob.dict=some builtinsNs∧ob.data=.plain)
    (F:∀ base:Heap,K.In base→base.Ns mainGlobals mg→BM mg base→cA P w K mg base CX k fa fd [x] sp) (hbind:∀ (s:Shared) (u:Value),BindsTo s fd ⟨[u],[]⟩ [(x,u)])
    (hsp:∀ H:Hp,Pj ts H→(∀ P∈ts,H P=some (.tbl #[]))→SqL K H a (ns.map V.int)→sp [.ref a] H (fun v _=>v=.bl true) fun _ _ _=>False)
    (hCX:∀ H e s',CX [] H s₁ (fun _ _ _=>False) e s'→False) :
    codeAny (model P w) callerA (.call (.ref fa) ⟨[.ref a],[]⟩) (fun r s'=>r=.ok (.ret (.bool true))∧OldK s₁.heap s'.heap∧s'.os=s₁.os∧AllBare s'.gens) s₁:=by
  have rv:=uw hi
  have lenV:=hi.length
  have haT:a ∉ ts:=fun z=>by have:=hts a z;rw [ha] at this;cases this
  have core:∀ H:Hp,Pj ts H→(∀ P∈ts,H P=some (.tbl #[]))→SqL K H a (ns.map V.int)→HOk P w H s₁.heap→(∀ b,H b≠none→b=a∨b∈ts)→(H a≠none→K.lookup a=none) →
      codeAny (model P w) callerA (.call (.ref fa) ⟨[.ref a],[]⟩) (fun r s'=>r=.ok (.ret (.bool true))∧OldK s₁.heap s'.heap∧s'.os=s₁.os∧AllBare s'.gens) s₁:=by
    intro H hO hTb hS hok hA hK
    have base_of:∀ {b:Addr} {o:Obj},s₁.heap.get? b=some o→H b=none→(DP s₁.heap H).get? b=some o:=fun e n=>Fz e n
    have noA:∀ {b:Addr} {o:Obj},s₁.heap.get? b=some o→(∀ xs n,o.data≠.seq xs n)→(∀ ps,o.data≠.fields ps)→H b=none:=fun {b o} e d1 d2=>by
      cases q:H b with
      | none=>rfl
      | some u =>
        rcases hA b (by rw [q];simp) with e' | e'
        · subst e'
          rw [ha] at e;cases e
          exact absurd rfl (d1 _ _)
        · have:=hts b e'
          rw [e] at this;cases this
          exact absurd rfl (d2 _)
    have nsK:∀ {b:Addr} {m:Str→Option Value},s₁.heap.Ns b m→(DP s₁.heap H).Ns b m:=fun {b m} ⟨o,es,ep,e,d,r⟩=>⟨o,es,ep,base_of e (noA e (fun _ _ z=>by rw [d] at z;cases z) fun _ z=>by rw [d] at z;cases z),d,r⟩
    have hKb:K.In (DP s₁.heap H):=fun b o e=>base_of (KX b o e) (by
      cases q:H b with
      | none=>rfl
      | some u =>
        rcases hA b (by rw [q];simp) with e' | e'
        · subst e'
          rw [hK (by rw [q];simp)] at e;cases e
        · rw [htk b e'] at e;cases e)
    have hM:Mod K mg (DP s₁.heap H):=⟨hKb,nsK hns,⟨mb,nsK hb,hbb⟩,let ⟨mc,h1,h2⟩:=hlim;⟨mc,nsK h1,h2⟩⟩
    have hBM:BM mg (DP s₁.heap H):=by
      obtain ⟨bm,ob,c1,c2,c3,c4,c5,c6⟩:=hbm
      refine ⟨bm,ob,c1,c2,fun q=>?_,base_of c3 (noA c3 (fun _ _ z=>by rw [c6] at z;cases z) fun _ z=>by rw [c6] at z;cases z),c4,c5,c6⟩
      obtain ⟨o,es,ep,e,hd,_⟩:=id hns
      rw [q,e] at c3;cases c3;rw [hd] at c6;cases c6
    have e0:VR P w K mg (DP s₁.heap H) callerA [] s₁ H:=⟨rfl,hM,fun b o e=>Ob e,Nat.le_of_eq (CJ _ _),trivial,fun b hb=>absurd (show b∈([]:List Addr) from hb) (by simp),hok,.of_eq hg⟩
    refine codeAny_mono ((F _ hKb (nsK hns) hBM).run callerA [] s₁ H ⟨[.ref a],[]⟩ [.ref a] [.ref a] _ _ hr e0 (hbind s₁ (.ref a)) (.cons rfl .nil) (hsp H hO hTb hS)) fun r s' h=>?_
    cases r with
    | error e=>exact (hCX H e s' h).elim
    | ok fl =>
      cases fl with
      | next=>exact False.elim h
      | brk=>exact False.elim h
      | cont=>exact False.elim h
      | ret u =>
        obtain ⟨v,H',os,bare,un,hok',r',q⟩:=h
        have q':v=.bl true:=q
        subst q'
        obtain rfl:u=Value.bool true:=r'
        have old:∀ b o,s₁.heap.get? b=some o→asItWas s₁.heap s'.heap b o:=fun b o e=>by
          rcases hO b with z | ⟨ob,xs,z⟩ | ⟨hbt,z⟩
          · exact .inl (un.keep b o e z (by intro z;exact absurd (show b∈([]:List Addr) from z) (by simp)) (by simp))
          · have z2:=un.frzs b ob _ z
            obtain ⟨e1,_⟩:=hok b _ z
            obtain ⟨e2,_⟩:=hok' b _ z2
            rw [e] at e1;cases e1
            exact .inl e2
          · obtain ⟨more,z2⟩:=un.tbls b #[] z
            have e2:s'.heap.get? b=some { cls:=.none,data:=.fields (#[]++more) }:=hok' b _ z2
            have e3:=hts b hbt
            rw [e] at e3;cases e3
            exact .inr (.inl ⟨htc b hbt,rfl,#[],more,rfl,e2⟩)
        refine ⟨rfl,⟨old,fun b o e=>?_⟩,os,bare⟩
        exact un.there b o e (by simp)
  have tb:∀ b,(if b∈ts then some (HO.tbl #[]) else none)=none∨b∈ts:=fun b=>by
    by_cases h:b∈ts
    · exact .inr h
    · exact .inl (if_neg h)
  cases hk:K.lookup a with
  | some o =>
    have e:=KX a o hk
    rw [ha] at e
    cases e
    refine core (fun b=>if b∈ts then some (.tbl #[]) else none) (fun b=>?_) (fun P hP=>if_pos hP) (.inr ⟨_,vs.toArray,_,hk,rfl,rfl,rfl,by rw [List.size_toArray,lenV];exact hl,by simpa using rv⟩) (fun b u z=>?_) (fun b z=>?_) (fun z=>absurd (if_neg haT) z)
    · by_cases h:b∈ts
      · exact .inr (.inr ⟨h,if_pos h⟩)
      · exact .inl (if_neg h)
    · by_cases h:b∈ts
      · have z':=(if_pos h).symm.trans z
        cases z'
        exact hts b h
      · have z':=(if_neg h).symm.trans z
        cases z'
    · by_cases h:b∈ts
      · exact .inr h
      · exact absurd (if_neg h) z
  | none =>
    refine core (fun b=>if b=a then some (.frz { cls:=.type "list",data:=.seq vs.toArray } (.lst (ns.map V.int))) else if b∈ts then some (.tbl #[]) else none) (fun b=>?_) (fun P hP=>?_) (.inl (.inr ⟨{ cls:=.type "list",data:=.seq vs.toArray },if_pos rfl⟩)) (fun b u z=>?_) (fun b z=>?_) fun _=>hk
    · by_cases hb:b=a
      · exact .inr (.inl ⟨_,_,if_pos hb⟩)
      · by_cases h:b∈ts
        · exact .inr (.inr ⟨h,(if_neg hb).trans (if_pos h)⟩)
        · exact .inl ((if_neg hb).trans (if_neg h))
    · have hb:P≠a:=fun z=>haT (z ▸ hP)
      exact (if_neg hb).trans (if_pos hP)
    · by_cases hb:b=a
      · have z':=(if_pos hb).symm.trans z
        cases z'
        subst hb
        exact ⟨ha,by rw [List.length_map];exact hl,vs,_,rv,ha⟩
      · have z1:=(if_neg hb).symm.trans z
        by_cases h:b∈ts
        · have z':=(if_pos h).symm.trans z1
          cases z'
          exact hts b h
        · have z':=(if_neg h).symm.trans z1
          cases z'
    · by_cases hb:b=a
      · exact .inl hb
      · by_cases h:b∈ts
        · exact .inr h
        · exact absurd ((if_neg hb).trans (if_neg h)) z
theorem Eb {l:PySem.W.OpenLaw} {n k:Nat} {q:Program} {loose:List Str} {XP:(Str→Option Value)→Heap→Prop} {YP:World→Heap→Prop} {d:DefRec} {K:Params→PySem.W.Frag} {CX:World→CXT} {sp:World→Sp} {x:Str} {ts:List Addr}
    (hn:l.most=some n) (hn2:n≤sizeLine) (hdf:d.params.defaults=[]) (hr:qZ k callerA)
    (hY:∀ (w:World) (h:Heap),YP w h→(K w.params).In h) (hYt:∀ (w:World) (h:Heap),YP w h→∀ P∈ts,h.get? P=some (tabObj #[]))
    (hts:∀ (w:World),∀ P∈ts,(K w.params).lookup P=none∧∃ c,codeHdIn (K w.params) c P=true)
    (F:∀ (w:World) (mg:Str→Option Value) (fa:Addr) (h:Heap),(K w.params).In h→h.Ns mainGlobals mg→mg d.name=some (.ref fa) →
      ∃ fd:FuncData,(∀ (s:Shared) (u:Value),BindsTo s fd ⟨[u],[]⟩ [(x,u)]) ∧
        ∀ base:Heap,(K w.params).In base→base.Ns mainGlobals mg→BM mg base→cA l.prog w (K w.params) mg base (CX w) k fa fd [x] (sp w))
    (hsp:∀ (w:World) (H:Hp) (a:Addr) (ns:List Int),ns.length≤n→Pj ts H→(∀ P∈ts,H P=some (.tbl #[]))→SqL (K w.params) H a (ns.map V.int)→sp w [.ref a] H (fun v _=>v=.bl true) fun _ _ _=>False)
    (hCX:∀ (w:World) (H:Hp) (s:Shared) (e:Value) (s':Shared),CX w [] H s (fun _ _ _=>False) e s'→False) :
    PySem.W.WalkO q loose XP YP l.row.toRowW d [] (fun f vs=>PySem.call f vs):=by
  refine Att.xr hn hdf fun w s₀ s₁ mg mb fa o pm cd doc a vs ns G Y ho hd hcd hmg hobj hints hlen hg=>?_
  have KX:=hY w _ Y
  obtain ⟨fd,hb,hF⟩:=F w mg fa _ KX G.T.g hmg
  refine Cm KX G.T.g G.T.b G.T.builtins G.T.nolimit hg hobj hints (Nat.le_trans hlen hn2) hr (hYt w _ Y) (fun P hP=>(hts w P hP).1) (fun P hP=>?_) G.T.bmain hF hb (fun H hO hT hS=>hsp w H a ns hlen hO hT hS) fun H e s'=>hCX w H s₁ e s'
  obtain ⟨c,hc⟩:=(hts w P hP).2
  obtain ⟨o,vs,file,tf,flags,tg,inF,text,tt,e1,e2,e3,e4,_⟩:=codeHd_of_K KX hc
  exact ⟨c,o,vs,e1,e2,e3,e4⟩
end L2
namespace L2
open PySem PySem.Spec PyProof.Rows
mutual
inductive Den (K:PySem.W.Frag) (H:Hp):V→PyData→Prop
  | non:Den K H .non .none
  | bl (b:Bool):Den K H (.bl b) (.bool b)
  | int (i:Int):Den K H (.int i) (.int i)
  | str (x:Str):Den K H (.str x) (.str x)
  | list {a:Addr} {xs:List V} {ds:List PyData}:SqL K H a xs→cg K H xs ds→Den K H (.ref a) (.list ds)
  | tuple {a:Addr} {xs:List V} {ds:List PyData}:SqT K H a xs→cg K H xs ds→Den K H (.ref a) (.tuple ds)
inductive cg (K:PySem.W.Frag) (H:Hp):List V→List PyData→Prop
  | nil:cg K H [] []
  | cons {v:V} {vs:List V} {d:PyData} {ds:List PyData}:Den K H v d→cg K H vs ds→cg K H (v :: vs) (d :: ds)
end
theorem cg.length {K:PySem.W.Frag} {H:Hp}:∀ {vs:List V} {ds:List PyData},cg K H vs ds→vs.length=ds.length
  | _,_,.nil=>rfl
  | _,_,.cons _ hs=>by rw [List.length_cons,List.length_cons,cg.length hs]
theorem cg.append {K:PySem.W.Frag} {H:Hp}:∀ {vs ws:List V} {ds es:List PyData},cg K H vs ds→cg K H ws es→cg K H (vs++ws) (ds++es)
  | _,_,_,_,.nil,h=>h
  | _,_,_,_,.cons h hs,h'=>.cons h (cg.append hs h')
theorem cg.get {K:PySem.W.Frag} {H:Hp}:∀ {vs:List V} {ds:List PyData} {i:Nat} {d:PyData},cg K H vs ds→ds[i]?=some d→∃ v,vs[i]?=some v∧Den K H v d
  | _,_,_,_,.nil,e=>by simp at e
  | _,_,0,_,.cons h _,e=>by simp at e;subst e;exact ⟨_,rfl,h⟩
  | _,_,i + 1,d,.cons _ hs,e=>by
    obtain ⟨v,h1,h2⟩:=cg.get (i:=i) (d:=d) hs (by simpa using e)
    exact ⟨v,by simpa using h1,h2⟩
theorem cg.get' {K:PySem.W.Frag} {H:Hp}:∀ {vs:List V} {ds:List PyData} {i:Nat} {v:V},cg K H vs ds→vs[i]?=some v→∃ d,ds[i]?=some d∧Den K H v d
  | _,_,_,_,.nil,e=>by simp at e
  | _,_,0,_,.cons h _,e=>by simp at e;subst e;exact ⟨_,rfl,h⟩
  | _,_,i + 1,v,.cons _ hs,e=>by
    obtain ⟨d,h1,h2⟩:=cg.get' (i:=i) (v:=v) hs (by simpa using e)
    exact ⟨d,by simpa using h1,h2⟩
theorem cg.take {K:PySem.W.Frag} {H:Hp}:∀ {vs:List V} {ds:List PyData} (n:Nat),cg K H vs ds→cg K H (vs.take n) (ds.take n)
  | _,_,0,_=>.nil
  | _,_,_ + 1,.nil=>.nil
  | _,_,n + 1,.cons h hs=>.cons h (cg.take n hs)
theorem cg.set {K:PySem.W.Frag} {H:Hp} {v:V} {d:PyData} (h:Den K H v d):∀ {vs:List V} {ds:List PyData} (i:Nat),cg K H vs ds→cg K H (vs.set i v) (ds.set i d)
  | _,_,_,.nil=>.nil
  | _,_,0,.cons _ hs=>.cons h hs
  | _,_,i + 1,.cons q hs=>.cons q (cg.set h i hs)
theorem cg.ints {K:PySem.W.Frag} {H:Hp}:∀ (ns:List Int),cg K H (ns.map V.int) (ns.map PyData.int)
  | []=>.nil
  | n :: ns=>.cons (.int n) (cg.ints ns)
def oF (ns:List Int):PyData:=.list (ns.map PyData.int)
theorem Den.ints {K:PySem.W.Frag} {H:Hp} {a:Addr} {ns:List Int} (h:SqL K H a (ns.map V.int)):Den K H (.ref a) (oF ns):=.list h (cg.ints ns)
theorem cg.int_inv {K:PySem.W.Frag} {H:Hp}:∀ {vs:List V} {ns:List Int},cg K H vs (ns.map PyData.int)→vs=ns.map V.int
  | _,[],.nil=>rfl
  | _,n :: ns,.cons h hs=>by
    cases h
    rw [cg.int_inv hs];rfl
theorem Den.yP {K:PySem.W.Frag} {H:Hp} {v:V} {ns:List Int} (h:Den K H v (oF ns)):∃ a,v=.ref a∧SqL K H a (ns.map V.int):=by
  cases h with
  | list h hs=>exact ⟨_,rfl,by rw [← cg.int_inv hs];exact h⟩
section
variable {X:Cx} {pins:List (Addr × Obj)} {σ:St} {H:Hp} {s:Shared}
mutual
theorem Den.reads (I:Inv X pins σ H s):∀ {v:V} {d:PyData} {u:Value},Den X.K H v d→RelV v u→∃ as,Reads s.heap u d as
  | _,_,_,.non,r=>by cases r;exact ⟨_,.none⟩
  | _,_,_,.bl b,r=>by cases r;exact ⟨_,.bool b⟩
  | _,_,_,.int i,r=>by obtain ⟨t,rfl⟩:=r;exact ⟨_,.int i t⟩
  | _,_,_,.str x,r=>by obtain ⟨t,rfl⟩:=r;exact ⟨_,.str x t⟩
  | _,_,_,.list h hs,r=>by
    cases r
    obtain ⟨its,r1,⟨o,n,e,c,_,d⟩,_⟩:=I.list h
    obtain ⟨as,q⟩:=cg.reads I hs r1
    exact ⟨_,.list e c d (by simpa using q)⟩
  | _,_,_,.tuple h hs,r=>by
    cases r
    obtain ⟨its,r1,⟨o,e,c,n,d⟩,_⟩:=I.tuple h
    obtain ⟨as,q⟩:=cg.reads I hs r1
    exact ⟨_,.tuple e c d (by simpa using q)⟩
theorem cg.reads (I:Inv X pins σ H s):∀ {vs:List V} {ds:List PyData} {us:List Value},cg X.K H vs ds→Vals vs us→∃ as,ReadsAll s.heap us ds as
  | _,_,_,.nil,r=>by cases r;exact ⟨_,.nil⟩
  | _,_,_,.cons h hs,r=>by
    cases r with
    | cons r1 r2 =>
      obtain ⟨as,q⟩:=Den.reads I h r1
      obtain ⟨bs,q'⟩:=cg.reads I hs r2
      exact ⟨_,.cons q q'⟩
end
def Yz (K:PySem.W.Frag) (neg:Bool):R2:=fun x y H Q=>∃ d e,Den K H x d∧Den K H y e∧SeqAt.shaped d=true∧SeqAt.shaped e=true∧Q (.bl (if neg then !PyData.eqv d e else PyData.eqv d e)) H
theorem G7 (hu:X.A.units + 64<cLine):OpR X (compareOp .Eq) (Yz X.K false):=by
  intro pins s σ H x y v u Q I rx ry h
  obtain ⟨d,e,hd,he,sd,se,q⟩:=h
  obtain ⟨as,ra⟩:=hd.reads I rx
  obtain ⟨bs,rb⟩:=he.reads I ry
  exact SeqAt.compareEq_shaped ra rb sd se hu ⟨.bl _,H,I,rfl,q⟩
theorem G6 (hu:X.A.units + 64<cLine):OpR X (compareOp .NotEq) (Yz X.K true):=by
  intro pins s σ H x y v u Q I rx ry h
  obtain ⟨d,e,hd,he,sd,se,q⟩:=h
  obtain ⟨as,ra⟩:=hd.reads I rx
  obtain ⟨bs,rb⟩:=he.reads I ry
  exact SeqAt.compareNe_shaped ra rb sd se hu ⟨.bl _,H,I,rfl,q⟩
end
def Sh (n:Nat) (d:PyData):Prop:=d.canLay0=true∧d.depth≤n
theorem Dl:∀ {ds:List PyData},(∀ d∈ds,d.canLay0=true)→PyData.canLayAll0 ds=true
  | [],_=>rfl
  | d :: ds,h=>by rw [PyData.canLayAll0,h d List.mem_cons_self,Dl fun x hx=>h x (List.mem_cons_of_mem _ hx)];rfl
theorem CP {n:Nat}:∀ {ds:List PyData},(∀ d∈ds,d.depth≤n)→PyData.depthAll ds≤n
  | [],_=>by simp [PyData.depthAll]
  | d :: ds,h=>by
    have h1:=h d List.mem_cons_self
    have h2:=CP fun x hx=>h x (List.mem_cons_of_mem _ hx)
    simp only [PyData.depthAll]
    omega
theorem Sh.int (n:Nat) (i:Int):Sh n (.int i):=⟨rfl,by simp [PyData.depth]⟩
theorem Sh.list {n:Nat} {ds:List PyData} (h:∀ d∈ds,Sh n d):Sh (n + 1) (.list ds):=⟨by rw [PyData.canLay0];exact Dl fun d hd=>(h d hd).1,by
  have:=CP fun d hd=>(h d hd).2
  simp only [PyData.depth];omega⟩
theorem Sh.tuple {n:Nat} {ds:List PyData} (h:∀ d∈ds,Sh n d):Sh (n + 1) (.tuple ds):=⟨by rw [PyData.canLay0];exact Dl fun d hd=>(h d hd).1,by
  have:=CP fun d hd=>(h d hd).2
  simp only [PyData.depth];omega⟩
theorem Sh.ints (n:Nat) (ns:List Int):Sh (n + 1) (oF ns):=.list fun d hd=>by
  obtain ⟨i,_,rfl⟩:=List.mem_map.mp hd
  exact .int n i
theorem Sh.ok {n:Nat} {d:PyData} (h:Sh n d) (hn:n≤64):SeqAt.shaped d=true:=by
  unfold SeqAt.shaped
  rw [h.1,decide_eq_true (by have:=h.2;omega)];rfl
abbrev fZ:=List (Addr × Pos × Str)
def TabsOk (T:fZ) (H:Hp):Prop:=∀ t∈T,TabOk t.1 t.2.1 t.2.2 H
structure bI (T:fZ) (H H':Hp):Prop where
  t0:TabsOk T H
  t1:TabsOk T H'
  keep:∀ b o,H b=some o→(∀ ps,o≠.tbl ps)→H' b=some o
  tb:∀ b ps,H b=some (.tbl ps)→∃ ps',H' b=some (.tbl ps')
theorem TabsOk.nil (H:Hp):TabsOk [] H:=fun t ht=>nomatch ht
theorem TabsOk.mono {T:fZ} {H H':Hp} (t:TabsOk T H) (s:Same H H'):TabsOk T H':=fun q hq=>by
  rcases t q hq with e | ⟨c,e1,e2⟩
  · exact .inl (s _ _ e)
  · exact .inr ⟨c,s _ _ e1,s _ _ e2⟩
theorem bI.refl {T:fZ} {H:Hp} (t:TabsOk T H):bI T H H:=⟨t,t,fun _ _ h _=>h,fun _ ps h=>⟨ps,h⟩⟩
theorem bI.of {T:fZ} {H H':Hp} (t:TabsOk T H) (s:Same H H'):bI T H H':=⟨t,t.mono s,fun b o h _=>s b o h,fun b ps h=>⟨ps,s _ _ h⟩⟩
theorem bI.trans {T:fZ} {H H1 H2:Hp} (a:bI T H H1) (b:bI T H1 H2):bI T H H2:=⟨a.t0,b.t1,fun c o h n=>b.keep c o (a.keep c o h n) n,fun c ps h=>by
  obtain ⟨ps',e⟩:=a.tb c ps h
  exact b.tb c ps' e⟩
theorem bI.free {T:fZ} {H H':Hp} (a:bI T H H') {l:Addr} (h:H' l=none):H l=none:=by
  cases q:H l with
  | none=>rfl
  | some o =>
    have key:(∃ ps,o=.tbl ps)∨∀ ps,o≠.tbl ps:=by
      cases o with
      | tbl ps=>exact .inl ⟨ps,rfl⟩
      | _=>exact .inr fun _ z=>by cases z
    rcases key with ⟨ps,rfl⟩ | n
    · obtain ⟨ps',e⟩:=a.tb l ps q
      rw [h] at e;cases e
    · have:=a.keep l o q n
      rw [h] at this;cases this
theorem bI.seq {T:fZ} {K:PySem.W.Frag} {H H':Hp} {a:Addr} {xs:List V} (e:bI T H H') (h:SqL K H a xs):SqL K H' a xs:=by
  rcases h with (h | ⟨o,h⟩) | h
  · exact .inl (.inl (e.keep _ _ h fun _ z=>by cases z))
  · exact .inl (.inr ⟨o,e.keep _ _ h fun _ z=>by cases z⟩)
  · exact .inr h
theorem bI.WD {T:fZ} {K:PySem.W.Frag} {H H':Hp} {a:Addr} {xs:List V} (e:bI T H H') (h:SqT K H a xs):SqT K H' a xs:=by
  rcases h with (h | ⟨o,h⟩) | h
  · exact .inl (.inl (e.keep _ _ h fun _ z=>by cases z))
  · exact .inl (.inr ⟨o,e.keep _ _ h fun _ z=>by cases z⟩)
  · exact .inr h
mutual
theorem Den.tH {T:fZ} {K:PySem.W.Frag} {H H':Hp} (e:bI T H H'):∀ {v:V} {d:PyData},Den K H v d→Den K H' v d
  | _,_,.non=>.non
  | _,_,.bl b=>.bl b
  | _,_,.int i=>.int i
  | _,_,.str x=>.str x
  | _,_,.list h hs=>.list (e.seq h) (cg.tH e hs)
  | _,_,.tuple h hs=>.tuple (e.WD h) (cg.tH e hs)
theorem cg.tH {T:fZ} {K:PySem.W.Frag} {H H':Hp} (e:bI T H H'):∀ {vs:List V} {ds:List PyData},cg K H vs ds→cg K H' vs ds
  | _,_,.nil=>.nil
  | _,_,.cons h hs=>.cons (Den.tH e h) (cg.tH e hs)
end
def m9 (T:fZ) (H:Hp) (P:List V→Prop) (Q:VK):Prop:=∀ (l:Addr) (H':Hp) (xs:List V),bI T H H'→H l=none→H' l=some (.lst xs)→P xs→Q (.ref l) H'
def kJ:HO→Bool
  | .tbl _=>false
  | .ext _=>false
  | _=>true
structure Ow (T:fZ) (H0 H:Hp) (L:List (Addr × HO)):Prop where
  same:bI T H0 H
  new:∀ p∈L,H0 p.1=none
  at_:∀ p∈L,H p.1=some p.2
  pl:∀ p∈L,kJ p.2=true
  nd:(L.map (·.1)).Nodup
section
variable {T:fZ} {H0 H1 H H':Hp} {L L':List (Addr × HO)} {a l:Addr} {o o':HO} {xs:List V}
theorem Ow.refl (t:TabsOk T H):Ow T H H []:=⟨bI.refl t,(fun p hp=>nomatch hp),(fun p hp=>nomatch hp),(fun p hp=>nomatch hp),List.nodup_nil⟩
theorem Ow.Qk (H:Hp):Ow [] H H []:=Ow.refl (TabsOk.nil H)
theorem Ow.get (O:Ow T H0 H L) (k:Nat) (h:L[k]?=some (a,o):=by rfl):H a=some o:=O.at_ _ (List.mem_of_getElem? h)
theorem Ow.fr (O:Ow T H0 H L) (k:Nat) (h:L[k]?=some (a,o):=by rfl):H0 a=none:=O.new _ (List.mem_of_getElem? h)
theorem Ow.sq {K:PySem.W.Frag} (O:Ow T H0 H L) (k:Nat) (h:L[k]?=some (a,.lst xs):=by rfl):SqL K H a xs:=SqL.of (O.get k h)
theorem Ow.sqT {K:PySem.W.Frag} (O:Ow T H0 H L) (k:Nat) (h:L[k]?=some (a,.tup xs):=by rfl):SqT K H a xs:=SqT.of (O.get k h)
theorem TabOk.upd {P:Addr} {pos:Pos} {q:Str} (t:TabOk P pos q H) (h:H a=none∨∃ o,H a=some o∧kJ o=true):TabOk P pos q (L2.upd H a o'):=by
  have ne:∀ b u,H b=some u→kJ u=false→b≠a:=fun b u e p z=>by
    subst z
    rcases h with h | ⟨o,h,ho⟩
    · rw [h] at e;cases e
    · rw [h] at e;cases e;rw [ho] at p;cases p
  rcases t with e | ⟨c,e1,e2⟩
  · exact .inl (by rw [bF (ne _ _ e rfl)];exact e)
  · exact .inr ⟨c,by rw [bF (ne _ _ e1 rfl)];exact e1,by rw [bF (ne _ _ e2 rfl)];exact e2⟩
theorem bI.upd (s:bI T H0 H) (h:H0 a=none) (h':H a=none∨∃ o,H a=some o∧kJ o=true):bI T H0 (L2.upd H a o') :=
  ⟨s.t0,fun t ht=>(s.t1 t ht).upd h',fun b u e n=>by rw [bF (cB e h)];exact s.keep b u e n,fun b ps e=>by rw [bF (cB e h)];exact s.tb b ps e⟩
theorem Ow.mk' (O:Ow T H0 H L) (h:H a=none) (ho:kJ o=true):Ow T H0 (upd H a o) ((a,o) :: L):=by
  have ne:∀ p∈L,p.1≠a:=fun p hp=>cB (O.at_ p hp) h
  have n0:H0 a=none:=O.same.free h
  refine ⟨O.same.upd n0 (.inl h),fun p hp=>?_,fun p hp=>?_,fun p hp=>?_,?_⟩
  · rcases List.mem_cons.mp hp with e | e
    · rw [e];exact n0
    · exact O.new p e
  · rcases List.mem_cons.mp hp with e | e
    · rw [e];exact cU
    · rw [bF (ne p e)];exact O.at_ p e
  · rcases List.mem_cons.mp hp with e | e
    · rw [e];exact ho
    · exact O.pl p e
  · rw [List.map_cons,List.nodup_cons]
    refine ⟨fun hm=>?_,O.nd⟩
    obtain ⟨p,hp,e⟩:=List.mem_map.mp hm
    exact ne p hp e
theorem Bl:∀ {L:List (Addr × HO)} {k:Nat} {a:Addr} {o o':HO},L[k]?=some (a,o)→(L.set k (a,o')).map (·.1)=L.map (·.1)
  | [],_,_,_,_,h=>by simp at h
  | p :: L,0,a,o,o',h=>by
    have:p=(a,o):=by simpa using h
    rw [this];rfl
  | p :: L,k + 1,a,o,o',h=>by
    rw [List.set_cons_succ,List.map_cons,List.map_cons,Bl (L:=L) (k:=k) (o:=o) (by simpa using h)]
theorem Ow.YB (O:Ow T H0 H L) (k:Nat) (h:L[k]?=some (a,o)) (ho:kJ o'=true):Ow T H0 (upd H a o') (L.set k (a,o')):=by
  have hm0:=List.mem_of_getElem? h
  have n0:H0 a=none:=O.new _ hm0
  have hk:k<L.length:=(List.getElem?_eq_some_iff.mp h).1
  refine ⟨O.same.upd n0 (.inr ⟨o,O.at_ _ hm0,O.pl _ hm0⟩),fun p hp=>?_,fun p hp=>?_,fun p hp=>?_,by rw [Bl h];exact O.nd⟩
  · rcases List.mem_or_eq_of_mem_set hp with e | e
    · exact O.new p e
    · rw [e];exact n0
  · obtain ⟨j,hj,e⟩:=List.getElem_of_mem hp
    by_cases hjk:j=k
    · subst hjk
      rw [List.getElem_set_self] at e
      rw [← e];exact cU
    · rw [List.getElem_set_ne (Ne.symm hjk)] at e
      have hj':j<L.length:=by rw [List.length_set] at hj;exact hj
      have hm:p∈L:=by rw [← e];exact List.getElem_mem hj'
      rw [bF]
      · exact O.at_ p hm
      · intro z
        have e1:(L.map (·.1))[j]?=some p.1:=by rw [List.getElem?_map,List.getElem?_eq_getElem hj',e];rfl
        have e2:(L.map (·.1))[k]?=some a:=by rw [List.getElem?_map,h];rfl
        rw [z] at e1
        obtain ⟨a1,a2⟩:=List.getElem?_eq_some_iff.mp e1
        obtain ⟨b1,b2⟩:=List.getElem?_eq_some_iff.mp e2
        exact hjk ((List.getElem_inj O.nd).mp (a2.trans b2.symm))
  · rcases List.mem_or_eq_of_mem_set hp with e | e
    · exact O.pl p e
    · rw [e];exact ho
theorem uX {o:HO} (h:kJ o=true):∀ ps,o≠.tbl ps:=fun ps z=>by rw [z] at h;cases h
theorem Ow.lQ (O:Ow T H0 H L) (s:bI T H H'):Ow T H0 H' L:=⟨O.same.trans s,O.new,fun p hp=>s.keep _ _ (O.at_ p hp) (uX (O.pl p hp)),O.pl,O.nd⟩
theorem Ow.Oi (O:Ow T H0 H L) (s:bI T H H') (n:H l=none) (h:H' l=some o) (ho:kJ o=true):Ow T H0 H' ((l,o) :: L):=by
  have O2:=O.lQ s
  refine ⟨O2.same,fun p hp=>?_,fun p hp=>?_,fun p hp=>?_,?_⟩
  · rcases List.mem_cons.mp hp with e | e
    · rw [e];exact O.same.free n
    · exact O.new p e
  · rcases List.mem_cons.mp hp with e | e
    · rw [e];exact h
    · exact O2.at_ p e
  · rcases List.mem_cons.mp hp with e | e
    · rw [e];exact ho
    · exact O.pl p e
  · rw [List.map_cons,List.nodup_cons]
    refine ⟨fun hm=>?_,O.nd⟩
    obtain ⟨p,hp,e⟩:=List.mem_map.mp hm
    exact cB (O.at_ p hp) n e
theorem Ow.more (O:Ow T H0 H L) (s:Same H H') (n:H l=none) (h:H' l=some o) (ho:kJ o=true):Ow T H0 H' ((l,o) :: L):=O.Oi (bI.of O.same.t1 s) n h ho
theorem Ow.sub (O:Ow T H0 H L) (h:L'.Sublist L):Ow T H0 H L':=⟨O.same,fun p hp=>O.new p (h.subset hp),fun p hp=>O.at_ p (h.subset hp),fun p hp=>O.pl p (h.subset hp),O.nd.sublist (h.map _)⟩
theorem Ow.perm (O:Ow T H0 H L) (h:L'.Perm L):Ow T H0 H L':=⟨O.same,fun p hp=>O.new p (h.mem_iff.mp hp),fun p hp=>O.at_ p (h.mem_iff.mp hp),fun p hp=>O.pl p (h.mem_iff.mp hp),(h.map _).nodup_iff.mpr O.nd⟩
theorem Ow.tail {p:Addr × HO} (O:Ow T H0 H (p :: L)):Ow T H0 H L:=O.sub (List.sublist_cons_self _ _)
theorem Ow.two {p q:Addr × HO} (O:Ow T H0 H (p :: q :: L)):Ow T H0 H (p :: L):=O.sub ((List.sublist_cons_self _ _).cons₂ _)
theorem Ow.base (O:Ow T H0 H L) (s:bI T H1 H0):Ow T H1 H L:=⟨s.trans O.same,fun p hp=>s.free (O.new p hp),O.at_,O.pl,O.nd⟩
theorem Ow.reb (O:Ow T H0 H L):∃ H1,Ow T H1 H L∧bI T H0 H1∧∀ b o,H b=some o→(∀ p∈L,p.1≠b)→H1 b=some o:=by
  have keep:∀ b u,H b=some u→(∀ p∈L,p.1≠b)→(fun b=>if b∈L.map (·.1) then none else H b:Hp) b=some u:=fun b u e h=>by
    show (if b∈L.map (·.1) then none else H b)=some u
    rw [if_neg fun hm=>?_];· exact e
    obtain ⟨p,hp,z⟩:=List.mem_map.mp hm
    exact h p hp z
  have back:∀ b u,(fun b=>if b∈L.map (·.1) then none else H b:Hp) b=some u→H b=some u:=fun b u e=>by
    dsimp only at e
    split at e
    · cases e
    · exact e
  have npl:∀ b u,H b=some u→kJ u=false→∀ p∈L,p.1≠b:=fun b u e h p hp z=>by
    have:=O.at_ p hp
    rw [z,e] at this
    have e':u=p.2:=Option.some.inj this
    rw [e',O.pl p hp] at h;cases h
  have tk:TabsOk T (fun b=>if b∈L.map (·.1) then none else H b):=fun t ht=>by
    rcases O.same.t1 t ht with e | ⟨c,e1,e2⟩
    · exact .inl (keep _ _ e (npl _ _ e rfl))
    · exact .inr ⟨c,keep _ _ e1 (npl _ _ e1 rfl),keep _ _ e2 (npl _ _ e2 rfl)⟩
  refine ⟨fun b=>if b∈L.map (·.1) then none else H b,⟨⟨tk,O.same.t1,fun b u e _=>back b u e,fun b ps e=>⟨ps,back _ _ e⟩⟩,fun p hp=>?_,O.at_,O.pl,O.nd⟩,⟨O.same.t0,tk,fun b u e n=>?_,fun b ps e=>?_⟩,keep⟩
  · exact if_pos (List.mem_map.mpr ⟨p,hp,rfl⟩)
  · refine keep b u (O.same.keep b u e n) fun p hp z=>?_
    rw [← z,O.new p hp] at e;cases e
  · obtain ⟨ps',e'⟩:=O.same.tb b ps e
    exact ⟨ps',keep _ _ e' (npl _ _ e' rfl)⟩
theorem nq {i:Int} {j:Nat} {v:V} {Q:Hp→Prop} (O:Ow T H0 H L) (k:Nat) (h:L[k]?=some (l,.lst xs)) (hi:ixN xs.length i=some j) (q:∀ H',Ow T H0 H' (L.set k (l,.lst (xs.set j v)))→Q H'):Qm (.ref l) (.int i) v H Q :=
  ⟨l,xs,i,j,rfl,rfl,O.get k h,hi,q _ (O.YB k h rfl)⟩
theorem Ow.ret {P:List V→Prop} {Q:VK} (O:Ow T H0 H L) (k:Nat) (h:L[k]?=some (l,.lst xs)) (q:m9 T H0 P Q) (p:P xs):Q (.ref l) H:=q l H xs O.same (O.fr k h) (O.get k h) p
theorem Ow.got {P:List V→Prop} {Q:VK} (O:Ow T H0 H L) (k:∀ l H' xs,Ow T H0 H' ((l,.lst xs) :: L)→P xs→Q (.ref l) H'):VL H P Q:=fun l H' xs s n h p=>k l H' xs (O.more s n h rfl) p
theorem Ow.oZ {P:List V→Prop} {Q:VK} (O:Ow T H0 H L) (k:∀ l H' xs,Ow T H0 H' ((l,.lst xs) :: L)→P xs→Q (.ref l) H'):m9 T H P Q:=fun l H' xs s n h p=>k l H' xs (O.Oi s n h rfl) p
end
end L2
namespace L2
open PySem PySem.W PySem.Spec PyProof.Rows
theorem szl {n:Nat} (h:Nat.ble n 100000=true:=by rfl):n≤sizeLine:=jF (Nat.le_of_ble_eq_true h)
theorem wW (p:Int) (ns:List Int):inV (.int p) (ns.map V.int)=decide (p∈ns):=by
  unfold inV
  rw [List.any_map,Bool.eq_iff_iff]
  simp only [List.any_eq_true,decide_eq_true_eq]
  constructor
  · rintro ⟨x,hx,e⟩
    have e':(x == p)=true:=e
    have:x=p:=by simpa using e'
    rw [← this];exact hx
  · intro h
    exact ⟨p,h,show (p == p)=true by simp⟩
theorem qI (ns:List Int):(ns.map V.int).all tX=true:=by
  rw [List.all_map,List.all_eq_true];intro _ _;rfl
theorem Fun.okC {P:Program} {w:World} {K:PySem.W.Frag} {mg:Str→Option Value} {base:Heap} {x qual:Str} {st:Stmt} {f:Addr} {fd:FuncData} {N ps:List Str} {k:Nat} {sp:Sp} {c:Value} (F:Fun K x qual st f fd) (hc:fd.code=c) (S:aX N ps (ao st)) (len:∀ vs H Q E,sp vs H Q E→vs.length=ps.length)
    (hbody:∀ (A:Around) (outer:List Env) (s:Shared) (H:Hp) (vs:List V) (Q:VK) (E:XK),qZ k (A.deeper (envOfC qual (ao st) s.heap.objs.size f c))→sp vs H Q E →
      ∃ t,PSs (Ox CX0 P w K mg base N qual (ao st) f c A outer s H E).nox (aC st) t∧t { nx:=fun _ H'=>Q .non H',rt:=Q } (start N vs) H):cA P w K mg base CX0 (k + 1) f fd ps sp:=by
  obtain ⟨oc,od,kV,doc,pm,an,cdv,ct,osl,rfl,lk,hcd⟩:=F.ex
  have e:cdv=c:=hc
  subst e
  refine Vm lk hcd S len fun A outer s H vs Q E hr hsp=>?_
  obtain ⟨t,h,q⟩:=hbody A outer s H vs Q E hr hsp
  exact ⟨t,h.nox,q⟩
theorem yM {k:Nat} {A XA:Around} {env:Env} (r:qZ (k + 2) XA) (hh:A.handled=none) (hd:A.depth≤XA.depth + 2) (hu:A.units≤XA.units + 2):qZ k (A.deeper env) :=
  ⟨hh,by have:=r.dp;show A.depth + 1 + 3 * k + 5<_;omega,by have:=r.un;show A.units + 3 + 16 * k + 200<_;omega⟩
theorem yN {A:Around} (r:qZ 1 A):A.depth + 4<recursionLimit:=by have:=r.dp;omega
theorem bI.tab {T:fZ} {H H2:Hp} {P:Addr} {pos:Pos} {q:Str} (t:TabsOk T H) (hm:(P,pos,q)∈T) (nd:(T.map (·.1)).Nodup) (k1:∀ b o,H b=some o→b≠P→H2 b=some o) (t2:TabOk P pos q H2):bI T H H2:=by
  have hP:∃ ps,H P=some (.tbl ps):=by
    rcases t _ hm with e | ⟨c,e,_⟩
    · exact ⟨_,e⟩
    · exact ⟨_,e⟩
  obtain ⟨ps0,hP⟩:=hP
  have hP2:∃ ps,H2 P=some (.tbl ps):=by
    rcases t2 with e | ⟨c,e,_⟩
    · exact ⟨_,e⟩
    · exact ⟨_,e⟩
  refine ⟨t,fun u hu=>?_,fun b o e n=>k1 b o e fun z=>?_,fun b ps e=>?_⟩
  · by_cases hb:u.1=P
    · have:u=(P,pos,q):=by
        obtain ⟨i,hi,ei⟩:=List.getElem_of_mem hu
        obtain ⟨j,hj,ej⟩:=List.getElem_of_mem hm
        have e1:(T.map (·.1))[i]?=some P:=by rw [List.getElem?_map,List.getElem?_eq_getElem hi,ei,← hb];rfl
        have e2:(T.map (·.1))[j]?=some P:=by rw [List.getElem?_map,List.getElem?_eq_getElem hj,ej];rfl
        obtain ⟨a1,a2⟩:=List.getElem?_eq_some_iff.mp e1
        obtain ⟨b1,b2⟩:=List.getElem?_eq_some_iff.mp e2
        have hij:i=j:=(List.getElem_inj nd).mp (a2.trans b2.symm)
        subst hij
        rw [← ei,← ej]
      rw [this];exact t2
    · rcases t u hu with e | ⟨c,e1,e2⟩
      · exact .inl (k1 _ _ e hb)
      · exact .inr ⟨c,k1 _ _ e1 hb,k1 _ _ e2 fun z=>by rw [z,hP] at e2;cases e2⟩
  · subst z
    rw [hP] at e;cases e
    exact n ps0 rfl
  · by_cases hb:b=P
    · rw [hb];exact hP2
    · exact ⟨ps,k1 _ _ e hb⟩
section
variable {X:Cx}
theorem gJ (hc:X.calm=true):pJ X (.builtin "sum") (fun xs H Q=>∃ (p:Addr) (ns:List Int),xs=[.ref p]∧SqL X.K H p (ns.map V.int)∧Q (.int ns.sum) H):=by
  intro pins s σ H xs us Q I r h
  obtain ⟨p,ns,rfl,hq,q⟩:=h
  obtain ⟨u,rfl,ru⟩:=vals1 r
  cases ru
  obtain ⟨its,r1,p1,hz⟩:=I.list hq
  have hi:IntsAre its ns:=intsAre_of r1
  obtain ⟨ys,hx⟩:=hi.allInts.items
  have hl':s.heap.IsList p (intItems ys):=hx ▸ p1.isList
  refine sum_intListG (I.ok.hd hc) hl' fun h' tk t' hk=>?_
  have e1:ns=ys.toList.map (·.1):=by
    rw [← nums_intItems,← hx]
    exact (show numsOf its.toArray.toList=ns from hi.numsOf).symm
  have e2:preSum (numAt ys) ys.size=ns.sum:=by
    rw [preSum_eq,List.take_of_length_le (by simp),e1]
  rw [e2]
  exact ⟨.int ns.sum,H,I.kept hk,⟨t',rfl⟩,q⟩
theorem qJ:∀ ns ms:List Int,PyData.eqvAll (ns.map PyData.int) (ms.map PyData.int)=decide (ns=ms)
  | [],[]=>by simp [PyData.eqvAll]
  | [],_ :: _=>by simp [PyData.eqvAll]
  | _ :: _,[]=>by simp [PyData.eqvAll]
  | n :: ns,m :: ms=>by
    rw [List.map_cons,List.map_cons,PyData.eqvAll,qJ ns ms]
    have e:PyData.eqv (.int n) (.int m)=decide (n=m):=by
      rw [PyData.eqv];rfl
    rw [e,Bool.eq_iff_iff]
    simp
theorem Ga (ns ms:List Int):PyData.eqv (oF ns) (oF ms)=decide (ns=ms):=by
  unfold oF
  rw [PyData.eqv];exact qJ ns ms
theorem yF (hu:X.A.units + 64<cLine):OpR X (compareOp .Eq) (rEqL X.K false):=by
  intro pins s σ H x y v u Q I rx ry h
  obtain ⟨a,b,ns,ms,rfl,rfl,ha,hb,q⟩:=h
  refine G7 hu pins s σ H _ _ v u Q I rx ry ⟨_,_,Den.ints ha,Den.ints hb,(Sh.ints 0 ns).ok (by decide),(Sh.ints 0 ms).ok (by decide),?_⟩
  rw [Ga];exact q
def Qn (K:PySem.W.Frag):V→List V→Hp→VK→Prop:=fun x vs H Q=>∃ (l:Addr) (ns:List Int) (k:Int),x=.ref l∧vs=[.int k]∧SqL K H l (ns.map V.int)∧k∈ns∧Q (.int (ns.idxOf k:Nat)) H
theorem Fb:MtR X "list.index" (Qn X.K):=by
  intro pins s σ H x vs v us Q I rx rv h
  obtain ⟨l,ns,k,rfl,rfl,hq,hk,q⟩:=h
  cases rx
  obtain ⟨u,rfl,t,rfl⟩:=vals1 rv
  obtain ⟨its,r1,p1,hz⟩:=I.list hq
  have hi:IntsAre its ns:=intsAre_of r1
  obtain ⟨⟨cls,dd,data,sl⟩,ho,hc,n,hd⟩:=id p1.isList
  simp only at hc hd
  subst hc hd
  have hlen:=hi.length
  have hj:ns.idxOf k<ns.length:=List.idxOf_lt_length_iff.mpr hk
  have hn:=qy
  rw [List.length_map] at hz
  refine call_meets PySem.F.slot_list_index ⟨_,ho,rfl⟩ PySem.F.entry_list_index (PySem.F.args_list_index_2 _ _)
    (SeqAt.list_indexAt l its.toArray n dd sl (.int k t) (isInt k) (ns.idxOf k) (by simpa [hlen] using hj) (by omega) ?_ ?_) ⟨ho,fun y hy=>(eq_isInt k t hi y (by simpa using hy)).at _ _,?_⟩
  · show isInt k its[ns.idxOf k]=true
    rw [isInt_at k hi _ (by omega) hj]
    simpa using List.getElem_idxOf hj
  · intro j hjs hlt
    show isInt k its[j]=false
    rw [isInt_at k hi j (by simpa using hjs) (by omega)]
    exact ne_of_lt_idxOf hlt _
  · exact ⟨.int (ns.idxOf k:Nat),H,I.tok _,⟨_,rfl⟩,q⟩
end
def Pb (T:fZ) (H:Hp) (P:List V→Prop) (Q:VK):Prop:=∀ (l:Addr) (H':Hp) (xs:List V),bI T H H'→H l=none→H' l=some (.tup xs)→P xs→Q (.ref l) H'
section
variable {T:fZ} {H0 H:Hp} {L:List (Addr × HO)} {l:Addr} {xs:List V}
theorem Ow.retT {P:List V→Prop} {Q:VK} (O:Ow T H0 H L) (k:Nat) (h:L[k]?=some (l,.tup xs)) (q:Pb T H0 P Q) (p:P xs):Q (.ref l) H:=q l H xs O.same (O.fr k h) (O.get k h) p
theorem Ow.Vk {P:List V→Prop} {Q:VK} (O:Ow T H0 H L) (k:∀ l H' xs,Ow T H0 H' ((l,.tup xs) :: L)→P xs→Q (.ref l) H'):Pb T H P Q:=fun l H' xs s n h p=>k l H' xs (O.Oi s n h rfl) p
theorem Ow.mkE {a:Addr} {o:HO} {H':Hp} (O:Ow T H0 H L) (h:H a=none) (e:upd H a o=H') (ho:kJ o=true):Ow T H0 H' ((a,o) :: L):=e ▸ O.mk' h ho
theorem Ow.uW {a:Addr} {o o':HO} {H':Hp} (O:Ow T H0 H L) (k:Nat) (h:L[k]?=some (a,o)) (e:upd H a o'=H') (ho:kJ o'=true):Ow T H0 H' (L.set k (a,o')):=e ▸ O.YB k h ho
end
def dMv (m:Int × Int × Int):PyData:=.tuple [.int m.1,.int m.2.1,.int m.2.2]
def VH (ms:List (Int × Int × Int)):PyData:=.list (ms.map dMv)
theorem Den.G9 {K:PySem.W.Frag} {H:Hp} {v:V} {m:Int × Int × Int} (h:Den K H v (dMv m)):∃ a,v=.ref a∧SqT K H a [.int m.1,.int m.2.1,.int m.2.2]:=by
  cases h with
  | tuple h hs =>
    have e:=cg.int_inv (ns:=[m.1,m.2.1,m.2.2]) hs
    exact ⟨_,rfl,by rw [e] at h;exact h⟩
theorem Den.mv {K:PySem.W.Frag} {H:Hp} {a:Addr} {m:Int × Int × Int} (h:SqT K H a [.int m.1,.int m.2.1,.int m.2.2]):Den K H (.ref a) (dMv m):=.tuple h (.cons (.int _) (.cons (.int _) (.cons (.int _) .nil)))
theorem Den.Oe {K:PySem.W.Frag} {H:Hp} {v:V} {ms:List (Int × Int × Int)} (h:Den K H v (VH ms)):∃ a xs,v=.ref a∧SqL K H a xs∧cg K H xs (ms.map dMv):=by
  cases h with
  | list h hs=>exact ⟨_,_,rfl,h,hs⟩
theorem Sh.mv (n:Nat) (m:Int × Int × Int):Sh (n + 1) (dMv m):=.tuple fun d hd=>by
  simp at hd
  rcases hd with e | e | e <;> (rw [e];exact .int _ _)
theorem Sh.mvs (n:Nat) (ms:List (Int × Int × Int)):Sh (n + 2) (VH ms):=.list fun d hd=>by
  obtain ⟨m,_,rfl⟩:=List.mem_map.mp hd
  exact .mv n m
end L2
namespace L2
open PySem PySem.W PySem.Spec PySem.Calls PyProof.Rows PySem.Builtin PySem.Builtin.ObjectAttr PySem.Builtin.Getset_descriptor
section
variable {prog:Program} {w:World} {A:Around} {E:Value→Shared→Prop} {K:Frag} {e D:Addr} {hh:Heap} {g:Array GenState} {d:Drawn} {t:Nat} {os:OsState}
end
end L2
namespace L2
open PySem PySem.W PySem.Spec PySem.Calls PyProof.Rows
section
variable {P:Program} {w:World} {B h0 h h2:Heap} {fs:List Addr} {H H':Hp}
end
section
variable {X:Cx} {pins:List (Addr × Obj)} {σ:St} {H:Hp} {s:Shared} {E:XK}
end
section
variable {P:Program} {w:World} {K:PySem.W.Frag} {mg:Str→Option Value} {base:Heap} {N:List Str} {qual:Str} {scope:Scope} {f:Addr} {cd:Value} {A:Around} {outer:List Env} {s:Shared} {H:Hp} {E:XK}
end
end L2
namespace L2
open PySem PySem.W PySem.Spec PySem.Calls PyProof.Rows
abbrev bmVE:List Value:=[.type "ValueError",.type "Exception",.type "BaseException",.type "object"]
section
variable {X:Cx} {E:XK} {x:Str} {C:Addr} {np cpos pos:Pos} {e0:Expr} {ta:TA}
end
end L2
namespace L2
open PySem PySem.W PySem.Spec PySem.Calls PyProof.Rows
abbrev TX:=Ends→(St→XK)→St→Hp→Prop
section
variable {X:Cx} {k:Nat} {f:Addr} {fd:FuncData} {ps:List Str} {sp:Sp} {dvs:List V} {ds:List Value} {x:Str} {p pos:Pos} {e:Expr} {es:List Expr} {t:TA}
end
section
variable {X:Cx} {pins:List (Addr × Obj)} {σ:St} {H:Hp} {s:Shared}
end
end L2
namespace L2
open PySem PySem.W PySem.Spec PySem.Calls PyProof.Rows
section
variable {X:Cx} {body suite:List Stmt} {b0:Stmt} {x n:Str} {Ba:Addr} {i:Nat} {tb:TX} {th:TS} {np hpos pos:Pos}
end
end L2
namespace L2
open PySem PySem.Spec PyProof.Rows
section
variable {X:Cx}
theorem zf {n:Nat} {acc:Array Value} (hacc:ItemsOf (fun i v=>∃ t,v=.int (0 + (i:Nat) * 1) t) acc n):Vals (iZ n) acc.toList:=by
  have hsz:acc.toList.length=n:=by rw [Array.length_toList];exact hacc.1
  have key:∀ (k:Nat) (l:List Value),l.length=k→(∀ (j:Nat) (v:Value),l[j]?=some v→∃ t,v=.int ((n - k + j:Nat):Int) t)→k≤n→Vals ((List.range' (n - k) k).map fun (i:Nat)=>V.int (i:Int)) l:=by
    intro k
    induction k with
    | zero =>
      intro l hl _ _
      have:l=[]:=List.length_eq_zero_iff.mp hl
      subst this
      exact .nil
    | succ k ih =>
      intro l hl hP hk
      match l,hl with
      | v :: l,hl =>
        have hl':l.length=k:=by simpa using hl
        rw [List.range'_succ,List.map_cons]
        obtain ⟨t,ht⟩:=hP 0 v rfl
        refine .cons ⟨t,?_⟩ ?_
        · rw [ht];rfl
        · have e:n - (k + 1) + 1=n - k:=by omega
          rw [e]
          refine ih l hl' (fun j v' e'=>?_) (by omega)
          obtain ⟨t',ht'⟩:=hP (j + 1) v' (by simpa using e')
          exact ⟨t',by rw [ht'];congr 2;omega⟩
  have:=key n acc.toList hsz (fun j v e=>by
    obtain ⟨t,ht⟩:=hacc.2 j v (by simpa using e)
    refine ⟨t,?_⟩
    rw [ht]
    congr 1
    omega) (Nat.le_refl _)
  rw [Nat.sub_self,← List.range_eq_range'] at this
  exact this
def zu (ta:TA):TE:=fun σ H Q=>ta σ H fun vs H1=>∃ n:Nat,vs=[.int (n:Int)]∧n<64∧∀ l,H1 l=none→Q (.ref l) (upd H1 l (.lst (iZ n)))
theorem uZ {e:Expr} {ta:TA} {p1 p2 p3 pos:Pos} (hcalm:X.calm=true) (hgs:Gl X "list") (hms:X.mg "list"=none) (hgr:Gl X "range") (hmr:X.mg "range"=none) (ha:PA X [e] ta) (hs:starEach [e] X.env=[(false,eval e X.env)]:=by rfl) :
    PE X (.Call (.Name "list" p1) [.Call (.Name "range" p2) [e] [] p3] [] pos) (zu ta):=by
  intro pins s σ H Q I h
  refine Call_ (lW I hgs hms boot_list (PyProof.Rows.callWith_type1 ?_ rfl rfl))
  show wpAny _ _ (spliced ((false,eval (.Call (.Name "range" p2) [e] [] p3) X.env) :: [])) _ _ s
  refine Calls.spliced_cons (Call_ (lW I hgr hmr boot_range (PyProof.Rows.callWith_type1 (thn (ha p3 pins s σ H _ I h) fun us s1 ⟨vs,H1,I1,r1,q1⟩=>?_) hs rfl)))
  obtain ⟨n,e1,hn,q⟩:=q1
  subst e1
  obtain ⟨u,rfl,t,rfl⟩:=vals1 r1
  refine call_range_1 ?_
  refine Calls.spliced_nil ?_
  have hrs:Builtin.Range.rangeSize 0 (n:Int) 1=(n:Nat):=by rw [rangeSize_one];split <;> omega
  generalize hro:({ cls:=.type "range",data:=.fields #[.int 0 s1.toks,.int (n:Int) t,.int 1 (s1.toks + 1)] }:Obj)=ro
  have I2:Inv X pins σ H1 { s1 with heap:=s1.heap.push ro,toks:=s1.toks + 1 + 1 }:=I1.kept fun b o e=>Heap.get?_push_of_some _ e
  have hR:IsRange (s1.heap.push ro) s1.heap.objs.size 0 (n:Int) 1 s1.toks t (s1.toks + 1):=by
    rw [← hro];exact Heap.get?_push_size _ rfl
  refine call_list_range (I.ok.hd hcalm) hR (small_one (by omega) (by omega) (by omega) (by omega)) hrs (by omega) fun h' tk acc c hk hS hacc=>?_
  exact ⟨.ref (s1.heap.push ro).objs.size,_,I2.laid (t':=tk) hk (Nat.le_refl _) (show gH X.prog X.w _ h' _ (.lst (iZ n)) from ⟨by unfold iZ;rw [List.length_map,List.length_range,sizeLine_eq];omega,acc.toList,c,zf hacc,by simpa using hS⟩),rfl,q _ (I2.hok.fresh (Nat.le_refl _))⟩
theorem Inv.rZ {pins:List (Addr × Obj)} {σ:St} {H:Hp} {s:Shared} {h':Heap} {t':Nat} {ch:List Addr} (I:Inv X pins σ H s) (k:∀ b o,b ∉ ch→s.heap.get? b=some o→h'.get? b=some o) (f:∀ b∈ch,wg X pins H b):Inv X pins σ H { s with heap:=h',toks:=t' }:=by
  have nit:∀ b u,H b=some u→b ∉ ch:=fun b u e z=>by rw [(f b z).1] at e;cases e
  refine I.step (g':=s.gens) (d':=s.drawn) (ch:=ch) (fun b hb=>?_) (fun b o _ _ hc e _=>k b o hc e) (fun b o _ _ hc e _=>⟨o.slots,k b o hc e⟩) (fun _ _ _ _ n=>n)
    (fun b o hc e=>⟨o,k b o hc e⟩) (fun _ _ e=>e) (fun _ _ _ e=>e) (fun b ps e=>⟨#[],by rw [e];simp⟩) (fun m hm=>?_) (fun b u e=>?_) I.bare
  · obtain ⟨f0,f1,f2,f3,f4,f5⟩:=f b hb
    exact ⟨f3,f1,f4,f5⟩
  · obtain ⟨o,es,ep,ho,r⟩:=hm
    exact ⟨o,es,ep,k _ o (fun z=>(f _ z).2.1 rfl) ho,r⟩
  · refine (I.hok b u e).stay (fun c v hc q=>k c v ?_ q) (fun _ q=>q) fun _ _ q=>q
    rcases hc with z | z
    · rw [z];exact nit b u e
    · exact nit c _ z
def Itz (K:PySem.W.Frag) (l1 l2:Addr) (xs ys:List V):It :=
  ⟨fun i H=>SqL K H l1 xs∧SqL K H l2 ys∧i<xs.length∧i<ys.length,fun i H x H'=>∃ T a b,x=.ref T∧H T=none∧xs[i]?=some a∧ys[i]?=some b∧H'=upd H T (.tup [a,b]),
   fun i H=>SqL K H l1 xs∧SqL K H l2 ys∧(xs.length≤i∨ys.length≤i)⟩
def Yn (z TI TO i1 i2 l1 l2:Addr) (i:Nat) (h:Heap):Prop:=IsZip h z TI TO .none∧IsPair h TI (.ref i1) (.ref i2)∧(∃ a b,IsPair h TO a b)∧h.IsListIter i1 l1 i∧h.IsListIter i2 l2 i
theorem Ec {P:Program} {w:World} {K:PySem.W.Frag} {elts:List Expr} {kk:Nat} {tpos:Pos} {z TI TO i1 i2 l1 l2:Addr} {xs ys:List V} (D:ZipApart z TI TO i1 i2 l1 l2) :
    Turn P w K (.Tuple elts kk tpos) (Itz K l1 l2 xs ys) [z,TI,TO,i1,i2] z (Yn z TI TO i1 i2 l1 l2) where
  mem:=by simp
  obj:=fun i h st b hb=>by
    obtain ⟨hz,hTI,⟨a,b',hTO⟩,⟨o1,e1,c1,d1⟩,⟨o2,e2,c2,d2⟩⟩:=st
    simp at hb
    rcases hb with rfl | rfl | rfl | rfl | rfl
    · exact ⟨_,hz,fun v z=>by cases (show Data.fields _=Data.cell v from z)⟩
    · exact ⟨_,hTI,fun v z=>by cases (show Data.seq _ _=Data.cell v from z)⟩
    · exact ⟨_,hTO,fun v z=>by cases (show Data.seq _ _=Data.cell v from z)⟩
    · exact ⟨o1,e1,fun v z=>by rw [d1] at z;cases z⟩
    · exact ⟨o2,e2,fun v z=>by rw [d2] at z;cases z⟩
  keep:=fun i h h' st k=>by
    obtain ⟨hz,hTI,⟨a,b,hTO⟩,h1,h2⟩:=st
    exact ⟨k z (by simp) _ hz,k TI (by simp) _ hTI,⟨a,b,k TO (by simp) _ hTO⟩,h1.at fun o e=>k i1 (by simp) o e,h2.at fun o e=>k i2 (by simp) o e⟩
  item:=by
    intro X hP hw hK hc i pins s σ H E I hf st hg
    subst hP hw hK
    obtain ⟨hz,hTI,⟨p,p',hTO⟩,h1,h2⟩:=st
    obtain ⟨hq1,hq2,hi1,hi2⟩:=hg
    obtain ⟨its1,rv1,pl1,hz1⟩:=I.list hq1
    obtain ⟨its2,rv2,pl2,hz2⟩:=I.list hq2
    obtain ⟨u1,hu1,ru1⟩:=rv1.get (List.getElem?_eq_getElem hi1)
    obtain ⟨u2,hu2,ru2⟩:=rv2.get (List.getElem?_eq_getElem hi2)
    refine wpAny_pyNext_zip_item D hz hTI hTO h1 h2 pl1.isList pl2.isList (x:=u1) (y:=u2) (by simpa using hu1) (by simpa using hu2) fun h' a1 a2 a3 a4 a5 a6 hk=>?_
    have lt:∀ {c o},s.heap.get? c=some o→s.heap.objs.size≠c:=fun e=>Nat.ne_of_gt (Heap.lt_size e)
    refine ⟨.ref s.heap.objs.size,rfl,wpAny_letOwnedTupleGo_zip (s:={ s with heap:=h' }) a1 fun h'' hz' hs'=>?_⟩
    have Tz:s.heap.objs.size≠z:=lt hz
    have sub:∀ b∈([z,TO,i1,i2]:List Addr),b∈([z,TI,TO,i1,i2]:List Addr):=fun b hb=>by
      simp at hb ⊢
      rcases hb with rfl | rfl | rfl | rfl <;> simp
    have I1:Inv X pins σ H { s with heap:=h'' }:=I.rZ (t':=s.toks) (ch:=[z,TO,i1,i2])
      (fun b o hb e=>hs'.extBut b o (fun x=>hb (by simp [x])) (hk b o (fun x=>hb (by simp [x])) (fun x=>hb (by simp [x])) (fun x=>hb (by simp [x])) (fun x=>hb (by simp [x])) e)) fun b hb=>hf b (sub b hb)
    have F:=I.zR (H':=H) (Nat.le_refl _) (I.hok.fresh (Nat.le_refl _))
    obtain ⟨F0,F1,F2,F3,F4,F5⟩:=F
    have hT:IsTup h'' s.heap.objs.size #[u1,u2]:=⟨_,hs'.extBut _ _ Tz a5,rfl,_,rfl⟩
    have I2:Inv X pins σ (upd H s.heap.objs.size (.tup [xs[i],ys[i]])) { s with heap:=h'' }:=I1.adopt F0 F1 I.sz F4 F5 (show gH X.prog X.w _ h'' _ (.tup [xs[i],ys[i]]) from ⟨by rw [sizeLine_eq];simp,[u1,u2],.cons ru1 (.cons ru2 .nil),hT⟩)
    refine ⟨.ref s.heap.objs.size,_,I2,rfl,⟨_,_,_,rfl,F0,List.getElem?_eq_getElem hi1,List.getElem?_eq_getElem hi2,rfl⟩,?_,fun b hb=>?_⟩
    · exact ⟨hz',hs'.extBut _ _ D.TIz (hk _ _ D.TIz D.TITO D.TIi1 D.TIi2 hTI),⟨_,_,hs'.extBut _ _ D.TOz a2⟩,a3.extBut hs'.extBut D.i1z,a4.extBut hs'.extBut D.i2z⟩
    · rw [bF]
      · exact (hf b hb).1
      · simp at hb
        obtain ⟨o1,e1,_⟩:=h1
        obtain ⟨o2,e2,_⟩:=h2
        rcases hb with rfl | rfl | rfl | rfl | rfl
        · exact (lt hz).symm
        · exact (lt hTI).symm
        · exact (lt hTO).symm
        · exact (lt e1).symm
        · exact (lt e2).symm
  done:=by
    intro X hP hw hK hc i pins s σ H E I hf st hg
    subst hP hw hK
    obtain ⟨hz,hTI,⟨p,p',hTO⟩,h1,h2⟩:=st
    obtain ⟨hq1,hq2,hend⟩:=hg
    obtain ⟨its1,rv1,pl1,hz1⟩:=I.list hq1
    obtain ⟨its2,rv2,pl2,hz2⟩:=I.list hq2
    have e1:=rv1.length
    have e2:=rv2.length
    have sub:∀ b∈([z,TO,i1,i2]:List Addr),b∈([z,TI,TO,i1,i2]:List Addr):=fun b hb=>by
      simp at hb ⊢
      rcases hb with rfl | rfl | rfl | rfl <;> simp
    refine wpAny_pyNext_zip_end (I.ok.hd hc) D hz hTI hTO h1 h2 pl1.isList pl2.isList ?_ fun h' hk=>⟨rfl,I.rZ (t':=s.toks) (ch:=[z,TO,i1,i2])
      (fun b o hb e=>hk b o (fun x=>hb (by simp [x])) (fun x=>hb (by simp [x])) (fun x=>hb (by simp [x])) (fun x=>hb (by simp [x])) e) fun b hb=>hf b (sub b hb)⟩
    rcases hend with h | h
    · exact .inl (by simp;omega)
    · exact .inr (by simp;omega)
  self:=fun _ _ _ _ _ st h=>wpAny_pyIter_zip st.1 h
def iZip (K:PySem.W.Frag) (ta:TA):TI:=fun σ H R=>ta σ H fun vs H1=>∃ l1 l2 xs ys,vs=[.ref l1,.ref l2]∧SqL K H1 l1 xs∧SqL K H1 l2 ys∧R (Itz K l1 l2 xs ys) H1
theorem rG {elts:List Expr} {kk:Nat} {tpos:Pos} {a b:Expr} {ta:TA} {p pos:Pos} (hg:Gl X "zip") (hm:X.mg "zip"=none) (ha:PA X [a,b] ta) (hs:starEach [a,b] X.env=[(false,eval a X.env),(false,eval b X.env)]:=by rfl) (hs2:starEach [b] X.env=[(false,eval b X.env)]:=by rfl) :
    PI X (.Tuple elts kk tpos) (.Call (.Name "zip" p) [a,b] [] pos) (iZip X.K ta):=by
  intro pins s σ H R I h
  refine Call_ (lW I hg hm boot_zip (PyProof.Rows.callWith_type1 (thn (ha pos pins s σ H _ I h) fun us s1 ⟨vs,H1,I1,r1,q1⟩=>?_) (by rw [hs,hs2]) (by rw [hs2];rfl)))
  obtain ⟨l1,l2,xs,ys,e,hq1,hq2,q⟩:=q1
  subst e
  cases r1 with
  | cons r rr =>
    cases rr with
    | cons r' rr =>
      cases rr
      cases r
      cases r'
      obtain ⟨its1,rv1,pl1,hz1⟩:=I1.list hq1
      obtain ⟨its2,rv2,pl2,hz2⟩:=I1.list hq2
      refine call_zip_2 pl1.isList pl2.isList fun h' a1 a2 a3 a4 a5 a6 hk=>?_
      refine wpAny_pyIter_zip a1 ?_
      have b1:l1<s1.heap.objs.size:=by obtain ⟨o,e,_⟩:=pl1.isList;exact Heap.lt_size e
      have b2:l2<s1.heap.objs.size:=by obtain ⟨o,e,_⟩:=pl2.isList;exact Heap.lt_size e
      refine ⟨_,_,_,_,H1,rfl,I1.kept (t':=s1.toks) hk,Ec (l1:=l1) (l2:=l2) (xs:=xs) (ys:=ys) (TI:=s1.heap.objs.size + 2) (TO:=s1.heap.objs.size + 3) (i1:=s1.heap.objs.size) (i2:=s1.heap.objs.size + 1) ?_,⟨a1,a2,⟨_,_,a3⟩,a4,a5⟩,fun b hb=>?_,q⟩
      · constructor <;> exact fun z=>by simp only [Addr] at z b1 b2;omega
      · have hb':s1.heap.objs.size≤b:=by
          simp at hb
          rcases hb with rfl | rfl | rfl | rfl | rfl <;> simp
        exact I1.zR hb' (I1.hok.fresh hb')
theorem tV {K:PySem.W.Frag} {l1 l2:Addr} {xs ys:List V} {g:TG} {tb:TS} {D:Ends} {σ:St} {H:Hp} (Pv:Nat→St→Hp→Prop) (hxy:xs.length=ys.length) (h0:Pv 0 σ H) (hl:∀ i σ H,i≤xs.length→Pv i σ H→SqL K H l1 xs∧SqL K H l2 ys)
    (hs:∀ i a b T σ H,xs[i]?=some a→ys[i]?=some b→Pv i σ H→H T=none→g (.ref T) σ (upd H T (.tup [a,b])) fun σ2 H2=>tb { D with nx:=Pv (i + 1),ct:=Pv (i + 1),bk:=D.nx } σ2 H2) (hd:∀ σ H,Pv xs.length σ H→D.nx σ H) :
    ∃ W:Nat→Nat→St→Hp→Prop,(∃ m,W 0 m σ H)∧∀ i m σ H,W i m σ H →
      ((Itz K l1 l2 xs ys).stop i H∧D.nx σ H)∨((Itz K l1 l2 xs ys).go i H∧∃ N:St→Hp→Prop,(∀ σ' H',N σ' H'→∃ m',m'<m∧W (i + 1) m' σ' H')∧∀ x H',(Itz K l1 l2 xs ys).yld i H x H'→g x σ H' fun σ2 H2=>tb { D with nx:=N,ct:=N,bk:=D.nx } σ2 H2):=by
  refine ⟨fun i m σ H=>m=xs.length - i∧i≤xs.length∧Pv i σ H,⟨xs.length,by simp,Nat.zero_le _,h0⟩,?_⟩
  rintro i m σ H ⟨rfl,hi,p⟩
  obtain ⟨q1,q2⟩:=hl i σ H hi p
  by_cases hlt:i<xs.length
  · refine .inr ⟨⟨q1,q2,hlt,by omega⟩,Pv (i + 1),fun σ' H' p'=>⟨xs.length - (i + 1),by omega,rfl,hlt,p'⟩,fun x H' y=>?_⟩
    obtain ⟨T,a,b,rfl,hT,ha,hb,rfl⟩:=y
    exact hs i a b T σ _ ha hb p hT
  · have e:i=xs.length:=by omega
    subst e
    exact .inl ⟨⟨q1,q2,.inl (Nat.le_refl _)⟩,hd σ H p⟩
end
end L2
namespace L2
open PySem PySem.Spec PyProof.Rows
section
variable {X:Cx}
def Ite (K:PySem.W.Frag) (l:Addr) (xs:List V):It :=
  ⟨fun i H=>SqL K H l xs∧i<xs.length,fun i H x H'=>∃ T a,x=.ref T∧H T=none∧xs[i]?=some a∧H'=upd H T (.tup [.int (i:Int),a]),fun i H=>SqL K H l xs∧xs.length≤i⟩
def VB (e it l:Addr) (i:Nat) (h:Heap):Prop:=(∃ old,IsEnum h e it i old)∧h.IsListIter it l i
theorem Af {P:Program} {w:World} {K:PySem.W.Frag} {elts:List Expr} {kk:Nat} {tpos:Pos} {e it l:Addr} {xs:List V} (hei:e≠it) :
    Turn P w K (.Tuple elts kk tpos) (Ite K l xs) [e,it] e (VB e it l) where
  mem:=by simp
  obj:=fun i h st b hb=>by
    obtain ⟨⟨old,he⟩,⟨o1,e1,c1,d1⟩⟩:=st
    simp at hb
    rcases hb with rfl | rfl
    · exact ⟨_,he,fun v z=>by cases (show Data.fields _=Data.cell v from z)⟩
    · exact ⟨o1,e1,fun v z=>by rw [d1] at z;cases z⟩
  keep:=fun i h h' st k=>by
    obtain ⟨⟨old,he⟩,h1⟩:=st
    exact ⟨⟨old,k e (by simp) _ he⟩,h1.at fun o x=>k it (by simp) o x⟩
  item:=by
    intro X hP hw hK hc i pins s σ H E I hf st hg
    subst hP hw hK
    obtain ⟨⟨old,he⟩,h1⟩:=st
    obtain ⟨hq1,hi1⟩:=hg
    obtain ⟨its1,rv1,pl1,hz1⟩:=I.list hq1
    obtain ⟨u1,hu1,ru1⟩:=rv1.get (List.getElem?_eq_getElem hi1)
    refine wpAny_pyNext_enum_item he h1 pl1.isList (x:=u1) (by simpa using hu1) hei fun h' a1 a2 a3 a4 hk=>?_
    have lt:∀ {c o},s.heap.get? c=some o→s.heap.objs.size≠c:=fun e=>Nat.ne_of_gt (Heap.lt_size e)
    refine ⟨.ref s.heap.objs.size,rfl,wpAny_letOwnedTupleGo_enum (s:={ s with heap:=h',toks:=s.toks + 1 }) a1 fun h'' hz' hs'=>?_⟩
    have Tz:s.heap.objs.size≠e:=lt he
    have I1:Inv X pins σ H { s with heap:=h'',toks:=s.toks + 1 }:=I.rZ (ch:=[e,it])
      (fun b o hb x=>hs'.extBut b o (fun z=>hb (by simp [z])) (hk b o (fun z=>hb (by simp [z])) (fun z=>hb (by simp [z])) x)) fun b hb=>hf b hb
    obtain ⟨F0,F1,F2,F3,F4,F5⟩:=I.zR (H':=H) (Nat.le_refl _) (I.hok.fresh (Nat.le_refl _))
    have hT:IsTup h'' s.heap.objs.size #[.int (i:Int) s.toks,u1]:=⟨_,hs'.extBut _ _ Tz a3,rfl,_,rfl⟩
    have I2:Inv X pins σ (upd H s.heap.objs.size (.tup [.int (i:Int),xs[i]])) { s with heap:=h'',toks:=s.toks + 1 }:=I1.adopt F0 F1 I.sz F4 F5 (show gH X.prog X.w _ h'' _ (.tup [.int (i:Int),xs[i]]) from ⟨by rw [sizeLine_eq];simp,[.int (i:Int) s.toks,u1],.cons ⟨_,rfl⟩ (.cons ru1 .nil),hT⟩)
    refine ⟨.ref s.heap.objs.size,_,I2,rfl,⟨_,_,rfl,F0,List.getElem?_eq_getElem hi1,rfl⟩,?_,fun b hb=>?_⟩
    · exact ⟨⟨_,by simpa using hz'⟩,a2.extBut hs'.extBut hei.symm⟩
    · rw [bF]
      · exact (hf b hb).1
      · simp at hb
        obtain ⟨o1,e1,_⟩:=h1
        rcases hb with rfl | rfl
        · exact (lt he).symm
        · exact (lt e1).symm
  done:=by
    intro X hP hw hK hc i pins s σ H E I hf st hg
    subst hP hw hK
    obtain ⟨⟨old,he⟩,h1⟩:=st
    obtain ⟨hq1,hend⟩:=hg
    obtain ⟨its1,rv1,pl1,hz1⟩:=I.list hq1
    have e1:=rv1.length
    exact wpAny_pyNext_enum_end (I.ok.hd hc) he h1 pl1.isList (by simp;omega) fun h' hk=>⟨rfl,I.rZ (t':=s.toks) (ch:=[e,it])
      (fun b o hb x=>hk b o (fun z=>hb (by simp [z])) x) fun b hb=>hf b hb⟩
  self:=fun _ _ _ _ _ st h=>by
    obtain ⟨⟨old,he⟩,_⟩:=st
    exact wpAny_pyIter_enum he h
def W7 (K:PySem.W.Frag) (ta:TA):TI:=fun σ H R=>ta σ H fun vs H1=>∃ l xs,vs=[.ref l]∧SqL K H1 l xs∧R (Ite K l xs) H1
theorem Bw {elts:List Expr} {kk:Nat} {tpos:Pos} {a:Expr} {ta:TA} {p pos:Pos} (hg:Gl X "enumerate") (hm:X.mg "enumerate"=none) (ha:PA X [a] ta) (hs:starEach [a] X.env=[(false,eval a X.env)]:=by rfl) :
    PI X (.Tuple elts kk tpos) (.Call (.Name "enumerate" p) [a] [] pos) (W7 X.K ta):=by
  intro pins s σ H R I h
  refine Call_ (lW I hg hm boot_enumerate (PyProof.Rows.callWith_type1 (thn (ha pos pins s σ H _ I h) fun us s1 ⟨vs,H1,I1,r1,q1⟩=>?_) hs rfl))
  obtain ⟨l1,xs,e,hq1,q⟩:=q1
  subst e
  obtain ⟨u,rfl,ru⟩:=vals1 r1
  cases ru
  obtain ⟨its1,rv1,pl1,hz1⟩:=I1.list hq1
  refine call_enumerate_list pl1.isList fun h' a1 a2 a3 hk=>?_
  refine wpAny_pyIter_enum a1 ?_
  refine ⟨_,_,_,_,H1,rfl,I1.kept (t':=s1.toks) hk,Af (l:=l1) (xs:=xs) (it:=s1.heap.objs.size) (Nat.succ_ne_self _),⟨⟨_,a1⟩,a2⟩,fun b hb=>?_,q⟩
  have hb':s1.heap.objs.size≤b:=by
    simp at hb
    rcases hb with rfl | rfl <;> simp
  exact I1.zR hb' (I1.hok.fresh hb')
theorem FN {K:PySem.W.Frag} {l:Addr} {xs:List V} {g:TG} {tb:TS} {D:Ends} {σ:St} {H:Hp} (Pv:Nat→St→Hp→Prop) (h0:Pv 0 σ H) (hl:∀ i σ H,i≤xs.length→Pv i σ H→SqL K H l xs)
    (hs:∀ i a T σ H,xs[i]?=some a→Pv i σ H→H T=none→g (.ref T) σ (upd H T (.tup [.int (i:Int),a])) fun σ2 H2=>tb { D with nx:=Pv (i + 1),ct:=Pv (i + 1),bk:=D.nx } σ2 H2) (hd:∀ σ H,Pv xs.length σ H→D.nx σ H) :
    ∃ W:Nat→Nat→St→Hp→Prop,(∃ m,W 0 m σ H)∧∀ i m σ H,W i m σ H →
      ((Ite K l xs).stop i H∧D.nx σ H)∨((Ite K l xs).go i H∧∃ N:St→Hp→Prop,(∀ σ' H',N σ' H'→∃ m',m'<m∧W (i + 1) m' σ' H')∧∀ x H',(Ite K l xs).yld i H x H'→g x σ H' fun σ2 H2=>tb { D with nx:=N,ct:=N,bk:=D.nx } σ2 H2):=by
  refine ⟨fun i m σ H=>m=xs.length - i∧i≤xs.length∧Pv i σ H,⟨xs.length,by simp,Nat.zero_le _,h0⟩,?_⟩
  rintro i m σ H ⟨rfl,hi,p⟩
  have q1:=hl i σ H hi p
  by_cases hlt:i<xs.length
  · refine .inr ⟨⟨q1,hlt⟩,Pv (i + 1),fun σ' H' p'=>⟨xs.length - (i + 1),by omega,rfl,hlt,p'⟩,fun x H' y=>?_⟩
    obtain ⟨T,a,rfl,hT,ha,rfl⟩:=y
    exact hs i a T σ _ ha p hT
  · have e:i=xs.length:=by omega
    subst e
    exact .inl ⟨⟨q1,Nat.le_refl _⟩,hd σ H p⟩
theorem Dd {K:PySem.W.Frag} {a:Addr} {xs:List V} {acc:Addr} {g:TG} {tc:TT} {te:TE} {τ:St} {H1:Hp} {Q:Hp→Prop} (Pv:Nat→St→Hp→Prop) (h0:Pv 0 τ (upd H1 acc (.lst []))) (hl:∀ i τ H,i≤xs.length→Pv i τ H→SqL K H a xs)
    (hs:∀ i x T τ H,xs[i]?=some x→Pv i τ H→H T=none→g (.ref T) τ (upd H T (.tup [.int (i:Int),x])) fun τ4 H4=>tc τ4 H4 fun b H5=>if b=true then te τ4 H5 fun y H6=>∃ ys,H6 acc=some (.lst ys)∧ys.length<sizeLine∧Pv (i + 1) τ4 (upd H6 acc (.lst (ys++[y]))) else Pv (i + 1) τ4 H5)
    (hd:∀ τ H,Pv xs.length τ H→Q H):uF (Ite K a xs) acc g tc te τ H1 Q:=by
  refine ⟨fun i m τ H=>m=xs.length - i∧i≤xs.length∧Pv i τ H,⟨xs.length,by simp,Nat.zero_le _,h0⟩,?_⟩
  rintro i m τ H ⟨rfl,hi,p⟩
  have q:=hl i τ H hi p
  by_cases hlt:i<xs.length
  · refine .inr ⟨⟨q,hlt⟩,Pv (i + 1),fun τ' H' p'=>⟨xs.length - (i + 1),by omega,rfl,hlt,p'⟩,fun x H' y=>?_⟩
    obtain ⟨T,b,rfl,hT,hb,rfl⟩:=y
    exact hs i b T τ _ hb p hT
  · have e:i=xs.length:=by omega
    subst e
    exact .inl ⟨⟨q,Nat.le_refl _⟩,hd τ H p⟩
theorem yU {K:PySem.W.Frag} {l1 l2:Addr} {xs ys:List V} {acc:Addr} {g:TG} {tc:TT} {te:TE} {τ:St} {H1:Hp} {Q:Hp→Prop} (Pv:Nat→St→Hp→Prop) (hxy:xs.length=ys.length) (h0:Pv 0 τ (upd H1 acc (.lst []))) (hl:∀ i τ H,i≤xs.length→Pv i τ H→SqL K H l1 xs∧SqL K H l2 ys)
    (hs:∀ i x y T τ H,xs[i]?=some x→ys[i]?=some y→Pv i τ H→H T=none→g (.ref T) τ (upd H T (.tup [x,y])) fun τ4 H4=>tc τ4 H4 fun b H5=>if b=true then te τ4 H5 fun y H6=>∃ ys,H6 acc=some (.lst ys)∧ys.length<sizeLine∧Pv (i + 1) τ4 (upd H6 acc (.lst (ys++[y]))) else Pv (i + 1) τ4 H5)
    (hd:∀ τ H,Pv xs.length τ H→Q H):uF (Itz K l1 l2 xs ys) acc g tc te τ H1 Q:=by
  refine ⟨fun i m τ H=>m=xs.length - i∧i≤xs.length∧Pv i τ H,⟨xs.length,by simp,Nat.zero_le _,h0⟩,?_⟩
  rintro i m τ H ⟨rfl,hi,p⟩
  obtain ⟨q1,q2⟩:=hl i τ H hi p
  by_cases hlt:i<xs.length
  · refine .inr ⟨⟨q1,q2,hlt,by omega⟩,Pv (i + 1),fun τ' H' p'=>⟨xs.length - (i + 1),by omega,rfl,hlt,p'⟩,fun x H' y=>?_⟩
    obtain ⟨T,b,c,rfl,hT,hb,hc,rfl⟩:=y
    exact hs i b c T τ _ hb hc p hT
  · have e:i=xs.length:=by omega
    subst e
    exact .inl ⟨⟨q1,q2,.inl (Nat.le_refl _)⟩,hd τ H p⟩
end
end L2
namespace L2
open PySem PySem.Spec PyProof.Rows
structure Iv (P:Prop):Prop where
  t:True
  p:P
theorem ifT {c:Bool} {A B:Prop} (h:c=true) (a:A):if c=true then A else B:=by rw [if_pos h];exact a
theorem ifF {c:Bool} {A B:Prop} (h:c=false) (b:B):if c=true then A else B:=by rw [if_neg (by rw [h];exact Bool.false_ne_true)];exact b
theorem ifB {c:Bool} {A B:Prop} (h1:c=true→A) (h2:c=false→B):if c=true then A else B:=by
  cases c with
  | true=>exact ifT rfl (h1 rfl)
  | false=>exact ifF rfl (h2 rfl)
theorem w5 (x y:Int):decide (V.int x=V.int y)=decide (x=y):=by
  by_cases h:x=y
  · simp [h]
  · have:¬ V.int x=V.int y:=fun e=>h (by cases e;rfl)
    simp [h,this]
theorem aV {ns:List Int} {i:Int} (h0:0≤i) (h1:i<(ns.length:Int)):atI (ns.map V.int) i=some (V.int (ns.getD i.toNat 0)):=by
  refine lM h0 ?_
  rw [List.getD_eq_getElem?_getD,List.getElem?_eq_getElem (by omega)];rfl
theorem getD_mem' {ns:List Int} {k:Nat} (h:k<ns.length):ns.getD k 0∈ns:=by
  rw [List.getD_eq_getElem?_getD,List.getElem?_eq_getElem h];exact List.getElem_mem h
theorem aY {ns:List Int} {k:Nat} (h:k<ns.length):ns[k]?=some (ns.getD k 0):=by
  rw [List.getD_eq_getElem?_getD,List.getElem?_eq_getElem h];rfl
theorem zJ {n:Nat} {i:Int} (h0:0≤i) (h1:i<(n:Int)):ixN n i=some i.toNat:=by
  unfold ixN;rw [if_pos h0,if_pos h1]
theorem cg.mo {T:fZ} {K:PySem.W.Frag} {H H':Hp} {vs:List V} {ds:List PyData} (h:cg K H vs ds) (e:bI T H H'):cg K H' vs ds:=cg.tH e h
theorem SqL.mo {T:fZ} {K:PySem.W.Frag} {H H':Hp} {a:Addr} {xs:List V} (h:SqL K H a xs) (e:bI T H H'):SqL K H' a xs:=e.seq h
theorem SqT.mo {T:fZ} {K:PySem.W.Frag} {H H':Hp} {a:Addr} {xs:List V} (h:SqT K H a xs) (e:bI T H H'):SqT K H' a xs:=e.WD h
section
variable {T:fZ} {H0 H1 H H':Hp} {L L':List (Addr × HO)} {a l p:Addr} {o o':HO} {xs:List V} {K:PySem.W.Frag}
theorem Ow.frz (O:Ow T H0 H ((p,o) :: L)):∃ Hn,Ow T Hn H L∧bI T H0 Hn∧Hn p=some o:=by
  obtain ⟨Hn,On,sn,kn⟩:=O.tail.reb
  refine ⟨Hn,On,sn,kn p o (O.get 0) fun q hq z=>?_⟩
  have nd:=O.nd
  rw [List.map_cons,List.nodup_cons] at nd
  exact nd.1 (List.mem_map.mpr ⟨q,hq,z⟩)
theorem Ow.join (O:Ow T H0 H L) (O':Ow T H H' L'):Ow T H0 H' (L'++L):=by
  have keep:∀ q∈L,H' q.1=some q.2:=fun q hq=>(O.lQ O'.same).at_ q hq
  refine ⟨O.same.trans O'.same,fun q hq=>?_,fun q hq=>?_,fun q hq=>?_,?_⟩
  · rcases List.mem_append.mp hq with h | h
    · exact O.same.free (O'.new q h)
    · exact O.new q h
  · rcases List.mem_append.mp hq with h | h
    · exact O'.at_ q h
    · exact keep q h
  · rcases List.mem_append.mp hq with h | h
    · exact O'.pl q h
    · exact O.pl q h
  · rw [List.map_append,List.nodup_append]
    refine ⟨O'.nd,O.nd,fun x hx y hy z=>?_⟩
    obtain ⟨q,hq,rfl⟩:=List.mem_map.mp hx
    obtain ⟨r,hr,rfl⟩:=List.mem_map.mp hy
    have:=O'.new q hq
    rw [z,O.at_ r hr] at this
    cases this
end
def dTup (ns:List Int):PyData:=.tuple (ns.map PyData.int)
def yS (rs:List (List Int)):PyData:=.list (rs.map oF)
section
variable {K:PySem.W.Frag} {H:Hp} {v:V} {a:Addr} {ns:List Int} {rs:List (List Int)}
theorem Den.tup (h:SqT K H a (ns.map V.int)):Den K H (.ref a) (dTup ns):=.tuple h (cg.ints ns)
theorem Den.Ah (h:Den K H v (dTup ns)):∃ a,v=.ref a∧SqT K H a (ns.map V.int):=by
  cases h with
  | tuple h hs=>exact ⟨_,rfl,by rw [← cg.int_inv hs];exact h⟩
theorem Den.j6 {ds:List PyData} (h:Den K H v (.list ds)):∃ a xs,v=.ref a∧SqL K H a xs∧cg K H xs ds:=by
  cases h with
  | list h hs=>exact ⟨_,_,rfl,h,hs⟩
theorem Sh.tup (n:Nat) (ns:List Int):Sh (n + 1) (dTup ns):=.tuple fun d hd=>by
  obtain ⟨i,_,rfl⟩:=List.mem_map.mp hd
  exact .int n i
end
end L2
namespace L2
open PySem PySem.Spec PyProof.Rows
section
variable {A B:Prop}
theorem ifD {p:Prop} [Decidable p] (h1:p→A) (h2:¬ p→B):if decide p=true then A else B:=ifB (fun h=>h1 (of_decide_eq_true h)) fun h=>h2 (of_decide_eq_false h)
theorem ifI {x y:Int} (h1:x=y→A) (h2:¬ x=y→B):if decide (V.int x=V.int y)=true then A else B:=by rw [w5];exact ifD h1 h2
theorem ifN {c:Bool} (h:if c=true then B else A):if (!c)=true then A else B:=by cases c <;> simpa using h
end
structure Lic where
  day:Int
  start:Int
  back:Int
  most:Int
def qT (l:Lic):PyData:=dTup [l.day,l.start,l.back,l.most]
def CW (ls:List Lic):PyData:=.list (ls.map qT)
abbrev Aa (l:Lic):List V:=[.int l.day,.int l.start,.int l.back,.int l.most]
section
variable {K:PySem.W.Frag} {H:Hp} {v:V} {a:Addr} {ls:List Lic} {l:Lic} {xs:List V} {k:Nat}
theorem Den.lic (h:SqT K H a (Aa l)):Den K H (.ref a) (qT l):=Den.tup (ns:=[l.day,l.start,l.back,l.most]) h
theorem Den.Ci (h:Den K H v (qT l)):∃ a,v=.ref a∧SqT K H a (Aa l):=h.Ah
theorem cg.lV (h:cg K H xs (ls.map qT)) (hk:ls[k]?=some l):∃ a,xs[k]?=some (.ref a)∧SqT K H a (Aa l):=by
  obtain ⟨v,h1,h2⟩:=h.get (i:=k) (d:=qT l) (by rw [List.getElem?_map,hk];rfl)
  obtain ⟨a,rfl,hT⟩:=h2.Ci
  exact ⟨a,h1,hT⟩
theorem cg.wR (h:cg K H xs (ls.map qT)) (hx:xs[k]?=some v):∃ a l,v=.ref a∧ls[k]?=some l∧SqT K H a (Aa l):=by
  obtain ⟨d,h1,h2⟩:=h.get' hx
  rw [List.getElem?_map] at h1
  cases e:ls[k]? with
  | none=>rw [e] at h1;cases h1
  | some l =>
    rw [e] at h1
    cases h1
    obtain ⟨a,rfl,hT⟩:=h2.Ci
    exact ⟨a,l,rfl,rfl,hT⟩
theorem Sh.lic (n:Nat) (l:Lic):Sh (n + 1) (qT l):=Sh.tup n _
theorem Sh.roll (n:Nat) (ls:List Lic):Sh (n + 2) (CW ls):=.list fun d hd=>by
  obtain ⟨i,_,rfl⟩:=List.mem_map.mp hd
  exact .lic n i
end
theorem Oz (xs:List V) (i j:Nat):vZ xs (some (i:Int)) (some (j:Int))=(xs.drop i).take (j - i):=by
  unfold vZ
  rw [HT.qg,HT.qg]
  refine List.ext_getElem? fun k=>?_
  simp only [List.getElem?_take,List.getElem?_drop]
  by_cases h1:k<j - i
  · rw [if_pos h1]
    by_cases h2:i + k<xs.length
    · rw [if_pos (by omega),show min i xs.length=i by omega]
    · rw [List.getElem?_eq_none (l:=xs) (i:=i + k) (by omega)]
      split
      · exact List.getElem?_eq_none (by omega)
      · rfl
  · rw [if_neg h1]
    split
    · rename_i h3
      omega
    · rfl
theorem Nh (ns:List Int) (i j:Nat):vZ (ns.map V.int) (some (i:Int)) (some (j:Int))=((ns.drop i).take (j - i)).map V.int:=by
  rw [Oz,List.map_take,List.map_drop]
theorem Gg (ns:List Int) (i:Nat):vZ (ns.map V.int) (some (i:Int)) none=(ns.drop i).map V.int:=by
  unfold vZ
  rw [HT.qg,List.length_map,show HT.sIx ns.length ns.length none=ns.length from rfl,List.map_drop]
  by_cases h:i≤ns.length
  · rw [Nat.min_eq_left h,List.take_of_length_le (by rw [List.length_drop,List.length_map];omega)]
  · rw [Nat.min_eq_right (by omega),List.drop_of_length_le (l:=ns.map V.int) (i:=i) (by rw [List.length_map];omega),Nat.sub_self,List.take_zero]
theorem lex3 (d n i d' m j:Int):HT.lexLt [d,n,i] [d',m,j]=true↔(d<d'∨d=d'∧(n<m∨n=m∧i<j)):=by
  simp only [HT.lexLt]
  by_cases h1:d=d'
  · by_cases h2:n=m
    · by_cases h3:i=j
      · simp [h1,h2,h3]
      · simp [h1,h2,h3]
    · simp [h1,h2]
  · simp [h1]
end L2
namespace L2
open PySem PySem.Spec PyProof.Rows
theorem Ow.lend {T:fZ} {H0 H:Hp} {A B:List (Addr × HO)} (O:Ow T H0 H (A++B)):∃ H1,Ow T H1 H A∧bI T H0 H1∧(∀ p∈B,H1 p.1=some p.2)∧∀ (H':Hp) (A':List (Addr × HO)),Ow T H1 H' A'→Ow T H0 H' (A'++B):=by
  have OA:Ow T H0 H A:=O.sub (List.sublist_append_left A B)
  have OB:Ow T H0 H B:=O.sub (List.sublist_append_right A B)
  obtain ⟨H1,O1,s1,k1⟩:=OA.reb
  have nd:=O.nd
  rw [List.map_append,List.nodup_append] at nd
  have hB:∀ p∈B,H1 p.1=some p.2:=fun p hp=>k1 p.1 p.2 (OB.at_ p hp) fun q hq z=>nd.2.2 q.1 (List.mem_map.mpr ⟨q,hq,rfl⟩) p.1 (List.mem_map.mpr ⟨p,hp,rfl⟩) z
  refine ⟨H1,O1,s1,hB,fun H' A' O'=>?_⟩
  refine ⟨s1.trans O'.same,fun p hp=>?_,fun p hp=>?_,fun p hp=>?_,?_⟩
  · rcases List.mem_append.mp hp with h | h
    · exact s1.free (O'.new p h)
    · exact OB.new p h
  · rcases List.mem_append.mp hp with h | h
    · exact O'.at_ p h
    · refine O'.same.keep _ _ (hB p h) fun ps z=>?_
      have:=OB.pl p h
      rw [z] at this;cases this
  · rcases List.mem_append.mp hp with h | h
    · exact O'.pl p h
    · exact OB.pl p h
  · rw [List.map_append,List.nodup_append]
    refine ⟨O'.nd,OB.nd,fun x hx y hy z=>?_⟩
    obtain ⟨q,hq,rfl⟩:=List.mem_map.mp hx
    obtain ⟨r,hr,rfl⟩:=List.mem_map.mp hy
    have e:=O'.new q hq
    rw [z,hB r hr] at e
    cases e
end L2
namespace L2
open PySem PySem.Spec PyProof.Rows
theorem ql {X:Cx} {K:PySem.W.Frag} {pos:Pos} {es:List Expr} {k:Nat} {t:TGs} {n:Nat} (hK:X.K=K) (hc:X.calm=true) (h:PGs X es t) (hn:(assignEach es X.env).length=n:=by rfl) (hst:(assignEach es X.env).findIdx? (·.1)=none:=by rfl):PG X (.Tuple es k pos) (YS K n t):=hK ▸ iY hc h hn hst
end L2
namespace L2
open PySem PySem.Spec PyProof.Rows
theorem V0 {τ:St} {H:Hp} {A B:Hp→Prop} (h:A H):V1 τ H fun b H5=>if b=true then A H5 else B H5:=by
  show if true=true then A H else B H
  rw [if_pos rfl];exact h
theorem Q9 (xs:List V) (v:V):atI (xs++[v]) (-1)=some v:=by
  unfold atI ixN
  rw [if_neg (by omega),if_pos (by simp;omega)]
  have e:(-1 + ((xs++[v]).length:Int)).toNat=xs.length:=by simp;omega
  rw [e]
  show (xs++[v])[xs.length]?=some v
  simp
end L2
namespace L2
open PySem PySem.Spec PyProof.Rows
theorem rN {α:Type}:∀ {L:List α} {k:Nat} {p:α},L[k]?=some p→(p :: L.eraseIdx k).Perm L
  | [],_,_,h=>by simp at h
  | a :: L,0,p,h=>by
    have e:a=p:=by simpa using h
    subst e;exact List.Perm.refl _
  | a :: L,k + 1,p,h=>by
    have h':L[k]?=some p:=by simpa using h
    rw [List.eraseIdx_cons_succ]
    exact (List.Perm.swap a p _).trans ((rN h').cons a)
section
variable {T:fZ} {H0 H:Hp} {L:List (Addr × HO)} {p:Addr} {o:HO}
theorem Ow.pull (O:Ow T H0 H L) (k:Nat) (h:L[k]?=some (p,o):=by rfl):Ow T H0 H ((p,o) :: L.eraseIdx k):=O.perm (rN h)
theorem Ow.del (O:Ow T H0 H L) (k:Nat):Ow T H0 H (L.eraseIdx k):=O.sub (List.eraseIdx_sublist L k)
end
theorem mZ (ns:List Int) (z:Int):ns.map V.int++[V.int z]=(ns++[z]).map V.int:=by rw [List.map_append];rfl
end L2
namespace L2
open PySem PySem.Spec PyProof.Rows
theorem cg.Nj {K:PySem.W.Frag} {H:Hp} {xs:List V} {ws:List (List Int)} {i:Nat} {x:V} (h:cg K H xs (ws.map oF)) (hx:xs[i]?=some x):∃ a w,x=.ref a∧ws[i]?=some w∧SqL K H a (w.map V.int):=by
  obtain ⟨d,h1,h2⟩:=h.get' hx
  rw [List.getElem?_map] at h1
  cases e:ws[i]? with
  | none=>rw [e] at h1;cases h1
  | some w =>
    rw [e] at h1
    cases h1
    obtain ⟨a,rfl,hL⟩:=h2.yP
    exact ⟨a,w,rfl,rfl,hL⟩
theorem cg.zX {K:PySem.W.Frag} {H:Hp} {xs:List V} {ws:List (List Int)} {i:Nat} {w:List Int} (h:cg K H xs (ws.map oF)) (hw:ws[i]?=some w):∃ a,xs[i]?=some (.ref a)∧SqL K H a (w.map V.int):=by
  obtain ⟨v,h1,h2⟩:=h.get (i:=i) (d:=oF w) (by rw [List.getElem?_map,hw];rfl)
  obtain ⟨a,rfl,hL⟩:=h2.yP
  exact ⟨a,h1,hL⟩
end L2
namespace L2
open PySem PySem.Spec PyProof.Rows
end L2
namespace L2
open PySem PySem.W PySem.Spec PyProof.Rows
section
variable {prog:Program} {w:World} {A:Around} {E:Value→Shared→Prop} {s:Shared}
end
section
variable {X:Cx}
end
theorem Cd (a v:Value):argsOk "min" ⟨[a],[(Str.ofString "default",v)]⟩:=by unfold argsOk;kernel_rfl
section
variable {prog:Program} {w:World} {A:Around} {R:Result→Shared→Prop} {I:Addr} {fp wr:List Addr} {n:Nat} {P:Nat→Value→Prop} {St:Nat→Heap→Prop}
theorem Ca (W:Walks prog w A.in1 I fp wr n P St) (bt:Nat→Nat→Bool) (hcmp:CmpOf prog w A.in1 .Lt P bt) (S:Addr) (hSf:S ∉ fp) (d:Value) :
    ∀ (k j:Nat) (s:Shared) (bs:Array Value) (c:Nat),n - j=k→j≤n→St j s.heap→((j=0∧bs=#[])∨∃ i vb,j=i + 1∧bs=#[vb,vb]∧P (argBest bt i) vb) →
    s.heap.get? S=some { cls:=.type "list",dict:=none,data:=.seq bs c,slots:=#[] } →
    (n=0→∀ h' tk,(∀ b o,b ∉ wr→b≠S→s.heap.get? b=some o→h'.get? b=some o)→R (.ok (.ret d)) { s with heap:=h',toks:=tk }) →
    (∀ v h' tk,0<n→P (argBest bt (n - 1)) v→(∀ b o,b ∉ wr→b≠S→s.heap.get? b=some o→h'.get? b=some o)→R (.ok (.ret v)) { s with heap:=h',toks:=tk }) →
    codeAny (model prog w) A (.builtin "min.loop" ⟨[.ref I,.none,.ref S],[(Str.ofString "default",d)]⟩) R s:=by
  have nSw:S ∉ wr:=fun h=>hSf (W.sub _ h)
  have nm:(toString "min"++toString ".loop":String)="min.loop":=by decide
  intro k
  induction k with
  | zero =>
    intro j s bs c hk hj hst hb hS hR0 hR1
    have ej:j=n:=Nat.le_antisymm hj (Nat.le_of_sub_eq_zero hk)
    subst ej
    refine codeAny_builtin F.entry_min_loop ?_;rw [Around.under_plainId F.plain_min_loop _]
    show wpAny _ A.in1 (seqItems? (.ref S) >>= _) _ _ s;refine wpAny_bind (wpAny_seqItems hS rfl ?_)
    rcases hb with ⟨e0,rfl⟩ | ⟨i,vb,ei,rfl,hP⟩
    · show wpAny _ A.in1 (tryCatch (pyNext (.ref I)) _ >>= _) _ _ s;refine wpAny_bind (wpAny_tryCatch (W.done s _ _ hst fun h' tk hk'=>?_))
      refine wpAny_bind (wpAny_rule ?_)
      exact wpAny_pure (hR0 e0 h' tk fun b o hbw _ e=>hk' b o hbw e)
    · show wpAny _ A.in1 (tryCatch (pyNext (.ref I)) _ >>= _) _ _ s;refine wpAny_bind (wpAny_tryCatch (W.done s _ _ hst fun h' tk hk'=>?_))
      have hS':=hk' S _ nSw hS
      show wpAny _ A.in1 (updateSeq S (fun _=>#[]) >>= _) _ _ _
      refine wpAny_bind (wpAny_updateSeq hS' rfl (wpAny_bind (wpAny_letGo (wpAny_pure ?_))))
      exact hR1 vb _ tk (by omega) (by rw [ei];exact hP) fun b o hbw hbS e=>(Heap.get?_update_other _ _ (Ne.symm hbS)).trans (hk' b o hbw e)
  | succ k ih =>
    intro j s bs c hk hj hst hb hS hR0 hR1
    have hlt:j<n:=Nat.sub_pos_iff_lt.mp (by rw [hk];exact Nat.succ_pos k)
    refine codeAny_builtin F.entry_min_loop ?_;rw [Around.under_plainId F.plain_min_loop _]
    show wpAny _ A.in1 (seqItems? (.ref S) >>= _) _ _ s;refine wpAny_bind (wpAny_seqItems hS rfl ?_)
    rcases hb with ⟨e0,rfl⟩ | ⟨i,vb,ei,rfl,hPb⟩
    · show wpAny _ A.in1 (tryCatch (pyNext (.ref I)) _ >>= _) _ _ s;refine wpAny_bind (wpAny_tryCatch (W.item j s _ _ hlt hst fun v h' tk hP hst' hk'=>?_))
      have hS':=hk' S _ nSw hS
      show wpAny _ A.in1 (updateSeq S (fun _=>#[v,v]) >>= _) _ _ _
      refine wpAny_bind (wpAny_updateSeq hS' rfl ?_)
      rw [nm]
      subst e0
      refine wpAny_pure ⟨plainId_quiet F.plain_min_loop _,ih 1 _ _ _ (by omega) (by omega) (W.frame _ _ _ hst' fun b hbf o e=>(Heap.get?_update_other _ _ (fun h:S=b=>hSf (by rw [h];exact hbf))).trans e) (.inr ⟨0,v,rfl,rfl,hP⟩) (Heap.get?_update_self _ hS' rfl) (fun z=>by omega) fun v' h'' tk'' hn' hP' hk''=>?_⟩
      exact hR1 v' h'' tk'' hn' hP' fun b o hbw hbS e=>hk'' b o hbw hbS ((Heap.get?_update_other _ _ (Ne.symm hbS)).trans (hk' b o hbw e))
    · subst ei
      show wpAny _ A.in1 (tryCatch (pyNext (.ref I)) _ >>= _) _ _ s;refine wpAny_bind (wpAny_tryCatch (W.item (i + 1) s _ _ hlt hst fun v h' tk hP hst' hk'=>?_))
      have hS':=hk' S _ nSw hS
      show wpAny _ A.in1 (tryCatch (holding [v,v] (richCompare .Lt v vb >>= _)) _ >>= _) _ _ _
      refine wpAny_bind (wpAny_tryCatch (wpAny_holding (wpAny_bind (hcmp (i + 1) (argBest bt i) v vb _ _ _ hP hPb (wpAny_bind (wpAny_holding (wpAny_truthy_bool (wpAny_bind (wpAny_letGo (wpAny_pure ?_))))))))))
      cases hb:bt (i + 1) (argBest bt i) with
      | true =>
        simp only [if_true]
        refine wpAny_bind (wpAny_updateSeq hS' rfl (wpAny_bind (wpAny_letGo ?_)));rw [nm]
        refine wpAny_pure ⟨plainId_quiet F.plain_min_loop _,ih (i + 1 + 1) _ _ _ (by omega) (by omega) (W.frame _ _ _ hst' fun b hbf o e=>(Heap.get?_update_other _ _ (fun h:S=b=>hSf (by rw [h];exact hbf))).trans e) (.inr ⟨i + 1,v,rfl,rfl,by simp only [argBest,hb,if_true];exact hP⟩) (Heap.get?_update_self _ hS' rfl) (fun z=>by omega) fun v' h'' tk'' hn' hP' hk''=>?_⟩
        exact hR1 v' h'' tk'' hn' hP' fun b o hbw hbS e=>hk'' b o hbw hbS ((Heap.get?_update_other _ _ (Ne.symm hbS)).trans (hk' b o hbw e))
      | false =>
        simp only [Bool.false_eq_true,if_false]
        refine wpAny_bind (wpAny_letGo ?_);rw [nm]
        refine wpAny_pure ⟨plainId_quiet F.plain_min_loop _,ih (i + 1 + 1) _ _ c (by omega) (by omega) hst' (.inr ⟨i + 1,vb,rfl,rfl,by simp only [argBest,hb,Bool.false_eq_true,if_false];exact hPb⟩) hS' (fun z=>by omega) fun v' h'' tk'' hn' hP' hk''=>?_⟩
        exact hR1 v' h'' tk'' hn' hP' fun b o hbw hbS e=>hk'' b o hbw hbS (hk' b o hbw e)
end
section
variable {X:Cx}
def V4 (K:PySem.W.Frag) (d:Int) (te:TE):TE:=fun σ H Q=>te σ H fun x H1=>∃ (p:Addr) (ns:List Int),x=.ref p∧SqL K H1 p (ns.map V.int)∧(ns=[]→Q (.int d) H1)∧∀ M∈ns,(∀ a∈ns,M≤a)→Q (.int M) H1
theorem Ny {e:Expr} {te:TE} {d:Int} {j:Nat} {p1 cp kp pos:Pos} (hcalm:X.calm=true) (hg:Gl X "min") (hm:X.mg "min"=none) (he:PE X e te) (h1:backTo pos (starEach [e] X.env)=(false,eval e X.env) :: backTo pos (starEach [] X.env):=by rfl) (h2:(backTo pos (starEach [e] X.env)).any (·.1)=false:=by rfl) :
    PE X (.Call (.Name "min" p1) [e] [⟨some "default",.Constant (.int d) j cp,kp⟩] pos) (V4 X.K d te):=by
  intro pins s σ H Q I h
  refine wpAny_Call_Name_kw (lW I hg hm boot_min ?_)
  refine callWith_kw ?_ h1 h2
  rw [h1]
  refine Calls.spliced_cons (thn (he pins s σ H _ I h) fun u s1 ⟨x,H1,I1,rx,q1⟩=>?_)
  obtain ⟨p,ns,rfl,hq,q0,qm⟩:=q1
  cases rx
  refine Calls.spliced_nil ?_
  refine kws_cons (wpAny_Constant_int ?_)
  refine kws_nil ?_
  show wpAny _ _ (call (.builtin "min") [.ref p] [(Str.ofString "default",.int d _)]) _ _ _
  obtain ⟨its,r1,p1,hz⟩:=I1.list hq
  have hi:IntsAre its ns:=intsAre_of r1
  obtain ⟨ys,hx⟩:=hi.allInts.items
  have hl':s1.heap.IsList p (intItems ys):=hx ▸ p1.isList
  have hns:ns=ys.toList.map (·.1):=by
    rw [← nums_intItems,← hx]
    exact (show numsOf its.toArray.toList=ns from hi.numsOf).symm
  have nm:(toString "min"++toString ".loop":String)="min.loop":=by decide
  have hys:(intItems ys).size=ns.length:=by rw [hns];simp [intItems]
  refine kmb_tree F.kind_min F.plain_min F.entry_min (Cd _ _) ?_
  show wpAny _ _ (Builtin.Builtins.bindParams "min" ["key","default"] 0 ⟨[],[(Str.ofString "default",.int d s1.toks)]⟩ >>= _) _ _ _
  refine wpAny_bind (wpAny_of_eq (show Builtin.Builtins.bindParams "min" ["key","default"] 0 ⟨[],[(Str.ofString "default",.int d s1.toks)]⟩=pure [none,some (.int d s1.toks)] from rfl) ?_)
  refine wpAny_bind (wpAny_pure ?_)
  refine wpAny_bind (iter_intList (s:={ s1 with toks:=s1.toks + 1 }) hl' fun s₂ e st hfp hlI=>?_)
  subst e
  refine wpAny_bind (wpAny_newObj_type ?_);rw [nm]
  have kept:∀ {h':Heap} {g:Heap} {S:Addr},(∀ b o,s1.heap.get? b=some o→g.get? b=some o)→S=s1.heap.objs.size + 1→(∀ b o,b ∉ [s1.heap.objs.size]→b≠S→g.get? b=some o→h'.get? b=some o)→∀ b o,s1.heap.get? b=some o→h'.get? b=some o:=fun hg hS hk b o e=>by
    have lt:=Heap.lt_size e
    refine hk b o (fun z=>?_) (fun z=>?_) (hg b o e)
    · rw [List.mem_singleton.mp z] at lt;exact Nat.lt_irrefl _ lt
    · rw [z,hS] at lt;exact absurd lt (by simp only [Addr] at lt ⊢;omega)
  have hg2:∀ b o,s1.heap.get? b=some o→((s1.heap.push { cls:=.type "list_iterator",data:=.fields #[.ref p,.int 0 0] }).push { cls:=.type "list",data:=.seq #[] }).get? b=some o:=fun b o e=>Heap.get?_push_of_some _ (Heap.get?_push_of_some _ e)
  have hsz:(s1.heap.push { cls:=.type "list_iterator",data:=.fields #[.ref p,.int 0 0] }).objs.size=s1.heap.objs.size + 1:=Heap.size_push ..
  refine wpAny_pure ⟨plainId_quiet F.plain_min_loop _,Ca (Walks.list (A:=X.A.in1) (I.ok.hd hcalm) _ p hlI (intItems ys)) _ (CmpOf.ints_lt (numAt ys) (fun _ _=>intItems_at)) _ (fun hm=>Nat.lt_irrefl _ (hfp _ hm)) (.int d s1.toks) _ 0 _ #[] _ rfl (Nat.zero_le _)
    ⟨Heap.IsListIter.at st.1 fun o e=>Heap.get?_push_of_some _ e,st.2.push _⟩ (.inl ⟨rfl,rfl⟩) (Heap.get?_push_size _ rfl) (fun h0 h' tk hk=>?_) fun v h' tk hn hP hk=>?_⟩
  · have e0:ns=[]:=List.length_eq_zero_iff.mp (by rw [← hys];exact h0)
    exact ⟨.int d,H1,I1.kept (t':=tk) (kept hg2 hsz hk),⟨_,rfl⟩,q0 e0⟩
  · obtain ⟨t,rfl⟩:=intItems_at hP
    obtain ⟨h1,h2⟩:=argBest_lt (numAt ys) ((intItems ys).size - 1)
    have hyz:(intItems ys).size=ys.size:=by simp [intItems]
    refine ⟨.int _,H1,I1.kept (t':=tk) (kept hg2 hsz hk),⟨t,rfl⟩,qm _ ?_ fun a ha=>?_⟩
    · rw [hns,numAt_eq];exact getD_mem (by rw [List.length_map,Array.length_toList];omega)
    · rw [hns] at ha
      obtain ⟨j,hj,rfl⟩:=mem_getD ha
      rw [List.length_map,Array.length_toList] at hj
      rw [← numAt_eq];exact h2 j (by omega)
end
end L2
namespace L2
open PySem PySem.Spec PyProof.Rows
section
variable {κ:Type} [DecidableEq κ]
def vX (kvs:List (κ × V)) (k:κ):Option V:=(kvs.find? fun kv=>decide (kv.1=k)).map (·.2)
def putK (kvs:List (κ × V)) (k:κ) (v:V):List (κ × V) :=
  if (kvs.any fun kv=>decide (kv.1=k))=true then kvs.map (fun kv=>if kv.1=k then (kv.1,v) else kv) else kvs++[(k,v)]
theorem xR {p:κ × V} {r:List (κ × V)} {k:κ} (e:p.1=k):vX (p :: r) k=some p.2:=by simp [vX,List.find?_cons,e]
theorem xT {p:κ × V} {r:List (κ × V)} {k:κ} (e:¬ p.1=k):vX (p :: r) k=vX r k:=by simp [vX,List.find?_cons,e]
theorem xU (k:κ):∀ kvs:List (κ × V),(kvs.any fun kv=>decide (kv.1=k))=(vX kvs k).isSome
  | []=>rfl
  | p :: r=>by
    rw [List.any_cons]
    by_cases e:p.1=k
    · simp only [xR e,decide_eq_true e,Bool.true_or,Option.isSome_some]
    · rw [xT e,decide_eq_false e,Bool.false_or];exact xU k r
theorem wU (kvs:List (κ × V)) (k:κ) (v:V):(putK kvs k v).length≤kvs.length + 1:=by
  unfold putK
  split
  · rw [List.length_map];omega
  · rw [List.length_append,List.length_cons,List.length_nil];omega
theorem En {kvs:List (κ × V)} {k:κ} (v:V) (h:vX kvs k=none):putK kvs k v=kvs++[(k,v)]:=by
  unfold putK
  rw [xU,h]
  exact if_neg (by decide)
theorem KV.val {kvs:List (κ × V)} {vs:List (κ × Value)} (r:KV kvs vs) (k:κ):VN (vX kvs k) (valueAt vs k):=by
  unfold KV at r
  induction r with
  | nil=>exact True.intro
  | @cons p q ps qs h t ih =>
    obtain ⟨h1,h2⟩:=h
    by_cases e:p.1=k
    · have e':q.1=k:=h1.symm.trans e
      have b:valueAt (q :: qs) k=some q.2:=by simp [valueAt,List.find?_cons,e']
      rw [xR e,b];exact h2
    · have e':¬ q.1=k:=fun z=>e (h1.trans z)
      have b:valueAt (q :: qs) k=valueAt qs k:=by simp [valueAt,List.find?_cons,e']
      rw [xT e,b];exact ih
theorem KV.any {kvs:List (κ × V)} {vs:List (κ × Value)} (r:KV kvs vs) (k:κ):(kvs.any fun kv=>decide (kv.1=k))=vs.any fun kv=>decide (kv.1=k):=by
  unfold KV at r
  induction r with
  | nil=>rfl
  | cons h t ih=>rw [List.any_cons,List.any_cons,ih,h.1]
theorem KV.repl {kvs:List (κ × V)} {vs:List (κ × Value)} (r:KV kvs vs) (k:κ) {y:V} {u:Value} (ry:RelV y u) :
    KV (kvs.map fun kv=>if kv.1=k then (kv.1,y) else kv) (vs.map fun kv=>if kv.1=k then (kv.1,u) else kv):=by
  unfold KV at r ⊢
  induction r with
  | nil=>exact .nil
  | @cons p q ps qs h t ih =>
    rw [List.map_cons,List.map_cons]
    refine .cons ?_ ih
    obtain ⟨h1,h2⟩:=h
    by_cases e:p.1=k
    · rw [if_pos e,if_pos (h1.symm.trans e)];exact ⟨h1,ry⟩
    · rw [if_neg e,if_neg (fun z=>e (h1.trans z))];exact ⟨h1,h2⟩
theorem KV.put {kvs:List (κ × V)} {vs:List (κ × Value)} (r:KV kvs vs) (k:κ) {y:V} {u:Value} (ry:RelV y u):KV (putK kvs k y) (stored vs k u):=by
  unfold putK stored
  rw [r.any k]
  by_cases e:(vs.any fun kv=>decide (kv.1=k))=true
  · rw [if_pos e,if_pos e];exact r.repl k ry
  · rw [if_neg e,if_neg e];exact Paired.snoc r ⟨rfl,ry⟩
theorem KV.length {kvs:List (κ × V)} {vs:List (κ × Value)} (r:KV kvs vs):kvs.length=vs.length:=Paired.length r
end
theorem Rh {P:Program} {w:World} {k:Key} {u:Value} (r:RelV (kV k) u):(gF P w).is k u=true:=by
  cases k with
  | inl i=>obtain ⟨t,e⟩:=(show ∃ t,u=Value.int i t from r);subst e;exact wQ P w i t
  | inr x=>obtain ⟨t,e⟩:=(show ∃ t,u=Value.str x t from r);subst e;exact wO P w x t
theorem vh {P:Program} {w:World}:∀ {ks:List Key} {us:List Value},Vals (ks.map kV) us→ItemsAre (gF P w) ks us
  | [],_,r=>by rw [List.map_nil] at r;cases r;exact .nil
  | k :: ks,_,r=>by
    rw [List.map_cons] at r
    cases r with
    | cons h t=>exact .cons (Rh h) (vh t)
abbrev KT (H:Hp):List (List Key × V)→List (List Key × Addr × Value)→Prop:=Paired fun p q=>p.1=q.1∧H q.2.1=some (.tup (p.1.map kV))∧RelV p.2 q.2.2
section
variable {P:Program} {w:World} {H:Hp} {h:Heap} {a:Addr}
theorem Ql {u:HO} (ok:HOk P w H h) (e:Rd H a u):gH P w H h a u:=e.ok ok
theorem Ou {kvs:List (Key × V)} (ok:HOk P w H h) (e:Rd H a (.dK kvs)):kvs.length≤sizeLine∧(a == sysModules)=false∧∃ vs,KV kvs vs∧h.DictOf (gF P w) a vs :=
  show gH P w H h a (.dK kvs) from Ql ok e
theorem Yl {kvs:List (Key × V)} (ok:HOk P w H h) (e:H a=some (.dK kvs)):kvs.length≤sizeLine∧(a == sysModules)=false∧∃ vs,KV kvs vs∧h.DictOf (gF P w) a vs:=Ou ok (.inl e)
theorem Rc {ks:List Key} (ok:HOk P w H h) (e:H a=some (.tup (ks.map kV))):(tupleKind (gF P w)).is h ks a:=by
  obtain ⟨_,its,r,o,h1,h2,n,h3⟩:=(show gH P w H h a (.tup (ks.map kV)) from ok a _ e)
  exact ⟨o,its.toArray,n,h1,h2,h3,by simpa using vh r⟩
theorem Yk {kvs:List (List Key × V)} (ok:HOk P w H h) (e:Rd H a (.dT kvs)):kvs.length≤sizeLine∧(a == sysModules)=false ∧
    ∃ xs,KT H kvs xs∧h.DictOfH (tupleKind (gF P w)) a xs:=by
  obtain ⟨z,y,xs,r,o,es,ep,h1,h2,h3,h4,h5⟩:=(show gH P w H h a (.dT kvs) from Ql ok e)
  refine ⟨z,y,xs,r,o,es,ep,h1,h2,h3,h4,fun x hx=>?_,h5⟩
  have all:∀ {l:List (List Key × V)} {m:List (List Key × Addr × Value)},KT H l m→∀ x∈m,(tupleKind (gF P w)).is h x.1 x.2.1:=by
    intro l m q
    induction q with
    | nil=>intro x hx;exact nomatch hx
    | @cons p q ps qs hq t ih =>
      intro x hx
      rcases List.mem_cons.mp hx with e | hx
      · subst e
        exact Rc ok (by rw [← hq.1];exact hq.2.1)
      · exact ih x hx
  exact all r x hx
end
section
variable {X:Cx} {pins:List (Addr × Obj)} {σ:St} {H:Hp} {s:Shared} {a:Addr} {y v:V} {u r:Value} {o:Option V} {A:Around} {E:Value→Shared→Prop}
theorem Inv.big (I:Inv X pins σ H s):sysModules<s.heap.objs.size:=by
  have h:mainGlobals<s.heap.objs.size:=(I.mod.glob.keeps I.bk).lt
  exact Nat.lt_trans (by decide) h
theorem Ov {h':Heap} {t':Nat} {ob:HO} (I:Inv X pins σ H s) (mu:Mut (H a)) (hs:Heap.SameBut a s.heap h') (he:∃ q,h'.get? a=some q) (new:gH X.prog X.w (upd H a ob) h' a ob) :
    Inv X pins σ (upd H a ob) { s with heap:=h',toks:=t' } :=
  I.write (x:=a) (e:=a) mu (.inl rfl) (fun b q hb z=>(hs.2 b hb).trans z) he new
theorem Vo {P:Program} {w:World} {H':Hp} {h':Heap} {kvs:List (Key × V)} {vs:List (Key × Value)} (z:kvs.length≤sizeLine) (hd:(a == sysModules)=false) (rel:KV kvs vs) (dd:h'.DictOf (gF P w) a vs) :
    gH P w H' h' a (.dK kvs):=⟨z,hd,vs,rel,dd⟩
end
section
variable {X:Cx} {pins:List (Addr × Obj)} {σ:St} {H:Hp} {s:Shared} {a:Addr} {kvs:List (Key × V)} {k:Key} {u:Value} {A:Around} {E:Value→Shared→Prop}
end
section
variable {X:Cx} {o i e value:Expr} {pos pos' tpos:Pos} {td ty tv:TE}
end
theorem Gd {P:Program} {w:World} {H:Hp} (h:Heap) (hb:sysModules<h.objs.size):gH P w H (h.push { cls:=.type "dict",data:=.dict #[] }) h.objs.size (.dK []) :=
  ⟨Nat.zero_le _,beq_eq_false_iff_ne.mpr (Ne.symm (Nat.ne_of_lt hb)),[],.nil,Heap.DictOf.new h⟩
def PK:TE:=fun _ H Q=>∀ p,H p=none→Q (.ref p) (upd H p (.dK []))
section
variable {X:Cx} {pos:Pos}
theorem Ep:PE X (.Dict [] [] pos) PK:=fun pins s σ H Q I h =>
  wpAny_Dict_empty ⟨.ref s.heap.objs.size,_,I.laid (a:=s.heap.objs.size) (o:=.dK []) (t':=s.toks) (fun _ _ q=>Heap.get?_push_of_some _ q) (Nat.le_refl _) (Gd s.heap I.big),rfl,h _ (I.hok.fresh (Nat.le_refl _))⟩
end
abbrev VV:List (V × V)→List (Value × Value)→Prop:=Paired fun p q=>RelV p.1 q.1∧RelV p.2 q.2
structure M2 (X:Cx) (o:Expr) (m:Str) (apos:Pos) (e f:Expr) (cpos:Pos):Prop where
  base:attributeBase o m X.env (eval o X.env)=eval o X.env
  few:((backTo cpos (starEach [e,f] X.env)).all (fun x=>!x.1) && (backToKw cpos (keywordEach [] X.env)).all (fun x=>x.1.isSome)
    && decide (([e,f]:List Expr).length + ([]:List Keyword).length + (if ([]:List Keyword).isEmpty then 0 else 1)<30))=true
  line:(apos.endLine == cpos.line)=true
  trees:backTo cpos (starEach [e,f] X.env)=[(false,eval e X.env),(false,eval f X.env)]
def IsD (H:Hp) (a:Addr):Prop:=(∃ kvs,Rd H a (.dK kvs))∨∃ kvs,Rd H a (.dT kvs)
theorem Ho {X:Cx} {pins:List (Addr × Obj)} {σ:St} {H:Hp} {s:Shared} {a:Addr} (I:Inv X pins σ H s) (d:IsD H a) :
    s.TypeIs (.ref a) "dict"∧(∀ b,Value.ref a=.ref b→∃ ob,s.heap.get? b=some ob∧ob.dict=none)∧(a == sysModules)=false:=by
  rcases d with ⟨kvs,e⟩ | ⟨kvs,e⟩
  · obtain ⟨_,hd,vs,_,dd⟩:=Ou I.hok e
    refine ⟨dd.typeIs,fun b q=>?_,hd⟩
    cases q
    obtain ⟨ob,_,_,h1,h2,_⟩:=dd
    exact ⟨ob,h1,h2.2.1⟩
  · obtain ⟨_,hd,xs,_,dd⟩:=Yk I.hok e
    refine ⟨dd.typeIs,fun b q=>?_,hd⟩
    cases q
    obtain ⟨ob,_,_,h1,h2,_⟩:=dd
    exact ⟨ob,h1,h2.2.1⟩
section
variable {X:Cx} {pins:List (Addr × Obj)} {σ:St} {H:Hp} {s:Shared} {a:Addr} {y d:V} {u r:Value} {o:Option V} {A:Around} {E:Value→Shared→Prop}
end
section
variable {X:Cx} {o e f:Expr} {apos cpos:Pos} {td ty tx:TE}
end
end L2
namespace L2
open PySem PySem.W PySem.Spec PyProof.Rows
def V6 (td ty tx:TE):TE:=fun σ H Q=>td σ H fun x H1=>∃ a,x=.ref a∧IsD H1 a∧ty σ H1 fun y H2=>tx σ H2 fun z H3=>∃ kvs k,H3 a=some (.dK kvs)∧y=kV k∧kvs.length<sizeLine ∧
  (∀ v,vX kvs k=some v→Q v H3)∧(vX kvs k=none→Q z (upd H3 a (.dK (putK kvs k z))))
section
variable {X:Cx} {o e f:Expr} {apos cpos:Pos} {td ty tx:TE}
theorem Nz (ho:PE X o td) (he:PE X e ty) (hf:PE X f tx) (m:M2 X o "setdefault" apos e f cpos):PE X (.Call (.Attribute o "setdefault" apos) [e,f] [] cpos) (V6 td ty tx):=by
  intro pins s σ H Q I h
  refine wpAny_Call_method m.base m.few m.line PySem.F.plainAttrs_dict PySem.F.slot_dict_setdefault PySem.F.type_dict_setdefault (thn (ho pins s σ H _ I h) fun u s1 ⟨x,H1,I1,rx,a,ex,d,q1⟩=>?_)
  subst ex
  obtain rfl:u=Value.ref a:=rx
  obtain ⟨t1,t2,_⟩:=Ho I1 d
  refine ⟨t1,t2,?_⟩
  rw [m.trees]
  refine Calls.callWith_builtin rfl (Calls.evalArgs_plain (Calls.spliced_cons (thn (he pins s1 σ H1 _ I1 q1) fun iv s2 ⟨y,H2,I2,ry,q2⟩ =>
    Calls.spliced_cons (thn (hf pins s2 σ H2 _ I2 q2) fun fv s3 ⟨z,H3,I3,rz,kvs,k,ea,ey,hl,q3,q4⟩=>Calls.spliced_nil ?_))))
  subst ey
  obtain ⟨z1,hd,vs,rel,dd⟩:=Yl I3.hok ea
  have rv:=rel.val k
  have hlen:=rel.length
  refine call_meetsIn PySem.F.slot_dict_setdefault dd.typeIs PySem.F.entry_dict_setdefault (PySem.F.args_dict_setdefault_3 _ _ _) (kt_meets_setdefault (gF X.prog X.w) a (Rh ry) hd fv) ⟨vs,dd,by omega,fun v hv=>?_,fun hn h' dd' hs=>?_⟩
  · rw [hv] at rv
    cases l:vX kvs k with
    | none=>rw [l] at rv;cases rv
    | some v'=>rw [l] at rv;exact ⟨v',H3,I3.tok _,rv,q3 v' l⟩
  · rw [hn] at rv
    cases l:vX kvs k with
    | some v'=>rw [l] at rv;cases rv
    | none=>exact ⟨z,_,Ov I3 (by rw [ea];trivial) hs (by obtain ⟨ob,es,ep,he',_⟩:=dd';exact ⟨ob,he'⟩) (Vo (Nat.le_trans (wU _ _ _) hl) hd (rel.put k rz) dd'),rz,q4 l⟩
end
def Aj (td:TE):TE:=fun σ H Q=>td σ H fun x H1=>∃ a kvs,x=.ref a∧Rd H1 a (.dK kvs)∧∀ l,H1 l=none→Q (.ref l) (upd H1 l (.lst (kvs.map (·.2))))
theorem KV.vals {kvs:List (Key × V)} {vs:List (Key × Value)} (r:KV kvs vs):Vals (kvs.map (·.2)) (vs.map (·.2)):=by
  induction r with
  | nil=>exact .nil
  | cons h _ ih=>exact .cons h.2 ih
section
variable {X:Cx} {o:Expr} {td:TE} {p1 apos cpos pos:Pos}
theorem wJ (hcalm:X.calm=true) (hgs:Gl X "list") (hms:X.mg "list"=none) (ho:PE X o td) (hb:attributeBase o "values" X.env (eval o X.env)=eval o X.env:=by rfl) (hline:(apos.endLine == cpos.line)=true:=by rfl) :
    PE X (.Call (.Name "list" p1) [.Call (.Attribute o "values" apos) [] [] cpos] [] pos) (Aj td):=by
  intro pins s σ H Q I h
  refine Call_ (lW I hgs hms boot_list (PyProof.Rows.callWith_type1 ?_ rfl rfl))
  show wpAny _ _ (spliced ((false,eval (.Call (.Attribute o "values" apos) [] [] cpos) X.env) :: [])) _ _ s
  refine Calls.spliced_cons (wpAny_Call_method hb rfl hline PySem.F.plainAttrs_dict PySem.F.slot_dict_values PySem.F.type_dict_values (thn (ho pins s σ H _ I h) fun u s1 ⟨x,H1,I1,rx,a,kvs,ex,d,q1⟩=>?_))
  subst ex
  obtain rfl:u=Value.ref a:=rx
  obtain ⟨t1,t2,_⟩:=Ho I1 (.inl ⟨kvs,d⟩)
  refine ⟨t1,t2,?_⟩
  obtain ⟨hz,hd,vs,rel,dd⟩:=Ou I1.hok d
  refine Calls.callWith_builtin rfl (PyProof.Rows.evalArgs_none ?_)
  refine call_meetsIn PySem.F.slot_dict_values dd.typeIs PySem.F.entry_dict_values (PySem.F.args_dict_values_1 _) (meets_dict_values (gF X.prog X.w) a hd) ⟨⟨vs,dd⟩,?_⟩
  refine Calls.spliced_nil ?_
  obtain ⟨ep,da⟩:=dd.dictAt
  have hlen:=rel.length
  have hsz:(s1.heap.push { cls:=.type "dict_values",data:=.fields #[.ref a] }).objs.size=s1.heap.objs.size + 1:=Heap.size_push ..
  refine kdl_call (kdl_values (knd:=gF X.prog X.w) (r:=s1.heap.objs.size) (d:=a) (kvs:=vs) (ep:=ep)) (I.ok.hd hcalm) ⟨⟨_,Heap.get?_push_size _ rfl,rfl,rfl⟩,da.push _⟩ (by omega) fun h' tk acc c hk hS hacc=>?_
  have e:acc.toList=vs.map (·.2):=kdl_vals_eq acc.toList (by rw [Array.length_toList];exact hacc.1) fun j v ej=>hacc.2 j v (by rw [← Array.getElem?_toList];exact ej)
  refine ⟨.ref (s1.heap.push { cls:=.type "dict_values",data:=.fields #[.ref a] }).objs.size,_,I1.laid (t':=tk) (fun b o e=>hk b o (Heap.get?_push_of_some _ e)) (by rw [hsz];exact Nat.le_succ _)
    (show gH X.prog X.w _ h' _ (.lst (kvs.map (·.2))) from ⟨by rw [List.length_map];exact hz,acc.toList,c,by rw [e];exact rel.vals,by simpa using hS⟩),rfl,q1 _ (I1.hok.fresh (by rw [hsz];exact Nat.le_succ _))⟩
end
end L2
namespace L2
open PySem PySem.W PySem.Spec PyProof.Rows
section
variable {prog:Program} {w:World} {A:Around} {E:Value→Shared→Prop} {s:Shared}
def mid (h:Heap) (D:Addr) (vs:List Value):Heap:=((h.update D (Obj.mapSeq fun _=>(#[]:Array Value))).push (seqObj "tuple" vs.toArray 0)).push (seqObj "list" #[] 0)
theorem Fe {h:Heap} {D b:Addr} {vs:List Value} {o:Obj} (hb:h.get? b=some o) (hn:b≠D):(mid h D vs).get? b=some o :=
  Heap.get?_push_of_some _ (Heap.get?_push_of_some _ ((Heap.get?_update_other _ _ (Ne.symm hn)).trans hb))
theorem Bg {D:Addr} {n0 m:Nat} {vs:List Value} {key:Nat→List Int} {κ:Nat→Int} {P:PySem.Fin→Shared→Prop} (h64:vs.length<64) (hD:s.heap.get? D=some (seqObj "list" vs.toArray n0)) (KK:Keys s.heap vs key vs.length m)
    (hκ:∀ i j,i<vs.length→j<vs.length→HT.lexLt (key i) (key j)=decide (κ i<κ j)) (hinj:Inj vs.length κ)
    (q:∀ p:List Nat,p.Perm (List.range vs.length)→p.Pairwise (fun i j=>κ i<κ j)→P (.done (.ret .none)) { s with heap:=sortedHeap s.heap D vs (p.map fun i=>vs.getD i Value.none).toArray }) :
    wpAny (model prog w) A (Builtin.«list.sort» ⟨[.ref D],[]⟩) P E s:=by
  obtain ⟨e1,h1⟩:∃ e1,(s.heap.update D (Obj.mapSeq fun _=>(#[]:Array Value))).get? D=some (seqObj "list" #[] e1):=⟨_,get?_update_seq hD fun _=>#[]⟩
  have h3:(mid s.heap D vs).get? D=some (seqObj "list" #[] e1):=Heap.get?_push_of_some _ (Heap.get?_push_of_some _ h1)
  have K3:Keys (mid s.heap D vs) vs key vs.length m:=by
    refine ⟨KK.size,fun i hi=>?_,KK.long⟩
    obtain ⟨t,its,e,⟨o,ho,hc,n,hd⟩,i1⟩:=KK.at_ i hi
    have hne:t≠D:=fun z=>by
      rw [z,hD] at ho
      have:=congrArg Obj.cls (Option.some.inj ho)
      rw [hc] at this
      exact absurd (show Value.type "list"=Value.type "tuple" from this) (by decide)
    exact ⟨t,its,e,⟨o,Fe ho hne,hc,n,hd⟩,i1⟩
  have fin:∀ (st:SortSt) (p:List Nat),(arrOf st).map (·.2)=List.toArray (p.map fun i=>vs.getD i Value.none)→p.Perm (List.range vs.length)→p.Pairwise (fun i j=>κ i<κ j) →
      P (.done (.ret .none)) { s with heap:=(mid s.heap D vs).update D (Obj.mapSeq fun _=>(arrOf st).map (·.2)) }:=by
    intro st p e a b
    rw [e];exact q p a b
  rw [list_sort_plain]
  refine wpAny_bind (listItems_at hD rfl ?_)
  refine wpAny_bind (listUpdate_at hD rfl ?_ (by rw [List.size_toArray,sizeLine_eq];omega) (Nat.zero_le _))
  refine wpAny_bind (seqEpoch_at h1 rfl ?_)
  refine wpAny_bind (wpAny_newTuple ?_ (by show vs.length≤_;rw [sizeLine_eq];omega))
  refine wpAny_bind (wpAny_newList ?_ (Nat.zero_le _))
  refine wpAny_holding ?_
  show wpAny (model prog w) A _ P E { s with heap:=mid s.heap D vs }
  dsimp only
  by_cases h2:vs.length<2
  · have z2:vs.toArray.size<2:=by rw [List.size_toArray];omega
    rw [if_pos z2,if_pos z2]
    refine wpAny_bind (wpAny_pure ?_)
    rw [StateT.run_pure]
    refine wpAny_bind (wpAny_pure ?_)
    dsimp only
    refine wpAny_bind (seqEpoch_at h3 rfl ?_)
    refine wpAny_bind (listUpdate_at h3 rfl ?_ (Nat.zero_le _) (by rw [Array.size_map];show (vs.toArray.zip vs.toArray).size≤_;rw [Array.size_zip,List.size_toArray,sizeLine_eq];omega))
    simp only [Bool.false_eq_true,bne_self_eq_false,if_false]
    refine wpAny_pure (fin (SortSt.mk' general' (vs.toArray.zip vs.toArray) #[] 7 none) (List.range vs.length) ?_ (List.Perm.refl _) ?_)
    · show (vs.toArray.zip vs.toArray).map (·.2)=_
      apply Array.toList_inj.mp
      rw [Array.toList_map,Array.toList_zip,List.toList_toArray,List.map_snd_zip (Nat.le_refl _)]
      apply List.ext_getElem?
      intro j
      rw [List.getElem?_map]
      by_cases hj:j<vs.length
      · rw [List.getElem?_range hj]
        show _=some (vs.getD j Value.none)
        rw [List.getD_eq_getElem?_getD,List.getElem?_eq_getElem hj];rfl
      · rw [List.getElem?_eq_none (by omega),List.getElem?_eq_none (by rw [List.length_range];omega)];rfl
    · match hx:vs.length,h2 with
      | 0,_=>exact List.Pairwise.nil
      | 1,_=>exact List.pairwise_singleton _ _
  · have z2:¬ vs.toArray.size<2:=by rw [List.size_toArray];omega
    rw [if_neg z2,if_neg z2]
    obtain ⟨fs,kt,kl,kv⟩:=K3.tups (s:={ s with heap:=mid s.heap D vs })
    refine wpAny_bind (kat_kind kt (by omega) (fun v hv=>by obtain ⟨a,t,rfl⟩:=kv v hv;exact Looks.of_pure rfl) (T:=.type "int") (by decide) ?_)
    have ett:(Value.type "int" != Value.type "tuple")=true:=by decide
    rw [ett]
    have run:=kat_run (prog:=prog) (w:=w) (A:=A) (E:=E) (s:={ s with heap:=mid s.heap D vs }) (κ:=tuples' true) (ks:=vs) (vs:=vs)
      (Q:=fun st' s'=>s'={ s with heap:=mid s.heap D vs }∧∃ p:Array Nat,arrOf st'=p.map (kas_item (vs.toArray.zip vs.toArray))∧failedOf st'=none∧Arr vs.length p∧Srt κ p vs.length)
      (G:=fun p s'=>s'={ s with heap:=mid s.heap D vs }∧Arr vs.length p∧Srt κ p vs.length) rfl (by omega) (by omega) (fun p st' s' _ b c ⟨d,a1,a2⟩=>⟨d,p,b,c,a1,a2⟩)
      (uz (N:=vs.length) (Keys.cmp (s:={ s with heap:=mid s.heap D vs }) (prog:=prog) (w:=w) (A:=A) K3 hκ) hinj (by omega) (Q:=fun p s'=>s'={ s with heap:=mid s.heap D vs }∧Arr vs.length p∧Srt κ p vs.length) rfl fun p s' a b c=>⟨c,a,b⟩)
    refine wpAny_bind (wpAny_mono run ?_ fun _ _ x=>x)
    rintro ⟨⟨⟩,st'⟩ s5 ⟨rfl,p,har,hf,AR,SR⟩
    dsimp only
    have hout:=kat_snds rfl har
    refine wpAny_bind (seqEpoch_at h3 rfl ?_)
    refine wpAny_bind (listUpdate_at h3 rfl ?_ (Nat.zero_le _) (by show ((arrOf st').map (·.2)).size≤_;rw [hout,List.size_toArray,List.length_map,Array.length_toList,AR.size,sizeLine_eq];omega))
    rw [hf]
    simp only [Bool.false_eq_true,bne_self_eq_false,if_false]
    obtain ⟨p2,e1,_,e3⟩:=uO (xs:=vs.map fun _=>V.non) (κ:=κ) (p:=p) (by rw [List.length_map];exact AR) (by rw [List.length_map];exact SR)
    refine wpAny_pure (fin st' p.toList hout AR.perm ?_)
    rw [List.pairwise_iff_getElem]
    intro i j hi hj hij
    have hj':j<vs.length:=by rw [Array.length_toList,AR.size] at hj;exact hj
    have g1:=AR.get (show i<vs.length by omega)
    have g2:=AR.get hj'
    rw [List.getElem?_eq_getElem hi] at g1
    rw [List.getElem?_eq_getElem hj] at g2
    rw [Option.some.inj g1,Option.some.inj g2]
    exact SR i j hij hj'
theorem wC {l:Addr} {m:Nat} {vs:List Value} {key:Nat→List Int} {κ:Nat→Int} {Q:Value→Shared→Prop} (hl:s.heap.IsList l vs.toArray) (h64:vs.length<64) (KK:Keys s.heap vs key vs.length m)
    (hκ:∀ i j,i<vs.length→j<vs.length→HT.lexLt (key i) (key j)=decide (κ i<κ j)) (hinj:Inj vs.length κ)
    (q:∀ p:List Nat,p.Perm (List.range vs.length)→p.Pairwise (fun i j=>κ i<κ j)→Q (.ref (s.heap.objs.size + 1)) { s with heap:=sortedAll s.heap vs (p.map fun i=>vs.getD i Value.none).toArray }) :
    wpAny (model prog w) A (call (.builtin "sorted") [.ref l]) Q E s:=by
  refine Calls.call_function_entry kind_sorted plain_sorted entry_sorted (args_sorted1 _) ?_
  unfold Builtin.«sorted»
  refine wpAny_bind (m:=checkCount "sorted" 1 1 _) (wpAny_pure ?_)
  refine wpAny_bind (collect_list hl ?_ (by rw [sizeLine_eq];omega))
  refine wpAny_bind (wpAny_newList ?_ (by rw [sizeLine_eq];omega))
  have hz:((s.heap.push (seqObj "list" #[] 0)).update s.heap.objs.size (Obj.mapSeq (·++vs.toArray))).objs.size=s.heap.objs.size + 1:=by rw [Heap.size_update,size_push']
  have hL:(((s.heap.push (seqObj "list" #[] 0)).update s.heap.objs.size (Obj.mapSeq (·++vs.toArray))).push (seqObj "list" vs.toArray 0)).get? (s.heap.objs.size + 1)=some (seqObj "list" vs.toArray 0):=by rw [← hz];exact Heap.get?_push_size _ rfl
  have kp:∀ b o,s.heap.get? b=some o→(((s.heap.push (seqObj "list" #[] 0)).update s.heap.objs.size (Obj.mapSeq (·++vs.toArray))).push (seqObj "list" vs.toArray 0)).get? b=some o:=fun b o z=>by
    have hlt:b<s.heap.objs.size:=Heap.lt_size z
    exact Heap.get?_push_of_some _ ((Heap.get?_update_other _ _ (Ne.symm (Nat.ne_of_lt hlt))).trans (Heap.get?_push_of_some _ z))
  show wpAny _ _ _ _ _ { s with heap:=((s.heap.push (seqObj "list" #[] 0)).update s.heap.objs.size (Obj.mapSeq (·++vs.toArray))).push (seqObj "list" vs.toArray 0) }
  rw [hz]
  refine wpAny_bind (wpAny_holding (wpAny_call_entry slot_list_sort ⟨_,hL,rfl⟩ entry_list_sort (Bg h64 hL ⟨KK.size,fun i hi=>?_,KK.long⟩ hκ hinj fun p a b=>⟨_,rfl,?_⟩) (args_list_sort _)))
  · obtain ⟨t,its,e,⟨o,ho,hc,n,hd⟩,i1⟩:=KK.at_ i hi
    exact ⟨t,its,e,⟨o,kp _ _ ho,hc,n,hd⟩,i1⟩
  · exact wpAny_pure ⟨_,rfl,q p a b⟩
end
section
variable {X:Cx}
def dPr (z:Int × Int):PyData:=dTup [z.1,z.2]
theorem lex2 (a b c d:Int) (hb:0≤b∧b<64) (hd:0≤d∧d<64):HT.lexLt [a,b] [c,d]=decide (a * 64 + b<c * 64 + d):=by
  rw [HT.gZ]
  by_cases h:a=c
  · rw [if_pos h,HT.gZ]
    by_cases h':b=d
    · rw [if_pos h',show HT.lexLt [] []=false from rfl]
      exact (decide_eq_false (by omega)).symm
    · rw [if_neg h']
      exact decide_eq_decide.mpr (by omega)
  · rw [if_neg h]
    exact decide_eq_decide.mpr (by omega)
theorem cg.G3 {K:PySem.W.Frag} {H:Hp} {xs:List V} {ps:List (Int × Int)} {i:Nat} {x:V} (h:cg K H xs (ps.map dPr)) (hx:xs[i]?=some x):∃ a z,x=.ref a∧ps[i]?=some z∧SqT K H a [.int z.1,.int z.2]:=by
  obtain ⟨d,hd,hv⟩:=h.get' hx
  rw [List.getElem?_map] at hd
  cases hp:ps[i]? with
  | none=>rw [hp] at hd;cases hd
  | some z =>
    rw [hp] at hd
    have e:dPr z=d:=Option.some.inj hd
    subst e
    obtain ⟨a,rfl,hT⟩:=(show Den K H x (dTup [z.1,z.2]) from hv).Ah
    exact ⟨a,z,rfl,rfl,hT⟩
theorem Bx {α:Type} {ps:List α} {d:α} {q:List Nat} (h:q.Perm (List.range ps.length)):(q.map fun i=>ps.getD i d).Perm ps:=by
  have e:(List.range ps.length).map (fun i=>ps.getD i d)=ps:=by
    apply List.ext_getElem?
    intro j
    rw [List.getElem?_map]
    by_cases hj:j<ps.length
    · rw [List.getElem?_range hj]
      show some (ps.getD j d)=_
      rw [List.getD_eq_getElem?_getD,List.getElem?_eq_getElem hj];rfl
    · rw [List.getElem?_eq_none (l:=ps) (by omega),List.getElem?_eq_none (by rw [List.length_range];omega)];rfl
  have:=h.map fun i=>ps.getD i d
  rw [e] at this;exact this
theorem cg.pick {K:PySem.W.Frag} {H:Hp} {us:List V} {ps:List (Int × Int)} (h:cg K H us (ps.map dPr)):∀ (q:List Nat),(∀ i∈q,i<ps.length)→cg K H (q.map fun i=>us.getD i .non) ((q.map fun i=>ps.getD i (0,0)).map dPr)
  | [],_=>.nil
  | i :: q,hq=>by
    have hi:=hq i List.mem_cons_self
    obtain ⟨v,e1,e2⟩:=h.get (i:=i) (d:=dPr (ps.getD i (0,0))) (by rw [List.getElem?_map,List.getElem?_eq_getElem hi,List.getD_eq_getElem?_getD,List.getElem?_eq_getElem hi];rfl)
    refine .cons ?_ (cg.pick h q fun j hj=>hq j (List.mem_cons_of_mem _ hj))
    show Den K H (us.getD i .non) _
    rw [List.getD_eq_getElem?_getD,e1];exact e2
theorem vp:pJ X (.builtin "sorted") (fun xs H Q=>∃ (p:Addr) (us:List V) (ps:List (Int × Int)),xs=[.ref p]∧SqL X.K H p us∧cg X.K H us (ps.map dPr)∧ps.length<64∧(∀ z∈ps,0≤z.2∧z.2<64)∧(ps.map (·.2)).Nodup ∧
    ∀ (l:Addr) (q:List Nat),H l=none→q.Perm (List.range ps.length)→Q (.ref l) (upd H l (.lst (q.map fun i=>us.getD i .non)))):=by
  intro pins s σ H xs vs Q I r h
  obtain ⟨p,us,ps,rfl,hq,hd,hn,hr,hnd,q⟩:=h
  obtain ⟨u,rfl,ru⟩:=vals1 r
  cases ru
  obtain ⟨its,r1,p1,hz⟩:=I.list hq
  have hl:=r1.length
  have hul:us.length=ps.length:=by rw [hd.length,List.length_map]
  have hil:its.length=ps.length:=by omega
  have gz:∀ i,i<ps.length→ps[i]?=some (ps.getD i (0,0)):=fun i hi=>by rw [List.getD_eq_getElem?_getD,List.getElem?_eq_getElem hi];rfl
  have gb:∀ i,i<ps.length→0≤(ps.getD i (0,0)).2∧(ps.getD i (0,0)).2<64:=fun i hi=>hr _ (List.mem_of_getElem? (gz i hi))
  refine wC (m:=1) (key:=fun i=>[(ps.getD i (0,0)).1,(ps.getD i (0,0)).2]) (κ:=fun i=>(ps.getD i (0,0)).1 * 64 + (ps.getD i (0,0)).2) p1.isList (by omega) ⟨rfl,fun i hi=>?_,fun i hi=>rfl⟩ (fun i j hi hj=>lex2 _ _ _ _ (gb i (by omega)) (gb j (by omega))) (fun i j hi hj hij=>?_) fun pp a1 a2=>?_
  · have hi2:i<us.length:=by omega
    obtain ⟨a,z,e1,e2,hT⟩:=hd.G3 (List.getElem?_eq_getElem hi2)
    obtain ⟨u,eu,ru⟩:=r1.get (List.getElem?_eq_getElem hi2)
    rw [e1] at ru
    cases ru
    obtain ⟨its2,r2,hT2,_⟩:=I.tuple hT
    have ez:z=ps.getD i (0,0):=by have:=gz i (by omega);rw [e2] at this;exact Option.some.inj this
    subst ez
    exact ⟨a,its2,eu,hT2,intsAre_of (ns:=[(ps.getD i (0,0)).1,(ps.getD i (0,0)).2]) r2⟩
  · show (ps.getD i (0,0)).1 * 64 + (ps.getD i (0,0)).2≠(ps.getD j (0,0)).1 * 64 + (ps.getD j (0,0)).2
    have b1:=gb i (by omega)
    have b2:=gb j (by omega)
    have hne:(ps.getD i (0,0)).2≠(ps.getD j (0,0)).2:=fun e=>by
      have g1:(ps.map (·.2))[i]?=some (ps.getD i (0,0)).2:=by rw [List.getElem?_map,gz i (by omega)];rfl
      have g2:(ps.map (·.2))[j]?=some (ps.getD j (0,0)).2:=by rw [List.getElem?_map,gz j (by omega)];rfl
      rw [e,← g2] at g1
      exact hij ((List.getElem?_inj (by rw [List.length_map];omega) hnd).mp g1)
    omega
  · obtain ⟨e,he⟩:=sortedAll_at s.heap its (pp.map fun i=>its.getD i Value.none).toArray
    have hpl:pp.length=ps.length:=by rw [a1.length_eq,List.length_range];omega
    have a1':pp.Perm (List.range ps.length):=by rw [← hil];exact a1
    exact ⟨.ref (s.heap.objs.size + 1),_,I.laid (t':=s.toks) (fun b o e=>sortedAll_old e) (Nat.le_succ _) (show gH X.prog X.w _ _ _ (.lst (pp.map fun i=>us.getD i .non)) from ⟨by rw [List.length_map,sizeLine_eq];omega,_,e,pU r1 pp (fun i hi=>by have:=List.mem_range.mp (a1'.mem_iff.mp hi);omega),he⟩),rfl,q _ _ (I.hok.fresh (Nat.le_succ _)) a1'⟩
theorem CZ (xs:List V) (j:Nat):vZ xs none (some (j:Int))=xs.take j:=by
  unfold vZ
  rw [HT.qg,show HT.sIx xs.length 0 none=0 from rfl,List.drop_zero,Nat.sub_zero]
  by_cases h:j≤xs.length
  · rw [Nat.min_eq_left h]
  · rw [Nat.min_eq_right (by omega),List.take_of_length_le (Nat.le_refl _),List.take_of_length_le (by omega)]
theorem cg.j5 {K:PySem.W.Frag} {H:Hp} {xs:List V} {ps:List (Int × Int × Int)} {i:Nat} {x:V} (h:cg K H xs (ps.map dMv)) (hx:xs[i]?=some x):∃ a p,x=.ref a∧ps[i]?=some p∧SqT K H a [.int p.1,.int p.2.1,.int p.2.2]:=by
  obtain ⟨d,hd,hv⟩:=h.get' hx
  rw [List.getElem?_map] at hd
  cases hp:ps[i]? with
  | none=>rw [hp] at hd;cases hd
  | some z =>
    rw [hp] at hd
    have e:dMv z=d:=Option.some.inj hd
    subst e
    obtain ⟨a,rfl,hT⟩:=hv.G9
    exact ⟨a,z,rfl,rfl,hT⟩
theorem getD_some {α:Type} {xs:List α} {i:Nat} {x d:α} (h:xs[i]?=some x):xs.getD i d=x:=by rw [List.getD_eq_getElem?_getD,h];rfl
abbrev oLic (l:Lic):HO:=.tup (Aa l)
abbrev oInts (w:List Int):HO:=.lst (w.map V.int)
end
end L2
namespace L2
open PySem PySem.W PySem.Spec PyProof.Rows
section
variable {X:Cx}
end
end L2
namespace L2
open PySem PySem.W PySem.Spec PyProof.Rows
theorem pC {X:Cx} {K:PySem.W.Frag} (h:X.K=K):pJ X (.builtin "isinstance") (fun xs H Q=>∃ x t c b,xs=[x,.ty c]∧xG K H x t∧PySem.W.kitOne K t (.type c)=some b∧Q (.bl b) H):=h ▸ lO
end L2
namespace HT
open PySem PyProof.Rows
theorem El (A:Around) (s:Shared) (a:Int) (t:Tok) (c:Int) (u:Tok) (prog:Program) (w:World) (E:Value→Shared→Prop) (Q:Value→Shared→Prop) (h:Q (.bool (decide (c<a))) s):wpAny (model prog w) A (richCompare .Gt (.int a t) (.int c u)) Q E s :=
  (PyProof.Rows.gt_int h:wpAny (model prog w) A (compareOp .Gt (.int a t) (.int c u)) Q E s)
open PySem.SeqAt PySem.MeetsSeq PySem.MeetsSeq2 PySem.MeetsSeq3 in
theorem su (l b:Addr) (is js:Array Value) (n m:Nat) (d1 d2:Option Addr) (s1 s2:Array (Option Value)) (ns ms:List Int) (hi:IntsAre is.toList ns) (hj:IntsAre js.toList ms) :
    Meets (Builtin.«tuple.__gt__» ⟨[.ref l,.ref b],[]⟩) (fun _ R s=>s.heap.get? l=some { cls:=.type "tuple",dict:=d1,data:=.seq is n,slots:=s1 }∧s.heap.get? b=some { cls:=.type "tuple",dict:=d2,data:=.seq js m,slots:=s2 }∧R (.ok (.ret (.bool (lexLt ms ns)))) s) :=
  .of_wp fun prog w A R s h=>by
    obtain ⟨hp,g,d,tk,os⟩:=s
    obtain ⟨hl,hb,h⟩:=h
    have f2:=PySem.AutoSeq1.sub_tuple_tuple
    have z1:is.size=ns.length:=by rw [← hi.length,Array.length_toList]
    have z2:js.size=ms.length:=by rw [← hj.length,Array.length_toList]
    wp_walk using PySem.AutoSeq1.wpAny_loadPart' hl,PySem.AutoSeq1.wpAny_loadPart' hb,wpAny_forIn_list _ (fun rest b s'=>b.1=none∧s'=⟨hp,g,d,tk,os⟩∧∃ (vs ws:List Value) (ns' ms':List Int),rest=vs.zip ws∧IntsAre vs ns'∧IntsAre ws ms'∧ns'.length + js.size=ms'.length + is.size∧R (.ok (.ret (.bool (lexLt ms' ns')))) ⟨hp,g,d,tk,os⟩) _
    case turn =>
      rintro ⟨y,x⟩ rest b s' ⟨hb',rfl,vs,ws,ns',ms',hz,hv,hw,hlen,hR⟩
      cases hv with
      | nil=>cases (List.zip_nil_left ▸ hz)
      | cons a t hv' =>
        cases hw with
        | nil=>cases (List.zip_nil_right ▸ hz)
        | cons c u hw' =>
          rw [List.zip_cons_cons] at hz
          cases hz
          rw [gZ] at hR
          simp only [List.length_cons] at hlen
          obtain ⟨e,he,hiff⟩:=Gb A.in1 ⟨hp,g,d,tk,os⟩ a t c u
          refine wpAny_bind (he prog w _ _ ?_)
          cases e with
          | true =>
            rw [if_pos (hiff.mp rfl).symm] at hR
            wp_walk
            exact ⟨rfl,rfl,_,_,_,_,rfl,hv',hw',(by omega),hR⟩
          | false =>
            rw [if_neg (fun q=>absurd (hiff.mpr q.symm) Bool.false_ne_true)] at hR
            have hgi:=El A.in1 ⟨hp,g,d,tk,os⟩ a t c u prog w
            wp_walk using hgi
            exact ⟨_,rfl,by simpa using hR⟩
    case fin =>
      rintro ⟨b1,b2⟩ s' ⟨hb',rfl,vs,ws,ns',ms',hz,hv,hw,hlen,hR⟩
      simp only at hb'
      subst hb'
      have e:lexLt ms' ns'=decide (js.size<is.size):=by
        cases hv with
        | nil =>
          cases hw with
          | nil=>rw [lH,decide_eq_false (by simp only [List.length_nil] at hlen;omega)]
          | cons c u q=>rw [qY,decide_eq_false (by simp only [List.length_nil,List.length_cons] at hlen;omega)]
        | cons a t q =>
          cases hw with
          | nil=>rw [qX,decide_eq_true (by simp only [List.length_nil,List.length_cons] at hlen;omega)]
          | cons c u q'=>rw [List.zip_cons_cons] at hz;cases hz
      rw [e] at hR
      wp_walk
      exact ⟨_,rfl,by simpa [Builtin.Tuple.tupleCompareSizes] using hR⟩
    case h=>exact ⟨rfl,rfl,is.toList,js.toList,ns,ms,rfl,hi,hj,(by omega),h⟩
open PySem.SeqAt PySem.MeetsSeq PySem.MeetsSeq2 PySem.MeetsSeq3 in
theorem zL {prog:Program} {w:World} {A:Around} {E:Value→Shared→Prop} {s:Shared} {l b:Addr} {is js:Array Value} {ns ms:List Int} {Q:Value→Shared→Prop} (hl:IsTup s.heap l is) (hb:IsTup s.heap b js) (hi:IntsAre is.toList ns) (hj:IntsAre js.toList ms) (hu:A.units<cLine) (h:Q (.bool (lexLt ms ns)) s):wpAny (model prog w) A (compareOp .Gt (.ref l) (.ref b)) Q E s:=by
  obtain ⟨⟨c1,d1,p1,s1⟩,o1,e1,n,f1⟩:=id hl
  obtain ⟨⟨c2,d2,p2,s2⟩,o2,e2,m,f2⟩:=id hb
  dsimp only at e1 f1 e2 f2
  subst e1 f1 e2 f2
  exact richCompare_meets_room (op:=.Gt) ⟨_,o1,rfl⟩ ⟨_,o2,rfl⟩ PySem.F.slot_tuple_gt PySem.F.entry_tuple_gt (PySem.F.args_tuple_gt_2 _ _) (su l b is js n m d1 d2 s1 s2 ns ms hi hj) ⟨o1,o2,(show Value.bool (lexLt ms ns)≠Value.notImplemented∧Q (.bool (lexLt ms ns)) s from ⟨(fun x=>nomatch x),h⟩)⟩ hu
end HT
namespace L2
open PySem PySem.W PySem.Spec PyProof.Rows
def Yy (K:PySem.W.Frag):R2:=fun x y H Q=>∃ a b ns ms,x=.ref a∧y=.ref b∧SqT K H a (ns.map V.int)∧SqT K H b (ms.map V.int)∧Q (.bl (HT.lexLt ms ns)) H
theorem Qu {X:Cx} (hu:X.A.units<cLine):OpR X (compareOp .Gt) (Yy X.K):=by
  intro pins s σ H x y v u Q I rx ry h
  obtain ⟨a,b,ns,ms,rfl,rfl,ha,hb,q⟩:=h
  cases rx;cases ry
  obtain ⟨is,r1,p1,-⟩:=I.tuple ha
  obtain ⟨js,r2,p2,-⟩:=I.tuple hb
  exact HT.zL p1 p2 (intsAre_of r1:IntsAre is.toArray.toList ns) (intsAre_of r2:IntsAre js.toArray.toList ms) hu ⟨.bl (HT.lexLt ms ns),H,I,rfl,q⟩
theorem NQ {X:Cx} {K:PySem.W.Frag} (h:X.K=K) (hu:X.A.units<cLine):OpR X (compareOp .Gt) (Yy K):=h ▸ Qu hu
end L2
namespace Rv
def dU (r:List Int):Prop:=∃ rk:Nat→Nat,(∀ i,i<r.length→rk i<r.length) ∧
  ∀ (i:Nat) (x:Int),r[i]?=some x→x=-1∨(0≤x∧x<r.length∧rk x.toNat<rk i)
def nxt (r:List Int) (p:Int):Int:=r.getD p.toNat (-1)
theorem j9 {r:List Int} {p:Int} (h0:0≤p) (h1:p<r.length):r[p.toNat]?=some (nxt r p):=by
  have h:p.toNat<r.length:=by omega
  unfold nxt
  rw [List.getD_eq_getElem?_getD,List.getElem?_eq_getElem h];rfl
theorem dU.step {r:List Int} (h:dU r) {p:Int} (h0:0≤p) (h1:p<r.length):nxt r p=-1∨(0≤nxt r p∧nxt r p<r.length):=by
  obtain ⟨rk,_,h3⟩:=h
  rcases h3 _ _ (j9 h0 h1) with e | ⟨a,b,_⟩
  · exact .inl e
  · exact .inr ⟨a,b⟩
def pR (r:List Int):Nat→Int→List Int
  | 0,_=>[]
  | f + 1,p=>if p=-1 then [] else p :: pR r f (nxt r p)
def walk (r:List Int) (p:Int):List Int:=pR r (r.length + 1) p
theorem nQ (r:List Int) (f:Nat):pR r f (-1)=[]:=by
  cases f with
  | zero=>rfl
  | succ f=>unfold pR;rw [if_pos rfl]
theorem jD (r:List Int):walk r (-1)=[]:=nQ r _
theorem o7 {r:List Int} {rk:Nat→Nat} (h:∀ (i:Nat) (x:Int),r[i]?=some x→x=-1∨(0≤x∧x<r.length∧rk x.toNat<rk i)) :
    ∀ (f g:Nat) (p:Int),0≤p→p<r.length→rk p.toNat<f→rk p.toNat<g→pR r f p=pR r g p
  | 0,_,_,_,_,hf,_=>by omega
  | _ + 1,0,_,_,_,_,hg=>by omega
  | f + 1,g + 1,p,h0,h1,hf,hg=>by
    unfold pR
    rw [if_neg (by omega),if_neg (by omega)]
    rcases h _ _ (j9 h0 h1) with e | ⟨a,b,c⟩
    · rw [e,nQ,nQ]
    · rw [o7 h f g _ a b (by omega) (by omega)]
theorem dY {r:List Int} (h:dU r) {p:Int} (h0:0≤p) (h1:p<r.length):walk r p=p :: walk r (nxt r p):=by
  obtain ⟨rk,h2,h3⟩:=h
  show pR r (r.length + 1) p=_
  unfold pR
  rw [if_neg (by omega)]
  rcases h3 _ _ (j9 h0 h1) with e | ⟨a,b,c⟩
  · rw [e,nQ,jD]
  · have:=h2 p.toNat (by omega)
    unfold walk
    rw [o7 h3 r.length (r.length + 1) _ a b (by omega) (by omega)]
theorem ur (r:List Int):∀ (f:Nat) (p:Int),(pR r f p).length≤f
  | 0,_=>Nat.le_refl _
  | f + 1,p=>by
    unfold pR
    split
    · exact Nat.zero_le _
    · exact Nat.succ_le_succ (ur r f _)
theorem pK (r:List Int) (p:Int):(walk r p).length≤r.length + 1:=ur r _ _
theorem dU.ind {r:List Int} (h:dU r) {P:Int→Prop} (hm:P (-1)) (hs:∀ p:Int,0≤p→p<r.length→P (nxt r p)→P p):∀ p:Int,0≤p→p<r.length→P p:=by
  obtain ⟨rk,_,h3⟩:=h
  have key:∀ (n:Nat) (p:Int),0≤p→p<r.length→rk p.toNat<n→P p:=by
    intro n
    induction n with
    | zero=>intro p _ _ h;omega
    | succ n ih =>
      intro p h0 h1 h2
      refine hs p h0 h1 ?_
      rcases h3 _ _ (j9 h0 h1) with e | ⟨a,b,c⟩
      · rw [e];exact hm
      · exact ih _ a b (by omega)
  exact fun p h0 h1=>key _ p h0 h1 (Nat.lt_succ_self _)
theorem mV {r:List Int} (h:dU r):∀ p:Int,0≤p→p<r.length→∀ q∈walk r p,0≤q∧q<r.length:=by
  refine h.ind (P:=fun p=>∀ q∈walk r p,0≤q∧q<r.length) ?_ ?_
  · intro q hq;rw [jD] at hq;cases hq
  · intro p h0 h1 ih q hq
    rw [dY h h0 h1] at hq
    rcases List.mem_cons.mp hq with e | e
    · rw [e];exact ⟨h0,h1⟩
    · exact ih q e
noncomputable def mea (r:List Int) (p:Int):Nat:=(walk r p).length
theorem Hf {r:List Int} (h:dU r) {p:Int} (h0:0≤p) (h1:p<r.length):mea r (nxt r p)<mea r p:=by
  unfold mea;rw [dY h h0 h1];exact Nat.lt_succ_self _
theorem zc {r:List Int} (h:dU r):∃ rk:Nat→Nat,∀ p:Int,0≤p→p<r.length→(walk r p).Nodup∧∀ q∈walk r p,rk q.toNat≤rk p.toNat:=by
  obtain ⟨rk,h2,h3⟩:=id h
  refine ⟨rk,?_⟩
  have key:=h.ind (P:=fun p=>(walk r p).Nodup∧(0≤p→∀ q∈walk r p,rk q.toNat≤rk p.toNat)) ?_ ?_
  · exact fun p h0 h1=>⟨(key p h0 h1).1,(key p h0 h1).2 h0⟩
  · rw [jD];exact ⟨List.nodup_nil,fun h=>by omega⟩
  · intro p h0 h1 ⟨nd,ih⟩
    rw [dY h h0 h1]
    rcases h3 _ _ (j9 h0 h1) with e | ⟨a,b,c⟩
    · rw [e,jD]
      refine ⟨by simp,fun _ q hq=>?_⟩
      have:q=p:=by simpa using hq
      rw [this];exact Nat.le_refl _
    · have ih':=ih a
      refine ⟨List.nodup_cons.mpr ⟨fun hm=>?_,nd⟩,fun _ q hq=>?_⟩
      · have:=ih' p hm
        omega
      · rcases List.mem_cons.mp hq with e | e
        · rw [e];exact Nat.le_refl _
        · have:=ih' q e;omega
theorem rW {r:List Int} (h:dU r) {p:Int} (h0:0≤p) (h1:p<r.length):(walk r p).Nodup:=by
  obtain ⟨rk,k⟩:=zc h
  exact (k p h0 h1).1
end Rv
namespace Rv
def tot:Nat→(Nat→Int)→Int
  | 0,_=>0
  | n + 1,f=>tot n f + f n
theorem dD {n:Nat} {f g:Nat→Int} (h:∀ i,i<n→f i=g i):tot n f=tot n g:=by
  induction n with
  | zero=>rfl
  | succ n ih=>unfold tot;rw [ih fun i hi=>h i (by omega),h n (by omega)]
theorem lD (n:Nat) (f g:Nat→Int):tot n (fun i=>f i + g i)=tot n f + tot n g:=by
  induction n with
  | zero=>rfl
  | succ n ih=>unfold tot;rw [ih];dsimp only;omega
theorem pW (n:Nat) (f g:Nat→Int):tot n (fun i=>f i - g i)=tot n f - tot n g:=by
  induction n with
  | zero=>rfl
  | succ n ih=>unfold tot;rw [ih];dsimp only;omega
theorem iQ {n:Nat} {f:Nat→Int} (h:∀ i,i<n→f i=0):tot n f=0:=by
  induction n with
  | zero=>rfl
  | succ n ih=>unfold tot;rw [ih fun i hi=>h i (by omega),h n (by omega)];rfl
theorem xX (n m:Nat) (f:Nat→Nat→Int):tot n (fun i=>tot m (fun j=>f i j))=tot m (fun j=>tot n (fun i=>f i j)):=by
  induction n with
  | zero=>exact (iQ fun _ _=>rfl).symm
  | succ n ih=>show tot n _ + tot m _=_;rw [ih,← lD];rfl
theorem oR {n k:Nat} (f:Nat→Int) (hk:k<n):tot n (fun i=>if i=k then f i else 0)=f k:=by
  induction n with
  | zero=>omega
  | succ n ih =>
    unfold tot
    dsimp only
    by_cases h:k=n
    · subst h
      rw [if_pos rfl,iQ fun i hi=>if_neg (by omega)];omega
    · rw [ih (by omega),if_neg (fun (z:n=k)=>h z.symm)];omega
theorem Ai (n:Nat) (c:Int) (f:Nat→Int):tot n (fun i=>c * f i)=c * tot n f:=by
  induction n with
  | zero=>simp [tot]
  | succ n ih=>unfold tot;rw [ih,Int.mul_add]
theorem Nq (n:Nat) (f:Nat→Int) (p:Prop) [Decidable p]:tot n (fun i=>if p then f i else 0)=if p then tot n f else 0:=by
  by_cases h:p
  · rw [if_pos h];exact dD fun i _=>if_pos h
  · rw [if_neg h];exact iQ fun i _=>if_neg h
def lsum:List Nat→(Nat→Int)→Int
  | [],_=>0
  | k :: l,f=>f k + lsum l f
theorem m5 (f:Nat→Int):∀ (l m:List Nat),lsum (l++m) f=lsum l f + lsum m f
  | [],m=>by show _=0 + _;rw [Int.zero_add];rfl
  | k :: l,m=>by show f k + lsum (l++m) f=f k + lsum l f + lsum m f;rw [m5 f l m];omega
theorem vf {f:Nat→Int} {l m:List Nat} (h:l.Perm m):lsum l f=lsum m f:=by
  induction h with
  | nil=>rfl
  | cons k _ ih=>show f k + _=f k + _;rw [ih]
  | swap a b l=>show f b + (f a + _)=f a + (f b + _);omega
  | trans _ _ h1 h2=>exact h1.trans h2
theorem oX (f:Nat→Int):∀ n,lsum (List.range n) f=tot n f
  | 0=>rfl
  | n + 1=>by rw [List.range_succ,m5,oX f n];show _ + (f n + 0)=_ + f n;omega
theorem vd {f:Nat→Int}:∀ {l:List Nat},(∀ k∈l,f k=0)→lsum l f=0
  | [],_=>rfl
  | k :: l,h=>by show f k + lsum l f=0;rw [h k List.mem_cons_self,vd fun j hj=>h j (List.mem_cons_of_mem _ hj)];rfl
def one (p:Prop) [Decidable p]:Int:=if p then 1 else 0
def kO (r s:List Int) (i:Int):Int:=tot r.length fun j=>if i∈walk r (j:Int) then s.getD j 0 else 0
theorem met {r:List Int} (h:dU r) {i:Int} (hi:0≤i):∀ p:Int,0≤p→p<r.length→one (i∈walk r p)=one (p=i) + tot r.length fun k=>if nxt r (k:Int)=i then one ((k:Int)∈walk r p) else 0:=by
  have key:=h.ind (P:=fun p=>(p=-1∨(0≤p∧p<r.length))→one (i∈walk r p)=one (p=i) + tot r.length fun k=>if nxt r (k:Int)=i then one ((k:Int)∈walk r p) else 0) ?_ ?_
  · exact fun p h0 h1=>key p h0 h1 (.inr ⟨h0,h1⟩)
  · intro _
    rw [jD,iQ fun k _=>?_]
    · unfold one;rw [if_neg (by simp),if_neg (by omega)];rfl
    · unfold one;rw [if_neg (show ¬ (k:Int)∈([]:List Int) by simp)];split <;> rfl
  · intro p h0 h1 ih _
    have ih':=ih (h.step h0 h1)
    have nd:=rW h h0 h1
    rw [dY h h0 h1] at nd ⊢
    obtain ⟨np,_⟩:=List.nodup_cons.mp nd
    have e1:one (i∈p :: walk r (nxt r p))=one (p=i) + one (i∈walk r (nxt r p)):=by
      unfold one
      by_cases hpi:p=i
      · subst hpi
        rw [if_pos List.mem_cons_self,if_pos rfl,if_neg np];rfl
      · rw [if_neg hpi]
        by_cases hm:i∈walk r (nxt r p)
        · rw [if_pos (List.mem_cons_of_mem _ hm),if_pos hm];rfl
        · rw [if_neg hm,if_neg fun z=>?_];· rfl
          rcases List.mem_cons.mp z with z | z
          · exact hpi z.symm
          · exact hm z
    have e2:(tot r.length fun k=>if nxt r (k:Int)=i then one ((k:Int)∈p :: walk r (nxt r p)) else 0) =
        one (nxt r p=i) + tot r.length fun k=>if nxt r (k:Int)=i then one ((k:Int)∈walk r (nxt r p)) else 0:=by
      have:(tot r.length fun k=>if nxt r (k:Int)=i then one ((k:Int)∈p :: walk r (nxt r p)) else 0) =
          tot r.length fun k=>(if k=p.toNat then (fun k=>if nxt r (k:Int)=i then (1:Int) else 0) k else 0) + if nxt r (k:Int)=i then one ((k:Int)∈walk r (nxt r p)) else 0:=by
        refine dD fun k hk=>?_
        by_cases hn:nxt r (k:Int)=i
        · simp only [if_pos hn]
          by_cases hkp:k=p.toNat
          · have hkp':(k:Int)=p:=by omega
            rw [if_pos hkp,hkp']
            unfold one
            rw [if_pos List.mem_cons_self,if_neg np];rfl
          · have hkp':¬ (k:Int)=p:=by omega
            rw [if_neg hkp]
            unfold one
            by_cases hm:(k:Int)∈walk r (nxt r p)
            · rw [if_pos (List.mem_cons_of_mem _ hm),if_pos hm];rfl
            · rw [if_neg hm,if_neg fun z=>?_];· rfl
              rcases List.mem_cons.mp z with z | z
              · exact hkp' z
              · exact hm z
        · simp only [if_neg hn];split <;> rfl
      rw [this,lD,oR _ (by omega)]
      have e:((p.toNat:Nat):Int)=p:=by omega
      show (if nxt r ((p.toNat:Nat):Int)=i then (1:Int) else 0) + _=_
      rw [e];rfl
    rw [e1,e2,ih']
theorem tD {r:List Int} (h:dU r) (s:List Int) {i:Nat} (hi:i<r.length):kO r s (i:Int)=s.getD i 0 + tot r.length fun k=>if nxt r (k:Int)=(i:Int) then kO r s (k:Int) else 0:=by
  have e:kO r s (i:Int)=tot r.length fun j=>(if j=i then s.getD j 0 else 0) + tot r.length fun k=>if nxt r (k:Int)=(i:Int) then (if (k:Int)∈walk r (j:Int) then s.getD j 0 else 0) else 0:=by
    refine dD fun j hj=>?_
    have m:=met h (i:=(i:Int)) (by omega) (j:Int) (by omega) (by omega)
    have e1:(if (i:Int)∈walk r (j:Int) then s.getD j 0 else 0)=s.getD j 0 * one ((i:Int)∈walk r (j:Int)):=by unfold one;split <;> simp
    rw [e1,m,Int.mul_add,← Ai]
    congr 1
    · unfold one
      by_cases hji:j=i
      · rw [if_pos (by omega),if_pos hji];simp
      · rw [if_neg (by omega),if_neg hji];simp
    · refine dD fun k hk=>?_
      split
      · unfold one;split <;> simp
      · simp
  rw [e,lD,oR (fun j=>s.getD j 0) hi,xX]
  congr 1
  refine dD fun k hk=>?_
  rw [Nq]
  rfl
def bQ (r:List Int) (a b:Int):List Int:=if b=-1 then walk r a else (walk r a).takeWhile (fun x=>!decide (x=b))
def Stop (r:List Int) (a b:Int):Prop:=b=-1∨b∈walk r a
theorem nR {r:List Int} {a b x:Int} (h:x∈bQ r a b):x∈walk r a:=by
  unfold bQ at h
  split at h
  · exact h
  · exact (List.takeWhile_prefix _).subset h
theorem rC {r:List Int} (h:dU r) {a:Int} (h0:0≤a) (h1:a<r.length):bQ r a a=[]:=by
  unfold bQ
  rw [if_neg (by omega),dY h h0 h1,List.takeWhile_cons]
  simp
theorem rD {r:List Int} (h:dU r) {a b:Int} (h0:0≤a) (h1:a<r.length) (hb:b≠a):bQ r a b=a :: bQ r (nxt r a) b:=by
  unfold bQ
  split
  · exact dY h h0 h1
  · rw [dY h h0 h1,List.takeWhile_cons]
    have:¬ a=b:=fun z=>hb z.symm
    simp [this]
theorem uG (r:List Int) (b:Int):bQ r (-1) b=[]:=by
  unfold bQ;rw [jD];split <;> rfl
theorem Stop.next {r:List Int} (h:dU r) {a b:Int} (h0:0≤a) (h1:a<r.length) (hb:b≠a) (s:Stop r a b):Stop r (nxt r a) b:=by
  rcases s with s | s
  · exact .inl s
  · rw [dY h h0 h1] at s
    rcases List.mem_cons.mp s with z | z
    · exact absurd z hb
    · exact .inr z
theorem pN {r:List Int} (h:dU r) {a b:Int} (h0:0≤a) (h1:a<r.length):(bQ r a b).Nodup:=by
  unfold bQ
  split
  · exact rW h h0 h1
  · exact (rW h h0 h1).sublist (List.takeWhile_sublist _)
theorem metS {r:List Int} (h:dU r) {i:Int} (hi:0≤i) (b:Int):∀ p:Int,0≤p→p<r.length→Stop r p b →
    one (i∈bQ r p b)=(tot r.length fun k=>if nxt r (k:Int)=i then one ((k:Int)∈bQ r p b) else 0) + one (p=i) - one (b=i):=by
  have key:=h.ind (P:=fun p=>(p=-1∨(0≤p∧p<r.length))→Stop r p b→one (i∈bQ r p b)=(tot r.length fun k=>if nxt r (k:Int)=i then one ((k:Int)∈bQ r p b) else 0) + one (p=i) - one (b=i)) ?_ ?_
  · exact fun p h0 h1=>key p h0 h1 (.inr ⟨h0,h1⟩)
  · intro _ st
    have hb:b=-1:=by
      rcases st with z | z
      · exact z
      · rw [jD] at z;cases z
    subst hb
    rw [uG,iQ fun k _=>?_]
    · unfold one;rw [if_neg (by simp),if_neg (by omega)];rfl
    · unfold one;rw [if_neg (show ¬ (k:Int)∈([]:List Int) by simp)];split <;> rfl
  · intro p h0 h1 ih _ st
    by_cases hb:b=p
    · subst hb
      rw [rC h h0 h1,iQ fun k _=>?_]
      · unfold one;rw [if_neg (by simp)];omega
      · unfold one;rw [if_neg (show ¬ (k:Int)∈([]:List Int) by simp)];split <;> rfl
    have ih':=ih (h.step h0 h1) (st.next h h0 h1 hb)
    have nd:=pN h h0 h1 (b:=b)
    rw [rD h h0 h1 hb] at nd ⊢
    obtain ⟨np,_⟩:=List.nodup_cons.mp nd
    have e1:one (i∈p :: bQ r (nxt r p) b)=one (p=i) + one (i∈bQ r (nxt r p) b):=by
      unfold one
      by_cases hpi:p=i
      · subst hpi
        rw [if_pos List.mem_cons_self,if_pos rfl,if_neg np];rfl
      · rw [if_neg hpi]
        by_cases hm:i∈bQ r (nxt r p) b
        · rw [if_pos (List.mem_cons_of_mem _ hm),if_pos hm];rfl
        · rw [if_neg hm,if_neg fun z=>?_];· rfl
          rcases List.mem_cons.mp z with z | z
          · exact hpi z.symm
          · exact hm z
    have e2:(tot r.length fun k=>if nxt r (k:Int)=i then one ((k:Int)∈p :: bQ r (nxt r p) b) else 0) =
        one (nxt r p=i) + tot r.length fun k=>if nxt r (k:Int)=i then one ((k:Int)∈bQ r (nxt r p) b) else 0:=by
      have:(tot r.length fun k=>if nxt r (k:Int)=i then one ((k:Int)∈p :: bQ r (nxt r p) b) else 0) =
          tot r.length fun k=>(if k=p.toNat then (fun k=>if nxt r (k:Int)=i then (1:Int) else 0) k else 0) + if nxt r (k:Int)=i then one ((k:Int)∈bQ r (nxt r p) b) else 0:=by
        refine dD fun k hk=>?_
        by_cases hn:nxt r (k:Int)=i
        · simp only [if_pos hn]
          by_cases hkp:k=p.toNat
          · have hkp':(k:Int)=p:=by omega
            rw [if_pos hkp,hkp']
            unfold one
            rw [if_pos List.mem_cons_self,if_neg np];rfl
          · have hkp':¬ (k:Int)=p:=by omega
            rw [if_neg hkp]
            unfold one
            by_cases hm:(k:Int)∈bQ r (nxt r p) b
            · rw [if_pos (List.mem_cons_of_mem _ hm),if_pos hm];rfl
            · rw [if_neg hm,if_neg fun z=>?_];· rfl
              rcases List.mem_cons.mp z with z | z
              · exact hkp' z
              · exact hm z
        · simp only [if_neg hn];split <;> rfl
      rw [this,lD,oR _ (by omega)]
      have e:((p.toNat:Nat):Int)=p:=by omega
      show (if nxt r ((p.toNat:Nat):Int)=i then (1:Int) else 0) + _=_
      rw [e];rfl
    rw [e1,e2,ih']
    omega
end Rv
namespace Rv
structure Fl (n:Nat) (fl:List Int) (g:Nat→Int):Prop where
  len:fl.length=n
  at_:∀ i,i<n→fl[i]?=some (g i)
theorem Fl.of (fl:List Int):Fl fl.length fl (fun i=>fl.getD i 0):=⟨rfl,fun i hi=>by rw [List.getElem?_eq_getElem hi,List.getD_eq_getElem?_getD,List.getElem?_eq_getElem hi];rfl⟩
theorem Fl.qU {n:Nat} {fl:List Int} {g g':Nat→Int} (h:Fl n fl g) (e:∀ i,i<n→g i=g' i):Fl n fl g':=⟨h.len,fun i hi=>by rw [h.at_ i hi,e i hi]⟩
theorem Fl.set {n:Nat} {fl:List Int} {g g':Nat→Int} {j:Nat} {y:Int} (h:Fl n fl g) (hj:j<n) (e:∀ i,i<n→i≠j→g' i=g i) (ey:y=g' j):Fl n (fl.set j y) g' :=
  ⟨by rw [List.length_set];exact h.len,fun i hi=>by
    by_cases hij:i=j
    · subst hij;rw [List.getElem?_set_self (by rw [h.len];exact hj),ey]
    · rw [List.getElem?_set_ne (Ne.symm hij),h.at_ i hi,e i hi hij]⟩
theorem Fl.ext {n:Nat} {fl fl':List Int} {g:Nat→Int} (h:Fl n fl g) (h':Fl n fl' g):fl=fl':=by
  apply List.ext_getElem?
  intro i
  by_cases hi:i<n
  · rw [h.at_ i hi,h'.at_ i hi]
  · rw [List.getElem?_eq_none (by rw [h.len];omega),List.getElem?_eq_none (by rw [h'.len];omega)]
theorem Fl.getD {n:Nat} {fl:List Int} {g:Nat→Int} (h:Fl n fl g) {i:Nat} (hi:i<n):fl.getD i 0=g i:=by
  rw [List.getD_eq_getElem?_getD,h.at_ i hi];rfl
theorem Fl.map (n:Nat) (g:Nat→Int):Fl n ((List.range n).map g) g:=⟨by simp,fun i hi=>by rw [List.getElem?_map,List.getElem?_range hi];rfl⟩
theorem Fl.rep (n:Nat) (x:Int):Fl n (List.replicate n x) fun _=>x:=⟨by simp,fun i hi=>by rw [List.getElem?_replicate,if_pos hi]⟩
def kap (r:List Int) (i:Nat):Int:=(i:Int) - 64 * ((walk r (i:Int)).length:Int)
structure DR (r:List Int) (p:List Nat):Prop where
  perm:p.Perm (List.range r.length)
  ord:p.Pairwise fun i j=>kap r i<kap r j
theorem DR.len {r:List Int} {p:List Nat} (h:DR r p):p.length=r.length:=by rw [h.perm.length_eq,List.length_range]
theorem DR.lt {r:List Int} {p:List Nat} (h:DR r p) {j:Nat} (hj:j∈p):j<r.length:=List.mem_range.mp (h.perm.mem_iff.mp hj)
theorem DR.first {r:List Int} {p p1 p2:List Nat} {j k:Nat} (h:DR r p) (hR:dU r) (h64:r.length<64) (e:p=p1++j :: p2) (hk:k<r.length) (hn:nxt r (k:Int)=(j:Int)):k∈p1:=by
  have hjm:j∈p:=by rw [e];simp
  have hj:=h.lt hjm
  have hkm:k∈p:=h.perm.mem_iff.mpr (List.mem_range.mpr hk)
  have hw:(walk r (k:Int)).length=(walk r (j:Int)).length + 1:=by rw [dY hR (p:=(k:Int)) (by omega) (by omega),hn,List.length_cons]
  have hlt:kap r k<kap r j:=by unfold kap;omega
  rw [e] at hkm
  rcases List.mem_append.mp hkm with z | z
  · exact z
  · have ord:=h.ord
    rw [e,List.pairwise_append] at ord
    rcases List.mem_cons.mp z with z | z
    · subst z;omega
    · have:=(List.pairwise_cons.mp ord.2.1).1 k z
      omega
def nats (r s:List Int):List Int:=(List.range r.length).map fun (i:Nat)=>kO r s (i:Int)
theorem qw (r s:List Int):Fl r.length (nats r s) fun i=>kO r s (i:Int):=Fl.map _ _
def yZ (r s:List Int) (p:List Nat) (t:Nat) (fl:List Int):Prop:=Fl r.length fl fun i=>s.getD i 0 + lsum (p.take t) fun k=>if nxt r (k:Int)=(i:Int) then kO r s (k:Int) else 0
theorem yZ.start (r s:List Int) (p:List Nat) (hs:s.length=r.length):yZ r s p 0 s:=by
  have:=Fl.of s
  rw [hs] at this
  exact this.qU fun i _=>by rw [List.take_zero];show _=_ + 0;omega
theorem take_cons {p:List Nat} {t j:Nat} (h:p[t]?=some j):p.take (t + 1)=p.take t++[j]:=by rw [List.take_add_one,h];rfl
theorem yZ.here {r s:List Int} {p:List Nat} {t j:Nat} {fl:List Int} (T:DR r p) (hR:dU r) (h64:r.length<64) (h:yZ r s p t fl) (hj:p[t]?=some j):fl[j]?=some (kO r s (j:Int)):=by
  have hjl:=T.lt (List.mem_of_getElem? hj)
  rw [h.at_ j hjl,tD hR s hjl]
  congr 2
  rw [← oX,← vf T.perm]
  obtain ⟨ht,et⟩:=List.getElem?_eq_some_iff.mp hj
  have e:p=p.take t++j :: p.drop (t + 1):=by
    rw [← et,List.getElem_cons_drop,List.take_append_drop]
  conv=>rhs;rw [e]
  rw [m5]
  have z:lsum (j :: p.drop (t + 1)) (fun k=>if nxt r (k:Int)=(j:Int) then kO r s (k:Int) else 0)=0:=by
    refine vd fun k hk=>if_neg fun hn=>?_
    have hkp:k∈p:=by rw [e];exact List.mem_append_right _ hk
    have h1:=T.first hR h64 e (T.lt hkp) hn
    have nd:p.Nodup:=T.perm.nodup_iff.mpr List.nodup_range
    rw [e,List.nodup_append] at nd
    exact nd.2.2 k h1 k hk rfl
  rw [z];omega
theorem yZ.Oh {r s:List Int} {p:List Nat} {t j:Nat} {fl:List Int} (h:yZ r s p t fl) (hj:p[t]?=some j) (hm:nxt r (j:Int)=-1):yZ r s p (t + 1) fl :=
  Fl.qU h fun i _=>by
    rw [take_cons hj,m5]
    show _=_ + (_ + ((if nxt r (j:Int)=(i:Int) then kO r s (j:Int) else 0) + 0))
    rw [if_neg (by omega)];omega
theorem yZ.turn {r s:List Int} {p:List Nat} {t j b:Nat} {fl:List Int} (T:DR r p) (hR:dU r) (h64:r.length<64) (h:yZ r s p t fl) (hj:p[t]?=some j) (hb:nxt r (j:Int)=(b:Int)) (hbl:b<r.length) {x:Int} (hx:fl[b]?=some x) :
    yZ r s p (t + 1) (fl.set b (x + kO r s (j:Int))):=by
  refine Fl.set h hbl (fun i _ hib=>?_) ?_
  · rw [take_cons hj,m5]
    show _ + (_ + ((if nxt r (j:Int)=(i:Int) then kO r s (j:Int) else 0) + 0))=_
    rw [if_neg (by omega)];omega
  · rw [h.at_ b hbl] at hx
    rw [← Option.some.inj hx,take_cons hj,m5]
    show _=_ + (_ + ((if nxt r (j:Int)=(b:Int) then kO r s (j:Int) else 0) + 0))
    rw [if_pos hb];omega
theorem yZ.done {r s:List Int} {p:List Nat} {fl:List Int} (T:DR r p) (hR:dU r) (h:yZ r s p r.length fl):fl=nats r s:=by
  refine Fl.ext (g:=fun i=>kO r s (i:Int)) (Fl.qU h fun i hi=>?_) (qw r s)
  rw [← T.len,List.take_length,tD hR s hi,← oX,vf T.perm]
abbrev Mv:=Int × Int × Int
def lU (r:List Int) (ms:List Mv) (i:Int):Int:=(ms.map fun m=>if i∈bQ r m.1 m.2.1 then m.2.2 else 0).sum
theorem BZ (r:List Int) (ms:List Mv) (m:Mv) (i:Int):lU r (ms++[m]) i=lU r ms i + if i∈bQ r m.1 m.2.1 then m.2.2 else 0:=by
  unfold lU;rw [List.map_append,List.sum_append];simp
def vY (r s:List Int) (ms:List Mv):List Int:=(List.range r.length).map fun (i:Nat)=>kO r s (i:Int) - lU r ms (i:Int)
theorem qH (r s:List Int) (ms:List Mv):Fl r.length (vY r s ms) fun i=>kO r s (i:Int) - lU r ms (i:Int):=Fl.map _ _
def MvI (r:List Int) (g:Nat→Int) (am:Int) (pre:List Int) (fl:List Int):Prop:=Fl r.length fl fun i=>g i - if (i:Int)∈pre then am else 0
theorem MvI.start {r:List Int} {g:Nat→Int} {fl:List Int} (am:Int) (h:Fl r.length fl g):MvI r g am [] fl:=Fl.qU h fun i _=>by rw [if_neg (by simp)];omega
theorem MvI.turn {r:List Int} {g:Nat→Int} {am:Int} {pre:List Int} {fl:List Int} (h:MvI r g am pre fl) {j:Nat} (hj:j<r.length) (hn:¬ (j:Int)∈pre) {x:Int} (hx:fl[j]?=some x):MvI r g am (pre++[(j:Int)]) (fl.set j (x - am)):=by
  refine Fl.set h hj (fun i _ hij=>?_) ?_
  · have:((i:Int)∈pre++[(j:Int)])=((i:Int)∈pre):=by
      apply propext;simp;omega
    simp only [this]
  · rw [h.at_ j hj,if_neg hn] at hx
    rw [← Option.some.inj hx,if_pos (by simp)];omega
theorem MvI.done {r s:List Int} {ms:List Mv} {m:Mv} {fl:List Int} (h:MvI r (fun i=>kO r s (i:Int) - lU r ms (i:Int)) m.2.2 (bQ r m.1 m.2.1) fl):Fl r.length fl fun i=>kO r s (i:Int) - lU r (ms++[m]) (i:Int) :=
  Fl.qU h fun i _=>by rw [BZ];dsimp only;omega
end Rv
namespace Rv
def vI (r:List Int) (m:Mv):Prop:=0≤m.1∧m.1<r.length∧Stop r m.1 m.2.1
def starts (ms:List Mv) (i:Int):Int:=(ms.map fun m=>if m.1=i then m.2.2 else 0).sum
def stops (ms:List Mv) (i:Int):Int:=(ms.map fun m=>if m.2.1=i then m.2.2 else 0).sum
theorem yH {r:List Int} (h:dU r) {i:Int} (hi:0≤i):∀ (ms:List Mv),(∀ m∈ms,vI r m) →
    lU r ms i=(tot r.length fun k=>if nxt r (k:Int)=i then lU r ms (k:Int) else 0) + starts ms i - stops ms i
  | [],_=>by
    rw [iQ fun k _=>by split <;> rfl];rfl
  | m :: ms,g=>by
    obtain ⟨g0,g1,g2⟩:=g m List.mem_cons_self
    have ih:=yH h hi ms fun x hx=>g x (List.mem_cons_of_mem _ hx)
    have e:=metS h hi m.2.1 m.1 g0 g1 g2
    have c:∀ (p:Int),lU r (m :: ms) p=m.2.2 * one (p∈bQ r m.1 m.2.1) + lU r ms p:=fun p=>by
      show (if p∈bQ r m.1 m.2.1 then m.2.2 else 0) + lU r ms p=_
      congr 1
      unfold one;split <;> simp
    have c1:starts (m :: ms) i=m.2.2 * one (m.1=i) + starts ms i:=by
      show (if m.1=i then m.2.2 else 0) + starts ms i=_
      congr 1
      unfold one;split <;> simp
    have c2:stops (m :: ms) i=m.2.2 * one (m.2.1=i) + stops ms i:=by
      show (if m.2.1=i then m.2.2 else 0) + stops ms i=_
      congr 1
      unfold one;split <;> simp
    have c3:(tot r.length fun k=>if nxt r (k:Int)=i then lU r (m :: ms) (k:Int) else 0) =
        m.2.2 * (tot r.length fun k=>if nxt r (k:Int)=i then one ((k:Int)∈bQ r m.1 m.2.1) else 0) + tot r.length fun k=>if nxt r (k:Int)=i then lU r ms (k:Int) else 0:=by
      rw [← Ai,← lD]
      refine dD fun k _=>?_
      split
      · exact c _
      · simp
    rw [c,c1,c2,c3,e,ih,Int.mul_sub,Int.mul_add]
    omega
theorem FP {r s:List Int} (h:dU r) {ms:List Mv} (g:∀ m∈ms,vI r m) {i:Nat} (hi:i<r.length) :
    kO r s (i:Int) - lU r ms (i:Int)=s.getD i 0 + (tot r.length fun k=>if nxt r (k:Int)=(i:Int) then kO r s (k:Int) - lU r ms (k:Int) else 0) - starts ms (i:Int) + stops ms (i:Int):=by
  have e1:=tD h s hi
  have e2:=yH h (i:=(i:Int)) (by omega) ms g
  have e3:(tot r.length fun k=>if nxt r (k:Int)=(i:Int) then kO r s (k:Int) - lU r ms (k:Int) else 0) =
      (tot r.length fun k=>if nxt r (k:Int)=(i:Int) then kO r s (k:Int) else 0) - tot r.length fun k=>if nxt r (k:Int)=(i:Int) then lU r ms (k:Int) else 0:=by
    rw [← pW]
    refine dD fun k _=>?_
    split
    · rfl
    · simp
  rw [e3];omega
theorem rB {r:List Int}:∀ (ms:List Mv),(∀ m∈ms,vI r m)→(tot r.length fun i=>starts ms (i:Int))=(ms.map fun m=>m.2.2).sum
  | [],_=>iQ fun _ _=>rfl
  | m :: ms,g=>by
    obtain ⟨g0,g1,g2⟩:=g m List.mem_cons_self
    have ih:=rB ms fun x hx=>g x (List.mem_cons_of_mem _ hx)
    show (tot r.length fun (i:Nat)=>(if m.1=(i:Int) then m.2.2 else 0) + starts ms (i:Int))=m.2.2 + (ms.map fun m=>m.2.2).sum
    rw [lD,ih]
    congr 1
    have:(tot r.length fun (i:Nat)=>if m.1=(i:Int) then m.2.2 else 0)=tot r.length fun i=>if i=m.1.toNat then (fun _=>m.2.2) i else 0:=dD fun i _=>by
      by_cases hi:i=m.1.toNat
      · rw [if_pos (by omega),if_pos hi]
      · rw [if_neg (by omega),if_neg hi]
    rw [this,oR _ (by omega)]
theorem uE {r:List Int} (h:dU r):∀ (ms:List Mv),(∀ m∈ms,vI r m)→(tot r.length fun i=>stops ms (i:Int)) + stops ms (-1)=(ms.map fun m=>m.2.2).sum
  | [],_=>by rw [iQ (f:=fun i=>stops [] ((i:Nat):Int)) fun _ _=>rfl];rfl
  | m :: ms,g=>by
    obtain ⟨g0,g1,g2⟩:=g m List.mem_cons_self
    have ih:=uE h ms fun x hx=>g x (List.mem_cons_of_mem _ hx)
    show (tot r.length fun (i:Nat)=>(if m.2.1=(i:Int) then m.2.2 else 0) + stops ms (i:Int)) + ((if m.2.1=-1 then m.2.2 else 0) + stops ms (-1))=m.2.2 + (ms.map fun m=>m.2.2).sum
    rw [lD]
    have key:(tot r.length fun (i:Nat)=>if m.2.1=(i:Int) then m.2.2 else 0) + (if m.2.1=-1 then m.2.2 else 0)=m.2.2:=by
      rcases g2 with z | z
      · rw [if_pos z,iQ fun i _=>if_neg (by omega)];omega
      · obtain ⟨b0,b1⟩:=mV h m.1 g0 g1 _ z
        rw [if_neg (by omega)]
        have:(tot r.length fun (i:Nat)=>if m.2.1=(i:Int) then m.2.2 else 0)=tot r.length fun i=>if i=m.2.1.toNat then (fun _=>m.2.2) i else 0:=dD fun i _=>by
          by_cases hi:i=m.2.1.toNat
          · rw [if_pos (by omega),if_pos hi]
          · rw [if_neg (by omega),if_neg hi]
        rw [this,oR _ (by omega)];omega
    omega
theorem FQ {r s:List Int} (h:dU r) {ms:List Mv} (g:∀ m∈ms,vI r m) :
    (tot r.length fun i=>s.getD i 0)=(tot r.length fun k=>if nxt r (k:Int)=-1 then kO r s (k:Int) - lU r ms (k:Int) else 0) + stops ms (-1):=by
  have e1:(tot r.length fun i=>kO r s (i:Int) - lU r ms (i:Int))=tot r.length fun i=>s.getD i 0 + (tot r.length fun k=>if nxt r (k:Int)=(i:Int) then kO r s (k:Int) - lU r ms (k:Int) else 0) - starts ms (i:Int) + stops ms (i:Int):=dD fun i hi=>FP h g hi
  rw [lD,pW,pW,lD,xX] at e1
  have e2:(tot r.length fun k=>tot r.length fun (i:Nat)=>if nxt r (k:Int)=(i:Int) then kO r s (k:Int) - lU r ms (k:Int) else 0)=tot r.length fun k=>(kO r s (k:Int) - lU r ms (k:Int)) - if nxt r (k:Int)=-1 then kO r s (k:Int) - lU r ms (k:Int) else 0:=by
    refine dD fun k hk=>?_
    rcases h.step (p:=(k:Int)) (by omega) (by omega) with z | ⟨z0,z1⟩
    · rw [if_pos z,iQ fun i _=>if_neg (by omega)];omega
    · rw [if_neg (by omega)]
      have:(tot r.length fun (i:Nat)=>if nxt r (k:Int)=(i:Int) then kO r s (k:Int) - lU r ms (k:Int) else 0)=tot r.length fun i=>if i=(nxt r (k:Int)).toNat then (fun _=>kO r s (k:Int) - lU r ms (k:Int)) i else 0:=dD fun i _=>by
        by_cases hi:i=(nxt r (k:Int)).toNat
        · rw [if_pos (by omega),if_pos hi]
        · rw [if_neg (by omega),if_neg hi]
      rw [this,oR _ (by omega)];omega
  rw [e2,pW,pW,rB ms g] at e1
  have e3:=uE h ms g
  omega
end Rv
namespace Rv
end Rv
namespace Rv
theorem wj:∀ (s:List Int),(tot s.length fun i=>s.getD i 0)=s.sum:=by
  intro s
  have key:∀ (n:Nat),n≤s.length→(tot n fun i=>s.getD i 0)=(s.take n).sum:=by
    intro n
    induction n with
    | zero=>intro _;rfl
    | succ n ih =>
      intro h
      show tot n _ + s.getD n 0=_
      rw [ih (by omega),List.take_add_one,List.sum_append,List.getD_eq_getElem?_getD,List.getElem?_eq_getElem (by omega)]
      simp
  rw [key s.length (Nat.le_refl _),List.take_length]
def O1 (r:List Int) (F:Nat→Int) (t:Nat):Int:=tot t fun k=>if nxt r (k:Int)=-1 then F k else 0
theorem O1.Oh (r:List Int) (F:Nat→Int) {t:Nat} (hm:nxt r (t:Int)=-1):O1 r F (t + 1)=O1 r F t + F t:=by
  show O1 r F t + (if nxt r (t:Int)=-1 then F t else 0)=_
  rw [if_pos hm]
theorem O1.turn (r:List Int) (F:Nat→Int) {t:Nat} (hm:nxt r (t:Int)≠-1):O1 r F (t + 1)=O1 r F t:=by
  show O1 r F t + (if nxt r (t:Int)=-1 then F t else 0)=_
  rw [if_neg hm];omega
theorem Er {r s:List Int} (h:dU r) (hs:s.length=r.length) {ms:List Mv} (g:∀ m∈ms,vI r m):O1 r (fun k=>kO r s (k:Int) - lU r ms (k:Int)) r.length + stops (ms.take ms.length) (-1)=s.sum:=by
  rw [List.take_length,← wj s,hs,FQ h g];rfl
end Rv
namespace Rv
def wsum (r s:List Int) (t:Nat) (i:Nat):Int:=tot t fun j=>if (i:Int)∈walk r (j:Int) then s.getD j 0 else 0
theorem Ea (r s:List Int) (i:Nat):wsum r s r.length i=kO r s (i:Int):=rfl
theorem zW {r s:List Int} {t:Nat} {fl:List Int} (h:MvI r (wsum r s t) (-(s.getD t 0)) (walk r (t:Int)) fl):Fl r.length fl (wsum r s (t + 1)) :=
  Fl.qU h fun i _=>by
    show wsum r s t i - (if (i:Int)∈walk r (t:Int) then -(s.getD t 0) else 0)=wsum r s t i + if (i:Int)∈walk r (t:Int) then s.getD t 0 else 0
    split <;> omega
end Rv
namespace Rv
def wN (r:List Int) (t:Nat):List Int:=((List.range t).filter fun (j:Nat)=>decide (nxt r (j:Int)=-1)).map fun (j:Nat)=>(j:Int)
theorem mD (r:List Int) (t:Nat):wN r (t + 1)=wN r t++(if nxt r (t:Int)=-1 then [(t:Int)] else []):=by
  unfold wN
  rw [List.range_succ,List.filter_append,List.map_append]
  by_cases h:nxt r (t:Int)=-1
  · rw [if_pos h];simp [h]
  · rw [if_neg h];simp [h]
theorem tG (r:List Int) (t:Nat):(wN r t).length≤t:=by
  unfold wN
  rw [List.length_map]
  exact Nat.le_trans (List.length_filter_le _ _) (by simp)
end Rv
namespace Tn
def jC:Nat→(Nat→Int)→Int
  | 0,_=>0
  | n + 1,f=>jC n f + f n
theorem bL {f g:Nat→Int}:∀ {n:Nat},(∀ k,k<n→f k=g k)→jC n f=jC n g
  | 0,_=>rfl
  | n + 1,h=>by
    show jC n f + f n=jC n g + g n
    rw [bL fun k hk=>h k (by omega),h n (by omega)]
theorem sJ {f g:Nat→Int}:∀ {n:Nat},(∀ k,k<n→f k≤g k)→jC n f≤jC n g
  | 0,_=>Int.le_refl _
  | n + 1,h=>by
    show jC n f + f n≤jC n g + g n
    have a:=sJ fun k hk=>h k (Nat.lt_succ_of_lt hk)
    have b:=h n (Nat.lt_succ_self n)
    omega
theorem j4 (f g:Nat→Int):∀ n:Nat,jC n (fun k=>f k + g k)=jC n f + jC n g
  | 0=>rfl
  | n + 1=>by
    show jC n _ + (f n + g n)=jC n f + f n + (jC n g + g n)
    rw [j4 f g n];omega
theorem sI (f g:Nat→Int):∀ n:Nat,jC n (fun k=>f k - g k)=jC n f - jC n g
  | 0=>rfl
  | n + 1=>by
    show jC n _ + (f n - g n)=jC n f + f n - (jC n g + g n)
    rw [sI f g n];omega
theorem jq:∀ n:Nat,jC n (fun _=>0)=0
  | 0=>rfl
  | n + 1=>by show jC n _ + 0=0;rw [jq n];rfl
theorem mW {i:Nat} (c:Int):∀ {n:Nat},i<n→jC n (fun k=>if k=i then c else 0)=c
  | 0,hi=>absurd hi (Nat.not_lt_zero _)
  | n + 1,hi=>by
    show jC n _ + (if n=i then c else 0)=c
    by_cases e:n=i
    · subst e
      rw [if_pos rfl,bL (g:=fun _=>0) fun k hk=>if_neg (by omega),jq];omega
    · rw [if_neg e,mW c (by omega)];omega
theorem wu {f:Nat→Int} {n:Nat} (h:∀ k,k<n→0≤f k):0≤jC n f:=by
  have:=sJ (f:=fun _=>0) (g:=f) h
  rw [jq] at this;exact this
theorem pZ {f:Nat→Int} {n i:Nat} (hi:i<n) (h:∀ k,k<n→0≤f k):f i≤jC n f:=by
  have:=sJ (f:=fun k=>if k=i then f i else 0) (g:=f) (n:=n) fun k hk=>by
    by_cases e:k=i
    · subst e;rw [if_pos rfl];exact Int.le_refl _
    · rw [if_neg e];exact h k hk
  rw [mW _ hi] at this;exact this
def hold (n:Nat) (W:Nat→List Int) (x:Nat→Int) (r:Int):Int:=jC n fun k=>if r∈W k then x k else 0
theorem rK {n:Nat} {W:Nat→List Int} {x y:Nat→Int} {r:Int} (h:∀ k,k<n→r∈W k→x k=y k):hold n W x r=hold n W y r :=
  bL fun k hk=>by
    by_cases e:r∈W k
    · rw [if_pos e,if_pos e];exact h k hk e
    · rw [if_neg e,if_neg e]
def put (x:Nat→Int) (i:Nat) (c:Int):Nat→Int:=fun k=>if k=i then x k + c else x k
theorem yC (x:Nat→Int) (i:Nat) (c:Int):put x i c i=x i + c:=if_pos rfl
theorem qj {x:Nat→Int} {i k:Nat} {c:Int} (h:k≠i):put x i c k=x k:=if_neg h
theorem tQ {n i:Nat} {W:Nat→List Int} {x:Nat→Int} {r c:Int} (hi:i<n):hold n W (put x i c) r=hold n W x r + (if r∈W i then c else 0):=by
  have e:∀ k,k<n→(if r∈W k then put x i c k else 0)=(if r∈W k then x k else 0) + (if k=i then (if r∈W i then c else 0) else 0):=fun k _=>by
    by_cases h1:r∈W k
    · by_cases h2:k=i
      · subst h2;simp [put,h1]
      · simp [put,h1,h2]
    · by_cases h2:k=i
      · subst h2;simp [h1]
      · simp [h1,h2]
  unfold hold
  rw [bL e,j4,mW _ hi]
theorem jy (n:Nat) (W:Nat→List Int) (r:Int):hold n W (fun _=>0) r=0:=by
  unfold hold
  rw [bL (g:=fun _=>0) fun k _=>by split <;> rfl,jq]
def Pk (d n i d' m j:Int):Prop:=d<d'∨d=d'∧(n<m∨n=m∧i<j)
structure Fit (n:Nat) (F:Int→Int) (W:Nat→List Int) (want x:Nat→Int):Prop where
  nn:∀ k,k<n→0≤x k
  le:∀ k,k<n→x k≤want k
  fits:∀ r,(∃ k,k<n∧r∈W k)→hold n W x r≤F r
def nO (n:Nat) (F:Int→Int) (W:Nat→List Int) (day x:Nat→Int) (k:Nat) (r:Int):Prop :=
  r∈W k∧hold n W x r=F r∧∀ j,j<n→r∈W j→0<x j→Pk (day j) (x j) j (day k) (x k + 1) k
def uf (n:Nat) (F:Int→Int) (W:Nat→List Int) (day want x:Nat→Int):Prop :=
  ∀ k,k<n→x k<want k→∃ r,nO n F W day x k r
end Tn
namespace Tn
def d0:Nat→Int:=fun _=>0
structure zT (n:Nat) (F:Int→Int) (W:Nat→List Int) (want x:Nat→Int) (G:Nat→Bool) (t:Int):Prop where
  fit:Fit n F W want x
  go:∀ k,G k=true→k<n∧x k=t
  top:∀ k,k<n→x k≤t
  done:∀ k,k<n→G k=false→x k<want k→∃ r,nO n F W d0 x k r
theorem zT.start {n:Nat} {F:Int→Int} {W:Nat→List Int} {want:Nat→Int} (hw:∀ k,k<n→0≤want k) (hF:∀ r,(∃ k,k<n∧r∈W k)→0≤F r) :
    zT n F W want (fun _=>0) (fun k=>decide (k<n)) 0 :=
  ⟨⟨fun _ _=>Int.le_refl _,hw,fun r hr=>by rw [jy];exact hF r hr⟩,fun k hk=>⟨by simpa using hk,rfl⟩,fun _ _=>Int.le_refl _,fun k hk hg=>by simp [hk] at hg⟩
theorem zT.finish {n:Nat} {F:Int→Int} {W:Nat→List Int} {want x:Nat→Int} {G:Nat→Bool} {t:Int} (h:zT n F W want x G t) (hG:∀ k,k<n→G k=false):Fit n F W want x∧uf n F W d0 want x :=
  ⟨h.fit,fun k hk hl=>h.done k hk (hG k hk) hl⟩
def cnt (n:Nat) (W:Nat→List Int) (G:Nat→Bool) (r:Int):Int:=hold n W (fun k=>if G k then 1 else 0) r
def jump (x:Nat→Int) (G:Nat→Bool) (m:Int):Nat→Int:=fun k=>if G k then x k + m else x k
theorem qF (n:Nat) (W:Nat→List Int) (x:Nat→Int) (G:Nat→Bool) (m r:Int):hold n W (jump x G m) r=hold n W x r + m * cnt n W G r:=by
  unfold cnt hold jump
  induction n with
  | zero=>simp [jC]
  | succ n ih =>
    simp only [jC]
    rw [ih,Int.mul_add]
    by_cases h1:r∈W n
    · by_cases h2:G n=true
      · simp [h1,h2];omega
      · simp [h1,h2];omega
    · simp [h1]
theorem OJ {n:Nat} {W:Nat→List Int} {G:Nat→Bool} {r:Int} {j:Nat} (hj:j<n) (hr:r∈W j) (hg:G j=true):0<cnt n W G r:=by
  have h:=pZ (f:=fun k=>if r∈W k then (if G k then (1:Int) else 0) else 0) hj fun k _=>by
    split
    · split <;> decide
    · decide
  simp only [hr,hg,if_true] at h
  show 0<jC n fun k=>if r∈W k then (if G k then (1:Int) else 0) else 0
  omega
theorem Vq (n:Nat) (W:Nat→List Int) (G:Nat→Bool) (r:Int):0≤cnt n W G r:=wu fun k _=>by
  show (0:Int)≤if r∈W k then (if G k then (1:Int) else 0) else 0
  split
  · split <;> decide
  · decide
theorem zT.jump {n:Nat} {F:Int→Int} {W:Nat→List Int} {want x:Nat→Int} {G:Nat→Bool} {t m:Int} (h:zT n F W want x G t) (hm:0≤m) (h1:∀ k,G k=true→x k + m≤want k)
    (h2:∀ r,(∃ k,k<n∧r∈W k)→m * cnt n W G r≤F r - hold n W x r):zT n F W want (jump x G m) G (t + m):=by
  refine ⟨⟨fun k hk=>?_,fun k hk=>?_,fun r hr=>?_⟩,fun k hk=>⟨(h.go k hk).1,?_⟩,fun k hk=>?_,fun k hk hg hl=>?_⟩
  · have:=h.fit.nn k hk
    unfold Tn.jump;split <;> omega
  · unfold Tn.jump
    split
    · rename_i hg;exact h1 k hg
    · exact h.fit.le k hk
  · rw [qF]
    have:=h2 r hr
    omega
  · unfold Tn.jump
    rw [if_pos hk,(h.go k hk).2]
  · have:=h.top k hk
    unfold Tn.jump;split <;> omega
  · have ek:Tn.jump x G m k=x k:=by unfold Tn.jump;rw [hg];rfl
    rw [ek] at hl
    obtain ⟨r,hr,hF,hall⟩:=h.done k hk hg hl
    by_cases hm0:m=0
    · have e:Tn.jump x G m=x:=by
        funext j
        unfold Tn.jump
        split <;> omega
      rw [e]
      exact ⟨r,hr,hF,hall⟩
    · have hc:=h2 r ⟨k,hk,hr⟩
      have hno:∀ j,j<n→r∈W j→G j=false:=fun j hj hrj=>by
        cases hgj:G j with
        | false=>rfl
        | true =>
          exfalso
          have p:=OJ hj hrj hgj
          have q:0<m * cnt n W G r:=Int.mul_pos (by omega) p
          omega
      have same:∀ j,j<n→r∈W j→Tn.jump x G m j=x j:=fun j hj hrj=>by unfold Tn.jump;rw [hno j hj hrj];rfl
      refine ⟨r,hr,?_,fun j hj hrj hp=>?_⟩
      · rw [rK (y:=x) same];exact hF
      · rw [same j hj hrj] at hp ⊢
        rw [ek]
        exact hall j hj hrj hp
structure xJ (n:Nat) (F:Int→Int) (W:Nat→List Int) (want x:Nat→Int) (G S:Nat→Bool) (t:Int) (p:Nat):Prop where
  fit:Fit n F W want x
  still:∀ k,S k=true→k<p∧k<n∧x k=t + 1
  wait:∀ k,k<n→G k=true→p≤k→x k=t
  low:∀ k,k<n→S k=false→x k≤t
  done:∀ k,k<n→S k=false→(k<p∨G k=false)→x k<want k→∃ r,nO n F W d0 x k r
theorem zT.pass {n:Nat} {F:Int→Int} {W:Nat→List Int} {want x:Nat→Int} {G:Nat→Bool} {t:Int} (h:zT n F W want x G t):xJ n F W want x G (fun _=>false) t 0 :=
  ⟨h.fit,(fun _ hk=>by cases hk),fun k _ hg _=>(h.go k hg).2,fun k hk _=>h.top k hk,fun k hk _ hg hl=>by
    rcases hg with z | z
    · exact absurd z (Nat.not_lt_zero _)
    · exact h.done k hk z hl⟩
theorem xJ.skip {n:Nat} {F:Int→Int} {W:Nat→List Int} {want x:Nat→Int} {G S:Nat→Bool} {t:Int} {p q:Nat} (h:xJ n F W want x G S t p) (hpq:p≤q) (hno:∀ k,p≤k→k<q→G k=false):xJ n F W want x G S t q :=
  ⟨h.fit,fun k hk=>⟨by have:=(h.still k hk).1;omega,(h.still k hk).2⟩,fun k hk hg hq=>h.wait k hk hg (by omega),h.low,fun k hk hs hg hl=>by
    refine h.done k hk hs ?_ hl
    rcases hg with z | z
    · by_cases e:k<p
      · exact .inl e
      · exact .inr (hno k (by omega) z)
    · exact .inr z⟩
theorem xJ.gets {n:Nat} {F:Int→Int} {W:Nat→List Int} {want x:Nat→Int} {G S:Nat→Bool} {t:Int} {p:Nat} (h:xJ n F W want x G S t p) (hp:p<n) (hg:G p=true) (hw:x p<want p) (hfree:∀ r,r∈W p→0<F r - hold n W x r) :
    xJ n F W want (put x p 1) G (fun k=>if k=p then true else S k) t (p + 1):=by
  have xp:=h.wait p hp hg (Nat.le_refl _)
  refine ⟨⟨fun k hk=>?_,fun k hk=>?_,fun r hr=>?_⟩,fun k hk=>?_,fun k hk hg hq=>?_,fun k hk hs=>?_,fun k hk hs hq hl=>?_⟩
  · have:=h.fit.nn k hk
    unfold put;split <;> omega
  · by_cases e:k=p
    · subst e;rw [yC];omega
    · rw [qj e];exact h.fit.le k hk
  · rw [tQ hp]
    by_cases e:r∈W p
    · rw [if_pos e];have:=hfree r e;omega
    · rw [if_neg e];have:=h.fit.fits r hr;omega
  · by_cases e:k=p
    · subst e;rw [yC];exact ⟨by omega,hp,by omega⟩
    · simp only [e,if_false] at hk
      obtain ⟨a,b,c⟩:=h.still k hk
      rw [qj e];exact ⟨by omega,b,c⟩
  · rw [qj (by omega)];exact h.wait k hk hg (by omega)
  · by_cases e:k=p
    · simp [e] at hs
    · simp only [e,if_false] at hs
      rw [qj e];exact h.low k hk hs
  · by_cases e:k=p
    · simp [e] at hs
    · simp only [e,if_false] at hs
      rw [qj e] at hl
      obtain ⟨r,hr,hF,hall⟩:=h.done k hk hs (by
        rcases hq with z | z
        · exact .inl (by omega)
        · exact .inr z) hl
      have hrp:¬ r∈W p:=fun z=>by have:=hfree r z;omega
      refine ⟨r,hr,?_,fun j hj hrj hpos=>?_⟩
      · rw [tQ hp,if_neg hrp];omega
      · have hjp:j≠p:=fun z=>hrp (z ▸ hrj)
        rw [qj hjp] at hpos ⊢
        rw [qj e]
        exact hall j hj hrj hpos
theorem xJ.ends {n:Nat} {F:Int→Int} {W:Nat→List Int} {want x:Nat→Int} {G S:Nat→Bool} {t:Int} {p:Nat} (h:xJ n F W want x G S t p) (hp:p<n) (hg:G p=true) (hn:want p≤x p∨∃ r,r∈W p∧F r - hold n W x r≤0) :
    xJ n F W want x G S t (p + 1):=by
  have xp:=h.wait p hp hg (Nat.le_refl _)
  refine ⟨h.fit,fun k hk=>⟨by have:=(h.still k hk).1;omega,(h.still k hk).2⟩,fun k hk hg hq=>h.wait k hk hg (by omega),h.low,fun k hk hs hq hl=>?_⟩
  by_cases e:k=p
  · subst e
    rcases hn with z | ⟨r,hr,hle⟩
    · omega
    · refine ⟨r,hr,?_,fun j hj hrj hpos=>?_⟩
      · have:=h.fit.fits r ⟨k,hk,hr⟩
        omega
      · cases hsj:S j with
        | false =>
          have:=h.low j hj hsj
          exact .inr ⟨rfl,.inl (by omega)⟩
        | true =>
          obtain ⟨a,b,c⟩:=h.still j hsj
          exact .inr ⟨rfl,.inr ⟨by omega,by omega⟩⟩
  · exact h.done k hk hs (by
      rcases hq with z | z
      · exact .inl (by omega)
      · exact .inr z) hl
theorem xJ.finish {n:Nat} {F:Int→Int} {W:Nat→List Int} {want x:Nat→Int} {G S:Nat→Bool} {t:Int} (h:xJ n F W want x G S t n):zT n F W want x S (t + 1) :=
  ⟨h.fit,fun k hk=>(h.still k hk).2,fun k hk=>by
    cases hs:S k with
    | false=>have:=h.low k hk hs;omega
    | true=>have:=(h.still k hs).2.2;omega,fun k hk hs hl=>h.done k hk hs (.inl hk) hl⟩
end Tn
namespace Tn
def bump (xs w:List Int) (c:Int):List Int:=w.foldl (fun xs r=>xs.set r.toNat (xs.getD r.toNat 0 + c)) xs
theorem Gk (xs:List Int) (c:Int):bump xs [] c=xs:=rfl
theorem vq (xs w:List Int) (r c:Int):bump xs (r :: w) c=bump (xs.set r.toNat (xs.getD r.toNat 0 + c)) w c:=rfl
theorem Dp (xs w:List Int) (r c:Int):bump xs (w++[r]) c=(bump xs w c).set r.toNat ((bump xs w c).getD r.toNat 0 + c):=by
  unfold bump;rw [List.foldl_append];rfl
theorem jN:∀ (w xs:List Int) (c:Int),(bump xs w c).length=xs.length
  | [],_,_=>rfl
  | r :: w,xs,c=>by rw [vq,jN w,List.length_set]
theorem tR {xs:List Int} {i k:Nat} {v:Int} (hi:i<xs.length):(xs.set i v).getD k 0=if k=i then v else xs.getD k 0:=by
  rw [List.getD_eq_getElem?_getD,List.getElem?_set,List.getD_eq_getElem?_getD]
  by_cases h:i=k
  · subst h;simp [hi]
  · have h':¬ k=i:=fun e=>h e.symm
    simp [h,h']
theorem oH:∀ {w xs:List Int} {c:Int},w.Nodup→(∀ r∈w,0≤r∧r<xs.length)→∀ k:Nat,(bump xs w c).getD k 0=xs.getD k 0 + (if (k:Int)∈w then c else 0)
  | [],xs,c,_,_,k=>by simp [Gk]
  | r :: w,xs,c,hw,hin,k=>by
    rw [List.nodup_cons] at hw
    obtain ⟨r0,r1⟩:=hin r List.mem_cons_self
    have hl:r.toNat<xs.length:=by omega
    rw [vq,oH hw.2 (fun q hq=>by rw [List.length_set];exact hin q (List.mem_cons_of_mem _ hq)) k,tR hl]
    by_cases e:k=r.toNat
    · have ek:(k:Int)=r:=by omega
      have hn:¬ (k:Int)∈w:=by rw [ek];exact hw.1
      rw [if_pos e,if_neg hn,if_pos (by rw [ek];exact List.mem_cons_self),e];omega
    · have ek:¬ (k:Int)=r:=by omega
      rw [if_neg e]
      by_cases h:(k:Int)∈w
      · rw [if_pos h,if_pos (List.mem_cons_of_mem _ h)]
      · rw [if_neg h,if_neg (fun z=>by rcases List.mem_cons.mp z with q | q;exact ek q;exact h q)]
def bumps (xs:List Int) (ps:List (List Int × Int)):List Int:=ps.foldl (fun xs p=>bump xs p.1 p.2) xs
theorem Dn (xs:List Int):bumps xs []=xs:=rfl
theorem rQ (xs:List Int) (p:List Int × Int) (ps:List (List Int × Int)):bumps xs (p :: ps)=bumps (bump xs p.1 p.2) ps:=rfl
theorem rP (xs:List Int) (ps:List (List Int × Int)) (p:List Int × Int):bumps xs (ps++[p])=bump (bumps xs ps) p.1 p.2:=by
  unfold bumps;rw [List.foldl_append];rfl
theorem kY:∀ (ps:List (List Int × Int)) (xs:List Int),(bumps xs ps).length=xs.length
  | [],_=>rfl
  | p :: ps,xs=>by rw [rQ,kY ps,jN]
def WOk (n:Nat) (w:List Int):Prop:=w.Nodup∧∀ r∈w,0≤r∧r<(n:Int)
theorem oG:∀ {ps:List (List Int × Int)} {xs:List Int},(∀ p∈ps,WOk xs.length p.1)→∀ k:Nat,(bumps xs ps).getD k 0=xs.getD k 0 + (ps.map fun p=>if (k:Int)∈p.1 then p.2 else 0).sum
  | [],xs,_,k=>by simp [Dn]
  | p :: ps,xs,h,k=>by
    have hp:=h p List.mem_cons_self
    rw [rQ,oG (fun q hq=>by rw [jN];exact h q (List.mem_cons_of_mem _ hq)) k,oH hp.1 hp.2 k,List.map_cons,List.sum_cons]
    omega
theorem Ef {α:Type} (l:List α) (f:α→Int) (g:Nat→Int) (h:∀ k a,l[k]?=some a→g k=f a):(l.map f).sum=jC l.length g:=by
  have key:∀ n,n≤l.length→((l.take n).map f).sum=jC n g:=by
    intro n
    induction n with
    | zero=>intro _;rfl
    | succ n ih =>
      intro hn
      have e:l[n]?=some l[n]:=List.getElem?_eq_getElem (by omega)
      rw [List.take_succ,e,List.map_append,List.sum_append,ih (by omega)]
      show _ + (f l[n] + 0)=jC n g + g n
      rw [h n _ e];omega
  have:=key l.length (Nat.le_refl _)
  rwa [List.take_of_length_le (Nat.le_refl _)] at this
theorem pL {n:Nat} {f:Nat→Int}:∀ {g:List Nat},g.Nodup→(∀ k∈g,k<n)→(g.map f).sum=jC n fun k=>if k∈g then f k else 0
  | [],_,_=>by simp [jq]
  | a :: g,hn,hl=>by
    rw [List.nodup_cons] at hn
    rw [List.map_cons,List.sum_cons,pL hn.2 fun k hk=>hl k (List.mem_cons_of_mem _ hk)]
    have e:∀ k,k<n→(if k∈a :: g then f k else 0)=(if k=a then f a else 0) + (if k∈g then f k else 0):=fun k _=>by
      by_cases h:k=a
      · subst h;simp [hn.1]
      · simp [h]
    rw [bL e,j4,mW _ (hl a List.mem_cons_self)]
def shares (fs cs:List Int):List Int:=((fs.zip cs).filter fun p=>decide (0<p.2)).map fun p=>p.1 / p.2
def WT (fs cs rs:List Int) (M:Int):Prop:=(rs++shares fs cs=[]∧M=0)∨∃ m∈rs++shares fs cs,(∀ a∈rs++shares fs cs,m≤a)∧M=max 0 m
theorem rH {fs cs:List Int} {a:Int}:a∈shares fs cs↔∃ (k:Nat) (f c:Int),fs[k]?=some f∧cs[k]?=some c∧0<c∧a=f / c:=by
  unfold shares
  simp only [List.mem_map,List.mem_filter,decide_eq_true_eq]
  constructor
  · rintro ⟨⟨f,c⟩,⟨hm,hc⟩,rfl⟩
    obtain ⟨k,hk,e⟩:=List.getElem_of_mem hm
    have e':(fs.zip cs)[k]?=some (f,c):=by rw [List.getElem?_eq_getElem hk,e]
    rw [List.getElem?_zip_eq_some] at e'
    exact ⟨k,f,c,e'.1,e'.2,hc,rfl⟩
  · rintro ⟨k,f,c,h1,h2,h3,rfl⟩
    exact ⟨(f,c),⟨List.mem_of_getElem? (i:=k) (List.getElem?_zip_eq_some.mpr ⟨h1,h2⟩),h3⟩,rfl⟩
theorem WT.nn {fs cs rs:List Int} {M:Int} (h:WT fs cs rs M):0≤M:=by
  rcases h with ⟨_,e⟩ | ⟨m,_,_,e⟩ <;> omega
theorem WT.low {fs cs rs:List Int} {M:Int} (h:WT fs cs rs M) (hr:∀ a∈rs,0≤a) (hf:∀ a∈fs,0≤a):(∀ a∈rs,M≤a)∧∀ (k:Nat) (f c:Int),fs[k]?=some f→cs[k]?=some c→0<c→M * c≤f:=by
  have hall:∀ a∈rs++shares fs cs,0≤a:=fun a ha=>by
    rcases List.mem_append.mp ha with z | z
    · exact hr a z
    · obtain ⟨k,f,c,h1,h2,h3,rfl⟩:=rH.mp z
      exact Int.ediv_nonneg (hf f (List.mem_of_getElem? h1)) (by omega)
  have hle:∀ a∈rs++shares fs cs,M≤a:=by
    rcases h with ⟨e,_⟩ | ⟨m,hm,hl,rfl⟩
    · intro a ha;rw [e] at ha;cases ha
    · intro a ha
      have:=hl a ha
      have:=hall m hm
      omega
  refine ⟨fun a ha=>hle a (List.mem_append_left _ ha),fun k f c h1 h2 h3=>?_⟩
  exact (Int.le_ediv_iff_mul_le h3).mp (hle _ (List.mem_append_right _ (rH.mpr ⟨k,f,c,h1,h2,h3,rfl⟩)))
end Tn
namespace Tn
structure zV (n:Nat) (F:Int→Int) (W:Nat→List Int) (day want x:Nat→Int) (Pz:Nat→Prop):Prop where
  fit:Fit n F W want x
  shown:∀ k,k<n→Pz k→x k<want k→∃ r,nO n F W day x k r
  zero:∀ k,k<n→¬ Pz k→x k=0
theorem zV.start {n:Nat} {F:Int→Int} {W:Nat→List Int} {day want:Nat→Int} (hw:∀ k,k<n→0≤want k) (hF:∀ r,(∃ k,k<n∧r∈W k)→0≤F r):zV n F W day want (fun _=>0) (fun _=>False) :=
  ⟨⟨fun _ _=>Int.le_refl _,hw,fun r hr=>by rw [jy];exact hF r hr⟩,fun _ _ z=>z.elim,fun _ _ _=>rfl⟩
def over (x:Nat→Int) (g:List Nat) (y:Nat→Int):Nat→Int:=fun k=>if k∈g then y (g.idxOf k) else x k
theorem mH {g:List Nat} {i:Nat} (h:i<g.length):g.getD i 0=g[i]:=by rw [List.getD_eq_getElem?_getD,List.getElem?_eq_getElem h];rfl
theorem gO {g:List Nat} (h:g.Pairwise (·<·)):g.Nodup:=h.imp fun e=>Nat.ne_of_lt e
theorem yQ {g:List Nat} (h:g.Nodup) {i:Nat} (hi:i<g.length):g.idxOf g[i]=i:=by
  have h1:g.idxOf g[i]<g.length:=List.idxOf_lt_length_iff.mpr (List.getElem_mem hi)
  exact (List.getElem_inj (h₀:=h1) (h₁:=hi) h).mp (List.getElem_idxOf h1)
theorem oW {x y:Nat→Int} {g:List Nat} (h:g.Nodup) {i:Nat} (hi:i<g.length):over x g y (g.getD i 0)=y i:=by
  unfold over
  rw [mH hi,if_pos (List.getElem_mem hi),yQ h hi]
theorem lG {x y:Nat→Int} {g:List Nat} {k:Nat} (h:¬ k∈g):over x g y k=x k:=if_neg h
theorem vo {n:Nat} {W:Nat→List Int} {x y:Nat→Int} {g:List Nat} (r:Int) (hg:g.Nodup) (hn:∀ k∈g,k<n) (hz:∀ k∈g,x k=0) :
    hold n W (over x g y) r=hold n W x r + hold g.length (fun i=>W (g.getD i 0)) y r:=by
  have e:∀ k,k<n→(if r∈W k then over x g y k else 0)=(if r∈W k then x k else 0) + (if k∈g then (if r∈W k then y (g.idxOf k) else 0) else 0):=fun k _=>by
    by_cases h:k∈g
    · unfold over
      rw [if_pos h,if_pos h,hz k h]
      by_cases h2:r∈W k
      · simp [h2]
      · simp [h2]
    · rw [lG h,if_neg h];omega
  have e2:=pL (n:=n) (f:=fun k=>if r∈W k then y (g.idxOf k) else 0) hg hn
  have e3:=Ef g (fun k=>if r∈W k then y (g.idxOf k) else 0) (fun i=>if r∈W (g.getD i 0) then y i else 0) fun i a ha=>by
    obtain ⟨hi,rfl⟩:=List.getElem?_eq_some_iff.mp ha
    rw [mH hi,yQ hg hi]
  unfold hold
  rw [bL e,j4,← e2,e3]
theorem zV.step {n:Nat} {F:Int→Int} {W:Nat→List Int} {day want x y:Nat→Int} {Pz:Nat→Prop} {g:List Nat} {d:Int} (D:zV n F W day want x Pz) (hg:g.Pairwise (·<·)) (hgn:∀ k∈g,k<n∧day k=d∧¬ Pz k) (hd:∀ k,Pz k→day k<d)
    (fy:Fit g.length (fun r=>F r - hold n W x r) (fun i=>W (g.getD i 0)) (fun i=>want (g.getD i 0)) y) (sy:uf g.length (fun r=>F r - hold n W x r) (fun i=>W (g.getD i 0)) d0 (fun i=>want (g.getD i 0)) y) :
    zV n F W day want (over x g y) (fun k=>Pz k∨k∈g):=by
  have nd:=gO hg
  have hn:∀ k∈g,k<n:=fun k hk=>(hgn k hk).1
  have hz:∀ k∈g,x k=0:=fun k hk=>D.zero k (hn k hk) (hgn k hk).2.2
  have hh:=fun r=>vo (n:=n) (W:=W) (x:=x) (y:=y) r nd hn hz
  have inv:∀ k∈g,∃ i,i<g.length∧g.getD i 0=k:=fun k hk=>by
    obtain ⟨i,hi,e⟩:=List.getElem_of_mem hk
    exact ⟨i,hi,by rw [mH hi,e]⟩
  have yn:∀ r,0≤hold g.length (fun i=>W (g.getD i 0)) y r:=fun r=>wu fun i hi=>by
    split
    · exact fy.nn i hi
    · exact Int.le_refl _
  refine ⟨⟨fun k hk=>?_,fun k hk=>?_,fun r hr=>?_⟩,fun k hk hp hl=>?_,fun k hk hp=>?_⟩
  · by_cases h:k∈g
    · obtain ⟨i,hi,rfl⟩:=inv k h
      rw [oW nd hi];exact fy.nn i hi
    · rw [lG h];exact D.fit.nn k hk
  · by_cases h:k∈g
    · obtain ⟨i,hi,rfl⟩:=inv k h
      rw [oW nd hi];exact fy.le i hi
    · rw [lG h];exact D.fit.le k hk
  · rw [hh r]
    by_cases h:∃ i,i<g.length∧r∈W (g.getD i 0)
    · have q:hold g.length (fun i=>W (g.getD i 0)) y r≤F r - hold n W x r:=fy.fits r h
      omega
    · have e:hold g.length (fun i=>W (g.getD i 0)) y r=0:=by
        unfold hold
        rw [bL (g:=fun _=>0) fun i hi=>if_neg fun z=>h ⟨i,hi,z⟩,jq]
      have:=D.fit.fits r hr
      omega
  · by_cases h:k∈g
    · obtain ⟨i,hi,rfl⟩:=inv k h
      rw [oW nd hi] at hl
      obtain ⟨r,hr,hF,hall⟩:=sy i hi hl
      refine ⟨r,hr,?_,fun j hj hrj hpos=>?_⟩
      · have q:hold g.length (fun i=>W (g.getD i 0)) y r=F r - hold n W x r:=hF
        rw [hh r,q];omega
      · rw [oW nd hi]
        have dk:=(hgn _ h).2.1
        by_cases hj':j∈g
        · obtain ⟨i',hi',rfl⟩:=inv j hj'
          rw [oW nd hi'] at hpos ⊢
          have dj:=(hgn _ hj').2.1
          have a:=hall i' hi' hrj hpos
          rcases a with a | ⟨_,a⟩
          · exact absurd a (Int.lt_irrefl _)
          · refine .inr ⟨by rw [dk,dj],?_⟩
            rcases a with a | ⟨a,b⟩
            · exact .inl a
            · refine .inr ⟨a,?_⟩
              have hlt:i'<i:=by omega
              have:=List.pairwise_iff_getElem.mp hg i' i hi' hi hlt
              rw [mH hi,mH hi'];omega
        · rw [lG hj'] at hpos
          by_cases hpj:Pz j
          · have:=hd j hpj
            exact .inl (by rw [dk];exact this)
          · have:=D.zero j hj hpj
            omega
    · have hpk:Pz k:=hp.resolve_right h
      rw [lG h] at hl
      obtain ⟨r,hr,hF,hall⟩:=D.shown k hk hpk hl
      have none:∀ i,i<g.length→r∈W (g.getD i 0)→y i=0:=fun i hi hri=>by
        have a:hold g.length (fun i=>W (g.getD i 0)) y r≤F r - hold n W x r:=fy.fits r ⟨i,hi,hri⟩
        have b:=pZ (f:=fun i=>if r∈W (g.getD i 0) then y i else 0) hi fun j hj=>by
          show (0:Int)≤if r∈W (g.getD j 0) then y j else 0
          split
          · exact fy.nn j hj
          · exact Int.le_refl _
        have c:=fy.nn i hi
        have e:(if r∈W (g.getD i 0) then y i else 0)=y i:=if_pos hri
        have b':y i≤hold g.length (fun i=>W (g.getD i 0)) y r:=by rw [← e];exact b
        omega
      have same:∀ j,j<n→r∈W j→over x g y j=x j:=fun j hj hrj=>by
        by_cases h2:j∈g
        · obtain ⟨i,hi,rfl⟩:=inv j h2
          rw [oW nd hi,none i hi hrj,hz _ h2]
        · exact lG h2
      refine ⟨r,hr,?_,fun j hj hrj hpos=>?_⟩
      · rw [rK (y:=x) same];exact hF
      · rw [same j hj hrj] at hpos ⊢
        rw [lG h]
        exact hall j hj hrj hpos
  · have h:¬ k∈g:=fun z=>hp (.inr z)
    rw [lG h]
    exact D.zero k hk fun z=>hp (.inl z)
theorem zV.finish {n:Nat} {F:Int→Int} {W:Nat→List Int} {day want x:Nat→Int} {Pz:Nat→Prop} (D:zV n F W day want x Pz) (h:∀ k,k<n→Pz k):Fit n F W want x∧uf n F W day want x:=⟨D.fit,fun k hk hl=>D.shown k hk (h k hk) hl⟩
end Tn
namespace Tn
end Tn
namespace Tn
end Tn
namespace Tn
end Tn
namespace Tn
def fW (ws:List (List Int)):Nat→List Int:=fun k=>ws.getD k []
def fX (xs:List Int):Nat→Int:=fun k=>xs.getD k 0
def fF (fs:List Int):Int→Int:=fun r=>fs.getD r.toNat 0
def asI (gs:List Nat):List Int:=gs.map fun k:Nat=>(k:Int)
def fG (gs:List Nat):Nat→Bool:=fun k=>decide (k∈gs)
structure qO (fs:List Int) (ws:List (List Int)) (rs l xs:List Int) (gs:List Nat) (t:Int):Prop where
  ll:l.length=fs.length
  xl:xs.length=ws.length
  left:∀ r:Nat,r<fs.length→l.getD r 0=fs.getD r 0 - hold ws.length (fW ws) (fX xs) (r:Int)
  srt:gs.Pairwise (·<·)
  inv:zT ws.length (fF fs) (fW ws) (fX rs) (fX xs) (fG gs) t
theorem rM (fs:List Int) (r:Nat):fF fs (r:Int)=fs.getD r 0:=by unfold fF;rw [Int.toNat_natCast]
theorem qx {ws:List (List Int)} {k:Nat} (hk:k<ws.length):fW ws k∈ws:=by
  unfold fW
  rw [List.getD_eq_getElem?_getD,List.getElem?_eq_getElem hk];exact List.getElem_mem hk
theorem jM (n k:Nat):(List.replicate n (0:Int)).getD k 0=0:=by
  rw [List.getD_eq_getElem?_getD,List.getElem?_replicate]
  split <;> rfl
theorem qO.start {fs:List Int} {ws:List (List Int)} {rs:List Int} (hf:∀ a∈fs,0≤a) (hr:∀ a∈rs,0≤a) (hws:∀ w∈ws,WOk fs.length w):qO fs ws rs fs (List.replicate ws.length 0) (List.range ws.length) 0:=by
  have e:fX (List.replicate ws.length 0)=fun _=>0:=by
    funext k;exact jM _ _
  have g0:∀ (l:List Int) (k:Nat),(∀ a∈l,0≤a)→0≤l.getD k 0:=fun l k h=>by
    rw [List.getD_eq_getElem?_getD]
    cases hk:l[k]? with
    | none=>exact Int.le_refl _
    | some a=>exact h a (List.mem_of_getElem? hk)
  refine ⟨rfl,by simp,fun r hr=>?_,List.pairwise_lt_range,?_⟩
  · rw [e,jy];omega
  · rw [e,show fG (List.range ws.length)=fun k=>decide (k<ws.length) from by funext k;simp [fG]]
    exact zT.start (fun k _=>g0 rs k hr) fun r _=>g0 fs _ hf
theorem qO.nn {fs:List Int} {ws:List (List Int)} {rs l xs:List Int} {gs:List Nat} {t:Int} (h:qO fs ws rs l xs gs t) (hf:∀ a∈fs,0≤a):∀ a∈l,0≤a:=fun a ha=>by
  obtain ⟨r,hr,rfl⟩:=List.getElem_of_mem ha
  have hr':r<fs.length:=by rw [← h.ll];exact hr
  have e:l[r]=l.getD r 0:=by rw [List.getD_eq_getElem?_getD,List.getElem?_eq_getElem hr];rfl
  rw [e,h.left r hr']
  by_cases hx:∃ k,k<ws.length∧(r:Int)∈fW ws k
  · have:=h.inv.fit.fits r hx
    rw [rM] at this
    omega
  · have e0:hold ws.length (fW ws) (fX xs) (r:Int)=0:=by
      unfold hold
      rw [bL (g:=fun _=>0) fun k hk=>if_neg fun z=>hx ⟨k,hk,z⟩,jq]
    have:=hf fs[r] (List.getElem_mem hr')
    have e1:fs.getD r 0=fs[r]:=by rw [List.getD_eq_getElem?_getD,List.getElem?_eq_getElem hr'];rfl
    omega
def DQ (n:Nat) (ws:List (List Int)) (gs:List Nat):List Int:=bumps (List.replicate n 0) (gs.map fun k=>(fW ws k,1))
theorem Gi {n:Nat} {ws:List (List Int)} {gs:List Nat} (hws:∀ w∈ws,WOk n w) (hg:gs.Nodup) (hn:∀ k∈gs,k<ws.length) (r:Nat):(DQ n ws gs).getD r 0=cnt ws.length (fW ws) (fG gs) (r:Int):=by
  unfold DQ
  rw [oG (fun p hp=>by
    obtain ⟨k,hk,rfl⟩:=List.mem_map.mp hp
    rw [List.length_replicate]
    exact hws _ (qx (hn k hk))) r,jM,List.map_map]
  have e:=pL (n:=ws.length) (f:=fun k=>if (r:Int)∈fW ws k then (1:Int) else 0) hg hn
  have e':((fun p:List Int × Int=>if (r:Int)∈p.1 then p.2 else 0) ∘ fun k=>(fW ws k,(1:Int)))=fun k=>if (r:Int)∈fW ws k then (1:Int) else 0:=rfl
  rw [e',e]
  unfold cnt hold fG
  rw [Int.zero_add]
  refine bL fun k _=>?_
  by_cases h1:k∈gs
  · simp [h1]
  · simp [h1]
theorem Gh (n:Nat) (ws:List (List Int)) (gs:List Nat):(DQ n ws gs).length=n:=by unfold DQ;rw [kY,List.length_replicate]
def unmet (rs xs:List Int) (gs:List Nat):List Int:=gs.map fun k=>rs.getD k 0 - xs.getD k 0
theorem Cz {gs:List Nat} {n:Nat} (hg:gs.Nodup) (hn:∀ k∈gs,k<n):WOk n (asI gs):=by
  refine ⟨?_,fun r hr=>?_⟩
  · unfold asI
    exact List.Pairwise.map _ (fun a b h=>by omega) hg
  · obtain ⟨k,hk,rfl⟩:=List.mem_map.mp hr
    have:=hn k hk
    omega
theorem tK {gs:List Nat} {k:Nat}:(k:Int)∈asI gs↔k∈gs:=by
  unfold asI
  rw [List.mem_map]
  constructor
  · rintro ⟨a,ha,e⟩
    have:a=k:=by omega
    rw [← this];exact ha
  · intro h;exact ⟨k,h,rfl⟩
theorem qO.going {fs:List Int} {ws:List (List Int)} {rs l xs:List Int} {gs:List Nat} {t:Int} (h:qO fs ws rs l xs gs t):∀ k∈gs,k<ws.length∧xs.getD k 0=t:=fun k hk=>h.inv.go k (by simpa [fG] using hk)
theorem qO.whole {fs:List Int} {ws:List (List Int)} {rs l xs:List Int} {gs:List Nat} {t M:Int} (h:qO fs ws rs l xs gs t) (hf:∀ a∈fs,0≤a) (hws:∀ w∈ws,WOk fs.length w) (hM:WT l (DQ fs.length ws gs) (unmet rs xs gs) M) :
    qO fs ws rs (bumps l (gs.map fun k=>(fW ws k,-M))) (bump xs (asI gs) M) gs (t + M):=by
  have nd:=gO h.srt
  have hn:∀ k∈gs,k<ws.length:=fun k hk=>(h.going k hk).1
  have hl:=h.nn hf
  have hun:∀ a∈unmet rs xs gs,0≤a:=fun a ha=>by
    obtain ⟨k,hk,rfl⟩:=List.mem_map.mp ha
    have:fX xs k≤fX rs k:=h.inv.fit.le k (hn k hk)
    unfold fX at this
    omega
  obtain ⟨lo1,lo2⟩:=hM.low hun hl
  have ex:fX (bump xs (asI gs) M)=jump (fX xs) (fG gs) M:=by
    funext k
    show (bump xs (asI gs) M).getD k 0=if fG gs k then fX xs k + M else fX xs k
    have ok:=Cz nd (n:=xs.length) fun k hk=>by rw [h.xl];exact hn k hk
    rw [oH ok.1 ok.2 k]
    by_cases hk:k∈gs
    · rw [if_pos (tK.mpr hk)];simp [fG,hk,fX]
    · rw [if_neg (fun z=>hk (tK.mp z))];simp [fG,hk,fX]
  have key:∀ r:Nat,r<fs.length→M * cnt ws.length (fW ws) (fG gs) (r:Int)≤l.getD r 0:=fun r hr=>by
    have c0:=Vq ws.length (fW ws) (fG gs) (r:Int)
    have hlr:r<l.length:=by rw [h.ll];exact hr
    have e1:l[r]?=some (l.getD r 0):=by rw [List.getD_eq_getElem?_getD,List.getElem?_eq_getElem hlr];rfl
    have hcr:r<(DQ fs.length ws gs).length:=by rw [Gh];exact hr
    have e2:(DQ fs.length ws gs)[r]?=some (cnt ws.length (fW ws) (fG gs) (r:Int)):=by
      rw [← Gi hws nd hn r,List.getD_eq_getElem?_getD,List.getElem?_eq_getElem hcr];rfl
    by_cases hp:0<cnt ws.length (fW ws) (fG gs) (r:Int)
    · exact lo2 r _ _ e1 e2 hp
    · have:cnt ws.length (fW ws) (fG gs) (r:Int)=0:=by omega
      rw [this,Int.mul_zero]
      exact hl _ (List.mem_of_getElem? e1)
  refine ⟨by rw [kY];exact h.ll,by rw [jN];exact h.xl,fun r hr=>?_,h.srt,?_⟩
  · rw [oG (fun p hp=>by
      obtain ⟨k,hk,rfl⟩:=List.mem_map.mp hp
      rw [h.ll]
      exact hws _ (qx (hn k hk))) r,h.left r hr,ex,qF,List.map_map]
    have e:=pL (n:=ws.length) (f:=fun k=>if (r:Int)∈fW ws k then -M else 0) nd hn
    have e':((fun p:List Int × Int=>if (r:Int)∈p.1 then p.2 else 0) ∘ fun k=>(fW ws k,-M))=fun k=>if (r:Int)∈fW ws k then -M else 0:=rfl
    rw [e',e]
    have e3:(jC ws.length fun k=>if k∈gs then (if (r:Int)∈fW ws k then -M else 0) else 0)=-(M * cnt ws.length (fW ws) (fG gs) (r:Int)):=by
      have a:=qF ws.length (fW ws) (fun _=>0) (fG gs) (-M) (r:Int)
      rw [jy] at a
      have b:hold ws.length (fW ws) (jump (fun _=>0) (fG gs) (-M)) (r:Int)=jC ws.length fun k=>if k∈gs then (if (r:Int)∈fW ws k then -M else 0) else 0:=by
        unfold hold jump fG
        refine bL fun k _=>?_
        by_cases h1:k∈gs
        · simp [h1]
        · simp [h1]
      rw [← b,a,Int.neg_mul];omega
    rw [e3];omega
  · rw [ex]
    refine h.inv.jump hM.nn (fun k hk=>?_) fun r hr=>?_
    · have hk':k∈gs:=by simpa [fG] using hk
      have:=lo1 (rs.getD k 0 - xs.getD k 0) (List.mem_map.mpr ⟨k,hk',rfl⟩)
      unfold fX;omega
    · obtain ⟨k,hk,hr⟩:=hr
      have hw:=hws _ (qx hk)
      obtain ⟨r0,r1⟩:=hw.2 r hr
      obtain ⟨rn,rfl⟩:=Int.eq_ofNat_of_zero_le r0
      have hrn:rn<fs.length:=by omega
      have a:=key rn hrn
      rw [h.left rn hrn] at a
      rw [rM];exact a
end Tn
namespace Tn
def step1 (ws:List (List Int)) (rs:List Int) (s:List Int × List Int × List Nat) (k:Nat):List Int × List Int × List Nat :=
  if s.2.1.getD k 0<rs.getD k 0∧(fW ws k).all (fun r=>decide (0<s.1.getD r.toNat 0))=true then (bump s.1 (fW ws k) (-1),s.2.1.set k (s.2.1.getD k 0 + 1),s.2.2++[k]) else s
def jz (ws:List (List Int)) (rs:List Int) (gs:List Nat) (s:List Int × List Int × List Nat):List Int × List Int × List Nat:=gs.foldl (step1 ws rs) s
theorem rA (ws:List (List Int)) (rs:List Int) (gs:List Nat) (k:Nat) (s:List Int × List Int × List Nat):jz ws rs (gs++[k]) s=step1 ws rs (jz ws rs gs s) k:=by
  unfold jz;rw [List.foldl_append];rfl
def rem (rs xs:List Int) (n:Nat):Int:=jC n fun k=>fX rs k - fX xs k
structure Ni (fs:List Int) (ws:List (List Int)) (rs:List Int) (gs:List Nat) (t S0:Int) (i:Nat) (s:List Int × List Int × List Nat):Prop where
  ll:s.1.length=fs.length
  xl:s.2.1.length=ws.length
  left:∀ r:Nat,r<fs.length→s.1.getD r 0=fs.getD r 0 - hold ws.length (fW ws) (fX s.2.1) (r:Int)
  sub:s.2.2.Sublist (gs.take i)
  sum:rem rs s.2.1 ws.length + s.2.2.length=S0
  pv:∃ p,xJ ws.length (fF fs) (fW ws) (fX rs) (fX s.2.1) (fG gs) (fG s.2.2) t p∧p≤ws.length∧(∀ j (h:j<gs.length),i≤j→p≤gs[j])∧∀ j (h:j<gs.length),j<i→gs[j]<p
theorem qO.pass {fs:List Int} {ws:List (List Int)} {rs l xs:List Int} {gs:List Nat} {t:Int} (h:qO fs ws rs l xs gs t):Ni fs ws rs gs t (rem rs xs ws.length) 0 (l,xs,[]) :=
  ⟨h.ll,h.xl,h.left,by simp,by simp,0,by
    have:=h.inv.pass
    rw [show fG []=fun _=>false from by funext k;simp [fG]]
    exact this,Nat.zero_le _,fun _ _ _=>Nat.zero_le _,fun j _ hj=>absurd hj (Nat.not_lt_zero _)⟩
theorem Ni.step {fs:List Int} {ws:List (List Int)} {rs:List Int} {gs:List Nat} {t S0:Int} {i:Nat} {s:List Int × List Int × List Nat} (h:Ni fs ws rs gs t S0 i s) (srt:gs.Pairwise (·<·)) (hn:∀ k∈gs,k<ws.length) (hws:∀ w∈ws,WOk fs.length w) (hi:i<gs.length) :
    Ni fs ws rs gs t S0 (i + 1) (step1 ws rs s gs[i]):=by
  obtain ⟨l,xs,st⟩:=s
  obtain ⟨p,P0,pn,hp1,hp2⟩:=h.pv
  have hll:l.length=fs.length:=h.ll
  have hxl:xs.length=ws.length:=h.xl
  have hleft:∀ r:Nat,r<fs.length→l.getD r 0=fs.getD r 0 - hold ws.length (fW ws) (fX xs) (r:Int):=h.left
  have hsum:rem rs xs ws.length + st.length=S0:=h.sum
  have hsub:st.Sublist (gs.take i):=h.sub
  have P0:xJ ws.length (fF fs) (fW ws) (fX rs) (fX xs) (fG gs) (fG st) t p:=P0
  have hk:gs[i]<ws.length:=hn _ (List.getElem_mem hi)
  have inc:=List.pairwise_iff_getElem.mp srt
  have P1:=P0.skip (q:=gs[i]) (hp1 i hi (Nat.le_refl _)) fun k h1 h2=>by
    cases hg:fG gs k with
    | false=>rfl
    | true =>
      exfalso
      have hm:k∈gs:=by simpa [fG] using hg
      obtain ⟨j,hj,rfl⟩:=List.getElem_of_mem hm
      by_cases hji:j<i
      · have:=hp2 j hj hji
        omega
      · by_cases e:j=i
        · subst e;omega
        · have:=inc i j hi hj (by omega)
          omega
  have hG:fG gs gs[i]=true:=by simp [fG]
  have next1:∀ j (h:j<gs.length),i + 1≤j→gs[i] + 1≤gs[j]:=fun j hj hji=>inc i j hi hj (by omega)
  have next2:∀ j (h:j<gs.length),j<i + 1→gs[j]<gs[i] + 1:=fun j hj hji=>by
    by_cases e:j=i
    · subst e;omega
    · have:=inc j i hj hi (by omega)
      omega
  have wk:=hws _ (qx hk)
  have at_:∀ r∈fW ws gs[i],fF fs r - hold ws.length (fW ws) (fX xs) r=l.getD r.toNat 0:=fun r hr=>by
    obtain ⟨r0,r1⟩:=wk.2 r hr
    obtain ⟨rn,rfl⟩:=Int.eq_ofNat_of_zero_le r0
    rw [rM,Int.toNat_natCast,hleft rn (by omega)]
  by_cases hc:xs.getD gs[i] 0<rs.getD gs[i] 0∧(fW ws gs[i]).all (fun r=>decide (0<l.getD r.toNat 0))=true
  · have e:step1 ws rs (l,xs,st) gs[i]=(bump l (fW ws gs[i]) (-1),xs.set gs[i] (xs.getD gs[i] 0 + 1),st++[gs[i]]):=if_pos hc
    rw [e]
    have ex:fX (xs.set gs[i] (xs.getD gs[i] 0 + 1))=put (fX xs) gs[i] 1:=by
      funext k
      show (xs.set gs[i] (xs.getD gs[i] 0 + 1)).getD k 0=if k=gs[i] then xs.getD k 0 + 1 else xs.getD k 0
      rw [tR (by rw [hxl];exact hk)]
      by_cases z:k=gs[i]
      · rw [if_pos z,if_pos z,z]
      · rw [if_neg z,if_neg z]
    have P2:=P1.gets hk hG (by unfold fX;exact hc.1) fun r hr=>by
      rw [at_ r hr]
      have:=List.all_eq_true.mp hc.2 r hr
      simpa using this
    refine ⟨by rw [jN];exact hll,by rw [List.length_set];exact hxl,fun r hr=>?_,?_,?_,gs[i] + 1,?_,by omega,next1,next2⟩
    · show (bump l (fW ws gs[i]) (-1)).getD r 0=fs.getD r 0 - hold ws.length (fW ws) (fX (xs.set gs[i] (xs.getD gs[i] 0 + 1))) (r:Int)
      rw [oH wk.1 (by rw [hll];exact wk.2) r,hleft r hr,ex,tQ hk]
      split <;> omega
    · show (st++[gs[i]]).Sublist (gs.take (i + 1))
      rw [List.take_add_one,List.getElem?_eq_getElem hi]
      exact hsub.append (List.Sublist.refl _)
    · show rem rs (xs.set gs[i] (xs.getD gs[i] 0 + 1)) ws.length + ((st++[gs[i]]).length:Nat)=S0
      have a:rem rs (xs.set gs[i] (xs.getD gs[i] 0 + 1)) ws.length=rem rs xs ws.length - 1:=by
        unfold rem
        rw [ex,sI,sI]
        have:jC ws.length (put (fX xs) gs[i] 1)=jC ws.length (fX xs) + 1:=by
          have b:∀ k,k<ws.length→put (fX xs) gs[i] 1 k=fX xs k + (if k=gs[i] then 1 else 0):=fun k _=>by
            unfold put;split <;> omega
          rw [bL b,j4,mW _ hk]
        omega
      rw [a,List.length_append,List.length_singleton]
      omega
    · show xJ ws.length (fF fs) (fW ws) (fX rs) (fX (xs.set gs[i] (xs.getD gs[i] 0 + 1))) (fG gs) (fG (st++[gs[i]])) t (gs[i] + 1)
      rw [ex,show fG (st++[gs[i]])=fun k=>if k=gs[i] then true else fG st k from by
        funext k
        by_cases z:k=gs[i]
        · simp [fG,z]
        · simp [fG,z]]
      exact P2
  · have e:step1 ws rs (l,xs,st) gs[i]=(l,xs,st):=if_neg hc
    rw [e]
    refine ⟨hll,hxl,hleft,?_,hsum,gs[i] + 1,P1.ends hk hG ?_,by omega,next1,next2⟩
    · exact hsub.trans (by rw [List.take_add_one];exact List.sublist_append_left _ _)
    · by_cases z:xs.getD gs[i] 0<rs.getD gs[i] 0
      · have hno:¬ (fW ws gs[i]).all (fun r=>decide (0<l.getD r.toNat 0))=true:=fun y=>hc ⟨z,y⟩
        refine .inr ?_
        refine Classical.byContradiction fun hx=>hno (List.all_eq_true.mpr fun r hr=>?_)
        refine decide_eq_true ?_
        refine Classical.byContradiction fun hle=>hx ⟨r,hr,?_⟩
        rw [at_ r hr];omega
      · exact .inl (by unfold fX;omega)
theorem Ni.finish {fs:List Int} {ws:List (List Int)} {rs:List Int} {gs:List Nat} {t S0:Int} {s:List Int × List Int × List Nat} (h:Ni fs ws rs gs t S0 gs.length s) (srt:gs.Pairwise (·<·)):qO fs ws rs s.1 s.2.1 s.2.2 (t + 1):=by
  obtain ⟨p,P0,pn,hp1,hp2⟩:=h.pv
  have P1:=P0.skip (q:=ws.length) pn fun k h1 h2=>by
    cases hg:fG gs k with
    | false=>rfl
    | true =>
      exfalso
      have hm:k∈gs:=by simpa [fG] using hg
      obtain ⟨j,hj,rfl⟩:=List.getElem_of_mem hm
      have:=hp2 j hj hj
      omega
  have hsub:=h.sub
  rw [List.take_of_length_le (Nat.le_refl _)] at hsub
  exact ⟨h.ll,h.xl,h.left,srt.sublist hsub,P1.finish⟩
theorem Ag {fs:List Int} {ws:List (List Int)} {rs l xs:List Int} {gs:List Nat} {t:Int} (h:qO fs ws rs l xs gs t) (hws:∀ w∈ws,WOk fs.length w):∀ i,i≤gs.length→Ni fs ws rs gs t (rem rs xs ws.length) i (jz ws rs (gs.take i) (l,xs,[])):=by
  intro i
  induction i with
  | zero=>intro _;exact h.pass
  | succ i ih =>
    intro hi
    rw [List.take_add_one,List.getElem?_eq_getElem (by omega:i<gs.length)]
    show Ni fs ws rs gs t _ (i + 1) (jz ws rs (gs.take i++[gs[i]]) (l,xs,[]))
    rw [rA]
    exact (ih (by omega)).step h.srt (fun k hk=>(h.going k hk).1) hws (by omega)
theorem qO.one {fs:List Int} {ws:List (List Int)} {rs l xs:List Int} {gs:List Nat} {t:Int} (h:qO fs ws rs l xs gs t) (hws:∀ w∈ws,WOk fs.length w) :
    qO fs ws rs (jz ws rs gs (l,xs,[])).1 (jz ws rs gs (l,xs,[])).2.1 (jz ws rs gs (l,xs,[])).2.2 (t + 1)∧rem rs (jz ws rs gs (l,xs,[])).2.1 ws.length + ((jz ws rs gs (l,xs,[])).2.2.length:Nat)=rem rs xs ws.length:=by
  have q:=Ag h hws gs.length (Nat.le_refl _)
  rw [List.take_of_length_le (Nat.le_refl _)] at q
  exact ⟨q.finish h.srt,q.sum⟩
theorem qO.GZ {fs:List Int} {ws:List (List Int)} {rs l xs:List Int} {gs:List Nat} {t:Int} (h:qO fs ws rs l xs gs t):0≤rem rs xs ws.length:=wu fun k hk=>by
  have:=h.inv.fit.le k hk
  omega
theorem Bt {fs:List Int} {ws:List (List Int)} {rs l xs:List Int} {gs:List Nat} {t M:Int} (h:qO fs ws rs l xs gs t) (hM:0≤M):rem rs (bump xs (asI gs) M) ws.length≤rem rs xs ws.length:=by
  refine sJ fun k hk=>?_
  have ok:=Cz (gO h.srt) (n:=xs.length) fun k hk=>by rw [h.xl];exact (h.going k hk).1
  have:fX (bump xs (asI gs) M) k=fX xs k + (if (k:Int)∈asI gs then M else 0):=oH ok.1 ok.2 k
  rw [this]
  split <;> omega
end Tn
namespace Tn
theorem WOk.len {n:Nat} {w:List Int} (h:WOk n w):w.length≤n:=by
  have:=List.Nodup.length_le_of_subset (l₂:=asI (List.range n)) h.1 fun r hr=>by
    obtain ⟨r0,r1⟩:=h.2 r hr
    obtain ⟨k,rfl⟩:=Int.eq_ofNat_of_zero_le r0
    exact tK.mpr (List.mem_range.mpr (by omega))
  simpa [asI] using this
theorem xZ (r:Int):∀ ws:List (List Int),((ws.map fun w=>(w,(1:Int))).map fun p=>if r∈p.1 then p.2 else 0).sum≤(ws.length:Int)
  | []=>by simp
  | w :: ws=>by
    have:=xZ r ws
    simp only [List.map_cons,List.sum_cons,List.length_cons]
    split <;> omega
theorem cw_bound {n:Nat} {ws:List (List Int)} (hws:∀ w∈ws,WOk n w):∀ c∈bumps (List.replicate n 0) (ws.map fun w=>(w,(1:Int))),c≤(ws.length:Int):=fun c hc=>by
  obtain ⟨k,hk,rfl⟩:=List.getElem_of_mem hc
  have e:(bumps (List.replicate n 0) (ws.map fun w=>(w,(1:Int))))[k]=(bumps (List.replicate n 0) (ws.map fun w=>(w,(1:Int)))).getD k 0:=by
    rw [List.getD_eq_getElem?_getD,List.getElem?_eq_getElem hk];rfl
  rw [e,oG (fun p hp=>by
    obtain ⟨w,hw,rfl⟩:=List.mem_map.mp hp
    rw [List.length_replicate];exact hws w hw) k,jM]
  have:=xZ (k:Int) ws
  omega
theorem wD {fs cs:List Int} {i:Nat} {f c:Int} (hf:fs[i]?=some f) (hc:cs[i]?=some c):shares (fs.take (i + 1)) (cs.take (i + 1))=shares (fs.take i) (cs.take i)++(if 0<c then [f / c] else []):=by
  have l1:=(List.getElem?_eq_some_iff.mp hf).1
  have l2:=(List.getElem?_eq_some_iff.mp hc).1
  unfold shares
  rw [List.take_add_one,List.take_add_one,hf,hc,List.zip_append (by rw [List.length_take,List.length_take];omega),List.filter_append,List.map_append]
  congr 1
  by_cases h:0<c
  · simp [h]
  · simp [h]
theorem jx {gs:List Nat} {i:Nat} {z:Int} (h:(asI gs)[i]?=some z):∃ k:Nat,gs[i]?=some k∧z=(k:Int):=by
  unfold asI at h
  rw [List.getElem?_map] at h
  cases e:gs[i]? with
  | none=>rw [e] at h;cases h
  | some k=>rw [e] at h;exact ⟨k,rfl,(Option.some.inj h).symm⟩
theorem vm (gs:List Nat) (i:Nat):(asI gs).take i=asI (gs.take i):=by unfold asI;rw [List.map_take]
theorem jl (gs:List Nat):(asI gs).length=gs.length:=by unfold asI;rw [List.length_map]
theorem zj {rs xs:List Int} {gs:List Nat} {i k:Nat} (h:gs[i]?=some k):unmet rs xs (gs.take (i + 1))=unmet rs xs (gs.take i)++[rs.getD k 0 - xs.getD k 0]:=by
  unfold unmet;rw [List.take_add_one,h,List.map_append];rfl
theorem gw {α β:Type} {f:α→β} {gs:List α} {i:Nat} {k:α} (h:gs[i]?=some k):(gs.take (i + 1)).map f=(gs.take i).map f++[f k]:=by
  rw [List.take_add_one,h,List.map_append];rfl
theorem kh {α:Type} {gs:List α} {i:Nat} {k:α} (h:gs[i]?=some k):gs.take (i + 1)=gs.take i++[k]:=by
  rw [List.take_add_one,h];rfl
theorem zp {ws:List (List Int)} {rs:List Int} {gs:List Nat} {i k:Nat} {s:List Int × List Int × List Nat} (h:gs[i]?=some k):jz ws rs (gs.take (i + 1)) s=step1 ws rs (jz ws rs (gs.take i) s) k:=by
  rw [kh h];exact rA _ _ _ _ _
theorem Aq (ws:List (List Int)) (rs:List Int) (s:List Int × List Int × List Nat) (k:Nat):(step1 ws rs s k).1.length=s.1.length∧(step1 ws rs s k).2.1.length=s.2.1.length∧(step1 ws rs s k).2.2.length≤s.2.2.length + 1:=by
  unfold step1
  split
  · exact ⟨jN _ _ _,List.length_set,by simp⟩
  · exact ⟨rfl,rfl,by omega⟩
theorem uy (ws:List (List Int)) (rs:List Int):∀ (gs:List Nat) (s:List Int × List Int × List Nat),(jz ws rs gs s).1.length=s.1.length∧(jz ws rs gs s).2.1.length=s.2.1.length∧(jz ws rs gs s).2.2.length≤s.2.2.length + gs.length
  | [],s=>⟨rfl,rfl,by simp [jz]⟩
  | k :: gs,s=>by
    have a:=Aq ws rs s k
    have b:=uy ws rs gs (step1 ws rs s k)
    have e:jz ws rs (k :: gs) s=jz ws rs gs (step1 ws rs s k):=rfl
    rw [e]
    refine ⟨by rw [b.1,a.1],by rw [b.2.1,a.2.1],?_⟩
    have:=b.2.2
    rw [List.length_cons];omega
end Tn
namespace Tn
end Tn
namespace Tn
end Tn
namespace Tn
structure Grp (day:Nat→Int) (q:List Nat) (gs:List (Int × List Nat)):Prop where
  flat:(gs.map (·.2)).flatten=q
  ord:(gs.map (·.1)).Pairwise (·<·)
  grp:∀ g∈gs,g.2≠[]∧∀ k∈g.2,day k=g.1
theorem Grp.start (day:Nat→Int):Grp day [] []:=⟨rfl,.nil,fun _ h=>nomatch h⟩
theorem Grp.mem {day:Nat→Int} {q:List Nat} {gs:List (Int × List Nat)} (h:Grp day q gs) {g:Int × List Nat} (hg:g∈gs):∃ k∈q,day k=g.1:=by
  obtain ⟨h1,h2⟩:=h.grp g hg
  cases e:g.2 with
  | nil=>exact absurd e h1
  | cons k r =>
    refine ⟨k,?_,h2 k (by rw [e];exact List.mem_cons_self)⟩
    rw [← h.flat]
    exact List.mem_flatten.mpr ⟨g.2,List.mem_map_of_mem hg,by rw [e];exact List.mem_cons_self⟩
theorem Grp.new {day:Nat→Int} {q:List Nat} {gs:List (Int × List Nat)} {k:Nat} (h:Grp day q gs) (hn:∀ g∈gs,g.1≠day k) (hq:∀ j∈q,day j≤day k):Grp day (q++[k]) (gs++[(day k,[k])]):=by
  refine ⟨?_,?_,fun g hg=>?_⟩
  · rw [List.map_append,List.flatten_append,h.flat];rfl
  · rw [List.map_append,List.pairwise_append]
    refine ⟨h.ord,by simp,fun a ha b hb=>?_⟩
    obtain ⟨g,hg,rfl⟩:=List.mem_map.mp ha
    have hb:b=day k:=by simpa using hb
    subst hb
    obtain ⟨j,hj,e⟩:=h.mem hg
    have:=hq j hj
    have:=hn g hg
    omega
  · rcases List.mem_append.mp hg with e | e
    · exact h.grp g e
    · have:g=(day k,[k]):=by simpa using e
      subst this
      exact ⟨by simp,fun j hj=>by
        have:j=k:=by simpa using hj
        rw [this]⟩
theorem Grp.last {day:Nat→Int} {q:List Nat} {gs:List (Int × List Nat)} {k j:Nat} {g:Int × List Nat} (h:Grp day q gs) (hj:gs[j]?=some g) (hk:g.1=day k) (hq:∀ j∈q,day j≤day k):gs=gs.take j++[g]:=by
  obtain ⟨hl,e⟩:=List.getElem?_eq_some_iff.mp hj
  have hlen:gs.length=j + 1:=by
    refine Nat.le_antisymm (Nat.le_of_not_lt fun hlt=>?_) hl
    have ord:=List.pairwise_iff_getElem.mp h.ord j (j + 1) (by rw [List.length_map];exact hl) (by rw [List.length_map];exact hlt) (by omega)
    rw [List.getElem_map,List.getElem_map,e] at ord
    obtain ⟨i,hi,ei⟩:=h.mem (List.getElem_mem (l:=gs) (n:=j + 1) hlt)
    have:=hq i hi
    omega
  have:gs.take (j + 1)=gs.take j++[g]:=kh hj
  rw [← this,List.take_of_length_le (by omega)]
theorem Grp.more {day:Nat→Int} {q:List Nat} {gs:List (Int × List Nat)} {k j:Nat} {g:Int × List Nat} (h:Grp day q gs) (hj:gs[j]?=some g) (hk:g.1=day k) (hq:∀ j∈q,day j≤day k):Grp day (q++[k]) (gs.set j (g.1,g.2++[k])):=by
  have e:=h.last hj hk hq
  have hl:=(List.getElem?_eq_some_iff.mp hj).1
  have es:gs.set j (g.1,g.2++[k])=gs.take j++[(g.1,g.2++[k])]:=by
    conv=>lhs;rw [e]
    have:(gs.take j).length=j:=by rw [List.length_take];omega
    rw [List.set_append,if_neg (by omega),this,Nat.sub_self];rfl
  have hf:=h.flat
  have ho:=h.ord
  rw [e] at hf ho
  rw [List.map_append,List.flatten_append] at hf
  rw [List.map_append] at ho
  rw [es]
  refine ⟨?_,?_,fun g' hg'=>?_⟩
  · rw [List.map_append,List.flatten_append,← hf];simp
  · rw [List.map_append];exact ho
  · rcases List.mem_append.mp hg' with e' | e'
    · exact h.grp g' (List.mem_of_mem_take e')
    · have:g'=(g.1,g.2++[k]):=by simpa using e'
      subst this
      refine ⟨by simp,fun i hi=>?_⟩
      rcases List.mem_append.mp hi with z | z
      · exact (h.grp g (List.mem_of_getElem? hj)).2 i z
      · have:i=k:=by simpa using z
        rw [this,hk]
structure Rk (day:Nat→Int) (n:Nat) (p:List Nat):Prop where
  perm:p.Perm (List.range n)
  ord:p.Pairwise fun i j=>day i<day j∨day i=day j∧i<j
theorem Rk.len {day:Nat→Int} {n:Nat} {p:List Nat} (h:Rk day n p):p.length=n:=by rw [h.perm.length_eq,List.length_range]
theorem Rk.lt {day:Nat→Int} {n:Nat} {p:List Nat} (h:Rk day n p) {j:Nat} (hj:j∈p):j<n:=List.mem_range.mp (h.perm.mem_iff.mp hj)
theorem Rk.before {day:Nat→Int} {n:Nat} {p:List Nat} (h:Rk day n p) {i k:Nat} (hi:p[i]?=some k):∀ j∈p.take i,day j≤day k:=fun j hj=>by
  obtain ⟨hl,e⟩:=List.getElem?_eq_some_iff.mp hi
  obtain ⟨m,hm,em⟩:=List.getElem_of_mem hj
  rw [List.length_take] at hm
  rw [List.getElem_take] at em
  have:=List.pairwise_iff_getElem.mp h.ord m i (by omega) hl (by omega)
  rw [em,e] at this
  omega
theorem pP {α:Type}:∀ {L:List (List α)} {g:List α},g∈L→g.Sublist L.flatten
  | [],_,h=>nomatch h
  | x :: L,g,h=>by
    rw [List.flatten_cons]
    rcases List.mem_cons.mp h with e | e
    · rw [e];exact List.sublist_append_left _ _
    · exact (pP e).trans (List.sublist_append_right _ _)
theorem Grp.up {day:Nat→Int} {n:Nat} {p:List Nat} {gs:List (Int × List Nat)} (h:Grp day p gs) (r:Rk day n p) {g:Int × List Nat} (hg:g∈gs):g.2.Pairwise (·<·):=by
  have hs:g.2.Sublist p:=by rw [← h.flat];exact pP (List.mem_map_of_mem hg)
  have:=r.ord.sublist hs
  refine List.Pairwise.imp_of_mem (fun {a b} ha hb hab=>?_) this
  have ea:=(h.grp g hg).2 a ha
  have eb:=(h.grp g hg).2 b hb
  omega
def inG (gs:List (Int × List Nat)) (j:Nat) (k:Nat):Prop:=∃ g∈gs.take j,k∈g.2
theorem Fx (gs:List (Int × List Nat)) (k:Nat):¬ inG gs 0 k:=fun ⟨_,h,_⟩=>by simp at h
theorem Fy {gs:List (Int × List Nat)} {j:Nat} {g:Int × List Nat} (h:gs[j]?=some g) (k:Nat):inG gs (j + 1) k↔inG gs j k∨k∈g.2:=by
  unfold inG
  rw [kh h]
  constructor
  · rintro ⟨g',h1,h2⟩
    rcases List.mem_append.mp h1 with e | e
    · exact .inl ⟨g',e,h2⟩
    · have:g'=g:=by simpa using e
      rw [this] at h2;exact .inr h2
  · rintro (⟨g',h1,h2⟩ | h)
    · exact ⟨g',List.mem_append_left _ h1,h2⟩
    · exact ⟨g,List.mem_append_right _ (by simp),h⟩
theorem Grp.all {day:Nat→Int} {n:Nat} {p:List Nat} {gs:List (Int × List Nat)} (h:Grp day p gs) (r:Rk day n p) {k:Nat} (hk:k<n):inG gs gs.length k:=by
  have hm:k∈p:=r.perm.mem_iff.mpr (List.mem_range.mpr hk)
  rw [← h.flat] at hm
  obtain ⟨l,hl,hkl⟩:=List.mem_flatten.mp hm
  obtain ⟨g,hg,rfl⟩:=List.mem_map.mp hl
  exact ⟨g,by rw [List.take_length];exact hg,hkl⟩
theorem Grp.later {day:Nat→Int} {p:List Nat} {gs:List (Int × List Nat)} (h:Grp day p gs) {j:Nat} {g:Int × List Nat} (hj:gs[j]?=some g) {k:Nat} (hk:inG gs j k):day k<g.1:=by
  obtain ⟨g',h1,h2⟩:=hk
  obtain ⟨hl,e⟩:=List.getElem?_eq_some_iff.mp hj
  obtain ⟨m,hm,em⟩:=List.getElem_of_mem h1
  rw [List.length_take] at hm
  rw [List.getElem_take] at em
  have ord:=List.pairwise_iff_getElem.mp h.ord m j (by rw [List.length_map];omega) (by rw [List.length_map];exact hl) (by omega)
  rw [List.getElem_map,List.getElem_map,e,em] at ord
  rw [(h.grp g' (List.mem_of_mem_take h1)).2 k h2];exact ord
end Tn
namespace Tn
theorem mG {n:Nat} {W W':Nat→List Int} {x x':Nat→Int} (hW:∀ k,k<n→W k=W' k) (hx:∀ k,k<n→x k=x' k) (r:Int):hold n W x r=hold n W' x' r :=
  bL fun k hk=>by rw [hW k hk,hx k hk]
theorem Fit.qU {n:Nat} {F F':Int→Int} {W W':Nat→List Int} {want want' x x':Nat→Int} (h:Fit n F W want x) (hW:∀ k,k<n→W k=W' k) (hw:∀ k,k<n→want k=want' k) (hx:∀ k,k<n→x k=x' k) (hF:∀ r,(∃ k,k<n∧r∈W k)→F r=F' r):Fit n F' W' want' x':=by
  refine ⟨fun k hk=>by rw [← hx k hk];exact h.nn k hk,fun k hk=>by rw [← hx k hk,← hw k hk];exact h.le k hk,fun r hr=>?_⟩
  obtain ⟨k,hk,hm⟩:=hr
  have hr:∃ k,k<n∧r∈W k:=⟨k,hk,by rw [hW k hk];exact hm⟩
  rw [← mG hW hx r,← hF r hr]
  exact h.fits r hr
theorem uf.qU {n:Nat} {F F':Int→Int} {W W':Nat→List Int} {day want want' x x':Nat→Int} (h:uf n F W day want x) (hW:∀ k,k<n→W k=W' k) (hw:∀ k,k<n→want k=want' k) (hx:∀ k,k<n→x k=x' k) (hF:∀ r,(∃ k,k<n∧r∈W k)→F r=F' r):uf n F' W' day want' x':=by
  intro k hk hl
  rw [← hx k hk,← hw k hk] at hl
  obtain ⟨r,h1,h2,h3⟩:=h k hk hl
  refine ⟨r,by rw [← hW k hk];exact h1,by rw [← mG hW hx r,← hF r ⟨k,hk,h1⟩];exact h2,fun j hj hr hp=>?_⟩
  rw [← hx j hj,← hx k hk]
  exact h3 j hj (by rw [hW j hj];exact hr) (by rw [hx j hj];exact hp)
theorem zV.qU {n:Nat} {F:Int→Int} {W:Nat→List Int} {day want x x':Nat→Int} {Pz Pz':Nat→Prop} (D:zV n F W day want x Pz) (hx:∀ k,x k=x' k) (hP:∀ k,Pz k↔Pz' k):zV n F W day want x' Pz':=by
  have e:x=x':=funext hx
  have e':Pz=Pz':=funext fun k=>propext (hP k)
  rw [← e,← e'];exact D
structure zU (n:Nat) (fs:List Int) (W:Nat→List Int) (day want:Nat→Int) (gs:List (Int × List Nat)) (j:Nat) (xs fl:List Int):Prop where
  xl:xs.length=n
  fll:fl.length=fs.length
  left:∀ i:Nat,i<fs.length→fl.getD i 0=fs.getD i 0 - hold n W (fX xs) (i:Int)
  inv:zV n (fF fs) W day want (fX xs) (inG gs j)
theorem Ce {fs:List Int} {a:Int} (h:a∈fs):∃ i,i<fs.length∧fs.getD i 0=a:=by
  obtain ⟨i,hi,e⟩:=List.getElem_of_mem h
  exact ⟨i,hi,by rw [List.getD_eq_getElem?_getD,List.getElem?_eq_getElem hi];exact e⟩
theorem oE {fs:List Int} {i:Nat} (h:i<fs.length):fs.getD i 0∈fs:=by
  rw [List.getD_eq_getElem?_getD,List.getElem?_eq_getElem h];exact List.getElem_mem h
theorem Yj {fs:List Int} (hf:∀ a∈fs,0≤a) (r:Int):0≤fF fs r:=by
  unfold fF
  by_cases h:r.toNat<fs.length
  · exact hf _ (oE h)
  · rw [List.getD_eq_getElem?_getD,List.getElem?_eq_none (by omega)];exact Int.le_refl _
theorem zU.start {n:Nat} {fs:List Int} {W:Nat→List Int} {day want:Nat→Int} (gs:List (Int × List Nat)) (hw:∀ k,k<n→0≤want k) (hf:∀ a∈fs,0≤a):zU n fs W day want gs 0 (List.replicate n 0) fs:=by
  have e:∀ k,fX (List.replicate n 0) k=0:=fun k=>jM n k
  refine ⟨by simp,rfl,fun i _=>?_,?_⟩
  · have:hold n W (fX (List.replicate n 0)) (i:Int)=0:=by
      rw [mG (W':=W) (x':=fun _=>0) (fun _ _=>rfl) (fun k _=>e k),jy]
    omega
  · exact (zV.start (day:=day) hw fun r _=>Yj hf r).qU (fun k=>(e k).symm) fun k=>⟨fun z=>z.elim,fun z=>absurd z (Fx gs k)⟩
theorem CG {n:Nat} {W:Nat→List Int} {x:Nat→Int} {r:Int} (h:¬ ∃ k,k<n∧r∈W k):hold n W x r=0:=by
  unfold hold
  rw [bL (g:=fun _=>0) fun k hk=>if_neg fun z=>h ⟨k,hk,z⟩,jq]
theorem zU.nn {n:Nat} {fs:List Int} {W:Nat→List Int} {day want:Nat→Int} {gs:List (Int × List Nat)} {j:Nat} {xs fl:List Int} (h:zU n fs W day want gs j xs fl) (hf:∀ a∈fs,0≤a):∀ a∈fl,0≤a:=fun a ha=>by
  obtain ⟨i,hi,rfl⟩:=Ce ha
  rw [h.fll] at hi
  rw [h.left i hi]
  by_cases hw:∃ k,k<n∧(i:Int)∈W k
  · have:=h.inv.fit.fits (i:Int) hw
    rw [rM] at this
    omega
  · rw [CG hw]
    have:=hf _ (oE hi)
    omega
theorem zU.step {n:Nat} {fs:List Int} {W:Nat→List Int} {day want:Nat→Int} {gs:List (Int × List Nat)} {j:Nat} {xs fl ys left cur:List Int} {q:List Nat} {t:Int} {g:Int × List Nat} (h:zU n fs W day want gs j xs fl) (G:Grp day q gs) (R:Rk day n q) (hj:gs[j]?=some g)
    (hW:∀ k,k<n→WOk fs.length (W k)) (L:qO fl (g.2.map W) (g.2.map want) left ys [] t) (hcl:cur.length=n) (hc:∀ k,fX cur k=over (fX xs) g.2 (fX ys) k):zU n fs W day want gs (j + 1) cur left:=by
  have hgm:=List.mem_of_getElem? hj
  have up:=G.up R hgm
  have nd:=gO up
  have hlt:∀ k∈g.2,k<n:=fun k hk=>R.lt (by rw [← G.flat];exact List.mem_flatten.mpr ⟨g.2,List.mem_map_of_mem hgm,hk⟩)
  have hn:∀ k∈g.2,¬ inG gs j k:=fun k hk z=>by
    have:=G.later hj z
    have:=(G.grp g hgm).2 k hk
    omega
  have hz:∀ k∈g.2,fX xs k=0:=fun k hk=>h.inv.zero k (hlt k hk) (hn k hk)
  have hlen:(g.2.map W).length=g.2.length:=List.length_map _
  have eW:∀ i,i<(g.2.map W).length→fW (g.2.map W) i=W (g.2.getD i 0):=fun i hi=>by
    rw [hlen] at hi
    unfold fW
    rw [List.getD_eq_getElem?_getD,List.getElem?_map,List.getElem?_eq_getElem hi,mH hi];rfl
  have ew:∀ i,i<(g.2.map W).length→fX (g.2.map want) i=want (g.2.getD i 0):=fun i hi=>by
    rw [hlen] at hi
    unfold fX
    rw [List.getD_eq_getElem?_getD,List.getElem?_map,List.getElem?_eq_getElem hi,mH hi];rfl
  have eF:∀ r,(∃ k,k<(g.2.map W).length∧r∈fW (g.2.map W) k)→fF fl r=fF fs r - hold n W (fX xs) r:=fun r hr=>by
    obtain ⟨i,hi,hm⟩:=hr
    rw [eW i hi] at hm
    have hk:g.2.getD i 0<n:=hlt _ (by rw [mH (by omega)];exact List.getElem_mem (by omega))
    obtain ⟨r0,r1⟩:=(hW _ hk).2 r hm
    obtain ⟨rn,rfl⟩:=Int.eq_ofNat_of_zero_le r0
    rw [rM,rM]
    exact h.left rn (by omega)
  obtain ⟨fy,sy⟩:=L.inv.finish fun k _=>by simp [fG]
  have fy:=fy.qU eW ew (x':=fX ys) (fun _ _=>rfl) eF
  have sy:=sy.qU eW ew (x':=fX ys) (fun _ _=>rfl) eF
  rw [hlen] at fy sy
  have st:=h.inv.step up (d:=g.1) (fun k hk=>⟨hlt k hk,(G.grp g hgm).2 k hk,hn k hk⟩) (fun k hk=>G.later hj hk) fy sy
  refine ⟨hcl,by rw [L.ll,h.fll],fun i hi=>?_,st.qU (fun k=>(hc k).symm) fun k=>(Fy hj k).symm⟩
  rw [L.left i (by rw [h.fll];exact hi),h.left i hi,mG (W':=W) (x':=over (fX xs) g.2 (fX ys)) (fun _ _=>rfl) (fun k _=>hc k) (i:Int),vo (i:Int) nd hlt hz,mG (x':=fX ys) eW (fun _ _=>rfl) (i:Int),hlen]
  omega
theorem zU.finish {n:Nat} {fs:List Int} {W:Nat→List Int} {day want:Nat→Int} {gs:List (Int × List Nat)} {xs fl:List Int} {q:List Nat} (h:zU n fs W day want gs gs.length xs fl) (G:Grp day q gs) (R:Rk day n q):Fit n (fF fs) W want (fX xs)∧uf n (fF fs) W day want (fX xs) :=
  h.inv.finish fun k hk=>G.all R hk
theorem BK {x y:Nat→Int} {g:List Nat} {i m:Nat} (nd:g.Nodup) (h:g[i]?=some m) (k:Nat):over x (g.take (i + 1)) y k=if k=m then y i else over x (g.take i) y k:=by
  obtain ⟨hi,e⟩:=List.getElem?_eq_some_iff.mp h
  have hm:¬ m∈g.take i:=fun z=>by
    obtain ⟨a,ha,ea⟩:=List.getElem_of_mem z
    rw [List.length_take] at ha
    rw [List.getElem_take] at ea
    have:=(List.getElem_inj nd).mp (ea.trans e.symm)
    omega
  unfold over
  rw [kh h]
  by_cases hk:k=m
  · subst hk
    rw [if_pos rfl,if_pos (by simp),List.idxOf_append,if_neg hm,List.length_take]
    simp
    congr 1
    omega
  · rw [if_neg hk]
    by_cases hb:k∈g.take i
    · rw [if_pos (by simp [hb]),if_pos hb,List.idxOf_append,if_pos hb]
    · rw [if_neg (by simp [hb,hk]),if_neg hb]
end Tn
namespace Rv
theorem Eh {r:List Int} (h:dU r) {p b:Int} (h0:0≤p) (h1:p<r.length):Tn.WOk r.length (bQ r p b):=⟨pN h h0 h1,fun q hq=>mV h p h0 h1 q (nR hq)⟩
end Rv
namespace Rv
structure Lnk (n:Nat) (sp:Nat→Int) (k:Nat) (b:List Int):Prop where
  len:b.length=n
  at_:∀ (i:Nat) (x:Int),b[i]?=some x→x=-1∨∃ j m,j<m∧m<k∧m<n∧sp m=(i:Int)∧x=sp j
theorem Lnk.skip {n:Nat} {sp:Nat→Int} {k:Nat} {b:List Int} (h:Lnk n sp k b):Lnk n sp (k + 1) b :=
  ⟨h.len,fun i x hx=>(h.at_ i x hx).imp id fun ⟨j,m,h1,h2,h3⟩=>⟨j,m,h1,by omega,h3⟩⟩
theorem Lnk.turn {n:Nat} {sp:Nat→Int} {k j:Nat} {b:List Int} (h:Lnk n sp k b) (hk:k<n) (hj:j<k) (h0:0≤sp k):Lnk n sp (k + 1) (b.set (sp k).toNat (sp j)):=by
  refine ⟨by rw [List.length_set];exact h.len,fun i x hx=>?_⟩
  rw [List.getElem?_set] at hx
  split at hx
  · rename_i e
    split at hx
    · exact .inr ⟨j,k,hj,by omega,hk,by omega,(Option.some.inj hx).symm⟩
    · cases hx
  · exact h.skip.at_ i x hx
theorem Lnk.WK {n:Nat} {sp:Nat→Int} {k:Nat} {b:List Int} (h:Lnk n sp k b) (h0:∀ k,0≤sp k) (h1:∀ k,sp k<n) (inj:∀ j k,j<n→k<n→sp j=sp k→j=k) (hn:0<n):dU b:=by
  classical
  let rk:Nat→Nat:=fun i=>if h:∃ k,k<n∧sp k=(i:Int) then h.choose else 0
  have rk_at:∀ k,k<n→rk (sp k).toNat=k:=fun k hk=>by
    have hex:∃ m,m<n∧sp m=((sp k).toNat:Int):=⟨k,hk,by have:=h0 k;omega⟩
    show (if h:∃ m,m<n∧sp m=((sp k).toNat:Int) then h.choose else 0)=k
    rw [dif_pos hex]
    obtain ⟨a1,a2⟩:=hex.choose_spec
    exact inj _ _ a1 hk (by have:=h0 k;omega)
  refine ⟨rk,fun i _=>?_,fun i x hx=>?_⟩
  · rw [h.len]
    show (if h:∃ k,k<n∧sp k=(i:Int) then h.choose else 0)<n
    split
    · rename_i hex;exact hex.choose_spec.1
    · exact hn
  · rcases h.at_ i x hx with e | ⟨j,m,hjm,_,hm,e,rfl⟩
    · exact .inl e
    · refine .inr ⟨h0 j,by rw [h.len];exact h1 j,?_⟩
      have ei:i=(sp m).toNat:=by have:=h0 m;omega
      rw [ei,rk_at m hm,rk_at j (by omega)]
      exact hjm
end Rv
namespace Tn
end Tn
namespace Rv
theorem sG (f:Nat→Int):∀ n,tot n f=Tn.jC n f
  | 0=>rfl
  | n + 1=>by show tot n f + f n=Tn.jC n f + f n;rw [sG f n]
theorem wZ {r s:List Int} {t:Int} (h0:0≤t) (h1:t<r.length):Tn.fF (nats r s) t=kO r s t:=by
  unfold Tn.fF nats
  rw [List.getD_eq_getElem?_getD,List.getElem?_map,List.getElem?_range (by omega)]
  show kO r s (t.toNat:Int)=_
  rw [Int.toNat_of_nonneg h0]
end Rv
namespace Tn
end Tn
namespace Tn
end Tn
namespace Rv
end Rv
namespace Tn
end Tn
namespace Rv
theorem Ao:∀ n:Fin 41,∀ d:Fin 41,d.val<n.val→d.val≠0→(1 * d.val) % n.val≠0∧(41 * d.val) % n.val≠0∧(43 * d.val) % n.val≠0∧(47 * d.val) % n.val≠0:=by decide +kernel
def p8 (n s x:Int) (k:Nat):Int:=(s * (k:Int) + x) % n
theorem yd {n s x:Int} (hn:0<n) (k:Nat):0≤p8 n s x k:=Int.emod_nonneg _ (by omega)
theorem yg {n s x:Int} (hn:0<n) (k:Nat):p8 n s x k<n:=Int.emod_lt_of_pos _ hn
theorem uJ {n:Nat} {s x:Int} (h40:n≤40) (hs:s=1∨s=41∨s=43∨s=47) {j k:Nat} (hk:k<n) (hjk:j<k):p8 n s x j≠p8 n s x k:=by
  intro h
  unfold p8 at h
  have h2:((s * (k:Int) + x) - (s * (j:Int) + x)) % (n:Int)=0:=Int.emod_eq_emod_iff_emod_sub_eq_zero.mp h.symm
  have e:(s * (k:Int) + x) - (s * (j:Int) + x)=s * ((k - j:Nat):Int):=by
    rw [Int.ofNat_sub (by omega),Int.mul_sub];omega
  rw [e] at h2
  obtain ⟨f1,f2,f3,f4⟩:=Ao ⟨n,by omega⟩ ⟨k - j,by omega⟩ (by show k - j<n;omega) (by show k - j≠0;omega)
  have key:∀ t:Nat,(t * (k - j)) % n≠0→((t:Int) * ((k - j:Nat):Int)) % (n:Int)≠0:=fun t ht z=>ht (by
    have:(((t * (k - j)) % n:Nat):Int)=0:=by rw [Int.natCast_emod,Int.natCast_mul];exact z
    omega)
  rcases hs with rfl | rfl | rfl | rfl
  · exact key 1 f1 h2
  · exact key 41 f2 h2
  · exact key 43 f3 h2
  · exact key 47 f4 h2
theorem Ar {n:Nat} {s x:Int} (h40:n≤40) (hs:s=1∨s=41∨s=43∨s=47) {j k:Nat} (hj:j<n) (hk:k<n) (h:p8 n s x j=p8 n s x k):j=k:=by
  rcases Nat.lt_trichotomy j k with c | c | c
  · exact absurd h (uJ h40 hs hk c)
  · exact c
  · exact absurd h.symm (uJ h40 hs hj c)
def nT (n s x:Int) (m:Nat):List Int:=(List.range m).map (p8 n s x)
theorem zx (n s x:Int) (m:Nat):(nT n s x m).length=m:=by simp [nT]
theorem wA (n s x:Int) (m:Nat):nT n s x (m + 1)=nT n s x m++[p8 n s x m]:=by
  unfold nT;rw [List.range_succ,List.map_append];rfl
theorem uI {n s x:Int} {m k:Nat} (h:k<m):(nT n s x m)[k]?=some (p8 n s x k):=by
  unfold nT;rw [List.getElem?_map,List.getElem?_range h];rfl
theorem Lnk.PN (n:Nat) (sp:Nat→Int):Lnk n sp 0 (List.replicate n (-1)) :=
  ⟨by simp,fun i x h=>.inl (by
    rw [List.getElem?_replicate] at h
    split at h
    · exact (Option.some.inj h).symm
    · cases h)⟩
end Rv
namespace Tn
theorem m6 {α:Type} (p:α→Bool) (a:α):[a].filter p=if p a=true then [a] else []:=by
  by_cases h:p a=true
  · rw [if_pos h,List.filter_cons_of_pos h];rfl
  · rw [if_neg h,List.filter_cons_of_neg h];rfl
end Tn
namespace My
open PySem L2
local macro_rules | `(tactic| walk_at "new") => `(tactic| (generalize hE : upd _ _ _ = Hn; have On := Ow.mkE (by assumption) (by assumption) hE rfl; clear hE; revert On; revert Hn))
local macro_rules | `(tactic| walk_at "put") => `(tactic| (generalize hE : upd _ _ _ = Hn; (first | have On := Ow.uW (by assumption) 0 rfl hE rfl | have On := Ow.uW (by assumption) 1 rfl hE rfl | have On := Ow.uW (by assumption) 2 rfl hE rfl | have On := Ow.uW (by assumption) 3 rfl hE rfl | have On := Ow.uW (by assumption) 4 rfl hE rfl | have On := Ow.uW (by assumption) 5 rfl hE rfl); clear hE; (try simp only [List.set_cons_zero, List.set_cons_succ] at On); revert On; revert Hn))
set_option hygiene false
local macro_rules | `(tactic| walk_at "get") => `(tactic| first | assumption | exact O.get 0 | exact O.get 1 | exact O.get 2 | exact O.get 3 | exact O.get 4 | exact O.get 5 | exact O.get 6 | exact O.get 7 | exact O.get 8 | exact O.get 9 | exact O.get 10 | exact O.get 11 | exact O.get 12 | fail)
local macro_rules | `(tactic| walk_at "sq") => `(tactic| first | assumption | exact O.sq 0 | exact O.sq 1 | exact O.sq 2 | exact O.sq 3 | exact O.sq 4 | exact O.sq 5 | exact O.sq 6 | exact O.sq 7 | exact O.sq 8 | exact O.sq 9 | exact O.sq 10 | exact O.sq 11 | exact O.sq 12 | exact SqL.mo (by assumption) O.same | exact SqL.mo (by assumption) (s0.trans O.same) | fail)
local macro_rules | `(tactic| walk_at "sqT") => `(tactic| first | assumption | exact O.sqT 0 | exact O.sqT 1 | exact O.sqT 2 | exact O.sqT 3 | exact O.sqT 4 | exact O.sqT 5 | exact O.sqT 6 | exact O.sqT 7 | exact SqT.mo (by assumption) O.same | exact SqT.mo (by assumption) (s0.trans O.same) | fail)
local macro_rules | `(tactic| walk_at "at") => `(tactic| first | rfl | exact bh (by assumption) | exact bR (by assumption) | exact aV (by omega) (by omega) | exact Q9 _ _ | exact ints_last (by omega) | exact aV (ns := [_, _]) (by omega) (by simp only [List.length_cons, List.length_nil]; omega) | exact aV (ns := [_, _, _]) (by omega) (by simp only [List.length_cons, List.length_nil]; omega) | exact aV (ns := [_, _, _, _]) (by omega) (by simp only [List.length_cons, List.length_nil]; omega) | exact aV (ns := [_, _, _, _, _]) (by omega) (by simp only [List.length_cons, List.length_nil]; omega) | exact aV (ns := [_, _, _, _, _, _]) (by omega) (by simp only [List.length_cons, List.length_nil]; omega) | exact aV (ns := [_, _, _, _, _, _, _]) (by omega) (by simp only [List.length_cons, List.length_nil]; omega) | exact aV (ns := [_, _, _, _, _, _, _, _]) (by omega) (by simp only [List.length_cons, List.length_nil]; omega) | fail)
local macro_rules | `(tactic| walk_at "c") => `(tactic| first | omega | (simp only [List.length_map]; omega) | exact szl | (show (0 : Int) < _; decide) | (show (0 : Int) < _; omega) | exact ⟨by decide, by decide⟩ | exact .inl ⟨by decide, by decide⟩ | exact .inr ⟨by decide, by decide⟩ | exact ⟨by decide, by decide, by decide⟩ | exact .inl ⟨by omega, by omega⟩ | exact .inr ⟨by omega, by omega⟩ | exact ⟨by omega, by omega⟩ | (split <;> omega) | fail)
local macro_rules | `(tactic| walk_at "ty") => `(tactic| first | exact .int _ | exact .bl _ | exact .lst (by walk_at "get") | exact .tup (by walk_at "get") | exact .non | fail)
local macro_rules | `(tactic| walk_at "kit") => `(tactic| first | exact Hi K | exact Hj K | exact Hh K | exact kit_bb K | exact kit_bi K | exact Cp K | fail)
local macro_rules | `(tactic| walk_at "sz") => `(tactic| exact aP (by (try simp only [List.length_map, List.length_append, List.length_cons, List.length_nil]); omega))
local macro_rules | `(tactic| walk_at "s") => `(tactic| first | refine V0 ?_ | refine ⟨_, rfl, ?_⟩ | refine ⟨_, _, rfl, rfl, ?_⟩ | refine And.intro rfl ?_ | refine And.intro (by walk_at "c") ?_ | refine ⟨_, _, _, _, rfl, rfl, (show SqL _ _ _ _ by walk_at "sq"), (show atI _ _ = some _ by walk_at "at"), ?_⟩ | refine ⟨_, _, _, _, rfl, rfl, (show SqT _ _ _ _ by walk_at "sqT"), (show atI _ _ = some _ by walk_at "at"), ?_⟩ | refine ⟨_, _, rfl, .inl (show SqL _ _ _ _ by walk_at "sq"), ?_⟩ | refine ⟨_, _, rfl, .inr (show SqT _ _ _ _ by walk_at "sqT"), ?_⟩ | refine ⟨_, _, rfl, (show SqL _ _ _ _ by walk_at "sq"), ?_⟩ | refine And.intro ⟨_, (show SqL _ _ _ _ by walk_at "sq")⟩ ?_ | refine And.intro (.inl ⟨rfl, _, (show SqL _ _ _ _ by walk_at "sq")⟩) ?_ | refine ⟨_, _, _, _, rfl, (show xG _ _ _ _ by walk_at "ty"), (show PySem.W.kitOne _ _ _ = some _ by walk_at "kit"), ?_⟩ | refine ⟨_, _, rfl, ?_⟩ | fail)
local macro_rules | `(tactic| walk_at "w") => `(tactic| repeat walk_at "s")
local macro_rules | `(tactic| walk_at "if") => `(tactic| first | refine Oo ?_ | refine pH ?_ | refine ifN ?_ | refine ifI (fun hc => ?_) (fun hc => ?_) | refine ifD (fun hc => ?_) (fun hc => ?_) | refine ifB (fun hc => ?_) (fun hc => ?_) | fail)
local macro_rules | `(tactic| walk_at "go") => `(tactic| repeat' (first | walk_at "if" | walk_at "s" | fail))
local macro_rules | `(tactic| walk_at "nw") => `(tactic| (generalize hE : upd _ _ _ = Hn; replace O := Ow.mkE O (by assumption) hE rfl; clear hE))
local macro_rules | `(tactic| walk_at "pt") => `(tactic| (generalize hE : upd _ _ _ = Hn; (first | replace O := Ow.uW O 0 rfl hE rfl | replace O := Ow.uW O 1 rfl hE rfl | replace O := Ow.uW O 2 rfl hE rfl | replace O := Ow.uW O 3 rfl hE rfl | replace O := Ow.uW O 4 rfl hE rfl | replace O := Ow.uW O 5 rfl hE rfl | replace O := Ow.uW O 6 rfl hE rfl | replace O := Ow.uW O 7 rfl hE rfl); clear hE; (try simp only [List.set_cons_zero, List.set_cons_succ] at O)))
local macro_rules | `(tactic| walk_at "app") => `(tactic| (refine ⟨_, _, _, rfl, rfl, (by walk_at "get"), (by walk_at "sz"), ?_⟩; walk_at "pt"))
local macro_rules | `(tactic| walk_at "elt") => `(tactic| (refine ⟨_, (by walk_at "get"), (by walk_at "sz"), ?_⟩; walk_at "pt"))
local macro_rules | `(tactic| walk_at "frz") => `(tactic| (obtain ⟨Hn, On, sn, en⟩ := O.frz; clear O; have O := On; clear On; (try replace s0 := s0.mo sn); (try replace d0 := d0.mo sn); (try replace d1 := d1.mo sn); (try replace d2 := d2.mo sn); (try replace d3 := d3.mo sn); (try replace d4 := d4.mo sn); (try replace d5 := d5.mo sn); (try replace d6 := d6.mo sn); (try replace d7 := d7.mo sn)))
local macro_rules | `(tactic| walk_at "mo") => `(tactic| ((try simp only [List.eraseIdx_cons_zero, List.eraseIdx_cons_succ] at O); (try replace s0 := s0.mo sn); (try replace d0 := d0.mo sn); (try replace d1 := d1.mo sn); (try replace d2 := d2.mo sn); (try replace d3 := d3.mo sn); (try replace d4 := d4.mo sn); (try replace d5 := d5.mo sn); (try replace d6 := d6.mo sn); (try replace d7 := d7.mo sn)))
local macro_rules | `(tactic| walk_at "er") => `(tactic| simp only [List.eraseIdx_cons_zero, List.eraseIdx_cons_succ] at O)
local macro_rules | `(tactic| walk_at "jn") => `(tactic| simp only [List.cons_append, List.nil_append] at O)
def top (i:Nat):Stmt:=PySem.Challenge.pw_sluice_k47_whole_sheet.main.body.getD i (.Pass ⟨0,0,0,0⟩)
theorem kj (n:Nat) (x:Int):(List.replicate n [V.int x]).flatten=(List.replicate n x).map V.int:=by rw [List.map_replicate];exact Nv _ _
theorem qM {w cur:List Int} {c z:Int} {j:Nat} (hz:w[j]?=some z):Tn.bump cur (w.take (j + 1)) c=(Tn.bump cur (w.take j) c).set z.toNat ((Tn.bump cur (w.take j) c).getD z.toNat 0 + c):=by
  rw [List.take_add_one,hz];exact Tn.Dp _ _ _ _
abbrev jk:Stmt:=top 7
theorem uQ:aX ["below","reach","way"] ["below","reach"] (ao jk):=⟨rfl,rfl,rfl,by decide +kernel,rfl,by decide +kernel,by decide +kernel⟩
def yh (K:PySem.W.Frag):Sp:=fun vs H Q _=>∃ (a:Addr) (r:List Int) (p:Int),vs=[.ref a,.int p]∧SqL K H a (r.map V.int)∧Rv.dU r∧0≤p∧p<r.length∧r.length≤900 ∧
  VL H (fun xs=>xs=(Rv.walk r p).map V.int) Q
theorem Dr (pre:List Int) (z:Int):atI ((pre++[z]).map V.int) (-1)=some (V.int z):=by
  rw [List.map_append];exact Gm _ _
theorem sl_1 {a1:TS} {a2:TT} {a3:TS} {a5:TS} {D:Ends} {σ:St} {H:Hp} (h:let z4:TS:=a3;let z6:TS:=a5;let z7:TS:=aO (pX a2 z4) z6;(aO a1 z7) D σ H):(aO a1 (aO (pX a2 a3) a5)) D σ H:=h
theorem sl_2 {a1:TS} {a2:TI} {a3:TG} {a4:TT} {a5:TS} {a7:TS} {a9:TS} {D:Ends} {σ:St} {H:Hp} (h:let z6:TS:=a5;let z8:TS:=iW a4 z6 a7;let z10:TS:=a9;let z11:TS:=aO (gK a2 a3 z8) z10;(aO a1 z11) D σ H):(aO a1 (aO (gK a2 a3 (iW a4 a5 a7)) a9)) D σ H:=h
theorem sl_3 {a1:TS} {a2:TT} {a3:TS} {a5:TS} {a6:TT} {a7:TS} {a9:TS} {a10:TS} {D:Ends} {σ:St} {H:Hp} (h:let z4:TS:=a3;let z8:TS:=a7;let z11:TS:=a10;let z12:TS:=aO (iW a6 z8 a9) z11;let z13:TS:=aO (iW a2 z4 a5) z12;(aO a1 z13) D σ H):(aO a1 (aO (iW a2 a3 a5) (aO (iW a6 a7 a9) a10))) D σ H:=h
theorem Wc {a1:TS} {a2:TS} {D:Ends} {σ:St} {H:Hp} (h:let z3:TS:=a2;(aO a1 z3) D σ H):(aO a1 a2) D σ H:=h
theorem Yu {a1:TS} {a2:TI} {a3:TG} {a4:TI} {a5:TG} {a6:TS} {a9:TS} {D:Ends} {σ:St} {H:Hp} (h:let z7:TS:=a6;let z8:TS:=gK a4 a5 z7;let z10:TS:=a9;let z11:TS:=aO (gK a2 a3 z8) z10;(aO a1 z11) D σ H):(aO a1 (aO (gK a2 a3 (gK a4 a5 a6)) a9)) D σ H:=h
theorem Yt {a1:TS} {a2:TS} {a3:TS} {D:Ends} {σ:St} {H:Hp} (h:let z4:TS:=a3;let z5:TS:=aO a2 z4;(aO a1 z5) D σ H):(aO a1 (aO a2 a3)) D σ H:=h
theorem sl_7 {a1:TI} {a2:TG} {a3:TS} {D:Ends} {σ:St} {H:Hp} (h:let z4:TS:=a3;(gK a1 a2 z4) D σ H):(gK a1 a2 a3) D σ H:=h
theorem sl_8 {a1:TS} {a2:TS} {a3:TI} {a4:TG} {a5:TS} {a6:TS} {D:Ends} {σ:St} {H:Hp} (h:let z7:TS:=a6;let z8:TS:=aO a5 z7;let z9:TS:=gK a3 a4 z8;let z10:TS:=aO a2 z9;(aO a1 z10) D σ H):(aO a1 (aO a2 (gK a3 a4 (aO a5 a6)))) D σ H:=h
theorem sl_9 {a1:TS} {a2:TI} {a3:TG} {a4:TT} {a5:TS} {a6:TS} {a7:TS} {a11:TS} {a13:TS} {D:Ends} {σ:St} {H:Hp} (h:let z8:TS:=a7;let z9:TS:=aO a6 z8;let z10:TS:=aO a5 z9;let z12:TS:=iW a4 z10 a11;let z14:TS:=a13;let z15:TS:=aO (gK a2 a3 z12) z14;(aO a1 z15) D σ H):(aO a1 (aO (gK a2 a3 (iW a4 (aO a5 (aO a6 a7)) a11)) a13)) D σ H:=h
theorem Wz {a1:TS} {a2:TS} {a3:TS} {a4:TT} {a5:TS} {a6:TS} {a9:TS} {D:Ends} {σ:St} {H:Hp} (h:let z7:TS:=a6;let z8:TS:=aO a5 z7;let z10:TS:=a9;let z11:TS:=aO (pX a4 z8) z10;let z12:TS:=aO a3 z11;let z13:TS:=aO a2 z12;(aO a1 z13) D σ H):(aO a1 (aO a2 (aO a3 (aO (pX a4 (aO a5 a6)) a9)))) D σ H:=h
theorem Wy {a1:TS} {a2:TI} {a3:TG} {a4:TS} {a6:TS} {D:Ends} {σ:St} {H:Hp} (h:let z5:TS:=a4;let z7:TS:=a6;let z8:TS:=aO (gK a2 a3 z5) z7;(aO a1 z8) D σ H):(aO a1 (aO (gK a2 a3 a4) a6)) D σ H:=h
theorem Wx {a1:TS} {a2:TS} {a3:TS} {a4:TI} {a5:TG} {a6:TS} {a7:TS} {a8:TI} {a9:TG} {a10:TS} {a15:TS} {D:Ends} {σ:St} {H:Hp} (h:let z11:TS:=a10;let z12:TS:=gK a8 a9 z11;let z13:TS:=aO a7 z12;let z14:TS:=aO a6 z13;let z16:TS:=a15;let z17:TS:=aO (gK a4 a5 z14) z16;let z18:TS:=aO a3 z17;let z19:TS:=aO a2 z18;(aO a1 z19) D σ H):(aO a1 (aO a2 (aO a3 (aO (gK a4 a5 (aO a6 (aO a7 (gK a8 a9 a10)))) a15)))) D σ H:=h
theorem Ww {a1:TS} {a2:TT} {a3:TS} {a5:TS} {a6:TT} {a7:TS} {a9:TS} {a10:TT} {a11:TS} {a13:TS} {D:Ends} {σ:St} {H:Hp} (h:let z4:TS:=a3;let z8:TS:=a7;let z12:TS:=a11;let z14:TS:=iW a10 z12 a13;let z15:TS:=aO (iW a6 z8 a9) z14;let z16:TS:=aO (iW a2 z4 a5) z15;(aO a1 z16) D σ H):(aO a1 (aO (iW a2 a3 a5) (aO (iW a6 a7 a9) (iW a10 a11 a13)))) D σ H:=h
theorem Wv {a1:TS} {a2:TI} {a3:TG} {a4:TS} {a5:TS} {a6:TS} {a10:TS} {D:Ends} {σ:St} {H:Hp} (h:let z7:TS:=a6;let z8:TS:=aO a5 z7;let z9:TS:=aO a4 z8;let z11:TS:=a10;let z12:TS:=aO (gK a2 a3 z9) z11;(aO a1 z12) D σ H):(aO a1 (aO (gK a2 a3 (aO a4 (aO a5 a6))) a10)) D σ H:=h
theorem Qi {a1:TS} {a2:TI} {a3:TG} {a4:TS} {a5:TS} {a8:TS} {D:Ends} {σ:St} {H:Hp} (h:let z6:TS:=a5;let z7:TS:=aO a4 z6;let z9:TS:=a8;let z10:TS:=aO (gK a2 a3 z7) z9;(aO a1 z10) D σ H):(aO a1 (aO (gK a2 a3 (aO a4 a5)) a8)) D σ H:=h
theorem Wu {a1:TS} {a2:TS} {a3:TI} {a4:TG} {a5:TS} {a6:TS} {a7:TS} {a8:TS} {a9:TS} {a15:TS} {D:Ends} {σ:St} {H:Hp} (h:let z10:TS:=a9;let z11:TS:=aO a8 z10;let z12:TS:=aO a7 z11;let z13:TS:=aO a6 z12;let z14:TS:=aO a5 z13;let z16:TS:=a15;let z17:TS:=aO (gK a3 a4 z14) z16;let z18:TS:=aO a2 z17;(aO a1 z18) D σ H):(aO a1 (aO a2 (aO (gK a3 a4 (aO a5 (aO a6 (aO a7 (aO a8 a9))))) a15))) D σ H:=h
theorem Wt {a1:TI} {a2:TG} {a3:TS} {a5:TS} {D:Ends} {σ:St} {H:Hp} (h:let z4:TS:=a3;let z6:TS:=a5;(aO (gK a1 a2 z4) z6) D σ H):(aO (gK a1 a2 a3) a5) D σ H:=h
theorem Qh {a1:TT} {a2:TS} {a4:TS} {a5:TT} {a6:TS} {a8:TS} {a9:TS} {D:Ends} {σ:St} {H:Hp} (h:let z3:TS:=a2;let z7:TS:=a6;let z10:TS:=a9;let z11:TS:=aO (iW a5 z7 a8) z10;(aO (iW a1 z3 a4) z11) D σ H):(aO (iW a1 a2 a4) (aO (iW a5 a6 a8) a9)) D σ H:=h
theorem Ws {a1:TS} {a2:TI} {a3:TG} {a4:TS} {a5:TS} {a8:TI} {a9:TG} {a10:TS} {a12:TS} {D:Ends} {σ:St} {H:Hp} (h:let z6:TS:=a5;let z7:TS:=aO a4 z6;let z11:TS:=a10;let z13:TS:=a12;let z14:TS:=aO (gK a8 a9 z11) z13;let z15:TS:=aO (gK a2 a3 z7) z14;(aO a1 z15) D σ H):(aO a1 (aO (gK a2 a3 (aO a4 a5)) (aO (gK a8 a9 a10) a12))) D σ H:=h
theorem Wr {a1:TS} {a2:TS} {a3:TS} {a4:TS} {a5:TS} {a6:TS} {a7:TS} {D:Ends} {σ:St} {H:Hp} (h:let z8:TS:=a7;let z9:TS:=aO a6 z8;let z10:TS:=aO a5 z9;let z11:TS:=aO a4 z10;let z12:TS:=aO a3 z11;let z13:TS:=aO a2 z12;(aO a1 z13) D σ H):(aO a1 (aO a2 (aO a3 (aO a4 (aO a5 (aO a6 a7)))))) D σ H:=h
theorem Wq {a1:TS} {a2:TS} {a3:TT} {a4:TS} {a6:TS} {a7:TS} {a8:TI} {a9:TG} {a10:TT} {a11:TS} {a13:TT} {a14:TS} {a16:TS} {a20:TS} {a21:TS} {a22:TS} {a23:TI} {a24:TG} {a25:TT} {a26:TS} {a28:TS} {a30:TS} {D:Ends} {σ:St} {H:Hp} (h:let z5:TS:=a4;let z12:TS:=a11;let z15:TS:=a14;let z17:TS:=a16;let z18:TS:=iW a13 z15 z17;let z19:TS:=iW a10 z12 z18;let z27:TS:=a26;let z29:TS:=iW a25 z27 a28;let z31:TS:=a30;let z32:TS:=aO (gK a23 a24 z29) z31;let z33:TS:=aO a22 z32;let z34:TS:=aO a21 z33;let z35:TS:=aO a20 z34;let z36:TS:=aO (gK a8 a9 z19) z35;let z37:TS:=aO a7 z36;let z38:TS:=sH (iW a3 z5 a6) z37;let z39:TS:=aO a2 z38;(aO a1 z39) D σ H):(aO a1 (aO a2 (sH (iW a3 a4 a6) (aO a7 (aO (gK a8 a9 (iW a10 a11 (iW a13 a14 a16))) (aO a20 (aO a21 (aO a22 (aO (gK a23 a24 (iW a25 a26 a28)) a30))))))))) D σ H:=h
theorem Wo {a1:TT} {a2:TS} {a4:TS} {a5:TT} {a6:TS} {a8:TS} {a9:TT} {a10:TS} {a12:TS} {a13:TS} {D:Ends} {σ:St} {H:Hp} (h:let z3:TS:=a2;let z7:TS:=a6;let z11:TS:=a10;let z14:TS:=a13;let z15:TS:=aO (iW a9 z11 a12) z14;let z16:TS:=aO (iW a5 z7 a8) z15;(aO (iW a1 z3 a4) z16) D σ H):(aO (iW a1 a2 a4) (aO (iW a5 a6 a8) (aO (iW a9 a10 a12) a13))) D σ H:=h
theorem Wn {a1:TS} {a2:TS} {a3:TT} {a4:TS} {a5:TS} {a8:TS} {D:Ends} {σ:St} {H:Hp} (h:let z6:TS:=a5;let z7:TS:=aO a4 z6;let z9:TS:=a8;let z10:TS:=aO (pX a3 z7) z9;let z11:TS:=aO a2 z10;(aO a1 z11) D σ H):(aO a1 (aO a2 (aO (pX a3 (aO a4 a5)) a8))) D σ H:=h
theorem Wm {a1:TS} {a2:TS} {a3:TS} {a4:TT} {a5:TS} {a7:TS} {a8:TS} {D:Ends} {σ:St} {H:Hp} (h:let z6:TS:=a5;let z9:TS:=a8;let z10:TS:=sH (iW a4 z6 a7) z9;let z11:TS:=aO a3 z10;let z12:TS:=aO a2 z11;(aO a1 z12) D σ H):(aO a1 (aO a2 (aO a3 (sH (iW a4 a5 a7) a8)))) D σ H:=h
theorem Wk {a1:TS} {a2:TT} {a3:TS} {a5:TS} {a6:TS} {a7:TS} {a8:TI} {a9:TG} {a10:TS} {a12:TI} {a13:TG} {a14:TS} {a15:TT} {a16:TS} {a18:TS} {a21:TS} {D:Ends} {σ:St} {H:Hp} (h:let z4:TS:=a3;let z11:TS:=a10;let z17:TS:=a16;let z19:TS:=iW a15 z17 a18;let z20:TS:=aO a14 z19;let z22:TS:=a21;let z23:TS:=aO (gK a12 a13 z20) z22;let z24:TS:=aO (gK a8 a9 z11) z23;let z25:TS:=aO a7 z24;let z26:TS:=aO a6 z25;let z27:TS:=sH (iW a2 z4 a5) z26;(aO a1 z27) D σ H):(aO a1 (sH (iW a2 a3 a5) (aO a6 (aO a7 (aO (gK a8 a9 a10) (aO (gK a12 a13 (aO a14 (iW a15 a16 a18))) a21)))))) D σ H:=h
theorem Wj {a1:TS} {a2:TS} {a3:TI} {a4:TG} {a5:TS} {a6:TS} {a9:TS} {D:Ends} {σ:St} {H:Hp} (h:let z7:TS:=a6;let z8:TS:=aO a5 z7;let z10:TS:=a9;let z11:TS:=aO (gK a3 a4 z8) z10;let z12:TS:=aO a2 z11;(aO a1 z12) D σ H):(aO a1 (aO a2 (aO (gK a3 a4 (aO a5 a6)) a9))) D σ H:=h
theorem Wi {a1:TS} {a2:TI} {a3:TG} {a4:TS} {a5:TT} {a6:TS} {a7:TS} {a8:TS} {a9:TS} {a14:TS} {a17:TS} {D:Ends} {σ:St} {H:Hp} (h:let z10:TS:=a9;let z11:TS:=aO a8 z10;let z12:TS:=aO a7 z11;let z13:TS:=aO a6 z12;let z15:TS:=iW a5 z13 a14;let z16:TS:=aO a4 z15;let z18:TS:=a17;let z19:TS:=aO (gK a2 a3 z16) z18;(aO a1 z19) D σ H):(aO a1 (aO (gK a2 a3 (aO a4 (iW a5 (aO a6 (aO a7 (aO a8 a9))) a14))) a17)) D σ H:=h
theorem Wh {a1:TT} {a2:TS} {a4:TS} {a5:TS} {D:Ends} {σ:St} {H:Hp} (h:let z3:TS:=a2;let z6:TS:=a5;(aO (iW a1 z3 a4) z6) D σ H):(aO (iW a1 a2 a4) a5) D σ H:=h
theorem Wg {a1:TS} {a2:TS} {a3:TS} {a4:TI} {a5:TG} {a6:TI} {a7:TG} {a8:TS} {a11:TI} {a12:TG} {a13:TI} {a14:TG} {a15:TS} {a16:TS} {a20:TI} {a21:TG} {a22:TS} {a23:TI} {a24:TG} {a25:TT} {a26:TS} {a27:TS} {a28:TS} {a32:TS} {a34:TT} {a35:TS} {a37:TS} {a41:TS} {D:Ends} {σ:St} {H:Hp} (h:let z9:TS:=a8;let z10:TS:=gK a6 a7 z9;let z17:TS:=a16;let z18:TS:=aO a15 z17;let z19:TS:=gK a13 a14 z18;let z29:TS:=a28;let z30:TS:=aO a27 z29;let z31:TS:=aO a26 z30;let z33:TS:=iW a25 z31 a32;let z36:TS:=a35;let z38:TS:=iW a34 z36 a37;let z39:TS:=aO (gK a23 a24 z33) z38;let z40:TS:=aO a22 z39;let z42:TS:=a41;let z43:TS:=aO (gK a20 a21 z40) z42;let z44:TS:=aO (gK a11 a12 z19) z43;let z45:TS:=aO (gK a4 a5 z10) z44;let z46:TS:=aO a3 z45;let z47:TS:=aO a2 z46;(aO a1 z47) D σ H):(aO a1 (aO a2 (aO a3 (aO (gK a4 a5 (gK a6 a7 a8)) (aO (gK a11 a12 (gK a13 a14 (aO a15 a16))) (aO (gK a20 a21 (aO a22 (aO (gK a23 a24 (iW a25 (aO a26 (aO a27 a28)) a32)) (iW a34 a35 a37)))) a41)))))) D σ H:=h
theorem Wf {a1:TS} {a2:TI} {a3:TG} {a4:TT} {a5:TS} {a7:TS} {a9:TS} {a10:TI} {a11:TG} {a12:TS} {a13:TS} {a14:TT} {a15:TS} {a17:TS} {a18:TS} {a23:TS} {a24:TS} {D:Ends} {σ:St} {H:Hp} (h:let z6:TS:=a5;let z8:TS:=iW a4 z6 a7;let z16:TS:=a15;let z19:TS:=a18;let z20:TS:=aO (iW a14 z16 a17) z19;let z21:TS:=aO a13 z20;let z22:TS:=aO a12 z21;let z25:TS:=a24;let z26:TS:=aO a23 z25;let z27:TS:=aO (gK a10 a11 z22) z26;let z28:TS:=aO a9 z27;let z29:TS:=aO (gK a2 a3 z8) z28;(aO a1 z29) D σ H):(aO a1 (aO (gK a2 a3 (iW a4 a5 a7)) (aO a9 (aO (gK a10 a11 (aO a12 (aO a13 (aO (iW a14 a15 a17) a18)))) (aO a23 a24))))) D σ H:=h
theorem Wd {a1:TS} {a2:TS} {a3:TS} {a4:TS} {a5:TS} {a6:TS} {a7:TS} {a8:TS} {a9:TI} {a10:TG} {a11:TS} {a12:TT} {a13:TS} {a15:TS} {a16:TT} {a17:TS} {a19:TS} {a23:TS} {a24:TS} {a25:TS} {a26:TS} {a27:TS} {a28:TI} {a29:TG} {a30:TS} {a32:TS} {a33:TT} {a34:TS} {a36:TS} {a37:TS} {a38:TS} {D:Ends} {σ:St} {H:Hp} (h:let z14:TS:=a13;let z18:TS:=a17;let z20:TS:=iW a16 z18 a19;let z21:TS:=sH (iW a12 z14 a15) z20;let z22:TS:=aO a11 z21;let z31:TS:=a30;let z35:TS:=a34;let z39:TS:=a38;let z40:TS:=aO a37 z39;let z41:TS:=aO (iW a33 z35 a36) z40;let z42:TS:=aO a32 z41;let z43:TS:=aO (gK a28 a29 z31) z42;let z44:TS:=aO a27 z43;let z45:TS:=aO a26 z44;let z46:TS:=aO a25 z45;let z47:TS:=aO a24 z46;let z48:TS:=aO a23 z47;let z49:TS:=aO (gK a9 a10 z22) z48;let z50:TS:=aO a8 z49;let z51:TS:=aO a7 z50;let z52:TS:=aO a6 z51;let z53:TS:=aO a5 z52;let z54:TS:=aO a4 z53;let z55:TS:=aO a3 z54;let z56:TS:=aO a2 z55;(aO a1 z56) D σ H):(aO a1 (aO a2 (aO a3 (aO a4 (aO a5 (aO a6 (aO a7 (aO a8 (aO (gK a9 a10 (aO a11 (sH (iW a12 a13 a15) (iW a16 a17 a19)))) (aO a23 (aO a24 (aO a25 (aO a26 (aO a27 (aO (gK a28 a29 a30) (aO a32 (aO (iW a33 a34 a36) (aO a37 a38)))))))))))))))))) D σ H:=h
theorem Qw {f:Addr} {fd:FuncData} (D:Df K mg "way_of" jk ["below","reach"] f fd) (C:Mth mg):cA P w K mg base CX0 1 f fd ["below","reach"] (yh K):=by
  obtain ⟨tM,hMOUTH⟩:=C.MOUTH
  refine D.F.ok uQ (fun vs H Q E h=>?_) (fun cdv A outer s H vs Q E hr h=>?_)
  · obtain ⟨a,r,p,rfl,_⟩:=h;rfl
  · obtain ⟨a,r,p,rfl,hS,hR,p0,p1,hn,q⟩:=h
    refine ⟨_,(au (aR (i:=2) uQ.nd rfl (Or.inl rfl) (cZ (ak (pv 1) aq)))
      (au (sY PassesOwn.never (aW tu (aL aG (pv 0) (aL aG (pv 2) (lY jo aA) (fun _ _=>rfl)) (fun _ _=>rfl)) (lZ (v:=.int (-1)) rfl hMOUTH ⟨_,rfl⟩) (bw _))
        (aB (dZ (mq PySem.F.plainAttrs_list PySem.F.slot_list_append PySem.F.type_list_append cL (pv 2) (ak (aL aG (pv 0) (aL aG (pv 2) (lY jo aA) (fun _ _=>rfl)) (fun _ _=>rfl)) aq)))))
      (aB (bx (pv 2))))),?_⟩
    refine sl_1 ?_
    intro zu0 zu1 zu2
    refine ⟨_,rfl,(by show 1≤sizeLine;decide),fun lw hlw=>?_⟩
    refine ⟨fun m σ H'=>∃ (pre:List Int) (z:Int),σ=[some (.ref a),some (.int p),some (.ref lw)]∧Same H H'∧H' lw=some (.lst ((pre++[z]).map V.int))∧0≤z∧z<r.length∧pre++Rv.walk r z=Rv.walk r p∧m=Rv.mea r z,
      ⟨_,[],p,rfl,(Same.refl H).upd hlw,cU,p0,p1,rfl,rfl⟩,?_⟩
    rintro m σ H2 ⟨pre,z,rfl,s2,h2,z0,z1,e,rfl⟩
    have g:=Rv.j9 z0 z1
    have hlen:pre.length + (Rv.walk r z).length≤r.length + 1:=by
      have:=Rv.pK r p
      rw [← e,List.length_append] at this;exact this
    refine ⟨_,rfl,_,rfl,_,rfl,lw,_,_,_,rfl,rfl,SqL.of h2,Dr pre z,a,_,_,_,rfl,rfl,s2.seq hS,lM z0 g,rfl,_,rfl,?_⟩
    rcases hR.step z0 z1 with hm | ⟨n0,n1⟩
    · rw [hm]
      refine Ri rfl ?_
      refine ⟨_,rfl,q lw H2 _ s2 hlw h2 ?_⟩
      have ew:Rv.walk r z=[z]:=by rw [Rv.dY hR z0 z1,hm,Rv.jD]
      rw [← e,ew]
    · have hd:(!decide (V.int (Rv.nxt r z)=V.int (-1)))=true:=by
        have:¬ Rv.nxt r z=-1:=by omega
        simp [this]
      rw [hd]
      refine Oo ?_
      refine ⟨fun σ' H'=>∃ m',m'<Rv.mea r z∧∃ (pre:List Int) (z:Int),σ'=[some (.ref a),some (.int p),some (.ref lw)]∧Same H H'∧H' lw=some (.lst ((pre++[z]).map V.int))∧0≤z∧z<r.length∧pre++Rv.walk r z=Rv.walk r p∧m'=Rv.mea r z,fun _ _ x=>x,?_⟩
      refine ⟨_,rfl,.inl ⟨rfl,_,SqL.of h2⟩,_,rfl,_,rfl,_,rfl,lw,_,_,_,rfl,rfl,SqL.of h2,Dr pre z,a,_,_,_,rfl,rfl,s2.seq hS,lM z0 g,lw,_,_,rfl,rfl,h2,aP ?_,?_⟩
      · rw [List.length_map,List.length_append]
        have:1≤(Rv.walk r z).length:=by rw [Rv.dY hR z0 z1];exact Nat.succ_le_succ (Nat.zero_le _)
        show pre.length + 1≤_
        omega
      · refine ⟨_,Rv.Hf hR z0 z1,pre++[z],Rv.nxt r z,rfl,s2.upd hlw,?_,n0,n1,?_,rfl⟩
        · rw [cU,List.map_append (l₁:=pre++[z])];rfl
        · rw [List.append_assoc]
          show pre++(z :: Rv.walk r (Rv.nxt r z))=_
          rw [← Rv.dY hR z0 z1];exact e
abbrev dF:Stmt:=top 8
theorem sV:aX ["below"] ["below"] (ao dF):=⟨rfl,rfl,rfl,by decide +kernel,rfl,by decide +kernel,by decide +kernel⟩
def VD (K:PySem.W.Frag) (H:Hp) (a:Addr) (r:List Int):Prop:=SqL K H a (r.map V.int)∧Rv.dU r∧r.length<64
def dW:Pos × Str:=(⟨18,41,18,90⟩,"tops_first.<locals>.<lambda>")
def TT1 (P:Addr) (T:fZ):Prop:=(P,dW.1,dW.2)∈T∧(T.map (·.1)).Nodup
def Aw (K:PySem.W.Frag) (T:fZ):Sp:=fun vs H Q _=>∃ (a:Addr) (r:List Int),vs=[.ref a]∧VD K H a r∧TabsOk T H ∧
  m9 T H (fun xs=>∃ p,xs=p.map (fun (i:Nat)=>V.int (i:Int))∧Rv.DR r p) Q
theorem Oj {r:List Int} {i j:Nat} (hi:i<64) (hj:j<64):HT.lexLt [-((Rv.walk r (i:Int)).length:Int),(i:Int)] [-((Rv.walk r (j:Int)).length:Int),(j:Int)]=decide (Rv.kap r i<Rv.kap r j):=by
  unfold Rv.kap
  rw [HT.gZ,HT.gZ,HT.lH]
  rw [Bool.eq_iff_iff]
  split
  · split
    · simp only [Bool.false_eq_true,decide_eq_true_eq,false_iff];omega
    · simp only [decide_eq_true_eq];omega
  · simp only [decide_eq_true_eq];omega
theorem NZ {f fW:Addr} {fd fdW:FuncData} {pT cT:Addr} {T:fZ} (D:Df K mg "tops_first" dF ["below"] f fd) (hcd:fd.code=.ref cT) (hhd:PySem.W.codeHdIn K cT pT=true) (hT:TT1 pT T) (hbm:BM mg base) (B:Blt mg)
    (dX:Df K mg "way_of" jk ["below","reach"] fW fdW) (oK:cA P w K mg base CX0 1 fW fdW ["below","reach"] (yh K)):cA P w K mg base CX0 5 f fd ["below"] (Aw K T):=by
  refine D.F.okC hcd sV (fun vs H Q E h=>?_) (fun A outer s H vs Q E hr h=>?_)
  · obtain ⟨a,r,rfl,_⟩:=h;rfl
  · obtain ⟨a,r,rfl,⟨hS,hR,h64⟩,tk,q⟩:=h
    refine ⟨_,(aB (bx (pB (P:=pT) (c:=cT) (p:="reach") (ao dF) rfl ["below"] rfl ["below"] [some 0] (by decide +kernel) (by decide +kernel) (by decide +kernel) rfl hbm rfl hhd (yN (hr.mono (by decide))) rfl B.sorted rfl B.range (ak (aK aH rfl B.len PySem.boot_len (ak (pv 0) aq)) aq) (fun A f cv s H hh hd hu=>(jV (ak (lY jo (aK (ud (K:=K) rfl) rfl B.len PySem.boot_len (ak (aM oK (yM (hr.mono (by decide)) hh hd hu) rfl dX.m dX.F.kp dX.b .nil bD (ak (pv 1) (ak (pv 0) aq))) aq))) (ak (pv 0) aq)))) (fun _ _ _ _=>rfl)))),?_⟩
    have hl:(r.map V.int).length=r.length:=List.length_map _
    refine ⟨_,rfl,a,_,rfl,.inl hS,r.length,by rw [hl],h64,tk _ hT.1,fun H2 k1 k2 t2=>?_⟩
    have sT:bI T H H2:=bI.tab tk hT.1 hT.2 k1 t2
    refine ⟨fun i ts H3=>bI T H2 H3∧ts.length=i∧∀ (j:Nat) (t:Addr),ts[j]?=some t→H3 t=some (.tup ([-((Rv.walk r (j:Int)).length:Int),(j:Int)].map V.int)),fun i=>[-((Rv.walk r (i:Int)).length:Int),(i:Int)],Rv.kap r,1,⟨bI.refl sT.t1,rfl,fun j t e=>by simp at e⟩,?_,?_,fun _ _=>rfl,fun i j hi hj=>Oj (by omega) (by omega),?_,?_⟩
    · rintro i ts H3 hi ⟨s3,htl,h3⟩
      refine ⟨fun c' e=>s3.keep c' _ e fun ps z=>(by cases z),?_⟩
      refine ⟨_,rfl,_,rfl,a,r,(i:Int),rfl,(sT.trans s3).seq hS,hR,by omega,by omega,by omega,fun l H4 xs s4 n4 h4 e4=>?_⟩
      subst e4
      refine ⟨l,_,rfl,.inl (SqL.of h4),_,rfl,_,rfl,(by show 2≤sizeLine;decide),fun t ht=>⟨t,rfl,?_⟩⟩
      have sT4:bI T H2 H4:=s3.trans (bI.of s3.t1 s4)
      have nt:H2 t=none:=sT4.free ht
      refine ⟨sT4.upd nt (.inl ht),by rw [List.length_append,htl];rfl,fun j t' e=>?_⟩
      by_cases hj:j<ts.length
      · rw [List.getElem?_append_left hj] at e
        have h4':=s4 _ _ (h3 j t' e)
        rw [bF (cB h4' ht)];exact h4'
      · rw [List.getElem?_append_right (by omega)] at e
        have hj0:j - ts.length=0:=by
          have:=(List.getElem?_eq_some_iff.mp e).1
          simp at this;omega
        have hji:j=i:=by omega
        rw [hj0] at e
        simp at e
        subst e
        subst hji
        rw [cU,List.length_map];rfl
    · rintro ts H3 ⟨_,_,h3⟩
      exact h3
    · intro i j hi hj hij e
      unfold Rv.kap at e
      omega
    · rintro ts H3 D' ys ⟨s3,_,_⟩ hD ⟨p,hp,rfl,ho⟩
      have hbl:(iZ r.length).length=r.length:=by unfold iZ;simp
      rw [hbl] at hp
      refine q D' _ _ ((sT.trans s3).upd ((sT.trans s3).free hD) (.inl hD)) ((sT.trans s3).free hD) cU ⟨p,?_,hp,ho⟩
      refine List.map_congr_left fun i hi=>?_
      have hi':i<r.length:=List.mem_range.mp (hp.mem_iff.mp hi)
      show (iZ r.length).getD i .non=_
      unfold iZ
      rw [List.getD_eq_getElem?_getD,List.getElem?_map,List.getElem?_range hi'];rfl
abbrev dI:Stmt:=top 12
theorem lE:aX ["below","springs","flows","reach"] ["below","springs"] (ao dI):=⟨rfl,rfl,rfl,by decide +kernel,rfl,by decide +kernel,by decide +kernel⟩
def Bb (K:PySem.W.Frag) (T:fZ):Sp:=fun vs H Q _=>∃ (a b:Addr) (r s:List Int),vs=[.ref a,.ref b]∧VD K H a r∧SqL K H b (s.map V.int)∧s.length=r.length∧TabsOk T H ∧
  m9 T H (fun xs=>xs=(Rv.nats r s).map V.int) Q
theorem QH {f fT:Addr} {fd fdT:FuncData} {T:fZ} (D:Df K mg "natural_of" dI ["below","springs"] f fd) (B:Blt mg) (C:Mth mg)
    (ig:Df K mg "tops_first" dF ["below"] fT fdT) (vJ:cA P w K mg base CX0 5 fT fdT ["below"] (Aw K T)):cA P w K mg base CX0 6 f fd ["below","springs"] (Bb K T):=by
  obtain ⟨tM,hMOUTH⟩:=C.MOUTH
  refine D.F.ok lE (fun vs H Q E h=>?_) (fun cdv A outer s H vs Q E hr h=>?_)
  · obtain ⟨a,b,r,s,rfl,_⟩:=h;rfl
  · obtain ⟨a,b,r,sp,rfl,⟨hS,hR,h64⟩,hB,hl,tk,q⟩:=h
    refine ⟨_,(au (aR (i:=2) lE.nd rfl (Or.inl rfl) (dh bJ rfl B.list PyProof.Rows.boot_list (ak (pv 1) aq)))
      (au (cP PassesOwn.never rfl (bO (aM vJ (hr.mono (by decide)) rfl ig.m ig.F.kp ig.b .nil bD (ak (pv 0) aq))) (aD (i:=3) lE.nd rfl (Or.inl rfl))
        (aB (iK (aW tu (aL aG (pv 0) (pv 3) (fun _ _=>rfl)) (lZ (v:=.int (-1)) rfl hMOUTH ⟨_,rfl⟩) (bw _))
          (aB (nG (pv 2) (aL aG (pv 0) (pv 3) (fun _ _=>rfl)) lN (aL aG (pv 2) (pv 3) (fun _ _=>rfl)) yO set_list))
          cu)))
      (aB (bx (pv 2))))),?_⟩
    refine sl_2 ?_
    intro zu0 zu1 zu2 zu3
    have O:=Ow.refl tk
    refine ⟨_,rfl,b,_,rfl,.inl hB,fun lf hlf=>?_⟩
    walk_at "new";intro H1 O
    refine ⟨_,rfl,a,r,rfl,⟨O.same.seq hS,hR,h64⟩,O.same.t1,O.oZ fun lt H2 xs O ⟨p,ep,hp⟩=>?_⟩
    subst ep
    refine ⟨lt,rfl,⟨_,O.sq 0⟩,?_⟩
    refine cW (K:=K) (a:=lt) (xs:=p.map fun (i:Nat)=>V.int (i:Int)) (fun t σ H3=>∃ (v3:Option V) (fl:List Int),σ=[some (.ref a),some (.ref b),some (.ref lf),v3]∧Ow T H H3 [(lt,.lst (p.map fun (i:Nat)=>V.int (i:Int))),(lf,.lst (fl.map V.int))]∧Rv.yZ r sp p t fl)
      ⟨none,sp,rfl,O,Rv.yZ.start r sp p hl⟩ (fun _ _ _ _ ⟨_,_,_,O,_⟩=>O.sq 0) ?_ ?_
    · rintro t y σ H3 hy ⟨v3,fl,rfl,O,N⟩
      rw [List.getElem?_map] at hy
      obtain ⟨j,hj,rfl⟩:∃ j,p[t]?=some j∧y=V.int (j:Int):=by
        cases e:p[t]? with
        | none=>rw [e] at hy;cases hy
        | some j=>rw [e] at hy;exact ⟨j,rfl,(Option.some.inj hy).symm⟩
      have hjr:=hp.lt (List.mem_of_getElem? hj)
      have gj:=Rv.j9 (r:=r) (p:=(j:Int)) (by omega) (by omega)
      have aj:=lM (ns:=r) (i:=(j:Int)) (by omega) gj
      have here:=N.here hp hR h64 hj
      refine ⟨_,rfl,_,rfl,a,_,_,_,rfl,rfl,O.same.seq hS,aj,rfl,_,rfl,?_⟩
      rcases hR.step (p:=(j:Int)) (by omega) (by omega) with hm | ⟨n0,n1⟩
      · rw [hm]
        refine Ri rfl ?_
        exact ⟨_,fl,rfl,O,N.Oh hj hm⟩
      · have hd:(!decide (V.int (Rv.nxt r (j:Int))=V.int (-1)))=true:=by
          have:¬ Rv.nxt r (j:Int)=-1:=by omega
          simp [this]
        rw [hd]
        refine Oo ?_
        obtain ⟨bn,ebn⟩:=Int.eq_ofNat_of_zero_le n0
        have hbl:bn<r.length:=by omega
        rw [ebn] at aj
        obtain ⟨x,hx⟩:∃ x,fl[bn]?=some x:=⟨_,N.at_ bn hbl⟩
        refine ⟨_,rfl,_,rfl,_,rfl,a,_,_,_,rfl,rfl,O.same.seq hS,aj,lf,_,bn,V.int x,rfl,rfl,O.sq 1,by rw [List.getElem?_map,hx];rfl,_,rfl,_,rfl,lf,_,_,_,rfl,rfl,O.sq 1,bh here,_,_,rfl,rfl,?_⟩
        refine nq O 1 rfl (jY (by rw [List.length_map,N.len];exact hbl)) fun H4 O=>?_
        refine ⟨_,fl.set bn (x + Rv.kO r sp (j:Int)),rfl,?_,N.turn hp hR h64 hj ebn hbl hx⟩
        rw [List.map_set];exact O
    · rintro σ H3 ⟨v3,fl,rfl,O,N⟩
      rw [List.length_map,hp.len] at N
      exact ⟨_,rfl,O.ret 1 rfl q (by rw [N.done hp hR])⟩
abbrev dG:Stmt:=top 10
theorem nU:aX ["below","start","stop","way"] ["below","start","stop"] (ao dG):=⟨rfl,rfl,rfl,by decide +kernel,rfl,by decide +kernel,by decide +kernel⟩
theorem xY (b:Int):∀ l:List Int,l.take (l.idxOf b)=l.takeWhile (fun x=>!decide (x=b))
  | []=>rfl
  | x :: l=>by
    rw [List.idxOf_cons,List.takeWhile_cons]
    by_cases h:x=b
    · simp [h]
    · have e:(x == b)=false:=by simp [h]
      rw [e,cond_false,List.take_succ_cons,xY b l]
      simp [h]
theorem Gf (ns:List Int) (k:Nat):vZ (ns.map V.int) none (some (k:Int))=(ns.take k).map V.int:=by
  unfold vZ
  rw [HT.Ej,HT.qg,List.drop_zero,List.length_map,Nat.sub_zero,← List.map_take]
  congr 1
  rw [List.take_eq_take_iff];omega
def sO (K:PySem.W.Frag):Sp:=fun vs H Q _=>∃ (a:Addr) (r:List Int) (p b:Int),vs=[.ref a,.int p,.int b]∧SqL K H a (r.map V.int)∧Rv.dU r∧0≤p∧p<r.length∧r.length≤900∧Rv.Stop r p b ∧
  VL H (fun xs=>xs=(Rv.bQ r p b).map V.int) Q
theorem Et {f fW:Addr} {fd fdW:FuncData} (D:Df K mg "stretch_of" dG ["below","start","stop"] f fd) (C:Mth mg) (dX:Df K mg "way_of" jk ["below","reach"] fW fdW)
    (oK:cA P w K mg base CX0 1 fW fdW ["below","reach"] (yh K)):cA P w K mg base CX0 2 f fd ["below","start","stop"] (sO K):=by
  obtain ⟨tM,hMOUTH⟩:=C.MOUTH
  refine D.F.ok nU (fun vs H Q E h=>?_) (fun cdv A outer s H vs Q E hr h=>?_)
  · obtain ⟨a,r,p,b,rfl,_⟩:=h;rfl
  · obtain ⟨a,r,p,b,rfl,hS,hR,p0,p1,hn,st,q⟩:=h
    refine ⟨_,(au (aR (i:=3) nU.nd rfl (Or.inl rfl) (aM oK (hr.mono (by decide)) rfl dX.m dX.F.kp dX.b .nil bD (ak (pv 0) (ak (pv 1) aq))))
      (au (iK (aW jB (pv 2) (lZ (v:=.int (-1)) rfl hMOUTH ⟨_,rfl⟩) (bw _))
        (aB (bx (pv 3)))
        cu)
      (au (iK (aW mC (pv 2) (pv 3) (by rfl))
        (aB pO)
        cu)
      (aB (bx (oA qb (pv 3) wH (nH (mq PySem.F.plainAttrs_list PySem.F.slot_list_index PySem.F.type_list_index Fb (pv 3) (ak (pv 2) aq))))))))),?_⟩
    refine sl_3 ?_
    intro zu0 zu1 zu2 zu3 zu4
    refine ⟨_,rfl,_,rfl,a,r,p,rfl,hS,hR,p0,p1,hn,fun lw H1 xs s1 n1 h1 e1=>?_⟩
    subst e1
    refine ⟨_,rfl,rfl,_,rfl,ite2 (fun h=>?_) fun h=>?_⟩
    · have hb:b=-1:=V.int.inj (of_decide_eq_true h)
      refine ⟨_,rfl,q lw H1 _ s1 n1 h1 ?_⟩
      unfold Rv.bQ;rw [if_pos hb]
    · have hb:¬ b=-1:=fun z=>h (decide_eq_true (by rw [z]))
      have hm:b∈Rv.walk r p:=st.resolve_left hb
      refine ⟨_,rfl,_,rfl,lw,_,rfl,.inl (SqL.of h1),rfl,qI _,_,rfl,?_⟩
      rw [if_pos rfl,wW,decide_eq_true hm]
      refine pH ?_
      refine ⟨_,rfl,_,rfl,.inl ⟨rfl,_,SqL.of h1⟩,_,rfl,lw,_,b,rfl,rfl,SqL.of h1,hm,_,rfl,lw,_,rfl,SqL.of h1,fun l hl=>?_⟩
      refine q l _ _ (s1.upd (s1.free hl)) (s1.free hl) cU ?_
      rw [Gf,xY]
      unfold Rv.bQ;rw [if_neg hb]
abbrev eG:Stmt:=top 15
theorem iR:aX ["below","one","day","start","back","most"] ["below","one"] (ao eG):=⟨rfl,rfl,rfl,by decide +kernel,rfl,by decide +kernel,by decide +kernel⟩
def Gp (r:List Int) (l:Lic):Prop:=0≤l.start∧l.start<r.length∧Rv.Stop r l.start l.back
def rE (K:PySem.W.Frag):Sp:=fun vs H Q _=>∃ (a t:Addr) (r:List Int) (l:Lic),vs=[.ref a,.ref t]∧SqL K H a (r.map V.int)∧Rv.dU r∧r.length≤900∧SqT K H t (Aa l)∧Gp r l∧VL H (fun xs=>xs=(Rv.bQ r l.start l.back).map V.int) Q
theorem zE {f f1:Addr} {fd fd1:FuncData} (D:Df K mg "reaches_of" eG ["below","one"] f fd) (cM:Df K mg "stretch_of" dG ["below","start","stop"] f1 fd1) (mL:cA P w K mg base CX0 2 f1 fd1 ["below","start","stop"] (sO K)) :
    cA P w K mg base CX0 3 f fd ["below","one"] (rE K):=by
  refine D.F.ok iR (fun vs H Q E h=>?_) (fun cdv A outer s H vs Q E hr h=>?_)
  · obtain ⟨_,_,_,_,rfl,_⟩:=h;rfl
  · obtain ⟨a,t,r,l,rfl,hA,hR,hn,hT,ok,q⟩:=h
    refine ⟨_,(au (gY (pv 1) (iY rfl (aN (aD (i:=2) iR.nd rfl (Or.inl rfl)) (aN (aD (i:=3) iR.nd rfl (Or.inl rfl)) (aN (aD (i:=4) iR.nd rfl (Or.inl rfl)) (aN (aD (i:=5) iR.nd rfl (Or.inl rfl)) dB))))))
      (aB (bx (aM mL (hr.mono (by decide)) rfl cM.m cM.F.kp cM.b .nil bD (ak (pv 0) (ak (pv 3) (ak (pv 4) aq))))))),?_⟩
    refine Wc ?_
    intro zu0
    refine ⟨_,rfl,t,_,rfl,hT,rfl,_,_,rfl,_,_,rfl,_,_,rfl,_,_,rfl,rfl,?_⟩
    exact ⟨_,rfl,_,rfl,_,rfl,a,r,l.start,l.back,rfl,hA,hR,ok.1,ok.2.1,hn,ok.2.2,q⟩
abbrev jt:Stmt:=top 19
theorem zy:aX ["one"] ["one"] (ao jt):=⟨rfl,rfl,rfl,by decide +kernel,rfl,by decide +kernel,by decide +kernel⟩
def Bc (K:PySem.W.Frag):Sp:=fun vs H Q _=>∃ (a:Addr) (l:Lic),vs=[.ref a]∧SqT K H a (Aa l)∧Q (.int l.most) H
theorem N6 {f:Addr} {fd:FuncData} (D:Df K mg "most_of" jt ["one"] f fd):cA P w K mg base CX0 1 f fd ["one"] (Bc K):=by
  refine D.F.ok zy (fun vs H Q E h=>?_) (fun cdv A outer s H vs Q E hr h=>?_)
  · obtain ⟨c,k,rfl,_⟩:=h;rfl
  · obtain ⟨a,l,rfl,hT,q⟩:=h
    refine ⟨_,(aB (bx (aL cX (pv 0) aA (fun _ _=>rfl)))),?_⟩
    exact ⟨_,rfl,_,_,_,_,rfl,rfl,hT,rfl,q⟩
abbrev gq:Stmt:=top 22
theorem wF:aX ["roll","calls"] ["roll","calls"] (ao gq):=⟨rfl,rfl,rfl,by decide +kernel,rfl,by decide +kernel,by decide +kernel⟩
def iM (ls:List Lic) (cs:List Int):List Int:=List.zipWith (fun l c=>min c l.most) ls cs
theorem Rj (i j:Int):(if j<i then j else i)=min i j:=by
  by_cases h:j<i
  · rw [if_pos h];omega
  · rw [if_neg h];omega
theorem DW {α β γ:Type} (f:α→β→γ) {as:List α} {bs:List β} {i:Nat} {a:α} {b:β} (ha:as[i]?=some a) (hb:bs[i]?=some b):List.zipWith f (as.take (i + 1)) (bs.take (i + 1))=List.zipWith f (as.take i) (bs.take i)++[f a b]:=by
  have h1:=(List.getElem?_eq_some_iff.mp ha)
  have h2:=(List.getElem?_eq_some_iff.mp hb)
  obtain ⟨l1,e1⟩:=h1
  obtain ⟨l2,e2⟩:=h2
  rw [List.take_succ,List.take_succ,ha,hb,List.zipWith_append (by rw [List.length_take,List.length_take];omega)]
  rfl
def yj (K:PySem.W.Frag) (T:fZ):Sp:=fun vs H Q _=>∃ (v:V) (b:Addr) (ls:List Lic) (cs:List Int),vs=[v,.ref b]∧Den K H v (CW ls)∧SqL K H b (cs.map V.int)∧ls.length=cs.length∧ls.length≤1000∧TabsOk T H∧m9 T H (fun xs=>xs=(iM ls cs).map V.int) Q
theorem Es {f f1:Addr} {fd fd1:FuncData} (D:Df K mg "wants_of" gq ["roll","calls"] f fd) (B:Blt mg) (lA:Df K mg "most_of" jt ["one"] f1 fd1) (Dv:cA P w K mg base CX0 1 f1 fd1 ["one"] (Bc K)) :
    cA P w K mg base CX0 2 f fd ["roll","calls"] (yj K T):=by
  refine D.F.ok wF (fun vs H Q E h=>?_) (fun cdv A outer s H vs Q E hr h=>?_)
  · obtain ⟨_,_,_,_,rfl,_⟩:=h;rfl
  · obtain ⟨v,b,ls,cs,rfl,hd,hb,hlc,hlen,tk,q⟩:=h
    obtain ⟨a,xs,rfl,hL,hds⟩:=hd.j6
    have hxl:xs.length=ls.length:=by rw [hds.length,List.length_map]
    refine ⟨_,(aB (bx (gD (ao gq) rfl ["roll","calls"] rfl ["one","call"] [none,none] (by decide +kernel) (by decide +kernel) (by decide +kernel) rfl (rG rfl B.zip (ak (pv 0) (ak (pv 1) aq))) (fun _ _ _=>(ql (K:=K) (n:=2) rfl rfl (aN (aD (i:=0) (show (["one","call"]:List Str).Nodup by decide +kernel) rfl (Or.inl rfl)) (aN (aD (i:=1) (show (["one","call"]:List Str).Nodup by decide +kernel) rfl (Or.inl rfl)) dB)))) (fun _ _ _=>gM) (fun _ _ _=>(aK (mJ rfl) rfl B.min PyProof.Rows.boot_min (ak (pv 1) (ak (aM Dv (hr.mono (by decide)) rfl lA.m lA.F.kp lA.b .nil bD (ak (pv 0) aq)) aq))))))),?_⟩
    have O:=Ow.refl tk
    refine ⟨_,rfl,_,rfl,a,b,_,_,rfl,hL,hb,fun acc hacc=>?_⟩
    refine yU (K:=K) (fun i τ H'=>Iv (∃ (v0 v1:Option V),τ=[v0,v1]∧Ow T H H' [(acc,.lst ((List.zipWith (fun l c=>min c l.most) (ls.take i) (cs.take i)).map V.int))])) (by rw [List.length_map];omega)
      ⟨trivial,none,none,rfl,O.mk' hacc rfl⟩ (fun i τ H' _ ⟨_,_,_,_,O⟩=>⟨O.same.seq hL,O.same.seq hb⟩) ?_ ?_
    · rintro i x y t τ H' hx hy ⟨-,v0,v1,rfl,O⟩ ht
      obtain ⟨z,hz,rfl⟩:=ints_get hy
      obtain ⟨al,l,rfl,hl,hT⟩:=hds.wR hx
      have hi:=(List.getElem?_eq_some_iff.mp hz).1
      walk_at "nw"
      refine ⟨t,_,rfl,O.sqT 0,rfl,_,_,rfl,_,_,rfl,rfl,?_⟩
      refine V0 ?_
      refine ⟨_,rfl,_,rfl,al,l,rfl,hT.mo O.same,_,_,rfl,?_⟩
      refine ⟨_,O.get 1,aP (by rw [List.length_map,List.length_zipWith,List.length_take];omega),?_⟩
      walk_at "pt"
      refine ⟨trivial,_,_,rfl,?_⟩
      rw [DW _ hl hz,List.map_append,← Rj]
      exact O.tail
    · rintro τ H' ⟨-,v0,v1,rfl,O⟩
      refine O.ret 0 rfl q ?_
      rw [hxl,List.take_of_length_le (Nat.le_refl _),List.take_of_length_le (by omega)];rfl
abbrev eV:Stmt:=top 24
theorem jH:aX ["free","ways","counts","way","reach"] ["free","ways"] (ao eV):=⟨rfl,rfl,rfl,by decide +kernel,rfl,by decide +kernel,by decide +kernel⟩
def yu (K:PySem.W.Frag) (T:fZ):Sp:=fun vs H Q _=>∃ (a:Addr) (v:V) (fs:List Int) (ws:List (List Int)),vs=[.ref a,v]∧SqL K H a (fs.map V.int)∧fs.length≤1000∧Den K H v (yS ws)∧(∀ w∈ws,Tn.WOk fs.length w)∧TabsOk T H ∧
  m9 T H (fun xs=>xs=(Tn.bumps (List.replicate fs.length 0) (ws.map fun w=>(w,1))).map V.int) Q
theorem Ez {f:Addr} {fd:FuncData} (D:Df K mg "count_ways" eV ["free","ways"] f fd) (B:Blt mg):cA P w K mg base CX0 1 f fd ["free","ways"] (yu K T):=by
  refine D.F.ok jH (fun vs H Q E h=>?_) (fun cdv A outer s H vs Q E hr h=>?_)
  · obtain ⟨_,_,_,_,rfl,_⟩:=h;rfl
  · obtain ⟨a,v,fs,ws,rfl,hA,hfl,hd,hws,tk,q⟩:=h
    obtain ⟨b,xs,rfl,hL,hds⟩:=hd.j6
    have hxl:xs.length=ws.length:=by rw [hds.length,List.length_map]
    refine ⟨_,(au (aR (i:=2) jH.nd rfl (Or.inl rfl) (aQ qt (cZ (ak aA aq)) (aK aH rfl B.len PySem.boot_len (ak (pv 0) aq))))
      (au (cP PassesOwn.never rfl (bO (pv 1)) (aD (i:=3) jH.nd rfl (Or.inl rfl))
        (aB (cP PassesOwn.never rfl (bO (pv 3)) (aD (i:=4) jH.nd rfl (Or.inl rfl))
          (aB (nG (pv 2) (pv 4) lN aA yO set_list)))))
      (aB (bx (pv 2))))),?_⟩
    refine Yu ?_
    intro zu0 zu1 zu2 zu3
    have O:=Ow.refl tk
    have s0:=O.same
    walk_at "w"
    intro l1 h1
    walk_at "nw"
    walk_at "w"
    refine ⟨l1,_,_,rfl,rfl,O.get 0,by rw [List.length_map];omega,by rw [List.length_map];omega,jF (by rw [List.length_map,Int.toNat_natCast];simp;omega),fun lc hlc=>?_⟩
    walk_at "nw"
    rw [List.length_map,Int.toNat_natCast,kj] at O
    have O:=O.two
    refine ⟨_,rfl,b,rfl,⟨_,O.same.seq hL⟩,?_⟩
    refine cW (K:=K) (xs:=xs) (fun i σ H'=>Iv (∃ v3 v4:Option V,σ=[some (.ref a),some (.ref b),some (.ref lc),v3,v4]∧Ow T H H' [(lc,.lst ((Tn.bumps (List.replicate fs.length 0) ((ws.take i).map fun w=>(w,1))).map V.int))]))
      ⟨trivial,none,none,rfl,O⟩ (fun i σ H' _ ⟨_,_,_,_,O⟩=>O.same.seq hL) ?_ ?_
    · rintro i x σ H2 hx ⟨-,v3,v4,rfl,O⟩
      obtain ⟨wa,w,rfl,hw,hW⟩:=hds.Nj hx
      have ok:=hws w (List.mem_of_getElem? hw)
      have hnext:Tn.bumps (List.replicate fs.length 0) ((ws.take (i + 1)).map fun w=>(w,(1:Int)))=Tn.bump (Tn.bumps (List.replicate fs.length 0) ((ws.take i).map fun w=>(w,1))) w 1:=by
        rw [List.take_add_one,hw,List.map_append];exact Tn.rP _ _ _
      have hcl:(Tn.bumps (List.replicate fs.length 0) ((ws.take i).map fun w=>(w,(1:Int)))).length=fs.length:=by rw [Tn.kY,List.length_replicate]
      generalize Tn.bumps (List.replicate fs.length 0) ((ws.take i).map fun w=>(w,(1:Int)))=cur at O hnext hcl
      refine ⟨_,rfl,wa,rfl,⟨_,O.same.seq hW⟩,?_⟩
      refine cW (K:=K) (xs:=w.map V.int) (fun j σ H'=>Iv (∃ v4:Option V,σ=[some (.ref a),some (.ref b),some (.ref lc),some (.ref wa),v4]∧Ow T H H' [(lc,.lst ((Tn.bump cur (w.take j) 1).map V.int))]))
        ⟨trivial,v4,rfl,O⟩ (fun i σ H' _ ⟨_,_,_,O⟩=>O.same.seq hW) ?_ ?_
      · rintro j y σ H3 hy ⟨-,v4,rfl,O⟩
        obtain ⟨z,hz,rfl⟩:=ints_get hy
        obtain ⟨z0,z1⟩:=ok.2 z (List.mem_of_getElem? hz)
        obtain ⟨zn,rfl⟩:=Int.eq_ofNat_of_zero_le z0
        have hbl:(Tn.bump cur (w.take j) 1).length=fs.length:=by rw [Tn.jN,hcl]
        refine ⟨_,rfl,_,rfl,lc,_,zn,_,rfl,rfl,O.sq 0,by rw [List.getElem?_map,aY (by omega)];rfl,?_⟩
        refine ⟨_,_,rfl,rfl,lc,_,_,zn,rfl,rfl,O.get 0,jY (by rw [List.length_map];omega),?_⟩
        walk_at "pt"
        refine ⟨trivial,_,rfl,?_⟩
        rw [qM hz,Int.toNat_natCast,List.map_set];exact O
      · rintro σ H3 ⟨-,v4,rfl,O⟩
        rw [List.length_map,List.take_of_length_le (Nat.le_refl _)] at O
        refine ⟨trivial,_,_,rfl,?_⟩
        rw [hnext];exact O
    rintro σ H2 ⟨-,v3,v4,rfl,O⟩
    refine ⟨_,rfl,O.ret 0 rfl q ?_⟩
    rw [hxl,List.take_of_length_le (Nat.le_refl _)]
abbrev cV:Stmt:=top 25
theorem j7:aX ["free","ways","rests","counts","shares"] ["free","ways","rests"] (ao cV):=⟨rfl,rfl,rfl,by decide +kernel,rfl,by decide +kernel,by decide +kernel⟩
def PX (K:PySem.W.Frag) (T:fZ):Sp:=fun vs H Q _=>∃ (a b:Addr) (v:V) (fs rs:List Int) (ws:List (List Int)),vs=[.ref a,v,.ref b]∧SqL K H a (fs.map V.int)∧Den K H v (yS ws)∧SqL K H b (rs.map V.int)∧fs.length≤1000∧rs.length≤1000∧ws.length≤1000 ∧
  (∀ w∈ws,Tn.WOk fs.length w)∧TabsOk T H∧∀ (M:Int) (H':Hp),bI T H H'→Tn.WT fs (Tn.bumps (List.replicate fs.length 0) (ws.map fun w=>(w,1))) rs M→Q (.int M) H'
theorem WQ {f f1:Addr} {fd fd1:FuncData} (D:Df K mg "whole_turns" cV ["free","ways","rests"] f fd) (B:Blt mg) (iC:Df K mg "count_ways" eV ["free","ways"] f1 fd1) (vP:cA P w K mg base CX0 1 f1 fd1 ["free","ways"] (yu K T)) :
    cA P w K mg base CX0 2 f fd ["free","ways","rests"] (PX K T):=by
  refine D.F.ok j7 (fun vs H Q E h=>?_) (fun cdv A outer s H vs Q E hr h=>?_)
  · obtain ⟨_,_,_,_,_,_,rfl,_⟩:=h;rfl
  · obtain ⟨a,b,v,fs,rs,ws,rfl,hA,hd,hB,hfl,hrl,hwl,hws,tk,q⟩:=h
    refine ⟨_,(au (aR (i:=3) j7.nd rfl (Or.inl rfl) (aM vP (hr.mono (by decide)) rfl iC.m iC.F.kp iC.b .nil bD (ak (pv 0) (ak (pv 1) aq))))
      (au (fP (i:=4) (ao cV) rfl ["free","ways","rests","counts","shares"] rfl ["drops","count"] [none,none] (by decide +kernel) (by decide +kernel) (by decide +kernel) rfl j7.nd rfl rfl (rG rfl B.zip (ak (pv 0) (ak (pv 3) aq))) (fun _ _ _=>(ql (K:=K) (n:=2) rfl rfl (aN (aD (i:=0) (show (["drops","count"]:List Str).Nodup by decide +kernel) rfl (Or.inl rfl)) (aN (aD (i:=1) (show (["drops","count"]:List Str).Nodup by decide +kernel) rfl (Or.inl rfl)) dB)))) (fun _ _ _=>(jU (aW wL (pv 1) aA (bw _)))) (fun _ _ _=>(aQ d8 (pv 0) (pv 1))) rfl)
      (aB (bx (aK (Dm rfl) rfl B.max PyProof.Rows.boot_max (ak aA (ak (Ny rfl rfl B.min (aQ G8 (dh bJ rfl B.list PyProof.Rows.boot_list (ak (pv 2) aq)) (pv 4))) aq))))))),?_⟩
    refine Yt ?_
    intro zu0 zu1
    have O:=Ow.refl tk
    have s0:=O.same
    refine ⟨_,rfl,_,rfl,a,v,fs,ws,rfl,hA,hfl,hd,hws,tk,O.oZ fun lc H2 xs O e=>?_⟩
    subst e
    have hcb:=Tn.cw_bound hws
    have hcl:(Tn.bumps (List.replicate fs.length 0) (ws.map fun w=>(w,(1:Int)))).length=fs.length:=by rw [Tn.kY,List.length_replicate]
    generalize Tn.bumps (List.replicate fs.length 0) (ws.map fun w=>(w,(1:Int)))=cs at O hcb hcl q
    refine ⟨_,rfl,_,rfl,a,lc,_,_,rfl,O.same.seq hA,O.sq 0,fun acc hacc=>?_⟩
    refine yU (K:=K) (fun i τ H'=>Iv (∃ (v0 v1:Option V),τ=[v0,v1]∧Ow T H H' [(acc,.lst ((Tn.shares (fs.take i) (cs.take i)).map V.int)),(lc,.lst (cs.map V.int))])) (by rw [List.length_map,List.length_map];omega)
      ⟨trivial,none,none,rfl,O.mk' hacc rfl⟩ (fun i τ H' _ ⟨_,_,_,_,O⟩=>⟨O.same.seq hA,O.sq 1⟩) ?_ ?_
    · rintro i x y t τ H' hx hy ⟨-,v0,v1,rfl,O⟩ ht
      obtain ⟨z,hz,rfl⟩:=ints_get hx
      obtain ⟨c,hc,rfl⟩:=ints_get hy
      have hi:=(List.getElem?_eq_some_iff.mp hz).1
      have hcm:=hcb c (List.mem_of_getElem? hc)
      have hnext:=Tn.wD hz hc
      have hsl:(Tn.shares (fs.take i) (cs.take i)).length≤1000:=by
        unfold Tn.shares
        rw [List.length_map]
        refine Nat.le_trans (List.length_filter_le _ _) ?_
        rw [List.length_zip,List.length_take];omega
      walk_at "nw"
      refine ⟨t,_,rfl,O.sqT 0,rfl,_,_,rfl,_,_,rfl,rfl,?_⟩
      refine ⟨_,rfl,_,_,rfl,rfl,_,rfl,ifD (fun hp=>?_) fun hp=>?_⟩
      · rw [if_pos hp] at hnext
        refine ⟨_,rfl,_,rfl,_,_,rfl,rfl,⟨hp,by omega⟩,?_⟩
        refine ⟨_,O.get 1,aP (by rw [List.length_map];omega),?_⟩
        walk_at "pt"
        refine ⟨trivial,_,_,rfl,?_⟩
        rw [hnext,List.map_append];exact O.tail
      · rw [if_neg hp,List.append_nil] at hnext
        refine ⟨trivial,_,_,rfl,?_⟩
        rw [hnext];exact O.tail
    rintro τ H' ⟨-,v0,v1,rfl,O⟩
    rw [List.length_map,List.take_of_length_le (Nat.le_refl _),List.take_of_length_le (by omega)] at O
    have hsl:(Tn.shares fs cs).length≤1000:=by
      unfold Tn.shares
      rw [List.length_map]
      refine Nat.le_trans (List.length_filter_le _ _) ?_
      rw [List.length_zip];omega
    refine ⟨_,rfl,b,_,rfl,.inl (O.same.seq hB),fun lr hlr=>?_⟩
    walk_at "nw"
    refine ⟨_,rfl,lr,acc,_,_,rfl,rfl,O.get 0,O.get 1,jF (by rw [List.length_map,List.length_map];omega),fun l2 hl2=>?_⟩
    walk_at "nw"
    rw [← List.map_append] at O
    refine ⟨l2,rs++Tn.shares fs cs,rfl,O.sq 0,fun e0=>?_,fun m hm hle=>?_⟩
    · exact ⟨_,_,rfl,q _ _ O.same (.inl ⟨e0,rfl⟩)⟩
    · refine ⟨_,_,rfl,q _ _ O.same (.inr ⟨m,hm,hle,?_⟩)⟩
      by_cases h:m > 0
      · rw [if_pos h];omega
      · rw [if_neg h];omega
abbrev nZ:Stmt:=top 26
theorem Bp:aX ["left","way","drops","reach"] ["left","way","drops"] (ao nZ):=⟨rfl,rfl,rfl,by decide +kernel,rfl,by decide +kernel,by decide +kernel⟩
def wB (K:PySem.W.Frag) (T:fZ):Sp:=fun vs H Q _=>∃ (a b:Addr) (fs w:List Int) (c:Int) (Hb:Hp),vs=[.ref a,.ref b,.int c]∧Ow T Hb H [(a,.lst (fs.map V.int))]∧SqL K Hb b (w.map V.int)∧Tn.WOk fs.length w ∧
  ∀ H',Ow T Hb H' [(a,.lst ((Tn.bump fs w (-c)).map V.int))]→Q .non H'
theorem N8 {f:Addr} {fd:FuncData} (D:Df K mg "draw" nZ ["left","way","drops"] f fd):cA P w K mg base CX0 1 f fd ["left","way","drops"] (wB K T):=by
  refine D.F.ok Bp (fun vs H Q E h=>?_) (fun cdv A outer s H vs Q E hr h=>?_)
  · obtain ⟨_,_,_,_,_,_,rfl,_⟩:=h;rfl
  · obtain ⟨a,b,fs,w,c,Hb,rfl,O,hW,ok,q⟩:=h
    refine ⟨_,(aB (cP PassesOwn.never rfl (bO (pv 1)) (aD (i:=3) Bp.nd rfl (Or.inl rfl))
        (aB (nG (pv 0) (pv 3) lN (pv 2) Cw set_list)))),?_⟩
    refine sl_7 ?_
    intro zu0
    refine ⟨_,rfl,b,rfl,⟨_,O.same.seq hW⟩,?_⟩
    refine cW (K:=K) (xs:=w.map V.int) (fun j σ H'=>Iv (∃ v3:Option V,σ=[some (.ref a),some (.ref b),some (.int c),v3]∧Ow T Hb H' [(a,.lst ((Tn.bump fs (w.take j) (-c)).map V.int))]))
      ⟨trivial,none,rfl,O⟩ (fun i σ H' _ ⟨_,_,_,O⟩=>O.same.seq hW) ?_ ?_
    · rintro j y σ H3 hy ⟨-,v4,rfl,O⟩
      obtain ⟨z,hz,rfl⟩:=ints_get hy
      obtain ⟨z0,z1⟩:=ok.2 z (List.mem_of_getElem? hz)
      obtain ⟨zn,rfl⟩:=Int.eq_ofNat_of_zero_le z0
      have hbl:(Tn.bump fs (w.take j) (-c)).length=fs.length:=Tn.jN _ _ _
      refine ⟨_,rfl,_,rfl,a,_,zn,_,rfl,rfl,O.sq 0,by rw [List.getElem?_map,aY (by omega)];rfl,?_⟩
      refine ⟨_,rfl,_,_,rfl,rfl,a,_,_,zn,rfl,rfl,O.get 0,jY (by rw [List.length_map];omega),?_⟩
      walk_at "pt"
      refine ⟨trivial,_,rfl,?_⟩
      rw [qM hz,Int.toNat_natCast,List.map_set];exact O
    · rintro σ H3 ⟨-,v4,rfl,O⟩
      rw [List.length_map,List.take_of_length_le (Nat.le_refl _)] at O
      exact q _ O
abbrev bA:Stmt:=top 27
theorem eY:aX ["left","ways","rests","takes","going","unmet","turns","taker"] ["left","ways","rests","takes","going"] (ao bA):=⟨rfl,rfl,rfl,by decide +kernel,rfl,by decide +kernel,by decide +kernel⟩
structure YT (K:PySem.W.Frag) (T:fZ) (H Hb:Hp) (a b t g:Addr) (v:V) (fs rs xs:List Int) (ws:List (List Int)) (gs:List Nat):Prop where
  O:Ow T Hb H [(a,.lst (fs.map V.int)),(t,.lst (xs.map V.int))]
  d0:Den K Hb v (yS ws)
  d1:SqL K Hb b (rs.map V.int)
  d2:SqL K Hb g ((Tn.asI gs).map V.int)
  rl:rs.length=ws.length
  xl:xs.length=ws.length
  gn:∀ k∈gs,k<ws.length
  nd:gs.Nodup
  wok:∀ w∈ws,Tn.WOk fs.length w
  fl:fs.length≤1000
  wl:ws.length≤1000
  gl:gs.length≤1000
def Qa (K:PySem.W.Frag) (T:fZ):Sp:=fun vs H Q _=>∃ (a b t g:Addr) (v:V) (fs rs xs:List Int) (ws:List (List Int)) (gs:List Nat) (Hb:Hp),vs=[.ref a,v,.ref b,.ref t,.ref g]∧YT K T H Hb a b t g v fs rs xs ws gs ∧
  ∀ (M:Int) (H':Hp),Tn.WT fs (Tn.DQ fs.length ws gs) (Tn.unmet rs xs gs) M→Ow T Hb H' [(a,.lst ((Tn.bumps fs (gs.map fun k=>(Tn.fW ws k,-M))).map V.int)),(t,.lst ((Tn.bump xs (Tn.asI gs) M).map V.int))]→Q .non H'
theorem wY {ws:List (List Int)} {k:Nat} (h:k<ws.length):ws[k]?=some (Tn.fW ws k):=by
  unfold Tn.fW;rw [List.getD_eq_getElem?_getD,List.getElem?_eq_getElem h];rfl
theorem WR {f f1 f2:Addr} {fd fd1 fd2:FuncData} (D:Df K mg "take_whole_turns" bA ["left","ways","rests","takes","going"] f fd) (B:Blt mg)
    (gB:Df K mg "whole_turns" cV ["free","ways","rests"] f1 fd1) (uh:cA P w K mg base CX0 2 f1 fd1 ["free","ways","rests"] (PX K T))
    (mR:Df K mg "draw" nZ ["left","way","drops"] f2 fd2) (Dz:cA P w K mg base CX0 1 f2 fd2 ["left","way","drops"] (wB K T)) :
    cA P w K mg base CX0 3 f fd ["left","ways","rests","takes","going"] (Qa K T):=by
  refine D.F.ok eY (fun vs H Q E h=>?_) (fun cdv A outer s H vs Q E hr h=>?_)
  · obtain ⟨_,_,_,_,_,_,_,_,_,_,_,rfl,_⟩:=h;rfl
  · obtain ⟨a,b,t,g,v,fs,rs,xs,ws,gs,Hb,rfl,⟨O,d0,d1,d2,rl,xl,gn,nd,wok,fl,wl,gl⟩,q⟩:=h
    obtain ⟨va,vs,rfl,hV,hds⟩:=d0.j6
    have hil:((Tn.asI gs).map V.int).length=gs.length:=by rw [List.length_map,Tn.jl]
    refine ⟨_,(au (fP (i:=5) (ao bA) rfl ["left","ways","rests","takes","going","unmet","turns","taker"] rfl ["taker","rests","takes"] [none,some 2,some 3] (by decide +kernel) (by decide +kernel) (by decide +kernel) rfl eY.nd rfl rfl (bO (pv 4)) (fun _ _ _=>(aD (i:=0) (show (["taker","rests","takes"]:List Str).Nodup by decide +kernel) rfl (Or.inl rfl))) (fun _ _ _=>gM) (fun _ _ _=>(aQ nu (aL (bM (K:=K) rfl) (pv 1) (pv 0) (fun _ _=>rfl)) (aL (bM (K:=K) rfl) (pv 2) (pv 0) (fun _ _=>rfl)))) rfl)
      (au (aR (i:=6) eY.nd rfl (Or.inl rfl) (aM uh (hr.mono (by decide)) rfl gB.m gB.F.kp gB.b .nil bD (ak (pv 0) (ak (gD (ao bA) rfl ["left","ways","rests","takes","going","unmet","turns","taker"] rfl ["taker","ways"] [none,some 1] (by decide +kernel) (by decide +kernel) (by decide +kernel) rfl (bO (pv 4)) (fun _ _ _=>(aD (i:=0) (show (["taker","ways"]:List Str).Nodup by decide +kernel) rfl (Or.inl rfl))) (fun _ _ _=>gM) (fun _ _ _=>(aL (bM (K:=K) rfl) (pv 1) (pv 0) (fun _ _=>rfl)))) (ak (pv 5) aq)))))
      (aB (cP PassesOwn.never rfl (bO (pv 4)) (aD (i:=7) eY.nd rfl (Or.inl rfl))
        (au (dZ (aM Dz (hr.mono (by decide)) rfl mR.m mR.F.kp mR.b .nil bD (ak (pv 0) (ak (aL aG (pv 1) (pv 7) (fun _ _=>rfl)) (ak (pv 6) aq)))))
        (aB (nG (pv 3) (pv 7) lN (pv 6) yO set_list))))))),?_⟩
    refine sl_8 ?_
    intro zu0 zu1 zu2 zu3
    /- unmet -/
    refine ⟨_,rfl,g,rfl,⟨_,O.same.seq d2⟩,fun lu hlu=>?_⟩
    refine dO (K:=K) (xs:=(Tn.asI gs).map V.int) (fun i τ H'=>Iv (∃ v0:Option V,τ=[v0,some (.ref b),some (.ref t)]∧Ow T Hb H' [(lu,.lst ((Tn.unmet rs xs (gs.take i)).map V.int)),(a,.lst (fs.map V.int)),(t,.lst (xs.map V.int))]))
      ⟨trivial,none,rfl,O.mk' hlu rfl⟩ (fun i τ H' _ ⟨_,_,_,O⟩=>O.same.seq d2) ?_ ?_
    · rintro i y τ H2 hy ⟨-,v0,rfl,O⟩
      obtain ⟨z,hz,rfl⟩:=ints_get hy
      obtain ⟨k,hk,rfl⟩:=Tn.jx hz
      have hkn:=gn k (List.mem_of_getElem? hk)
      have hi:=(List.getElem?_eq_some_iff.mp hk).1
      refine za ?_
      refine ⟨_,rfl,_,rfl,b,_,_,_,rfl,rfl,O.same.seq d1,bh (aY (by omega)),_,rfl,_,rfl,t,_,_,_,rfl,rfl,O.sq 2,bh (aY (by omega)),_,_,rfl,rfl,?_⟩
      refine ⟨_,O.get 0,aP (by rw [List.length_map];unfold Tn.unmet;rw [List.length_map,List.length_take];omega),?_⟩
      walk_at "pt"
      refine ⟨trivial,_,rfl,?_⟩
      rw [Tn.zj hk,List.map_append];exact O
    rintro τ H2 ⟨-,v0,rfl,O⟩
    rw [hil,List.take_of_length_le (Nat.le_refl _)] at O
    have hul:(Tn.unmet rs xs gs).length=gs.length:=by unfold Tn.unmet;rw [List.length_map]
    /- whole_turns(left, .., unmet) -/
    refine ⟨_,rfl,_,rfl,g,rfl,⟨_,O.same.seq d2⟩,fun lw hlw=>?_⟩
    refine dO (K:=K) (xs:=(Tn.asI gs).map V.int) (fun i τ H'=>Iv (∃ (v0:Option V) (us:List V),τ=[v0,some (.ref va)]∧cg K Hb us ((gs.take i).map fun k=>oF (Tn.fW ws k))∧Ow T Hb H' [(lw,.lst us),(lu,.lst ((Tn.unmet rs xs gs).map V.int)),(a,.lst (fs.map V.int)),(t,.lst (xs.map V.int))]))
      ⟨trivial,none,[],rfl,.nil,O.mk' hlw rfl⟩ (fun i τ H' _ ⟨_,_,_,_,_,O⟩=>O.same.seq d2) ?_ ?_
    · rintro i y τ H3 hy ⟨-,v0,us,rfl,hus,O⟩
      obtain ⟨z,hz,rfl⟩:=ints_get hy
      obtain ⟨k,hk,rfl⟩:=Tn.jx hz
      have hkn:=gn k (List.mem_of_getElem? hk)
      have hi:=(List.getElem?_eq_some_iff.mp hk).1
      obtain ⟨wa,hwa,hW⟩:=hds.zX (wY hkn)
      refine za ?_
      refine ⟨_,rfl,_,rfl,va,_,_,_,rfl,rfl,O.same.seq hV,bR hwa,?_⟩
      refine ⟨_,O.get 0,aP (by rw [hus.length,List.length_map,List.length_take];omega),?_⟩
      walk_at "pt"
      refine ⟨trivial,_,us++[.ref wa],rfl,?_,O⟩
      rw [Tn.gw hk]
      exact hus.append (.cons (Den.ints hW) .nil)
    rintro τ H3 ⟨-,v0,us,rfl,hus,O⟩
    rw [hil,List.take_of_length_le (Nat.le_refl _)] at hus
    have hus':cg K Hb us ((gs.map fun k=>Tn.fW ws k).map oF):=by rw [List.map_map];exact hus
    refine ⟨_,rfl,a,lu,.ref lw,fs,Tn.unmet rs xs gs,gs.map fun k=>Tn.fW ws k,rfl,O.sq 2,.list (O.sq 0) (hus'.mo O.same),O.sq 1,fl,by omega,by rw [List.length_map];omega,fun w hw=>?_,O.same.t1,fun M H4 sm hM=>?_⟩
    · obtain ⟨k,hk,rfl⟩:=List.mem_map.mp hw
      exact wok _ (Tn.qx (gn k hk))
    have hM:Tn.WT fs (Tn.DQ fs.length ws gs) (Tn.unmet rs xs gs) M:=by
      unfold Tn.DQ
      rw [List.map_map] at hM
      exact hM
    have O:=((O.lQ sm).tail).tail
    /- the loop -/
    refine ⟨_,rfl,g,rfl,⟨_,O.same.seq d2⟩,?_⟩
    refine cW (K:=K) (xs:=(Tn.asI gs).map V.int) (fun i σ H'=>Iv (∃ v7:Option V,σ=[some (.ref a),some (.ref va),some (.ref b),some (.ref t),some (.ref g),some (.ref lu),some (.int M),v7] ∧
      Ow T Hb H' [(a,.lst ((Tn.bumps fs ((gs.take i).map fun k=>(Tn.fW ws k,-M))).map V.int)),(t,.lst ((Tn.bump xs (Tn.asI (gs.take i)) M).map V.int))]))
      ⟨trivial,none,rfl,O⟩ (fun i σ H' _ ⟨_,_,_,O⟩=>O.same.seq d2) ?_ ?_
    · rintro i y σ H5 hy ⟨-,v7,rfl,O⟩
      obtain ⟨z,hz,rfl⟩:=ints_get hy
      obtain ⟨k,hk,rfl⟩:=Tn.jx hz
      have hkn:=gn k (List.mem_of_getElem? hk)
      obtain ⟨wa,hwa,hW⟩:=hds.zX (wY hkn)
      have hn1:Tn.bumps fs ((gs.take (i + 1)).map fun k=>(Tn.fW ws k,-M))=Tn.bump (Tn.bumps fs ((gs.take i).map fun k=>(Tn.fW ws k,-M))) (Tn.fW ws k) (-M):=by
        rw [Tn.gw hk];exact Tn.rP _ _ _
      have hl1:(Tn.bumps fs ((gs.take i).map fun k=>(Tn.fW ws k,-M))).length=fs.length:=Tn.kY _ _
      have hl2:(Tn.bump xs (Tn.asI (gs.take i)) M).length=ws.length:=by rw [Tn.jN];exact xl
      have hn2:Tn.bump xs (Tn.asI (gs.take (i + 1))) M=(Tn.bump xs (Tn.asI (gs.take i)) M).set k ((Tn.bump xs (Tn.asI (gs.take i)) M).getD k 0 + M):=by
        rw [← Tn.vm,← Tn.vm,qM hz,Int.toNat_natCast]
      obtain ⟨H1,O1,s1,hB,back⟩:=Ow.lend (A:=[(a,.lst ((Tn.bumps fs ((gs.take i).map fun k=>(Tn.fW ws k,-M))).map V.int))]) (B:=[(t,.lst ((Tn.bump xs (Tn.asI (gs.take i)) M).map V.int))]) O
      refine ⟨_,rfl,_,rfl,_,rfl,va,_,_,_,rfl,rfl,O.same.seq hV,bR hwa,_,rfl,a,wa,_,_,M,H1,rfl,O1,hW.mo s1,by rw [hl1];exact wok _ (Tn.qx hkn),fun H6 O6=>?_⟩
      have O:=back _ _ O6
      refine ⟨_,rfl,_,rfl,t,_,k,_,rfl,rfl,O.sq 1,by rw [List.getElem?_map,aY (by omega)];rfl,_,rfl,_,_,rfl,rfl,t,_,_,k,rfl,rfl,O.get 1,jY (by rw [List.length_map];omega),?_⟩
      walk_at "pt"
      refine ⟨trivial,_,rfl,?_⟩
      rw [hn1,hn2,List.map_set];exact O
    rintro σ H5 ⟨-,v7,rfl,O⟩
    rw [hil,List.take_of_length_le (Nat.le_refl _)] at O
    exact q M _ hM O
abbrev bV:Stmt:=top 28
theorem jA:aX ["left","ways","rests","takes","going","still","taker"] ["left","ways","rests","takes","going"] (ao bV):=⟨rfl,rfl,rfl,by decide +kernel,rfl,by decide +kernel,by decide +kernel⟩
def Qc (K:PySem.W.Frag) (T:fZ):Sp:=fun vs H Q _=>∃ (a b t g:Addr) (v:V) (fs rs xs:List Int) (ws:List (List Int)) (gs:List Nat) (Hb:Hp),vs=[.ref a,v,.ref b,.ref t,.ref g]∧YT K T H Hb a b t g v fs rs xs ws gs ∧
  ∀ (l:Addr) (H':Hp),Ow T Hb H' [(l,.lst ((Tn.asI (Tn.jz ws rs gs (fs,xs,[])).2.2).map V.int)),(a,.lst ((Tn.jz ws rs gs (fs,xs,[])).1.map V.int)),(t,.lst ((Tn.jz ws rs gs (fs,xs,[])).2.1.map V.int))]→Q (.ref l) H'
theorem O8 {w l:List Int}:((w.map fun r:Int=>decide (0<l.getD r.toNat 0)).all id)=w.all (fun r=>decide (0<l.getD r.toNat 0)):=by rw [List.all_map];rfl
theorem WW {f f2:Addr} {fd fd2:FuncData} (D:Df K mg "take_one_turn" bV ["left","ways","rests","takes","going"] f fd) (B:Blt mg)
    (mR:Df K mg "draw" nZ ["left","way","drops"] f2 fd2) (Dz:cA P w K mg base CX0 1 f2 fd2 ["left","way","drops"] (wB K T)) :
    cA P w K mg base CX0 2 f fd ["left","ways","rests","takes","going"] (Qc K T):=by
  refine D.F.ok jA (fun vs H Q E h=>?_) (fun cdv A outer s H vs Q E hr h=>?_)
  · obtain ⟨_,_,_,_,_,_,_,_,_,_,_,rfl,_⟩:=h;rfl
  · obtain ⟨a,b,t,g,v,fs,rs,xs,ws,gs,Hb,rfl,⟨O,d0,d1,d2,rl,xl,gn,nd,wok,fl,wl,gl⟩,q⟩:=h
    obtain ⟨va,vs,rfl,hV,hds⟩:=d0.j6
    have hil:((Tn.asI gs).map V.int).length=gs.length:=by rw [List.length_map,Tn.jl]
    refine ⟨_,(au (aR (i:=5) jA.nd rfl (Or.inl rfl) (cZ aq))
      (au (cP PassesOwn.never rfl (bO (pv 4)) (aD (i:=6) jA.nd rfl (Or.inl rfl))
        (aB (iK (PW.pt (pw_and (aW zB (aL aG (pv 3) (pv 6) (fun _ _=>rfl)) (aL aG (pv 2) (pv 6) (fun _ _=>rfl)) (bw _)) (pw_and1 (kE (aK (Gj rfl) rfl B.all PyProof.Rows.boot_all (ak (gD (ao bV) rfl ["left","ways","rests","takes","going","still","taker"] rfl ["reach","left"] [none,some 0] (by decide +kernel) (by decide +kernel) (by decide +kernel) rfl (bO (aL aG (pv 1) (pv 6) (fun _ _=>rfl))) (fun _ _ _=>(aD (i:=0) (show (["reach","left"]:List Str).Nodup by decide +kernel) rfl (Or.inl rfl))) (fun _ _ _=>gM) (fun _ _ _=>(mj wL (aL (bM (K:=K) rfl) (pv 1) (pv 0) (fun _ _=>rfl)) aA (bw _)))) aq))))))
          (au (dZ (aM Dz (hr.mono (by decide)) rfl mR.m mR.F.kp mR.b .nil bD (ak (pv 0) (ak (aL aG (pv 1) (pv 6) (fun _ _=>rfl)) (ak aA aq)))))
          (au (nG (pv 3) (pv 6) lN aA yO set_list)
          (aB (dZ (mq PySem.F.plainAttrs_list PySem.F.slot_list_append PySem.F.type_list_append cL (pv 5) (ak (pv 6) aq))))))
          cu)))
      (aB (bx (pv 5))))),?_⟩
    refine sl_9 ?_
    intro zu0 zu1 zu2 zu3 zu4 zu5
    refine ⟨szl,fun ls hls=>?_⟩
    walk_at "nw"
    refine ⟨_,rfl,g,rfl,⟨_,O.same.seq d2⟩,?_⟩
    refine cW (K:=K) (xs:=(Tn.asI gs).map V.int) (fun i σ H'=>Iv (∃ v6:Option V,σ=[some (.ref a),some (.ref va),some (.ref b),some (.ref t),some (.ref g),some (.ref ls),v6] ∧
      Ow T Hb H' [(ls,.lst ((Tn.asI (Tn.jz ws rs (gs.take i) (fs,xs,[])).2.2).map V.int)),(a,.lst ((Tn.jz ws rs (gs.take i) (fs,xs,[])).1.map V.int)),(t,.lst ((Tn.jz ws rs (gs.take i) (fs,xs,[])).2.1.map V.int))]))
      ⟨trivial,none,rfl,O⟩ (fun i σ H' _ ⟨_,_,_,O⟩=>O.same.seq d2) ?_ ?_
    · rintro i y σ H5 hy ⟨-,v7,rfl,O⟩
      obtain ⟨z,hz,rfl⟩:=ints_get hy
      obtain ⟨k,hk,rfl⟩:=Tn.jx hz
      have hkn:=gn k (List.mem_of_getElem? hk)
      have hi:=(List.getElem?_eq_some_iff.mp hk).1
      obtain ⟨wa,hwa,hW⟩:=hds.zX (wY hkn)
      have hnext:=Tn.zp (ws:=ws) (rs:=rs) (s:=(fs,xs,[])) hk
      have hlen:=Tn.uy ws rs (gs.take i) (fs,xs,[])
      rw [hnext]
      generalize Tn.jz ws rs (gs.take i) (fs,xs,[])=S at O hlen ⊢
      obtain ⟨l,x,st⟩:=S
      obtain ⟨hl1,hl2,hl3⟩:=hlen
      have hl1:l.length=fs.length:=hl1
      have hl2:x.length=xs.length:=hl2
      have hl3:st.length≤i:=by
        have:st.length≤0 + (gs.take i).length:=hl3
        rw [List.length_take] at this;omega
      have O:Ow T Hb H5 [(ls,.lst ((Tn.asI st).map V.int)),(a,.lst (l.map V.int)),(t,.lst (x.map V.int))]:=O
      have ok:=wok _ (Tn.qx hkn)
      have no:¬ (x.getD k 0<rs.getD k 0∧(Tn.fW ws k).all (fun r=>decide (0<l.getD r.toNat 0))=true)→Tn.step1 ws rs (l,x,st) k=(l,x,st):=fun h=>if_neg h
      have yes:(x.getD k 0<rs.getD k 0∧(Tn.fW ws k).all (fun r=>decide (0<l.getD r.toNat 0))=true)→Tn.step1 ws rs (l,x,st) k=(Tn.bump l (Tn.fW ws k) (-1),x.set k (x.getD k 0 + 1),st++[k]):=fun h=>if_pos h
      generalize Tn.step1 ws rs (l,x,st) k=S' at no yes ⊢
      refine ⟨_,rfl,_,rfl,t,_,_,_,rfl,rfl,O.sq 2,bh (aY (by omega)),_,rfl,_,rfl,b,_,_,_,rfl,rfl,O.same.seq d1,bh (aY (by omega)),_,_,rfl,rfl,_,rfl,ifD (fun hc1=>?_) fun hc1=>?_⟩
      · refine ⟨_,rfl,_,rfl,va,_,_,_,rfl,rfl,O.same.seq hV,bR hwa,wa,rfl,⟨_,O.same.seq hW⟩,fun lb hlb=>?_⟩
        refine dO (K:=K) (xs:=(Tn.fW ws k).map V.int) (fun j τ H'=>Iv (∃ v0:Option V,τ=[v0,some (.ref a)]∧Ow T Hb H' [(lb,.lst ((((Tn.fW ws k).take j).map fun r:Int=>decide (0<l.getD r.toNat 0)).map V.bl)),(ls,.lst ((Tn.asI st).map V.int)),(a,.lst (l.map V.int)),(t,.lst (x.map V.int))]))
          ⟨trivial,none,rfl,O.mk' hlb rfl⟩ (fun i τ H' _ ⟨_,_,_,O⟩=>O.same.seq hW) ?_ ?_
        · rintro j y τ H6 hy ⟨-,v0,rfl,O⟩
          obtain ⟨r,hr,rfl⟩:=ints_get hy
          have hj:=(List.getElem?_eq_some_iff.mp hr).1
          obtain ⟨r0,r1⟩:=ok.2 r (List.mem_of_getElem? hr)
          refine za ?_
          refine ⟨_,rfl,_,rfl,a,_,_,_,rfl,rfl,O.sq 2,aV r0 (by omega),_,_,rfl,rfl,?_⟩
          refine ⟨_,O.get 0,aP (by rw [List.length_map,List.length_map,List.length_take];have:=ok.len;omega),?_⟩
          walk_at "pt"
          refine ⟨trivial,_,rfl,?_⟩
          rw [Tn.gw hr,List.map_append];exact O
        rintro τ H6 ⟨-,v0,rfl,O⟩
        rw [List.length_map,List.take_of_length_le (Nat.le_refl _)] at O
        refine ⟨lb,_,rfl,O.sq 0,?_⟩
        rw [O8]
        have O:=O.tail
        refine ⟨_,rfl,ifB (fun hc2=>?_) fun hc2=>?_⟩
        · rw [yes ⟨hc1,hc2⟩]
          obtain ⟨H1,O1,s1,hB,back⟩:=Ow.lend (A:=[(a,.lst (l.map V.int))]) (B:=[(ls,.lst ((Tn.asI st).map V.int)),(t,.lst (x.map V.int))]) (O.pull 1)
          refine ⟨_,rfl,_,rfl,_,rfl,va,_,_,_,rfl,rfl,O.same.seq hV,bR hwa,a,wa,l,_,1,H1,rfl,O1,hW.mo s1,by rw [hl1];exact ok,fun H7 O7=>?_⟩
          have O:=back _ _ O7
          have O:Ow T Hb H7 [(a,.lst ((Tn.bump l (Tn.fW ws k) (-1)).map V.int)),(ls,.lst ((Tn.asI st).map V.int)),(t,.lst (x.map V.int))]:=O
          refine ⟨_,rfl,_,rfl,t,_,k,_,rfl,rfl,O.sq 2,by rw [List.getElem?_map,aY (by omega)];rfl,_,_,rfl,rfl,t,_,_,k,rfl,rfl,O.get 2,jY (by rw [List.length_map];omega),?_⟩
          walk_at "pt"
          refine ⟨_,rfl,.inl ⟨rfl,_,O.sq 1⟩,_,rfl,ls,_,_,rfl,rfl,O.get 1,aP (by rw [List.length_map,Tn.jl];omega),?_⟩
          walk_at "pt"
          refine ⟨trivial,_,rfl,?_⟩
          have O:=O.pull 1
          show Ow T Hb _ [(ls,.lst ((Tn.asI (st++[k])).map V.int)),(a,.lst ((Tn.bump l (Tn.fW ws k) (-1)).map V.int)),(t,.lst ((x.set k (x.getD k 0 + 1)).map V.int))]
          rw [List.map_set]
          unfold Tn.asI
          rw [List.map_append,List.map_append]
          exact O
        · rw [no fun z=>by rw [z.2] at hc2;cases hc2]
          exact ⟨trivial,_,rfl,O⟩
      · refine pH ?_
        rw [no fun z=>hc1 z.1]
        exact ⟨trivial,_,rfl,O⟩
    rintro σ H5 ⟨-,v7,rfl,O⟩
    rw [hil,List.take_of_length_le (Nat.le_refl _)] at O
    exact ⟨_,rfl,q _ _ O⟩
abbrev eU:Stmt:=top 29
theorem iU:aX ["free","ways","rests","left","takes","going"] ["free","ways","rests"] (ao eU):=⟨rfl,rfl,rfl,by decide +kernel,rfl,by decide +kernel,by decide +kernel⟩
def Qg (K:PySem.W.Frag) (T:fZ):Sp:=fun vs H Q _=>∃ (a b:Addr) (v:V) (fs rs:List Int) (ws:List (List Int)),vs=[.ref a,v,.ref b]∧SqL K H a (fs.map V.int)∧Den K H v (yS ws)∧SqL K H b (rs.map V.int)∧rs.length=ws.length∧fs.length≤1000∧ws.length<64 ∧
  (∀ w∈ws,Tn.WOk fs.length w)∧(∀ x∈fs,0≤x)∧(∀ x∈rs,0≤x)∧TabsOk T H ∧
  ∀ (l lt ll:Addr) (xs left:List Int) (t:Int) (H':Hp),Ow T H H' [(l,.tup [.ref lt,.ref ll]),(lt,.lst (xs.map V.int)),(ll,.lst (left.map V.int))]→Tn.qO fs ws rs left xs [] t→Q (.ref l) H'
theorem W2 {f f1 f2:Addr} {fd fd1 fd2:FuncData} (D:Df K mg "deal_turns" eU ["free","ways","rests"] f fd) (B:Blt mg)
    (cR:Df K mg "take_whole_turns" bA ["left","ways","rests","takes","going"] f1 fd1) (oM:cA P w K mg base CX0 3 f1 fd1 ["left","ways","rests","takes","going"] (Qa K T))
    (d9:Df K mg "take_one_turn" bV ["left","ways","rests","takes","going"] f2 fd2) (qP:cA P w K mg base CX0 2 f2 fd2 ["left","ways","rests","takes","going"] (Qc K T)) :
    cA P w K mg base CX0 4 f fd ["free","ways","rests"] (Qg K T):=by
  refine D.F.ok iU (fun vs H Q E h=>?_) (fun cdv A outer s H vs Q E hr h=>?_)
  · obtain ⟨_,_,_,_,_,_,rfl,_⟩:=h;rfl
  · obtain ⟨a,b,v,fs,rs,ws,rfl,hA,d0,hB,rl,fl,wl,wok,hf,hrs,tk,q⟩:=h
    obtain ⟨va,vs,rfl,hV,hds⟩:=d0.j6
    have hvl:vs.length=ws.length:=by rw [hds.length,List.length_map]
    refine ⟨_,(au (aR (i:=3) iU.nd rfl (Or.inl rfl) (dh bJ rfl B.list PyProof.Rows.boot_list (ak (pv 0) aq)))
      (au (aR (i:=4) iU.nd rfl (Or.inl rfl) (aQ qt (cZ (ak aA aq)) (aK aH rfl B.len PySem.boot_len (ak (pv 1) aq))))
      (au (aR (i:=5) iU.nd rfl (Or.inl rfl) (uZ rfl rfl B.list rfl B.range (ak (aK aH rfl B.len PySem.boot_len (ak (pv 1) aq)) aq)))
      (au (sY PassesOwn.never (Eo (pv 5) (fun _=>rfl))
        (au (dZ (aM oM (hr.mono (by decide)) rfl cR.m cR.F.kp cR.b .nil bD (ak (pv 3) (ak (pv 1) (ak (pv 2) (ak (pv 4) (ak (pv 5) aq)))))))
        (aB (aR (i:=5) iU.nd rfl (Or.inl rfl) (aM qP (hr.mono (by decide)) rfl d9.m d9.F.kp d9.b .nil bD (ak (pv 3) (ak (pv 1) (ak (pv 2) (ak (pv 4) (ak (pv 5) aq))))))))))
      (aB (bx (jV (ak (pv 4) (ak (pv 3) aq))))))))),?_⟩
    refine Wz ?_
    intro zu0 zu1 zu2 zu3 zu4 zu5
    have O:=Ow.refl tk
    refine ⟨_,rfl,a,_,rfl,.inl (O.same.seq hA),fun ll hll=>?_⟩
    walk_at "nw"
    refine ⟨szl,fun l1 h1=>?_⟩
    walk_at "nw"
    refine ⟨_,rfl,va,_,rfl,.inl (O.same.seq hV),l1,_,_,rfl,rfl,O.get 0,by omega,by omega,jF (by rw [hvl,Int.toNat_natCast];simp;omega),fun lt hlt=>?_⟩
    walk_at "nw"
    rw [hvl,Int.toNat_natCast,kj] at O
    have O:=O.two
    refine ⟨_,rfl,va,_,rfl,.inl (O.same.seq hV),ws.length,by rw [hvl],wl,fun lg hlg=>?_⟩
    walk_at "nw"
    have eg:iZ ws.length=(Tn.asI (List.range ws.length)).map V.int:=by unfold iZ Tn.asI;rw [List.map_map];rfl
    rw [eg] at O
    refine ⟨fun m σ H'=>Iv (∃ (lg:Addr) (gs:List Nat) (l xs:List Int) (t:Int),σ=[some (.ref a),some (.ref va),some (.ref b),some (.ref ll),some (.ref lt),some (.ref lg)]∧Tn.qO fs ws rs l xs gs t∧m=(Tn.rem rs xs ws.length + (gs.length:Int)).toNat ∧
      Ow T H H' [(lg,.lst ((Tn.asI gs).map V.int)),(lt,.lst (xs.map V.int)),(ll,.lst (l.map V.int))]),⟨_,trivial,lg,_,fs,_,0,rfl,Tn.qO.start hf hrs wok,rfl,O⟩,?_⟩
    rintro m σ H2 ⟨-,lg,gs,l,xs,t,rfl,LI,rfl,O⟩
    have nd:=Tn.gO LI.srt
    have gn:∀ k∈gs,k<ws.length:=fun k hk=>(LI.going k hk).1
    have gl:gs.length≤1000:=by
      have:gs.length≤ws.length:=by
        have:=List.Nodup.length_le_of_subset (l₂:=List.range ws.length) nd fun k hk=>List.mem_range.mpr (gn k hk)
        simpa using this
      omega
    refine ⟨_,rfl,_,.inl ⟨_,O.sq 0,rfl⟩,ifB (fun hc=>?_) fun hc=>?_⟩
    · have hne:0<gs.length:=by
        cases gs with
        | nil=>simp [Tn.asI] at hc
        | cons x gs=>simp
      refine ⟨_,fun σ' H' h=>h,?_⟩
      obtain ⟨H1,O1,s1,hBk,back⟩:=Ow.lend (A:=[(ll,.lst (l.map V.int)),(lt,.lst (xs.map V.int))]) (B:=[(lg,.lst ((Tn.asI gs).map V.int))]) (((O.pull 1).pull 2))
      refine ⟨_,rfl,_,rfl,_,rfl,_,rfl,_,rfl,ll,b,lt,lg,.ref va,l,rs,xs,ws,gs,H1,rfl,⟨O1,.list (hV.mo s1) (hds.mo s1),hB.mo s1,SqL.of (hBk (lg,.lst ((Tn.asI gs).map V.int)) (by simp)),rl,LI.xl,gn,nd,by rw [LI.ll];exact wok,by rw [LI.ll];exact fl,by omega,gl⟩,fun M H3 hM O3=>?_⟩
      rw [LI.ll] at hM
      have L2:=LI.whole hf wok hM
      have M0:=hM.nn
      have rw1:=Tn.Bt LI M0
      have O:=back _ _ O3
      have hll2:=L2.ll
      obtain ⟨L3,hsum⟩:=L2.one wok
      obtain ⟨H4,O4,s4,hBk4,back4⟩:=Ow.lend (A:=[(ll,.lst ((Tn.bumps l (gs.map fun k=>(Tn.fW ws k,-M))).map V.int)),(lt,.lst ((Tn.bump xs (Tn.asI gs) M).map V.int))]) (B:=[(lg,.lst ((Tn.asI gs).map V.int))]) O
      refine ⟨_,rfl,_,rfl,_,rfl,_,rfl,_,rfl,ll,b,lt,lg,.ref va,_,rs,_,ws,gs,H4,rfl,⟨O4,.list (hV.mo s4) (hds.mo s4),hB.mo s4,SqL.of (hBk4 (lg,.lst ((Tn.asI gs).map V.int)) (by simp)),rl,L2.xl,gn,nd,by rw [L2.ll];exact wok,by rw [L2.ll];exact fl,by omega,gl⟩,fun l5 H5 O5=>?_⟩
      have O:=back4 _ _ O5
      have O:=(O.del 3)
      have O:=O.pull 2
      have O:=(O.pull 1)
      refine ⟨_,?_,trivial,l5,_,_,_,_,rfl,L3,rfl,?_⟩
      · have a1:=L3.GZ
        have a2:=LI.GZ
        omega
      · exact O
    · have hg:gs=[]:=by
        cases gs with
        | nil=>rfl
        | cons x gs=>simp [Tn.asI] at hc
      subst hg
      refine ⟨_,rfl,_,rfl,szl,fun l5 hl5=>?_⟩
      walk_at "nw"
      exact q l5 lt ll xs l t _ (O.two) LI
abbrev fB:Stmt:=top 16
theorem uT:aX ["one"] ["one"] (ao fB):=⟨rfl,rfl,rfl,by decide +kernel,rfl,by decide +kernel,by decide +kernel⟩
def Bf (K:PySem.W.Frag):Sp:=fun vs H Q _=>∃ (t:Addr) (l:Lic),vs=[.ref t]∧SqT K H t (Aa l)∧Q (.int l.day) H
theorem QZ {f:Addr} {fd:FuncData} (D:Df K mg "day_filed" fB ["one"] f fd):cA P w K mg base CX0 1 f fd ["one"] (Bf K):=by
  refine D.F.ok uT (fun vs H Q E h=>?_) (fun cdv A outer s H vs Q E hr h=>?_)
  · obtain ⟨_,_,rfl,_⟩:=h;rfl
  · obtain ⟨t,l,rfl,hT,q⟩:=h
    refine ⟨_,(aB (bx (aL cX (pv 0) aA (fun _ _=>rfl)))),?_⟩
    exact ⟨_,rfl,t,_,0,_,rfl,rfl,hT,rfl,q⟩
abbrev jK:Stmt:=top 20
theorem Bo:aX ["roll"] ["roll"] (ao jK):=⟨rfl,rfl,rfl,by decide +kernel,rfl,by decide +kernel,by decide +kernel⟩
def bZ:Pos × Str:=(⟨54,40,54,88⟩,"ranked.<locals>.<lambda>")
def TT2 (P:Addr) (T:fZ):Prop:=(P,bZ.1,bZ.2)∈T∧(T.map (·.1)).Nodup
def qK (ls:List Lic):Nat→Int:=fun k=>(ls[k]?.map Lic.day).getD 0
theorem tY {ls:List Lic} {k:Nat} {l:Lic} (h:ls[k]?=some l):qK ls k=l.day:=by unfold qK;rw [h];rfl
def uK (K:PySem.W.Frag) (T:fZ):Sp:=fun vs H Q _=>∃ (v:V) (ls:List Lic),vs=[v]∧Den K H v (CW ls)∧ls.length<64∧TabsOk T H ∧
  m9 T H (fun xs=>∃ p,xs=p.map (fun (i:Nat)=>V.int (i:Int))∧Tn.Rk (qK ls) ls.length p) Q
def Pr (day:Nat→Int) (i:Nat):Int:=64 * day i + (i:Int)
theorem Fj {day:Nat→Int} {i j:Nat} (hi:i<64) (hj:j<64):HT.lexLt [day i,(i:Int)] [day j,(j:Int)]=decide (Pr day i<Pr day j):=by
  unfold Pr
  rw [HT.gZ,HT.gZ,HT.lH]
  rw [Bool.eq_iff_iff]
  split
  · split
    · simp only [Bool.false_eq_true,decide_eq_true_eq,false_iff];omega
    · simp only [decide_eq_true_eq];omega
  · simp only [decide_eq_true_eq];omega
theorem BL {f fW:Addr} {fd fdW:FuncData} {pT cT:Addr} {T:fZ} (D:Df K mg "ranked" jK ["roll"] f fd) (hcd:fd.code=.ref cT) (hhd:PySem.W.codeHdIn K cT pT=true) (hT:TT2 pT T) (hbm:BM mg base) (B:Blt mg)
    (dw:Df K mg "day_filed" fB ["one"] fW fdW) (nP:cA P w K mg base CX0 1 fW fdW ["one"] (Bf K)):cA P w K mg base CX0 5 f fd ["roll"] (uK K T):=by
  refine D.F.okC hcd Bo (fun vs H Q E h=>?_) (fun A outer s H vs Q E hr h=>?_)
  · obtain ⟨_,_,rfl,_⟩:=h;rfl
  · obtain ⟨v,ls,rfl,hd,h64,tk,q⟩:=h
    obtain ⟨va,vs,rfl,hV,d0⟩:=hd.j6
    have hvl:vs.length=ls.length:=by rw [d0.length,List.length_map]
    refine ⟨_,(aB (bx (pB (P:=pT) (c:=cT) (p:="number") (ao jK) rfl ["roll"] rfl ["roll"] [some 0] (by decide +kernel) (by decide +kernel) (by decide +kernel) rfl hbm rfl hhd (yN (hr.mono (by decide))) rfl B.sorted rfl B.range (ak (aK aH rfl B.len PySem.boot_len (ak (pv 0) aq)) aq) (fun A f cv s H hh hd hu=>(jV (ak (aM nP (yM (hr.mono (by decide)) hh hd hu) rfl dw.m dw.F.kp dw.b .nil bD (ak (aL (bM (K:=K) rfl) (pv 1) (pv 0) (fun _ _=>rfl)) aq)) (ak (pv 0) aq)))) (fun _ _ _ _=>rfl)))),?_⟩
    refine ⟨_,rfl,va,_,rfl,.inl hV,ls.length,by rw [hvl],h64,tk _ hT.1,fun H2 k1 k2 t2=>?_⟩
    have sT:bI T H H2:=bI.tab tk hT.1 hT.2 k1 t2
    refine ⟨fun i ts H3=>bI T H2 H3∧ts.length=i∧∀ (j:Nat) (t:Addr),ts[j]?=some t→H3 t=some (.tup ([qK ls j,(j:Int)].map V.int)),fun i=>[qK ls i,(i:Int)],Pr (qK ls),1,⟨bI.refl sT.t1,rfl,fun j t e=>by simp at e⟩,?_,?_,fun _ _=>rfl,fun i j hi hj=>Fj (by omega) (by omega),?_,?_⟩
    · rintro i ts H3 hi ⟨s3,htl,h3⟩
      refine ⟨fun c' e=>s3.keep c' _ e fun ps z=>(by cases z),?_⟩
      obtain ⟨al,hal,hTl⟩:=d0.lV (List.getElem?_eq_getElem hi)
      have hTl:=hTl.mo (sT.trans s3)
      have edl:=tY (List.getElem?_eq_getElem hi)
      refine ⟨_,rfl,_,rfl,va,_,(i:Int),_,rfl,rfl,(sT.trans s3).seq hV,bR hal,al,_,rfl,hTl,?_⟩
      refine ⟨_,rfl,(by show 2≤sizeLine;decide),fun t ht=>⟨t,rfl,?_⟩⟩
      have nt:H2 t=none:=s3.free ht
      refine ⟨s3.upd nt (.inl ht),by rw [List.length_append,htl];rfl,fun j t' e=>?_⟩
      by_cases hj:j<ts.length
      · rw [List.getElem?_append_left hj] at e
        have h4':=h3 j t' e
        rw [bF (cB h4' ht)];exact h4'
      · rw [List.getElem?_append_right (by omega)] at e
        have hj0:j - ts.length=0:=by
          have:=(List.getElem?_eq_some_iff.mp e).1
          simp at this;omega
        have hji:j=i:=by omega
        rw [hj0] at e
        simp at e
        subst e
        subst hji
        rw [cU,edl];rfl
    · rintro ts H3 ⟨_,_,h3⟩
      exact h3
    · intro i j hi hj hij e
      unfold Pr at e
      omega
    · rintro ts H3 D' ys ⟨s3,_,_⟩ hD ⟨p,hp,rfl,ho⟩
      have hbl:(iZ ls.length).length=ls.length:=by unfold iZ;simp
      rw [hbl] at hp
      refine q D' _ _ ((sT.trans s3).upd ((sT.trans s3).free hD) (.inl hD)) ((sT.trans s3).free hD) cU ⟨p,?_,hp,?_⟩
      · refine List.map_congr_left fun i hi=>?_
        have hi':i<ls.length:=List.mem_range.mp (hp.mem_iff.mp hi)
        show (iZ ls.length).getD i .non=_
        unfold iZ
        rw [List.getD_eq_getElem?_getD,List.getElem?_map,List.getElem?_range hi'];rfl
      · refine List.Pairwise.imp_of_mem (fun {a b} ha hb hab=>?_) ho
        have ha:=List.mem_range.mp (hp.mem_iff.mp ha)
        have hb:=List.mem_range.mp (hp.mem_iff.mp hb)
        unfold Pr at hab
        omega
abbrev fQ:Stmt:=top 21
theorem lX:aX ["roll","groups","number"] ["roll"] (ao fQ):=⟨rfl,rfl,rfl,by decide +kernel,rfl,by decide +kernel,by decide +kernel⟩
abbrev Pg:=Addr × Int × List Nat
def DN (ps:List Pg):List (Addr × HO):=ps.map fun p=>(p.1,.lst ((Tn.asI p.2.2).map V.int))
def kvG (ps:List Pg):List (Key × V):=ps.map fun p=>(Sum.inl p.2.1,V.ref p.1)
def uM (K:PySem.W.Frag) (T:fZ):Sp:=fun vs H Q _=>∃ (v:V) (ls:List Lic),vs=[v]∧Den K H v (CW ls)∧ls.length<64∧TabsOk T H ∧
  ∀ (l:Addr) (H':Hp) (ps:List Pg) (p:List Nat),Ow T H H' ((l,.lst (ps.map fun p=>V.ref p.1)) :: DN ps)→Tn.Rk (qK ls) ls.length p→Tn.Grp (qK ls) p (ps.map (·.2))→Q (.ref l) H'
theorem Fv {ps:List Pg} {d:Int} {v:V} (h:vX (kvG ps) (Sum.inl d)=some v):∃ (j:Nat) (p:Pg),ps[j]?=some p∧p.2.1=d∧v=.ref p.1:=by
  unfold vX kvG at h
  rw [List.find?_map,Option.map_map] at h
  cases e:ps.find? ((fun kv:Key × V=>decide (kv.1=Sum.inl d)) ∘ fun p:Pg=>(Sum.inl p.2.1,V.ref p.1)) with
  | none=>rw [e] at h;cases h
  | some p =>
    rw [e] at h
    obtain ⟨j,hj⟩:=List.getElem?_of_mem (List.mem_of_find?_eq_some e)
    have hp:=List.find?_some e
    simp only [Function.comp,decide_eq_true_eq] at hp
    exact ⟨j,p,hj,Sum.inl.inj hp,(Option.some.inj h).symm⟩
theorem Fw {ps:List Pg} {d:Int} (h:vX (kvG ps) (Sum.inl d)=none):∀ p∈ps,p.2.1≠d:=fun p hp e=>by
  unfold vX kvG at h
  rw [Option.map_eq_none_iff,List.find?_eq_none] at h
  have:=h _ (List.mem_map_of_mem hp)
  simp [e] at this
theorem Cj {ps:List Pg} {j:Nat} {p:Pg} (h:ps[j]?=some p):(DN ps)[j]?=some (p.1,.lst ((Tn.asI p.2.2).map V.int)):=by
  unfold DN;rw [List.getElem?_map,h];rfl
theorem o9 {α β:Type} {f:α→β}:∀ {ps:List α} {j:Nat} {p q:α},ps[j]?=some p→f q=f p→(ps.set j q).map f=ps.map f
  | [],_,_,_,h,_=>by simp at h
  | a :: ps,0,p,q,h,e=>by
    have:a=p:=by simpa using h
    subst this
    simp [e]
  | a :: ps,j + 1,p,q,h,e=>by
    rw [List.set_cons_succ,List.map_cons,List.map_cons,o9 (by simpa using h) e]
theorem BR {f f1 f2:Addr} {fd fd1 fd2:FuncData} (D:Df K mg "groups_of" fQ ["roll"] f fd) (B:Blt mg)
    (dw:Df K mg "day_filed" fB ["one"] f1 fd1) (nP:cA P w K mg base CX0 1 f1 fd1 ["one"] (Bf K))
    (m7:Df K mg "ranked" jK ["roll"] f2 fd2) (Gq:cA P w K mg base CX0 5 f2 fd2 ["roll"] (uK K T)):cA P w K mg base CX0 6 f fd ["roll"] (uM K T):=by
  refine D.F.ok lX (fun vs H Q E h=>?_) (fun cdv A outer s H vs Q E hr h=>?_)
  · obtain ⟨_,_,rfl,_⟩:=h;rfl
  · obtain ⟨v,ls,rfl,hd,h64,tk,q⟩:=h
    obtain ⟨va,vs,rfl,hV,d0⟩:=hd.j6
    have hvl:vs.length=ls.length:=by rw [d0.length,List.length_map]
    refine ⟨_,(au (aR (i:=1) lX.nd rfl (Or.inl rfl) Ep)
      (au (cP PassesOwn.never rfl (bO (aM Gq (hr.mono (by decide)) rfl m7.m m7.F.kp m7.b .nil bD (ak (pv 0) aq))) (aD (i:=2) lX.nd rfl (Or.inl rfl))
        (aB (dZ (mq PySem.F.plainAttrs_list PySem.F.slot_list_append PySem.F.type_list_append cL (Nz (pv 1) (aM nP (hr.mono (by decide)) rfl dw.m dw.F.kp dw.b .nil bD (ak (aL aG (pv 0) (pv 2) (fun _ _=>rfl)) aq)) (cZ aq) ⟨rfl,rfl,rfl,rfl⟩) (ak (pv 2) aq)))))
      (aB (bx (wJ rfl rfl B.list (pv 1)))))),?_⟩
    refine Wy ?_
    intro zu0 zu1 zu2
    have O:=Ow.refl tk
    intro dg hdg
    walk_at "nw"
    refine ⟨_,rfl,.ref va,ls,rfl,hd.tH O.same,h64,O.same.t1,O.oZ fun lt H2 xs O ⟨p,ep,hp⟩=>?_⟩
    subst ep
    refine ⟨lt,rfl,⟨_,O.sq 0⟩,?_⟩
    refine cW (K:=K) (xs:=p.map fun (i:Nat)=>V.int (i:Int)) (fun i σ H'=>Iv (∃ (v2:Option V) (ps:List Pg),σ=[some (.ref va),some (.ref dg),v2]∧ps.length≤i ∧
      Ow T H H' ((lt,.lst (p.map fun (i:Nat)=>V.int (i:Int))) :: (dg,.dK (kvG ps)) :: DN ps)∧Tn.Grp (qK ls) (p.take i) (ps.map (·.2))))
      ⟨trivial,none,[],rfl,Nat.le_refl _,O,Tn.Grp.start _⟩ (fun i σ H' _ ⟨_,_,_,_,_,O,_⟩=>O.sq 0) ?_ ?_
    · rintro i y σ H3 hy ⟨-,v2,ps,rfl,hpl,O,G⟩
      rw [List.getElem?_map] at hy
      obtain ⟨k,hk,rfl⟩:∃ k,p[i]?=some k∧y=V.int (k:Int):=by
        cases e:p[i]? with
        | none=>rw [e] at hy;cases hy
        | some j=>rw [e] at hy;exact ⟨j,rfl,(Option.some.inj hy).symm⟩
      have hi:=(List.getElem?_eq_some_iff.mp hk).1
      have hpn:=hp.len
      have hkl:=hp.lt (List.mem_of_getElem? hk)
      have hbe:=hp.before hk
      obtain ⟨al,hal,hTl⟩:=d0.lV (List.getElem?_eq_getElem hkl)
      have edl:=tY (List.getElem?_eq_getElem hkl)
      have hvk:vs[k]?=some (.ref al):=hal
      refine ⟨_,rfl,dg,rfl,.inl ⟨_,.inl (O.get 1)⟩,_,rfl,_,rfl,va,_,(k:Int),_,rfl,rfl,O.same.seq hV,bR hvk,al,_,rfl,hTl.mo O.same,?_⟩
      rw [← edl]
      refine ⟨szl,fun l1 h1=>?_⟩
      walk_at "nw"
      refine ⟨kvG ps,Sum.inl (qK ls k),O.get 2,rfl,?_,fun v hv=>?_,fun hn=>?_⟩
      · unfold kvG
        exact aP (by rw [List.length_map];omega)
      · have O:=O.tail
        obtain ⟨j,pj,hj,ej,rfl⟩:=Fv hv
        have hgj:(ps.map (·.2))[j]?=some pj.2:=by rw [List.getElem?_map,hj];rfl
        have lat:((lt,HO.lst (p.map fun (i:Nat)=>V.int (i:Int))) :: (dg,HO.dK (kvG ps)) :: DN ps)[j + 2]?=some (pj.1,.lst ((Tn.asI pj.2.2).map V.int)):=by
          rw [List.getElem?_cons_succ,List.getElem?_cons_succ];exact Cj hj
        have hgl:pj.2.2.length≤1000:=by
          have hs:pj.2.2.Sublist (p.take i):=by rw [← G.flat];exact Tn.pP (List.mem_map_of_mem (List.mem_of_getElem? hgj))
          have:=hs.length_le
          rw [List.length_take] at this;omega
        refine ⟨.inl ⟨rfl,_,SqL.of (O.get (j + 2) lat)⟩,_,rfl,pj.1,_,_,rfl,rfl,O.get (j + 2) lat,aP (by rw [List.length_map,Tn.jl];omega),?_⟩
        generalize hE:upd _ _ _=Hn
        have O:=Ow.uW O (j + 2) lat hE rfl
        clear hE
        refine ⟨trivial,_,ps.set j (pj.1,pj.2.1,pj.2.2++[k]),rfl,by rw [List.length_set];omega,?_,?_⟩
        · rw [show kvG (ps.set j (pj.1,pj.2.1,pj.2.2++[k]))=kvG ps from o9 hj rfl]
          rw [List.set_cons_succ,List.set_cons_succ] at O
          unfold DN
          rw [List.map_set]
          unfold DN at O
          simp only [Tn.asI,List.map_append,List.map_cons,List.map_nil]
          exact O
        · rw [Tn.kh hk,List.map_set]
          exact G.more hgj ej hbe
      · rw [En _ hn]
        walk_at "pt"
        refine ⟨.inl ⟨rfl,_,O.sq 0⟩,_,rfl,l1,_,_,rfl,rfl,O.get 0,aP (by simp),?_⟩
        walk_at "pt"
        refine ⟨trivial,_,ps++[(l1,qK ls k,[k])],rfl,by rw [List.length_append];simp;omega,?_,?_⟩
        · unfold kvG DN
          rw [List.map_append,List.map_append]
          unfold kvG DN at O
          refine O.perm ?_
          have e:((lt,HO.lst (p.map fun (i:Nat)=>V.int (i:Int))) :: (dg,HO.dK (ps.map (fun p=>((Sum.inl p.2.1:Key),V.ref p.1))++[(l1,qK ls k,[k])].map (fun p:Pg=>((Sum.inl p.2.1:Key),V.ref p.1)))) :: (ps.map (fun p=>(p.1,HO.lst ((Tn.asI p.2.2).map V.int)))++[(l1,qK ls k,[k])].map (fun p:Pg=>(p.1,HO.lst ((Tn.asI p.2.2).map V.int)))))
            = ((lt,HO.lst (p.map fun (i:Nat)=>V.int (i:Int))) :: (dg,HO.dK (ps.map (fun p=>((Sum.inl p.2.1:Key),V.ref p.1))++[(Sum.inl (qK ls k),V.ref l1)])) :: ps.map (fun p=>(p.1,HO.lst ((Tn.asI p.2.2).map V.int))))++[(l1,HO.lst ([]++[V.int (k:Int)]))]:=rfl
          rw [e]
          exact List.perm_append_comm
        · rw [Tn.kh hk,List.map_append]
          exact G.new (fun g hg=>by
            obtain ⟨p',hp',rfl⟩:=List.mem_map.mp hg
            exact Fw hn p' hp') hbe
    · rintro σ H3 ⟨-,v2,ps,rfl,hpl,O,G⟩
      rw [List.length_map,List.take_of_length_le (Nat.le_refl _)] at G
      refine ⟨_,rfl,dg,kvG ps,rfl,.inl (O.get 1),fun l hl=>?_⟩
      walk_at "nw"
      have e:(kvG ps).map (·.2)=ps.map fun p=>V.ref p.1:=by unfold kvG;rw [List.map_map];rfl
      rw [e] at O
      exact q l _ ps p (O.sub ((List.Sublist.cons _ (List.Sublist.cons _ (List.Sublist.refl _))).cons₂ _)) hp G
abbrev ni:Stmt:=top 31
theorem j8:aX ["below","springs","roll","calls","free","wants","takes","group","ways","dealt","number","take"] ["below","springs","roll","calls"] (ao ni):=⟨rfl,rfl,rfl,by decide +kernel,rfl,by decide +kernel,by decide +kernel⟩
def oN (r:List Int) (ls:List Lic):Nat→List Int:=Tn.fW (ls.map fun l=>Rv.bQ r l.start l.back)
theorem pQ {r:List Int} {ls:List Lic} {k:Nat} {l:Lic} (h:ls[k]?=some l):oN r ls k=Rv.bQ r l.start l.back:=by
  unfold oN Tn.fW;rw [List.getD_eq_getElem?_getD,List.getElem?_map,h];rfl
def vG (r:List Int) (l:Lic):Prop:=Gp r l∧0≤l.most
theorem Nk {r:List Int} (hR:Rv.dU r) {ls:List Lic} (h:∀ l∈ls,vG r l) {k:Nat} (hk:k<ls.length):Tn.WOk r.length (oN r ls k):=by
  obtain ⟨h0,h1,_⟩:=(h _ (List.getElem_mem hk)).1
  rw [pQ (List.getElem?_eq_getElem hk)]
  exact Rv.Eh hR h0 h1
structure Gu (r s:List Int) (ls:List Lic) (cs xs:List Int):Prop where
  len:xs.length=ls.length
  fit:Tn.Fit ls.length (Tn.fF (Rv.nats r s)) (oN r ls) (Tn.fX (iM ls cs)) (Tn.fX xs)
  shown:Tn.uf ls.length (Tn.fF (Rv.nats r s)) (oN r ls) (qK ls) (Tn.fX (iM ls cs)) (Tn.fX xs)
theorem wM {r s:List Int} (h:∀ x∈s,0≤x) (i:Int):0≤Rv.kO r s i:=by
  have key:∀ (n:Nat) (f:Nat→Int),(∀ j,j<n→0≤f j)→0≤Rv.tot n f:=by
    intro n f
    induction n with
    | zero=>intro _;exact Int.le_refl _
    | succ n ih =>
      intro hf
      have:=ih fun j hj=>hf j (by omega)
      have:=hf n (by omega)
      show 0≤Rv.tot n f + f n
      omega
  refine key _ _ fun j _=>?_
  by_cases hj:j<s.length
  · have:=h _ (Tn.oE hj)
    split
    · exact this
    · exact Int.le_refl _
  · rw [List.getD_eq_getElem?_getD,List.getElem?_eq_none (by omega)]
    split <;> exact Int.le_refl _
theorem Oc {r s:List Int} (h:∀ x∈s,0≤x):∀ x∈Rv.nats r s,0≤x:=fun x hx=>by
  obtain ⟨i,_,rfl⟩:=List.mem_map.mp hx
  exact wM h _
theorem mU {ls:List Lic} {cs:List Int} (h:ls.length=cs.length):(iM ls cs).length=ls.length:=by
  unfold iM;rw [List.length_zipWith];omega
theorem uq {ls:List Lic} {cs:List Int} {k:Nat} {l:Lic} {c:Int} (hl:ls[k]?=some l) (hc:cs[k]?=some c):(iM ls cs)[k]?=some (min c l.most):=by
  unfold iM;rw [List.getElem?_zipWith,hl,hc]
theorem zZ {r:List Int} {ls:List Lic} {cs:List Int} (h:∀ l∈ls,vG r l) (hc:∀ c∈cs,0≤c):∀ x∈iM ls cs,0≤x:=fun x hx=>by
  obtain ⟨k,hk⟩:=List.getElem?_of_mem hx
  unfold iM at hk
  rw [List.getElem?_zipWith] at hk
  cases e1:ls[k]? with
  | none=>rw [e1] at hk;simp at hk
  | some l =>
    cases e2:cs[k]? with
    | none=>rw [e1,e2] at hk;simp at hk
    | some c =>
      rw [e1,e2] at hk
      have:=(h l (List.mem_of_getElem? e1)).2
      have:=hc c (List.mem_of_getElem? e2)
      have:x=min c l.most:=(Option.some.inj hk).symm
      omega
def Bd (K:PySem.W.Frag) (T:fZ):Sp:=fun vs H Q _=>∃ (a b c:Addr) (v:V) (r s:List Int) (ls:List Lic) (cs:List Int),vs=[.ref a,.ref b,v,.ref c]∧VD K H a r∧SqL K H b (s.map V.int)∧s.length=r.length∧(∀ x∈s,0≤x)∧Den K H v (CW ls)∧ls.length<64∧SqL K H c (cs.map V.int)∧ls.length=cs.length∧(∀ l∈ls,vG r l)∧(∀ c∈cs,0≤c)∧TabsOk T H ∧
  m9 T H (fun ys=>∃ xs,ys=xs.map V.int∧Gu r s ls cs xs) Q
theorem Oa {f f1 f2 f3 f4 f5:Addr} {fd fd1 fd2 fd3 fd4 fd5:FuncData} (D:Df K mg "deal" ni ["below","springs","roll","calls"] f fd) (B:Blt mg)
    (cO:Df K mg "natural_of" dI ["below","springs"] f1 fd1) (mQ:cA P w K mg base CX0 6 f1 fd1 ["below","springs"] (Bb K T))
    (jP:Df K mg "wants_of" gq ["roll","calls"] f2 fd2) (zM:cA P w K mg base CX0 2 f2 fd2 ["roll","calls"] (yj K T))
    (jg:Df K mg "groups_of" fQ ["roll"] f3 fd3) (xO:cA P w K mg base CX0 6 f3 fd3 ["roll"] (uM K T))
    (iu:Df K mg "reaches_of" eG ["below","one"] f4 fd4) (vK:cA P w K mg base CX0 3 f4 fd4 ["below","one"] (rE K))
    (iB:Df K mg "deal_turns" eU ["free","ways","rests"] f5 fd5) (vO:cA P w K mg base CX0 4 f5 fd5 ["free","ways","rests"] (Qg K T)) :
    cA P w K mg base CX0 7 f fd ["below","springs","roll","calls"] (Bd K T):=by
  refine D.F.ok j8 (fun vs H Q E h=>?_) (fun cdv A outer s H vs Q E hr h=>?_)
  · obtain ⟨_,_,_,_,_,_,_,_,rfl,_⟩:=h;rfl
  · obtain ⟨a,b,c,v,r,sp,ls,cs,rfl,⟨hA,hR,h64⟩,hB,hsl,hsn,hd,hl64,hC,hlc,ok,hcn,tk,q⟩:=h
    obtain ⟨va,vs,rfl,hV,d0⟩:=hd.j6
    have hvl:vs.length=ls.length:=by rw [d0.length,List.length_map]
    refine ⟨_,(au (aR (i:=4) j8.nd rfl (Or.inl rfl) (aM mQ (hr.mono (by decide)) rfl cO.m cO.F.kp cO.b .nil bD (ak (pv 0) (ak (pv 1) aq))))
      (au (aR (i:=5) j8.nd rfl (Or.inr rfl) (aM zM (hr.mono (by decide)) rfl jP.m jP.F.kp jP.b .nil bD (ak (pv 2) (ak (pv 3) aq))))
      (au (aR (i:=6) j8.nd rfl (Or.inl rfl) (aQ qt (cZ (ak aA aq)) (aK aH rfl B.len PySem.boot_len (ak (pv 2) aq))))
      (au (cP PassesOwn.never rfl (bO (aM xO (hr.mono (by decide)) rfl jg.m jg.F.kp jg.b .nil bD (ak (pv 2) aq))) (aD (i:=7) j8.nd rfl (Or.inl rfl))
        (au (fP (i:=8) (ao ni) rfl ["below","springs","roll","calls","free","wants","takes","group","ways","dealt","number","take"] rfl ["number","below","roll"] [none,some 0,some 2] (by decide +kernel) (by decide +kernel) (by decide +kernel) rfl j8.nd rfl rfl (bO (pv 7)) (fun _ _ _=>(aD (i:=0) (show (["number","below","roll"]:List Str).Nodup by decide +kernel) rfl (Or.inl rfl))) (fun _ _ _=>gM) (fun _ _ _=>(aM vK (hr.mono (by decide)) rfl iu.m iu.F.kp iu.b .nil bD (ak (pv 1) (ak (aL (bM (K:=K) rfl) (pv 2) (pv 0) (fun _ _=>rfl)) aq)))) rfl)
        (au (gY (aM vO (hr.mono (by decide)) rfl iB.m iB.F.kp iB.b .nil bD (ak (pv 4) (ak (pv 8) (ak (gD (ao ni) rfl ["below","springs","roll","calls","free","wants","takes","group","ways","dealt","number","take"] rfl ["number","wants"] [none,some 5] (by decide +kernel) (by decide +kernel) (by decide +kernel) rfl (bO (pv 7)) (fun _ _ _=>(aD (i:=0) (show (["number","wants"]:List Str).Nodup by decide +kernel) rfl (Or.inl rfl))) (fun _ _ _=>gM) (fun _ _ _=>(aL (bM (K:=K) rfl) (pv 1) (pv 0) (fun _ _=>rfl)))) aq)))) (iY rfl (aN (aD (i:=9) j8.nd rfl (Or.inl rfl)) (aN (aD (i:=4) j8.nd rfl (Or.inl rfl)) dB))))
        (aB (cP PassesOwn.never rfl (rG rfl B.zip (ak (pv 7) (ak (pv 9) aq))) (iY rfl (aN (aD (i:=10) j8.nd rfl (Or.inl rfl)) (aN (aD (i:=11) j8.nd rfl (Or.inl rfl)) dB)))
          (aB (gY (pv 11) (nj (pv 6) (pv 10) set_list))))))))
      (aB (bx (pv 6))))))),?_⟩
    refine Wx ?_
    intro zu0 zu1 zu2 zu3 zu4 zu5 zu6 zu7
    have O:=Ow.refl tk
    refine ⟨_,rfl,_,rfl,a,b,r,sp,rfl,⟨hA,hR,h64⟩,hB,hsl,tk,O.oZ fun lf H1 ys O e=>?_⟩
    subst e
    refine ⟨_,rfl,_,rfl,.ref va,c,ls,cs,rfl,hd.tH O.same,O.same.seq hC,hlc,by omega,O.same.t1,O.oZ fun lw H2 ys O e=>?_⟩
    subst e
    have hnl:(Rv.nats r sp).length=r.length:=(Rv.qw r sp).len
    have hnn:=Oc (r:=r) hsn
    have hwl:=mU hlc
    have hwn:=zZ ok hcn
    have hW:=fun k (hk:k<ls.length)=>Nk hR ok hk
    have hwk:∀ k,k<ls.length→0≤Tn.fX (iM ls cs) k:=fun k hk=>hwn _ (Tn.oE (by omega))
    generalize hwa:iM ls cs=wa at O hwl hwn hwk
    refine ⟨szl,fun l1 h1=>?_⟩
    walk_at "nw"
    refine ⟨_,rfl,va,_,rfl,.inl (O.same.seq hV),l1,_,_,rfl,rfl,O.get 0,by omega,by omega,jF (by rw [Int.toNat_natCast];simp;omega),fun lt hlt=>?_⟩
    walk_at "nw"
    rw [Int.toNat_natCast,kj,hvl] at O
    have O:=O.two
    refine ⟨_,rfl,.ref va,ls,rfl,hd.tH O.same,hl64,O.same.t1,fun lg H3 ps p OG R G=>?_⟩
    have nin:∀ q∈((lg,HO.lst (ps.map fun p=>V.ref p.1)) :: DN ps),∀ z∈[(lt,HO.lst ((List.replicate ls.length 0).map V.int)),(lw,.lst (wa.map V.int)),(lf,.lst ((Rv.nats r sp).map V.int))],z.1≠q.1:=fun q hq z hz e=>by
      have h1:=OG.new q hq
      have h2:=O.at_ z hz
      rw [e,h1] at h2;cases h2
    obtain ⟨Hb,O,sb,kb⟩:=(O.lQ OG.same).reb
    have hG:SqL K Hb lg (ps.map fun p=>V.ref p.1):=SqL.of (kb lg _ (OG.get 0) (nin _ List.mem_cons_self))
    have hP:∀ (j:Nat) (pj:Pg),ps[j]?=some pj→SqL K Hb pj.1 ((Tn.asI pj.2.2).map V.int):=fun j pj hj=>by
      have:=Cj hj
      have hm:=List.mem_of_getElem? this
      exact SqL.of (kb _ _ (OG.at_ _ (List.mem_cons_of_mem _ hm)) (nin _ (List.mem_cons_of_mem _ hm)))
    clear nin kb OG
    have hA:=sb.seq hA
    have hV:=sb.seq hV
    have d0:=d0.mo sb
    refine ⟨lg,rfl,⟨_,O.same.seq hG⟩,?_⟩
    refine cW (K:=K) (xs:=ps.map fun p=>V.ref p.1) (fun j σ H'=>Iv (∃ (lf:Addr) (v7 v8 v9 v10 v11:Option V) (xs fl:List Int),σ=[some (.ref a),some (.ref b),some (.ref va),some (.ref c),some (.ref lf),some (.ref lw),some (.ref lt),v7,v8,v9,v10,v11] ∧
      Ow T Hb H' [(lt,.lst (xs.map V.int)),(lw,.lst (wa.map V.int)),(lf,.lst (fl.map V.int))]∧Tn.zU ls.length (Rv.nats r sp) (oN r ls) (qK ls) (Tn.fX wa) (ps.map (·.2)) j xs fl))
      ⟨trivial,lf,none,none,none,none,none,_,_,rfl,O,Tn.zU.start _ hwk hnn⟩ (fun i σ H' _ ⟨_,_,_,_,_,_,_,_,_,_,O,_⟩=>O.same.seq hG) ?_ ?_
    · rintro j y σ H4 hy ⟨-,lf,v7,v8,v9,v10,v11,xs,fl,rfl,O,GI⟩
      rw [List.getElem?_map] at hy
      obtain ⟨pj,hj,rfl⟩:∃ pj,ps[j]?=some pj∧y=V.ref pj.1:=by
        cases e:ps[j]? with
        | none=>rw [e] at hy;cases hy
        | some j=>rw [e] at hy;exact ⟨j,rfl,(Option.some.inj hy).symm⟩
      have hgj:(ps.map (·.2))[j]?=some pj.2:=by rw [List.getElem?_map,hj];rfl
      have hPj:=hP j pj hj
      have up:=G.up R (List.mem_of_getElem? hgj)
      have nd:=Tn.gO up
      have hlt:∀ k∈pj.2.2,k<ls.length:=fun k hk=>R.lt (by rw [← G.flat];exact List.mem_flatten.mpr ⟨pj.2.2,List.mem_map_of_mem (List.mem_of_getElem? hgj),hk⟩)
      have hgl:pj.2.2.length≤ls.length:=by
        have hs:pj.2.2.Sublist p:=by rw [← G.flat];exact Tn.pP (List.mem_map_of_mem (List.mem_of_getElem? hgj))
        have:=hs.length_le
        rw [R.len] at this;exact this
      have hfl:=GI.fll
      have hxl:=GI.xl
      have hfn:=GI.nn hnn
      /- ways -/
      refine ⟨_,rfl,pj.1,rfl,⟨_,O.same.seq hPj⟩,fun acc hacc=>?_⟩
      refine dO (K:=K) (xs:=(Tn.asI pj.2.2).map V.int) (fun i τ H'=>Iv (∃ (v0:Option V) (Hc:Hp) (us:List V),τ=[v0,some (.ref a),some (.ref va)]∧Ow T Hc H' [(acc,.lst us),(lt,.lst (xs.map V.int)),(lw,.lst (wa.map V.int)),(lf,.lst (fl.map V.int))]∧bI T Hb Hc∧cg K Hc us ((pj.2.2.take i).map fun k=>oF (oN r ls k))))
        ⟨trivial,none,Hb,[],rfl,O.mk' hacc rfl,bI.refl O.same.t0,.nil⟩ (fun i τ H' _ ⟨_,_,_,_,_,O,sc,_⟩=>(sc.trans O.same).seq hPj) ?_ ?_
      · rintro i y τ H5 hy ⟨-,v0,Hc,us,rfl,O,sc,d1⟩
        obtain ⟨z,hz,rfl⟩:=ints_get hy
        obtain ⟨k,hk,rfl⟩:=Tn.jx hz
        have hi:=(List.getElem?_eq_some_iff.mp hk).1
        have hkl:=hlt k (List.mem_of_getElem? hk)
        obtain ⟨al,hal,hTl⟩:=d0.lV (List.getElem?_eq_getElem hkl)
        refine za ?_
        refine ⟨_,rfl,_,rfl,_,rfl,va,_,(k:Int),_,rfl,rfl,(sc.trans O.same).seq hV,bR hal,a,al,r,_,rfl,(sc.trans O.same).seq hA,hR,by omega,hTl.mo (sc.trans O.same),(ok _ (List.getElem_mem hkl)).1,O.got fun lx H6 ys O e=>?_⟩
        subst e
        refine ⟨_,O.get 1,aP (by rw [d1.length,List.length_map,List.length_take];omega),?_⟩
        walk_at "pt"
        obtain ⟨Hn2,O,sn,en2⟩:=O.frz
        refine ⟨trivial,_,Hn2,us++[.ref lx],rfl,O,sc.trans sn,?_⟩
        rw [Tn.gw hk]
        refine (d1.mo sn).append (.cons ?_ .nil)
        rw [pQ (List.getElem?_eq_getElem hkl)]
        exact Den.ints (SqL.of en2)
      rintro τ H5 ⟨-,v0,Hc,us,rfl,O,sc,d1⟩
      rw [List.length_map,Tn.jl,List.take_of_length_le (Nat.le_refl _)] at d1
      /- rests -/
      refine ⟨_,rfl,_,rfl,_,rfl,pj.1,rfl,⟨_,(sc.trans O.same).seq hPj⟩,fun ac2 hac2=>?_⟩
      refine dO (K:=K) (xs:=(Tn.asI pj.2.2).map V.int) (fun i τ H'=>Iv (∃ (v0:Option V),τ=[v0,some (.ref lw)]∧Ow T Hc H' [(ac2,.lst (((pj.2.2.take i).map (Tn.fX wa)).map V.int)),(acc,.lst us),(lt,.lst (xs.map V.int)),(lw,.lst (wa.map V.int)),(lf,.lst (fl.map V.int))]))
        ⟨trivial,none,rfl,O.mk' hac2 rfl⟩ (fun i τ H' _ ⟨_,_,_,O⟩=>(sc.trans O.same).seq hPj) ?_ ?_
      · rintro i y τ H6 hy ⟨-,v0,rfl,O⟩
        obtain ⟨z,hz,rfl⟩:=ints_get hy
        obtain ⟨k,hk,rfl⟩:=Tn.jx hz
        have hi:=(List.getElem?_eq_some_iff.mp hk).1
        have hkl:=hlt k (List.mem_of_getElem? hk)
        refine za ?_
        refine ⟨_,rfl,_,rfl,lw,_,(k:Int),_,rfl,rfl,O.sq 3,bh (aY (ns:=wa) (k:=k) (by omega)),?_⟩
        refine ⟨_,O.get 0,aP (by rw [List.length_map,List.length_map,List.length_take];omega),?_⟩
        walk_at "pt"
        refine ⟨trivial,_,rfl,?_⟩
        rw [Tn.gw hk,List.map_append];exact O
      rintro τ H6 ⟨-,v0,rfl,O⟩
      rw [List.length_map,Tn.jl,List.take_of_length_le (Nat.le_refl _)] at O
      have dws:cg K Hc us ((pj.2.2.map (oN r ls)).map oF):=by rw [List.map_map];exact d1
      refine ⟨lf,ac2,.ref acc,fl,pj.2.2.map (Tn.fX wa),pj.2.2.map (oN r ls),rfl,O.sq 4,.list (O.sq 1) (dws.mo O.same),O.sq 0,by rw [List.length_map,List.length_map],by omega,by rw [List.length_map];omega,fun w hw=>?_,hfn,fun x hx=>?_,O.same.t1,fun l lt2 ll ys left t H7 OD L=>?_⟩
      · obtain ⟨k,hk,rfl⟩:=List.mem_map.mp hw
        rw [hfl,hnl]
        exact hW k (hlt k hk)
      · obtain ⟨k,hk,rfl⟩:=List.mem_map.mp hx
        exact hwk k (hlt k hk)
      have O:=O.join OD
      walk_at "jn"
      refine ⟨l,_,rfl,O.sqT 0,rfl,_,_,rfl,_,_,rfl,rfl,?_⟩
      have O:=((((O.del 0).del 2).del 2).del 4)
      walk_at "er"
      have hyl:ys.length=pj.2.2.length:=by rw [L.xl,List.length_map]
      refine ⟨_,rfl,_,rfl,pj.1,lt2,_,_,rfl,(sc.trans O.same).seq hPj,O.sq 0,?_⟩
      refine tV (K:=K) (fun i σ H'=>Iv (∃ (v10 v11:Option V) (cur:List Int),σ=[some (.ref a),some (.ref b),some (.ref va),some (.ref c),some (.ref ll),some (.ref lw),some (.ref lt),some (.ref pj.1),some (.ref acc),some (.ref lt2),v10,v11]∧cur.length=ls.length∧(∀ k,Tn.fX cur k=Tn.over (Tn.fX xs) (pj.2.2.take i) (Tn.fX ys) k) ∧
        Ow T Hc H' [(lt2,.lst (ys.map V.int)),(ll,.lst (left.map V.int)),(lt,.lst (cur.map V.int)),(lw,.lst (wa.map V.int))])) (by rw [List.length_map,List.length_map,Tn.jl];omega)
        ⟨trivial,_,_,xs,rfl,hxl,fun k=>by rw [List.take_zero,Tn.lG (by simp)],O⟩ (fun i σ H' _ ⟨_,_,_,_,_,_,_,O⟩=>⟨(sc.trans O.same).seq hPj,O.sq 0⟩) ?_ ?_
      · rintro i x y t' σ H8 hx hy ⟨-,v10,v11,cur,rfl,hcl,hov,O⟩ ht
        obtain ⟨z,hz,rfl⟩:=ints_get hx
        obtain ⟨k,hk,rfl⟩:=Tn.jx hz
        obtain ⟨u,hu,rfl⟩:=ints_get hy
        have hkl:=hlt k (List.mem_of_getElem? hk)
        walk_at "nw"
        refine ⟨t',_,rfl,O.sqT 0,rfl,_,_,rfl,_,_,rfl,rfl,?_⟩
        refine ⟨_,rfl,_,rfl,_,rfl,lt,_,_,k,rfl,rfl,O.get 3,jY (by rw [List.length_map];omega),?_⟩
        walk_at "pt"
        have O:=O.tail
        refine ⟨trivial,_,_,cur.set k u,rfl,by rw [List.length_set];exact hcl,fun m=>?_,by rw [List.map_set];exact O⟩
        rw [Tn.BK nd hk m,← hov m]
        unfold Tn.fX
        rw [Tn.tR (by omega)]
        by_cases hm:m=k
        · rw [if_pos hm,if_pos hm,List.getD_eq_getElem?_getD,hu];rfl
        · rw [if_neg hm,if_neg hm]
      · rintro σ H8 ⟨-,v10,v11,cur,rfl,hcl,hov,O⟩
        rw [List.length_map,Tn.jl,List.take_of_length_le (Nat.le_refl _)] at hov
        have O:=(O.base sc).tail
        have O:=O.pull 2
        walk_at "er"
        have O:=O.pull 2
        walk_at "er"
        refine ⟨trivial,ll,_,_,_,_,_,cur,left,rfl,O,?_⟩
        exact GI.step G R hgj (by rw [hnl];exact hW) L hcl hov
    · rintro σ H4 ⟨-,lf,v7,v8,v9,v10,v11,xs,fl,rfl,O,GI⟩
      rw [List.length_map] at GI
      have GI:Tn.zU ls.length (Rv.nats r sp) (oN r ls) (qK ls) (Tn.fX wa) (ps.map (·.2)) (ps.map (·.2)).length xs fl:=by rw [List.length_map];exact GI
      obtain ⟨F1,F2⟩:=GI.finish G R
      rw [← hwa] at F1 F2
      exact ⟨_,rfl,(O.base sb).ret 0 rfl q ⟨xs,rfl,GI.xl,F1,F2⟩⟩
abbrev gQ:Stmt:=top 17
theorem wG:aX ["one"] ["one"] (ao gQ):=⟨rfl,rfl,rfl,by decide +kernel,rfl,by decide +kernel,by decide +kernel⟩
def Ax (K:PySem.W.Frag):Sp:=fun vs H Q _=>∃ (a:Addr) (l:Lic),vs=[.ref a]∧SqT K H a (Aa l)∧Q (.int l.start) H
theorem N5 {f:Addr} {fd:FuncData} (D:Df K mg "start_of" gQ ["one"] f fd):cA P w K mg base CX0 1 f fd ["one"] (Ax K):=by
  refine D.F.ok wG (fun vs H Q E h=>?_) (fun cdv A outer s H vs Q E hr h=>?_)
  · obtain ⟨_,_,rfl,_⟩:=h;rfl
  · obtain ⟨a,l,rfl,hT,q⟩:=h
    refine ⟨_,(aB (bx (aL cX (pv 0) aA (fun _ _=>rfl)))),?_⟩
    exact ⟨_,rfl,a,_,1,_,rfl,rfl,hT,rfl,q⟩
abbrev dH:Stmt:=top 34
theorem jG:aX ["roll","pond","number","room","leak"] ["roll","pond"] (ao dH):=⟨rfl,rfl,rfl,by decide +kernel,rfl,by decide +kernel,by decide +kernel⟩
def Az (K:PySem.W.Frag):Sp:=fun vs H Q _=>∃ (b c:Addr) (rs:List V) (ls:List Lic) (p:Int × Int × Int) (l:Lic),vs=[.ref b,.ref c]∧SqL K H b rs∧cg K H rs (ls.map qT)∧SqT K H c [.int p.1,.int p.2.1,.int p.2.2]∧0≤p.1∧ls[p.1.toNat]?=some l∧Q (.int l.start) H
theorem QC {f f1:Addr} {fd fd1:FuncData} (D:Df K mg "pond_start" dH ["roll","pond"] f fd) (jQ:Df K mg "start_of" gQ ["one"] f1 fd1) (zN:cA P w K mg base CX0 1 f1 fd1 ["one"] (Ax K)):cA P w K mg base CX0 2 f fd ["roll","pond"] (Az K):=by
  refine D.F.ok jG (fun vs H Q E h=>?_) (fun cdv A outer s H vs Q E hr h=>?_)
  · obtain ⟨_,_,_,_,_,_,rfl,_⟩:=h;rfl
  · obtain ⟨b,c,rs,ls,p,l,rfl,hB,d0,hC,p0,hl,q⟩:=h
    refine ⟨_,(au (gY (pv 1) (iY rfl (aN (aD (i:=2) jG.nd rfl (Or.inl rfl)) (aN (aD (i:=3) jG.nd rfl (Or.inl rfl)) (aN (aD (i:=4) jG.nd rfl (Or.inl rfl)) dB)))))
      (aB (bx (aM zN (hr.mono (by decide)) rfl jQ.m jQ.F.kp jQ.b .nil bD (ak (aL aG (pv 0) (pv 2) (fun _ _=>rfl)) aq))))),?_⟩
    refine Wc ?_
    intro zu0
    obtain ⟨al,hal,hT⟩:=d0.lV hl
    obtain ⟨n,hn⟩:=Int.eq_ofNat_of_zero_le p0
    have en:p.1.toNat=n:=by omega
    rw [en] at hal
    refine ⟨_,rfl,c,_,rfl,hC,rfl,_,_,rfl,_,_,rfl,_,_,rfl,rfl,?_⟩
    exact ⟨_,rfl,_,rfl,b,_,_,_,rfl,rfl,hB,by rw [hn];exact bR hal,al,l,rfl,hT,q⟩
def pG (ks:List Int) (m:Int × Int × Int):List Int:=ks.set m.1.toNat (ks.getD m.1.toNat 0 - m.2.2)
def bT (ks:List Int) (ms:List (Int × Int × Int)):List Int:=ms.foldl pG ks
theorem oY (ks:List Int) (ms:List (Int × Int × Int)) (m:Int × Int × Int):bT ks (ms++[m])=pG (bT ks ms) m:=by
  unfold bT;rw [List.foldl_append];rfl
theorem jX (ms:List (Int × Int × Int)):∀ ks:List Int,(bT ks ms).length=ks.length:=by
  induction ms with
  | nil=>intro ks;rfl
  | cons m ms ih =>
    intro ks
    show (bT (pG ks m) ms).length=_
    rw [ih];unfold pG;rw [List.length_set]
structure xK (r:List Int) (ls:List Lic) (ps:List (Int × Int × Int)) (ks:List Int) (m:Int × Int × Int):Prop where
  at0:0≤m.1
  pd:∃ p l,ps[m.1.toNat]?=some p∧0≤p.1∧ls[p.1.toNat]?=some l∧0≤l.start∧l.start<(r.length:Int)∧(m.2.1=-1∨m.2.1∈Rv.walk r l.start)
  amt:0≤m.2.2
  most:m.2.2≤ks.getD m.1.toNat 0
abbrev dJ:Stmt:=top 35
theorem jj:aX ["below","roll","ponds","kept","let","place","reach","amount"] ["below","roll","ponds","kept","let"] (ao dJ):=⟨rfl,rfl,rfl,by decide +kernel,rfl,by decide +kernel,by decide +kernel⟩
def GQ (K:PySem.W.Frag) (T:fZ):Sp:=fun vs H Q _=>∃ (a b c d e:Addr) (r ks:List Int) (rs us:List V) (ls:List Lic) (ps:List (Int × Int × Int)) (m:Int × Int × Int),vs=[.ref a,.ref b,.ref c,.ref d,.ref e]∧SqL K H a (r.map V.int)∧Rv.dU r∧r.length≤900∧SqL K H b rs∧cg K H rs (ls.map qT)∧SqL K H c us∧cg K H us (ps.map dMv)∧SqL K H d (ks.map V.int)∧ks.length=ps.length∧SqT K H e [.int m.1,.int m.2.1,.int m.2.2]∧xK r ls ps ks m∧TabsOk T H∧∀ H',bI T H H'→Q .non H'
theorem QT {f f1 f2:Addr} {fd fd1 fd2:FuncData} (D:Df K mg "look_at_let" dJ ["below","roll","ponds","kept","let"] f fd) (B:Blt mg) (C:Mth mg)
    (dX:Df K mg "way_of" jk ["below","reach"] f1 fd1) (oK:cA P w K mg base CX0 1 f1 fd1 ["below","reach"] (yh K))
    (cN:Df K mg "pond_start" dH ["roll","pond"] f2 fd2) (mO:cA P w K mg base CX0 2 f2 fd2 ["roll","pond"] (Az K)):cA P w K mg base CX0 3 f fd ["below","roll","ponds","kept","let"] (GQ K T):=by
  obtain ⟨tM,hMOUTH⟩:=C.MOUTH
  refine D.F.ok jj (fun vs H Q E h=>?_) (fun cdv A outer s H vs Q E hr h=>?_)
  · obtain ⟨_,_,_,_,_,_,_,_,_,_,_,_,rfl,_⟩:=h;rfl
  · obtain ⟨a,b,c,d,e,r,ks,rs,us,ls,ps,m,rfl,hA,hR,r9,hB,d0,hC,d1,hD,hkl,hE,LO,tk,q⟩:=h
    refine ⟨_,(au (gY (pv 4) (iY rfl (aN (aD (i:=5) jj.nd rfl (Or.inl rfl)) (aN (aD (i:=6) jj.nd rfl (Or.inl rfl)) (aN (aD (i:=7) jj.nd rfl (Or.inl rfl)) dB)))))
      (au (iK (kI (yD NP zB aA (pv 5) (aK aH rfl B.len PySem.boot_len (ak (pv 2) aq))))
        (aB pO)
        cu)
      (au (iK (PW.pt (pw_and (aW tu (pv 6) (lZ (v:=.int (-1)) rfl hMOUTH ⟨_,rfl⟩) (bw _)) (pw_and1 (aW mC (pv 6) (aM oK (hr.mono (by decide)) rfl dX.m dX.F.kp dX.b .nil bD (ak (pv 0) (ak (aM mO (hr.mono (by decide)) rfl cN.m cN.F.kp cN.b .nil bD (ak (pv 1) (ak (aL aG (pv 2) (pv 5) (fun _ _=>rfl)) aq))) aq))) (by rfl)))))
        (aB pO)
        cu)
      (aB (iK (kI (yD NP NP aA (pv 7) (aL aG (pv 3) (pv 5) (fun _ _=>rfl))))
        (aB pO)
        cu))))),?_⟩
    refine Ww ?_
    intro zu0 zu1 zu2 zu3 zu4 zu5
    have O:=Ow.refl tk
    obtain ⟨p,l,hp,p0,hl,l0,l1,hin⟩:=LO.pd
    have m0:=LO.at0
    have ma:=LO.amt
    have mm:=LO.most
    obtain ⟨mi,mz,mv⟩:=m
    dsimp only at hp hin m0 ma mm hE
    obtain ⟨n,rfl⟩:=Int.eq_ofNat_of_zero_le m0
    rw [Int.toNat_natCast] at hp mm
    have hnl:=(List.getElem?_eq_some_iff.mp hp).1
    have hul:us.length=ps.length:=by rw [d1.length,List.length_map]
    obtain ⟨ap,hap,hTp⟩:∃ ap,us[n]?=some (.ref ap)∧SqT K H ap [.int p.1,.int p.2.1,.int p.2.2]:=by
      obtain ⟨u,hu⟩:∃ u,us[n]?=some u:=⟨_,List.getElem?_eq_getElem (by omega)⟩
      obtain ⟨ap,p',rfl,hp',hT⟩:=d1.j5 hu
      rw [hp] at hp'
      have:=Option.some.inj hp'
      subst this
      exact ⟨ap,hu,hT⟩
    refine ⟨_,rfl,e,_,rfl,hE,rfl,_,_,rfl,_,_,rfl,_,_,rfl,rfl,?_⟩
    refine ⟨_,rfl,_,_,rfl,rfl,_,rfl,ifD (fun _=>?_) (fun h=>absurd m0 h)⟩
    refine ⟨_,rfl,c,_,rfl,.inl hC,_,_,rfl,rfl,_,rfl,ifN (ifD (fun _=>?_) fun h=>absurd (by omega) h)⟩
    refine ⟨_,rfl,rfl,_,rfl,ifN (ifI (fun he=>pH ?_) fun he=>?_)⟩
    · refine ⟨_,rfl,_,_,rfl,rfl,_,rfl,ifD (fun _=>?_) (fun h=>absurd ma h)⟩
      refine ⟨_,rfl,_,rfl,d,_,_,_,rfl,rfl,O.same.seq hD,bh (aY (ns:=ks) (k:=n) (by omega)),_,_,rfl,rfl,_,rfl,ifN (ifD (fun _=>?_) fun h=>absurd mm h)⟩
      exact q _ O.same
    · refine ⟨_,rfl,_,rfl,_,rfl,_,rfl,_,rfl,c,_,_,_,rfl,rfl,hC,bR hap,b,ap,rs,ls,p,l,rfl,hB,d0,hTp,p0,hl,a,r,l.start,rfl,hA,hR,l0,l1,r9,O.got fun lw H2 xs O e=>?_⟩
      subst e
      refine ⟨lw,_,rfl,.inl (O.sq 0),rfl,qI _,_,rfl,?_⟩
      rw [if_pos rfl,wW]
      refine ifN (ifD (fun _=>?_) fun h=>absurd (hin.resolve_left he) h)
      refine ⟨_,rfl,_,_,rfl,rfl,_,rfl,ifD (fun _=>?_) (fun h=>absurd ma h)⟩
      refine ⟨_,rfl,_,rfl,d,_,_,_,rfl,rfl,O.same.seq hD,bh (aY (ns:=ks) (k:=n) (by omega)),_,_,rfl,rfl,_,rfl,ifN (ifD (fun _=>?_) fun h=>absurd mm h)⟩
      exact q _ O.same
abbrev ju:Stmt:=top 36
theorem jO:aX ["below","roll","ponds","kept","lets","left","let","place","reach","amount"] ["below","roll","ponds","kept","lets"] (ao ju):=⟨rfl,rfl,rfl,by decide +kernel,rfl,by decide +kernel,by decide +kernel⟩
def Qe (K:PySem.W.Frag) (T:fZ):Sp:=fun vs H Q _=>∃ (a b c d e:Addr) (r ks:List Int) (rs us ts:List V) (ls:List Lic) (ps ms:List (Int × Int × Int)),vs=[.ref a,.ref b,.ref c,.ref d,.ref e]∧SqL K H a (r.map V.int)∧Rv.dU r∧r.length≤900∧SqL K H b rs∧cg K H rs (ls.map qT)∧SqL K H c us∧cg K H us (ps.map dMv)∧SqL K H d (ks.map V.int)∧ks.length=ps.length∧SqL K H e ts∧cg K H ts (ms.map dMv)∧(∀ (i:Nat) (m:Int × Int × Int),ms[i]?=some m→xK r ls ps (bT ks (ms.take i)) m)∧TabsOk T H ∧
  m9 T H (fun ys=>ys=(bT ks ms).map V.int) Q
theorem WY {f f1:Addr} {fd fd1:FuncData} (D:Df K mg "let_out" ju ["below","roll","ponds","kept","lets"] f fd) (B:Blt mg)
    (gC:Df K mg "look_at_let" dJ ["below","roll","ponds","kept","let"] f1 fd1) (um:cA P w K mg base CX0 3 f1 fd1 ["below","roll","ponds","kept","let"] (GQ K T)):cA P w K mg base CX0 4 f fd ["below","roll","ponds","kept","lets"] (Qe K T):=by
  refine D.F.ok jO (fun vs H Q E h=>?_) (fun cdv A outer s H vs Q E hr h=>?_)
  · obtain ⟨_,_,_,_,_,_,_,_,_,_,_,_,_,rfl,_⟩:=h;rfl
  · obtain ⟨a,b,c,d,e,r,ks,rs,us,ts,ls,ps,ms,rfl,hA,hR,r9,hB,d0,hC,d1,hD,hkl,hE,d2,good,tk,q⟩:=h
    refine ⟨_,(au (aR (i:=5) jO.nd rfl (Or.inl rfl) (dh bJ rfl B.list PyProof.Rows.boot_list (ak (pv 3) aq)))
      (au (cP PassesOwn.never rfl (bO (pv 4)) (aD (i:=6) jO.nd rfl (Or.inl rfl))
        (au (dZ (aM um (hr.mono (by decide)) rfl gC.m gC.F.kp gC.b .nil bD (ak (pv 0) (ak (pv 1) (ak (pv 2) (ak (pv 5) (ak (pv 6) aq)))))))
        (au (gY (pv 6) (iY rfl (aN (aD (i:=7) jO.nd rfl (Or.inl rfl)) (aN (aD (i:=8) jO.nd rfl (Or.inl rfl)) (aN (aD (i:=9) jO.nd rfl (Or.inl rfl)) dB)))))
        (aB (nG (pv 5) (pv 7) lN (pv 9) Cw set_list)))))
      (aB (bx (pv 5))))),?_⟩
    refine Wv ?_
    intro zu0 zu1 zu2 zu3 zu4
    have O:=Ow.refl tk
    refine ⟨_,rfl,d,_,rfl,.inl hD,fun lm hlm=>?_⟩
    walk_at "nw"
    refine ⟨_,rfl,e,rfl,⟨_,O.same.seq hE⟩,?_⟩
    refine cW (K:=K) (xs:=ts) (fun i σ H'=>Iv (∃ (v6 v7 v8 v9:Option V),σ=[some (.ref a),some (.ref b),some (.ref c),some (.ref d),some (.ref e),some (.ref lm),v6,v7,v8,v9]∧Ow T H H' [(lm,.lst ((bT ks (ms.take i)).map V.int))]))
      ⟨trivial,none,none,none,none,rfl,O⟩ (fun i σ H' _ ⟨_,_,_,_,_,_,O⟩=>O.same.seq hE) ?_ ?_
    · rintro i y σ H3 hy ⟨-,v6,v7,v8,v9,rfl,O⟩
      obtain ⟨al,m,rfl,hm,hT⟩:=d2.j5 hy
      have LO:=good i m hm
      obtain ⟨p,l,hp,p0,hl,l0,l1,hin⟩:=LO.pd
      have m0:=LO.at0
      have hnl:=(List.getElem?_eq_some_iff.mp hp).1
      have hll:=jX (ms.take i) ks
      refine ⟨_,rfl,_,rfl,_,rfl,_,rfl,_,rfl,a,b,c,lm,al,r,bT ks (ms.take i),rs,us,ls,ps,m,rfl,O.same.seq hA,hR,r9,O.same.seq hB,d0.mo O.same,O.same.seq hC,d1.mo O.same,O.sq 0,by omega,hT.mo O.same,LO,O.same.t1,fun H4 sm=>?_⟩
      have O:=O.lQ sm
      refine ⟨_,rfl,al,_,rfl,hT.mo O.same,rfl,_,_,rfl,_,_,rfl,_,_,rfl,rfl,?_⟩
      obtain ⟨mi,mz,mv⟩:=m
      dsimp only at hp m0
      obtain ⟨n,rfl⟩:=Int.eq_ofNat_of_zero_le m0
      rw [Int.toNat_natCast] at hp hnl
      have hx:((bT ks (ms.take i)).map V.int)[n]?=some (V.int ((bT ks (ms.take i)).getD n 0)):=by rw [List.getElem?_map,aY (by omega)];rfl
      refine ⟨_,rfl,_,rfl,lm,_,n,_,rfl,rfl,O.sq 0,hx,_,rfl,_,_,rfl,rfl,lm,_,_,_,rfl,rfl,O.get 0,jY (by rw [List.length_map];omega),?_⟩
      walk_at "pt"
      rw [← List.map_set] at O
      refine ⟨trivial,_,_,_,_,rfl,?_⟩
      rw [List.take_add_one,hm,Option.toList_some,oY]
      exact O
    rintro σ H3 ⟨-,v6,v7,v8,v9,rfl,O⟩
    have hl2:ts.length=ms.length:=by rw [d2.length,List.length_map]
    rw [hl2,List.take_length] at O
    exact ⟨_,rfl,O.ret 0 rfl q rfl⟩
abbrev eH:Stmt:=top 37
theorem eZ:aX ["roll","ponds","kept","calls","lessened","pond","keeps","number","room","leak"] ["roll","ponds","kept","calls"] (ao eH):=⟨rfl,rfl,rfl,by decide +kernel,rfl,by decide +kernel,by decide +kernel⟩
def lJ (cs:List Int) (ps:List (Int × Int × Int)) (ks:List Int):Nat→List Int
  | 0=>cs
  | i + 1=>(lJ cs ps ks i).set (ps.getD i (0,0,0)).1.toNat (min (cs.getD (ps.getD i (0,0,0)).1.toNat 0) ((ps.getD i (0,0,0)).2.1 - ks.getD i 0))
theorem mF (cs:List Int) (ps:List (Int × Int × Int)) (ks:List Int):∀ i,(lJ cs ps ks i).length=cs.length
  | 0=>rfl
  | i + 1=>by rw [lJ,List.length_set];exact mF cs ps ks i
def Qd (K:PySem.W.Frag) (T:fZ):Sp:=fun vs H Q _=>∃ (v:V) (b c d:Addr) (us:List V) (ps:List (Int × Int × Int)) (ks cs:List Int),vs=[v,.ref b,.ref c,.ref d]∧SqL K H b us∧cg K H us (ps.map dMv)∧SqL K H c (ks.map V.int)∧ps.length=ks.length∧SqL K H d (cs.map V.int)∧(∀ p∈ps,0≤p.1∧p.1<(cs.length:Int))∧TabsOk T H ∧
  m9 T H (fun ys=>ys=(lJ cs ps ks ps.length).map V.int) Q
theorem WX {f:Addr} {fd:FuncData} (D:Df K mg "pond_calls" eH ["roll","ponds","kept","calls"] f fd) (B:Blt mg):cA P w K mg base CX0 1 f fd ["roll","ponds","kept","calls"] (Qd K T):=by
  refine D.F.ok eZ (fun vs H Q E h=>?_) (fun cdv A outer s H vs Q E hr h=>?_)
  · obtain ⟨_,_,_,_,_,_,_,_,rfl,_⟩:=h;rfl
  · obtain ⟨v,b,c,d,us,ps,ks,cs,rfl,hB,d0,hC,hpk,hD,hrg,tk,q⟩:=h
    have hul:us.length=ps.length:=by rw [d0.length,List.length_map]
    have O:=Ow.refl tk
    refine ⟨_,(au (aR (i:=4) eZ.nd rfl (Or.inl rfl) (dh bJ rfl B.list PyProof.Rows.boot_list (ak (pv 3) aq)))
      (au (cP PassesOwn.never rfl (rG rfl B.zip (ak (pv 1) (ak (pv 2) aq))) (iY rfl (aN (aD (i:=5) eZ.nd rfl (Or.inl rfl)) (aN (aD (i:=6) eZ.nd rfl (Or.inl rfl)) dB)))
        (au (gY (pv 5) (iY rfl (aN (aD (i:=7) eZ.nd rfl (Or.inl rfl)) (aN (aD (i:=8) eZ.nd rfl (Or.inl rfl)) (aN (aD (i:=9) eZ.nd rfl (Or.inl rfl)) dB)))))
        (aB (gY (aK (mJ rfl) rfl B.min PyProof.Rows.boot_min (ak (aL aG (pv 3) (pv 7) (fun _ _=>rfl)) (ak (aQ nu (pv 8) (pv 6)) aq))) (nj (pv 4) (pv 7) set_list)))))
      (aB (bx (pv 4))))),?_⟩
    refine Qi ?_
    intro zu0 zu1 zu2 zu3
    refine ⟨_,rfl,d,_,rfl,.inl hD,fun lm hlm=>?_⟩
    walk_at "nw"
    refine ⟨_,rfl,_,rfl,b,c,_,_,rfl,O.same.seq hB,O.same.seq hC,?_⟩
    refine tV (K:=K) (fun i σ H'=>Iv (∃ (v5 v6 v7 v8 v9:Option V),σ=[some v,some (.ref b),some (.ref c),some (.ref d),some (.ref lm),v5,v6,v7,v8,v9]∧Ow T H H' [(lm,.lst ((lJ cs ps ks i).map V.int))]))
      (by rw [List.length_map];omega) ⟨trivial,none,none,none,none,none,rfl,O⟩ (fun _ _ _ _ ⟨_,_,_,_,_,_,_,O⟩=>⟨O.same.seq hB,O.same.seq hC⟩) ?_ ?_
    · rintro i x y t' σ H3 hx hy ⟨-,v5,v6,v7,v8,v9,rfl,O⟩ ht'
      obtain ⟨ap,p,rfl,hp,hT⟩:=d0.j5 hx
      obtain ⟨u,hu,rfl⟩:=ints_get hy
      have hr:=hrg p (List.mem_of_getElem? hp)
      walk_at "nw"
      refine ⟨t',_,rfl,O.sqT 0,rfl,_,_,rfl,_,_,rfl,rfl,?_⟩
      have O:=O.tail
      refine ⟨_,rfl,ap,_,rfl,hT.mo O.same,rfl,_,_,rfl,_,_,rfl,_,_,rfl,rfl,?_⟩
      refine ⟨_,rfl,_,rfl,d,_,_,_,rfl,rfl,O.same.seq hD,aV hr.1 hr.2,_,rfl,_,rfl,_,_,rfl,rfl,_,_,rfl,_,rfl,_,rfl,?_⟩
      refine nq O 0 rfl (zJ hr.1 (by rw [List.length_map,mF];exact hr.2)) fun H6 O=>?_
      refine ⟨trivial,_,_,_,_,_,rfl,?_⟩
      rw [lJ,getD_some hp,getD_some hu,List.map_set]
      have em:min (cs.getD p.1.toNat 0) (p.2.1 - u)=if p.2.1 - u<cs.getD p.1.toNat 0 then p.2.1 - u else cs.getD p.1.toNat 0:=by split <;> omega
      rw [em];exact O
    rintro σ H3 ⟨-,v5,v6,v7,v8,v9,rfl,O⟩
    rw [hul] at O
    exact ⟨_,rfl,O.ret 0 rfl q rfl⟩
abbrev jw:Stmt:=top 38
theorem fM:aX ["ponds","kept","takes","after","lost","pond","keeps","number","room","leak","full","loss"] ["ponds","kept","takes"] (ao jw):=⟨rfl,rfl,rfl,by decide +kernel,rfl,by decide +kernel,by decide +kernel⟩
def pI (ps:List (Int × Int × Int)) (ks xs:List Int) (i:Nat):Int:=ks.getD i 0 + xs.getD (ps.getD i (0,0,0)).1.toNat 0
def kW (ps:List (Int × Int × Int)) (ks xs:List Int) (i:Nat):Int:=pI ps ks xs i * (ps.getD i (0,0,0)).2.2 / 1000
def GX (K:PySem.W.Frag) (T:fZ):Sp:=fun vs H Q _=>∃ (b c d:Addr) (us:List V) (ps:List (Int × Int × Int)) (ks xs:List Int),vs=[.ref b,.ref c,.ref d]∧SqL K H b us∧cg K H us (ps.map dMv)∧ps.length≤1000∧SqL K H c (ks.map V.int)∧ps.length=ks.length∧SqL K H d (xs.map V.int)∧(∀ p∈ps,0≤p.1∧p.1<(xs.length:Int)∧0≤p.2.2∧p.2.2≤1000)∧TabsOk T H ∧
  ∀ (t la ll:Addr) (H':Hp),Ow T H H' [(t,.tup [.ref la,.ref ll]),(ll,.lst (((List.range ps.length).map (kW ps ks xs)).map V.int)),(la,.lst (((List.range ps.length).map fun i=>pI ps ks xs i - kW ps ks xs i).map V.int))]→Q (.ref t) H'
theorem yx (f:Nat→Int) (i:Nat):((List.range (i + 1)).map f).map V.int=((List.range i).map f).map V.int++[V.int (f i)]:=by
  rw [List.range_succ,List.map_append,List.map_append];rfl
theorem QW {f:Addr} {fd:FuncData} (D:Df K mg "evening" jw ["ponds","kept","takes"] f fd) (B:Blt mg) (hW:∃ t,mg "WHOLE"=some (.int 1000 t)):cA P w K mg base CX0 1 f fd ["ponds","kept","takes"] (GX K T):=by
  obtain ⟨tW,hWHOLE⟩:=hW
  refine D.F.ok fM (fun vs H Q E h=>?_) (fun cdv A outer s H vs Q E hr h=>?_)
  · obtain ⟨_,_,_,_,_,_,_,rfl,_⟩:=h;rfl
  · obtain ⟨b,c,d,us,ps,ks,xs,rfl,hB,d0,hpl,hC,hpk,hD,hrg,tk,q⟩:=h
    have hul:us.length=ps.length:=by rw [d0.length,List.length_map]
    have O:=Ow.refl tk
    refine ⟨_,(au (aR (i:=3) fM.nd rfl (Or.inl rfl) (cZ aq))
      (au (aR (i:=4) fM.nd rfl (Or.inl rfl) (cZ aq))
      (au (cP PassesOwn.never rfl (rG rfl B.zip (ak (pv 0) (ak (pv 1) aq))) (iY rfl (aN (aD (i:=5) fM.nd rfl (Or.inl rfl)) (aN (aD (i:=6) fM.nd rfl (Or.inl rfl)) dB)))
        (au (gY (pv 5) (iY rfl (aN (aD (i:=7) fM.nd rfl (Or.inl rfl)) (aN (aD (i:=8) fM.nd rfl (Or.inl rfl)) (aN (aD (i:=9) fM.nd rfl (Or.inl rfl)) dB)))))
        (au (aR (i:=10) fM.nd rfl (Or.inl rfl) (aQ cQ (pv 6) (aL aG (pv 2) (pv 7) (fun _ _=>rfl))))
        (au (aR (i:=11) fM.nd rfl (Or.inl rfl) (aQ d8 (aQ jW (pv 10) (pv 9)) (lZ (v:=.int (1000)) rfl hWHOLE ⟨_,rfl⟩)))
        (au (dZ (mq PySem.F.plainAttrs_list PySem.F.slot_list_append PySem.F.type_list_append cL (pv 3) (ak (aQ nu (pv 10) (pv 11)) aq)))
        (aB (dZ (mq PySem.F.plainAttrs_list PySem.F.slot_list_append PySem.F.type_list_append cL (pv 4) (ak (pv 11) aq)))))))))
      (aB (bx (jV (ak (pv 3) (ak (pv 4) aq)))))))),?_⟩
    refine Wu ?_
    intro zu0 zu1 zu2 zu3 zu4 zu5 zu6 zu7
    refine ⟨szl,fun la hla=>?_⟩
    walk_at "nw"
    refine ⟨szl,fun ll hll=>?_⟩
    walk_at "nw"
    refine ⟨_,rfl,_,rfl,b,c,_,_,rfl,O.same.seq hB,O.same.seq hC,?_⟩
    refine tV (K:=K) (fun i σ H'=>Iv (∃ (v5 v6 v7 v8 v9 v10 v11:Option V),σ=[some (.ref b),some (.ref c),some (.ref d),some (.ref la),some (.ref ll),v5,v6,v7,v8,v9,v10,v11]∧Ow T H H' [(ll,.lst (((List.range i).map (kW ps ks xs)).map V.int)),(la,.lst (((List.range i).map fun i=>pI ps ks xs i - kW ps ks xs i).map V.int))]))
      (by rw [List.length_map];omega) ⟨trivial,none,none,none,none,none,none,none,rfl,O⟩ (fun _ _ _ _ ⟨_,_,_,_,_,_,_,_,_,O⟩=>⟨O.same.seq hB,O.same.seq hC⟩) ?_ ?_
    · rintro i x y t' σ H3 hx hy ⟨-,v5,v6,v7,v8,v9,v10,v11,rfl,O⟩ ht'
      obtain ⟨ap,p,rfl,hp,hT⟩:=d0.j5 hx
      obtain ⟨u,hu,rfl⟩:=ints_get hy
      have hi:=(List.getElem?_eq_some_iff.mp hp).1
      have hr:=hrg p (List.mem_of_getElem? hp)
      have e1:pI ps ks xs i=u + xs.getD p.1.toNat 0:=by unfold pI;rw [getD_some hp,getD_some hu]
      have e2:kW ps ks xs i=(u + xs.getD p.1.toNat 0) * p.2.2 / 1000:=by unfold kW;rw [e1,getD_some hp]
      walk_at "nw"
      refine ⟨t',_,rfl,O.sqT 0,rfl,_,_,rfl,_,_,rfl,rfl,?_⟩
      have O:=O.tail
      refine ⟨_,rfl,ap,_,rfl,hT.mo O.same,rfl,_,_,rfl,_,_,rfl,_,_,rfl,rfl,?_⟩
      refine ⟨_,rfl,_,rfl,_,rfl,d,_,_,_,rfl,rfl,O.same.seq hD,aV hr.1 hr.2.1,_,_,rfl,rfl,?_⟩
      refine ⟨_,rfl,_,rfl,_,_,rfl,rfl,.inr ⟨by omega,by omega⟩,_,_,rfl,rfl,⟨by decide,by decide⟩,?_⟩
      refine ⟨_,rfl,.inl ⟨rfl,_,O.sq 1⟩,_,rfl,_,rfl,_,_,rfl,rfl,la,_,_,rfl,rfl,O.get 1,aP (by rw [List.length_map,List.length_map,List.length_range];omega),?_⟩
      walk_at "pt"
      refine ⟨_,rfl,.inl ⟨rfl,_,O.sq 0⟩,_,rfl,ll,_,_,rfl,rfl,O.get 0,aP (by rw [List.length_map,List.length_map,List.length_range];omega),?_⟩
      walk_at "pt"
      refine ⟨trivial,_,_,_,_,_,_,_,rfl,?_⟩
      rw [yx,yx,e2,e1]
      exact O
    rintro σ H3 ⟨-,v5,v6,v7,v8,v9,v10,v11,rfl,O⟩
    rw [hul] at O
    refine ⟨_,rfl,_,rfl,szl,fun t ht=>?_⟩
    walk_at "nw"
    exact q t la ll _ O
abbrev gW:Stmt:=top 45
theorem qe:aX ["script","k","cell"] ["script","k"] (ao gW):=⟨rfl,rfl,rfl,by decide +kernel,rfl,by decide +kernel,by decide +kernel⟩
def GD (K:PySem.W.Frag) (T:fZ):Sp:=fun vs H Q _=>∃ (a:Addr) (ns:List Int) (k:Nat),vs=[.ref a,.int (k:Int)]∧SqL K H a (ns.map V.int)∧TabsOk T H∧∀ H',bI T H H'→Q (.int (ns.getD k 0)) H'
theorem QG {f:Addr} {fd:FuncData} (D:Df K mg "_law_nth" gW ["script","k"] f fd):cA P w K mg base CX0 1 f fd ["script","k"] (GD K T):=by
  refine D.F.ok qe (fun vs H Q E h=>?_) (fun cdv A outer s H vs Q E hr h=>?_)
  · obtain ⟨_,_,_,rfl,_⟩:=h;rfl
  · obtain ⟨a,ns,k,rfl,hS,tk,q⟩:=h
    refine ⟨_,(au (cP PassesOwn.never rfl (bO (oA qb (pv 0) (nH (pv 1)) (nH (aQ cQ (pv 1) aA)))) (aD (i:=2) qe.nd rfl (Or.inl rfl))
        (aB (bx (pv 2))))
      (aB (bx aA))),?_⟩
    refine Wt ?_
    intro zu0 zu1
    have O:=Ow.refl tk
    refine ⟨_,rfl,_,rfl,(k:Int),rfl,_,rfl,_,_,rfl,rfl,_,rfl,a,_,rfl,hS,fun l hl=>?_⟩
    walk_at "nw"
    rw [show vZ (ns.map V.int) (some (k:Int)) (some ((k:Int) + 1))=((ns.drop k).take 1).map V.int from by have e:=Nh ns k (k + 1);rw [show k + 1 - k=1 by omega] at e;exact e] at O
    refine ⟨l,rfl,⟨_,O.sq 0⟩,?_⟩
    refine cW (K:=K) (xs:=((ns.drop k).take 1).map V.int) (fun i σ H'=>Iv (i=0∧σ=[some (.ref a),some (.int (k:Int)),none]∧Ow T H H' [(l,.lst (((ns.drop k).take 1).map V.int))]))
      ⟨trivial,rfl,rfl,O⟩ (fun i σ H' _ ⟨_,_,_,O⟩=>O.sq 0) ?_ ?_
    · rintro i y σ H3 hy ⟨-,rfl,rfl,O⟩
      obtain ⟨z,hz,rfl⟩:=ints_get hy
      have e:ns.getD k 0=z:=by
        rw [List.getElem?_take,if_pos (by decide),List.getElem?_drop] at hz
        rw [List.getD_eq_getElem?_getD,show ns[k]?=some z from hz];rfl
      subst e
      exact ⟨_,rfl,q _ O.same⟩
    rintro σ H3 ⟨-,e0,rfl,O⟩
    have e:ns.getD k 0=0:=by
      rw [List.length_map,List.length_take,List.length_drop] at e0
      rw [List.getD_eq_getElem?_getD,List.getElem?_eq_none (by omega)];rfl
    have q':=q _ O.same
    rw [e] at q'
    exact q'
theorem Hi (K:PySem.W.Frag):PySem.W.kitOne K (.type "int") (.type "int")=some true:=by rfl
theorem Hj (K:PySem.W.Frag):PySem.W.kitOne K (.type "int") (.type "bool")=some false:=by rfl
theorem Hh (K:PySem.W.Frag):PySem.W.kitOne K (.type "list") (.type "list")=some true:=by rfl
abbrev cJ:Stmt:=top 46
theorem jJ:aX ["cell","many","drawn","k","base"] ["cell","many"] (ao cJ):=⟨rfl,rfl,rfl,by decide +kernel,rfl,by decide +kernel,by decide +kernel⟩
def uN (T:fZ):Sp:=fun vs H Q _=>∃ (c m:Int),vs=[.int c,.int m]∧0≤m∧m≤1000∧TabsOk T H∧m9 T H (fun xs=>∃ ys:List Int,xs=ys.map V.int∧ys.length=m.toNat∧∀ y∈ys,0≤y∧y<600011003) Q
theorem Vp {b:Int} (h0:0≤b) (h1:b<2000000000):0≤b * b∧b * b<4000000000000000000:=⟨Int.mul_nonneg h0 h0,by
  have:b * b≤1999999999 * 1999999999:=Int.mul_le_mul (by omega) (by omega) h0 (by decide)
  omega⟩
theorem QX {f:Addr} {fd:FuncData} (D:Df K mg "_law_draws" cJ ["cell","many"] f fd) (B:Blt mg):cA P w K mg base CX0 1 f fd ["cell","many"] (uN T):=by
  refine D.F.ok jJ (fun vs H Q E h=>?_) (fun cdv A outer s H vs Q E hr h=>?_)
  · obtain ⟨_,_,rfl,_⟩:=h;rfl
  · obtain ⟨c,m,rfl,h0,h1,tk,q⟩:=h
    refine ⟨_,(au (aR (i:=2) jJ.nd rfl (Or.inl rfl) (cZ aq))
      (au (cP PassesOwn.never rfl (bW rfl B.range (ak (pv 1) aq)) (aD (i:=3) jJ.nd rfl (Or.inl rfl))
        (au (aR (i:=4) jJ.nd rfl (Or.inl rfl) (aQ cQ (aQ cQ (aQ bU (pv 0) aA) (aQ jW aA (pv 3))) aA))
        (aB (dZ (mq PySem.F.plainAttrs_list PySem.F.slot_list_append PySem.F.type_list_append cL (pv 2) (ak (aQ bU (aQ d8 (aQ jW (aQ jW (pv 4) (pv 4)) (pv 4)) aA) aA) aq))))))
      (aB (bx (pv 2))))),?_⟩
    refine Qi ?_
    intro zu0 zu1 zu2 zu3
    have O:=Ow.refl tk
    have s0:=O.same
    refine ⟨szl,fun l hl=>?_⟩
    walk_at "nw"
    refine ⟨_,rfl,m,rfl,by omega,by omega,?_⟩
    refine gG (fun i σ H'=>Iv (∃ (v3 v4:Option V) (ys:List Int),σ=[some (.int c),some (.int m),some (.ref l),v3,v4]∧ys.length=i∧(∀ y∈ys,0≤y∧y<600011003)∧Ow T H H' [(l,.lst (ys.map V.int))]))
      ⟨trivial,none,none,[],rfl,rfl,(fun y hy=>nomatch hy),O⟩ ?_ ?_
    · rintro i σ H3 hi ⟨-,v3,v4,ys,rfl,hyl,hyb,O⟩
      have c0:=Int.emod_nonneg c (show (777767777:Int)≠0 by decide)
      have c1:=Int.emod_lt_of_pos c (show (0:Int)<777767777 by decide)
      refine ⟨_,rfl,_,_,rfl,rfl,(by show (0:Int)<777767777;decide),_,rfl,_,_,rfl,rfl,.inl ⟨by decide,by decide⟩,_,_,rfl,rfl,_,_,rfl,rfl,?_⟩
      dsimp only
      have b0:0≤c % 777767777 + 1217 * (0 + (i:Int)) + 59:=by omega
      have b1:c % 777767777 + 1217 * (0 + (i:Int)) + 59<2000000000:=by omega
      generalize c % 777767777 + 1217 * (0 + (i:Int)) + 59=b at b0 b1
      have bb:=Vp b0 b1
      refine ⟨_,rfl,.inl ⟨rfl,_,O.sq 0⟩,_,rfl,_,rfl,_,_,rfl,rfl,.inl ⟨by omega,by omega⟩,_,rfl,_,_,rfl,rfl,.inl ⟨by omega,by omega⟩,_,_,rfl,rfl,⟨by decide,by decide⟩,_,_,rfl,rfl,(by show (0:Int)<600011003;decide),l,_,_,rfl,rfl,O.get 0,aP (by rw [List.length_map];omega),?_⟩
      walk_at "pt"
      rw [mZ] at O
      refine ⟨trivial,_,_,_,rfl,by rw [List.length_append,hyl];rfl,fun y hy=>?_,O⟩
      rcases List.mem_append.mp hy with e | e
      · exact hyb y e
      · have e2:y=b * b * b / 11 % 600011003:=by simpa using e
        rw [e2]
        exact ⟨Int.emod_nonneg _ (by decide),Int.emod_lt_of_pos _ (by decide)⟩
    rintro σ H3 ⟨-,v3,v4,ys,rfl,hyl,hyb,O⟩
    exact ⟨_,rfl,O.ret 0 rfl q ⟨ys,rfl,hyl,hyb⟩⟩
abbrev fC:Stmt:=top 50
theorem uU:aX ["number","most"] ["number","most"] (ao fC):=⟨rfl,rfl,rfl,by decide +kernel,rfl,by decide +kernel,by decide +kernel⟩
def Ay:Sp:=fun vs H Q _=>∃ (n m:Int),vs=[.int n,.int m]∧0≤m∧∀ z,0≤z→z≤m→Q (.int z) H
theorem emod_le {a b m:Int} (h0:0<b) (h1:b≤m + 1):0≤a % b∧a % b≤m:=by
  have:=Int.emod_nonneg a (show b≠0 by omega)
  have:=Int.emod_lt_of_pos a h0
  omega
theorem Bj {Qp:Int→Prop} {a b m:Int} (q:∀ z,0≤z→z≤m→Qp z) (h0:0<b) (h1:b≤m + 1):Qp (a % b):=q _ (emod_le h0 h1).1 (emod_le h0 h1).2
theorem Qx {f:Addr} {fd:FuncData} (D:Df K mg "_law_some" fC ["number","most"] f fd) (B:Blt mg):cA P w K mg base CX0 1 f fd ["number","most"] Ay:=by
  refine D.F.ok uU (fun vs H Q E h=>?_) (fun cdv A outer s H vs Q E hr h=>?_)
  · obtain ⟨_,_,rfl,_⟩:=h;rfl
  · obtain ⟨n,m,rfl,hm,q⟩:=h
    have O:=Ow.Qk H
    have s0:=O.same
    refine ⟨_,(au (iK (aW jB (aQ bU (pv 0) aA) aA (bw _))
        (aB (bx aA))
        cu)
      (au (iK (aW jB (aQ bU (pv 0) aA) aA (bw _))
        (aB (bx (pv 1)))
        cu)
      (aB (bx (aQ bU (aQ jW (aQ d8 (pv 0) aA) aA) (aQ cQ (pv 1) aA)))))),?_⟩
    refine Qh ?_
    intro zu0 zu1 zu2 zu3
    have e5:(10:Int) ^ (5:Int).toNat=100000:=by decide
    walk_at "go"
    all_goals first
      | exact q _ (Int.le_refl _) hm
      | exact q _ hm (Int.le_refl _)
      | (refine Bj (Qp:=fun z=>Q (.int z) H) q ?_ ?_ <;> omega)
      | (refine Bj (Qp:=fun z=>Q (.int z) H) q ?_ ?_ <;> split <;> omega)
abbrev eO:Stmt:=top 18
theorem sW:aX ["one"] ["one"] (ao eO):=⟨rfl,rfl,rfl,by decide +kernel,rfl,by decide +kernel,by decide +kernel⟩
def Qf (K:PySem.W.Frag):Sp:=fun vs H Q _=>∃ (a:Addr) (l:Lic),vs=[.ref a]∧SqT K H a (Aa l)∧Q (.bl (!decide (l.back=-1))) H
theorem W0 {f:Addr} {fd:FuncData} (D:Df K mg "gives_back" eO ["one"] f fd) (C:Mth mg):cA P w K mg base CX0 1 f fd ["one"] (Qf K):=by
  obtain ⟨tM,hMOUTH⟩:=C.MOUTH
  refine D.F.ok sW (fun vs H Q E h=>?_) (fun cdv A outer s H vs Q E hr h=>?_)
  · obtain ⟨_,_,rfl,_⟩:=h;rfl
  · obtain ⟨a,l,rfl,hT,q⟩:=h
    refine ⟨_,(aB (bx (mj tu (aL cX (pv 0) aA (fun _ _=>rfl)) (lZ (v:=.int (-1)) rfl hMOUTH ⟨_,rfl⟩) (bw _)))),?_⟩
    rw [← w5] at q
    exact ⟨_,rfl,a,_,2,_,rfl,rfl,hT,rfl,rfl,q⟩
abbrev eN:Stmt:=top 40
theorem nW:aX ["below","roll","ponds","kept","calls","lets","left"] ["below","roll","ponds","kept","calls","lets"] (ao eN):=⟨rfl,rfl,rfl,by decide +kernel,rfl,by decide +kernel,by decide +kernel⟩
def GJ (K:PySem.W.Frag) (T:fZ):Sp:=fun vs H Q _=>∃ (a b c d g e:Addr) (r ks cs:List Int) (rs us ts:List V) (ls:List Lic) (ps ms:List (Int × Int × Int)),vs=[.ref a,.ref b,.ref c,.ref d,.ref g,.ref e]∧SqL K H a (r.map V.int)∧Rv.dU r∧r.length≤900∧SqL K H b rs∧cg K H rs (ls.map qT)∧SqL K H c us∧cg K H us (ps.map dMv)∧SqL K H d (ks.map V.int)∧ks.length=ps.length∧SqL K H g (cs.map V.int)∧(∀ p∈ps,0≤p.1∧p.1<(cs.length:Int))∧SqL K H e ts∧cg K H ts (ms.map dMv)∧(∀ (i:Nat) (m:Int × Int × Int),ms[i]?=some m→xK r ls ps (bT ks (ms.take i)) m)∧TabsOk T H ∧
  ∀ (t la lb:Addr) (H':Hp),Ow T H H' [(t,.tup [.ref la,.ref lb]),(lb,.lst ((lJ cs ps (bT ks ms) ps.length).map V.int)),(la,.lst ((bT ks ms).map V.int))]→Q (.ref t) H'
theorem QK {f f1 f2:Addr} {fd fd1 fd2:FuncData} (D:Df K mg "morning_of" eN ["below","roll","ponds","kept","calls","lets"] f fd) (B:Blt mg)
    (lB:Df K mg "let_out" ju ["below","roll","ponds","kept","lets"] f1 fd1) (Dw:cA P w K mg base CX0 4 f1 fd1 ["below","roll","ponds","kept","lets"] (Qe K T))
    (iw:Df K mg "pond_calls" eH ["roll","ponds","kept","calls"] f2 fd2) (vL:cA P w K mg base CX0 1 f2 fd2 ["roll","ponds","kept","calls"] (Qd K T)):cA P w K mg base CX0 5 f fd ["below","roll","ponds","kept","calls","lets"] (GJ K T):=by
  refine D.F.ok nW (fun vs H Q E h=>?_) (fun cdv A outer s H vs Q E hr h=>?_)
  · obtain ⟨_,_,_,_,_,_,_,_,_,_,_,_,_,_,_,rfl,_⟩:=h;rfl
  · obtain ⟨a,b,c,d,g,e,r,ks,cs,rs,us,ts,ls,ps,ms,rfl,hA,hR,r9,hB,d0,hC,d1,hD,hkl,hG,hrg,hE,d2,good,tk,q⟩:=h
    refine ⟨_,(au (aR (i:=6) nW.nd rfl (Or.inl rfl) (aM Dw (hr.mono (by decide)) rfl lB.m lB.F.kp lB.b .nil bD (ak (pv 0) (ak (pv 1) (ak (pv 2) (ak (pv 3) (ak (pv 5) aq)))))))
      (aB (bx (jV (ak (pv 6) (ak (aM vL (hr.mono (by decide)) rfl iw.m iw.F.kp iw.b .nil bD (ak (pv 1) (ak (pv 2) (ak (pv 6) (ak (pv 4) aq))))) aq)))))),?_⟩
    refine Wc ?_
    intro zu0
    have O:=Ow.refl tk
    refine ⟨_,rfl,_,rfl,_,rfl,_,rfl,_,rfl,a,b,c,d,e,r,ks,rs,us,ts,ls,ps,ms,rfl,hA,hR,r9,hB,d0,hC,d1,hD,hkl,hE,d2,good,tk,O.oZ fun l1 H1 ys O e1=>?_⟩
    subst e1
    refine ⟨_,rfl,_,rfl,_,rfl,_,rfl,_,rfl,.ref b,c,l1,g,us,ps,bT ks ms,cs,rfl,O.same.seq hC,d1.mo O.same,O.sq 0,by rw [jX];omega,O.same.seq hG,hrg,O.same.t1,O.oZ fun l2 H2 ys O e2=>?_⟩
    subst e2
    refine ⟨szl,fun t ht=>?_⟩
    walk_at "nw"
    exact q t l1 l2 _ O
abbrev gR:Stmt:=top 41
theorem cY:aX ["roll","ponds","takes","lets","moves","one","take","day","start","back","most","place","reach","amount"] ["roll","ponds","takes","lets"] (ao gR):=⟨rfl,rfl,rfl,by decide +kernel,rfl,by decide +kernel,by decide +kernel⟩
def stP (ls:List Lic) (ps:List (Int × Int × Int)) (n:Int):Int:=((ls[(ps.getD n.toNat (0,0,0)).1.toNat]?).map Lic.start).getD 0
def DG (ls:List Lic) (xs:List Int):List Rv.Mv:=(ls.zip xs).map fun p=>(p.1.start,p.1.back,p.2)
def nJ (ls:List Lic) (ps:List (Int × Int × Int)) (m:Int × Int × Int):Rv.Mv:=(stP ls ps m.1,m.2.1,-m.2.2)
def mX (ls:List Lic) (ps:List (Int × Int × Int)) (xs:List Int) (ms:List (Int × Int × Int)):List Rv.Mv:=DG ls xs++ms.map (nJ ls ps)
def Vy (ls:List Lic) (ps:List (Int × Int × Int)) (m:Int × Int × Int):Prop:=0≤m.1∧∃ p l,ps[m.1.toNat]?=some p∧0≤p.1∧ls[p.1.toNat]?=some l
theorem Gv {ls:List Lic} {ps:List (Int × Int × Int)} {n:Int} {p:Int × Int × Int} {l:Lic} (hp:ps[n.toNat]?=some p) (hl:ls[p.1.toNat]?=some l):stP ls ps n=l.start:=by
  unfold stP;rw [getD_some hp,hl];rfl
theorem DY {α β γ:Type} {as:List α} {bs:List β} {i:Nat} {x:α} {y:β} (g:α × β→γ) (hx:as[i]?=some x) (hy:bs[i]?=some y):((as.zip bs).take (i + 1)).map g=((as.zip bs).take i).map g++[g (x,y)]:=by
  have e:(as.zip bs)[i]?=some (x,y):=by rw [List.getElem?_zip_eq_some];exact ⟨hx,hy⟩
  rw [List.take_add_one,e,List.map_append];rfl
def GF (K:PySem.W.Frag) (T:fZ):Sp:=fun vs H Q _=>∃ (b c d e:Addr) (xs:List Int) (rs us ts:List V) (ls:List Lic) (ps ms:List (Int × Int × Int)),vs=[.ref b,.ref c,.ref d,.ref e]∧SqL K H b rs∧cg K H rs (ls.map qT)∧ls.length≤100∧SqL K H c us∧cg K H us (ps.map dMv)∧SqL K H d (xs.map V.int)∧xs.length=ls.length∧SqL K H e ts∧cg K H ts (ms.map dMv)∧ms.length≤1000∧(∀ m∈ms,Vy ls ps m)∧TabsOk T H ∧
  ∀ (l:Addr) (H1 H':Hp) (vs:List V),bI T H H1→Ow T H1 H' [(l,.lst vs)]→cg K H1 vs ((mX ls ps xs ms).map dMv)→Q (.ref l) H'
theorem QJ {f f1:Addr} {fd fd1:FuncData} (D:Df K mg "moves_of" gR ["roll","ponds","takes","lets"] f fd) (B:Blt mg)
    (cN:Df K mg "pond_start" dH ["roll","pond"] f1 fd1) (mO:cA P w K mg base CX0 2 f1 fd1 ["roll","pond"] (Az K)):cA P w K mg base CX0 3 f fd ["roll","ponds","takes","lets"] (GF K T):=by
  refine D.F.ok cY (fun vs H Q E h=>?_) (fun cdv A outer s H vs Q E hr h=>?_)
  · obtain ⟨_,_,_,_,_,_,_,_,_,_,_,rfl,_⟩:=h;rfl
  · obtain ⟨b,c,d,e,xs,rs,us,ts,ls,ps,ms,rfl,hB,d0,hl1,hC,d1,hD,hxl,hE,d2,hm1,good,tk,q⟩:=h
    have hrl:rs.length=ls.length:=by rw [d0.length,List.length_map]
    have hul:us.length=ps.length:=by rw [d1.length,List.length_map]
    have htl:ts.length=ms.length:=by rw [d2.length,List.length_map]
    refine ⟨_,(au (aR (i:=4) cY.nd rfl (Or.inl rfl) (cZ aq))
      (au (cP PassesOwn.never rfl (rG rfl B.zip (ak (pv 0) (ak (pv 2) aq))) (iY rfl (aN (aD (i:=5) cY.nd rfl (Or.inl rfl)) (aN (aD (i:=6) cY.nd rfl (Or.inl rfl)) dB)))
        (au (gY (pv 5) (iY rfl (aN (aD (i:=7) cY.nd rfl (Or.inl rfl)) (aN (aD (i:=8) cY.nd rfl (Or.inl rfl)) (aN (aD (i:=9) cY.nd rfl (Or.inl rfl)) (aN (aD (i:=10) cY.nd rfl (Or.inl rfl)) dB))))))
        (aB (dZ (mq PySem.F.plainAttrs_list PySem.F.slot_list_append PySem.F.type_list_append cL (pv 4) (ak (jV (ak (pv 8) (ak (pv 9) (ak (pv 6) aq)))) aq))))))
      (au (cP PassesOwn.never rfl (bO (pv 3)) (iY rfl (aN (aD (i:=11) cY.nd rfl (Or.inl rfl)) (aN (aD (i:=12) cY.nd rfl (Or.inl rfl)) (aN (aD (i:=13) cY.nd rfl (Or.inl rfl)) dB))))
        (aB (dZ (mq PySem.F.plainAttrs_list PySem.F.slot_list_append PySem.F.type_list_append cL (pv 4) (ak (jV (ak (aM mO (hr.mono (by decide)) rfl cN.m cN.F.kp cN.b .nil bD (ak (pv 0) (ak (aL aG (pv 1) (pv 11) (fun _ _=>rfl)) aq))) (ak (pv 12) (ak (lY jo (pv 13)) aq)))) aq)))))
      (aB (bx (pv 4)))))),?_⟩
    refine Ws ?_
    intro zu0 zu1 zu2 zu3 zu4 zu5
    have O:=Ow.refl tk
    refine ⟨szl,fun lm hlm=>?_⟩
    walk_at "nw"
    refine ⟨_,rfl,_,rfl,b,d,_,_,rfl,O.same.seq hB,O.same.seq hD,?_⟩
    refine tV (K:=K) (fun i σ H'=>Iv (∃ (v5 v6 v7 v8 v9 v10:Option V) (Hb:Hp) (vs:List V),σ=[some (.ref b),some (.ref c),some (.ref d),some (.ref e),some (.ref lm),v5,v6,v7,v8,v9,v10,none,none,none]∧bI T H Hb∧cg K Hb vs (((ls.zip xs).take i).map fun p=>dMv (p.1.start,p.1.back,p.2))∧Ow T Hb H' [(lm,.lst vs)]))
      (by rw [List.length_map];omega) ⟨trivial,none,none,none,none,none,none,H,[],rfl,bI.refl tk,.nil,O⟩ (fun _ _ _ _ ⟨_,_,_,_,_,_,_,_,_,_,sb,_,O⟩=>⟨(sb.trans O.same).seq hB,(sb.trans O.same).seq hD⟩) ?_ ?_
    · rintro i x y t' σ H3 hx hy ⟨-,v5,v6,v7,v8,v9,v10,Hb,vs,rfl,sb,dv,O⟩ ht'
      obtain ⟨al,l,rfl,hl,hT⟩:=d0.wR hx
      obtain ⟨u,hu,rfl⟩:=ints_get hy
      have hi:=(List.getElem?_eq_some_iff.mp hl).1
      have hvl:vs.length≤i:=by rw [dv.length,List.length_map,List.length_take];omega
      walk_at "nw"
      refine ⟨t',_,rfl,O.sqT 0,rfl,_,_,rfl,_,_,rfl,rfl,?_⟩
      have O:=O.tail
      refine ⟨_,rfl,al,_,rfl,(hT.mo sb).mo O.same,rfl,_,_,rfl,_,_,rfl,_,_,rfl,_,_,rfl,rfl,?_⟩
      refine ⟨_,rfl,.inl ⟨rfl,_,O.sq 0⟩,_,rfl,_,rfl,_,rfl,szl,fun t ht=>?_⟩
      walk_at "nw"
      refine ⟨lm,_,_,rfl,rfl,O.get 1,aP (by omega),?_⟩
      walk_at "pt"
      obtain ⟨Hc,O,sc,en⟩:=O.frz
      refine ⟨trivial,_,_,_,_,_,_,Hc,vs++[.ref t],rfl,sb.trans sc,?_,O⟩
      rw [DY (fun p=>dMv (p.1.start,p.1.back,p.2)) hl hu]
      exact (dv.mo sc).append (.cons (Den.mv (m:=(l.start,l.back,u)) (SqT.of en)) .nil)
    rintro σ H3 ⟨-,v5,v6,v7,v8,v9,v10,Hb,vs,rfl,sb,dv,O⟩
    rw [List.take_of_length_le (by rw [List.length_zip];omega)] at dv
    have dv:cg K Hb vs ((mX ls ps xs (ms.take 0)).map dMv):=by
      have e:(mX ls ps xs (ms.take 0)).map dMv=(ls.zip xs).map fun p=>dMv (p.1.start,p.1.back,p.2):=by
        unfold mX DG;rw [List.take_zero,List.map_nil,List.append_nil,List.map_map];rfl
      rw [e];exact dv
    refine ⟨_,rfl,e,rfl,⟨_,(sb.trans O.same).seq hE⟩,?_⟩
    refine cW (K:=K) (xs:=ts) (fun i σ H'=>Iv (∃ (v11 v12 v13:Option V) (Hb:Hp) (vs:List V),σ=[some (.ref b),some (.ref c),some (.ref d),some (.ref e),some (.ref lm),v5,v6,v7,v8,v9,v10,v11,v12,v13]∧bI T H Hb∧cg K Hb vs ((mX ls ps xs (ms.take i)).map dMv)∧Ow T Hb H' [(lm,.lst vs)]))
      ⟨trivial,none,none,none,Hb,vs,rfl,sb,dv,O⟩ (fun _ _ _ _ ⟨_,_,_,_,_,_,_,sb,_,O⟩=>(sb.trans O.same).seq hE) ?_ ?_
    · rintro i y σ H4 hy ⟨-,v11,v12,v13,Hb,vs,rfl,sb,dv,O⟩
      obtain ⟨am,m,rfl,hm,hT⟩:=d2.j5 hy
      have hi:=(List.getElem?_eq_some_iff.mp hm).1
      obtain ⟨m0,p,l,hp,p0,hl⟩:=good m (List.mem_of_getElem? hm)
      have hpl:=(List.getElem?_eq_some_iff.mp hp).1
      obtain ⟨ap,hap,hTp⟩:∃ ap,us[m.1.toNat]?=some (.ref ap)∧SqT K H ap [.int p.1,.int p.2.1,.int p.2.2]:=by
        obtain ⟨u,hu⟩:∃ u,us[m.1.toNat]?=some u:=⟨_,List.getElem?_eq_getElem (by omega)⟩
        obtain ⟨ap,p',rfl,hp',hT⟩:=d1.j5 hu
        rw [hp] at hp'
        have:=Option.some.inj hp'
        subst this
        exact ⟨ap,hu,hT⟩
      have hix:atI us m.1=some (.ref ap):=by
        obtain ⟨n,hn⟩:=Int.eq_ofNat_of_zero_le m0
        rw [hn] at hap ⊢
        exact bR hap
      have hvl:vs.length≤100 + i:=by
        rw [dv.length,List.length_map]
        unfold mX DG
        rw [List.length_append,List.length_map,List.length_map,List.length_take,List.length_zip];omega
      have sm:=sb.trans O.same
      refine ⟨am,_,rfl,hT.mo sm,rfl,_,_,rfl,_,_,rfl,_,_,rfl,rfl,?_⟩
      refine ⟨_,rfl,.inl ⟨rfl,_,O.sq 0⟩,_,rfl,_,rfl,_,rfl,c,_,_,_,rfl,rfl,sm.seq hC,hix,b,ap,rs,ls,p,l,rfl,sm.seq hB,d0.mo sm,hTp.mo sm,p0,hl,_,rfl,_,rfl,_,rfl,szl,fun t ht=>?_⟩
      walk_at "nw"
      refine ⟨lm,_,_,rfl,rfl,O.get 1,aP (by omega),?_⟩
      walk_at "pt"
      obtain ⟨Hc,O,sc,en⟩:=O.frz
      refine ⟨trivial,_,_,_,Hc,vs++[.ref t],rfl,sb.trans sc,?_,O⟩
      have e:(mX ls ps xs (ms.take (i + 1))).map dMv=(mX ls ps xs (ms.take i)).map dMv++[dMv (l.start,m.2.1,-m.2.2)]:=by
        simp only [mX,List.take_add_one,hm,Option.toList_some,List.map_append,List.map_cons,List.map_nil,List.append_assoc,nJ,Gv hp hl]
      rw [e]
      exact (dv.mo sc).append (.cons (Den.mv (m:=(l.start,m.2.1,-m.2.2)) (SqT.of en)) .nil)
    rintro σ H4 ⟨-,v11,v12,v13,Hb,vs,rfl,sb,dv,O⟩
    rw [htl,List.take_length] at dv
    exact ⟨_,rfl,q lm Hb _ vs sb O dv⟩
abbrev fL:Stmt:=top 42
theorem oU:aX ["roll","ponds","takes","lets","keepers","users"] ["roll","ponds","takes","lets"] (ao fL):=⟨rfl,rfl,rfl,by decide +kernel,rfl,by decide +kernel,by decide +kernel⟩
def uo (ls:List Lic) (ps:List (Int × Int × Int)) (t:Nat):List Nat:=(List.range t).filter fun j=>decide ((ls[j]?.map Lic.back).getD 0=-1) && !decide ((j:Int)∈ps.map (·.1))
def zQ (ms:List (Int × Int × Int)):List Int:=(ms.filter fun m:Int × Int × Int=>!decide (m.2.1=-1)).map fun m=>m.2.2
theorem xV {ms:List (Int × Int × Int)} {i:Nat} {m:Int × Int × Int} (h:ms[i]?=some m):zQ (ms.take (i + 1))=zQ (ms.take i)++if m.2.1=-1 then [] else [m.2.2]:=by
  unfold zQ
  rw [List.take_add_one,h,Option.toList_some,List.filter_append,Tn.m6,List.map_append]
  by_cases e:m.2.1=-1
  · simp [e]
  · simp [e]
theorem Ad (ms:List (Int × Int × Int)):(zQ ms).length≤ms.length:=by
  unfold zQ;rw [List.length_map];exact List.length_filter_le _ _
def ux (ls:List Lic) (ps:List (Int × Int × Int)) (xs:List Int) (ms:List (Int × Int × Int)):Int:=((uo ls ps ls.length).map fun j=>xs.getD j 0).sum + (zQ ms).sum
theorem Ac (ls:List Lic) (ps:List (Int × Int × Int)) (t:Nat):(uo ls ps t).length≤t:=by
  unfold uo
  have:=List.length_filter_le (fun j:Nat=>decide ((ls[j]?.map Lic.back).getD 0=-1) && !decide ((j:Int)∈ps.map (·.1))) (List.range t)
  rw [List.length_range] at this;exact this
theorem rY (ls:List Lic) (ps:List (Int × Int × Int)) (t:Nat):uo ls ps (t + 1)=uo ls ps t++if (decide ((ls[t]?.map Lic.back).getD 0=-1) && !decide ((t:Int)∈ps.map (·.1)))=true then [t] else []:=by
  unfold uo
  rw [List.range_succ,List.filter_append,Tn.m6]
theorem Pu {ls:List Lic} {ps:List (Int × Int × Int)} {t j:Nat} (h:j∈uo ls ps t):j<t:=List.mem_range.mp (List.mem_filter.mp h).1
def Av (K:PySem.W.Frag) (T:fZ):Sp:=fun vs H Q _=>∃ (b c d e:Addr) (xs:List Int) (rs us ts:List V) (ls:List Lic) (ps ms:List (Int × Int × Int)),vs=[.ref b,.ref c,.ref d,.ref e]∧SqL K H b rs∧cg K H rs (ls.map qT)∧ls.length≤100∧SqL K H c us∧cg K H us (ps.map dMv)∧ps.length≤1000∧SqL K H d (xs.map V.int)∧xs.length=ls.length∧SqL K H e ts∧cg K H ts (ms.map dMv)∧ms.length≤1000∧TabsOk T H ∧
  ∀ H',bI T H H'→Q (.int (ux ls ps xs ms)) H'
theorem NT {f f1:Addr} {fd fd1:FuncData} (D:Df K mg "used_of" fL ["roll","ponds","takes","lets"] f fd) (B:Blt mg) (C:Mth mg)
    (iz:Df K mg "gives_back" eO ["one"] f1 fd1) (vN:cA P w K mg base CX0 1 f1 fd1 ["one"] (Qf K)):cA P w K mg base CX0 2 f fd ["roll","ponds","takes","lets"] (Av K T):=by
  obtain ⟨tM,hMOUTH⟩:=C.MOUTH
  refine D.F.ok oU (fun vs H Q E h=>?_) (fun cdv A outer s H vs Q E hr h=>?_)
  · obtain ⟨_,_,_,_,_,_,_,_,_,_,_,rfl,_⟩:=h;rfl
  · obtain ⟨b,c,d,e,xs,rs,us,ts,ls,ps,ms,rfl,hB,d0,hl1,hC,d1,hp1,hD,hxl,hE,d2,hm1,tk,q⟩:=h
    have hrl:rs.length=ls.length:=by rw [d0.length,List.length_map]
    have hul:us.length=ps.length:=by rw [d1.length,List.length_map]
    have htl:ts.length=ms.length:=by rw [d2.length,List.length_map]
    refine ⟨_,(au (aR (i:=4) oU.nd rfl (Or.inr rfl) (gD (ao fL) rfl ["roll","ponds","takes","lets","keepers","users"] rfl ["number","room","leak"] [none,none,none] (by decide +kernel) (by decide +kernel) (by decide +kernel) rfl (bO (pv 1)) (fun _ _ _=>(ql (K:=K) (n:=3) rfl rfl (aN (aD (i:=0) (show (["number","room","leak"]:List Str).Nodup by decide +kernel) rfl (Or.inl rfl)) (aN (aD (i:=1) (show (["number","room","leak"]:List Str).Nodup by decide +kernel) rfl (Or.inl rfl)) (aN (aD (i:=2) (show (["number","room","leak"]:List Str).Nodup by decide +kernel) rfl (Or.inl rfl)) dB))))) (fun _ _ _=>gM) (fun _ _ _=>(pv 0))))
      (au (fP (i:=5) (ao fL) rfl ["roll","ponds","takes","lets","keepers","users"] rfl ["number","one","keepers"] [none,none,some 4] (by decide +kernel) (by decide +kernel) (by decide +kernel) rfl oU.nd rfl rfl (Bw rfl B.enumerate (ak (pv 0) aq)) (fun _ _ _=>(ql (K:=K) (n:=2) rfl rfl (aN (aD (i:=0) (show (["number","one","keepers"]:List Str).Nodup by decide +kernel) rfl (Or.inl rfl)) (aN (aD (i:=1) (show (["number","one","keepers"]:List Str).Nodup by decide +kernel) rfl (Or.inl rfl)) dB)))) (fun _ _ _=>(jU (PW.pt (pw_and (kI (kE (aM vN (hr.mono (by decide)) rfl iz.m iz.F.kp iz.b .nil bD (ak (pv 1) aq)))) (pw_and1 (aW (sZ (K:=K) rfl) (pv 0) (pv 2) (by rfl))))))) (fun _ _ _=>(pv 0)) rfl)
      (aB (bx (aQ cQ (aK (gJ rfl) rfl B.sum PyProof.Rows.boot_sum (ak (gD (ao fL) rfl ["roll","ponds","takes","lets","keepers","users"] rfl ["number","takes"] [none,some 2] (by decide +kernel) (by decide +kernel) (by decide +kernel) rfl (bO (pv 5)) (fun _ _ _=>(aD (i:=0) (show (["number","takes"]:List Str).Nodup by decide +kernel) rfl (Or.inl rfl))) (fun _ _ _=>gM) (fun _ _ _=>(aL (bM (K:=K) rfl) (pv 1) (pv 0) (fun _ _=>rfl)))) aq)) (aK (gJ rfl) rfl B.sum PyProof.Rows.boot_sum (ak (gD (ao fL) rfl ["roll","ponds","takes","lets","keepers","users"] rfl ["place","reach","amount"] [none,none,none] (by decide +kernel) (by decide +kernel) (by decide +kernel) rfl (bO (pv 3)) (fun _ _ _=>(ql (K:=K) (n:=3) rfl rfl (aN (aD (i:=0) (show (["place","reach","amount"]:List Str).Nodup by decide +kernel) rfl (Or.inl rfl)) (aN (aD (i:=1) (show (["place","reach","amount"]:List Str).Nodup by decide +kernel) rfl (Or.inl rfl)) (aN (aD (i:=2) (show (["place","reach","amount"]:List Str).Nodup by decide +kernel) rfl (Or.inl rfl)) dB))))) (fun _ _ _=>(jU (aW tu (pv 1) (lZ (v:=.int (-1)) rfl hMOUTH ⟨_,rfl⟩) (bw _)))) (fun _ _ _=>(pv 2))) aq))))))),?_⟩
    refine Yt ?_
    intro zu0 zu1
    have O:=Ow.refl tk
    refine ⟨_,rfl,c,rfl,⟨_,hC⟩,fun lk hlk=>?_⟩
    refine dO (K:=K) (xs:=us) (fun i τ H'=>Iv (∃ (v0 v1 v2:Option V),τ=[v0,v1,v2]∧Ow T H H' [(lk,.lst (((ps.take i).map (·.1)).map V.int))]))
      ⟨trivial,none,none,none,rfl,O.mk' hlk rfl⟩ (fun _ _ _ _ ⟨_,_,_,_,_,O⟩=>O.same.seq hC) ?_ ?_
    · rintro i y τ H3 hy ⟨-,v0,v1,v2,rfl,O⟩
      obtain ⟨ap,p,rfl,hp,hT⟩:=d1.j5 hy
      have hi:=(List.getElem?_eq_some_iff.mp hp).1
      refine ⟨ap,_,rfl,hT.mo O.same,rfl,_,_,rfl,_,_,rfl,_,_,rfl,rfl,?_⟩
      refine V0 ?_
      refine ⟨_,rfl,_,O.get 0,aP (by rw [List.length_map,List.length_map,List.length_take];omega),?_⟩
      walk_at "pt"
      refine ⟨trivial,_,_,_,rfl,?_⟩
      rw [List.take_add_one,hp,List.map_append,List.map_append];exact O
    rintro τ H3 ⟨-,v0,v1,v2,rfl,O⟩
    rw [hul,List.take_length] at O
    refine ⟨_,rfl,b,_,rfl,O.same.seq hB,fun lu hlu=>?_⟩
    refine Dd (K:=K) (xs:=rs) (fun i τ H'=>Iv (∃ (v0 v1:Option V),τ=[v0,v1,some (.ref lk)]∧Ow T H H' [(lu,.lst ((Tn.asI (uo ls ps i)).map V.int)),(lk,.lst ((ps.map (·.1)).map V.int))]))
      ⟨trivial,none,none,rfl,O.mk' hlu rfl⟩ (fun _ _ _ _ ⟨_,_,_,_,O⟩=>O.same.seq hB) ?_ ?_
    · rintro i y t' τ H4 hy ⟨-,v0,v1,rfl,O⟩ ht'
      obtain ⟨al,l,rfl,hl,hT⟩:=d0.wR hy
      have hi:=(List.getElem?_eq_some_iff.mp hl).1
      have hsu:=rY ls ps i
      have hln:=Ac ls ps i
      rw [hl] at hsu
      walk_at "nw"
      refine ⟨t',_,rfl,O.sqT 0,rfl,_,_,rfl,_,_,rfl,rfl,?_⟩
      have O:=O.tail
      refine ⟨_,rfl,al,l,rfl,hT.mo O.same,_,rfl,ifN (ifN (ifD (fun hc=>?_) fun hc=>?_))⟩
      · refine ⟨_,rfl,_,rfl,lk,_,rfl,.inl (O.sq 1),rfl,qI _,_,rfl,?_⟩
        rw [if_pos rfl,wW]
        refine ifN (ifD (fun hm=>?_) fun hm=>?_)
        · refine ⟨trivial,_,_,rfl,?_⟩
          rw [hsu,if_neg (by simp [hm]),List.append_nil];exact O
        · refine ⟨_,rfl,_,O.get 0,aP (by rw [List.length_map,Tn.jl];omega),?_⟩
          walk_at "pt"
          refine ⟨trivial,_,_,rfl,?_⟩
          rw [hsu,if_pos (by simp [hc,hm])]
          unfold Tn.asI at O ⊢
          rw [List.map_append,List.map_append];exact O
      · refine pH ⟨trivial,_,_,rfl,?_⟩
        rw [hsu,if_neg (by simp [hc]),List.append_nil];exact O
    rintro τ H4 ⟨-,v0,v1,rfl,O⟩
    rw [hrl] at O
    /- the takes of the users -/
    refine ⟨_,rfl,lu,rfl,⟨_,O.sq 0⟩,fun l1 hl1'=>?_⟩
    refine dO (K:=K) (xs:=(Tn.asI (uo ls ps ls.length)).map V.int) (fun i τ H'=>Iv (∃ (v0:Option V),τ=[v0,some (.ref d)]∧Ow T H H' [(l1,.lst ((((uo ls ps ls.length).take i).map fun j=>xs.getD j 0).map V.int)),(lu,.lst ((Tn.asI (uo ls ps ls.length)).map V.int)),(lk,.lst ((ps.map (·.1)).map V.int))]))
      ⟨trivial,none,rfl,O.mk' hl1' rfl⟩ (fun _ _ _ _ ⟨_,_,_,O⟩=>O.sq 1) ?_ ?_
    · rintro i y τ H5 hy ⟨-,v0,rfl,O⟩
      obtain ⟨z,hz,rfl⟩:=ints_get hy
      obtain ⟨j,hj,rfl⟩:=Tn.jx hz
      have hjl:=Pu (List.mem_of_getElem? hj)
      have hln:=Ac ls ps ls.length
      have hi:=(List.getElem?_eq_some_iff.mp hj).1
      refine za ?_
      refine ⟨_,rfl,_,rfl,d,_,(j:Int),_,rfl,rfl,O.same.seq hD,bh (aY (ns:=xs) (k:=j) (by omega)),?_⟩
      refine ⟨_,O.get 0,aP (by rw [List.length_map,List.length_map,List.length_take];omega),?_⟩
      walk_at "pt"
      refine ⟨trivial,_,rfl,?_⟩
      rw [Tn.gw hj,List.map_append];exact O
    rintro τ H5 ⟨-,v0,rfl,O⟩
    rw [List.length_map,Tn.jl,List.take_length] at O
    refine ⟨l1,_,rfl,O.sq 0,?_⟩
    /- the lets -/
    refine ⟨_,rfl,e,rfl,⟨_,O.same.seq hE⟩,fun l2 hl2=>?_⟩
    refine dO (K:=K) (xs:=ts) (fun i τ H'=>Iv (∃ (v0 v1 v2:Option V),τ=[v0,v1,v2]∧Ow T H H' [(l2,.lst ((zQ (ms.take i)).map V.int)),(l1,.lst (((uo ls ps ls.length).map fun j=>xs.getD j 0).map V.int))]))
      ⟨trivial,none,none,none,rfl,O.two.two.mk' hl2 rfl⟩ (fun _ _ _ _ ⟨_,_,_,_,_,O⟩=>O.same.seq hE) ?_ ?_
    · rintro i y τ H6 hy ⟨-,v0,v1,v2,rfl,O⟩
      obtain ⟨am,m,rfl,hm,hT⟩:=d2.j5 hy
      have hi:=(List.getElem?_eq_some_iff.mp hm).1
      have hfl:=Ad (ms.take i)
      rw [List.length_take] at hfl
      have hnx:=xV hm
      refine ⟨am,_,rfl,hT.mo O.same,rfl,_,_,rfl,_,_,rfl,_,_,rfl,rfl,?_⟩
      refine ⟨_,rfl,rfl,_,rfl,ifN (ifI (fun hc=>?_) fun hc=>?_)⟩
      · refine ⟨trivial,_,_,_,rfl,?_⟩
        rw [hnx,if_pos hc,List.append_nil];exact O
      · refine ⟨_,rfl,_,O.get 0,aP (by rw [List.length_map];omega),?_⟩
        walk_at "pt"
        refine ⟨trivial,_,_,_,rfl,?_⟩
        rw [hnx,if_neg hc,List.map_append];exact O
    rintro τ H6 ⟨-,v0,v1,v2,rfl,O⟩
    rw [htl,List.take_length] at O
    refine ⟨l2,_,rfl,O.sq 0,_,_,rfl,rfl,?_⟩
    exact q _ O.same
abbrev fj:Stmt:=top 9
theorem uR:aX ["below"] ["below"] (ao fj):=⟨rfl,rfl,rfl,by decide +kernel,rfl,by decide +kernel,by decide +kernel⟩
def uL (K:PySem.W.Frag) (T:fZ):Sp:=fun vs H Q _=>∃ (a:Addr) (r:List Int),vs=[.ref a]∧SqL K H a (r.map V.int)∧r.length<64∧TabsOk T H∧m9 T H (fun xs=>xs=(Rv.wN r r.length).map V.int) Q
theorem BP {f:Addr} {fd:FuncData} {T:fZ} (D:Df K mg "mouths_of" fj ["below"] f fd) (B:Blt mg) (C:Mth mg):cA P w K mg base CX0 1 f fd ["below"] (uL K T):=by
  obtain ⟨tM,hMOUTH⟩:=C.MOUTH
  refine D.F.ok uR (fun vs H Q E h=>?_) (fun cdv A outer s H vs Q E hr h=>?_)
  · obtain ⟨a,r,rfl,_⟩:=h;rfl
  · obtain ⟨a,r,rfl,hS,h64,tk,q⟩:=h
    refine ⟨_,(aB (bx (gD (ao fj) rfl ["below"] rfl ["reach","below"] [none,some 0] (by decide +kernel) (by decide +kernel) (by decide +kernel) rfl (bW rfl B.range (ak (aK aH rfl B.len PySem.boot_len (ak (pv 0) aq)) aq)) (fun _ _ _=>(aD (i:=0) (show (["reach","below"]:List Str).Nodup by decide +kernel) rfl (Or.inl rfl))) (fun _ _ _=>(jU (aW jB (aL (bM (K:=K) rfl) (pv 1) (pv 0) (fun _ _=>rfl)) (lZ (v:=.int (-1)) rfl hMOUTH ⟨_,rfl⟩) (bw _)))) (fun _ _ _=>(pv 0))))),?_⟩
    have O:=Ow.refl tk
    have hml:(r.map V.int).length=r.length:=List.length_map _
    refine ⟨_,rfl,a,_,rfl,.inl hS,_,rfl,by rw [hml];omega,by rw [hml];omega,fun acc hacc=>?_⟩
    rw [hml,Int.toNat_natCast]
    refine gA (n:=r.length) (fun i τ H2=>∃ v,τ=[v,some (.ref a)]∧Ow T H H2 [(acc,.lst ((Rv.wN r i).map V.int))]) ⟨none,rfl,O.mk' hacc rfl⟩ ?_ ?_
    · rintro i τ H2 hi ⟨v,rfl,O⟩
      rw [show (0:Int) + (i:Int)=(i:Int) by omega]
      have g:=Rv.j9 (r:=r) (p:=(i:Int)) (by omega) (by omega)
      have ol:=Rv.tG r i
      refine ⟨_,rfl,_,rfl,a,_,_,_,rfl,rfl,O.same.seq hS,lM (by omega) g,rfl,_,rfl,?_⟩
      by_cases hm:Rv.nxt r (i:Int)=-1
      · rw [hm]
        refine Oo ?_
        refine ⟨_,rfl,_,O.get 0,aP (by rw [List.length_map];omega),?_⟩
        walk_at "put";intro H4 O
        exact ⟨_,rfl,by rw [Rv.mD,if_pos hm,List.map_append];exact O⟩
      · have hd:decide (V.int (Rv.nxt r (i:Int))=V.int (-1))=false:=by simp [hm]
        rw [hd]
        refine pH ?_
        exact ⟨_,rfl,by rw [Rv.mD,if_neg hm,List.append_nil];exact O⟩
    rintro τ H2 ⟨v,rfl,O⟩
    exact O.ret 0 rfl q rfl
abbrev gU:Stmt:=top 13
theorem jc:aX ["below","springs","moves","flows","start","stop","amount","reach"] ["below","springs","moves"] (ao gU):=⟨rfl,rfl,rfl,by decide +kernel,rfl,by decide +kernel,by decide +kernel⟩
def yr (K:PySem.W.Frag) (T:fZ):Sp:=fun vs H Q _=>∃ (a b c:Addr) (r s:List Int) (ms:List Rv.Mv),vs=[.ref a,.ref b,.ref c]∧VD K H a r∧SqL K H b (s.map V.int)∧s.length=r.length∧Den K H (.ref c) (VH ms)∧(∀ m∈ms,Rv.vI r m)∧TabsOk T H ∧
  m9 T H (fun xs=>xs=(Rv.vY r s ms).map V.int) Q
theorem Ew {f fN fS:Addr} {fd fdN fdS:FuncData} {T:fZ} (D:Df K mg "flows_of" gU ["below","springs","moves"] f fd)
    (cO:Df K mg "natural_of" dI ["below","springs"] fN fdN) (mQ:cA P w K mg base CX0 6 fN fdN ["below","springs"] (Bb K T))
    (cM:Df K mg "stretch_of" dG ["below","start","stop"] fS fdS) (mL:cA P w K mg base CX0 2 fS fdS ["below","start","stop"] (sO K)):cA P w K mg base CX0 7 f fd ["below","springs","moves"] (yr K T):=by
  refine D.F.ok jc (fun vs H Q E h=>?_) (fun cdv A outer s H vs Q E hr h=>?_)
  · obtain ⟨a,b,c,r,s,ms,rfl,_⟩:=h;rfl
  · obtain ⟨a,b,c,r,sp,ms,rfl,⟨hS,hR,h64⟩,hB,hl,hM,good,tk,q⟩:=h
    refine ⟨_,(au (aR (i:=3) jc.nd rfl (Or.inl rfl) (aM mQ (hr.mono (by decide)) rfl cO.m cO.F.kp cO.b .nil bD (ak (pv 0) (ak (pv 1) aq))))
      (au (cP PassesOwn.never rfl (bO (pv 2)) (iY rfl (aN (aD (i:=4) jc.nd rfl (Or.inl rfl)) (aN (aD (i:=5) jc.nd rfl (Or.inl rfl)) (aN (aD (i:=6) jc.nd rfl (Or.inl rfl)) dB))))
        (aB (cP PassesOwn.never rfl (bO (aM mL (hr.mono (by decide)) rfl cM.m cM.F.kp cM.b .nil bD (ak (pv 0) (ak (pv 4) (ak (pv 5) aq))))) (aD (i:=7) jc.nd rfl (Or.inl rfl))
          (aB (nG (pv 3) (pv 7) lN (pv 6) Cw set_list)))))
      (aB (bx (pv 3))))),?_⟩
    refine Yu ?_
    intro zu0 zu1 zu2 zu3
    obtain ⟨c',xs,ec,hq,hds⟩:=hM.Oe
    cases ec
    have hxl:xs.length=ms.length:=by rw [hds.length,List.length_map]
    have O:=Ow.refl tk
    refine ⟨_,rfl,_,rfl,a,b,r,sp,rfl,⟨hS,hR,h64⟩,hB,hl,tk,O.oZ fun lf H1 fs O e1=>?_⟩
    subst e1
    refine ⟨_,rfl,c,rfl,⟨_,O.same.seq hq⟩,?_⟩
    refine cW (K:=K) (a:=c) (xs:=xs) (fun t σ H2=>∃ (v4 v5 v6 v7:Option V) (fl:List Int),σ=[some (.ref a),some (.ref b),some (.ref c),some (.ref lf),v4,v5,v6,v7]∧Ow T H H2 [(lf,.lst (fl.map V.int))]∧Rv.Fl r.length fl fun i=>Rv.kO r sp (i:Int) - Rv.lU r (ms.take t) (i:Int))
      ⟨none,none,none,none,_,rfl,O,(Rv.qw r sp).qU fun i _=>by show _=_ - (0:Int);omega⟩ (fun _ _ _ _ ⟨_,_,_,_,_,_,O,_⟩=>O.same.seq hq) ?_ ?_
    · rintro t y σ H2 hy ⟨v4,v5,v6,v7,fl,rfl,O,FL⟩
      obtain ⟨d,hd,hden⟩:=hds.get' hy
      rw [List.getElem?_map] at hd
      obtain ⟨m,hm,rfl⟩:∃ m,ms[t]?=some m∧d=dMv m:=by
        cases e:ms[t]? with
        | none=>rw [e] at hd;cases hd
        | some m=>rw [e] at hd;exact ⟨m,rfl,(Option.some.inj hd).symm⟩
      obtain ⟨ta,rfl,ht⟩:=hden.G9
      obtain ⟨g0,g1,g2⟩:=good m (List.mem_of_getElem? hm)
      refine ⟨ta,_,rfl,O.same.WD ht,rfl,_,_,rfl,_,_,rfl,_,_,rfl,rfl,?_⟩
      refine ⟨_,rfl,_,rfl,_,rfl,a,r,m.1,m.2.1,rfl,O.same.seq hS,hR,g0,g1,by omega,g2,O.got fun ls H3 zs O e3=>?_⟩
      subst e3
      refine ⟨ls,rfl,⟨_,O.sq 0⟩,?_⟩
      refine cW (K:=K) (a:=ls) (xs:=(Rv.bQ r m.1 m.2.1).map V.int) (fun i σ H4=>∃ (v7:Option V) (fl:List Int),σ=[some (.ref a),some (.ref b),some (.ref c),some (.ref lf),some (.int m.1),some (.int m.2.1),some (.int m.2.2),v7] ∧
        Ow T H H4 [(ls,.lst ((Rv.bQ r m.1 m.2.1).map V.int)),(lf,.lst (fl.map V.int))]∧Rv.MvI r (fun i=>Rv.kO r sp (i:Int) - Rv.lU r (ms.take t) (i:Int)) m.2.2 ((Rv.bQ r m.1 m.2.1).take i) fl)
        ⟨v7,fl,rfl,O,Rv.MvI.start _ FL⟩ (fun _ _ _ _ ⟨_,_,_,O,_⟩=>O.sq 0) ?_ ?_
      · rintro i y σ H4 hy ⟨v7,fl,rfl,O,MI⟩
        obtain ⟨z,hz,rfl⟩:=ints_get hy
        obtain ⟨z0,z1⟩:=Rv.mV hR m.1 g0 g1 z (Rv.nR (List.mem_of_getElem? hz))
        obtain ⟨zn,rfl⟩:=Int.eq_ofNat_of_zero_le z0
        have hzl:zn<r.length:=by omega
        obtain ⟨x,hx⟩:∃ x,fl[zn]?=some x:=⟨_,MI.at_ zn hzl⟩
        have nd:=Rv.pN hR g0 g1 (b:=m.2.1)
        have nm:¬ ((zn:Nat):Int)∈(Rv.bQ r m.1 m.2.1).take i:=fun hmm=>by
          obtain ⟨h1,h2⟩:=List.getElem?_eq_some_iff.mp hz
          obtain ⟨j,hj,ej⟩:=List.getElem_of_mem hmm
          rw [List.getElem_take] at ej
          rw [List.length_take] at hj
          have:=(List.getElem_inj nd).mp (ej.trans h2.symm)
          omega
        refine ⟨_,rfl,_,rfl,lf,_,zn,V.int x,rfl,rfl,O.sq 1,by rw [List.getElem?_map,hx];rfl,_,rfl,_,_,rfl,rfl,?_⟩
        refine nq O 1 rfl (jY (by rw [List.length_map,MI.len];exact hzl)) fun H5 O=>?_
        refine ⟨_,fl.set zn (x - m.2.2),rfl,?_,?_⟩
        · rw [List.map_set];exact O
        · rw [List.take_add_one,hz]
          exact MI.turn hzl nm hx
      · rintro σ H4 ⟨v7,fl,rfl,O,MI⟩
        rw [List.length_map,List.take_length] at MI
        refine ⟨_,_,_,_,fl,rfl,O.tail,?_⟩
        have e:ms.take (t + 1)=ms.take t++[m]:=by rw [List.take_add_one,hm];rfl
        rw [e]
        exact MI.done
    · rintro σ H2 ⟨v4,v5,v6,v7,fl,rfl,O,FL⟩
      rw [hxl,List.take_length] at FL
      exact ⟨_,rfl,O.ret 0 rfl q (by rw [Rv.Fl.ext FL (Rv.qH r sp ms)])⟩
abbrev jL:Stmt:=top 43
theorem iV:aX ["below","springs","roll","ponds","kept","calls","lets","left","dealt_by","takes","after","lost","flows","out","sheet"] ["below","springs","roll","ponds","kept","calls","lets"] (ao jL):=⟨rfl,rfl,rfl,by decide +kernel,rfl,by decide +kernel,by decide +kernel⟩
def yX (ps:List (Int × Int × Int)) (ks xs:List Int):List Int:=(List.range ps.length).map fun i=>pI ps ks xs i - kW ps ks xs i
def Hg (ps:List (Int × Int × Int)) (ks xs:List Int):List Int:=(List.range ps.length).map (kW ps ks xs)
def Pq (r fl:List Int):Int:=((Rv.wN r r.length).map fun i=>fl.getD i.toNat 0).sum
structure DIn (K:PySem.W.Frag) (H:Hp) (r s:List Int) (rs us ts:List V) (ls:List Lic) (ps ms:List (Int × Int × Int)) (ks cs:List Int) (a b c d e g h:Addr):Prop where
  A:SqL K H a (r.map V.int)
  S:SqL K H b (s.map V.int)
  R:SqL K H c rs
  dR:cg K H rs (ls.map qT)
  P:SqL K H d us
  dP:cg K H us (ps.map dMv)
  Kp:SqL K H e (ks.map V.int)
  C:SqL K H g (cs.map V.int)
  L:SqL K H h ts
  dL:cg K H ts (ms.map dMv)
structure DOk (r s:List Int) (ls:List Lic) (ps ms:List (Int × Int × Int)) (ks cs:List Int):Prop where
  riv:Rv.dU r
  r64:r.length<64
  sl:s.length=r.length
  sn:∀ x∈s,0≤x
  l64:ls.length<64
  lok:∀ l∈ls,vG r l
  kl:ks.length=ps.length
  p1:ps.length≤1000
  pok:∀ p∈ps,0≤p.1∧p.1<(ls.length:Int)∧0≤p.2.2∧p.2.2≤1000
  cl:ls.length=cs.length
  m1:ms.length≤1000
  good:∀ (i:Nat) (m:Int × Int × Int),ms[i]?=some m→xK r ls ps (bT ks (ms.take i)) m
  bn:∀ c∈lJ cs ps (bT ks ms) ps.length,0≤c
theorem DIn.mo {T:fZ} {K:PySem.W.Frag} {H H':Hp} {r s:List Int} {rs us ts:List V} {ls:List Lic} {ps ms:List (Int × Int × Int)} {ks cs:List Int} {a b c d e g h:Addr} (I:DIn K H r s rs us ts ls ps ms ks cs a b c d e g h) (m:bI T H H'):DIn K H' r s rs us ts ls ps ms ks cs a b c d e g h :=
  ⟨m.seq I.A,m.seq I.S,m.seq I.R,I.dR.mo m,m.seq I.P,I.dP.mo m,m.seq I.Kp,m.seq I.C,m.seq I.L,I.dL.mo m⟩
def Ei (r s:List Int) (ls:List Lic) (ps ms:List (Int × Int × Int)) (ks xs:List Int):List Int :=
  [s.sum,ks.sum,ux ls ps xs ms,(yX ps (bT ks ms) xs).sum,(Hg ps (bT ks ms) xs).sum,Pq r (Rv.vY r s (mX ls ps xs ms))]
theorem DOk.W4 {r s:List Int} {ls:List Lic} {ps ms:List (Int × Int × Int)} {ks cs:List Int} (h:DOk r s ls ps ms ks cs):∀ m∈ms,Vy ls ps m:=fun m hm=>by
  obtain ⟨i,hi⟩:=List.getElem?_of_mem hm
  have g:=h.good i m hi
  obtain ⟨p,l,hp,p0,hl,_⟩:=g.pd
  exact ⟨g.at0,p,l,hp,p0,hl⟩
theorem DOk.moves {r s:List Int} {ls:List Lic} {ps ms:List (Int × Int × Int)} {ks cs xs:List Int} (h:DOk r s ls ps ms ks cs):∀ m∈mX ls ps xs ms,Rv.vI r m:=fun m hm=>by
  rcases List.mem_append.mp hm with e | e
  · obtain ⟨p,hp,rfl⟩:=List.mem_map.mp e
    obtain ⟨h0,h1,h2⟩:=(h.lok p.1 (List.of_mem_zip hp).1).1
    exact ⟨h0,h1,h2⟩
  · obtain ⟨z,hz,rfl⟩:=List.mem_map.mp e
    obtain ⟨i,hi⟩:=List.getElem?_of_mem hz
    have g:=h.good i z hi
    obtain ⟨p,l,hp,p0,hl,l0,l1,hin⟩:=g.pd
    unfold nJ;rw [Gv hp hl]
    exact ⟨l0,l1,hin⟩
theorem Og {r:List Int} {z:Int} (h:z∈Rv.wN r r.length):0≤z∧z<(r.length:Int):=by
  unfold Rv.wN at h
  obtain ⟨j,hj,rfl⟩:=List.mem_map.mp h
  have:=List.mem_range.mp (List.mem_filter.mp hj).1
  omega
theorem Fg {α β:Type} {l:List α} {i:Nat} {x:α} (g:α→β) (h:l[i]?=some x):(l.take (i + 1)).map g=(l.take i).map g++[g x]:=by
  rw [List.take_add_one,h,List.map_append];rfl
def yt (K:PySem.W.Frag) (T:fZ):Sp:=fun vs H Q _=>∃ (a b c d e g h:Addr) (r s:List Int) (rs us ts:List V) (ls:List Lic) (ps ms:List (Int × Int × Int)) (ks cs:List Int),vs=[.ref a,.ref b,.ref c,.ref d,.ref e,.ref g,.ref h]∧DIn K H r s rs us ts ls ps ms ks cs a b c d e g h∧DOk r s ls ps ms ks cs∧TabsOk T H ∧
  ∀ (t lt la lf lh:Addr) (H':Hp) (xs:List Int),Ow T H H' [(t,.tup [.ref lt,.ref la,.ref lf,.ref lh]),(lh,.tup ((Ei r s ls ps ms ks xs).map V.int)),(lf,.lst ((Rv.vY r s (mX ls ps xs ms)).map V.int)),(la,.lst ((yX ps (bT ks ms) xs).map V.int)),(lt,.lst (xs.map V.int))]→Gu r s ls (lJ cs ps (bT ks ms) ps.length) xs→Q (.ref t) H'
theorem Ey {f f1 f2 f3 f4 f5 f6 f7:Addr} {fd fd1 fd2 fd3 fd4 fd5 fd6 fd7:FuncData} (D:Df K mg "day_of" jL ["below","springs","roll","ponds","kept","calls","lets"] f fd) (B:Blt mg)
    (iy:Df K mg "morning_of" eN ["below","roll","ponds","kept","calls","lets"] f1 fd1) (vM:cA P w K mg base CX0 5 f1 fd1 ["below","roll","ponds","kept","calls","lets"] (GJ K T))
    (rT:Df K mg "deal" ni ["below","springs","roll","calls"] f2 fd2) (Vz:cA P w K mg base CX0 7 f2 fd2 ["below","springs","roll","calls"] (Bd K T))
    (lC:Df K mg "evening" jw ["ponds","kept","takes"] f3 fd3) (Dy:cA P w K mg base CX0 1 f3 fd3 ["ponds","kept","takes"] (GX K T))
    (jT:Df K mg "flows_of" gU ["below","springs","moves"] f4 fd4) (zP:cA P w K mg base CX0 7 f4 fd4 ["below","springs","moves"] (yr K T))
    (jR:Df K mg "moves_of" gR ["roll","ponds","takes","lets"] f5 fd5) (zO:cA P w K mg base CX0 3 f5 fd5 ["roll","ponds","takes","lets"] (GF K T))
    (jf:Df K mg "mouths_of" fj ["below"] f6 fd6) (xM:cA P w K mg base CX0 1 f6 fd6 ["below"] (uL K T))
    (kZ:Df K mg "used_of" fL ["roll","ponds","takes","lets"] f7 fd7) (Du:cA P w K mg base CX0 2 f7 fd7 ["roll","ponds","takes","lets"] (Av K T)) :
    cA P w K mg base CX0 8 f fd ["below","springs","roll","ponds","kept","calls","lets"] (yt K T):=by
  refine D.F.ok iV (fun vs H Q E h=>?_) (fun cdv A outer s H vs Q E hr h=>?_)
  · obtain ⟨_,_,_,_,_,_,_,_,_,_,_,_,_,_,_,_,_,rfl,_⟩:=h;rfl
  · obtain ⟨a,b,c,d,e,g,h,r,sp,rs,us,ts,ls,ps,ms,ks,cs,rfl,I,ok,tk,q⟩:=h
    refine ⟨_,(au (gY (aM vM (hr.mono (by decide)) rfl iy.m iy.F.kp iy.b .nil bD (ak (pv 0) (ak (pv 2) (ak (pv 3) (ak (pv 4) (ak (pv 5) (ak (pv 6) aq))))))) (iY rfl (aN (aD (i:=7) iV.nd rfl (Or.inl rfl)) (aN (aD (i:=8) iV.nd rfl (Or.inl rfl)) dB))))
      (au (aR (i:=9) iV.nd rfl (Or.inl rfl) (aM Vz (hr.mono (by decide)) rfl rT.m rT.F.kp rT.b .nil bD (ak (pv 0) (ak (pv 1) (ak (pv 2) (ak (pv 8) aq))))))
      (au (gY (aM Dy (hr.mono (by decide)) rfl lC.m lC.F.kp lC.b .nil bD (ak (pv 3) (ak (pv 7) (ak (pv 9) aq)))) (iY rfl (aN (aD (i:=10) iV.nd rfl (Or.inl rfl)) (aN (aD (i:=11) iV.nd rfl (Or.inl rfl)) dB))))
      (au (aR (i:=12) iV.nd rfl (Or.inr rfl) (aM zP (hr.mono (by decide)) rfl jT.m jT.F.kp jT.b .nil bD (ak (pv 0) (ak (pv 1) (ak (aM zO (hr.mono (by decide)) rfl jR.m jR.F.kp jR.b .nil bD (ak (pv 2) (ak (pv 3) (ak (pv 9) (ak (pv 6) aq))))) aq)))))
      (au (aR (i:=13) iV.nd rfl (Or.inl rfl) (aK (gJ rfl) rfl B.sum PyProof.Rows.boot_sum (ak (gD (ao jL) rfl ["below","springs","roll","ponds","kept","calls","lets","left","dealt_by","takes","after","lost","flows","out","sheet"] rfl ["reach","flows"] [none,some 12] (by decide +kernel) (by decide +kernel) (by decide +kernel) rfl (bO (aM xM (hr.mono (by decide)) rfl jf.m jf.F.kp jf.b .nil bD (ak (pv 0) aq))) (fun _ _ _=>(aD (i:=0) (show (["reach","flows"]:List Str).Nodup by decide +kernel) rfl (Or.inl rfl))) (fun _ _ _=>gM) (fun _ _ _=>(aL (bM (K:=K) rfl) (pv 1) (pv 0) (fun _ _=>rfl)))) aq)))
      (au (aR (i:=14) iV.nd rfl (Or.inl rfl) (jV (ak (aK (gJ rfl) rfl B.sum PyProof.Rows.boot_sum (ak (pv 1) aq)) (ak (aK (gJ rfl) rfl B.sum PyProof.Rows.boot_sum (ak (pv 4) aq)) (ak (aM Du (hr.mono (by decide)) rfl kZ.m kZ.F.kp kZ.b .nil bD (ak (pv 2) (ak (pv 3) (ak (pv 9) (ak (pv 6) aq))))) (ak (aK (gJ rfl) rfl B.sum PyProof.Rows.boot_sum (ak (pv 10) aq)) (ak (aK (gJ rfl) rfl B.sum PyProof.Rows.boot_sum (ak (pv 11) aq)) (ak (pv 13) aq))))))))
      (aB (bx (jV (ak (pv 9) (ak (pv 10) (ak (pv 12) (ak (pv 14) aq))))))))))))),?_⟩
    refine Wr ?_
    intro zu0 zu1 zu2 zu3 zu4 zu5
    have O:=Ow.refl tk
    have hll:=jX ms ks
    have hsl:=mF cs ps (bT ks ms) ps.length
    have hkl:=ok.kl
    have hcl:=ok.cl
    have h64:=ok.l64
    have r64:=ok.r64
    have hm1:=ok.m1
    have hp1:=ok.p1
    refine ⟨_,rfl,_,rfl,_,rfl,_,rfl,_,rfl,_,rfl,a,c,d,e,g,h,r,ks,cs,rs,us,ts,ls,ps,ms,rfl,I.A,ok.riv,by omega,I.R,I.dR,I.P,I.dP,I.Kp,hkl,I.C,fun p hp=>⟨(ok.pok p hp).1,by have:=(ok.pok p hp).2.1;omega⟩,I.L,I.dL,ok.good,tk,fun t1 la lb H1 OM=>?_⟩
    have O:=O.join OM
    walk_at "jn"
    refine ⟨t1,_,rfl,O.sqT 0,rfl,_,_,rfl,_,_,rfl,rfl,?_⟩
    have O:=O.tail
    refine ⟨_,rfl,_,rfl,_,rfl,_,rfl,a,b,lb,.ref c,r,sp,ls,lJ cs ps (bT ks ms) ps.length,rfl,⟨O.same.seq I.A,ok.riv,r64⟩,O.same.seq I.S,ok.sl,ok.sn,.list (O.same.seq I.R) (I.dR.mo O.same),h64,O.sq 0,by omega,ok.lok,ok.bn,O.same.t1,O.oZ fun lt H2 ys O e2=>?_⟩
    obtain ⟨xs,rfl,DX⟩:=e2
    have hxl:=DX.len
    refine ⟨_,rfl,_,rfl,_,rfl,d,la,lt,us,ps,bT ks ms,xs,rfl,O.same.seq I.P,I.dP.mo O.same,ok.p1,O.sq 2,by omega,O.sq 0,fun p hp=>?_,O.same.t1,fun t2 lf2 ll H3 OE=>?_⟩
    · have:=ok.pok p hp
      exact ⟨this.1,by omega,this.2.2⟩
    have O:=O.join OE
    walk_at "jn"
    refine ⟨t2,_,rfl,O.sqT 0,rfl,_,_,rfl,_,_,rfl,rfl,?_⟩
    have O:=((O.tail).del 3).del 3
    walk_at "er"
    have O:Ow T H H3 [(ll,.lst ((Hg ps (bT ks ms) xs).map V.int)),(lf2,.lst ((yX ps (bT ks ms) xs).map V.int)),(lt,.lst (xs.map V.int))]:=O
    have I3:=I.mo O.same
    refine ⟨_,rfl,_,rfl,_,rfl,_,rfl,_,rfl,_,rfl,c,d,lt,h,xs,rs,us,ts,ls,ps,ms,rfl,I3.R,I3.dR,by omega,I3.P,I3.dP,O.sq 2,hxl,I3.L,I3.dL,hm1,ok.W4,O.same.t1,fun lm Hm H4 vs sm OM dm=>?_⟩
    have O:=O.lQ (sm.trans OM.same)
    refine ⟨a,b,lm,r,sp,mX ls ps xs ms,rfl,⟨O.same.seq I.A,ok.riv,r64⟩,O.same.seq I.S,ok.sl,.list (OM.sq 0) (dm.mo OM.same),ok.moves,O.same.t1,O.oZ fun lf H5 ys O e5=>?_⟩
    subst e5
    have hfl:(Rv.vY r sp (mX ls ps xs ms)).length=r.length:=(Rv.qH r sp (mX ls ps xs ms)).len
    refine ⟨_,rfl,a,r,rfl,O.same.seq I.A,r64,O.same.t1,O.oZ fun lq H6 ys O e6=>?_⟩
    subst e6
    refine ⟨lq,rfl,⟨_,O.sq 0⟩,fun lo hlo=>?_⟩
    refine dO (K:=K) (xs:=(Rv.wN r r.length).map V.int) (fun i τ H'=>Iv (∃ (v0:Option V),τ=[v0,some (.ref lf)]∧Ow T H H' [(lo,.lst ((((Rv.wN r r.length).take i).map fun i=>(Rv.vY r sp (mX ls ps xs ms)).getD i.toNat 0).map V.int)),(lq,.lst ((Rv.wN r r.length).map V.int)),(lf,.lst ((Rv.vY r sp (mX ls ps xs ms)).map V.int)),(ll,.lst ((Hg ps (bT ks ms) xs).map V.int)),(lf2,.lst ((yX ps (bT ks ms) xs).map V.int)),(lt,.lst (xs.map V.int))]))
      ⟨trivial,none,rfl,O.mk' hlo rfl⟩ (fun _ _ _ _ ⟨_,_,_,O⟩=>O.sq 1) ?_ ?_
    · rintro i y τ H7 hy ⟨-,v0,rfl,O⟩
      obtain ⟨z,hz,rfl⟩:=ints_get hy
      have hzr:=Og (List.mem_of_getElem? hz)
      have hi:=(List.getElem?_eq_some_iff.mp hz).1
      have hml:=Rv.tG r r.length
      refine za ?_
      refine ⟨_,rfl,_,rfl,lf,_,_,_,rfl,rfl,O.sq 2,aV hzr.1 (by omega),?_⟩
      refine ⟨_,O.get 0,aP (by rw [List.length_map,List.length_map,List.length_take];omega),?_⟩
      walk_at "pt"
      refine ⟨trivial,_,rfl,?_⟩
      rw [Fg _ hz,List.map_append];exact O
    rintro τ H7 ⟨-,v0,rfl,O⟩
    rw [List.length_map,List.take_length] at O
    refine ⟨lo,_,rfl,O.sq 0,?_⟩
    have O:=O.tail.tail
    /- the sheet -/
    have I7:=I.mo O.same
    refine ⟨_,rfl,b,_,rfl,I7.S,_,rfl,e,_,rfl,I7.Kp,?_⟩
    refine ⟨_,rfl,_,rfl,_,rfl,_,rfl,c,d,lt,h,xs,rs,us,ts,ls,ps,ms,rfl,I7.R,I7.dR,by omega,I7.P,I7.dP,hp1,O.sq 3,hxl,I7.L,I7.dL,hm1,O.same.t1,fun H8 sm=>?_⟩
    have O:=O.lQ sm
    refine ⟨_,rfl,lf2,_,rfl,O.sq 2,_,rfl,ll,_,rfl,O.sq 1,_,rfl,szl,fun lh hlh=>?_⟩
    walk_at "nw"
    refine ⟨_,rfl,_,rfl,_,rfl,_,rfl,szl,fun t ht=>?_⟩
    walk_at "nw"
    have O:=O.del 3
    walk_at "er"
    exact q t lt lf2 lf lh _ xs O DX
theorem qG {s:List Int} (h:∀ x∈s,0≤x) (k:Nat):0≤s.getD k 0:=by
  by_cases hk:k<s.length
  · exact h _ (getD_mem' hk)
  · rw [List.getD_eq_getElem?_getD,List.getElem?_eq_none (by omega)];exact Int.le_refl _
theorem Bk {s:List Int} {k:Nat} {z:Int} (h:∀ x∈s,0≤x) (hz:0≤z):∀ x∈s.set k z,0≤x:=fun x hx=>by
  rcases List.mem_or_eq_of_mem_set hx with e | e
  · exact h x e
  · rw [e];exact hz
theorem Fo {ks:List Int} {m:Int × Int × Int} (h:0≤m.2.2) (i:Nat):(pG ks m).getD i 0≤ks.getD i 0:=by
  unfold pG
  rw [List.getD_eq_getElem?_getD,List.getElem?_set]
  by_cases e:m.1.toNat=i
  · rw [if_pos e]
    by_cases hl:m.1.toNat<ks.length
    · rw [if_pos hl,e];show ks.getD i 0 - m.2.2≤ks.getD i 0;omega
    · rw [if_neg hl,List.getD_eq_getElem?_getD,List.getElem?_eq_none (by omega)];exact Int.le_refl _
  · rw [if_neg e,← List.getD_eq_getElem?_getD];exact Int.le_refl _
theorem yL:∀ (ms:List (Int × Int × Int)) (ks:List Int),(∀ m∈ms,0≤m.2.2)→∀ i,(bT ks ms).getD i 0≤ks.getD i 0
  | [],ks,_,i=>Int.le_refl _
  | m :: ms,ks,h,i=>Int.le_trans (yL ms (pG ks m) (fun x hx=>h x (List.mem_cons_of_mem _ hx)) i) (Fo (h m List.mem_cons_self) i)
theorem yJ {cs ks:List Int} {ps:List (Int × Int × Int)} (hc:∀ x∈cs,0≤x) (hk:∀ j,j<ps.length→ks.getD j 0≤(ps.getD j (0,0,0)).2.1):∀ i,i≤ps.length→∀ x∈lJ cs ps ks i,0≤x
  | 0,_=>hc
  | i + 1,hi=>by
    have ih:=yJ hc hk i (by omega)
    rw [lJ]
    refine Bk ih ?_
    have h1:=qG hc (ps.getD i (0,0,0)).1.toNat
    have h2:=hk i (by omega)
    omega
theorem yK {cs ks:List Int} {ps:List (Int × Int × Int)} {n:Nat}:∀ i,(∀ j,j<i→(ps.getD j (0,0,0)).1.toNat≠n)→(lJ cs ps ks i).getD n 0=cs.getD n 0
  | 0,_=>rfl
  | i + 1,h=>by
    rw [lJ,List.getD_eq_getElem?_getD,List.getElem?_set_ne (h i (by omega)),← List.getD_eq_getElem?_getD]
    exact yK i fun j hj=>h j (by omega)
theorem Q5 {ps:List (Int × Int × Int)} (nd:(ps.map (·.1)).Nodup) (h0:∀ p∈ps,0≤p.1) {i j:Nat} (hj:j<i) (hi:i<ps.length):(ps.getD j (0,0,0)).1.toNat≠(ps.getD i (0,0,0)).1.toNat:=fun e=>by
  have ei:ps[i]?=some ps[i]:=List.getElem?_eq_getElem hi
  have ej:ps[j]?=some ps[j]:=List.getElem?_eq_getElem (by omega)
  rw [getD_some ei,getD_some ej] at e
  have a:=h0 _ (List.getElem_mem hi)
  have b:=h0 _ (List.getElem_mem (show j<ps.length by omega))
  have e2:ps[j].1=ps[i].1:=by omega
  have:=(List.getElem_inj (h₀:=by rw [List.length_map];omega) (h₁:=by rw [List.length_map];exact hi) nd (i:=j) (j:=i)).mp (by rw [List.getElem_map,List.getElem_map];exact e2)
  omega
theorem CN (ls:List Lic):PyData.eqv (.list (ls.map qT)) (.list [])=decide (ls.length=0):=by
  cases ls with
  | nil=>rfl
  | cons p ps=>rfl
theorem Qo {w:Int} (h0:0≤w) (h1:w<4):∃ s:Int,atI [V.int 1,V.int 41,V.int 43,V.int 47] w=some (V.int s)∧(s=1∨s=41∨s=43∨s=47):=by
  rcases (by omega:w=0∨w=1∨w=2∨w=3) with rfl | rfl | rfl | rfl
  · exact ⟨1,rfl,.inl rfl⟩
  · exact ⟨41,rfl,.inr (.inl rfl)⟩
  · exact ⟨43,rfl,.inr (.inr (.inl rfl))⟩
  · exact ⟨47,rfl,.inr (.inr (.inr rfl))⟩
def VJ (up:List Int):Prop:=∀ (j:Nat) (u:Int),up[j]?=some u→u=-1∨(0≤u∧u<(j:Int))
theorem Np {up:List Int} {i:Nat} {z:Int} (hl:up.length=i) (h:VJ up) (hz:z=-1∨(0≤z∧z<(i:Int))):VJ (up++[z]):=fun j u hu=>by
  by_cases hj:j<up.length
  · rw [List.getElem?_append_left hj] at hu;exact h j u hu
  · rw [List.getElem?_append_right (by omega)] at hu
    have e:j=i:=by
      have:=(List.getElem?_eq_some_iff.mp hu).1
      simp at this;omega
    subst e
    rw [hl,Nat.sub_self] at hu
    have:z=u:=Option.some.inj hu
    rw [← this];exact hz
abbrev dM:Stmt:=top 47
theorem cD:aX ["cell","xs","size","up","k","step","places","below"] ["cell"] (ao dM):=⟨rfl,rfl,rfl,by decide +kernel,rfl,by decide +kernel,by decide +kernel⟩
def yp (T:fZ):Sp:=fun vs H Q _=>∃ (c:Int),vs=[.int c]∧TabsOk T H∧m9 T H (fun xs=>∃ r,xs=r.map V.int∧Rv.dU r∧1≤r.length∧r.length≤40) Q
theorem Eu {f f1:Addr} {fd fd1:FuncData} (D:Df K mg "_law_river" dM ["cell"] f fd) (B:Blt mg)
    (aJ:Df K mg "_law_draws" cJ ["cell","many"] f1 fd1) (cj:cA P w K mg base CX0 1 f1 fd1 ["cell","many"] (uN T)):cA P w K mg base CX0 2 f fd ["cell"] (yp T):=by
  refine D.F.ok cD (fun vs H Q E h=>?_) (fun cdv A outer s H vs Q E hr h=>?_)
  · obtain ⟨_,rfl,_⟩:=h;rfl
  · obtain ⟨c,rfl,tk,q⟩:=h
    change ∃ t,PSs _ (_ :: _) t∧_
    refine ⟨_,(au (aR (i:=1) cD.nd rfl (Or.inr rfl) (aM cj (hr.mono (by decide)) rfl aJ.m aJ.F.kp aJ.b .nil bD (ak (aQ d8 (pv 0) aA) (ak aA aq))))
      (au (aR (i:=2) cD.nd rfl (Or.inr rfl) (aQ cQ aA (aQ bU (aL aG (pv 1) aA (fun _ _=>rfl)) aA)))
      (ou (iK (aW jB (aQ bU (pv 0) aA) aA (bw _))
        (aB (aR (i:=2) cD.nd rfl (Or.inr rfl) (aQ cQ aA (aQ bU (aL aG (pv 1) aA (fun _ _=>rfl)) aA))))
        cu)
      (au (aR (i:=3) cD.nd rfl (Or.inl rfl) (cZ aq))
      (au (cP PassesOwn.never rfl (bW rfl B.range (ak (pv 2) aq)) (aD (i:=4) cD.nd rfl (Or.inl rfl))
        (aB (iK (PW.pt (pw_or (aW jB (pv 4) aA (bw _)) (pw_or1 (aW jB (aQ bU (aL aG (pv 1) (aQ cQ aA (pv 4)) (fun _ _=>rfl)) aA) aA (bw _)))))
          (aB (dZ (mq PySem.F.plainAttrs_list PySem.F.slot_list_append PySem.F.type_list_append cL (pv 3) (ak (lY jo aA) aq))))
          (aB (iK (aW zB (aQ bU (aL aG (pv 1) (aQ cQ aA (pv 4)) (fun _ _=>rfl)) aA) aA (bw _))
            (aB (dZ (mq PySem.F.plainAttrs_list PySem.F.slot_list_append PySem.F.type_list_append cL (pv 3) (ak (aQ nu (pv 4) aA) aq))))
            (aB (dZ (mq PySem.F.plainAttrs_list PySem.F.slot_list_append PySem.F.type_list_append cL (pv 3) (ak (aQ bU (aQ d8 (aL aG (pv 1) (aQ cQ aA (pv 4)) (fun _ _=>rfl)) aA) (pv 4)) aq)))))))))
      (au (aR (i:=5) cD.nd rfl (Or.inr rfl) (aL aG (cZ (ak aA (ak aA (ak aA (ak aA aq))))) (aQ bU (aL aG (pv 1) aA (fun _ _=>rfl)) aA) (fun _ _=>rfl)))
      (au (fP (i:=6) (ao dM) rfl ["cell","xs","size","up","k","step","places","below"] rfl ["k","size","step","xs"] [none,some 2,some 5,some 1] (by decide +kernel) (by decide +kernel) (by decide +kernel) rfl cD.nd rfl rfl (bW rfl B.range (ak (pv 2) aq)) (fun _ _ _=>(aD (i:=0) (show (["k","size","step","xs"]:List Str).Nodup by decide +kernel) rfl (Or.inl rfl))) (fun _ _ _=>gM) (fun _ _ _=>(aQ bU (aQ cQ (aQ jW (pv 2) (pv 0)) (aQ d8 (aL (bM (K:=K) rfl) (pv 3) aA (fun _ _=>rfl)) aA)) (pv 1))) rfl)
      (au (aR (i:=7) cD.nd rfl (Or.inl rfl) (aQ qt (cZ (ak (lY jo aA) aq)) (pv 2)))
      (au (cP PassesOwn.never rfl (bW rfl B.range (ak (pv 2) aq)) (aD (i:=4) cD.nd rfl (Or.inl rfl))
        (aB (iK (aW Qv (aL aG (pv 3) (pv 4) (fun _ _=>rfl)) aA (bw _))
          (aB (gY (aL aG (pv 6) (aL aG (pv 3) (pv 4) (fun _ _=>rfl)) (fun _ _=>rfl)) (nj (pv 7) (aL aG (pv 6) (pv 4) (fun _ _=>rfl)) set_list)))
          cu)))
      (aB (bx (pv 7)))))))))))),?_⟩
    refine Wq ?_
    intro zu0 zu1 zu2 zu3 zu4 zu5 zu6 zu7 zu8 zu9 zu10 zu11 zu12 zu13 zu14 zu15 zu16
    have O:=Ow.refl tk
    have s0:=O.same
    refine ⟨_,rfl,_,_,rfl,rfl,⟨by decide,by decide⟩,_,42,rfl,by decide,by decide,tk,O.oZ fun lx H1 xs O e=>?_⟩
    obtain ⟨ys,rfl,hyl,hyb⟩:=e
    have hyl:ys.length=42:=hyl
    have yn:∀ k,0≤ys.getD k 0:=fun k=>by
      by_cases hk:k<ys.length
      · exact (hyb _ (getD_mem' hk)).1
      · rw [List.getD_eq_getElem?_getD,List.getElem?_eq_none (by omega)];exact Int.le_refl _
    clear hyb
    refine ⟨_,rfl,lx,_,0,_,rfl,rfl,O.sq 0,aV (by omega) (by omega),_,_,rfl,rfl,(by show (0:Int)<12;decide),_,_,rfl,rfl,?_⟩
    refine ⟨fun σ H'=>Iv (∃ n:Nat,σ=[some (.int c),some (.ref lx),some (.int (n:Int)),none,none,none,none,none]∧1≤n∧n≤40∧H'=H1),?_,?_⟩
    · refine ⟨_,rfl,_,_,rfl,rfl,(by show (0:Int)<8;decide),rfl,_,rfl,ifI (fun hc=>?_) fun hc=>?_⟩
      · refine ⟨_,rfl,lx,_,0,_,rfl,rfl,O.sq 0,aV (by omega) (by omega),_,_,rfl,rfl,(by show (0:Int)<40;decide),_,_,rfl,rfl,?_⟩
        have e:((1 + ys.getD (0:Int).toNat 0 % 40).toNat:Int)=1 + ys.getD (0:Int).toNat 0 % 40:=Int.toNat_of_nonneg (by omega)
        exact ⟨trivial,(1 + ys.getD (0:Int).toNat 0 % 40).toNat,by rw [e];rfl,by omega,by omega,rfl⟩
      · have e:((1 + ys.getD (0:Int).toNat 0 % 12).toNat:Int)=1 + ys.getD (0:Int).toNat 0 % 12:=Int.toNat_of_nonneg (by omega)
        exact ⟨trivial,(1 + ys.getD (0:Int).toNat 0 % 12).toNat,by rw [e];rfl,by omega,by omega,rfl⟩
    rintro σ H2 ⟨-,n,rfl,n1,n40,rfl⟩
    refine ⟨szl,fun lu hlu=>?_⟩
    walk_at "nw"
    refine ⟨_,rfl,(n:Int),rfl,by omega,by omega,?_⟩
    rw [Int.toNat_natCast]
    refine gG (n:=n) (fun i σ H'=>Iv (∃ (v4:Option V) (up:List Int),σ=[some (.int c),some (.ref lx),some (.int (n:Int)),some (.ref lu),v4,none,none,none]∧up.length=i∧VJ up∧Ow T H H' [(lu,.lst (up.map V.int)),(lx,.lst (ys.map V.int))]))
      ⟨trivial,none,[],rfl,rfl,(fun j u h=>by simp at h),O⟩ ?_ ?_
    · rintro i σ H3 hi ⟨-,v4,up,rfl,hul,hup,O⟩
      rw [show (0:Int) + (i:Int)=(i:Int) by omega]
      have yi:=yn (2 + (i:Int)).toNat
      have mm:(i:Int)≠0→0≤ys.getD (2 + (i:Int)).toNat 0 / 8 % (i:Int)∧ys.getD (2 + (i:Int)).toNat 0 / 8 % (i:Int)<(i:Int):=fun h=>⟨Int.emod_nonneg _ h,Int.emod_lt_of_pos _ (by omega)⟩
      have fin:∀ (z:Int) (H':Hp),(z=-1∨(0≤z∧z<(i:Int)))→Ow T H H' [(lu,.lst (up.map V.int++[.int z])),(lx,.lst (ys.map V.int))]→Iv (∃ (v4:Option V) (up:List Int),[some (.int c),some (.ref lx),some (.int (n:Int)),some (.ref lu),some (.int (i:Int)),none,none,none]=[some (.int c),some (.ref lx),some (.int (n:Int)),some (.ref lu),v4,none,none,none]∧up.length=i + 1∧VJ up∧Ow T H H' [(lu,.lst (up.map V.int)),(lx,.lst (ys.map V.int))]):=fun z H' hz O=>by
        rw [mZ] at O
        exact ⟨trivial,_,up++[z],rfl,by rw [List.length_append,hul];rfl,Np hul hup hz,O⟩
      refine ⟨_,rfl,rfl,_,rfl,ifI (fun h0=>Oo ?_) fun h0=>?_⟩
      · refine ⟨_,rfl,.inl ⟨rfl,_,O.sq 0⟩,_,rfl,lu,_,_,rfl,rfl,O.get 0,aP (by rw [List.length_map];omega),?_⟩
        walk_at "pt"
        exact fin (-1) _ (.inl rfl) O
      obtain ⟨m0,m1⟩:=mm h0
      refine ⟨_,rfl,_,rfl,_,_,rfl,rfl,lx,_,_,_,rfl,rfl,O.sq 1,aV (by omega) (by omega),_,_,rfl,rfl,(by show (0:Int)<8;decide),rfl,_,rfl,ifI (fun h1=>?_) fun h1=>?_⟩
      · refine ⟨_,rfl,.inl ⟨rfl,_,O.sq 0⟩,_,rfl,lu,_,_,rfl,rfl,O.get 0,aP (by rw [List.length_map];omega),?_⟩
        walk_at "pt"
        exact fin (-1) _ (.inl rfl) O
      refine ⟨_,rfl,_,rfl,_,_,rfl,rfl,lx,_,_,_,rfl,rfl,O.sq 1,aV (by omega) (by omega),_,_,rfl,rfl,(by show (0:Int)<8;decide),_,_,rfl,rfl,_,rfl,ifD (fun h2=>?_) fun h2=>?_⟩
      · refine ⟨_,rfl,.inl ⟨rfl,_,O.sq 0⟩,_,rfl,_,_,rfl,rfl,lu,_,_,rfl,rfl,O.get 0,aP (by rw [List.length_map];omega),?_⟩
        walk_at "pt"
        exact fin ((i:Int) - 1) _ (.inr ⟨by omega,by omega⟩) O
      · refine ⟨_,rfl,.inl ⟨rfl,_,O.sq 0⟩,_,rfl,_,rfl,_,_,rfl,rfl,lx,_,_,_,rfl,rfl,O.sq 1,aV (by omega) (by omega),_,_,rfl,rfl,⟨by decide,by decide⟩,_,rfl,_,_,rfl,rfl,(by show (0:Int)<(i:Int);omega),lu,_,_,rfl,rfl,O.get 0,aP (by rw [List.length_map];omega),?_⟩
        walk_at "pt"
        exact fin _ _ (.inr ⟨m0,m1⟩) O
    rintro σ H3 ⟨-,v4,up,rfl,hul,hup,O⟩
    obtain ⟨st,hv,hst⟩:=Qo (w:=ys.getD (1:Int).toNat 0 % 4) (Int.emod_nonneg _ (by decide)) (Int.emod_lt_of_pos _ (by decide))
    refine ⟨szl,fun l1 h1=>?_⟩
    walk_at "nw"
    refine ⟨_,rfl,lx,_,1,_,rfl,rfl,O.sq 2,aV (by omega) (by omega),_,_,rfl,rfl,(by show (0:Int)<4;decide),l1,_,_,_,rfl,rfl,O.sq 0,hv,?_⟩
    have O:=O.tail
    have nn:(0:Int)<(n:Int):=by omega
    refine ⟨_,rfl,(n:Int),rfl,by omega,by omega,fun lp hlp=>?_⟩
    refine gA (fun i τ H'=>Iv (∃ (v0:Option V),τ=[v0,some (.int (n:Int)),some (.int st),some (.ref lx)]∧Ow T H H' [(lp,.lst ((Rv.nT n st (ys.getD (1:Int).toNat 0 / 4) i).map V.int)),(lu,.lst (up.map V.int)),(lx,.lst (ys.map V.int))])) ⟨trivial,none,rfl,O.mk' hlp rfl⟩ ?_ ?_
    · rintro i τ H4 hi ⟨-,v0,rfl,O⟩
      rw [show (0:Int) + (i:Int)=(i:Int) by omega]
      refine za ?_
      refine ⟨_,rfl,_,rfl,_,_,rfl,rfl,.inl ⟨by omega,by omega⟩,_,rfl,lx,_,1,_,rfl,rfl,O.sq 2,aV (by omega) (by omega),_,_,rfl,rfl,⟨by decide,by decide⟩,_,_,rfl,rfl,_,rfl,_,_,rfl,rfl,nn,?_⟩
      refine ⟨_,O.get 0,aP (by rw [List.length_map,Rv.zx];omega),?_⟩
      walk_at "pt"
      refine ⟨trivial,_,rfl,?_⟩
      rw [Rv.wA,List.map_append];exact O
    rintro τ H4 ⟨-,v0,rfl,O⟩
    rw [Int.toNat_natCast] at O
    generalize ys.getD (1:Int).toNat 0 / 4=x1 at O
    refine ⟨_,rfl,szl,fun l2 h2=>?_⟩
    walk_at "nw"
    refine ⟨_,rfl,l2,_,_,rfl,rfl,O.get 0,by omega,by omega,jF (by rw [Int.toNat_natCast];simp;omega),fun lb hlb=>?_⟩
    walk_at "nw"
    rw [Int.toNat_natCast,kj] at O
    have O:=O.two
    refine ⟨_,rfl,(n:Int),rfl,by omega,by omega,?_⟩
    rw [Int.toNat_natCast]
    refine gG (n:=n) (fun i σ H'=>Iv (∃ (v4:Option V) (b:List Int),σ=[some (.int c),some (.ref lx),some (.int (n:Int)),some (.ref lu),v4,some (.int st),some (.ref lp),some (.ref lb)]∧Rv.Lnk n (Rv.p8 n st x1) i b ∧
      Ow T H H' [(lb,.lst (b.map V.int)),(lp,.lst ((Rv.nT n st x1 n).map V.int)),(lu,.lst (up.map V.int)),(lx,.lst (ys.map V.int))])) ⟨trivial,_,_,rfl,Rv.Lnk.PN _ _,O⟩ ?_ ?_
    · rintro i σ H5 hi ⟨-,v4,b,rfl,L,O⟩
      rw [show (0:Int) + (i:Int)=(i:Int) by omega]
      obtain ⟨u,hu⟩:∃ u,up[i]?=some u:=⟨_,List.getElem?_eq_getElem (by omega)⟩
      refine ⟨_,rfl,_,rfl,lu,_,_,_,rfl,rfl,O.sq 2,bh hu,_,_,rfl,rfl,_,rfl,ifD (fun hc=>?_) fun hc=>?_⟩
      · obtain ⟨j,rfl⟩:=Int.eq_ofNat_of_zero_le (show 0≤u from hc)
        have hj:j<i:=by rcases hup i _ hu with e | e <;> omega
        refine ⟨_,rfl,_,rfl,_,rfl,lu,_,_,_,rfl,rfl,O.sq 2,bh hu,lp,_,_,_,rfl,rfl,O.sq 1,bh (Rv.uI (by omega)),?_⟩
        have p0:=Rv.yd (x:=x1) (s:=st) nn i
        have p1:=Rv.yg (x:=x1) (s:=st) nn i
        refine ⟨_,rfl,_,rfl,_,rfl,lp,_,_,_,rfl,rfl,O.sq 1,bh (Rv.uI (by omega)),lb,_,_,_,rfl,rfl,O.get 0,zJ p0 (by rw [List.length_map,L.len];exact p1),?_⟩
        walk_at "pt"
        refine ⟨trivial,_,_,rfl,L.turn (by omega) hj p0,?_⟩
        rw [List.map_set];exact O
      · exact ⟨trivial,_,b,rfl,L.skip,O⟩
    · rintro σ H5 ⟨-,v4,b,rfl,L,O⟩
      refine ⟨_,rfl,O.ret 0 rfl q ⟨b,rfl,L.WK (Rv.yd nn) (Rv.yg nn) (fun j k hj hk h=>Rv.Ar n40 hst hj hk h) n1,by rw [L.len];exact n1,by rw [L.len];exact n40⟩⟩
abbrev cG:Stmt:=top 49
theorem qW:aX ["number","kind"] ["number","kind"] (ao cG):=⟨rfl,rfl,rfl,by decide +kernel,rfl,by decide +kernel,by decide +kernel⟩
def yw:Sp:=fun vs H Q _=>∃ (n k:Int),vs=[.int n,.int k]∧∀ z,0≤z→z≤1000000000000→Q (.int z) H
theorem Q0 {f:Addr} {fd:FuncData} (D:Df K mg "_law_amount" cG ["number","kind"] f fd):cA P w K mg base CX0 1 f fd ["number","kind"] yw:=by
  refine D.F.ok qW (fun vs H Q E h=>?_) (fun cdv A outer s H vs Q E hr h=>?_)
  · obtain ⟨_,_,rfl,_⟩:=h;rfl
  · obtain ⟨n,kd,rfl,q⟩:=h
    have O:=Ow.Qk H
    have s0:=O.same
    refine ⟨_,(au (iK (PW.pt (pw_or (aW jB (pv 1) aA (bw _)) (pw_or1 (PW.pt (pw_and (aW jB (pv 1) aA (bw _)) (pw_and1 (aW jB (aQ bU (pv 0) aA) aA (bw _))))))))
        (aB (bx (aQ bU (aQ d8 (pv 0) aA) aA)))
        cu)
      (au (iK (aW jB (aQ bU (aQ d8 (pv 0) aA) aA) aA (bw _))
        (aB (bx (aQ yE aA aA)))
        cu)
      (au (iK (aW jB (aQ bU (aQ d8 (pv 0) aA) aA) aA (bw _))
        (aB (bx (aQ bU (aQ d8 (pv 0) aA) (aQ yE aA aA))))
        cu)
      (aB (bx (aQ bU (aQ jW (aQ d8 (pv 0) aA) aA) (aQ cQ (aQ yE aA aA) aA))))))),?_⟩
    refine Wo ?_
    intro zu0 zu1 zu2 zu3 zu4 zu5
    have e5:(10:Int) ^ (5:Int).toNat=100000:=by decide
    have e12:(10:Int) ^ (12:Int).toNat=1000000000000:=by decide
    have q1:Q (.int (n / 2 % 10)) H:=q _ (by omega) (by omega)
    have q2:Q (.int (10 ^ (12:Int).toNat)) H:=q _ (by decide) (by decide)
    have q3:Q (.int (n / 16 % 10 ^ (5:Int).toNat)) H:=by rw [e5];exact q _ (by omega) (by omega)
    have q4:Q (.int (n / 16 * 731428571 % (10 ^ (12:Int).toNat + 1))) H:=by rw [e12];exact q _ (by omega) (by omega)
    walk_at "go"
    all_goals first
      | exact q1
      | exact q2
      | exact q3
      | exact q4
theorem p7 (r:List Int) (p:Int):Rv.bQ r p (-1)=Rv.walk r p:=if_pos rfl
abbrev fO:Stmt:=top 48
theorem lF:aX ["below","start","stop","way","at"] ["below","start","stop"] (ao fO):=⟨rfl,rfl,rfl,by decide +kernel,rfl,by decide +kernel,by decide +kernel⟩
def sS (K:PySem.W.Frag) (T:fZ):Sp:=fun vs H Q _=>∃ (a:Addr) (r:List Int) (p b:Int),vs=[.ref a,.int p,.int b]∧SqL K H a (r.map V.int)∧Rv.dU r∧0≤p∧p<r.length∧r.length≤900∧Rv.Stop r p b∧TabsOk T H∧m9 T H (fun xs=>xs=(Rv.bQ r p b).map V.int) Q
theorem N7 {f:Addr} {fd:FuncData} {T:fZ} (D:Df K mg "_law_way" fO ["below","start","stop"] f fd):cA P w K mg base CX0 1 f fd ["below","start","stop"] (sS K T):=by
  refine D.F.ok lF (fun vs H Q E h=>?_) (fun cdv A outer s H vs Q E hr h=>?_)
  · obtain ⟨a,r,p,b,rfl,_⟩:=h;rfl
  · obtain ⟨a,r,p,b,rfl,hS,hR,p0,p1,hn,hst,tk,q⟩:=h
    refine ⟨_,(au (aR (i:=3) lF.nd rfl (Or.inl rfl) (cZ aq))
      (au (aR (i:=4) lF.nd rfl (Or.inl rfl) (pv 1))
      (au (sY PassesOwn.never (aW tu (pv 4) (pv 2) (bw _))
        (au (dZ (mq PySem.F.plainAttrs_list PySem.F.slot_list_append PySem.F.type_list_append cL (pv 3) (ak (pv 4) aq)))
        (aB (aR (i:=4) lF.nd rfl (Or.inl rfl) (aL aG (pv 0) (pv 4) (fun _ _=>rfl))))))
      (aB (bx (pv 3)))))),?_⟩
    refine Wn ?_
    intro zu0 zu1 zu2 zu3 zu4
    have O:=Ow.refl tk
    have hwl:∀ x,(Rv.bQ r x b).length≤(Rv.walk r x).length:=fun x=>by
      unfold Rv.bQ
      split
      · exact Nat.le_refl _
      · exact (List.takeWhile_sublist _).length_le
    refine ⟨szl,fun lw hlw=>?_⟩
    walk_at "nw"
    refine ⟨_,rfl,?_⟩
    refine ⟨fun m σ H2=>∃ (pre:List Int) (z:Int),σ=[some (.ref a),some (.int p),some (.int b),some (.ref lw),some (.int z)]∧Ow T H H2 [(lw,.lst (pre.map V.int))]∧(z=-1∨(0≤z∧z<r.length))∧Rv.Stop r z b∧pre++Rv.bQ r z b=Rv.bQ r p b∧m=Rv.mea r z,
      ⟨_,[],p,rfl,O,.inr ⟨p0,p1⟩,hst,rfl,rfl⟩,?_⟩
    rintro m σ H2 ⟨pre,z,rfl,O,hz,hsz,e,rfl⟩
    refine ⟨_,rfl,_,rfl,rfl,_,rfl,ifN (ifI (fun hc=>?_) fun hc=>?_)⟩
    · subst hc
      have e0:Rv.bQ r z z=[]:=by
        rcases hz with rfl | ⟨z0,z1⟩
        · exact Rv.uG r _
        · exact Rv.rC hR z0 z1
      rw [e0,List.append_nil] at e
      exact ⟨_,rfl,O.ret 0 rfl q (by rw [e])⟩
    · obtain ⟨z0,z1⟩:0≤z∧z<r.length:=by
        rcases hz with rfl | h
        · rcases hsz with h | h
          · exact absurd h.symm hc
          · rw [Rv.jD] at h;cases h
        · exact h
      have ec:=Rv.rD hR z0 z1 (b:=b) (fun x=>hc x.symm)
      have hlen:pre.length≤r.length + 1:=by
        have h1:=Rv.pK r p
        have h2:=hwl p
        rw [← e,List.length_append] at h2;omega
      refine ⟨fun σ' H'=>∃ m',m'<Rv.mea r z∧∃ (pre:List Int) (z:Int),σ'=[some (.ref a),some (.int p),some (.int b),some (.ref lw),some (.int z)]∧Ow T H H' [(lw,.lst (pre.map V.int))]∧(z=-1∨(0≤z∧z<r.length))∧Rv.Stop r z b∧pre++Rv.bQ r z b=Rv.bQ r p b∧m'=Rv.mea r z,fun _ _ x=>x,?_⟩
      have g:=Rv.j9 z0 z1
      refine ⟨_,rfl,.inl ⟨rfl,_,O.sq 0⟩,_,rfl,lw,_,_,rfl,rfl,O.get 0,aP (by rw [List.length_map];omega),?_⟩
      walk_at "pt"
      refine ⟨_,rfl,_,rfl,a,_,_,_,rfl,rfl,O.same.seq hS,lM z0 g,?_⟩
      refine ⟨_,Rv.Hf hR z0 z1,pre++[z],Rv.nxt r z,rfl,?_,hR.step z0 z1,?_,?_,rfl⟩
      · rw [List.map_append];exact O
      · rcases hsz with h | h
        · exact .inl h
        · rw [Rv.dY hR z0 z1] at h
          exact .inr ((List.mem_cons.mp h).resolve_left fun x=>hc x.symm)
      · rw [List.append_assoc]
        show pre++(z :: Rv.bQ r (Rv.nxt r z) b)=_
        rw [← ec];exact e
abbrev fV:Stmt:=top 51
theorem jr:aX ["xs","below","kind","far","start","way","back"] ["xs","below","kind","far"] (ao fV):=⟨rfl,rfl,rfl,by decide +kernel,rfl,by decide +kernel,by decide +kernel⟩
def VP (r:List Int) (l:Lic):Prop:=vG r l∧0≤l.day
def GP (K:PySem.W.Frag) (T:fZ):Sp:=fun vs H Q _=>∃ (a b:Addr) (ys r:List Int) (kd far:Int),vs=[.ref a,.ref b,.int kd,.int far]∧SqL K H a (ys.map V.int)∧4≤ys.length∧SqL K H b (r.map V.int)∧Rv.dU r∧1≤r.length∧r.length≤900∧0≤far∧far≤1000000∧TabsOk T H∧Pb T H (fun xs=>∃ l,xs=Aa l∧VP r l) Q
theorem QM {f f1 f2:Addr} {fd fd1 fd2:FuncData} (D:Df K mg "_law_line" fV ["xs","below","kind","far"] f fd) (B:Blt mg) (bB:Df K mg "_law_way" fO ["below","start","stop"] f1 fd1) (jd:cA P w K mg base CX0 1 f1 fd1 ["below","start","stop"] (sS K T))
    (aU:Df K mg "_law_amount" cG ["number","kind"] f2 fd2) (fH:cA P w K mg base CX0 1 f2 fd2 ["number","kind"] yw):cA P w K mg base CX0 2 f fd ["xs","below","kind","far"] (GP K T):=by
  refine D.F.ok jr (fun vs H Q E h=>?_) (fun cdv A outer s H vs Q E hr h=>?_)
  · obtain ⟨_,_,_,_,_,_,rfl,_⟩:=h;rfl
  · obtain ⟨a,b,ys,r,kd,far,rfl,hA,hyl,hB,hR,r1,r9,f0,f1,tk,q⟩:=h
    have O:=Ow.refl tk
    have hml:((r.map V.int).length:Int)=(r.length:Int):=by rw [List.length_map]
    refine ⟨_,(au (aR (i:=4) jr.nd rfl (Or.inl rfl) (aQ bU (aL aG (pv 0) aA (fun _ _=>rfl)) (aK aH rfl B.len PySem.boot_len (ak (pv 1) aq))))
      (au (aR (i:=5) jr.nd rfl (Or.inl rfl) (aM jd (hr.mono (by decide)) rfl bB.m bB.F.kp bB.b .nil bD (ak (pv 1) (ak (pv 4) (ak (lY jo aA) aq)))))
      (au (aR (i:=6) jr.nd rfl (Or.inl rfl) (lY jo aA))
      (ou (iK (PW.pt (pw_and (aW jB (aQ bU (aL aG (pv 0) aA (fun _ _=>rfl)) aA) aA (bw _)) (pw_and1 (aW wL (aK aH rfl B.len PySem.boot_len (ak (pv 5) aq)) aA (bw _)))))
        (aB (aR (i:=6) jr.nd rfl (Or.inl rfl) (aL aG (pv 5) (aQ cQ aA (aQ bU (aQ d8 (aL aG (pv 0) aA (fun _ _=>rfl)) aA) (aQ nu (aK aH rfl B.len PySem.boot_len (ak (pv 5) aq)) aA))) (fun _ _=>rfl))))
        cu)
      (aB (bx (jV (ak (aQ jW (aQ bU (aL aG (pv 0) aA (fun _ _=>rfl)) aA) (pv 3)) (ak (pv 4) (ak (pv 6) (ak (aM fH (hr.mono (by decide)) rfl aU.m aU.F.kp aU.b .nil bD (ak (aL aG (pv 0) aA (fun _ _=>rfl)) (ak (pv 2) aq))) aq))))))))))),?_⟩
    refine Wm ?_
    intro zu0 zu1 zu2 zu3 zu4
    have p0:=Int.emod_nonneg (ys.getD (0:Int).toNat 0) (show (r.length:Int)≠0 by omega)
    have p1:=Int.emod_lt_of_pos (ys.getD (0:Int).toNat 0) (show (0:Int)<(r.length:Int) by omega)
    refine ⟨_,rfl,a,_,0,_,rfl,rfl,hA,aV (by omega) (by omega),_,rfl,b,_,rfl,.inl hB,_,_,rfl,rfl,(by rw [hml];omega),?_⟩
    dsimp only
    rw [hml]
    generalize ys.getD (0:Int).toNat 0 % (r.length:Int)=st at p0 p1
    refine ⟨_,rfl,_,rfl,_,rfl,b,r,st,-1,rfl,hB,hR,p0,p1,r9,.inl rfl,tk,O.oZ fun lw H1 xs O e=>?_⟩
    subst e
    rw [p7] at O
    have hwm:(((Rv.walk r st).map V.int).length:Int)=((Rv.walk r st).length:Int):=by rw [List.length_map]
    refine ⟨_,rfl,?_⟩
    refine ⟨fun σ H'=>Iv (∃ (bk:Int),σ=[some (.ref a),some (.ref b),some (.int kd),some (.int far),some (.int st),some (.ref lw),some (.int bk)]∧Rv.Stop r st bk∧H'=H1),?_,?_⟩
    · refine ⟨_,rfl,a,_,1,_,rfl,rfl,O.same.seq hA,aV (by omega) (by omega),_,_,rfl,rfl,(by show (0:Int)<3;decide),rfl,_,rfl,ifI (fun hc=>?_) fun hc=>pH ⟨trivial,_,rfl,.inl rfl,rfl⟩⟩
      refine ⟨_,rfl,lw,_,rfl,.inl (O.sq 0),_,_,rfl,rfl,_,rfl,ifD (fun hc2=>?_) fun hc2=>⟨trivial,_,rfl,.inl rfl,rfl⟩⟩
      rw [hwm] at hc2
      have j0:=Int.emod_nonneg (ys.getD (1:Int).toNat 0 / 3) (show ((Rv.walk r st).length:Int) - 1≠0 by omega)
      have j1:=Int.emod_lt_of_pos (ys.getD (1:Int).toNat 0 / 3) (show (0:Int)<((Rv.walk r st).length:Int) - 1 by omega)
      refine ⟨_,rfl,_,rfl,a,_,1,_,rfl,rfl,O.same.seq hA,aV (by omega) (by omega),_,_,rfl,rfl,⟨by decide,by decide⟩,_,rfl,lw,_,rfl,.inl (O.sq 0),_,_,rfl,rfl,_,_,rfl,rfl,(by rw [hwm];omega),_,_,rfl,rfl,?_⟩
      dsimp only
      rw [hwm]
      exact ⟨lw,_,_,_,rfl,rfl,O.sq 0,aV (by omega) (by omega),trivial,_,rfl,.inr (getD_mem' (by omega)),rfl⟩
    rintro σ H4 ⟨-,bk,rfl,hst,rfl⟩
    have d0:0≤ys.getD (2:Int).toNat 0 % 4 * far:=Int.mul_nonneg (Int.emod_nonneg _ (by decide)) f0
    refine ⟨_,rfl,a,_,2,_,rfl,rfl,O.same.seq hA,aV (by omega) (by omega),_,_,rfl,rfl,(by show (0:Int)<4;decide),_,rfl,_,_,rfl,rfl,.inl ⟨by omega,by omega⟩,_,rfl,_,rfl,_,rfl,a,_,3,_,rfl,rfl,O.same.seq hA,aV (by omega) (by omega),_,rfl,_,_,rfl,fun z z0 z1=>?_⟩
    refine ⟨szl,fun t ht=>?_⟩
    walk_at "nw"
    exact O.retT 0 rfl q ⟨⟨_,st,bk,z⟩,rfl,⟨⟨p0,p1,hst⟩,z0⟩,d0⟩
abbrev fU:Stmt:=top 52
theorem eE:aX ["cell","cells","below","kind","many","far","roll","k","one","xs"] ["cell","cells","below","kind"] (ao fU):=⟨rfl,rfl,rfl,by decide +kernel,rfl,by decide +kernel,by decide +kernel⟩
theorem Qq {w:Int} (h0:0≤w) (h1:w<3):∃ v:Int,atI [V.int 1,V.int 211,V.int 333333] w=some (V.int v)∧0≤v∧v≤1000000:=by
  rcases (by omega:w=0∨w=1∨w=2) with rfl | rfl | rfl
  · exact ⟨1,rfl,by decide,by decide⟩
  · exact ⟨211,rfl,by decide,by decide⟩
  · exact ⟨333333,rfl,by decide,by decide⟩
def Gy (K:PySem.W.Frag) (T:fZ):Sp:=fun vs H Q _=>∃ (c kd:Int) (g a:Addr) (qs r:List Int),vs=[.int c,.ref g,.ref a,.int kd]∧SqL K H g (qs.map V.int)∧SqL K H a (r.map V.int)∧Rv.dU r∧1≤r.length∧r.length≤900∧TabsOk T H ∧
  ∀ (l:Addr) (H1 H':Hp) (us:List V) (ls:List Lic),bI T H H1→Ow T H1 H' [(l,.lst us)]→cg K H1 us (ls.map qT)→ls.length≤60→(∀ l∈ls,VP r l)→Q (.ref l) H'
theorem QB {f f1 f2:Addr} {fd fd1 fd2:FuncData} (D:Df K mg "_law_roll" fU ["cell","cells","below","kind"] f fd) (B:Blt mg) (aJ:Df K mg "_law_draws" cJ ["cell","many"] f1 fd1) (cj:cA P w K mg base CX0 1 f1 fd1 ["cell","many"] (uN T))
    (fJ:Df K mg "_law_line" fV ["xs","below","kind","far"] f2 fd2) (qQ:cA P w K mg base CX0 2 f2 fd2 ["xs","below","kind","far"] (GP K T)):cA P w K mg base CX0 3 f fd ["cell","cells","below","kind"] (Gy K T):=by
  refine D.F.ok eE (fun vs H Q E h=>?_) (fun cdv A outer s H vs Q E hr h=>?_)
  · obtain ⟨_,_,_,_,_,_,rfl,_⟩:=h;rfl
  · obtain ⟨c,kd,g,a,qs,r,rfl,hG,hA,hR,r1,r9,tk,q⟩:=h
    have O:=Ow.refl tk
    have s0:=O.same
    have hml:((r.map V.int).length:Int)=(r.length:Int):=by rw [List.length_map]
    refine ⟨_,(au (aR (i:=4) eE.nd rfl (Or.inl rfl) (aQ bU (aQ d8 (pv 0) aA) aA))
      (ou (iK (PW.pt (pw_and (aW jB (aQ bU (pv 0) aA) aA (bw _)) (pw_and1 (aW zB (aK aH rfl B.len PySem.boot_len (ak (pv 2) aq)) aA (bw _)))))
        (aB (aR (i:=4) eE.nd rfl (Or.inl rfl) (aQ bU (aQ d8 (pv 0) aA) aA)))
        cu)
      (au (aR (i:=5) eE.nd rfl (Or.inl rfl) (aL aG (cZ (ak aA (ak aA (ak aA aq)))) (aQ bU (aQ d8 (pv 0) aA) aA) (fun _ _=>rfl)))
      (au (aR (i:=6) eE.nd rfl (Or.inl rfl) (cZ aq))
      (au (cP PassesOwn.never rfl (bW rfl B.range (ak (pv 4) aq)) (aD (i:=7) eE.nd rfl (Or.inl rfl))
        (aB (dZ (mq PySem.F.plainAttrs_list PySem.F.slot_list_append PySem.F.type_list_append cL (pv 6) (ak (aM qQ (hr.mono (by decide)) rfl fJ.m fJ.F.kp fJ.b .nil bD (ak (aM cj (hr.mono (by decide)) rfl aJ.m aJ.F.kp aJ.b .nil bD (ak (aQ cQ (aQ d8 (pv 0) aA) (aQ jW aA (aQ cQ (pv 7) aA))) (ak aA aq))) (ak (pv 2) (ak (pv 3) (ak (pv 5) aq))))) aq)))))
      (au (cP PassesOwn.never rfl (bO (pv 1)) (aD (i:=8) eE.nd rfl (Or.inl rfl))
        (au (aR (i:=9) eE.nd rfl (Or.inl rfl) (aM cj (hr.mono (by decide)) rfl aJ.m aJ.F.kp aJ.b .nil bD (ak (pv 8) (ak aA aq))))
        (aB (iK (PW.pt (pw_and (aW jB (aQ bU (aL aG (pv 9) aA (fun _ _=>rfl)) aA) aA (bw _)) (pw_and1 (aW wL (pv 4) aA (bw _)))))
          (aB (gY (aM qQ (hr.mono (by decide)) rfl fJ.m fJ.F.kp fJ.b .nil bD (ak (oA qb (pv 9) (nH aA) wH) (ak (pv 2) (ak (pv 3) (ak (pv 5) aq))))) (nj (pv 6) (aQ bU (pv 8) (pv 4)) set_list)))
          cu))))
      (aB (bx (pv 6))))))))),?_⟩
    refine Wk ?_
    intro zu0 zu1 zu2 zu3 zu4 zu5 zu6 zu7 zu8 zu9 zu10
    refine ⟨_,rfl,_,_,rfl,rfl,⟨by decide,by decide⟩,_,_,rfl,rfl,(by show (0:Int)<19;decide),?_⟩
    refine ⟨fun σ H'=>Iv (∃ (n:Nat),σ=[some (.int c),some (.ref g),some (.ref a),some (.int kd),some (.int (n:Int)),none,none,none,none,none]∧n≤60∧H'=H),?_,?_⟩
    · have e1:((c / 8 % 19).toNat:Int)=c / 8 % 19:=Int.toNat_of_nonneg (Int.emod_nonneg _ (by decide))
      have e2:((c / 8 % 61).toNat:Int)=c / 8 % 61:=Int.toNat_of_nonneg (Int.emod_nonneg _ (by decide))
      have f1:Iv (∃ (n:Nat),[some (.int c),some (.ref g),some (.ref a),some (.int kd),some (.int (c / 8 % 19)),none,none,none,none,none]=[some (V.int c),some (.ref g),some (.ref a),some (.int kd),some (.int (n:Int)),none,none,none,none,none]∧n≤60∧H=H):=⟨trivial,(c / 8 % 19).toNat,by rw [e1],by omega,rfl⟩
      refine ⟨_,rfl,_,_,rfl,rfl,(by show (0:Int)<8;decide),rfl,_,rfl,ifI (fun hc=>?_) fun hc=>pH f1⟩
      refine ⟨_,rfl,a,_,rfl,.inl hA,_,_,rfl,rfl,_,rfl,ifD (fun hc2=>?_) fun hc2=>f1⟩
      refine ⟨_,rfl,_,_,rfl,rfl,⟨by decide,by decide⟩,_,_,rfl,rfl,(by show (0:Int)<61;decide),?_⟩
      exact ⟨trivial,(c / 8 % 61).toNat,by rw [e2];rfl,by omega,rfl⟩
    rintro σ H1 ⟨-,n,rfl,n60,rfl⟩
    obtain ⟨far,hf,f0,f1⟩:=Qq (w:=c / 488 % 3) (Int.emod_nonneg _ (by decide)) (Int.emod_lt_of_pos _ (by decide))
    refine ⟨szl,fun l3 h3=>?_⟩
    walk_at "nw"
    refine ⟨_,rfl,_,_,rfl,rfl,⟨by decide,by decide⟩,_,_,rfl,rfl,(by show (0:Int)<3;decide),l3,_,_,_,rfl,rfl,O.sq 0,hf,?_⟩
    have O:=O.tail
    refine ⟨szl,fun lr hlr=>?_⟩
    walk_at "nw"
    refine ⟨_,rfl,(n:Int),rfl,by omega,by omega,?_⟩
    rw [Int.toNat_natCast]
    refine gG (n:=n) (fun i σ H'=>Iv (∃ (v7:Option V) (Hb:Hp) (us:List V) (ls:List Lic),σ=[some (.int c),some (.ref g),some (.ref a),some (.int kd),some (.int (n:Int)),some (.int far),some (.ref lr),v7,none,none]∧bI T H1 Hb∧cg K Hb us (ls.map qT)∧ls.length=i∧(∀ l∈ls,VP r l)∧Ow T Hb H' [(lr,.lst us)]))
      ⟨trivial,none,H1,[],[],rfl,bI.refl tk,.nil,rfl,(fun l hl=>nomatch hl),O⟩ ?_ ?_
    · rintro i σ H3 hi ⟨-,v7,Hb,us,ls,rfl,sb,d0,hli,hok,O⟩
      have hul:us.length=ls.length:=by rw [d0.length,List.length_map]
      refine ⟨_,rfl,.inl ⟨rfl,_,O.sq 0⟩,_,rfl,_,_,rfl,rfl,⟨by decide,by decide⟩,_,rfl,_,_,rfl,rfl,_,_,rfl,rfl,.inl ⟨by decide,by decide⟩,_,_,rfl,rfl,_,4,rfl,by decide,by decide,O.same.t1,O.oZ fun lx H4 xs O e=>?_⟩
      obtain ⟨ys,rfl,hyl,hyb⟩:=e
      have hyl:ys.length=4:=hyl
      refine ⟨_,rfl,_,rfl,_,rfl,lx,a,ys,r,kd,far,rfl,O.sq 0,by omega,(sb.trans O.same).seq hA,hR,r1,r9,f0,f1,O.same.t1,O.Vk fun t H5 ts O e=>?_⟩
      obtain ⟨l,rfl,hl⟩:=e
      refine ⟨lr,_,_,rfl,rfl,O.get 2,aP (by omega),?_⟩
      walk_at "pt"
      obtain ⟨Hc,O,sc,en⟩:=O.frz
      refine ⟨trivial,_,Hc,us++[.ref t],ls++[l],rfl,sb.trans sc,?_,by rw [List.length_append,hli];rfl,fun x hx=>?_,O.tail⟩
      · rw [List.map_append]
        exact (d0.mo sc).append (.cons (Den.lic (SqT.of en)) .nil)
      · rcases List.mem_append.mp hx with e | e
        · exact hok x e
        · have e2:x=l:=by simpa using e
          rw [e2];exact hl
    rintro σ H3 ⟨-,v7,Hb,us,ls,rfl,sb,d0,hli,hok,O⟩
    refine ⟨_,rfl,g,rfl,⟨_,(sb.trans O.same).seq hG⟩,?_⟩
    refine cW (K:=K) (xs:=qs.map V.int) (fun i σ H'=>Iv (∃ (v8 v9:Option V) (Hb:Hp) (us:List V) (ls:List Lic),σ=[some (.int c),some (.ref g),some (.ref a),some (.int kd),some (.int (n:Int)),some (.int far),some (.ref lr),v7,v8,v9]∧bI T H1 Hb∧cg K Hb us (ls.map qT)∧ls.length=n∧(∀ l∈ls,VP r l)∧Ow T Hb H' [(lr,.lst us)]))
      ⟨trivial,none,none,Hb,us,ls,rfl,sb,d0,hli,hok,O⟩ (fun _ _ _ _ ⟨_,_,_,_,_,_,_,sb,_,_,_,O⟩=>(sb.trans O.same).seq hG) ?_ ?_
    · rintro i y σ H4 hy ⟨-,v8,v9,Hb,us,ls,rfl,sb,d0,hli,hok,O⟩
      obtain ⟨z,hz,rfl⟩:=ints_get hy
      have hul:us.length=ls.length:=by rw [d0.length,List.length_map]
      refine ⟨_,rfl,z,5,rfl,by decide,by decide,O.same.t1,O.oZ fun lx H5 xs O e=>?_⟩
      obtain ⟨ys,rfl,hyl,hyb⟩:=e
      have hyl:ys.length=5:=hyl
      clear hyb
      refine ⟨_,rfl,lx,_,0,_,rfl,rfl,O.sq 0,aV (by omega) (by omega),_,_,rfl,rfl,(by show (0:Int)<4;decide),rfl,_,rfl,ifI (fun hc=>?_) fun hc=>pH ⟨trivial,_,_,Hb,us,ls,rfl,sb,d0,hli,hok,O.tail⟩⟩
      refine ⟨_,rfl,_,_,rfl,rfl,_,rfl,ifD (fun hc2=>?_) fun hc2=>⟨trivial,_,_,Hb,us,ls,rfl,sb,d0,hli,hok,O.tail⟩⟩
      have j0:=Int.emod_nonneg z (show (n:Int)≠0 by omega)
      have j1:=Int.emod_lt_of_pos z (show (0:Int)<(n:Int) by omega)
      refine ⟨_,rfl,1,rfl,lx,_,rfl,O.sq 0,fun lc hlc=>?_⟩
      walk_at "nw"
      rw [show vZ (ys.map V.int) (some 1) none=(ys.drop 1).map V.int from Gg ys 1] at O
      refine ⟨_,rfl,_,rfl,_,rfl,lc,a,ys.drop 1,r,kd,far,rfl,O.sq 0,by rw [List.length_drop];omega,(sb.trans O.same).seq hA,hR,r1,r9,f0,f1,O.same.t1,O.Vk fun t H6 ts O e=>?_⟩
      obtain ⟨l,rfl,hl⟩:=e
      refine ⟨_,rfl,_,rfl,_,rfl,_,_,rfl,rfl,(by show (0:Int)<(n:Int);omega),?_⟩
      refine nq O 3 rfl (zJ j0 (by omega)) fun H7 O=>?_
      obtain ⟨Hc,O,sc,en⟩:=O.frz
      refine ⟨trivial,_,_,Hc,us.set (z % (n:Int)).toNat (.ref t),ls.set (z % (n:Int)).toNat l,rfl,sb.trans sc,?_,by rw [List.length_set];exact hli,fun x hx=>?_,O.tail.tail⟩
      · rw [List.map_set]
        exact cg.set (Den.lic (SqT.of en)) _ (d0.mo sc)
      · rcases List.mem_or_eq_of_mem_set hx with e | e
        · exact hok x e
        · rw [e];exact hl
    rintro σ H4 ⟨-,v8,v9,Hb,us,ls,rfl,sb,d0,hli,hok,O⟩
    exact ⟨_,rfl,q lr Hb _ us ls sb O d0 (by omega) hok⟩
abbrev dN:Stmt:=top 53
theorem gk:aX ["xs","roll","kind","order","ponds","k","pair","leak"] ["xs","roll","kind"] (ao dN):=⟨rfl,rfl,rfl,by decide +kernel,rfl,by decide +kernel,by decide +kernel⟩
structure xH (ls:List Lic) (ps:List (Int × Int × Int)):Prop where
  len:ps.length≤10
  nd:(ps.map (·.1)).Nodup
  rg:∀ p∈ps,0≤p.1∧p.1<(ls.length:Int)∧0≤p.2.1∧0≤p.2.2∧p.2.2≤1000
  bk:∀ p∈ps,∃ l,ls[p.1.toNat]?=some l∧l.back=-1
def Gz (K:PySem.W.Frag) (T:fZ):Sp:=fun vs H Q _=>∃ (kd:Int) (x b:Addr) (ys:List Int) (rs:List V) (ls:List Lic),vs=[.ref x,.ref b,.int kd]∧SqL K H x (ys.map V.int)∧24 + ls.length≤ys.length∧SqL K H b rs∧cg K H rs (ls.map qT)∧ls.length≤60∧TabsOk T H ∧
  ∀ (l:Addr) (H1 H':Hp) (us:List V) (ps:List (Int × Int × Int)),bI T H H1→Ow T H1 H' [(l,.lst us)]→cg K H1 us (ps.map dMv)→xH ls ps→Q (.ref l) H'
theorem pw_snoc {qs:List (Int × Int)} {i:Nat} {x:Int} (h:(qs.map (·.2)).Pairwise (·<·)) (h2:∀ z∈qs,0≤z.2∧z.2<(i:Int)):((qs++[(x,(i:Int))]).map (·.2)).Pairwise (·<·):=by
  rw [List.map_append,List.pairwise_append]
  refine ⟨h,List.pairwise_singleton _ _,fun a ha b hb=>?_⟩
  obtain ⟨z,hz,rfl⟩:=List.mem_map.mp ha
  have:b=(i:Int):=by simpa using hb
  rw [this];exact (h2 z hz).2
theorem WM {x:Int} {w:Int} (hx0:0≤x) (hx1:x≤1000) (hw0:0≤w) (hw1:w<5):∃ v:Int,atI [V.int 0,V.int 1,V.int 999,V.int 1000,V.int x] w=some (V.int v)∧0≤v∧v≤1000:=by
  rcases (by omega:w=0∨w=1∨w=2∨w=3∨w=4) with rfl | rfl | rfl | rfl | rfl
  · exact ⟨0,rfl,by decide,by decide⟩
  · exact ⟨1,rfl,by decide,by decide⟩
  · exact ⟨999,rfl,by decide,by decide⟩
  · exact ⟨1000,rfl,by decide,by decide⟩
  · exact ⟨x,rfl,hx0,hx1⟩
theorem QD {f f1:Addr} {fd fd1:FuncData} (D:Df K mg "_law_ponds" dN ["xs","roll","kind"] f fd) (B:Blt mg) (aU:Df K mg "_law_amount" cG ["number","kind"] f1 fd1) (fH:cA P w K mg base CX0 1 f1 fd1 ["number","kind"] yw):cA P w K mg base CX0 2 f fd ["xs","roll","kind"] (Gz K T):=by
  refine D.F.ok gk (fun vs H Q E h=>?_) (fun cdv A outer s H vs Q E hr h=>?_)
  · obtain ⟨_,_,_,_,_,_,rfl,_⟩:=h;rfl
  · obtain ⟨kd,lx,b,ys,rs,ls,rfl,hX,hyl,hB,d0,hl60,tk,q⟩:=h
    have hrl:rs.length=ls.length:=by rw [d0.length,List.length_map]
    have O:=Ow.refl tk
    have s0:=O.same
    refine ⟨_,(au (aR (i:=3) gk.nd rfl (Or.inl rfl) (aK vp rfl B.sorted PyProof.Rows.boot_sorted (ak (gD (ao dN) rfl ["xs","roll","kind","order","ponds","k","pair","leak"] rfl ["k","xs","roll"] [none,some 0,some 1] (by decide +kernel) (by decide +kernel) (by decide +kernel) rfl (bW rfl B.range (ak (aK aH rfl B.len PySem.boot_len (ak (pv 1) aq)) aq)) (fun _ _ _=>(aD (i:=0) (show (["k","xs","roll"]:List Str).Nodup by decide +kernel) rfl (Or.inl rfl))) (fun _ _ _=>(jU (aW jB (aL (lK (K:=K) rfl) (aL (bM (K:=K) rfl) (pv 2) (pv 0) (fun _ _=>rfl)) aA (fun _ _=>rfl)) (lY jo aA) (bw _)))) (fun _ _ _=>(jV (ak (aL (bM (K:=K) rfl) (pv 1) (aQ cQ aA (pv 0)) (fun _ _=>rfl)) (ak (pv 0) aq))))) aq)))
      (au (aR (i:=4) gk.nd rfl (Or.inl rfl) (cZ aq))
      (au (cP PassesOwn.never rfl (Bw rfl B.enumerate (ak (oA qb (pv 3) wH (nH (aQ bU (aL aG (pv 0) aA (fun _ _=>rfl)) aA))) aq)) (iY rfl (aN (aD (i:=5) gk.nd rfl (Or.inl rfl)) (aN (aD (i:=6) gk.nd rfl (Or.inl rfl)) dB)))
        (au (aR (i:=7) gk.nd rfl (Or.inl rfl) (aL aG (cZ (ak aA (ak aA (ak aA (ak aA (ak (aQ bU (aQ d8 (aL aG (pv 0) (aQ cQ (aQ jW aA (pv 5)) aA) (fun _ _=>rfl)) aA) aA) aq)))))) (aQ bU (aL aG (pv 0) (aQ cQ (aQ jW aA (pv 5)) aA) (fun _ _=>rfl)) aA) (fun _ _=>rfl)))
        (aB (dZ (mq PySem.F.plainAttrs_list PySem.F.slot_list_append PySem.F.type_list_append cL (pv 4) (ak (jV (ak (aL cX (pv 6) aA (fun _ _=>rfl)) (ak (aM fH (hr.mono (by decide)) rfl aU.m aU.F.kp aU.b .nil bD (ak (aL aG (pv 0) (aQ jW aA (pv 5)) (fun _ _=>rfl)) (ak (pv 2) aq))) (ak (pv 7) aq)))) aq))))))
      (aB (bx (pv 4)))))),?_⟩
    refine Wj ?_
    intro zu0 zu1 zu2 zu3 zu4
    /- order -/
    refine ⟨_,rfl,b,_,rfl,.inl hB,(rs.length:Int),rfl,by omega,by omega,fun lo hlo=>?_⟩
    refine gA (fun i τ H'=>Iv (∃ (v0:Option V) (Hc:Hp) (us:List V) (qs:List (Int × Int)),τ=[v0,some (.ref lx),some (.ref b)]∧bI T H Hc∧cg K Hc us (qs.map dPr)∧(qs.map (·.2)).Pairwise (·<·)∧(∀ z∈qs,0≤z.2∧z.2<(i:Int))∧(∀ z∈qs,∃ l,ls[z.2.toNat]?=some l∧l.back=-1)∧qs.length≤i∧Ow T Hc H' [(lo,.lst us)]))
      ⟨trivial,none,H,[],[],rfl,bI.refl tk,.nil,List.Pairwise.nil,(fun z hz=>nomatch hz),(fun z hz=>nomatch hz),Nat.le_refl _,O.mk' hlo rfl⟩ ?_ ?_
    · rintro i τ H3 hi ⟨-,v0,Hc,us,qs,rfl,sc,d1,hpw,hrg,hbk,hql,O⟩
      rw [show (0:Int) + (i:Int)=(i:Int) by omega]
      have hi2:i<ls.length:=by rw [Int.toNat_natCast] at hi;omega
      obtain ⟨li,hli⟩:∃ li,ls[i]?=some li:=⟨_,List.getElem?_eq_getElem hi2⟩
      obtain ⟨al,hal,hT⟩:=d0.lV hli
      have hul:us.length=qs.length:=by rw [d1.length,List.length_map]
      have wk:∀ z∈qs,0≤z.2∧z.2<((i + 1:Nat):Int):=fun z hz=>by have:=hrg z hz;omega
      refine ⟨_,rfl,_,rfl,b,_,_,_,rfl,rfl,(sc.trans O.same).seq hB,bR hal,al,_,2,_,rfl,rfl,(hT.mo sc).mo O.same,rfl,_,rfl,rfl,_,rfl,ifI (fun hc=>?_) fun hc=>?_⟩
      · refine ⟨_,rfl,_,rfl,_,_,rfl,rfl,lx,_,_,_,rfl,rfl,(sc.trans O.same).seq hX,aV (by omega) (by omega),_,rfl,szl,fun t ht=>?_⟩
        walk_at "nw"
        refine ⟨_,O.get 1,aP (by omega),?_⟩
        walk_at "pt"
        obtain ⟨Hd,O,sd,en⟩:=O.frz
        refine ⟨trivial,_,Hd,us++[.ref t],qs++[(ys.getD (24 + (i:Int)).toNat 0,(i:Int))],rfl,sc.trans sd,?_,pw_snoc hpw hrg,fun z hz=>?_,fun z hz=>?_,by rw [List.length_append];simp;omega,O⟩
        · rw [List.map_append]
          exact (d1.mo sd).append (.cons (Den.tup (ns:=[ys.getD (24 + (i:Int)).toNat 0,(i:Int)]) (SqT.of en)) .nil)
        · rcases List.mem_append.mp hz with e | e
          · exact wk z e
          · have:z=(ys.getD (24 + (i:Int)).toNat 0,(i:Int)):=by simpa using e
            rw [this];exact ⟨by omega,by show (i:Int)<_;omega⟩
        · rcases List.mem_append.mp hz with e | e
          · exact hbk z e
          · have:z=(ys.getD (24 + (i:Int)).toNat 0,(i:Int)):=by simpa using e
            rw [this]
            exact ⟨li,hli,hc⟩
      · exact ⟨trivial,_,Hc,us,qs,rfl,sc,d1,hpw,wk,hbk,by omega,O⟩
    rintro τ H3 ⟨-,v0,Hc,us,qs,rfl,sc,d1,hpw,hrg,hbk,hql,O⟩
    rw [Int.toNat_natCast] at hrg hql
    have hnd:(qs.map (·.2)).Nodup:=hpw.imp fun h=>Int.ne_of_lt h
    refine ⟨lo,us,qs,rfl,O.sq 0,d1.mo O.same,by omega,fun z hz=>⟨(hrg z hz).1,by have:=(hrg z hz).2;omega⟩,hnd,fun lz pq hlz hperm=>?_⟩
    have hp2:=Bx (d:=((0,0):Int × Int)) hperm
    have d2:=d1.pick pq fun i hi=>List.mem_range.mp (hperm.mem_iff.mp hi)
    walk_at "nw"
    generalize (pq.map fun i=>us.getD i .non)=zs at O d2
    generalize (pq.map fun i=>qs.getD i ((0,0):Int × Int))=ps at d2 hp2
    have O:=O.two
    have hps:∀ z∈ps,(0≤z.2∧z.2<(rs.length:Int))∧∃ l,ls[z.2.toNat]?=some l∧l.back=-1:=fun z hz=>⟨hrg z (hp2.mem_iff.mp hz),hbk z (hp2.mem_iff.mp hz)⟩
    have hpn:(ps.map (·.2)).Nodup:=(hp2.map _).nodup_iff.mpr hnd
    clear hrg hnd hpw hbk
    refine ⟨szl,fun lp hlp=>?_⟩
    walk_at "nw"
    have hX2:=sc.seq hX
    have w0:=Int.emod_nonneg (ys.getD (20:Int).toNat 0) (show (11:Int)≠0 by decide)
    have w1:=Int.emod_lt_of_pos (ys.getD (20:Int).toNat 0) (show (0:Int)<11 by decide)
    refine ⟨_,rfl,_,rfl,lx,_,20,_,rfl,rfl,O.same.seq hX2,aV (by omega) (by omega),_,_,rfl,rfl,(by show (0:Int)<11;decide),_,rfl,lz,_,rfl,O.sq 1,fun l9 h9=>?_⟩
    walk_at "nw"
    generalize ys.getD (20:Int).toNat 0 % 11=w at O w0 w1
    obtain ⟨wn,rfl⟩:=Int.eq_ofNat_of_zero_le w0
    rw [CZ] at O
    have dt:cg K Hc (zs.take wn) ((ps.take wn).map dPr):=by rw [List.map_take];exact d2.take wn
    have hpt:∀ z∈ps.take wn,(0≤z.2∧z.2<(rs.length:Int))∧∃ l,ls[z.2.toNat]?=some l∧l.back=-1:=fun z hz=>hps z (List.mem_of_mem_take hz)
    have hpm:((ps.take wn).map (·.2)).Nodup:=by rw [List.map_take];exact hpn.sublist (List.take_sublist _ _)
    have hptl:(ps.take wn).length≤10:=by rw [List.length_take];omega
    generalize zs.take wn=zt at O dt
    generalize ps.take wn=pt at dt hpt hpm hptl
    have hztl:zt.length=pt.length:=by rw [dt.length,List.length_map]
    refine ⟨l9,_,rfl,O.sq 0,?_⟩
    refine FN (K:=K) (xs:=zt) (fun i σ H'=>Iv (∃ (v5 v6 v7:Option V) (Hd:Hp) (us:List V) (gs:List (Int × Int × Int)),σ=[some (.ref lx),some (.ref b),some (.int kd),some (.ref lz),some (.ref lp),v5,v6,v7]∧bI T Hc Hd∧cg K Hd us (gs.map dMv)∧gs.map (·.1)=(pt.take i).map (·.2)∧(∀ p∈gs,0≤p.1∧p.1<(rs.length:Int)∧0≤p.2.1∧0≤p.2.2∧p.2.2≤1000)∧(∀ p∈gs,∃ l,ls[p.1.toNat]?=some l∧l.back=-1) ∧
      Ow T Hd H' [(l9,.lst zt),(lp,.lst us),(lz,.lst zs)]))
      ⟨trivial,none,none,none,Hc,[],[],rfl,bI.refl O.same.t0,.nil,rfl,(fun p hp=>nomatch hp),(fun p hp=>nomatch hp),O⟩ (fun _ _ _ _ ⟨_,_,_,_,_,_,_,_,_,_,_,_,_,O⟩=>O.sq 0) ?_ ?_
    · rintro i y t' σ H4 hy ⟨-,v5,v6,v7,Hd,us,gs,rfl,sd,d4,hgs,hgr,hgb,O⟩ ht'
      obtain ⟨ap,z,rfl,hz,hT⟩:=dt.G3 hy
      have hi:=(List.getElem?_eq_some_iff.mp hz).1
      have hgl:gs.length≤i:=by have:=congrArg List.length hgs;rw [List.length_map,List.length_map,List.length_take] at this;omega
      have hul:us.length=gs.length:=by rw [d4.length,List.length_map]
      walk_at "nw"
      refine ⟨t',_,rfl,O.sqT 0,rfl,_,_,rfl,_,_,rfl,rfl,?_⟩
      have O:=O.tail
      have hX3:=sd.seq hX2
      have e0:=Int.emod_nonneg (ys.getD (2 * (i:Int) + 1).toNat 0) (show (5:Int)≠0 by decide)
      have e1:=Int.emod_lt_of_pos (ys.getD (2 * (i:Int) + 1).toNat 0) (show (0:Int)<5 by decide)
      have g0:=Int.emod_nonneg (ys.getD (2 * (i:Int) + 1).toNat 0 / 5) (show (1001:Int)≠0 by decide)
      have g1:=Int.emod_lt_of_pos (ys.getD (2 * (i:Int) + 1).toNat 0 / 5) (show (0:Int)<1001 by decide)
      obtain ⟨lk,hlk,k0,k1⟩:=WM g0 (by omega) e0 e1
      refine ⟨_,rfl,_,rfl,_,_,rfl,rfl,.inl ⟨by decide,by decide⟩,_,_,rfl,rfl,lx,_,_,_,rfl,rfl,O.same.seq hX3,aV (by omega) (by omega),_,_,rfl,rfl,⟨by decide,by decide⟩,_,_,rfl,rfl,(by show (0:Int)<1001;decide),szl,fun l8 h8=>?_⟩
      walk_at "nw"
      refine ⟨_,rfl,_,rfl,_,_,rfl,rfl,.inl ⟨by decide,by decide⟩,_,_,rfl,rfl,lx,_,_,_,rfl,rfl,O.same.seq hX3,aV (by omega) (by omega),_,_,rfl,rfl,(by show (0:Int)<5;decide),l8,_,_,_,rfl,rfl,O.sq 0,hlk,?_⟩
      have O:=O.tail
      refine ⟨_,rfl,.inl ⟨rfl,_,O.sq 1⟩,_,rfl,ap,_,1,_,rfl,rfl,(hT.mo sd).mo O.same,rfl,_,rfl,_,rfl,_,_,rfl,rfl,.inl ⟨by decide,by decide⟩,lx,_,_,_,rfl,rfl,O.same.seq hX3,aV (by omega) (by omega),_,rfl,_,_,rfl,fun a a0 a1=>?_⟩
      refine ⟨_,rfl,szl,fun t ht=>?_⟩
      walk_at "nw"
      refine ⟨lp,_,_,rfl,rfl,O.get 2,aP (by omega),?_⟩
      walk_at "pt"
      obtain ⟨He,O,se,en⟩:=O.frz
      have hzr:=hpt z (List.mem_of_getElem? hz)
      refine ⟨trivial,_,_,_,He,us++[.ref t],gs++[(z.2,a,lk)],rfl,sd.trans se,?_,?_,fun p hp=>?_,fun p hp=>?_,O⟩
      · rw [List.map_append]
        exact (d4.mo se).append (.cons (Den.mv (m:=(z.2,a,lk)) (SqT.of en)) .nil)
      · rw [List.map_append,hgs,List.take_add_one,hz,List.map_append];rfl
      · rcases List.mem_append.mp hp with e | e
        · exact hgr p e
        · have:p=(z.2,a,lk):=by simpa using e
          rw [this]
          exact ⟨hzr.1.1,hzr.1.2,a0,k0,k1⟩
      · rcases List.mem_append.mp hp with e | e
        · exact hgb p e
        · have:p=(z.2,a,lk):=by simpa using e
          rw [this]
          exact hzr.2
    rintro σ H4 ⟨-,v5,v6,v7,Hd,us,gs,rfl,sd,d4,hgs,hgr,hgb,O⟩
    rw [hztl,List.take_of_length_le (Nat.le_refl _)] at hgs
    refine ⟨_,rfl,q lp Hd _ us gs (sc.trans sd) ((O.pull 1).two.two) d4 ⟨?_,by rw [hgs];exact hpm,by rw [← hrl];exact hgr,hgb⟩⟩
    have:=congrArg List.length hgs
    rw [List.length_map,List.length_map] at this
    omega
def vH (r:List Int) (ls:List Lic) (ps:List (Int × Int × Int)) (ks:List Int) (ms:List (Int × Int × Int)):Prop:=∀ (i:Nat) (m:Int × Int × Int),ms[i]?=some m→xK r ls ps (bT ks (ms.take i)) m
theorem vH.snoc {r:List Int} {ls:List Lic} {ps:List (Int × Int × Int)} {ks:List Int} {ms:List (Int × Int × Int)} {m:Int × Int × Int} (h:vH r ls ps ks ms) (hm:xK r ls ps (bT ks ms) m):vH r ls ps ks (ms++[m]):=fun i x hx=>by
  by_cases hi:i<ms.length
  · rw [List.getElem?_append_left hi] at hx
    rw [List.take_append_of_le_length (by omega)]
    exact h i x hx
  · have hl:=(List.getElem?_eq_some_iff.mp hx).1
    have e:i=ms.length:=by rw [List.length_append] at hl;simp at hl;omega
    subst e
    rw [List.getElem?_append_right (by omega),Nat.sub_self] at hx
    have:m=x:=Option.some.inj hx
    rw [← this,List.take_left']
    · exact hm
    · rfl
theorem yR (ps:List (Int × Int × Int)):PyData.eqv (VH ps) (.list [])=decide (ps=[]):=by
  cases ps with
  | nil=>rfl
  | cons p ps=>rfl
abbrev fY:Stmt:=top 54
theorem gP:aX ["cells","below","roll","ponds","left","lets","one","xs","pond","way"] ["cells","below","roll","ponds","left"] (ao fY):=⟨rfl,rfl,rfl,by decide +kernel,rfl,by decide +kernel,by decide +kernel⟩
def GK (K:PySem.W.Frag) (T:fZ):Sp:=fun vs H Q _=>∃ (u a b c d:Addr) (qs r ks:List Int) (rs us:List V) (ls:List Lic) (ps:List (Int × Int × Int)) (Hb:Hp),vs=[.ref u,.ref a,.ref b,.ref c,.ref d]∧Ow T Hb H [(d,.lst (ks.map V.int))]∧SqL K Hb u (qs.map V.int)∧qs.length≤100∧SqL K Hb a (r.map V.int)∧Rv.dU r∧r.length≤900∧SqL K Hb b rs∧cg K Hb rs (ls.map qT)∧(∀ l∈ls,Gp r l)∧SqL K Hb c us∧cg K Hb us (ps.map dMv)∧xH ls ps∧ks.length=ps.length∧(∀ x∈ks,0≤x) ∧
  ∀ (l:Addr) (H1 H':Hp) (ts:List V) (ms:List (Int × Int × Int)),bI T Hb H1→Ow T H1 H' [(l,.lst ts),(d,.lst ((bT ks ms).map V.int))]→cg K H1 ts (ms.map dMv)→ms.length≤100→vH r ls ps ks ms→(∀ x∈bT ks ms,0≤x)→Q (.ref l) H'
theorem QL {f f1 f2 f3:Addr} {fd fd1 fd2 fd3:FuncData} (D:Df K mg "_law_lets" fY ["cells","below","roll","ponds","left"] f fd) (B:Blt mg) (aJ:Df K mg "_law_draws" cJ ["cell","many"] f1 fd1) (cj:cA P w K mg base CX0 1 f1 fd1 ["cell","many"] (uN T))
    (bB:Df K mg "_law_way" fO ["below","start","stop"] f2 fd2) (jd:cA P w K mg base CX0 1 f2 fd2 ["below","start","stop"] (sS K T))
    (bY:Df K mg "_law_some" fC ["number","most"] f3 fd3) (lR:cA P w K mg base CX0 1 f3 fd3 ["number","most"] Ay):cA P w K mg base CX0 2 f fd ["cells","below","roll","ponds","left"] (GK K T):=by
  refine D.F.ok gP (fun vs H Q E h=>?_) (fun cdv A outer s H vs Q E hr h=>?_)
  · obtain ⟨_,_,_,_,_,_,_,_,_,_,_,_,_,rfl,_⟩:=h;rfl
  · obtain ⟨u,lv,lr,lp,lf,qs,r,ks,rs,us,ls,ps,H8,rfl,O,hU,hql,hV,hR,r9,hL,d0,hrg,hC,d1,PO,hkl,hk0,q⟩:=h
    have hu:=hr.units
    have hrl:rs.length=ls.length:=by rw [d0.length,List.length_map]
    have hul:us.length=ps.length:=by rw [d1.length,List.length_map]
    refine ⟨_,(au (aR (i:=5) gP.nd rfl (Or.inl rfl) (cZ aq))
      (au (cP PassesOwn.never rfl (bO (pv 0)) (aD (i:=6) gP.nd rfl (Or.inl rfl))
        (au (aR (i:=7) gP.nd rfl (Or.inl rfl) (aM cj (hr.mono (by decide)) rfl aJ.m aJ.F.kp aJ.b .nil bD (ak (pv 6) (ak aA aq))))
        (aB (iK (PW.pt (pw_and (aW jB (aQ bU (aL aG (pv 7) aA (fun _ _=>rfl)) aA) aA (bw _)) (pw_and1 (aW (G6 hu) (pv 3) (cZ aq) (bw _)))))
          (au (aR (i:=8) gP.nd rfl (Or.inl rfl) (aQ bU (aL aG (pv 7) aA (fun _ _=>rfl)) (aK aH rfl B.len PySem.boot_len (ak (pv 3) aq))))
          (au (aR (i:=9) gP.nd rfl (Or.inl rfl) (aQ G8 (cZ (ak (lY jo aA) aq)) (aM jd (hr.mono (by decide)) rfl bB.m bB.F.kp bB.b .nil bD (ak (pv 1) (ak (aL cX (aL aG (pv 2) (aL cX (aL aG (pv 3) (pv 8) (fun _ _=>rfl)) aA (fun _ _=>rfl)) (fun _ _=>rfl)) aA (fun _ _=>rfl)) (ak (lY jo aA) aq))))))
          (au (dZ (mq PySem.F.plainAttrs_list PySem.F.slot_list_append PySem.F.type_list_append cL (pv 5) (ak (jV (ak (pv 8) (ak (aL aG (pv 9) (aQ bU (aL aG (pv 7) aA (fun _ _=>rfl)) (aK aH rfl B.len PySem.boot_len (ak (pv 9) aq))) (fun _ _=>rfl)) (ak (aM lR (hr.mono (by decide)) rfl bY.m bY.F.kp bY.b .nil bD (ak (aL aG (pv 7) aA (fun _ _=>rfl)) (ak (aL aG (pv 4) (pv 8) (fun _ _=>rfl)) aq))) aq)))) aq)))
          (aB (gY (aQ nu (aL aG (pv 4) (pv 8) (fun _ _=>rfl)) (aL cX (aL aG (pv 5) (lY jo aA) (fun _ _=>rfl)) aA (fun _ _=>rfl))) (nj (pv 4) (pv 8) set_list))))))
          cu))))
      (aB (bx (pv 5))))),?_⟩
    refine Wi ?_
    intro zu0 zu1 zu2 zu3 zu4 zu5 zu6 zu7
    refine ⟨szl,fun lt hlt=>?_⟩
    walk_at "nw"
    refine ⟨_,rfl,u,rfl,⟨_,O.same.seq hU⟩,?_⟩
    refine cW (K:=K) (xs:=qs.map V.int) (fun i σ H'=>Iv (∃ (Hb:Hp) (ts:List V) (ms:List (Int × Int × Int)) (v6 v7 v8 v9:Option V),σ=[some (.ref u),some (.ref lv),some (.ref lr),some (.ref lp),some (.ref lf),some (.ref lt),v6,v7,v8,v9] ∧
      Ow T Hb H' [(lt,.lst ts),(lf,.lst ((bT ks ms).map V.int))]∧bI T H8 Hb∧cg K Hb ts (ms.map dMv)∧ms.length≤i∧vH r ls ps ks ms∧∀ z∈bT ks ms,0≤z))
      ⟨trivial,H8,[],[],none,none,none,none,rfl,O,bI.refl O.same.t0,.nil,Nat.le_refl _,(fun i m h=>by simp at h),hk0⟩ (fun i σ H' _ ⟨_,_,_,_,_,_,_,_,_,O,sb,_⟩=>(sb.trans O.same).seq hU) ?_ ?_
    · clear O
      rintro i y σ H14 hy ⟨-,Hb,ts,ms,v6,v7,v8,v9,rfl,O,sb,d2,hmi,LO,hl0⟩
      obtain ⟨z,hz,rfl⟩:=ints_get hy
      have hi:=(List.getElem?_eq_some_iff.mp hz).1
      have htl:ts.length=ms.length:=by rw [d2.length,List.length_map]
      refine ⟨_,rfl,z,5,rfl,by decide,by decide,O.same.t1,O.oZ fun lx H15 xs O e=>?_⟩
      obtain ⟨ys,rfl,hyl,hyb⟩:=e
      have hyl:ys.length=5:=hyl
      clear hyb
      refine ⟨_,rfl,lx,_,0,_,rfl,rfl,O.sq 0,aV (by omega) (by omega),_,_,rfl,rfl,(by show (0:Int)<4;decide),rfl,_,rfl,ifI (fun hc=>?_) fun hc=>pH ⟨trivial,Hb,ts,ms,_,_,_,_,rfl,O.tail,sb,d2,by omega,LO,hl0⟩⟩
      refine ⟨_,rfl,szl,fun l0 h0=>?_⟩
      walk_at "nw"
      refine ⟨_,_,Den.list ((sb.trans O.same).seq hC) ((d1.mo sb).mo O.same),Den.list (ds:=[]) (O.sq 0) .nil,(Sh.mvs 0 ps).ok (by decide),(Sh.mvs 0 []).ok (by decide),?_⟩
      have O:=O.tail
      rw [if_pos rfl,show PyData.eqv (.list (ps.map dMv)) (.list [])=decide (ps=[]) from yR ps]
      refine ⟨_,rfl,ifN (ifD (fun he=>?_) fun he=>?_)⟩
      · exact ⟨trivial,Hb,ts,ms,_,_,_,_,rfl,O.tail,sb,d2,by omega,LO,hl0⟩
      have hps:0<ps.length:=List.length_pos_iff.mpr he
      have q0:=Int.emod_nonneg (ys.getD (1:Int).toNat 0) (show (us.length:Int)≠0 by omega)
      have q1:=Int.emod_lt_of_pos (ys.getD (1:Int).toNat 0) (show (0:Int)<(us.length:Int) by omega)
      refine ⟨_,rfl,lx,_,1,_,rfl,rfl,O.sq 0,aV (by omega) (by omega),_,rfl,lp,_,rfl,.inl ((sb.trans O.same).seq hC),_,_,rfl,rfl,(by show (0:Int)<(us.length:Int);omega),?_⟩
      dsimp only
      generalize ys.getD (1:Int).toNat 0 % (us.length:Int)=pn at q0 q1
      obtain ⟨n,rfl⟩:=Int.eq_ofNat_of_zero_le q0
      obtain ⟨u1,hu1⟩:∃ u,us[n]?=some u:=⟨_,List.getElem?_eq_getElem (by omega)⟩
      obtain ⟨ap,p,rfl,hp,hTp⟩:=d1.j5 hu1
      have hpr:=PO.rg p (List.mem_of_getElem? hp)
      have p0:=hpr.1
      obtain ⟨pi,pr,pk⟩:=p
      dsimp only at hpr p0
      obtain ⟨pm,rfl⟩:=Int.eq_ofNat_of_zero_le p0
      obtain ⟨l,hl⟩:∃ l,ls[pm]?=some l:=⟨_,List.getElem?_eq_getElem (by omega)⟩
      obtain ⟨al,hal,hTl⟩:=d0.lV hl
      obtain ⟨lb0,lb1,_⟩:=hrg l (List.mem_of_getElem? hl)
      refine ⟨_,rfl,szl,fun l5 h5=>?_⟩
      walk_at "nw"
      refine ⟨_,rfl,_,rfl,_,rfl,_,rfl,lp,_,_,_,rfl,rfl,(sb.trans O.same).seq hC,bR hu1,ap,_,0,_,rfl,rfl,(hTp.mo sb).mo O.same,rfl,lr,_,_,_,rfl,rfl,(sb.trans O.same).seq hL,bR hal,al,_,1,_,rfl,rfl,(hTl.mo sb).mo O.same,rfl,_,rfl,lv,r,l.start,-1,rfl,(sb.trans O.same).seq hV,hR,lb0,lb1,by omega,.inl rfl,O.same.t1,O.oZ fun lw H16 xs O e=>?_⟩
      subst e
      rw [p7] at O
      have hwk:=Rv.pK r l.start
      refine ⟨l5,lw,_,_,rfl,rfl,O.get 1,O.get 0,jF (by simp only [List.length_map,List.length_cons,List.length_nil];omega),fun l6 h6=>?_⟩
      walk_at "nw"
      obtain ⟨ww,hww⟩:∃ ww,ww=(-1) :: Rv.walk r l.start:=⟨_,rfl⟩
      rw [show [V.int (-1)]++(Rv.walk r l.start).map V.int=ww.map V.int by rw [hww];rfl] at O
      have hwm:((ww.map V.int).length:Int)=(ww.length:Int):=by rw [List.length_map]
      have hw1:1≤ww.length:=by rw [hww];exact Nat.succ_le_succ (Nat.zero_le _)
      have O:=(O.del 1).del 1
      walk_at "er"
      have hlf:=jX ms ks
      have hg0:0≤(bT ks ms).getD n 0:=hl0 _ (getD_mem' (by omega))
      have j0:=Int.emod_nonneg (ys.getD (2:Int).toNat 0) (show (ww.length:Int)≠0 by omega)
      have j1:=Int.emod_lt_of_pos (ys.getD (2:Int).toNat 0) (show (0:Int)<(ww.length:Int) by omega)
      refine ⟨_,rfl,.inl ⟨rfl,_,O.sq 2⟩,_,rfl,_,rfl,_,rfl,lx,_,2,_,rfl,rfl,O.sq 1,aV (by omega) (by omega),_,rfl,l6,_,rfl,.inl (O.sq 0),_,_,rfl,rfl,(by rw [hwm];omega),?_⟩
      dsimp only
      rw [hwm]
      generalize ys.getD (2:Int).toNat 0 % (ww.length:Int)=j at j0 j1
      refine ⟨l6,_,_,_,rfl,rfl,O.sq 0,aV j0 j1,_,rfl,lx,_,3,_,rfl,rfl,O.sq 1,aV (by omega) (by omega),_,rfl,_,rfl,lf,_,_,_,rfl,rfl,O.sq 3,bh (aY (ns:=bT ks ms) (k:=n) (by omega)),_,_,rfl,hg0,fun x x0 x1=>?_⟩
      refine ⟨szl,fun t ht=>?_⟩
      walk_at "nw"
      refine ⟨lt,_,_,rfl,rfl,O.get 3,aP (by omega),?_⟩
      walk_at "pt"
      refine ⟨_,rfl,_,rfl,lf,_,_,_,rfl,rfl,O.sq 4,bh (aY (ns:=bT ks ms) (k:=n) (by omega)),_,rfl,_,rfl,lt,_,_,_,rfl,rfl,O.sq 3,Q9 _ _,t,_,2,_,rfl,rfl,O.sqT 0,rfl,_,_,rfl,rfl,_,rfl,_,rfl,?_⟩
      refine nq O 4 rfl (jY (by rw [List.length_map];omega)) fun H17 O=>?_
      rw [← List.map_set] at O
      obtain ⟨Hc,O,sc,en⟩:=O.frz
      have hin:ww.getD j.toNat 0∈ww:=getD_mem' (by omega)
      have LM:xK r ls ps (bT ks ms) ((n:Int),ww.getD j.toNat 0,x):=⟨by show (0:Int)≤(n:Int);omega,⟨_,l,hp,by show (0:Int)≤(pm:Int);omega,hl,lb0,lb1,by
        rw [hww] at hin ⊢
        exact List.mem_cons.mp hin⟩,x0,x1⟩
      refine ⟨trivial,Hc,ts++[.ref t],ms++[((n:Int),ww.getD j.toNat 0,x)],_,_,_,_,rfl,?_,sb.trans sc,?_,by rw [List.length_append];show ms.length + 1≤_;omega,LO.snoc LM,?_⟩
      · rw [oY];exact O.tail.tail
      · rw [List.map_append]
        exact (d2.mo sc).append (.cons (Den.mv (m:=((n:Int),ww.getD j.toNat 0,x)) (SqT.of en)) .nil)
      · rw [oY]
        intro z hz
        rcases List.mem_or_eq_of_mem_set hz with e | e
        · exact hl0 z e
        · rw [e]
          show 0≤(bT ks ms).getD n 0 - x
          omega
    rintro σ H14 ⟨-,Hb,ts,ms,v6,v7,v8,v9,rfl,O,sb,d2,hmi,LO,hl0⟩
    rw [List.length_map] at hmi
    exact ⟨_,rfl,q lt Hb _ ts ms sb O d2 (by omega) LO hl0⟩
theorem tE {ls:List Lic} {xs:List Int} (h:xs.length=ls.length):(DG ls xs).length=ls.length:=by
  unfold DG;rw [List.length_map,List.length_zip];omega
theorem Od {ls:List Lic} {ps ms:List (Int × Int × Int)} {xs:List Int} (h:xs.length=ls.length):(mX ls ps xs ms).length=ls.length + ms.length:=by
  unfold mX;rw [List.length_append,tE h,List.length_map]
theorem Fd (r:List Int) (as bs:List Rv.Mv) (i:Int):Rv.lU r (as++bs) i=Rv.lU r as i + Rv.lU r bs i:=by
  unfold Rv.lU;rw [List.map_append,List.sum_append]
theorem jZ (n:Nat) (f:Nat→Int):((List.range n).map f).sum=Tn.jC n f:=by
  induction n with
  | zero=>rfl
  | succ n ih=>rw [List.range_succ,List.map_append,List.sum_append,ih];simp [Tn.jC]
theorem zF {r:List Int} {ls:List Lic} {xs:List Int} (h:xs.length=ls.length) (i:Int):Rv.lU r (DG ls xs) i=Tn.hold ls.length (oN r ls) (Tn.fX xs) i:=by
  unfold Rv.lU Tn.hold
  rw [← jZ]
  congr 1
  refine List.ext_getElem? fun k=>?_
  by_cases hk:k<ls.length
  · have hl:ls[k]?=some ls[k]:=List.getElem?_eq_getElem hk
    have hx:xs[k]?=some (xs.getD k 0):=aY (by omega)
    have e:(ls.zip xs)[k]?=some (ls[k],xs.getD k 0):=by rw [List.getElem?_zip_eq_some];exact ⟨hl,hx⟩
    unfold DG
    rw [List.getElem?_map,List.getElem?_map,e,List.getElem?_map,List.getElem?_range hk]
    show some (if i∈Rv.bQ r ls[k].start ls[k].back then xs.getD k 0 else 0)=some (if i∈oN r ls k then Tn.fX xs k else 0)
    rw [pQ hl];rfl
  · rw [List.getElem?_eq_none (by rw [List.length_map,tE h];omega),List.getElem?_eq_none (by rw [List.length_map,List.length_range];omega)]
theorem u9 {r:List Int} {ls:List Lic} {ps ms:List (Int × Int × Int)} (h:∀ m∈ms,0≤m.2.2) (i:Int):Rv.lU r (ms.map (nJ ls ps)) i≤0:=by
  induction ms with
  | nil=>exact Int.le_refl _
  | cons m ms ih =>
    have h1:=ih fun x hx=>h x (List.mem_cons_of_mem _ hx)
    have h2:=h m List.mem_cons_self
    unfold Rv.lU at h1 ⊢
    rw [List.map_cons,List.map_cons,List.sum_cons]
    have:(if i∈Rv.bQ r (nJ ls ps m).1 (nJ ls ps m).2.1 then (nJ ls ps m).2.2 else 0)≤0:=by
      split
      · show -m.2.2≤0;omega
      · exact Int.le_refl _
    omega
theorem jy {n:Nat} {W:Nat→List Int} {x:Nat→Int} {z:Int} (h:¬ ∃ k,k<n∧z∈W k):Tn.hold n W x z=0:=by
  unfold Tn.hold
  rw [Tn.bL (g:=fun _=>0) fun k hk=>if_neg fun hm=>h ⟨k,hk,hm⟩]
  induction n with
  | zero=>rfl
  | succ n ih =>
    have:=ih fun ⟨k,hk,hm⟩=>h ⟨k,by omega,hm⟩
    show Tn.jC n _ + 0=0
    omega
theorem Ot {r s:List Int} {ls:List Lic} {ps ms:List (Int × Int × Int)} {cs xs:List Int} (hs:∀ x∈s,0≤x) (D:Gu r s ls cs xs) (hm:∀ m∈ms,0≤m.2.2):∀ x∈Rv.vY r s (mX ls ps xs ms),0≤x:=fun x hx=>by
  unfold Rv.vY at hx
  obtain ⟨i,hi,rfl⟩:=List.mem_map.mp hx
  have hi:=List.mem_range.mp hi
  unfold mX
  rw [Fd,zF D.len]
  have h1:=u9 (r:=r) (ls:=ls) (ps:=ps) hm (i:Int)
  by_cases hw:∃ k,k<ls.length∧(i:Int)∈oN r ls k
  · have h2:=D.fit.fits (i:Int) hw
    rw [Rv.wZ (by omega) (by omega)] at h2
    omega
  · rw [jy hw]
    have:=wM (r:=r) hs (i:Int)
    omega
theorem NK (r fl:List Int):Pq r fl=Rv.O1 r (fun k=>fl.getD k 0) r.length:=by
  have key:∀ n,((Rv.wN r n).map fun i=>fl.getD i.toNat 0).sum=Rv.O1 r (fun k=>fl.getD k 0) n:=fun n=>by
    induction n with
    | zero=>rfl
    | succ n ih =>
      rw [Rv.mD,List.map_append,List.sum_append,ih]
      by_cases h:Rv.nxt r (n:Int)=-1
      · rw [if_pos h,Rv.O1.Oh r _ h];simp
      · rw [if_neg h,Rv.O1.turn r _ h];simp
  exact key r.length
theorem Gn {r:List Int} {F G:Nat→Int} {n:Nat} (h:∀ k,k<n→F k=G k):Rv.O1 r F n=Rv.O1 r G n:=Rv.dD fun k hk=>by rw [h k hk]
theorem Ak (as bs:List Rv.Mv) (z:Int):Rv.stops (as++bs) z=Rv.stops as z + Rv.stops bs z:=by
  unfold Rv.stops;rw [List.map_append,List.sum_append]
theorem Nu {ls:List Lic} {xs:List Int} (h:xs.length=ls.length):Rv.stops (DG ls xs) (-1)=Tn.jC ls.length fun j=>if (ls[j]?.map Lic.back).getD 0=-1 then xs.getD j 0 else 0:=by
  unfold Rv.stops
  rw [← jZ]
  congr 1
  refine List.ext_getElem? fun k=>?_
  by_cases hk:k<ls.length
  · have hl:ls[k]?=some ls[k]:=List.getElem?_eq_getElem hk
    have hx:xs[k]?=some (xs.getD k 0):=aY (by omega)
    have e:(ls.zip xs)[k]?=some (ls[k],xs.getD k 0):=by rw [List.getElem?_zip_eq_some];exact ⟨hl,hx⟩
    unfold DG
    rw [List.getElem?_map,List.getElem?_map,e,List.getElem?_map,List.getElem?_range hk]
    show some (if ls[k].back=-1 then xs.getD k 0 else 0)=some (if (ls[k]?.map Lic.back).getD 0=-1 then xs.getD k 0 else 0)
    rw [hl];rfl
  · rw [List.getElem?_eq_none (by rw [List.length_map,tE h];omega),List.getElem?_eq_none (by rw [List.length_map,List.length_range];omega)]
theorem Al (ls:List Lic) (ps:List (Int × Int × Int)):∀ ms:List (Int × Int × Int),Rv.stops (ms.map (nJ ls ps)) (-1)=(zQ ms).sum - (ms.map fun m=>m.2.2).sum
  | []=>rfl
  | m :: ms=>by
    have ih:=Al ls ps ms
    unfold Rv.stops at ih ⊢
    rw [List.map_cons,List.map_cons,List.sum_cons,ih,List.map_cons,List.sum_cons]
    unfold zQ
    by_cases e:m.2.1=-1
    · rw [List.filter_cons_of_neg (by simp [e])]
      show (if (nJ ls ps m).2.1=-1 then (nJ ls ps m).2.2 else 0) + _=_
      rw [if_pos (show (nJ ls ps m).2.1=-1 from e)]
      show -m.2.2 + _=_
      omega
    · rw [List.filter_cons_of_pos (by simp [e]),List.map_cons,List.sum_cons]
      show (if (nJ ls ps m).2.1=-1 then (nJ ls ps m).2.2 else 0) + _=_
      rw [if_neg (show ¬ (nJ ls ps m).2.1=-1 from e)]
      omega
theorem Ab {ls:List Lic} {xs:List Int}:∀ {ps:List (Int × Int × Int)},(ps.map (·.1)).Nodup→(∀ p∈ps,0≤p.1∧p.1<(ls.length:Int))→(∀ p∈ps,∃ l,ls[p.1.toNat]?=some l∧l.back=-1) →
    (Tn.jC ls.length fun j=>if (ls[j]?.map Lic.back).getD 0=-1 then xs.getD j 0 else 0)=(Tn.jC ls.length fun j=>if (ls[j]?.map Lic.back).getD 0=-1∧¬ (j:Int)∈ps.map (·.1) then xs.getD j 0 else 0) + (ps.map fun p=>xs.getD p.1.toNat 0).sum
  | [],_,_,_=>by
    rw [List.map_nil,List.map_nil,List.sum_nil,Int.add_zero]
    refine Tn.bL fun k _=>?_
    simp
  | p :: ps,nd,rg,bk=>by
    rw [List.map_cons,List.nodup_cons] at nd
    have ih:=Ab (xs:=xs) nd.2 (fun q hq=>rg q (List.mem_cons_of_mem _ hq)) (fun q hq=>bk q (List.mem_cons_of_mem _ hq))
    obtain ⟨p0,p1⟩:=rg p List.mem_cons_self
    obtain ⟨l,hl,hb⟩:=bk p List.mem_cons_self
    have e1:=Tn.mW (i:=p.1.toNat) (xs.getD p.1.toNat 0) (n:=ls.length) (by omega)
    rw [ih,List.map_cons,List.map_cons,List.sum_cons,← Int.add_assoc]
    congr 1
    rw [← e1,← Tn.j4]
    refine Tn.bL fun k hk=>?_
    by_cases hkp:k=p.1.toNat
    · have hin:(k:Int)=p.1:=by omega
      rw [if_pos hkp,if_pos ⟨by rw [hkp,hl];exact hb,by rw [hin];exact nd.1⟩,if_neg fun z=>z.2 (by rw [hin];exact List.mem_cons_self),← hkp]
      omega
    · have hne:¬ (k:Int)=p.1:=by omega
      rw [if_neg hkp,Int.add_zero]
      by_cases hc:(ls[k]?.map Lic.back).getD 0=-1∧¬ (k:Int)∈ps.map (·.1)
      · rw [if_pos hc,if_pos ⟨hc.1,fun z=>(List.mem_cons.mp z).elim hne hc.2⟩]
      · rw [if_neg hc,if_neg fun z=>hc ⟨z.1,fun y=>z.2 (List.mem_cons_of_mem _ y)⟩]
theorem rm (ls:List Lic) (ps:List (Int × Int × Int)) (xs:List Int):∀ n,((uo ls ps n).map fun j=>xs.getD j 0).sum=Tn.jC n fun j=>if (ls[j]?.map Lic.back).getD 0=-1∧¬ (j:Int)∈ps.map (·.1) then xs.getD j 0 else 0
  | 0=>rfl
  | n + 1=>by
    rw [rY,List.map_append,List.sum_append,rm ls ps xs n]
    show _=Tn.jC n _ + _
    congr 1
    dsimp only
    by_cases hc:(ls[n]?.map Lic.back).getD 0=-1∧¬ (n:Int)∈ps.map (·.1)
    · rw [if_pos hc,if_pos (by simp only [decide_eq_true hc.1,decide_eq_false hc.2];rfl)];simp
    · rw [if_neg hc,if_neg fun z=>hc ⟨by simp at z;exact z.1,by simp at z;simpa using z.2⟩];rfl
theorem vg:∀ (ms:List (Int × Int × Int)) (ks:List Int),(∀ m∈ms,m.1.toNat<ks.length)→(bT ks ms).sum=ks.sum - (ms.map fun m=>m.2.2).sum
  | [],ks,_=>by show ks.sum=ks.sum - 0;omega
  | m :: ms,ks,h=>by
    have hm:=h m List.mem_cons_self
    have ih:=vg ms (pG ks m) fun x hx=>by
      unfold pG;rw [List.length_set];exact h x (List.mem_cons_of_mem _ hx)
    show (bT (pG ks m) ms).sum=_
    rw [ih,List.map_cons,List.sum_cons]
    have e:(pG ks m).sum=ks.sum - m.2.2:=by
      unfold pG
      have key:∀ (l:List Int) (i:Nat) (v:Int),i<l.length→(l.set i v).sum=l.sum - l.getD i 0 + v:=fun l=>by
        induction l with
        | nil=>intro i v hi;simp at hi
        | cons a l ihl =>
          intro i v hi
          cases i with
          | zero=>simp;omega
          | succ i =>
            have:=ihl i v (by simpa using hi)
            rw [List.set_cons_succ,List.sum_cons,List.sum_cons,this]
            simp;omega
      rw [key ks _ _ hm];omega
    omega
theorem Pa (ps:List (Int × Int × Int)) (ks xs:List Int) (h:ks.length=ps.length):(yX ps ks xs).sum + (Hg ps ks xs).sum=ks.sum + (ps.map fun p=>xs.getD p.1.toNat 0).sum:=by
  unfold yX Hg
  rw [jZ,jZ,← Tn.j4,Tn.bL (g:=fun i=>ks.getD i 0 + xs.getD (ps.getD i (0,0,0)).1.toNat 0) fun k _=>(by unfold pI;omega),Tn.j4]
  congr 1
  · rw [← Rv.sG,← h,Rv.wj]
  · have e:=Rv.wj (ps.map fun p=>xs.getD p.1.toNat 0)
    rw [List.length_map] at e
    rw [← e,Rv.sG]
    refine Tn.bL fun k hk=>?_
    rw [List.getD_eq_getElem?_getD (l:=ps.map _),List.getElem?_map,List.getElem?_eq_getElem hk,getD_some (List.getElem?_eq_getElem hk)];rfl
theorem DOk.balance {r s:List Int} {ls:List Lic} {ps ms:List (Int × Int × Int)} {ks cs xs:List Int} (h:DOk r s ls ps ms ks cs) (PO:xH ls ps) (hx:xs.length=ls.length) :
    s.sum + ks.sum=ux ls ps xs ms + (yX ps (bT ks ms) xs).sum + (Hg ps (bT ks ms) xs).sum + Pq r (Rv.vY r s (mX ls ps xs ms)):=by
  have e1:=Rv.Er h.riv h.sl (ms:=mX ls ps xs ms) h.moves
  rw [List.take_length] at e1
  have e2:Pq r (Rv.vY r s (mX ls ps xs ms))=Rv.O1 r (fun k=>Rv.kO r s (k:Int) - Rv.lU r (mX ls ps xs ms) (k:Int)) r.length:=by
    rw [NK]
    exact Gn fun k hk=>(Rv.qH r s (mX ls ps xs ms)).getD hk
  have e3:Rv.stops (mX ls ps xs ms) (-1)=Rv.stops (DG ls xs) (-1) + Rv.stops (ms.map (nJ ls ps)) (-1):=Ak _ _ _
  have e4:=Ab (xs:=xs) PO.nd (fun p hp=>⟨(PO.rg p hp).1,(PO.rg p hp).2.1⟩) PO.bk
  rw [Nu hx,e4,← rm,Al] at e3
  have e5:=Pa ps (bT ks ms) xs (by rw [jX];exact h.kl)
  have e6:=vg ms ks fun m hm=>by
    obtain ⟨i,hi⟩:=List.getElem?_of_mem hm
    obtain ⟨p,l,hp,_⟩:=(h.good i m hi).pd
    have:=(List.getElem?_eq_some_iff.mp hp).1
    have:=h.kl
    omega
  unfold ux
  omega
theorem pY {s:List Int} (h:∀ x∈s,0≤x):0≤s.sum:=by
  induction s with
  | nil=>exact Int.le_refl _
  | cons a s ih =>
    rw [List.sum_cons]
    have:=h a List.mem_cons_self
    have:=ih fun x hx=>h x (List.mem_cons_of_mem _ hx)
    omega
theorem qu {l:List Int} (nd:l.Nodup) {i:Nat} {z:Int} (hz:l[i]?=some z):¬ z∈l.take i:=fun hmm=>by
  obtain ⟨h1,h2⟩:=List.getElem?_eq_some_iff.mp hz
  obtain ⟨j,hj,ej⟩:=List.getElem_of_mem hmm
  rw [List.getElem_take] at ej
  rw [List.length_take] at hj
  have:=(List.getElem_inj nd).mp (ej.trans h2.symm)
  omega
abbrev cF:Stmt:=top 55
theorem qd:aX ["found","many"] ["found","many"] (ao cF):=⟨rfl,rfl,rfl,by decide +kernel,rfl,by decide +kernel,by decide +kernel⟩
def GC (T:fZ):Sp:=fun vs H Q _=>∃ (a:Addr) (ns:List Int) (n:Int),vs=[.ref a,.int n]∧H a=some (.lst (ns.map V.int))∧n=(ns.length:Int)∧(∀ x∈ns,0≤x)∧TabsOk T H∧∀ H',bI T H H'→Q (.bl true) H'
theorem QF {f:Addr} {fd:FuncData} (D:Df K mg "_law_numbers" cF ["found","many"] f fd) (B:Blt mg):cA P w K mg base CX0 1 f fd ["found","many"] (GC T):=by
  refine D.F.ok qd (fun vs H Q E h=>?_) (fun cdv A outer s H vs Q E hr h=>?_)
  · obtain ⟨_,_,_,rfl,_⟩:=h;rfl
  · obtain ⟨a,ns,n,rfl,hA,hn,h0,tk,q⟩:=h
    have hu:=hr.units
    have hS:SqL K H a (ns.map V.int):=SqL.of hA
    refine ⟨_,(au (iK (PW.pt (pw_or (kI (kE (aK lO rfl B.isinstance PyProof.Rows.boot_isinstance (ak (pv 0) (ak (qp (v:=.ty "list") rfl B.list PyProof.Rows.boot_list rfl) aq))))) (pw_or1 (aW tu (aK aH rfl B.len PySem.boot_len (ak (pv 0) aq)) (pv 1) (bw _)))))
        (aB (bx BJ))
        cu)
      (aB (bx (mj (yF hu) (gD (ao cF) rfl ["found","many"] rfl ["one"] [none] (by decide +kernel) (by decide +kernel) (by decide +kernel) rfl (bO (pv 0)) (fun _ _ _=>(aD (i:=0) (show (["one"]:List Str).Nodup by decide +kernel) rfl (Or.inl rfl))) (fun _ _ _=>(jU (PW.pt (pw_or (kI (kE (aK (pC (K:=K) rfl) rfl B.isinstance PyProof.Rows.boot_isinstance (ak (pv 0) (ak (qp (v:=.ty "int") rfl B.int PyProof.Rows.boot_int rfl) aq))))) (pw_or (kE (aK (pC (K:=K) rfl) rfl B.isinstance PyProof.Rows.boot_isinstance (ak (pv 0) (ak (qp (v:=.ty "bool") rfl B.bool PyProof.Rows.boot_bool rfl) aq)))) (pw_or1 (aW zB (pv 0) aA (bw _)))))))) (fun _ _ _=>(pv 0))) (cZ aq) (bw _))))),?_⟩
    refine Wh ?_
    intro zu0 zu1
    have O:=Ow.refl tk
    refine ⟨_,rfl,_,_,_,true,rfl,.lst hA,Hh K,_,rfl,pH ?_⟩
    refine ⟨_,rfl,a,_,rfl,.inl hS,_,rfl,rfl,_,rfl,ifN (ifI (fun _=>?_) fun hc=>absurd (by rw [List.length_map,hn]) hc)⟩
    refine ⟨_,rfl,a,rfl,⟨_,hS⟩,fun l hl=>?_⟩
    refine dO (K:=K) (xs:=ns.map V.int) (fun i τ H'=>Iv (∃ (v0:Option V),τ=[v0]∧Ow T H H' [(l,.lst (([]:List Int).map V.int))]))
      ⟨trivial,none,rfl,O.mk' hl rfl⟩ (fun _ _ _ _ ⟨_,_,_,O⟩=>O.same.seq hS) ?_ ?_
    · rintro i y τ H3 hy ⟨-,v0,rfl,O⟩
      obtain ⟨z,hz,rfl⟩:=ints_get hy
      have z0:=h0 z (List.mem_of_getElem? hz)
      refine ⟨_,rfl,_,_,_,true,rfl,.int _,Hi K,_,rfl,pH ?_⟩
      refine ⟨_,rfl,_,_,_,false,rfl,.int _,Hj K,_,rfl,pH ?_⟩
      exact ⟨_,rfl,_,_,rfl,rfl,_,rfl,ifD (fun hc=>absurd hc (by omega)) fun _=>⟨trivial,_,rfl,O⟩⟩
    rintro τ H3 ⟨-,v0,rfl,O⟩
    refine ⟨szl,fun l2 hl2=>?_⟩
    walk_at "nw"
    refine ⟨l,l2,[],[],rfl,rfl,O.sq 1,O.sq 0,?_⟩
    rw [if_neg Bool.false_ne_true,decide_eq_true rfl]
    exact q _ O.same
abbrev eX:Stmt:=top 56
theorem sX:aX ["told","below","roll","ponds"] ["told","below","roll","ponds"] (ao eX):=⟨rfl,rfl,rfl,by decide +kernel,rfl,by decide +kernel,by decide +kernel⟩
theorem Cp (K:PySem.W.Frag):PySem.W.kitOne K (.type "tuple") (.type "tuple")=some true:=by rfl
def GR (K:PySem.W.Frag) (T:fZ):Sp:=fun vs H Q _=>∃ (t lt la lf lh a b c:Addr) (xs as fs hs:List Int) (rv rs us:List V),vs=[.ref t,.ref a,.ref b,.ref c]∧H t=some (.tup [.ref lt,.ref la,.ref lf,.ref lh])∧H lt=some (.lst (xs.map V.int))∧H la=some (.lst (as.map V.int))∧H lf=some (.lst (fs.map V.int))∧H lh=some (.tup (hs.map V.int))∧SqL K H a rv∧SqL K H b rs∧SqL K H c us∧rs.length=xs.length∧us.length=as.length∧rv.length=fs.length∧hs.length=6∧(∀ x∈xs,0≤x)∧(∀ x∈as,0≤x)∧(∀ x∈fs,0≤x)∧(∀ x∈hs,0≤x)∧TabsOk T H∧∀ H',bI T H H'→Q (.bl true) H'
theorem QV {f f1:Addr} {fd fd1:FuncData} (D:Df K mg "_law_kinds" eX ["told","below","roll","ponds"] f fd) (B:Blt mg) (aZ:Df K mg "_law_numbers" cF ["found","many"] f1 fd1) (jm:cA P w K mg base CX0 1 f1 fd1 ["found","many"] (GC T)):cA P w K mg base CX0 2 f fd ["told","below","roll","ponds"] (GR K T):=by
  refine D.F.ok sX (fun vs H Q E h=>?_) (fun cdv A outer s H vs Q E hr h=>?_)
  · obtain ⟨_,_,_,_,_,_,_,_,_,_,_,_,_,_,_,rfl,_⟩:=h;rfl
  · obtain ⟨t,lt,la,lf,lh,a,b,c,xs,as,fs,hs,rv,rs,us,rfl,hT,h1,h2,h3,h4,hA,hB,hC,e1,e2,e3,e4,n1,n2,n3,n4,tk,q⟩:=h
    refine ⟨_,(au (iK (PW.pt (pw_or (kI (kE (aK lO rfl B.isinstance PyProof.Rows.boot_isinstance (ak (pv 0) (ak (qp (v:=.ty "tuple") rfl B.tuple PyProof.Rows.boot_tuple rfl) aq))))) (pw_or (aW tu (aK aH rfl B.len PySem.boot_len (ak (pv 0) aq)) aA (bw _)) (pw_or1 (kI (kE (aK lO rfl B.isinstance PyProof.Rows.boot_isinstance (ak (aL cX (pv 0) aA (fun _ _=>rfl)) (ak (qp (v:=.ty "tuple") rfl B.tuple PyProof.Rows.boot_tuple rfl) aq)))))))))
        (aB (bx BJ))
        cu)
      (au (iK (PW.pt (pw_or (kI (kE (aM jm (hr.mono (by decide)) rfl aZ.m aZ.F.kp aZ.b .nil bD (ak (aL cX (pv 0) aA (fun _ _=>rfl)) (ak (aK aH rfl B.len PySem.boot_len (ak (pv 2) aq)) aq))))) (pw_or1 (kI (kE (aM jm (hr.mono (by decide)) rfl aZ.m aZ.F.kp aZ.b .nil bD (ak (aL cX (pv 0) aA (fun _ _=>rfl)) (ak (aK aH rfl B.len PySem.boot_len (ak (pv 3) aq)) aq))))))))
        (aB (bx BJ))
        cu)
      (aB (bx (G5 (aM jm (hr.mono (by decide)) rfl aZ.m aZ.F.kp aZ.b .nil bD (ak (aL cX (pv 0) aA (fun _ _=>rfl)) (ak (aK aH rfl B.len PySem.boot_len (ak (pv 1) aq)) aq))) (G4 (aM jm (hr.mono (by decide)) rfl aZ.m aZ.F.kp aZ.b .nil bD (ak (dh bJ rfl B.list PyProof.Rows.boot_list (ak (aL cX (pv 0) aA (fun _ _=>rfl)) aq)) (ak aA aq))))))))),?_⟩
    refine Qh ?_
    intro zu0 zu1 zu2 zu3
    have O:=Ow.refl tk
    have nt:∀ (H':Hp) (p:Addr) (o:HO),bI T H H'→H p=some o→kJ o=true→H' p=some o:=fun H' p o sm h ho=>sm.keep _ _ h (uX ho)
    refine ⟨_,rfl,_,_,_,true,rfl,.tup hT,Cp K,_,rfl,pH ?_⟩
    refine ⟨_,rfl,t,_,rfl,.inr (SqT.of hT),rfl,_,rfl,ifN (ifI (fun _=>?_) fun hc=>absurd rfl hc)⟩
    refine ⟨_,rfl,t,_,3,_,rfl,rfl,SqT.of hT,rfl,_,_,_,true,rfl,.tup h4,Cp K,_,rfl,pH ?_⟩
    refine ⟨_,rfl,t,_,0,_,rfl,rfl,SqT.of hT,rfl,_,rfl,b,_,rfl,.inl hB,lt,xs,_,rfl,h1,by rw [e1],n1,tk,fun H1 sm=>?_⟩
    have O:=O.lQ sm
    refine ⟨_,rfl,pH ?_⟩
    refine ⟨_,rfl,t,_,1,_,rfl,rfl,SqT.of (nt _ _ _ O.same hT rfl),rfl,_,rfl,c,_,rfl,.inl (O.same.seq hC),la,as,_,rfl,nt _ _ _ O.same h2 rfl,by rw [e2],n2,O.same.t1,fun H2 sm=>?_⟩
    have O:=O.lQ sm
    refine ⟨_,rfl,pH ?_⟩
    refine ⟨_,rfl,t,_,2,_,rfl,rfl,SqT.of (nt _ _ _ O.same hT rfl),rfl,_,rfl,a,_,rfl,.inl (O.same.seq hA),lf,fs,_,rfl,nt _ _ _ O.same h3 rfl,by rw [e3],n3,O.same.t1,fun H3 sm=>?_⟩
    have O:=O.lQ sm
    refine ⟨_,rfl,Oo ?_⟩
    refine ⟨_,rfl,t,_,3,.ref lh,rfl,rfl,SqT.of (nt _ _ _ O.same hT rfl),rfl,lh,_,rfl,.inr (SqT.of (nt _ _ _ O.same h4 rfl)),fun l hl=>?_⟩
    walk_at "nw"
    exact ⟨l,hs,_,rfl,O.get 0,by rw [e4];rfl,n4,O.same.t1,fun H5 sm=>q _ (O.same.trans sm)⟩
abbrev Inn:=List (Addr × List Int)
def qR (inn:Inn):List (Addr × HO):=inn.map fun p=>(p.1,.lst (p.2.map V.int))
theorem wV {inn:Inn} {i:Nat} {a:Addr} {hs:List Int} (h:inn[i]?=some (a,hs)):(qR inn)[i]?=some (a,.lst (hs.map V.int)):=by
  unfold qR;rw [List.getElem?_map,h];rfl
theorem Fp (inn:Inn) (i:Nat) (a:Addr) (hs:List Int):(qR inn).set i (a,.lst (hs.map V.int))=qR (inn.set i (a,hs)):=by
  unfold qR;rw [List.map_set]
def rF (inn:Inn):List V:=inn.map fun p=>V.ref p.1
theorem Bu {inn:Inn} {i:Nat} {a:Addr} {hs:List Int} (h:inn[i]?=some (a,hs)):(rF inn)[i]?=some (.ref a):=by
  unfold rF;rw [List.getElem?_map,h];rfl
theorem Ek {inn:Inn} {i:Nat} {a:Addr} {hs gs:List Int} (h:inn[i]?=some (a,hs)):rF (inn.set i (a,gs))=rF inn:=by
  refine List.ext_getElem? fun k=>?_
  unfold rF
  rw [List.getElem?_map,List.getElem?_map,List.getElem?_set]
  by_cases e:i=k
  · subst e
    rw [if_pos rfl,if_pos (List.getElem?_eq_some_iff.mp h).1,h];rfl
  · rw [if_neg e]
structure ug (n m:Nat) (inn:Inn) (Q:Nat→Nat→Prop):Prop where
  len:inn.length=n
  at_:∀ i,i<n→∃ a hs,inn[i]?=some (a,hs)∧hs.length≤m∧∀ x:Int,x∈hs↔∃ j:Nat,x=(j:Int)∧Q i j
theorem ug.qU {n m m':Nat} {inn:Inn} {Q Q':Nat→Nat→Prop} (h:ug n m inn Q) (hm:m≤m') (e:∀ i j,i<n→(Q i j↔Q' i j)):ug n m' inn Q' :=
  ⟨h.len,fun i hi=>by
    obtain ⟨a,hs,h1,h2,h3⟩:=h.at_ i hi
    refine ⟨a,hs,h1,by omega,fun x=>(h3 x).trans ⟨?_,?_⟩⟩
    · rintro ⟨j,e1,e2⟩;exact ⟨j,e1,(e i j hi).mp e2⟩
    · rintro ⟨j,e1,e2⟩;exact ⟨j,e1,(e i j hi).mpr e2⟩⟩
theorem ug.app {n m:Nat} {inn:Inn} {Q:Nat→Nat→Prop} {z k:Nat} {a:Addr} {hs:List Int} (h:ug n m inn Q) (hz:inn[z]?=some (a,hs)):ug n (m + 1) (inn.set z (a,hs++[(k:Int)])) (fun i j=>Q i j∨(i=z∧j=k)):=by
  refine ⟨by rw [List.length_set];exact h.len,fun i hi=>?_⟩
  obtain ⟨b,gs,h1,h2,h3⟩:=h.at_ i hi
  by_cases e:z=i
  · subst e
    rw [hz] at h1
    have e1:=Option.some.inj h1
    have ea:a=b:=congrArg Prod.fst e1
    have eh:hs=gs:=congrArg Prod.snd e1
    subst ea eh
    refine ⟨a,hs++[(k:Int)],by rw [List.getElem?_set_self (List.getElem?_eq_some_iff.mp hz).1],by rw [List.length_append];show hs.length + 1≤_;omega,fun x=>?_⟩
    rw [List.mem_append,h3 x,List.mem_singleton]
    constructor
    · rintro (⟨j,e1,e2⟩ | e1)
      · exact ⟨j,e1,.inl e2⟩
      · exact ⟨k,e1,.inr ⟨rfl,rfl⟩⟩
    · rintro ⟨j,e1,e2 | ⟨_,e2⟩⟩
      · exact .inl ⟨j,e1,e2⟩
      · exact .inr (by rw [e1,e2])
  · refine ⟨b,gs,by rw [List.getElem?_set_ne e];exact h1,by omega,fun x=>(h3 x).trans ⟨?_,?_⟩⟩
    · rintro ⟨j,e1,e2⟩;exact ⟨j,e1,.inl e2⟩
    · rintro ⟨j,e1,e2 | ⟨e2,_⟩⟩
      · exact ⟨j,e1,e2⟩
      · exact absurd e2.symm e
theorem Dt {d n i d' m j:Int} (h:Tn.Pk d n i d' m j):HT.lexLt [d',m,j] [d,n,i]=false:=by
  by_cases e:HT.lexLt [d',m,j] [d,n,i]=true
  · rw [lex3] at e
    unfold Tn.Pk at h
    omega
  · simpa using e
def qz (ls:List Lic) (xs:List Int) (k:Nat) (x:Int):Bool:=decide (xs.getD x.toNat 0 > 0) && HT.lexLt [qK ls k,xs.getD k 0 + 1,(k:Int)] [qK ls x.toNat,xs.getD x.toNat 0,x]
theorem wX {α:Type} (p:α→Bool) {l:List α} {i:Nat} {x:α} (h:l[i]?=some x):(l.take (i + 1)).filter p=(l.take i).filter p++if p x=true then [x] else []:=by
  rw [List.take_add_one,h,Option.toList_some,List.filter_append,Tn.m6]
abbrev cH:Stmt:=top 57
theorem bH:aX ["below","springs","roll","wants","takes","water","held","holders","k","at","dry","after","later"] ["below","springs","roll","wants","takes"] (ao cH):=⟨rfl,rfl,rfl,by decide +kernel,rfl,by decide +kernel,by decide +kernel⟩
def Gx (K:PySem.W.Frag) (T:fZ):Sp:=fun vs H Q _=>∃ (a b c d e:Addr) (r s:List Int) (rs:List V) (ls:List Lic) (ws xs:List Int),vs=[.ref a,.ref b,.ref c,.ref d,.ref e]∧SqL K H a (r.map V.int)∧Rv.dU r∧r.length<64∧SqL K H b (s.map V.int)∧s.length=r.length∧(∀ x∈s,0≤x)∧SqL K H c rs∧cg K H rs (ls.map qT)∧ls.length<64∧(∀ l∈ls,Gp r l)∧SqL K H d (ws.map V.int)∧ws.length=ls.length∧SqL K H e (xs.map V.int)∧xs.length=ls.length∧Tn.Fit ls.length (Tn.fF (Rv.nats r s)) (oN r ls) (Tn.fX ws) (Tn.fX xs)∧Tn.uf ls.length (Tn.fF (Rv.nats r s)) (oN r ls) (qK ls) (Tn.fX ws) (Tn.fX xs)∧TabsOk T H∧∀ H',bI T H H'→Q (.bl true) H'
theorem Qz {f fW:Addr} {fd fdW:FuncData} (D:Df K mg "_law_shown" cH ["below","springs","roll","wants","takes"] f fd) (B:Blt mg) (bB:Df K mg "_law_way" fO ["below","start","stop"] fW fdW) (jd:cA P w K mg base CX0 1 fW fdW ["below","start","stop"] (sS K T)) :
    cA P w K mg base CX0 2 f fd ["below","springs","roll","wants","takes"] (Gx K T):=by
  refine D.F.ok bH (fun vs H Q E h=>?_) (fun cdv A outer s H vs Q E hr h=>?_)
  · obtain ⟨_,_,_,_,_,_,_,_,_,_,_,rfl,_⟩:=h;rfl
  · obtain ⟨a,b,c,d,e,r,sp,rs,ls,ws,xs,rfl,hS,hR,h64,hB,hl,hsn,hC,d0,l64,hok,hD,hwl,hE,hxl,FT,SH,tk,q⟩:=h
    have hu:=hr.units
    have hrl:rs.length=ls.length:=by rw [d0.length,List.length_map]
    refine ⟨_,(au (aR (i:=5) bH.nd rfl (Or.inr rfl) (aQ qt (cZ (ak aA aq)) (aK aH rfl B.len PySem.boot_len (ak (pv 0) aq))))
      (au (aR (i:=6) bH.nd rfl (Or.inr rfl) (aQ qt (cZ (ak aA aq)) (aK aH rfl B.len PySem.boot_len (ak (pv 0) aq))))
      (au (fP (i:=7) (ao cH) rfl ["below","springs","roll","wants","takes","water","held","holders","k","at","dry","after","later"] rfl ["k"] [none] (by decide +kernel) (by decide +kernel) (by decide +kernel) rfl bH.nd rfl rfl (bW rfl B.range (ak (aK aH rfl B.len PySem.boot_len (ak (pv 0) aq)) aq)) (fun _ _ _=>(aD (i:=0) (show (["k"]:List Str).Nodup by decide +kernel) rfl (Or.inl rfl))) (fun _ _ _=>gM) (fun _ _ _=>(cZ aq)) rfl)
      (au (cP PassesOwn.never rfl (bW rfl B.range (ak (aK aH rfl B.len PySem.boot_len (ak (pv 0) aq)) aq)) (aD (i:=8) bH.nd rfl (Or.inl rfl))
        (aB (cP PassesOwn.never rfl (bO (aM jd (hr.mono (by decide)) rfl bB.m bB.F.kp bB.b .nil bD (ak (pv 0) (ak (pv 8) (ak (lY jo aA) aq))))) (aD (i:=9) bH.nd rfl (Or.inl rfl))
          (aB (gY (aQ cQ (aL aG (pv 5) (pv 9) (fun _ _=>rfl)) (aL aG (pv 1) (pv 8) (fun _ _=>rfl))) (nj (pv 5) (pv 9) set_list))))))
      (au (cP PassesOwn.never rfl (bW rfl B.range (ak (aK aH rfl B.len PySem.boot_len (ak (pv 2) aq)) aq)) (aD (i:=8) bH.nd rfl (Or.inl rfl))
        (aB (cP PassesOwn.never rfl (bO (aM jd (hr.mono (by decide)) rfl bB.m bB.F.kp bB.b .nil bD (ak (pv 0) (ak (aL cX (aL aG (pv 2) (pv 8) (fun _ _=>rfl)) aA (fun _ _=>rfl)) (ak (aL cX (aL aG (pv 2) (pv 8) (fun _ _=>rfl)) aA (fun _ _=>rfl)) aq))))) (aD (i:=9) bH.nd rfl (Or.inl rfl))
          (au (gY (aQ cQ (aL aG (pv 6) (pv 9) (fun _ _=>rfl)) (aL aG (pv 4) (pv 8) (fun _ _=>rfl))) (nj (pv 6) (pv 9) set_list))
          (aB (dZ (mq PySem.F.plainAttrs_list PySem.F.slot_list_append PySem.F.type_list_append cL (aL aG (pv 7) (pv 9) (fun _ _=>rfl)) (ak (pv 8) aq))))))))
      (au (cP PassesOwn.never rfl (bW rfl B.range (ak (aK aH rfl B.len PySem.boot_len (ak (pv 2) aq)) aq)) (aD (i:=8) bH.nd rfl (Or.inl rfl))
        (au (aR (i:=10) bH.nd rfl (Or.inl rfl) (mj jB (aL aG (pv 4) (pv 8) (fun _ _=>rfl)) (aL aG (pv 3) (pv 8) (fun _ _=>rfl)) (bw _)))
        (au (cP PassesOwn.never rfl (bO (aM jd (hr.mono (by decide)) rfl bB.m bB.F.kp bB.b .nil bD (ak (pv 0) (ak (aL cX (aL aG (pv 2) (pv 8) (fun _ _=>rfl)) aA (fun _ _=>rfl)) (ak (aL cX (aL aG (pv 2) (pv 8) (fun _ _=>rfl)) aA (fun _ _=>rfl)) aq))))) (aD (i:=9) bH.nd rfl (Or.inl rfl))
          (aB (iK (PW.pt (pw_and (kI (kE (pv 10))) (pw_and1 (aW jB (aL aG (pv 6) (pv 9) (fun _ _=>rfl)) (aL aG (pv 5) (pv 9) (fun _ _=>rfl)) (bw _)))))
            (au (aR (i:=11) bH.nd rfl (Or.inr rfl) (jV (ak (aL cX (aL aG (pv 2) (pv 8) (fun _ _=>rfl)) aA (fun _ _=>rfl)) (ak (aQ cQ (aL aG (pv 4) (pv 8) (fun _ _=>rfl)) aA) (ak (pv 8) aq)))))
            (au (fP (i:=12) (ao cH) rfl ["below","springs","roll","wants","takes","water","held","holders","k","at","dry","after","later"] rfl ["j","after","takes","roll"] [none,some 11,some 4,some 2] (by decide +kernel) (by decide +kernel) (by decide +kernel) rfl bH.nd rfl rfl (bO (aL aG (pv 7) (pv 9) (fun _ _=>rfl))) (fun _ _ _=>(aD (i:=0) (show (["j","after","takes","roll"]:List Str).Nodup by decide +kernel) rfl (Or.inl rfl))) (fun _ _ _=>(jU (PW.pt (pw_and (aW wL (aL (bM (K:=K) rfl) (pv 2) (pv 0) (fun _ _=>rfl)) aA (bw _)) (pw_and1 (aW (NQ (K:=K) rfl (Nat.lt_of_le_of_lt (Nat.le_add_right _ 64) hu)) (jV (ak (aL (lK (K:=K) rfl) (aL (bM (K:=K) rfl) (pv 3) (pv 0) (fun _ _=>rfl)) aA (fun _ _=>rfl)) (ak (aL (bM (K:=K) rfl) (pv 2) (pv 0) (fun _ _=>rfl)) (ak (pv 0) aq)))) (pv 1) (bw _))))))) (fun _ _ _=>(pv 0)) rfl)
            (aB (aR (i:=10) bH.nd rfl (Or.inl rfl) (mj (yF hu) (pv 12) (cZ aq) (bw _))))))
            cu)))
        (aB (iK (PW.pt (pw_or (aW wL (aL aG (pv 4) (pv 8) (fun _ _=>rfl)) (aL aG (pv 3) (pv 8) (fun _ _=>rfl)) (bw _)) (pw_or1 (kI (kE (pv 10))))))
          (aB (bx BJ))
          cu)))))
      (aB (bx (mj (yF hu) (gD (ao cH) rfl ["below","springs","roll","wants","takes","water","held","holders","k","at","dry","after","later"] rfl ["at","held","water"] [none,some 6,some 5] (by decide +kernel) (by decide +kernel) (by decide +kernel) rfl (bW rfl B.range (ak (aK aH rfl B.len PySem.boot_len (ak (pv 0) aq)) aq)) (fun _ _ _=>(aD (i:=0) (show (["at","held","water"]:List Str).Nodup by decide +kernel) rfl (Or.inl rfl))) (fun _ _ _=>(jU (aW wL (aL (bM (K:=K) rfl) (pv 1) (pv 0) (fun _ _=>rfl)) (aL (bM (K:=K) rfl) (pv 2) (pv 0) (fun _ _=>rfl)) (bw _)))) (fun _ _ _=>(pv 0))) (cZ aq) (bw _)))))))))),?_⟩
    refine Wg ?_
    intro zu0 zu1 zu2 zu3 zu4 zu5 zu6 zu7 zu8 zu9 zu10 zu11 zu12 zu13 zu14 zu15 zu16 zu17 zu18
    have hml:(r.map V.int).length=r.length:=List.length_map _
    have O:=Ow.refl tk
    have rep:∀ {H':Hp} {L:List (Addr × HO)},Ow T H H' L→True:=fun _=>trivial
    clear rep
    refine ⟨szl,fun l0 hl0=>?_⟩
    walk_at "nw"
    refine ⟨_,rfl,a,_,rfl,.inl (O.same.seq hS),l0,_,_,rfl,rfl,O.get 0,by rw [hml];omega,by rw [hml];omega,jF (by rw [hml,Int.toNat_natCast];simp;omega),fun lw hlw=>?_⟩
    walk_at "nw"
    rw [hml,Int.toNat_natCast,kj] at O
    have O:=O.two
    refine ⟨szl,fun l0 hl0=>?_⟩
    walk_at "nw"
    refine ⟨_,rfl,a,_,rfl,.inl (O.same.seq hS),l0,_,_,rfl,rfl,O.get 0,by rw [hml];omega,by rw [hml];omega,jF (by rw [hml,Int.toNat_natCast];simp;omega),fun lh hlh=>?_⟩
    walk_at "nw"
    rw [hml,Int.toNat_natCast,kj] at O
    have O:=O.two
    /- holders -/
    refine ⟨_,rfl,a,_,rfl,.inl (O.same.seq hS),(r.length:Int),by rw [hml],by omega,by omega,fun lo hlo=>?_⟩
    rw [Int.toNat_natCast]
    refine gA (n:=r.length) (fun i τ H'=>Iv (∃ (v0:Option V) (inn:Inn),τ=[v0]∧ug i 0 inn (fun _ _=>False)∧Ow T H H' ((lo,.lst (rF inn)) :: (lh,.lst ((List.replicate r.length 0).map V.int)) :: (lw,.lst ((List.replicate r.length 0).map V.int)) :: qR inn)))
      ⟨trivial,none,[],rfl,⟨rfl,fun i hi=>absurd hi (Nat.not_lt_zero i)⟩,O.mk' hlo rfl⟩ ?_ ?_
    · clear O
      rintro i τ H3 hi ⟨-,v0,inn,rfl,IO,O⟩
      have hil:=IO.len
      refine za ?_
      refine ⟨szl,fun la hla=>?_⟩
      walk_at "nw"
      refine ⟨_,O.get 1,aP (by unfold rF;rw [List.length_map];omega),?_⟩
      generalize hE:upd _ _ _=Hn2
      have O:=Ow.uW O 1 rfl hE rfl
      clear hE
      refine ⟨trivial,_,inn++[(la,[])],rfl,⟨by rw [List.length_append,hil];rfl,fun j hj=>?_⟩,?_⟩
      · by_cases hji:j<inn.length
        · obtain ⟨a1,hs,h1,h2,h3⟩:=IO.at_ j (by omega)
          exact ⟨a1,hs,by rw [List.getElem?_append_left hji];exact h1,h2,h3⟩
        · have:j=inn.length:=by omega
          subst this
          refine ⟨la,[],by rw [List.getElem?_append_right (Nat.le_refl _),Nat.sub_self];rfl,Nat.zero_le _,fun x=>⟨fun h=>(by cases h),fun ⟨_,_,h⟩=>h.elim⟩⟩
      · have hp:=O.perm (L':=((lo,HO.lst (rF inn++[.ref la])) :: (lh,.lst ((List.replicate r.length 0).map V.int)) :: (lw,.lst ((List.replicate r.length 0).map V.int)) :: qR inn)++[(la,.lst [])]) (List.perm_append_singleton _ _)
        have e1:rF (inn++[(la,[])])=rF inn++[.ref la]:=by unfold rF;rw [List.map_append];rfl
        have e2:qR (inn++[(la,[])])=qR inn++[(la,.lst [])]:=by unfold qR;rw [List.map_append];rfl
        rw [e1,e2];exact hp
    clear O
    rintro τ H3 ⟨-,v0,inn,rfl,IO,O⟩
    have FZ:Rv.Fl r.length (List.replicate r.length (0:Int)) fun _=>0:=(Rv.Fl.rep r.length 0).qU fun i _=>rfl
    /- water -/
    refine ⟨_,rfl,a,_,rfl,.inl (O.same.seq hS),(r.length:Int),by rw [hml],by omega,by omega,?_⟩
    rw [Int.toNat_natCast]
    refine gG (n:=r.length) (fun t σ H3=>Iv (∃ (v8 v9:Option V) (fl:List Int),σ=[some (.ref a),some (.ref b),some (.ref c),some (.ref d),some (.ref e),some (.ref lw),some (.ref lh),some (.ref lo),v8,v9,none,none,none]∧Ow T H H3 ((lo,.lst (rF inn)) :: (lh,.lst ((List.replicate r.length 0).map V.int)) :: (lw,.lst (fl.map V.int)) :: qR inn)∧Rv.Fl r.length fl (Rv.wsum r sp t)))
      ⟨trivial,none,none,_,rfl,O,FZ⟩ ?_ ?_
    · clear O
      rintro t σ H3 ht ⟨-,v8,v9,fl,rfl,O,FL⟩
      rw [show (0:Int) + (t:Int)=(t:Int) by omega]
      refine ⟨_,rfl,_,rfl,_,rfl,a,r,(t:Int),-1,rfl,O.same.seq hS,hR,by omega,by omega,by omega,.inl rfl,O.same.t1,O.oZ fun ly H4 zs O ew=>?_⟩
      subst ew
      rw [p7] at O
      refine ⟨ly,rfl,⟨_,O.sq 0⟩,?_⟩
      refine cW (K:=K) (a:=ly) (xs:=(Rv.walk r (t:Int)).map V.int) (fun i σ H5=>Iv (∃ (v9:Option V) (fl:List Int),σ=[some (.ref a),some (.ref b),some (.ref c),some (.ref d),some (.ref e),some (.ref lw),some (.ref lh),some (.ref lo),some (.int (t:Int)),v9,none,none,none] ∧
        Ow T H H5 ((ly,.lst ((Rv.walk r (t:Int)).map V.int)) :: (lo,.lst (rF inn)) :: (lh,.lst ((List.replicate r.length 0).map V.int)) :: (lw,.lst (fl.map V.int)) :: qR inn)∧Rv.MvI r (Rv.wsum r sp t) (-(sp.getD t 0)) ((Rv.walk r (t:Int)).take i) fl))
        ⟨trivial,v9,fl,rfl,O,Rv.MvI.start _ FL⟩ (fun _ _ _ _ ⟨_,_,_,_,O,_⟩=>O.sq 0) ?_ ?_
      · rintro i y σ H5 hy ⟨-,v9,fl,rfl,O,MI⟩
        obtain ⟨z,hz,rfl⟩:=ints_get hy
        obtain ⟨z0,z1⟩:=Rv.mV hR (t:Int) (by omega) (by omega) z (List.mem_of_getElem? hz)
        obtain ⟨zn,rfl⟩:=Int.eq_ofNat_of_zero_le z0
        have hzl:zn<r.length:=by omega
        obtain ⟨x,hx⟩:∃ x,fl[zn]?=some x:=⟨_,MI.at_ zn hzl⟩
        refine ⟨_,rfl,_,rfl,lw,_,_,_,rfl,rfl,O.sq 3,bh hx,_,rfl,_,rfl,b,_,_,_,rfl,rfl,O.same.seq hB,bh (aY (ns:=sp) (k:=t) (by omega)),_,_,rfl,rfl,_,rfl,_,rfl,?_⟩
        refine nq O 3 rfl (jY (by rw [List.length_map,MI.len];exact hzl)) fun H6 O=>?_
        refine ⟨trivial,_,fl.set zn (x + sp.getD t 0),rfl,?_,?_⟩
        · rw [List.map_set];exact O
        · rw [List.take_add_one,hz,show x + sp.getD t 0=x - -(sp.getD t 0) by omega]
          exact MI.turn hzl (qu (Rv.rW hR (by omega) (by omega)) hz) hx
      · rintro σ H5 ⟨-,v9,fl,rfl,O,MI⟩
        rw [List.length_map,List.take_length] at MI
        exact ⟨trivial,_,_,fl,rfl,O.tail,Rv.zW MI⟩
    clear O
    rintro σ H4 ⟨-,v8,v9,fl,rfl,O,FL⟩
    have FL:Rv.Fl r.length fl fun i=>Rv.kO r sp (i:Int):=FL.qU fun i _=>Rv.Ea r sp i
    have efl:fl=Rv.nats r sp:=Rv.Fl.ext FL (Rv.qw r sp)
    subst efl
    clear FL
    /- held, holders -/
    refine ⟨_,rfl,c,_,rfl,.inl (O.same.seq hC),(rs.length:Int),rfl,by omega,by omega,?_⟩
    rw [Int.toNat_natCast,hrl]
    refine gG (n:=ls.length) (fun t σ H3=>Iv (∃ (v8 v9:Option V) (fl:List Int) (inn:Inn),σ=[some (.ref a),some (.ref b),some (.ref c),some (.ref d),some (.ref e),some (.ref lw),some (.ref lh),some (.ref lo),v8,v9,none,none,none]∧Ow T H H3 ((lo,.lst (rF inn)) :: (lh,.lst (fl.map V.int)) :: (lw,.lst ((Rv.nats r sp).map V.int)) :: qR inn)∧(Rv.Fl r.length fl fun i=>Tn.hold t (oN r ls) (Tn.fX xs) (i:Int))∧ug r.length (100 * t) inn (fun i j=>j<t∧(i:Int)∈oN r ls j)))
      ⟨trivial,v8,v9,_,inn,rfl,O,FZ,IO.qU (Nat.le_refl _) fun i j _=>⟨False.elim,fun z=>absurd z.1 (Nat.not_lt_zero j)⟩⟩ ?_ ?_
    · clear O IO
      rintro t σ H5 ht ⟨-,v8,v9,fl,inn,rfl,O,FL,IO⟩
      rw [show (0:Int) + (t:Int)=(t:Int) by omega]
      obtain ⟨l,hli⟩:∃ l,ls[t]?=some l:=⟨_,List.getElem?_eq_getElem ht⟩
      obtain ⟨al,hal,hT⟩:=d0.lV hli
      obtain ⟨g0,g1,g2⟩:=hok l (List.mem_of_getElem? hli)
      have eW:=pQ (r:=r) hli
      have hwk:=Rv.pK r l.start
      have hsl:(Rv.bQ r l.start l.back).length≤(Rv.walk r l.start).length:=by
        unfold Rv.bQ
        split
        · exact Nat.le_refl _
        · exact (List.takeWhile_sublist _).length_le
      refine ⟨_,rfl,_,rfl,_,rfl,c,_,_,_,rfl,rfl,O.same.seq hC,bR hal,al,_,1,_,rfl,rfl,hT.mo O.same,rfl,_,rfl,_,rfl,c,_,_,_,rfl,rfl,O.same.seq hC,bR hal,al,_,2,_,rfl,rfl,hT.mo O.same,rfl,a,r,l.start,l.back,rfl,O.same.seq hS,hR,g0,g1,by omega,g2,O.same.t1,O.oZ fun ly H6 zs O e=>?_⟩
      subst e
      refine ⟨ly,rfl,⟨_,O.sq 0⟩,?_⟩
      refine cW (K:=K) (a:=ly) (xs:=(Rv.bQ r l.start l.back).map V.int) (fun i σ H5=>Iv (∃ (v9:Option V) (fl:List Int) (inn:Inn),σ=[some (.ref a),some (.ref b),some (.ref c),some (.ref d),some (.ref e),some (.ref lw),some (.ref lh),some (.ref lo),some (.int (t:Int)),v9,none,none,none] ∧
        Ow T H H5 ((ly,.lst ((Rv.bQ r l.start l.back).map V.int)) :: (lo,.lst (rF inn)) :: (lh,.lst (fl.map V.int)) :: (lw,.lst ((Rv.nats r sp).map V.int)) :: qR inn)∧Rv.MvI r (fun i=>Tn.hold t (oN r ls) (Tn.fX xs) (i:Int)) (-(xs.getD t 0)) ((Rv.bQ r l.start l.back).take i) fl∧ug r.length (100 * t + i) inn (fun z j=>(j<t∧(z:Int)∈oN r ls j)∨((z:Int)∈(Rv.bQ r l.start l.back).take i∧j=t))))
        ⟨trivial,v9,fl,inn,rfl,O,Rv.MvI.start _ FL,IO.qU (by omega) fun i j _=>⟨.inl,fun z=>z.elim id fun z=>by simp at z⟩⟩ (fun _ _ _ _ ⟨_,_,_,_,_,O,_⟩=>O.sq 0) ?_ ?_
      · clear O FL IO
        rintro i y σ H5 hy ⟨-,v9,fl,inn,rfl,O,MI,IO⟩
        obtain ⟨z,hz,rfl⟩:=ints_get hy
        have hi:=(List.getElem?_eq_some_iff.mp hz).1
        obtain ⟨z0,z1⟩:=Rv.mV hR l.start g0 g1 z (Rv.nR (List.mem_of_getElem? hz))
        obtain ⟨zn,rfl⟩:=Int.eq_ofNat_of_zero_le z0
        have hzl:zn<r.length:=by omega
        obtain ⟨x,hx⟩:∃ x,fl[zn]?=some x:=⟨_,MI.at_ zn hzl⟩
        obtain ⟨ad,hs,hin,hhl,hmem⟩:=IO.at_ zn hzl
        refine ⟨_,rfl,_,rfl,lh,_,_,_,rfl,rfl,O.sq 2,bh hx,_,rfl,_,rfl,e,_,_,_,rfl,rfl,O.same.seq hE,bh (aY (ns:=xs) (k:=t) (by omega)),_,_,rfl,rfl,_,rfl,_,rfl,?_⟩
        refine nq O 2 rfl (jY (by rw [List.length_map,MI.len];exact hzl)) fun H6 O=>?_
        have hL:∀ (o1 o2 o3 o4:Addr × HO),(o1 :: o2 :: o3 :: o4 :: qR inn)[zn + 4]?=some (ad,.lst (hs.map V.int)):=fun o1 o2 o3 o4=>wV hin
        refine ⟨_,rfl,_,rfl,lo,_,_,.ref ad,rfl,rfl,O.sq 1,bR (Bu hin),.inl ⟨rfl,_,O.sq (zn + 4) (hL _ _ _ _)⟩,_,rfl,?_⟩
        refine ⟨ad,_,_,rfl,rfl,O.get (zn + 4) (hL _ _ _ _),aP (by rw [List.length_map];omega),?_⟩
        generalize hEE:upd _ _ _=H7
        have O:=Ow.uW O (zn + 4) (hL _ _ _ _) hEE rfl
        clear hEE
        have O:Ow T H H7 ((ly,.lst ((Rv.bQ r l.start l.back).map V.int)) :: (lo,.lst (rF inn)) :: (lh,.lst ((fl.map V.int).set zn (.int (x + xs.getD t 0)))) :: (lw,.lst ((Rv.nats r sp).map V.int)) :: (qR inn).set zn (ad,.lst (hs.map V.int++[.int (t:Int)]))):=O
        rw [mZ,Fp] at O
        refine ⟨trivial,_,fl.set zn (x + xs.getD t 0),inn.set zn (ad,hs++[(t:Int)]),rfl,?_,?_,?_⟩
        · rw [List.map_set,Ek hin];exact O
        · rw [List.take_add_one,hz,show x + xs.getD t 0=x - -(xs.getD t 0) by omega]
          exact MI.turn hzl (qu (Rv.pN hR g0 g1) hz) hx
        · refine (IO.app (k:=t) hin).qU (by omega) fun p j hp=>?_
          rw [List.take_add_one,hz,Option.toList_some,List.mem_append,List.mem_singleton]
          constructor
          · rintro ((h | h) | ⟨h1,h2⟩)
            · exact .inl h
            · exact .inr ⟨.inl h.1,h.2⟩
            · exact .inr ⟨.inr (by rw [h1]),h2⟩
          · rintro (h | ⟨h1 | h1,h2⟩)
            · exact .inl (.inl h)
            · exact .inl (.inr ⟨h1,h2⟩)
            · exact .inr ⟨by omega,h2⟩
      · rintro σ H7 ⟨-,v9,fl,inn,rfl,O,MI,IO⟩
        rw [List.length_map] at IO
        rw [List.length_map,List.take_length] at MI
        rw [List.take_length] at IO
        refine ⟨trivial,_,_,fl,inn,rfl,O.tail,?_,IO.qU (by omega) fun p j _=>?_⟩
        · refine Rv.Fl.qU MI fun i _=>?_
          show _=Tn.hold t (oN r ls) (Tn.fX xs) (i:Int) + if (i:Int)∈oN r ls t then Tn.fX xs t else 0
          rw [eW]
          show Tn.hold t (oN r ls) (Tn.fX xs) (i:Int) - (if (i:Int)∈Rv.bQ r l.start l.back then -(xs.getD t 0) else 0)=_ + if (i:Int)∈Rv.bQ r l.start l.back then xs.getD t 0 else 0
          split <;> omega
        · constructor
          · rintro (h | ⟨h1,h2⟩)
            · exact ⟨by omega,h.2⟩
            · subst h2;exact ⟨by omega,by rw [eW];exact h1⟩
          · rintro ⟨h1,h2⟩
            by_cases hj:j=t
            · subst hj;exact .inr ⟨by rw [eW] at h2;exact h2,rfl⟩
            · exact .inl ⟨by omega,h2⟩
    clear O IO
    rintro σ H5 ⟨-,v8,v9,fl,inn,rfl,O,FL,IO⟩
    /- each shown -/
    refine ⟨_,rfl,c,_,rfl,.inl (O.same.seq hC),(rs.length:Int),rfl,by omega,by omega,?_⟩
    rw [Int.toNat_natCast,hrl]
    have fle:∀ z:Nat,z<r.length→fl[z]?=some (Tn.hold ls.length (oN r ls) (Tn.fX xs) (z:Int)):=fun z hz=>FL.at_ z hz
    have nle:∀ z:Nat,z<r.length→(Rv.nats r sp)[z]?=some (Rv.kO r sp (z:Int)):=fun z hz=>(Rv.qw r sp).at_ z hz
    refine gG (n:=ls.length) (fun t σ H3=>Iv (∃ (v8 v9 v10 v11 v12:Option V),σ=[some (.ref a),some (.ref b),some (.ref c),some (.ref d),some (.ref e),some (.ref lw),some (.ref lh),some (.ref lo),v8,v9,v10,v11,v12]∧Ow T H H3 ((lo,.lst (rF inn)) :: (lh,.lst (fl.map V.int)) :: (lw,.lst ((Rv.nats r sp).map V.int)) :: qR inn)))
      ⟨trivial,v8,v9,none,none,none,rfl,O⟩ ?_ ?_
    · clear O
      rintro t σ H6 ht ⟨-,v8,v9,v10,v11,v12,rfl,O⟩
      rw [show (0:Int) + (t:Int)=(t:Int) by omega]
      obtain ⟨l,hli⟩:∃ l,ls[t]?=some l:=⟨_,List.getElem?_eq_getElem ht⟩
      obtain ⟨al,hal,hT⟩:=d0.lV hli
      obtain ⟨g0,g1,g2⟩:=hok l (List.mem_of_getElem? hli)
      have eW:=pQ (r:=r) hli
      have xt:xs[t]?=some (xs.getD t 0):=aY (by omega)
      have wt:ws[t]?=some (ws.getD t 0):=aY (by omega)
      have hle:xs.getD t 0≤ws.getD t 0:=FT.le t ht
      refine ⟨_,rfl,_,rfl,e,_,_,_,rfl,rfl,O.same.seq hE,bh xt,_,rfl,_,rfl,d,_,_,_,rfl,rfl,O.same.seq hD,bh wt,rfl,?_⟩
      refine ⟨_,rfl,_,rfl,_,rfl,c,_,_,_,rfl,rfl,O.same.seq hC,bR hal,al,_,1,_,rfl,rfl,hT.mo O.same,rfl,_,rfl,_,rfl,c,_,_,_,rfl,rfl,O.same.seq hC,bR hal,al,_,2,_,rfl,rfl,hT.mo O.same,rfl,a,r,l.start,l.back,rfl,O.same.seq hS,hR,g0,g1,by omega,g2,O.same.t1,O.oZ fun ly H7 zs O e9=>?_⟩
      subst e9
      refine ⟨ly,rfl,⟨_,O.sq 0⟩,?_⟩
      refine cW (K:=K) (a:=ly) (xs:=(Rv.bQ r l.start l.back).map V.int) (fun i σ H5=>Iv (∃ (v9 v11 v12:Option V) (β:Bool),σ=[some (.ref a),some (.ref b),some (.ref c),some (.ref d),some (.ref e),some (.ref lw),some (.ref lh),some (.ref lo),some (.int (t:Int)),v9,some (.bl β),v11,v12] ∧
        Ow T H H5 ((ly,.lst ((Rv.bQ r l.start l.back).map V.int)) :: (lo,.lst (rF inn)) :: (lh,.lst (fl.map V.int)) :: (lw,.lst ((Rv.nats r sp).map V.int)) :: qR inn)∧(β=false→xs.getD t 0≠ws.getD t 0∧∀ z∈(Rv.bQ r l.start l.back).take i,¬ Tn.nO ls.length (Tn.fF (Rv.nats r sp)) (oN r ls) (qK ls) (Tn.fX xs) t z)))
        ⟨trivial,v9,v11,v12,_,rfl,O,fun h=>⟨fun z=>by rw [z] at h;simp at h,fun z hz=>by simp at hz⟩⟩ (fun _ _ _ _ ⟨_,_,_,_,_,_,O,_⟩=>O.sq 0) ?_ ?_
      · clear O
        rintro i y σ H8 hy ⟨-,v9,v11,v12,β,rfl,O,hβ⟩
        obtain ⟨z,hz,rfl⟩:=ints_get hy
        obtain ⟨z0,z1⟩:=Rv.mV hR l.start g0 g1 z (Rv.nR (List.mem_of_getElem? hz))
        obtain ⟨zn,rfl⟩:=Int.eq_ofNat_of_zero_le z0
        have hzl:zn<r.length:=by omega
        have grow:∀ b:Bool,(b=false→β=false∧¬ Tn.nO ls.length (Tn.fF (Rv.nats r sp)) (oN r ls) (qK ls) (Tn.fX xs) t (zn:Int))→(b=false→xs.getD t 0≠ws.getD t 0∧∀ z∈(Rv.bQ r l.start l.back).take (i + 1),¬ Tn.nO ls.length (Tn.fF (Rv.nats r sp)) (oN r ls) (qK ls) (Tn.fX xs) t z):=fun b hb e=>by
          obtain ⟨h1,h2⟩:=hb e
          obtain ⟨h3,h4⟩:=hβ h1
          refine ⟨h3,fun y hy=>?_⟩
          rw [List.take_add_one,hz,Option.toList_some,List.mem_append,List.mem_singleton] at hy
          rcases hy with h | h
          · exact h4 y h
          · rw [h];exact h2
        refine ⟨_,rfl,_,rfl,ifN (ifB (fun hb=>?_) fun hb=>?_)⟩
        · refine pH ⟨trivial,_,_,_,β,rfl,O,fun h=>?_⟩
          rw [hb] at h;cases h
        refine ⟨_,rfl,_,rfl,lh,_,_,_,rfl,rfl,O.sq 2,bh (fle zn hzl),_,rfl,_,rfl,lw,_,_,_,rfl,rfl,O.sq 3,bh (nle zn hzl),rfl,_,rfl,ifI (fun hc=>?_) fun hc=>?_⟩
        · refine ⟨_,rfl,_,rfl,c,_,_,_,rfl,rfl,O.same.seq hC,bR hal,al,_,0,_,rfl,rfl,hT.mo O.same,rfl,_,rfl,_,rfl,e,_,_,_,rfl,rfl,O.same.seq hE,bh xt,_,_,rfl,rfl,_,rfl,szl,fun ta hta=>?_⟩
          walk_at "nw"
          obtain ⟨ad,hs,hin,hhl,hmem⟩:=IO.at_ zn hzl
          have hL:∀ (o1 o2 o3 o4 o5:Addr × HO),(o1 :: o2 :: o3 :: o4 :: o5 :: qR inn)[zn + 5]?=some (ad,.lst (hs.map V.int)):=fun o1 o2 o3 o4 o5=>wV hin
          have hL6:∀ (o0 o1 o2 o3 o4 o5:Addr × HO),(o0 :: o1 :: o2 :: o3 :: o4 :: o5 :: qR inn)[zn + 6]?=some (ad,.lst (hs.map V.int)):=fun o0 o1 o2 o3 o4 o5=>wV hin
          refine ⟨_,rfl,_,rfl,lo,_,_,.ref ad,rfl,rfl,O.sq 2,bR (Bu hin),ad,rfl,⟨_,O.sq (zn + 5) (hL _ _ _ _ _)⟩,fun lk hlk=>?_⟩
          refine dO (K:=K) (xs:=hs.map V.int) (fun i' τ H'=>Iv (∃ (v0:Option V),τ=[v0,some (.ref ta),some (.ref e),some (.ref c)]∧Ow T H H' ((lk,.lst (((hs.take i').filter (qz ls xs t)).map V.int)) :: (ta,.tup [.int l.day,.int (xs.getD t 0 + 1),.int (t:Int)]) :: (ly,.lst ((Rv.bQ r l.start l.back).map V.int)) :: (lo,.lst (rF inn)) :: (lh,.lst (fl.map V.int)) :: (lw,.lst ((Rv.nats r sp).map V.int)) :: qR inn)))
            ⟨trivial,none,rfl,O.mk' hlk rfl⟩ (fun _ _ _ _ ⟨_,_,_,O⟩=>O.sq (zn + 6) (hL6 _ _ _ _ _ _)) ?_ ?_
          · clear O
            rintro i' y τ H9 hy ⟨-,v0,rfl,O⟩
            obtain ⟨x,hx,rfl⟩:=ints_get hy
            have hi':=(List.getElem?_eq_some_iff.mp hx).1
            obtain ⟨j,rfl,hj,hjw⟩:=(hmem x).mp (List.mem_of_getElem? hx)
            obtain ⟨lj,hlj⟩:∃ lj,ls[j]?=some lj:=⟨_,List.getElem?_eq_getElem hj⟩
            obtain ⟨aj,haj,hTj⟩:=d0.lV hlj
            have xj:xs[j]?=some (xs.getD j 0):=aY (by omega)
            have hnx:=wX (qz ls xs t) hx
            have hfl:((hs.take i').filter (qz ls xs t)).length≤hs.length:=Nat.le_trans (List.length_filter_le _ _) (by rw [List.length_take];omega)
            have eb:qz ls xs t (j:Int)=(decide (xs.getD j 0 > 0) && HT.lexLt [l.day,xs.getD t 0 + 1,(t:Int)] [lj.day,xs.getD j 0,(j:Int)]):=by
              unfold qz;rw [Int.toNat_natCast,tY hli,tY hlj]
            refine ⟨_,rfl,_,rfl,e,_,_,_,rfl,rfl,O.same.seq hE,bh xj,_,_,rfl,rfl,_,rfl,ifD (fun h1=>?_) fun h1=>?_⟩
            · refine ⟨_,rfl,_,rfl,c,_,_,_,rfl,rfl,O.same.seq hC,bR haj,aj,_,0,_,rfl,rfl,hTj.mo O.same,rfl,_,rfl,_,rfl,e,_,_,_,rfl,rfl,O.same.seq hE,bh xj,_,rfl,szl,fun tb htb=>?_⟩
              walk_at "nw"
              refine ⟨_,rfl,tb,ta,[lj.day,xs.getD j 0,(j:Int)],[l.day,xs.getD t 0 + 1,(t:Int)],rfl,rfl,O.sqT 0,O.sqT 2,_,rfl,ifB (fun h2=>?_) fun h2=>?_⟩
              · have O:=O.tail
                refine ⟨_,rfl,_,O.get 0,aP (by rw [List.length_map];omega),?_⟩
                walk_at "pt"
                refine ⟨trivial,_,rfl,?_⟩
                rw [hnx,if_pos (by rw [eb,decide_eq_true h1,h2];rfl),List.map_append];exact O
              · refine ⟨trivial,_,rfl,?_⟩
                rw [hnx,if_neg (by rw [eb,h2,Bool.and_false];exact Bool.false_ne_true),List.append_nil];exact O.tail
            · refine pH ⟨trivial,_,rfl,?_⟩
              rw [hnx,if_neg (by rw [eb,decide_eq_false h1];exact Bool.false_ne_true),List.append_nil];exact O
          clear O
          rintro τ H9 ⟨-,v0,rfl,O⟩
          rw [List.length_map,List.take_length] at O
          refine ⟨_,rfl,szl,fun l9 h9=>?_⟩
          walk_at "nw"
          refine ⟨lk,l9,hs.filter (qz ls xs t),[],rfl,rfl,O.sq 1,O.sq 0,?_⟩
          rw [if_neg Bool.false_ne_true]
          refine ⟨trivial,_,_,_,_,rfl,O.tail.tail.tail,grow _ fun h=>⟨hb,fun hs9=>?_⟩⟩
          have h2:=of_decide_eq_false h
          refine h2 (List.filter_eq_nil_iff.mpr fun x hx h3=>?_)
          obtain ⟨j,rfl,hj,hjw⟩:=(hmem x).mp hx
          unfold qz at h3
          rw [Bool.and_eq_true] at h3
          rw [Int.toNat_natCast] at h3
          have ha:=hs9.2.2 j hj hjw (of_decide_eq_true h3.1)
          have hn:=Dt ha
          unfold Tn.fX at hn
          rw [h3.2] at hn;cases hn
        · refine ⟨trivial,_,_,_,β,rfl,O,grow _ fun h=>⟨hb,fun hs9=>hc ?_⟩⟩
          have h2:=hs9.2.1
          rw [Rv.wZ (by omega) (by omega)] at h2
          exact h2
      clear O
      rintro σ H8 ⟨-,v9,v11,v12,β,rfl,O,hβ⟩
      rw [List.length_map,List.take_length] at hβ
      have hβ2:β=true:=by
        cases β with
        | true=>rfl
        | false =>
          obtain ⟨h1,h2⟩:=hβ rfl
          obtain ⟨z,hz⟩:=SH t ht (by show xs.getD t 0<ws.getD t 0;omega)
          exact absurd hz (h2 z (by rw [← eW];exact hz.1))
      subst hβ2
      refine ⟨_,rfl,_,rfl,e,_,_,_,rfl,rfl,O.same.seq hE,bh xt,_,rfl,_,rfl,d,_,_,_,rfl,rfl,O.same.seq hD,bh wt,_,_,rfl,rfl,_,rfl,ifD (fun h=>absurd h (by omega)) fun _=>?_⟩
      refine ⟨_,rfl,_,rfl,pH ⟨trivial,_,_,_,_,_,rfl,O.tail⟩⟩
    clear O
    rintro σ H6 ⟨-,v8,v9,v10,v11,v12,rfl,O⟩
    /- none holds more -/
    have hnn:∀ z:Nat,z<r.length→Tn.hold ls.length (oN r ls) (Tn.fX xs) (z:Int)≤Rv.kO r sp (z:Int):=fun z hz=>by
      by_cases hw:∃ k,k<ls.length∧(z:Int)∈oN r ls k
      · have h2:=FT.fits (z:Int) hw
        rw [Rv.wZ (by omega) (by omega)] at h2
        exact h2
      · rw [jy hw]
        exact wM hsn _
    refine ⟨_,rfl,a,_,rfl,.inl (O.same.seq hS),(r.length:Int),by rw [hml],by omega,by omega,fun lk hlk=>?_⟩
    rw [Int.toNat_natCast]
    refine gA (n:=r.length) (fun i τ H'=>Iv (∃ (v0:Option V),τ=[v0,some (.ref lh),some (.ref lw)]∧Ow T H H' ((lk,.lst (([]:List Int).map V.int)) :: (lo,.lst (rF inn)) :: (lh,.lst (fl.map V.int)) :: (lw,.lst ((Rv.nats r sp).map V.int)) :: qR inn)))
      ⟨trivial,none,rfl,O.mk' hlk rfl⟩ ?_ ?_
    · clear O
      rintro z τ H7 hz ⟨-,v0,rfl,O⟩
      rw [show (0:Int) + (z:Int)=(z:Int) by omega]
      have:=hnn z hz
      exact ⟨_,rfl,_,rfl,lh,_,_,_,rfl,rfl,O.sq 2,bh (fle z hz),_,rfl,_,rfl,lw,_,_,_,rfl,rfl,O.sq 3,bh (nle z hz),_,_,rfl,rfl,_,rfl,ifD (fun h=>absurd h (by omega)) fun _=>⟨trivial,_,rfl,O⟩⟩
    clear O
    rintro τ H7 ⟨-,v0,rfl,O⟩
    refine ⟨szl,fun l2 hl2=>?_⟩
    walk_at "nw"
    refine ⟨lk,l2,[],[],rfl,rfl,O.sq 1,O.sq 0,?_⟩
    rw [if_neg Bool.false_ne_true,decide_eq_true rfl]
    exact q _ O.same
theorem FW (ps:List (Int × Int × Int)) (k:Int):decide ((ps.filter fun p:Int × Int × Int=>decide (p.1=k))=[])=!decide (k∈ps.map (·.1)):=by
  by_cases h:k∈ps.map (·.1)
  · rw [decide_eq_true h]
    refine decide_eq_false fun e=>?_
    obtain ⟨p,hp,hk⟩:=List.mem_map.mp h
    have:=List.filter_eq_nil_iff.mp e p hp
    simp at this
    exact this hk
  · rw [decide_eq_false h]
    refine decide_eq_true (List.filter_eq_nil_iff.mpr fun p hp hk=>h (List.mem_map.mpr ⟨p,hp,of_decide_eq_true hk⟩))
abbrev cI:Stmt:=top 58
theorem cC:aX ["below","springs","roll","ponds","kept","left","lets","told","used","k","lost","held","rest","out"] ["below","springs","roll","ponds","kept","left","lets","told"] (ao cI):=⟨rfl,rfl,rfl,by decide +kernel,rfl,by decide +kernel,by decide +kernel⟩
def Gw (K:PySem.W.Frag) (T:fZ):Sp:=fun vs H Q _=>∃ (a b c d e g h t lt la lf lh:Addr) (r s:List Int) (rs us ts:List V) (ls:List Lic) (ps ms:List (Int × Int × Int)) (ks xs:List Int),vs=[.ref a,.ref b,.ref c,.ref d,.ref e,.ref g,.ref h,.ref t]∧SqL K H a (r.map V.int)∧r.length<64∧SqL K H b (s.map V.int)∧SqL K H c rs∧cg K H rs (ls.map qT)∧ls.length<64∧SqL K H d us∧cg K H us (ps.map dMv)∧ps.length≤100∧(∀ p∈ps,0≤p.1∧p.1<(ls.length:Int)∧0≤p.2.2∧p.2.2≤1000)∧SqL K H e (ks.map V.int)∧ks.length=ps.length∧SqL K H g ((bT ks ms).map V.int)∧SqL K H h ts∧cg K H ts (ms.map dMv)∧ms.length≤1000∧SqT K H t [.ref lt,.ref la,.ref lf,.ref lh]∧SqL K H lt (xs.map V.int)∧xs.length=ls.length∧SqL K H la ((yX ps (bT ks ms) xs).map V.int)∧SqL K H lf ((Rv.vY r s (mX ls ps xs ms)).map V.int)∧TabsOk T H ∧
  m9 T H (fun ys=>ys=(Ei r s ls ps ms ks xs).map V.int) Q
theorem Qy {f:Addr} {fd:FuncData} (D:Df K mg "_law_sheet" cI ["below","springs","roll","ponds","kept","left","lets","told"] f fd) (B:Blt mg):cA P w K mg base CX0 1 f fd ["below","springs","roll","ponds","kept","left","lets","told"] (Gw K T):=by
  refine D.F.ok cC (fun vs H Q E h=>?_) (fun cdv A outer s H vs Q E hr h=>?_)
  · obtain ⟨_,_,_,_,_,_,_,_,_,_,_,_,_,_,_,_,_,_,_,_,_,_,rfl,_⟩:=h;rfl
  · obtain ⟨a,b,c,d,e,g,h,t,lt,la,lf,lh,r,sp,rs,us,ts,ls,ps,ms,ks,xs,rfl,hA,r64,hB,hC,d0,l64,hD,d1,hp1,hpo,hE,hkl,hG,hH,d2,hm1,hT,hX,hxl,hAf,hF,tk,q⟩:=h
    have hu:=hr.units
    have hrl:rs.length=ls.length:=by rw [d0.length,List.length_map]
    have hul:us.length=ps.length:=by rw [d1.length,List.length_map]
    have htl:ts.length=ms.length:=by rw [d2.length,List.length_map]
    have hml:(r.map V.int).length=r.length:=List.length_map _
    have hll:=jX ms ks
    have hfl:(Rv.vY r sp (mX ls ps xs ms)).length=r.length:=(Rv.qH r sp (mX ls ps xs ms)).len
    generalize hzs:bT ks ms=zs at hG hAf hll
    generalize hfs:Rv.vY r sp (mX ls ps xs ms)=fs at hF hfl
    have O:=Ow.refl tk
    refine ⟨_,(au (aR (i:=8) cC.nd rfl (Or.inl rfl) (aK (gJ rfl) rfl B.sum PyProof.Rows.boot_sum (ak (gD (ao cI) rfl ["below","springs","roll","ponds","kept","left","lets","told","used","k","lost","held","rest","out"] rfl ["let"] [none] (by decide +kernel) (by decide +kernel) (by decide +kernel) rfl (bO (pv 6)) (fun _ _ _=>(aD (i:=0) (show (["let"]:List Str).Nodup by decide +kernel) rfl (Or.inl rfl))) (fun _ _ _=>(jU (aW tu (aL (lK (K:=K) rfl) (pv 0) aA (fun _ _=>rfl)) (lY jo aA) (bw _)))) (fun _ _ _=>(aL (lK (K:=K) rfl) (pv 0) aA (fun _ _=>rfl)))) aq)))
      (au (cP PassesOwn.never rfl (bW rfl B.range (ak (aK aH rfl B.len PySem.boot_len (ak (pv 2) aq)) aq)) (aD (i:=9) cC.nd rfl (Or.inr rfl))
        (aB (iK (PW.pt (pw_and (aW jB (aL cX (aL aG (pv 2) (pv 9) (fun _ _=>rfl)) aA (fun _ _=>rfl)) (lY jo aA) (bw _)) (pw_and1 (aW (G7 hu) (gD (ao cI) rfl ["below","springs","roll","ponds","kept","left","lets","told","used","k","lost","held","rest","out"] rfl ["pond","k"] [none,some 9] (by decide +kernel) (by decide +kernel) (by decide +kernel) rfl (bO (pv 3)) (fun _ _ _=>(aD (i:=0) (show (["pond","k"]:List Str).Nodup by decide +kernel) rfl (Or.inl rfl))) (fun _ _ _=>(jU (aW jB (aL (lK (K:=K) rfl) (pv 0) aA (fun _ _=>rfl)) (pv 1) (bw _)))) (fun _ _ _=>(pv 0))) (cZ aq) (bw _)))))
          (aB (aR (i:=8) cC.nd rfl (Or.inl rfl) (aQ cQ (pv 8) (aL aG (aL cX (pv 7) aA (fun _ _=>rfl)) (pv 9) (fun _ _=>rfl)))))
          cu)))
      (au (aR (i:=10) cC.nd rfl (Or.inl rfl) aA)
      (au (cP PassesOwn.never rfl (bW rfl B.range (ak (aK aH rfl B.len PySem.boot_len (ak (pv 3) aq)) aq)) (aD (i:=9) cC.nd rfl (Or.inr rfl))
        (au (aR (i:=11) cC.nd rfl (Or.inl rfl) (aQ cQ (aL aG (pv 5) (pv 9) (fun _ _=>rfl)) (aL aG (aL cX (pv 7) aA (fun _ _=>rfl)) (aL cX (aL aG (pv 3) (pv 9) (fun _ _=>rfl)) aA (fun _ _=>rfl)) (fun _ _=>rfl))))
        (au (aR (i:=12) cC.nd rfl (Or.inl rfl) (aQ nu (aQ jW (pv 11) (aL cX (aL aG (pv 3) (pv 9) (fun _ _=>rfl)) aA (fun _ _=>rfl))) (aQ jW aA (aQ nu (pv 11) (aL aG (aL cX (pv 7) aA (fun _ _=>rfl)) (pv 9) (fun _ _=>rfl))))))
        (au (iK (PW.pt (pw_or (aW zB (pv 12) aA (bw _)) (pw_or1 (aW Qv (pv 12) aA (bw _)))))
          (aB (bx (aQ qt (cZ (ak (lY jo aA) aq)) aA)))
          cu)
        (aB (aR (i:=10) cC.nd rfl (Or.inl rfl) (aQ nu (aQ cQ (pv 10) (pv 11)) (aL aG (aL cX (pv 7) aA (fun _ _=>rfl)) (pv 9) (fun _ _=>rfl)))))))))
      (au (aR (i:=13) cC.nd rfl (Or.inl rfl) (aK (gJ rfl) rfl B.sum PyProof.Rows.boot_sum (ak (gD (ao cI) rfl ["below","springs","roll","ponds","kept","left","lets","told","used","k","lost","held","rest","out"] rfl ["k","told","below"] [none,some 7,some 0] (by decide +kernel) (by decide +kernel) (by decide +kernel) rfl (bW rfl B.range (ak (aK aH rfl B.len PySem.boot_len (ak (pv 0) aq)) aq)) (fun _ _ _=>(aD (i:=0) (show (["k","told","below"]:List Str).Nodup by decide +kernel) rfl (Or.inl rfl))) (fun _ _ _=>(jU (aW jB (aL (bM (K:=K) rfl) (pv 2) (pv 0) (fun _ _=>rfl)) (lY jo aA) (bw _)))) (fun _ _ _=>(aL (bM (K:=K) rfl) (aL (lK (K:=K) rfl) (pv 1) aA (fun _ _=>rfl)) (pv 0) (fun _ _=>rfl)))) aq)))
      (aB (bx (cZ (ak (aK (gJ rfl) rfl B.sum PyProof.Rows.boot_sum (ak (pv 1) aq)) (ak (aK (gJ rfl) rfl B.sum PyProof.Rows.boot_sum (ak (pv 4) aq)) (ak (pv 8) (ak (aK (gJ rfl) rfl B.sum PyProof.Rows.boot_sum (ak (aL cX (pv 7) aA (fun _ _=>rfl)) aq)) (ak (pv 10) (ak (pv 13) aq)))))))))))))),?_⟩
    refine Wf ?_
    intro zu0 zu1 zu2 zu3 zu4 zu5 zu6 zu7 zu8 zu9 zu10 zu11
    /- used: the lets -/
    refine ⟨_,rfl,h,rfl,⟨_,hH⟩,fun l2 hl2=>?_⟩
    refine dO (K:=K) (xs:=ts) (fun i τ H'=>Iv (∃ (v0:Option V),τ=[v0]∧Ow T H H' [(l2,.lst ((zQ (ms.take i)).map V.int))]))
      ⟨trivial,none,rfl,O.mk' hl2 rfl⟩ (fun _ _ _ _ ⟨_,_,_,O⟩=>O.same.seq hH) ?_ ?_
    · rintro i y τ H6 hy ⟨-,v0,rfl,O⟩
      obtain ⟨am,m,rfl,hm,hTm⟩:=d2.j5 hy
      have hi:=(List.getElem?_eq_some_iff.mp hm).1
      have hfl2:=Ad (ms.take i)
      rw [List.length_take] at hfl2
      have hnx:=xV hm
      refine ⟨_,rfl,am,_,1,_,rfl,rfl,hTm.mo O.same,rfl,_,rfl,rfl,_,rfl,ifN (ifI (fun hc=>?_) fun hc=>?_)⟩
      · refine ⟨trivial,_,rfl,?_⟩
        rw [hnx,if_pos hc,List.append_nil];exact O
      · refine ⟨_,rfl,am,_,2,_,rfl,rfl,hTm.mo O.same,rfl,_,O.get 0,aP (by rw [List.length_map];omega),?_⟩
        walk_at "pt"
        refine ⟨trivial,_,rfl,?_⟩
        rw [hnx,if_neg hc,List.map_append];exact O
    rintro τ H6 ⟨-,v0,rfl,O⟩
    rw [htl,List.take_length] at O
    refine ⟨l2,_,rfl,O.sq 0,?_⟩
    have O:=O.tail
    /- used: the takes -/
    refine ⟨_,rfl,c,_,rfl,.inl (O.same.seq hC),(rs.length:Int),rfl,by omega,by omega,?_⟩
    rw [Int.toNat_natCast,hrl]
    refine gG (n:=ls.length) (fun i σ H'=>Iv (∃ (v9:Option V),σ=[some (.ref a),some (.ref b),some (.ref c),some (.ref d),some (.ref e),some (.ref g),some (.ref h),some (.ref t),some (.int ((zQ ms).sum + ((uo ls ps i).map fun j=>xs.getD j 0).sum)),v9,none,none,none,none]∧Ow T H H' []))
      ⟨trivial,none,(by show _=_;rw [show ((uo ls ps 0).map fun j=>xs.getD j 0).sum=0 from rfl,Int.add_zero];rfl),O⟩ ?_ ?_
    · clear O
      rintro i σ H7 hi ⟨-,v9,rfl,O⟩
      rw [show (0:Int) + (i:Int)=(i:Int) by omega]
      obtain ⟨l,hl⟩:∃ l,ls[i]?=some l:=⟨_,List.getElem?_eq_getElem hi⟩
      obtain ⟨al,hal,hTl⟩:=d0.lV hl
      have hsu:=rY ls ps i
      rw [hl] at hsu
      refine ⟨_,rfl,_,rfl,c,_,_,_,rfl,rfl,O.same.seq hC,bR hal,al,_,2,_,rfl,rfl,hTl.mo O.same,rfl,_,rfl,rfl,_,rfl,ifI (fun hc=>?_) fun hc=>pH ⟨trivial,_,(by rw [hsu,if_neg (by simp [hc]),List.append_nil];rfl),O⟩⟩
      refine ⟨_,rfl,d,rfl,⟨_,O.same.seq hD⟩,fun l3 hl3=>?_⟩
      refine dO (K:=K) (xs:=us) (fun i' τ H'=>Iv (∃ (v0:Option V) (vs:List V),τ=[v0,some (.int (i:Int))]∧cg K H vs (((ps.take i').filter fun p:Int × Int × Int=>decide (p.1=(i:Int))).map dMv)∧Ow T H H' [(l3,.lst vs)]))
        ⟨trivial,none,[],rfl,.nil,O.mk' hl3 rfl⟩ (fun _ _ _ _ ⟨_,_,_,_,_,O⟩=>O.same.seq hD) ?_ ?_
      · clear O
        rintro i' y τ H8 hy ⟨-,v0,vs,rfl,dv,O⟩
        obtain ⟨ap,p,rfl,hp,hTp⟩:=d1.j5 hy
        have hi':=(List.getElem?_eq_some_iff.mp hp).1
        have hvl:vs.length≤i':=by
          rw [dv.length,List.length_map]
          refine Nat.le_trans (List.length_filter_le _ _) ?_
          rw [List.length_take];omega
        have hnx:(ps.take (i' + 1)).filter (fun p:Int × Int × Int=>decide (p.1=(i:Int)))=(ps.take i').filter (fun p:Int × Int × Int=>decide (p.1=(i:Int)))++if p.1=(i:Int) then [p] else []:=by
          rw [List.take_add_one,hp,Option.toList_some,List.filter_append,Tn.m6]
          by_cases e9:p.1=(i:Int)
          · rw [if_pos e9,if_pos (decide_eq_true e9)]
          · rw [if_neg e9,if_neg (by simp [e9])]
        refine ⟨_,rfl,ap,_,0,_,rfl,rfl,hTp.mo O.same,rfl,_,rfl,rfl,_,rfl,ifI (fun hc=>?_) fun hc=>?_⟩
        · refine ⟨_,rfl,_,O.get 0,aP (by omega),?_⟩
          walk_at "pt"
          refine ⟨trivial,_,_,rfl,?_,O⟩
          rw [hnx,if_pos hc,List.map_append]
          exact dv.append (.cons (Den.mv hTp) .nil)
        · refine ⟨trivial,_,_,rfl,?_,O⟩
          rw [hnx,if_neg hc,List.append_nil];exact dv
      clear O
      rintro τ H8 ⟨-,v0,vs,rfl,dv,O⟩
      rw [hul,List.take_length] at dv
      refine ⟨szl,fun l4 hl4=>?_⟩
      walk_at "nw"
      refine ⟨_,_,Den.list (O.sq 1) (dv.mo O.same),Den.list (ds:=[]) (O.sq 0) .nil,(Sh.mvs 0 _).ok (by decide),(Sh.mvs 0 []).ok (by decide),?_⟩
      have O:=O.tail.tail
      rw [if_neg Bool.false_ne_true,show PyData.eqv (.list (List.map dMv (ps.filter fun p:Int × Int × Int=>decide (p.1=(i:Int))))) (.list [])=decide ((ps.filter fun p:Int × Int × Int=>decide (p.1=(i:Int)))=[]) from yR _,FW]
      refine ⟨_,rfl,ifN (ifD (fun hm=>?_) fun hm=>?_)⟩
      · exact ⟨trivial,_,(by rw [hsu,if_neg (by simp [hm]),List.append_nil];rfl),O⟩
      · refine ⟨_,rfl,_,rfl,t,_,0,.ref lt,rfl,rfl,hT.mo O.same,rfl,_,rfl,lt,_,_,_,rfl,rfl,O.same.seq hX,bh (aY (ns:=xs) (k:=i) (by omega)),_,_,rfl,rfl,?_⟩
        refine ⟨trivial,some (.int (i:Int)),?_,O⟩
        have e9:((uo ls ps (i + 1)).map fun j=>xs.getD j 0).sum=((uo ls ps i).map fun j=>xs.getD j 0).sum + xs.getD i 0:=by
          rw [hsu,if_pos (by simp [hc,hm]),List.map_append,List.sum_append]
          show _ + (xs.getD i 0 + 0)=_
          rw [Int.add_zero]
        rw [e9,← Int.add_assoc];rfl
    clear O
    rintro σ H7 ⟨-,v9,rfl,O⟩
    rw [show (zQ ms).sum + ((uo ls ps ls.length).map fun j=>xs.getD j 0).sum=ux ls ps xs ms by unfold ux;omega]
    /- lost -/
    refine ⟨_,rfl,d,_,rfl,.inl (O.same.seq hD),(us.length:Int),rfl,by omega,by omega,?_⟩
    rw [Int.toNat_natCast,hul]
    refine gG (n:=ps.length) (fun i σ H'=>Iv (∃ (v9 v11 v12:Option V),σ=[some (.ref a),some (.ref b),some (.ref c),some (.ref d),some (.ref e),some (.ref g),some (.ref h),some (.ref t),some (.int (ux ls ps xs ms)),v9,some (.int ((List.range i).map (kW ps zs xs)).sum),v11,v12,none]∧Ow T H H' []))
      ⟨trivial,_,none,none,rfl,O⟩ ?_ ?_
    · clear O
      rintro i σ H8 hi ⟨-,v9,v11,v12,rfl,O⟩
      rw [show (0:Int) + (i:Int)=(i:Int) by omega]
      obtain ⟨u,hu9⟩:∃ u,us[i]?=some u:=⟨_,List.getElem?_eq_getElem (by omega)⟩
      obtain ⟨ap,p,rfl,hp,hTp⟩:=d1.j5 hu9
      have hr9:=hpo p (List.mem_of_getElem? hp)
      have e1:pI ps zs xs i=zs.getD i 0 + xs.getD p.1.toNat 0:=by unfold pI;rw [getD_some hp]
      have e2:kW ps zs xs i=(zs.getD i 0 + xs.getD p.1.toNat 0) * p.2.2 / 1000:=by unfold kW;rw [e1,getD_some hp]
      have ha:(yX ps zs xs)[i]?=some (pI ps zs xs i - kW ps zs xs i):=by unfold yX;rw [List.getElem?_map,List.getElem?_range hi];rfl
      have hsum:((List.range (i + 1)).map (kW ps zs xs)).sum=((List.range i).map (kW ps zs xs)).sum + kW ps zs xs i:=by
        rw [List.range_succ,List.map_append,List.sum_append];simp
      rw [e2] at hsum
      rw [e1,e2] at ha
      refine ⟨_,rfl,_,rfl,g,_,_,_,rfl,rfl,O.same.seq hG,bh (aY (ns:=zs) (k:=i) (by omega)),_,rfl,t,_,0,.ref lt,rfl,rfl,hT.mo O.same,rfl,_,rfl,_,rfl,d,_,_,_,rfl,rfl,O.same.seq hD,bR hu9,ap,_,0,_,rfl,rfl,hTp.mo O.same,rfl,lt,_,_,_,rfl,rfl,O.same.seq hX,aV hr9.1 (by have:=hr9.2.1;omega),_,_,rfl,rfl,?_⟩
      dsimp only
      generalize zs.getD i 0 + xs.getD p.1.toNat 0=fu at ha hsum
      refine ⟨_,rfl,_,rfl,_,rfl,d,_,_,_,rfl,rfl,O.same.seq hD,bR hu9,ap,_,2,_,rfl,rfl,hTp.mo O.same,rfl,_,_,rfl,rfl,.inr ⟨by omega,by omega⟩,_,rfl,_,rfl,t,_,1,.ref la,rfl,rfl,hT.mo O.same,rfl,_,rfl,la,_,_,_,rfl,rfl,O.same.seq hAf,bh ha,_,_,rfl,rfl,_,_,rfl,rfl,.inl ⟨by decide,by decide⟩,_,_,rfl,rfl,?_⟩
      dsimp only
      generalize fu * p.2.2=m at ha hsum
      refine ⟨_,rfl,_,_,rfl,rfl,_,rfl,ifD (fun hc=>absurd hc (by omega)) fun hc=>?_⟩
      refine ⟨_,rfl,_,_,rfl,rfl,_,rfl,ifD (fun hc=>absurd hc (by omega)) fun hc=>?_⟩
      refine ⟨_,rfl,_,rfl,_,_,rfl,rfl,_,rfl,t,_,1,.ref la,rfl,rfl,hT.mo O.same,rfl,_,rfl,la,_,_,_,rfl,rfl,O.same.seq hAf,bh ha,_,_,rfl,rfl,?_⟩
      refine ⟨trivial,some (.int (i:Int)),some (.int fu),some (.int (m - 1000 * (fu - (fu - m / 1000)))),?_,O⟩
      rw [hsum]
      dsimp only
      rw [show ((List.range i).map (kW ps zs xs)).sum + fu - (fu - m / 1000)=((List.range i).map (kW ps zs xs)).sum + m / 1000 by omega];rfl
    clear O
    rintro σ H8 ⟨-,v9,v11,v12,rfl,O⟩
    /- out -/
    refine ⟨_,rfl,a,_,rfl,.inl (O.same.seq hA),(r.length:Int),by rw [hml],by omega,by omega,fun l5 hl5=>?_⟩
    rw [Int.toNat_natCast]
    refine gA (n:=r.length) (fun i τ H'=>Iv (∃ (v0:Option V),τ=[v0,some (.ref t),some (.ref a)]∧Ow T H H' [(l5,.lst (((Rv.wN r i).map fun z=>fs.getD z.toNat 0).map V.int))]))
      ⟨trivial,none,rfl,O.mk' hl5 rfl⟩ ?_ ?_
    · clear O
      rintro i τ H9 hi ⟨-,v0,rfl,O⟩
      rw [show (0:Int) + (i:Int)=(i:Int) by omega]
      have g9:=Rv.j9 (r:=r) (p:=(i:Int)) (by omega) (by omega)
      have ol:=Rv.tG r i
      refine ⟨_,rfl,_,rfl,a,_,_,_,rfl,rfl,O.same.seq hA,lM (by omega) g9,_,rfl,rfl,_,rfl,ifI (fun hm=>?_) fun hm=>?_⟩
      · refine ⟨_,rfl,t,_,2,.ref lf,rfl,rfl,hT.mo O.same,rfl,_,rfl,lf,_,_,_,rfl,rfl,O.same.seq hF,bh (aY (ns:=fs) (k:=i) (by omega)),_,O.get 0,aP (by rw [List.length_map,List.length_map];omega),?_⟩
        walk_at "pt"
        refine ⟨trivial,_,rfl,?_⟩
        rw [Rv.mD,if_pos hm,List.map_append,List.map_append];exact O
      · refine ⟨trivial,_,rfl,?_⟩
        rw [Rv.mD,if_neg hm,List.append_nil];exact O
    clear O
    rintro τ H9 ⟨-,v0,rfl,O⟩
    refine ⟨l5,_,rfl,O.sq 0,?_⟩
    have O:=O.tail
    refine ⟨_,rfl,b,_,rfl,O.same.seq hB,_,rfl,e,_,rfl,O.same.seq hE,_,rfl,_,rfl,t,_,1,.ref la,rfl,rfl,hT.mo O.same,rfl,la,_,rfl,O.same.seq hAf,_,rfl,_,rfl,szl,fun l6 hl6=>?_⟩
    walk_at "nw"
    refine O.ret 0 rfl q ?_
    unfold Ei Pq Hg
    rw [hzs,hfs];rfl
theorem Q7 {f k:Int} (hf:0≤f) (k0:0≤k) (k1:k≤1000):0≤f * k / 1000∧f * k / 1000≤f:=by
  have h:=Int.mul_le_mul_of_nonneg_left k1 hf
  have h0:=Int.mul_nonneg hf k0
  generalize f * k=m at h h0
  omega
theorem Ge {r s:List Int} {ls:List Lic} {cs xs:List Int} (D:Gu r s ls cs xs):∀ x∈xs,0≤x:=fun x hx=>by
  obtain ⟨i,hi⟩:=List.getElem?_of_mem hx
  have hl:=(List.getElem?_eq_some_iff.mp hi).1
  have h:=D.fit.nn i (by rw [← D.len];exact hl)
  unfold Tn.fX at h
  rw [getD_some hi] at h
  exact h
theorem Vw {ps:List (Int × Int × Int)} {ks xs:List Int} (hp:∀ p∈ps,0≤p.2.2∧p.2.2≤1000) (hk:∀ x∈ks,0≤x) (hx:∀ x∈xs,0≤x) {i:Nat} (hi:i<ps.length):0≤kW ps ks xs i∧kW ps ks xs i≤pI ps ks xs i:=by
  have e:ps[i]?=some ps[i]:=List.getElem?_eq_getElem hi
  obtain ⟨k0,k1⟩:=hp _ (List.getElem_mem hi)
  have hf:0≤pI ps ks xs i:=Int.add_nonneg (qG hk i) (qG hx _)
  unfold kW
  rw [getD_some e]
  exact Q7 hf k0 k1
theorem Vv {ps:List (Int × Int × Int)} {ks xs:List Int} (hp:∀ p∈ps,0≤p.2.2∧p.2.2≤1000) (hk:∀ x∈ks,0≤x) (hx:∀ x∈xs,0≤x):∀ x∈yX ps ks xs,0≤x:=fun x h=>by
  obtain ⟨i,hi,rfl⟩:=List.mem_map.mp h
  have:=Vw hp hk hx (List.mem_range.mp hi)
  omega
theorem Q8 {ps:List (Int × Int × Int)} {ks xs:List Int} (hp:∀ p∈ps,0≤p.2.2∧p.2.2≤1000) (hk:∀ x∈ks,0≤x) (hx:∀ x∈xs,0≤x):∀ x∈Hg ps ks xs,0≤x:=fun x h=>by
  obtain ⟨i,hi,rfl⟩:=List.mem_map.mp h
  exact (Vw hp hk hx (List.mem_range.mp hi)).1
theorem Nm {ls:List Lic} {ps ms:List (Int × Int × Int)} {xs:List Int} (hx:∀ x∈xs,0≤x) (hm:∀ m∈ms,0≤m.2.2):0≤ux ls ps xs ms:=by
  refine Int.add_nonneg (pY fun x h=>?_) (pY fun x h=>?_)
  · obtain ⟨i,_,rfl⟩:=List.mem_map.mp h
    exact qG hx i
  · obtain ⟨m,h1,rfl⟩:=List.mem_map.mp h
    exact hm m (List.mem_filter.mp h1).1
theorem Qt {r fl:List Int} (h:∀ x∈fl,0≤x):0≤Pq r fl:=pY fun x hx=>by
  obtain ⟨i,_,rfl⟩:=List.mem_map.mp hx
  exact qG h _
theorem zY {ls:List Lic}:∀ {X:List Int} {n:Nat} {l:Lic} {v:Int},ls[n]?=some l→(iM ls X).set n (min v l.most)=iM ls (X.set n v):=by
  induction ls with
  | nil=>intro X n l v h;simp at h
  | cons a ls ih =>
    intro X n l v h
    cases X with
    | nil=>rfl
    | cons x X =>
      cases n with
      | zero =>
        have e:a=l:=by simpa using h
        subst e;rfl
      | succ n =>
        have h':ls[n]?=some l:=by simpa using h
        show (min x a.most :: iM ls X).set (n + 1) _=min x a.most :: iM ls (X.set n v)
        rw [List.set_cons_succ,ih h']
theorem W3 {x:Int} (h:0≤x):0≤(if x<10 ^ (12:Int).toNat then x else 10 ^ (12:Int).toNat:Int):=by
  have e12:(10:Int) ^ (12:Int).toNat=1000000000000:=by decide
  rw [e12];split <;> omega
abbrev nY:Stmt:=top 59
theorem iT:aX ["script","kind","below","cells","roll","ponds","springs","xs","calls","one","ys","kept","left","lets","wants","k","told","due"] ["script"] (ao nY):=⟨rfl,rfl,rfl,by decide +kernel,rfl,by decide +kernel,by decide +kernel⟩
def yq (K:PySem.W.Frag) (T:fZ):Sp:=fun vs H Q _=>∃ (a:Addr) (ns:List Int),vs=[.ref a]∧SqL K H a (ns.map V.int)∧ns.length≤63∧TabsOk T H∧∀ H',Q (.bl true) H'
theorem QS {f f1 f2 f3 f4 f5 f6 f7 f8 f9 f10 f11:Addr} {fd fd1 fd2 fd3 fd4 fd5 fd6 fd7 fd8 fd9 fd10 fd11:FuncData} (D:Df K mg "law" nY ["script"] f fd) (B:Blt mg)
    (bf:Df K mg "_law_nth" gW ["script","k"] f1 fd1) (je:cA P w K mg base CX0 1 f1 fd1 ["script","k"] (GD K T))
    (iH:Df K mg "_law_river" dM ["cell"] f2 fd2) (vU:cA P w K mg base CX0 2 f2 fd2 ["cell"] (yp T))
    (jh:Df K mg "_law_roll" fU ["cell","cells","below","kind"] f3 fd3) (xP:cA P w K mg base CX0 3 f3 fd3 ["cell","cells","below","kind"] (Gy K T))
    (aJ:Df K mg "_law_draws" cJ ["cell","many"] f4 fd4) (cj:cA P w K mg base CX0 1 f4 fd4 ["cell","many"] (uN T))
    (iI:Df K mg "_law_ponds" dN ["xs","roll","kind"] f5 fd5) (vV:cA P w K mg base CX0 2 f5 fd5 ["xs","roll","kind"] (Gz K T))
    (aU:Df K mg "_law_amount" cG ["number","kind"] f6 fd6) (fH:cA P w K mg base CX0 1 f6 fd6 ["number","kind"] yw)
    (bY:Df K mg "_law_some" fC ["number","most"] f7 fd7) (lR:cA P w K mg base CX0 1 f7 fd7 ["number","most"] Ay)
    (ji:Df K mg "_law_lets" fY ["cells","below","roll","ponds","left"] f8 fd8) (xQ:cA P w K mg base CX0 2 f8 fd8 ["cells","below","roll","ponds","left"] (GK K T))
    (m8:Df K mg "day_of" jL ["below","springs","roll","ponds","kept","calls","lets"] f9 fd9) (Gs:cA P w K mg base CX0 8 f9 fd9 ["below","springs","roll","ponds","kept","calls","lets"] (yt K T))
    (iJ:Df K mg "_law_kinds" eX ["told","below","roll","ponds"] f10 fd10) (vW:cA P w K mg base CX0 2 f10 fd10 ["told","below","roll","ponds"] (GR K T))
    (iD:Df K mg "_law_shown" cH ["below","springs","roll","wants","takes"] f11 fd11) (vQ:cA P w K mg base CX0 2 f11 fd11 ["below","springs","roll","wants","takes"] (Gx K T))
    {f12:Addr} {fd12:FuncData} (iG:Df K mg "_law_sheet" cI ["below","springs","roll","ponds","kept","left","lets","told"] f12 fd12) (vR:cA P w K mg base CX0 1 f12 fd12 ["below","springs","roll","ponds","kept","left","lets","told"] (Gw K T)) :
    cA P w K mg base CX0 9 f fd ["script"] (yq K T):=by
  refine D.F.ok iT (fun vs H Q E h=>?_) (fun cdv A outer s H vs Q E hr h=>?_)
  · obtain ⟨a,ns,rfl,_⟩:=h;rfl
  · obtain ⟨a,ns,rfl,hS,hlen,tk,k⟩:=h
    have hu:=hr.units
    refine ⟨_,(au (aR (i:=1) iT.nd rfl (Or.inr rfl) (aQ bU (aM je (hr.mono (by decide)) rfl bf.m bf.F.kp bf.b .nil bD (ak (pv 0) (ak aA aq))) aA))
      (au (aR (i:=2) iT.nd rfl (Or.inl rfl) (aM vU (hr.mono (by decide)) rfl iH.m iH.F.kp iH.b .nil bD (ak (aQ d8 (aM je (hr.mono (by decide)) rfl bf.m bf.F.kp bf.b .nil bD (ak (pv 0) (ak aA aq))) aA) aq)))
      (au (aR (i:=3) iT.nd rfl (Or.inl rfl) (oA qb (pv 0) (nH aA) (nH aA)))
      (au (aR (i:=4) iT.nd rfl (Or.inr rfl) (aM xP (hr.mono (by decide)) rfl jh.m jh.F.kp jh.b .nil bD (ak (aM je (hr.mono (by decide)) rfl bf.m bf.F.kp bf.b .nil bD (ak (pv 0) (ak aA aq))) (ak (pv 3) (ak (pv 2) (ak (pv 1) aq))))))
      (au (aR (i:=5) iT.nd rfl (Or.inr rfl) (aM vV (hr.mono (by decide)) rfl iI.m iI.F.kp iI.b .nil bD (ak (aM cj (hr.mono (by decide)) rfl aJ.m aJ.F.kp aJ.b .nil bD (ak (aQ cQ (aM je (hr.mono (by decide)) rfl bf.m bf.F.kp bf.b .nil bD (ak (pv 0) (ak aA aq))) aA) (ak aA aq))) (ak (pv 4) (ak (pv 1) aq)))))
      (au (fP (i:=6) (ao nY) rfl ["script","kind","below","cells","roll","ponds","springs","xs","calls","one","ys","kept","left","lets","wants","k","told","due"] rfl ["x","kind"] [none,some 1] (by decide +kernel) (by decide +kernel) (by decide +kernel) rfl iT.nd rfl rfl (bO (aM cj (hr.mono (by decide)) rfl aJ.m aJ.F.kp aJ.b .nil bD (ak (aQ cQ (aM je (hr.mono (by decide)) rfl bf.m bf.F.kp bf.b .nil bD (ak (pv 0) (ak aA aq))) aA) (ak (aK aH rfl B.len PySem.boot_len (ak (pv 2) aq)) aq)))) (fun _ _ _=>(aD (i:=0) (show (["x","kind"]:List Str).Nodup by decide +kernel) rfl (Or.inl rfl))) (fun _ _ _=>gM) (fun _ _ _=>(aM fH (hr.mono (by decide)) rfl aU.m aU.F.kp aU.b .nil bD (ak (pv 0) (ak (pv 1) aq)))) rfl)
      (au (aR (i:=7) iT.nd rfl (Or.inr rfl) (aM cj (hr.mono (by decide)) rfl aJ.m aJ.F.kp aJ.b .nil bD (ak (aQ cQ (aM je (hr.mono (by decide)) rfl bf.m bf.F.kp bf.b .nil bD (ak (pv 0) (ak aA aq))) aA) (ak (aK aH rfl B.len PySem.boot_len (ak (pv 4) aq)) aq))))
      (au (aR (i:=8) iT.nd rfl (Or.inr rfl) (gD (ao nY) rfl ["script","kind","below","cells","roll","ponds","springs","xs","calls","one","ys","kept","left","lets","wants","k","told","due"] rfl ["k","xs","roll"] [none,some 7,some 4] (by decide +kernel) (by decide +kernel) (by decide +kernel) rfl (bW rfl B.range (ak (aK aH rfl B.len PySem.boot_len (ak (pv 4) aq)) aq)) (fun _ _ _=>(aD (i:=0) (show (["k","xs","roll"]:List Str).Nodup by decide +kernel) rfl (Or.inl rfl))) (fun _ _ _=>gM) (fun _ _ _=>(aK (mJ rfl) rfl B.min PyProof.Rows.boot_min (ak (aQ yE aA aA) (ak (aQ cQ (aM lR (hr.mono (by decide)) rfl bY.m bY.F.kp bY.b .nil bD (ak (aQ d8 (aL (bM (K:=K) rfl) (pv 1) (pv 0) (fun _ _=>rfl)) aA) (ak (aL (lK (K:=K) rfl) (aL (bM (K:=K) rfl) (pv 2) (pv 0) (fun _ _=>rfl)) aA (fun _ _=>rfl)) aq))) (aQ jW (aQ bU (aL (bM (K:=K) rfl) (pv 1) (pv 0) (fun _ _=>rfl)) aA) aA)) aq))))))
      (au (cP PassesOwn.never rfl (bO (pv 3)) (aD (i:=9) iT.nd rfl (Or.inl rfl))
        (au (aR (i:=10) iT.nd rfl (Or.inl rfl) (aM cj (hr.mono (by decide)) rfl aJ.m aJ.F.kp aJ.b .nil bD (ak (pv 9) (ak aA aq))))
        (ou (iK (aW jB (aQ bU (aL aG (pv 10) aA (fun _ _=>rfl)) aA) aA (bw _))
          (aB (gY (aM fH (hr.mono (by decide)) rfl aU.m aU.F.kp aU.b .nil bD (ak (aL aG (pv 10) aA (fun _ _=>rfl)) (ak (pv 1) aq))) (nj (pv 6) (aQ bU (aL aG (pv 10) aA (fun _ _=>rfl)) (aK aH rfl B.len PySem.boot_len (ak (pv 2) aq))) set_list)))
          cu)
        (aB (iK (PW.pt (pw_and (aW jB (aQ bU (aL aG (pv 10) aA (fun _ _=>rfl)) aA) aA (bw _)) (pw_and1 (aW (G6 hu) (pv 4) (cZ aq) (bw _)))))
          (aB (gY (aM fH (hr.mono (by decide)) rfl aU.m aU.F.kp aU.b .nil bD (ak (aL aG (pv 10) aA (fun _ _=>rfl)) (ak (pv 1) aq))) (nj (pv 8) (aQ bU (pv 9) (aK aH rfl B.len PySem.boot_len (ak (pv 4) aq))) set_list)))
          cu)))))
      (au (aR (i:=7) iT.nd rfl (Or.inr rfl) (aM cj (hr.mono (by decide)) rfl aJ.m aJ.F.kp aJ.b .nil bD (ak (aQ cQ (aM je (hr.mono (by decide)) rfl bf.m bf.F.kp bf.b .nil bD (ak (pv 0) (ak aA aq))) aA) (ak (aK aH rfl B.len PySem.boot_len (ak (pv 5) aq)) aq))))
      (au (fP (i:=11) (ao nY) rfl ["script","kind","below","cells","roll","ponds","springs","xs","calls","one","ys","kept","left","lets","wants","k","told","due"] rfl ["k","xs","ponds"] [none,some 7,some 5] (by decide +kernel) (by decide +kernel) (by decide +kernel) rfl iT.nd rfl rfl (bW rfl B.range (ak (aK aH rfl B.len PySem.boot_len (ak (pv 5) aq)) aq)) (fun _ _ _=>(aD (i:=0) (show (["k","xs","ponds"]:List Str).Nodup by decide +kernel) rfl (Or.inl rfl))) (fun _ _ _=>gM) (fun _ _ _=>(aM lR (hr.mono (by decide)) rfl bY.m bY.F.kp bY.b .nil bD (ak (aL (bM (K:=K) rfl) (pv 1) (pv 0) (fun _ _=>rfl)) (ak (aL (lK (K:=K) rfl) (aL (bM (K:=K) rfl) (pv 2) (pv 0) (fun _ _=>rfl)) aA (fun _ _=>rfl)) aq)))) rfl)
      (au (aR (i:=12) iT.nd rfl (Or.inl rfl) (dh bJ rfl B.list PyProof.Rows.boot_list (ak (pv 11) aq)))
      (au (aR (i:=13) iT.nd rfl (Or.inl rfl) (aM xQ (hr.mono (by decide)) rfl ji.m ji.F.kp ji.b .nil bD (ak (pv 3) (ak (pv 2) (ak (pv 4) (ak (pv 5) (ak (pv 12) aq)))))))
      (au (fP (i:=14) (ao nY) rfl ["script","kind","below","cells","roll","ponds","springs","xs","calls","one","ys","kept","left","lets","wants","k","told","due"] rfl ["k","calls","roll"] [none,some 8,some 4] (by decide +kernel) (by decide +kernel) (by decide +kernel) rfl iT.nd rfl rfl (bW rfl B.range (ak (aK aH rfl B.len PySem.boot_len (ak (pv 4) aq)) aq)) (fun _ _ _=>(aD (i:=0) (show (["k","calls","roll"]:List Str).Nodup by decide +kernel) rfl (Or.inl rfl))) (fun _ _ _=>gM) (fun _ _ _=>(aK (mJ rfl) rfl B.min PyProof.Rows.boot_min (ak (aL (lK (K:=K) rfl) (aL (bM (K:=K) rfl) (pv 2) (pv 0) (fun _ _=>rfl)) aA (fun _ _=>rfl)) (ak (aL (bM (K:=K) rfl) (pv 1) (pv 0) (fun _ _=>rfl)) aq)))) rfl)
      (au (cP PassesOwn.never rfl (bW rfl B.range (ak (aK aH rfl B.len PySem.boot_len (ak (pv 5) aq)) aq)) (aD (i:=15) iT.nd rfl (Or.inl rfl))
        (aB (gY (aK (mJ rfl) rfl B.min PyProof.Rows.boot_min (ak (aL aG (pv 14) (aL cX (aL aG (pv 5) (pv 15) (fun _ _=>rfl)) aA (fun _ _=>rfl)) (fun _ _=>rfl)) (ak (aQ nu (aL cX (aL aG (pv 5) (pv 15) (fun _ _=>rfl)) aA (fun _ _=>rfl)) (aL aG (pv 12) (pv 15) (fun _ _=>rfl))) aq))) (nj (pv 14) (aL cX (aL aG (pv 5) (pv 15) (fun _ _=>rfl)) aA (fun _ _=>rfl)) set_list))))
      (au (aR (i:=16) iT.nd rfl (Or.inl rfl) (aM Gs (hr.mono (by decide)) rfl m8.m m8.F.kp m8.b .nil bD (ak (dh bJ rfl B.list PyProof.Rows.boot_list (ak (pv 2) aq)) (ak (dh bJ rfl B.list PyProof.Rows.boot_list (ak (pv 6) aq)) (ak (dh bJ rfl B.list PyProof.Rows.boot_list (ak (pv 4) aq)) (ak (dh bJ rfl B.list PyProof.Rows.boot_list (ak (pv 5) aq)) (ak (dh bJ rfl B.list PyProof.Rows.boot_list (ak (pv 11) aq)) (ak (dh bJ rfl B.list PyProof.Rows.boot_list (ak (pv 8) aq)) (ak (dh bJ rfl B.list PyProof.Rows.boot_list (ak (pv 13) aq)) aq)))))))))
      (au (iK (PW.pt (pw_or (kI (kE (aM vW (hr.mono (by decide)) rfl iJ.m iJ.F.kp iJ.b .nil bD (ak (pv 16) (ak (pv 2) (ak (pv 4) (ak (pv 5) aq))))))) (pw_or1 (kI (kE (aM vQ (hr.mono (by decide)) rfl iD.m iD.F.kp iD.b .nil bD (ak (pv 2) (ak (pv 6) (ak (pv 4) (ak (pv 14) (ak (aL cX (pv 16) aA (fun _ _=>rfl)) aq)))))))))))
        (aB (bx BJ))
        cu)
      (au (aR (i:=17) iT.nd rfl (Or.inl rfl) (aM vR (hr.mono (by decide)) rfl iG.m iG.F.kp iG.b .nil bD (ak (pv 2) (ak (pv 6) (ak (pv 4) (ak (pv 5) (ak (pv 11) (ak (pv 12) (ak (pv 13) (ak (pv 16) aq))))))))))
      (aB (bx (G5 (mj (yF hu) (dh bJ rfl B.list PyProof.Rows.boot_list (ak (aL cX (pv 16) aA (fun _ _=>rfl)) aq)) (pv 17) (bw _)) (G4 (mj jB (aQ cQ (aL aG (pv 17) aA (fun _ _=>rfl)) (aL aG (pv 17) aA (fun _ _=>rfl))) (aQ cQ (aQ cQ (aQ cQ (aL aG (pv 17) aA (fun _ _=>rfl)) (aL aG (pv 17) aA (fun _ _=>rfl))) (aL aG (pv 17) aA (fun _ _=>rfl))) (aL aG (pv 17) aA (fun _ _=>rfl))) (bw _)))))))))))))))))))))))),?_⟩
    refine Wd ?_
    intro zu0 zu1 zu2 zu3 zu4 zu5 zu6 zu7 zu8 zu9 zu10 zu11 zu12 zu13 zu14 zu15 zu16 zu17 zu18 zu19 zu20 zu21 zu22 zu23 zu24
    have O:=Ow.refl tk
    have s0:=O.same
    refine ⟨_,rfl,a,ns,0,rfl,hS,tk,fun H1 sm=>?_⟩
    have O:=O.lQ sm
    refine ⟨_,_,rfl,rfl,(by show (0:Int)<3;decide),?_⟩
    dsimp only
    generalize ns.getD 0 0 % 3=kd
    refine ⟨_,rfl,a,ns,0,rfl,O.same.seq hS,O.same.t1,fun H2 sm=>?_⟩
    have O:=O.lQ sm
    refine ⟨_,_,rfl,rfl,⟨by decide,by decide⟩,_,rfl,O.same.t1,O.oZ fun lv H3 rs O e=>?_⟩
    obtain ⟨r,rfl,hR,r1,r40⟩:=e
    have hml:((r.map V.int).length:Int)=(r.length:Int):=by rw [List.length_map]
    /- cells -/
    refine ⟨_,rfl,2,rfl,62,rfl,a,_,rfl,O.same.seq hS,fun lq hlq=>?_⟩
    walk_at "nw"
    rw [show vZ (ns.map V.int) (some 2) (some 62)=((ns.drop 2).take 60).map V.int from Nh ns 2 62] at O
    have hql:((ns.drop 2).take 60).length≤60:=by rw [List.length_take];omega
    generalize (ns.drop 2).take 60=qs at O hql
    /- roll -/
    refine ⟨_,rfl,a,ns,1,rfl,O.same.seq hS,O.same.t1,fun H4 sm=>?_⟩
    have O:=O.lQ sm
    refine ⟨_,rfl,_,rfl,_,rfl,_,kd,lq,lv,qs,r,rfl,O.sq 0,O.sq 1,hR,r1,by omega,O.same.t1,fun lr H5 H6 rs ls s5 O5 d0 l60 hok=>?_⟩
    have hV:SqL K H5 lv (r.map V.int):=s5.seq (O.sq 1)
    have hQ:SqL K H5 lq (qs.map V.int):=s5.seq (O.sq 0)
    replace s0:=O.same.trans s5
    clear O
    have O:=O5
    clear O5 s5
    have hrl:rs.length=ls.length:=by rw [d0.length,List.length_map]
    /- ponds -/
    refine ⟨_,rfl,a,ns,1,rfl,(s0.trans O.same).seq hS,O.same.t1,fun H7 sm=>?_⟩
    have O:=O.lQ sm
    refine ⟨_,_,rfl,rfl,_,84,rfl,by decide,by decide,O.same.t1,O.oZ fun lx H8 xs O e=>?_⟩
    obtain ⟨ys,rfl,hyl,hyb⟩:=e
    have hyl:ys.length=84:=hyl
    clear hyb
    refine ⟨_,rfl,_,rfl,kd,lx,lr,ys,rs,ls,rfl,O.sq 0,by omega,O.sq 1,d0.mo O.same,l60,O.same.t1,fun lp H9 H10 us ps s9 O9 d1 PO=>?_⟩
    replace hV:=(O.same.trans s9).seq hV
    replace hQ:=(O.same.trans s9).seq hQ
    have hL:SqL K H9 lr rs:=s9.seq (O.sq 1)
    replace d0:=d0.mo (O.same.trans s9)
    replace s0:=s0.trans (O.same.trans s9)
    clear O
    have O:=O9
    clear O9 s9
    have hul:us.length=ps.length:=by rw [d1.length,List.length_map]
    have hpl:=PO.len
    /- springs -/
    refine ⟨_,rfl,a,ns,0,rfl,(s0.trans O.same).seq hS,O.same.t1,fun H11 sm=>?_⟩
    have O:=O.lQ sm
    refine ⟨_,_,rfl,rfl,_,rfl,lv,_,rfl,.inl (O.same.seq hV),_,_,rfl,by rw [hml];omega,by rw [hml];omega,O.same.t1,O.oZ fun lz H12 xs O e=>?_⟩
    obtain ⟨zs,rfl,hzl,-⟩:=e
    rw [hml,Int.toNat_natCast] at hzl
    refine ⟨lz,rfl,⟨_,O.sq 0⟩,fun lg hlg=>?_⟩
    refine dO (K:=K) (xs:=zs.map V.int) (fun i τ H'=>Iv (∃ (v0:Option V) (gs:List Int),τ=[v0,some (.int kd)]∧gs.length=i∧(∀ x∈gs,0≤x)∧Ow T H9 H' [(lg,.lst (gs.map V.int)),(lz,.lst (zs.map V.int)),(lp,.lst us)]))
      ⟨trivial,none,[],rfl,rfl,(fun x hx=>nomatch hx),O.mk' hlg rfl⟩ (fun _ _ _ _ ⟨_,_,_,_,_,_,O⟩=>O.sq 1) ?_ ?_
    · rintro i y τ H13 hy ⟨-,v0,gs,rfl,hgi,hg0,O⟩
      obtain ⟨z,hz,rfl⟩:=ints_get hy
      have hi:=(List.getElem?_eq_some_iff.mp hz).1
      refine za ?_
      refine ⟨_,rfl,_,rfl,_,_,rfl,fun x x0 x1=>?_⟩
      refine ⟨_,O.get 0,aP (by rw [List.length_map];omega),?_⟩
      walk_at "pt"
      rw [mZ] at O
      refine ⟨trivial,_,gs++[x],rfl,by rw [List.length_append,hgi];rfl,fun u hu=>?_,O⟩
      rcases List.mem_append.mp hu with e | e
      · exact hg0 u e
      · have e2:u=x:=by simpa using e
        rw [e2];exact x0
    rintro τ H13 ⟨-,v0,sp,rfl,hspl,hsp0,O⟩
    rw [List.length_map,hzl] at hspl
    have O:=O.two
    /- ys, calls -/
    refine ⟨_,rfl,a,ns,0,rfl,(s0.trans O.same).seq hS,O.same.t1,fun H14 sm=>?_⟩
    have O:=O.lQ sm
    refine ⟨_,_,rfl,rfl,_,rfl,lr,_,rfl,.inl (O.same.seq hL),_,_,rfl,by omega,by omega,O.same.t1,O.oZ fun ly H15 xs O e=>?_⟩
    obtain ⟨ys,rfl,hyl,-⟩:=e
    rw [Int.toNat_natCast] at hyl
    refine ⟨_,rfl,lr,_,rfl,.inl (O.same.seq hL),(rs.length:Int),rfl,by omega,by omega,fun lc hlc=>?_⟩
    rw [Int.toNat_natCast]
    refine gA (n:=rs.length) (fun i τ H'=>Iv (∃ (v0:Option V) (cs:List Int),τ=[v0,some (.ref ly),some (.ref lr)]∧cs.length=i∧(∀ x∈cs,0≤x)∧Ow T H9 H' [(lc,.lst (cs.map V.int)),(ly,.lst (ys.map V.int)),(lg,.lst (sp.map V.int)),(lp,.lst us)]))
      ⟨trivial,none,[],rfl,rfl,(fun x hx=>nomatch hx),O.mk' hlc rfl⟩ ?_ ?_
    · rintro i τ H16 hi ⟨-,v0,cs,rfl,hci,hc0,O⟩
      rw [show (0:Int) + (i:Int)=(i:Int) by omega]
      obtain ⟨li,hli⟩:∃ li,ls[i]?=some li:=⟨_,List.getElem?_eq_getElem (by omega)⟩
      obtain ⟨al,hal,hT⟩:=d0.lV hli
      refine za ?_
      refine ⟨_,_,rfl,rfl,⟨by decide,by decide,by decide⟩,?_⟩
      refine ⟨_,rfl,_,rfl,ly,_,_,_,rfl,rfl,O.sq 1,bh (aY (ns:=ys) (k:=i) (by omega)),_,_,rfl,rfl,⟨by decide,by decide⟩,_,rfl,_,rfl,lr,_,_,_,rfl,rfl,O.same.seq hL,bR hal,al,_,3,_,rfl,rfl,hT.mo O.same,rfl,_,_,rfl,(hok li (List.mem_of_getElem? hli)).1.2,fun x x0 x1=>?_⟩
      refine ⟨_,rfl,_,rfl,ly,_,_,_,rfl,rfl,O.sq 1,bh (aY (ns:=ys) (k:=i) (by omega)),_,_,rfl,rfl,(by show (0:Int)<2;decide),_,_,rfl,rfl,.inr ⟨by decide,by decide⟩,_,_,rfl,rfl,_,_,rfl,?_⟩
      dsimp only
      have xx:=W3 (x:=x + ys.getD i 0 % 2 * 3) (by omega)
      generalize (if x + ys.getD i 0 % 2 * 3<10 ^ (12:Int).toNat then x + ys.getD i 0 % 2 * 3 else 10 ^ (12:Int).toNat:Int)=y at xx
      refine ⟨_,O.get 0,aP (by rw [List.length_map];omega),?_⟩
      walk_at "pt"
      rw [mZ] at O
      refine ⟨trivial,_,cs++[y],rfl,by rw [List.length_append,hci];rfl,fun u hu=>?_,O⟩
      rcases List.mem_append.mp hu with e | e
      · exact hc0 u e
      · have e2:u=y:=by simpa using e
        rw [e2];exact xx
    rintro τ H16 ⟨-,v0,cs,rfl,hcl,hc0,O⟩
    have O:=(O.del 1).pull 1
    walk_at "er"
    /- the cells -/
    refine ⟨_,rfl,lq,rfl,⟨_,O.same.seq hQ⟩,?_⟩
    refine cW (K:=K) (xs:=qs.map V.int) (fun i σ H'=>Iv (∃ (v9 v10:Option V) (s' cs':List Int),σ=[some (.ref a),some (.int kd),some (.ref lv),some (.ref lq),some (.ref lr),some (.ref lp),some (.ref lg),some (.ref ly),some (.ref lc),v9,v10,none,none,none,none,none,none,none]∧s'.length=r.length∧cs'.length=ls.length∧(∀ x∈s',0≤x)∧(∀ x∈cs',0≤x)∧Ow T H9 H' [(lg,.lst (s'.map V.int)),(lc,.lst (cs'.map V.int)),(lp,.lst us)]))
      ⟨trivial,none,none,sp,cs,rfl,hspl,by omega,hsp0,hc0,O⟩ (fun _ _ _ _ ⟨_,_,_,_,_,_,_,_,_,_,O⟩=>O.same.seq hQ) ?_ ?_
    · clear O
      rintro i y σ H17 hy ⟨-,v9,v10,s',cs',rfl,hs',hc',sn,cn,O⟩
      obtain ⟨z,hz,rfl⟩:=ints_get hy
      refine ⟨_,rfl,z,5,rfl,by decide,by decide,O.same.t1,O.oZ fun lx H18 xs O e=>?_⟩
      obtain ⟨ys,rfl,hyl,hyb⟩:=e
      have hyl:ys.length=5:=hyl
      clear hyb
      refine ⟨fun σ H'=>Iv (∃ (s':List Int),σ=[some (.ref a),some (.int kd),some (.ref lv),some (.ref lq),some (.ref lr),some (.ref lp),some (.ref lg),some (.ref ly),some (.ref lc),some (.int z),some (.ref lx),none,none,none,none,none,none,none]∧s'.length=r.length∧(∀ x∈s',0≤x)∧Ow T H9 H' [(lx,.lst (ys.map V.int)),(lg,.lst (s'.map V.int)),(lc,.lst (cs'.map V.int)),(lp,.lst us)]),?_,?_⟩
      · refine ⟨_,rfl,lx,_,0,_,rfl,rfl,O.sq 0,aV (by omega) (by omega),_,_,rfl,rfl,(by show (0:Int)<4;decide),rfl,_,rfl,ifI (fun hc=>?_) fun hc=>⟨trivial,s',rfl,hs',sn,O⟩⟩
        have j0:=Int.emod_nonneg (ys.getD (1:Int).toNat 0) (show (r.length:Int)≠0 by omega)
        have j1:=Int.emod_lt_of_pos (ys.getD (1:Int).toNat 0) (show (0:Int)<(r.length:Int) by omega)
        refine ⟨_,rfl,lx,_,2,_,rfl,rfl,O.sq 0,aV (by omega) (by omega),_,rfl,_,_,rfl,fun x x0 x1=>?_⟩
        refine ⟨_,rfl,_,rfl,lx,_,1,_,rfl,rfl,O.sq 0,aV (by omega) (by omega),_,rfl,lv,_,rfl,.inl (O.same.seq hV),_,_,rfl,rfl,(by rw [hml];omega),?_⟩
        dsimp only
        rw [hml]
        refine nq O 1 rfl (zJ j0 (by rw [List.length_map,hs'];exact j1)) fun H5 O=>?_
        refine ⟨trivial,s'.set (ys.getD (1:Int).toNat 0 % (r.length:Int)).toNat x,rfl,by rw [List.length_set];exact hs',Bk sn x0,?_⟩
        rw [List.map_set];exact O
      clear O sn hs'
      rintro σ H18 ⟨-,s',rfl,hs',sn,O⟩
      refine ⟨_,rfl,lx,_,0,_,rfl,rfl,O.sq 0,aV (by omega) (by omega),_,_,rfl,rfl,(by show (0:Int)<4;decide),rfl,_,rfl,ifI (fun hc=>?_) fun hc=>pH ⟨trivial,_,_,s',cs',rfl,hs',hc',sn,cn,O.tail⟩⟩
      refine ⟨_,rfl,szl,fun l0 h0=>?_⟩
      walk_at "nw"
      refine ⟨_,_,Den.list (O.same.seq hL) (d0.mo O.same),Den.list (ds:=[]) (O.sq 0) .nil,(Sh.roll 0 ls).ok (by decide),(Sh.mvs 0 []).ok (by decide),?_⟩
      have O:=O.tail
      rw [if_pos rfl,CN]
      refine ⟨_,rfl,ifN (ifD (fun he=>?_) fun he=>?_)⟩
      · exact ⟨trivial,_,_,s',cs',rfl,hs',hc',sn,cn,O.tail⟩
      have j0:=Int.emod_nonneg z (show (rs.length:Int)≠0 by omega)
      have j1:=Int.emod_lt_of_pos z (show (0:Int)<(rs.length:Int) by omega)
      refine ⟨_,rfl,lx,_,2,_,rfl,rfl,O.sq 0,aV (by omega) (by omega),_,rfl,_,_,rfl,fun x x0 x1=>?_⟩
      refine ⟨_,rfl,_,rfl,_,rfl,lr,_,rfl,.inl (O.same.seq hL),_,_,rfl,rfl,(by show (0:Int)<(rs.length:Int);omega),?_⟩
      refine nq O 2 rfl (zJ j0 (by rw [List.length_map];omega)) fun H7 O=>?_
      refine ⟨trivial,_,_,s',cs'.set (z % (rs.length:Int)).toNat x,rfl,hs',by rw [List.length_set];exact hc',sn,Bk cn x0,?_⟩
      rw [List.map_set];exact O.tail
    clear O hsp0 hc0 hspl hcl
    rintro σ H17 ⟨-,v9,v10,sp',cs',rfl,hs',hc',sn,cn,O⟩
    /- kept -/
    refine ⟨_,rfl,a,ns,1,rfl,(s0.trans O.same).seq hS,O.same.t1,fun H18 sm=>?_⟩
    have O:=O.lQ sm
    refine ⟨_,_,rfl,rfl,_,rfl,lp,_,rfl,.inl (O.sq 2),_,_,rfl,by omega,by omega,O.same.t1,O.oZ fun lw H19 xs O e=>?_⟩
    obtain ⟨ys,rfl,hyl,-⟩:=e
    rw [Int.toNat_natCast] at hyl
    refine ⟨_,rfl,lp,_,rfl,.inl (O.sq 3),(us.length:Int),rfl,by omega,by omega,fun lk hlk=>?_⟩
    rw [Int.toNat_natCast]
    refine gA (n:=us.length) (fun i τ H'=>Iv (∃ (v0:Option V) (ks:List Int),τ=[v0,some (.ref lw),some (.ref lp)]∧ks.length=i∧(∀ z∈ks,0≤z)∧(∀ j,j<i→ks.getD j 0≤(ps.getD j (0,0,0)).2.1)∧Ow T H9 H' [(lk,.lst (ks.map V.int)),(lw,.lst (ys.map V.int)),(lg,.lst (sp'.map V.int)),(lc,.lst (cs'.map V.int)),(lp,.lst us)]))
      ⟨trivial,none,[],rfl,rfl,(fun z hz=>nomatch hz),(fun j hj=>absurd hj (Nat.not_lt_zero j)),O.mk' hlk rfl⟩ ?_ ?_
    · rintro i τ H20 hi ⟨-,v0,ks,rfl,hki,hk0,hkr,O⟩
      rw [show (0:Int) + (i:Int)=(i:Int) by omega]
      obtain ⟨u,hu⟩:∃ u,us[i]?=some u:=⟨_,List.getElem?_eq_getElem hi⟩
      obtain ⟨ap,p,rfl,hp,hT⟩:=d1.j5 hu
      refine za ?_
      refine ⟨_,rfl,_,rfl,lw,_,_,_,rfl,rfl,O.sq 1,bh (aY (ns:=ys) (k:=i) (by omega)),_,rfl,_,rfl,lp,_,_,_,rfl,rfl,O.sq 4,bR hu,ap,_,1,_,rfl,rfl,hT.mo O.same,rfl,_,_,rfl,(PO.rg p (List.mem_of_getElem? hp)).2.2.1,fun x x0 x1=>?_⟩
      refine ⟨_,O.get 0,aP (by rw [List.length_map];omega),?_⟩
      walk_at "pt"
      rw [mZ] at O
      refine ⟨trivial,_,ks++[x],rfl,by rw [List.length_append,hki];rfl,fun z hz=>?_,fun j hj=>?_,O⟩
      · rcases List.mem_append.mp hz with e | e
        · exact hk0 z e
        · have:z=x:=by simpa using e
          rw [this];exact x0
      · by_cases hji:j<i
        · rw [List.getD_eq_getElem?_getD,List.getElem?_append_left (by omega),← List.getD_eq_getElem?_getD]
          exact hkr j hji
        · have e:j=i:=by omega
          subst e
          rw [List.getD_eq_getElem?_getD,List.getElem?_append_right (by omega),hki,Nat.sub_self,getD_some hp]
          exact x1
    rintro τ H20 ⟨-,v0,ks,rfl,hki,hk0,hkr,O⟩
    rw [hul] at hki hkr
    have O:=O.two
    /- left, lets -/
    refine ⟨_,rfl,lk,_,rfl,.inl (O.sq 0),fun lf hlf=>?_⟩
    walk_at "nw"
    obtain ⟨Hl,OA,sl,hB,bk⟩:=Ow.lend (A:=[(lf,.lst (ks.map V.int))]) (B:=[(lk,.lst (ks.map V.int)),(lg,.lst (sp'.map V.int)),(lc,.lst (cs'.map V.int)),(lp,.lst us)]) O
    have bK:SqL K Hl lk (ks.map V.int):=SqL.of (hB (lk,_) (by simp))
    have bG:SqL K Hl lg (sp'.map V.int):=SqL.of (hB (lg,_) (by simp))
    have bC:SqL K Hl lc (cs'.map V.int):=SqL.of (hB (lc,_) (by simp))
    have bP:SqL K Hl lp us:=SqL.of (hB (lp,_) (by simp))
    refine ⟨_,rfl,_,rfl,_,rfl,_,rfl,_,rfl,lq,lv,lr,lp,lf,qs,r,ks,rs,us,ls,ps,Hl,rfl,OA,sl.seq hQ,by omega,sl.seq hV,hR,by omega,sl.seq hL,d0.mo sl,fun l hl=>(hok l hl).1.1,bP,d1.mo sl,PO,hki,hk0,fun lt Hb H21 ts ms sb O' d2 hm1 LO hl0=>?_⟩
    clear bk hB OA O
    have O:=O'
    clear O'
    replace bK:=sb.seq bK
    replace bG:=sb.seq bG
    replace bC:=sb.seq bC
    replace bP:=sb.seq bP
    replace hV:=(sl.trans sb).seq hV
    replace hL:=(sl.trans sb).seq hL
    replace d0:=d0.mo (sl.trans sb)
    replace d1:=d1.mo (sl.trans sb)
    clear hQ s0 hS sl sb
    have hfl:=jX ms ks
    /- wants -/
    have hwl:=mU (ls:=ls) (cs:=cs') (by omega)
    refine ⟨_,rfl,lr,_,rfl,.inl (O.same.seq hL),(rs.length:Int),rfl,by omega,by omega,fun lu hlu=>?_⟩
    rw [Int.toNat_natCast]
    refine gA (n:=rs.length) (fun i τ H'=>Iv (∃ (v0:Option V),τ=[v0,some (.ref lc),some (.ref lr)]∧Ow T Hb H' [(lu,.lst (((iM ls cs').take i).map V.int)),(lt,.lst ts),(lf,.lst ((bT ks ms).map V.int))]))
      ⟨trivial,none,rfl,O.mk' hlu rfl⟩ ?_ ?_
    · clear O
      rintro i τ H22 hi ⟨-,v0,rfl,O⟩
      rw [show (0:Int) + (i:Int)=(i:Int) by omega]
      obtain ⟨li,hli⟩:∃ li,ls[i]?=some li:=⟨_,List.getElem?_eq_getElem (by omega)⟩
      obtain ⟨al,hal,hT⟩:=d0.lV hli
      have hci:cs'[i]?=some (cs'.getD i 0):=aY (by omega)
      refine za ?_
      refine ⟨_,rfl,_,rfl,lr,_,_,_,rfl,rfl,O.same.seq hL,bR hal,al,_,3,_,rfl,rfl,hT.mo O.same,rfl,_,rfl,_,rfl,lc,_,_,_,rfl,rfl,O.same.seq bC,bh hci,_,_,rfl,?_⟩
      have em:(if cs'.getD i 0<li.most then cs'.getD i 0 else li.most)=min (cs'.getD i 0) li.most:=by split <;> omega
      rw [em]
      refine ⟨_,O.get 0,aP (by rw [List.length_map,List.length_take];omega),?_⟩
      walk_at "pt"
      refine ⟨trivial,_,rfl,?_⟩
      rw [List.take_add_one,uq hli hci,Option.toList_some,List.map_append];exact O
    clear O
    rintro τ H22 ⟨-,v0,rfl,O⟩
    rw [List.take_of_length_le (by omega)] at O
    refine ⟨_,rfl,lp,_,rfl,.inl (O.same.seq bP),(us.length:Int),rfl,by omega,by omega,?_⟩
    rw [Int.toNat_natCast]
    refine gG (n:=us.length) (fun i σ H'=>Iv (∃ (v15 v7:Option V),σ=[some (.ref a),some (.int kd),some (.ref lv),some (.ref lq),some (.ref lr),some (.ref lp),some (.ref lg),v7,some (.ref lc),v9,v10,some (.ref lk),some (.ref lf),some (.ref lt),some (.ref lu),v15,none,none]∧Ow T Hb H' [(lu,.lst ((iM ls (lJ cs' ps (bT ks ms) i)).map V.int)),(lt,.lst ts),(lf,.lst ((bT ks ms).map V.int))]))
      ⟨trivial,none,_,rfl,O⟩ ?_ ?_
    · clear O
      rintro i σ H23 hi ⟨-,v15,v7,rfl,O⟩
      rw [show (0:Int) + (i:Int)=(i:Int) by omega]
      obtain ⟨u,hu9⟩:∃ u,us[i]?=some u:=⟨_,List.getElem?_eq_getElem hi⟩
      obtain ⟨ap,p,rfl,hp,hT⟩:=d1.j5 hu9
      have hpr:=PO.rg p (List.mem_of_getElem? hp)
      obtain ⟨lp9,hlp9⟩:∃ l,ls[p.1.toNat]?=some l:=⟨_,List.getElem?_eq_getElem (by omega)⟩
      have hll:=mF cs' ps (bT ks ms) i
      have hwl9:=mU (ls:=ls) (cs:=lJ cs' ps (bT ks ms) i) (by omega)
      have hne:=yK (cs:=cs') (ks:=bT ks ms) (ps:=ps) (n:=p.1.toNat) i fun j hj=>by
        have:=Q5 PO.nd (fun p hp=>(PO.rg p hp).1) hj (by omega)
        rw [getD_some hp] at this;exact this
      have hwn:(iM ls (lJ cs' ps (bT ks ms) i)).getD p.1.toNat 0=min (cs'.getD p.1.toNat 0) lp9.most:=by
        rw [← hne]
        exact getD_some (uq hlp9 (aY (by omega)))
      refine ⟨_,rfl,_,rfl,_,rfl,lp,_,_,_,rfl,rfl,O.same.seq bP,bR hu9,ap,_,0,_,rfl,rfl,hT.mo O.same,rfl,lu,_,_,_,rfl,rfl,O.sq 0,aV hpr.1 (by omega),?_⟩
      refine ⟨_,rfl,_,rfl,lp,_,_,_,rfl,rfl,O.same.seq bP,bR hu9,ap,_,1,_,rfl,rfl,hT.mo O.same,rfl,_,rfl,_,rfl,lf,_,_,_,rfl,rfl,O.sq 2,bh (aY (ns:=bT ks ms) (k:=i) (by omega)),_,_,rfl,rfl,_,_,rfl,?_⟩
      refine ⟨_,rfl,_,rfl,_,rfl,lp,_,_,_,rfl,rfl,O.same.seq bP,bR hu9,ap,_,0,_,rfl,rfl,hT.mo O.same,rfl,?_⟩
      refine nq O 0 rfl (zJ hpr.1 (by rw [List.length_map,hwl9];omega)) fun H24 O=>?_
      refine ⟨trivial,_,_,rfl,?_⟩
      rw [hwn] at O
      rw [lJ,getD_some hp,← zY hlp9,List.map_set]
      have em:min (min (cs'.getD p.1.toNat 0) (p.2.1 - (bT ks ms).getD i 0)) lp9.most=if p.2.1 - (bT ks ms).getD i 0<min (cs'.getD p.1.toNat 0) lp9.most then p.2.1 - (bT ks ms).getD i 0 else min (cs'.getD p.1.toNat 0) lp9.most:=by split <;> omega
      rw [em];exact O
    clear O
    rintro σ H23 ⟨-,v15,v7,rfl,O⟩
    rw [hul] at O
    /- told -/
    refine ⟨_,rfl,lv,_,rfl,.inl (O.same.seq hV),fun pa hpa=>?_⟩
    walk_at "nw"
    refine ⟨_,rfl,lg,_,rfl,.inl (O.same.seq bG),fun pb hpb=>?_⟩
    walk_at "nw"
    refine ⟨_,rfl,lr,_,rfl,.inl (O.same.seq hL),fun pc hpc=>?_⟩
    walk_at "nw"
    refine ⟨_,rfl,lp,_,rfl,.inl (O.same.seq bP),fun pd hpd=>?_⟩
    walk_at "nw"
    refine ⟨_,rfl,lk,_,rfl,.inl (O.same.seq bK),fun pe hpe=>?_⟩
    walk_at "nw"
    refine ⟨_,rfl,lc,_,rfl,.inl (O.same.seq bC),fun pf hpf=>?_⟩
    walk_at "nw"
    refine ⟨_,rfl,lt,_,rfl,.inl (O.sq 7),fun pg hpg=>?_⟩
    walk_at "nw"
    have amt0:∀ m∈ms,0≤m.2.2:=fun m hm=>by
      obtain ⟨i,hi⟩:=List.getElem?_of_mem hm
      exact (LO i m hi).amt
    have hbn:=yJ (cs:=cs') (ks:=bT ks ms) (ps:=ps) cn (fun j hj=>Int.le_trans (yL ms ks amt0 j) (hkr j hj)) ps.length (Nat.le_refl _)
    have DK:DOk r sp' ls ps ms ks cs':=⟨hR,by omega,hs',sn,by omega,fun l hl=>(hok l hl).1,hki,by omega,fun p hp=>⟨(PO.rg p hp).1,(PO.rg p hp).2.1,(PO.rg p hp).2.2.2.1,(PO.rg p hp).2.2.2.2⟩,by omega,by omega,LO,hbn⟩
    refine ⟨pa,pb,pc,pd,pe,pf,pg,r,sp',rs,us,ts,ls,ps,ms,ks,cs',rfl,⟨O.sq 6,O.sq 5,O.sq 4,d0.mo O.same,O.sq 3,d1.mo O.same,O.sq 2,O.sq 1,O.sq 0,d2.mo O.same⟩,DK,O.same.t1,fun t l1 l2 l3 l4 H23 xs OD DX=>?_⟩
    have O:=O.join OD
    walk_at "jn"
    have hxl:=DX.len
    have hfw:(Rv.vY r sp' (mX ls ps xs ms)).length=r.length:=(Rv.qH r sp' (mX ls ps xs ms)).len
    have hMl:=Od (ps:=ps) (ms:=ms) hxl
    have hxn:=Ge DX
    have hal:(yX ps (bT ks ms) xs).length=ps.length:=by unfold yX;rw [List.length_map,List.length_range]
    have hpk:∀ p∈ps,0≤p.2.2∧p.2.2≤1000:=fun p hp=>⟨(PO.rg p hp).2.2.2.1,(PO.rg p hp).2.2.2.2⟩
    have hfn:=Ot (ps:=ps) (ms:=ms) sn DX amt0
    have han:=Vv hpk hl0 hxn
    have hsh:∀ x∈Ei r sp' ls ps ms ks xs,0≤x:=fun x hx=>by
      unfold Ei at hx
      simp only [List.mem_cons,List.not_mem_nil,or_false] at hx
      rcases hx with e | e | e | e | e | e <;> rw [e]
      · exact pY sn
      · exact pY hk0
      · exact Nm hxn amt0
      · exact pY han
      · exact pY (Q8 hpk hl0 hxn)
      · exact Qt hfn
    refine ⟨_,rfl,_,rfl,_,rfl,_,rfl,t,l1,l2,l3,l4,lv,lr,lp,xs,yX ps (bT ks ms) xs,Rv.vY r sp' (mX ls ps xs ms),Ei r sp' ls ps ms ks xs,_,rs,us,rfl,O.get 0,O.get 4,O.get 3,O.get 2,O.get 1,O.same.seq hV,O.same.seq hL,O.same.seq bP,by omega,by omega,by rw [List.length_map];omega,rfl,hxn,han,hfn,hsh,O.same.t1,fun H24 sm=>?_⟩
    have O:=O.lQ sm
    refine ⟨_,rfl,pH ?_⟩
    refine ⟨_,rfl,_,rfl,_,rfl,_,rfl,_,rfl,t,_,0,.ref l1,rfl,rfl,O.sqT 0,rfl,lv,lg,lr,lu,l1,r,sp',rs,ls,iM ls (lJ cs' ps (bT ks ms) ps.length),xs,rfl,O.same.seq hV,hR,by omega,O.same.seq bG,hs',sn,O.same.seq hL,d0.mo O.same,by omega,fun l hl=>(hok l hl).1.1,O.sq 12,(by rw [mU];rw [mF];omega),O.sq 4,hxl,DX.fit,DX.shown,O.same.t1,fun H25 sm=>?_⟩
    have O:=O.lQ sm
    refine ⟨_,rfl,pH ?_⟩
    refine ⟨_,rfl,_,rfl,_,rfl,_,rfl,_,rfl,_,rfl,_,rfl,_,rfl,lv,lg,lr,lp,lk,lf,lt,t,l1,l2,l3,l4,r,sp',rs,us,ts,ls,ps,ms,ks,xs,rfl,O.same.seq hV,by omega,O.same.seq bG,O.same.seq hL,d0.mo O.same,by omega,O.same.seq bP,d1.mo O.same,by omega,fun p hp=>⟨(PO.rg p hp).1,(PO.rg p hp).2.1,hpk p hp⟩,O.same.seq bK,hki,O.sq 14,O.sq 13,d2.mo O.same,by omega,O.sqT 0,O.sq 4,hxl,O.sq 3,O.sq 2,O.same.t1,O.oZ fun ld H26 ys O e=>?_⟩
    subst e
    refine ⟨_,rfl,t,_,3,.ref l4,rfl,rfl,O.sqT 1,rfl,l4,_,rfl,.inr (O.sqT 2),fun lz hlz=>?_⟩
    walk_at "nw"
    refine ⟨_,rfl,lz,ld,Ei r sp' ls ps ms ks xs,Ei r sp' ls ps ms ks xs,rfl,rfl,O.sq 0,O.sq 1,?_⟩
    rw [if_neg Bool.false_ne_true,decide_eq_true rfl]
    refine ⟨_,rfl,Oo ?_⟩
    have bal:=DK.balance (xs:=xs) PO hxl
    unfold Ei at O
    refine ⟨_,rfl,ld,_,0,_,rfl,rfl,O.sq 1,rfl,_,rfl,ld,_,1,_,rfl,rfl,O.sq 1,rfl,_,_,rfl,rfl,_,rfl,ld,_,2,_,rfl,rfl,O.sq 1,rfl,_,rfl,ld,_,3,_,rfl,rfl,O.sq 1,rfl,_,_,rfl,rfl,_,rfl,ld,_,4,_,rfl,rfl,O.sq 1,rfl,_,_,rfl,rfl,_,rfl,ld,_,5,_,rfl,rfl,O.sq 1,rfl,_,_,rfl,rfl,rfl,?_⟩
    dsimp only
    rw [w5,decide_eq_true bal]
    exact k _
theorem nF {K:PySem.W.Frag} {x qual:Str} {st:Stmt} {f:Addr} {fd:FuncData} {n0:Str} (F:Fun K x qual st f fd) (h:∀ (kV doc pm:Value) (an:Option Addr) (cdv ct u0:Value),bindArgs (PySem.W.fnOf x qual (aF st) (aC st) (ao st) .none kV doc pm an cdv ct) ⟨[u0],[]⟩=pure (([n0]:List Str).zip [u0])):Binds K fd [n0] [] :=
  F.binds (ps:=[n0]) fun kV doc pm an cdv ct us hl=>match us,hl with | [u0],_=>h kV doc pm an cdv ct u0
theorem mK {K:PySem.W.Frag} {x qual:Str} {st:Stmt} {f:Addr} {fd:FuncData} {n0 n1:Str} (F:Fun K x qual st f fd) (h:∀ (kV doc pm:Value) (an:Option Addr) (cdv ct u0 u1:Value),bindArgs (PySem.W.fnOf x qual (aF st) (aC st) (ao st) .none kV doc pm an cdv ct) ⟨[u0,u1],[]⟩=pure (([n0,n1]:List Str).zip [u0,u1])):Binds K fd [n0,n1] [] :=
  F.binds (ps:=[n0,n1]) fun kV doc pm an cdv ct us hl=>match us,hl with | [u0,u1],_=>h kV doc pm an cdv ct u0 u1
theorem pF {K:PySem.W.Frag} {x qual:Str} {st:Stmt} {f:Addr} {fd:FuncData} {n0 n1 n2:Str} (F:Fun K x qual st f fd) (h:∀ (kV doc pm:Value) (an:Option Addr) (cdv ct u0 u1 u2:Value),bindArgs (PySem.W.fnOf x qual (aF st) (aC st) (ao st) .none kV doc pm an cdv ct) ⟨[u0,u1,u2],[]⟩=pure (([n0,n1,n2]:List Str).zip [u0,u1,u2])):Binds K fd [n0,n1,n2] [] :=
  F.binds (ps:=[n0,n1,n2]) fun kV doc pm an cdv ct us hl=>match us,hl with | [u0,u1,u2],_=>h kV doc pm an cdv ct u0 u1 u2
theorem qN {K:PySem.W.Frag} {x qual:Str} {st:Stmt} {f:Addr} {fd:FuncData} {n0 n1 n2 n3:Str} (F:Fun K x qual st f fd) (h:∀ (kV doc pm:Value) (an:Option Addr) (cdv ct u0 u1 u2 u3:Value),bindArgs (PySem.W.fnOf x qual (aF st) (aC st) (ao st) .none kV doc pm an cdv ct) ⟨[u0,u1,u2,u3],[]⟩=pure (([n0,n1,n2,n3]:List Str).zip [u0,u1,u2,u3])):Binds K fd [n0,n1,n2,n3] [] :=
  F.binds (ps:=[n0,n1,n2,n3]) fun kV doc pm an cdv ct us hl=>match us,hl with | [u0,u1,u2,u3],_=>h kV doc pm an cdv ct u0 u1 u2 u3
theorem rR {K:PySem.W.Frag} {x qual:Str} {st:Stmt} {f:Addr} {fd:FuncData} {n0 n1 n2 n3 n4:Str} (F:Fun K x qual st f fd) (h:∀ (kV doc pm:Value) (an:Option Addr) (cdv ct u0 u1 u2 u3 u4:Value),bindArgs (PySem.W.fnOf x qual (aF st) (aC st) (ao st) .none kV doc pm an cdv ct) ⟨[u0,u1,u2,u3,u4],[]⟩=pure (([n0,n1,n2,n3,n4]:List Str).zip [u0,u1,u2,u3,u4])):Binds K fd [n0,n1,n2,n3,n4] [] :=
  F.binds (ps:=[n0,n1,n2,n3,n4]) fun kV doc pm an cdv ct us hl=>match us,hl with | [u0,u1,u2,u3,u4],_=>h kV doc pm an cdv ct u0 u1 u2 u3 u4
theorem Vu {K:PySem.W.Frag} {x qual:Str} {st:Stmt} {f:Addr} {fd:FuncData} {n0 n1 n2 n3 n4 n5:Str} (F:Fun K x qual st f fd) (h:∀ (kV doc pm:Value) (an:Option Addr) (cdv ct u0 u1 u2 u3 u4 u5:Value),bindArgs (PySem.W.fnOf x qual (aF st) (aC st) (ao st) .none kV doc pm an cdv ct) ⟨[u0,u1,u2,u3,u4,u5],[]⟩=pure (([n0,n1,n2,n3,n4,n5]:List Str).zip [u0,u1,u2,u3,u4,u5])):Binds K fd [n0,n1,n2,n3,n4,n5] [] :=
  F.binds (ps:=[n0,n1,n2,n3,n4,n5]) fun kV doc pm an cdv ct us hl=>match us,hl with | [u0,u1,u2,u3,u4,u5],_=>h kV doc pm an cdv ct u0 u1 u2 u3 u4 u5
theorem Vt {K:PySem.W.Frag} {x qual:Str} {st:Stmt} {f:Addr} {fd:FuncData} {n0 n1 n2 n3 n4 n5 n6:Str} (F:Fun K x qual st f fd) (h:∀ (kV doc pm:Value) (an:Option Addr) (cdv ct u0 u1 u2 u3 u4 u5 u6:Value),bindArgs (PySem.W.fnOf x qual (aF st) (aC st) (ao st) .none kV doc pm an cdv ct) ⟨[u0,u1,u2,u3,u4,u5,u6],[]⟩=pure (([n0,n1,n2,n3,n4,n5,n6]:List Str).zip [u0,u1,u2,u3,u4,u5,u6])):Binds K fd [n0,n1,n2,n3,n4,n5,n6] [] :=
  F.binds (ps:=[n0,n1,n2,n3,n4,n5,n6]) fun kV doc pm an cdv ct us hl=>match us,hl with | [u0,u1,u2,u3,u4,u5,u6],_=>h kV doc pm an cdv ct u0 u1 u2 u3 u4 u5 u6
theorem Vs {K:PySem.W.Frag} {x qual:Str} {st:Stmt} {f:Addr} {fd:FuncData} {n0 n1 n2 n3 n4 n5 n6 n7:Str} (F:Fun K x qual st f fd) (h:∀ (kV doc pm:Value) (an:Option Addr) (cdv ct u0 u1 u2 u3 u4 u5 u6 u7:Value),bindArgs (PySem.W.fnOf x qual (aF st) (aC st) (ao st) .none kV doc pm an cdv ct) ⟨[u0,u1,u2,u3,u4,u5,u6,u7],[]⟩=pure (([n0,n1,n2,n3,n4,n5,n6,n7]:List Str).zip [u0,u1,u2,u3,u4,u5,u6,u7])):Binds K fd [n0,n1,n2,n3,n4,n5,n6,n7] [] :=
  F.binds (ps:=[n0,n1,n2,n3,n4,n5,n6,n7]) fun kV doc pm an cdv ct us hl=>match us,hl with | [u0,u1,u2,u3,u4,u5,u6,u7],_=>h kV doc pm an cdv ct u0 u1 u2 u3 u4 u5 u6 u7
theorem all_mk {l:PySem.W.OpenLaw} {w:World} {K:PySem.W.Frag} {h:Heap} {mg:Str→Option Value} {fa f0 f1 f2 f3 f4 f5 f6 f7 f8 f9 f10 f11 f12 f13 f14 f15 f16 f17 f18 f19 f20 f21 f22 f23 f24 f25 f26 f27 f28 f29 f30 f31 f32 f33 f34 f35 f36 f37 f38 f39 f40 f41 f42 f43 f44 pT0 cT0 pT1 cT1:Addr} (X:K.In h) (G:h.Ns mainGlobals mg) (hfa:mg "law"=some (.ref fa))
    {od0 an0 od1 an1 od2 an2 od3 an3 od4 an4 od5 an5 od6 an6 od7 an7 od8 an8 od9 an9 od10 an10 od11 an11 od12 an12 od13 an13 od14 an14 od15 an15 od16 an16 od17 an17 od18 an18 od19 an19 od20 an20 od21 an21 od22 an22 od23 an23 od24 an24 od25 an25 od26 an26 od27 an27 od28 an28 od29 an29 od30 an30 od31 an31 od32 an32 od33 an33 od34 an34 od35 an35 od36 an36 od37 an37 od38 an38 od39 an39 od40 an40 od41 an41 od42 an42 od43 an43 od44 an44:Option Addr} {sl0 sl1 sl2 sl3 sl4 sl5 sl6 sl7 sl8 sl9 sl10 sl11 sl12 sl13 sl14 sl15 sl16 sl17 sl18 sl19 sl20 sl21 sl22 sl23 sl24 sl25 sl26 sl27 sl28 sl29 sl30 sl31 sl32 sl33 sl34 sl35 sl36 sl37 sl38 sl39 sl40 sl41 sl42 sl43 sl44:Array (Option Value)} {oc0 kV0 dc0 pm0 cd0 ct0 oc1 kV1 dc1 pm1 ct1 oc2 kV2 dc2 pm2 cd2 ct2 oc3 kV3 dc3 pm3 cd3 ct3 oc4 kV4 dc4 pm4 cd4 ct4 oc5 kV5 dc5 pm5 cd5 ct5 oc6 kV6 dc6 pm6 cd6 ct6 oc7 kV7 dc7 pm7 cd7 ct7 oc8 kV8 dc8 pm8 cd8 ct8 oc9 kV9 dc9 pm9 cd9 ct9 oc10 kV10 dc10 pm10 cd10 ct10 oc11 kV11 dc11 pm11 ct11 oc12 kV12 dc12 pm12 cd12 ct12 oc13 kV13 dc13 pm13 cd13 ct13 oc14 kV14 dc14 pm14 cd14 ct14 oc15 kV15 dc15 pm15 cd15 ct15 oc16 kV16 dc16 pm16 cd16 ct16 oc17 kV17 dc17 pm17 cd17 ct17 oc18 kV18 dc18 pm18 cd18 ct18 oc19 kV19 dc19 pm19 cd19 ct19 oc20 kV20 dc20 pm20 cd20 ct20 oc21 kV21 dc21 pm21 cd21 ct21 oc22 kV22 dc22 pm22 cd22 ct22 oc23 kV23 dc23 pm23 cd23 ct23 oc24 kV24 dc24 pm24 cd24 ct24 oc25 kV25 dc25 pm25 cd25 ct25 oc26 kV26 dc26 pm26 cd26 ct26 oc27 kV27 dc27 pm27 cd27 ct27 oc28 kV28 dc28 pm28 cd28 ct28 oc29 kV29 dc29 pm29 cd29 ct29 oc30 kV30 dc30 pm30 cd30 ct30 oc31 kV31 dc31 pm31 cd31 ct31 oc32 kV32 dc32 pm32 cd32 ct32 oc33 kV33 dc33 pm33 cd33 ct33 oc34 kV34 dc34 pm34 cd34 ct34 oc35 kV35 dc35 pm35 cd35 ct35 oc36 kV36 dc36 pm36 cd36 ct36 oc37 kV37 dc37 pm37 cd37 ct37 oc38 kV38 dc38 pm38 cd38 ct38 oc39 kV39 dc39 pm39 cd39 ct39 oc40 kV40 dc40 pm40 cd40 ct40 oc41 kV41 dc41 pm41 cd41 ct41 oc42 kV42 dc42 pm42 cd42 ct42 oc43 kV43 dc43 pm43 cd43 ct43 oc44 kV44 dc44 pm44 cd44 ct44:Value} {t0 t1:Tok}
    (a0:PySem.W.nsIn K mainGlobals "way_of"=some (some (.ref f0))) (l0:K.lookup f0=some ⟨oc0,od0,.func (PySem.W.fnOf "way_of" "way_of" (aF jk) (aC jk) (ao jk) .none kV0 dc0 pm0 an0 cd0 ct0),sl0⟩) (c0:PySem.W.codeIn K cd0 "way_of"=true) (k0:PySem.W.keepIn K (.ref f0)=true)
    (a1:PySem.W.nsIn K mainGlobals "tops_first"=some (some (.ref f1))) (l1:K.lookup f1=some ⟨oc1,od1,.func (PySem.W.fnOf "tops_first" "tops_first" (aF dF) (aC dF) (ao dF) .none kV1 dc1 pm1 an1 (.ref cT1) ct1),sl1⟩) (c1:PySem.W.codeIn K (.ref cT1) "tops_first"=true) (k1:PySem.W.keepIn K (.ref f1)=true)
    (a2:PySem.W.nsIn K mainGlobals "mouths_of"=some (some (.ref f2))) (l2:K.lookup f2=some ⟨oc2,od2,.func (PySem.W.fnOf "mouths_of" "mouths_of" (aF fj) (aC fj) (ao fj) .none kV2 dc2 pm2 an2 cd2 ct2),sl2⟩) (c2:PySem.W.codeIn K cd2 "mouths_of"=true) (k2:PySem.W.keepIn K (.ref f2)=true)
    (a3:PySem.W.nsIn K mainGlobals "stretch_of"=some (some (.ref f3))) (l3:K.lookup f3=some ⟨oc3,od3,.func (PySem.W.fnOf "stretch_of" "stretch_of" (aF dG) (aC dG) (ao dG) .none kV3 dc3 pm3 an3 cd3 ct3),sl3⟩) (c3:PySem.W.codeIn K cd3 "stretch_of"=true) (k3:PySem.W.keepIn K (.ref f3)=true)
    (a4:PySem.W.nsIn K mainGlobals "natural_of"=some (some (.ref f4))) (l4:K.lookup f4=some ⟨oc4,od4,.func (PySem.W.fnOf "natural_of" "natural_of" (aF dI) (aC dI) (ao dI) .none kV4 dc4 pm4 an4 cd4 ct4),sl4⟩) (c4:PySem.W.codeIn K cd4 "natural_of"=true) (k4:PySem.W.keepIn K (.ref f4)=true)
    (a5:PySem.W.nsIn K mainGlobals "flows_of"=some (some (.ref f5))) (l5:K.lookup f5=some ⟨oc5,od5,.func (PySem.W.fnOf "flows_of" "flows_of" (aF gU) (aC gU) (ao gU) .none kV5 dc5 pm5 an5 cd5 ct5),sl5⟩) (c5:PySem.W.codeIn K cd5 "flows_of"=true) (k5:PySem.W.keepIn K (.ref f5)=true)
    (a6:PySem.W.nsIn K mainGlobals "reaches_of"=some (some (.ref f6))) (l6:K.lookup f6=some ⟨oc6,od6,.func (PySem.W.fnOf "reaches_of" "reaches_of" (aF eG) (aC eG) (ao eG) .none kV6 dc6 pm6 an6 cd6 ct6),sl6⟩) (c6:PySem.W.codeIn K cd6 "reaches_of"=true) (k6:PySem.W.keepIn K (.ref f6)=true)
    (a7:PySem.W.nsIn K mainGlobals "day_filed"=some (some (.ref f7))) (l7:K.lookup f7=some ⟨oc7,od7,.func (PySem.W.fnOf "day_filed" "day_filed" (aF fB) (aC fB) (ao fB) .none kV7 dc7 pm7 an7 cd7 ct7),sl7⟩) (c7:PySem.W.codeIn K cd7 "day_filed"=true) (k7:PySem.W.keepIn K (.ref f7)=true)
    (a8:PySem.W.nsIn K mainGlobals "start_of"=some (some (.ref f8))) (l8:K.lookup f8=some ⟨oc8,od8,.func (PySem.W.fnOf "start_of" "start_of" (aF gQ) (aC gQ) (ao gQ) .none kV8 dc8 pm8 an8 cd8 ct8),sl8⟩) (c8:PySem.W.codeIn K cd8 "start_of"=true) (k8:PySem.W.keepIn K (.ref f8)=true)
    (a9:PySem.W.nsIn K mainGlobals "gives_back"=some (some (.ref f9))) (l9:K.lookup f9=some ⟨oc9,od9,.func (PySem.W.fnOf "gives_back" "gives_back" (aF eO) (aC eO) (ao eO) .none kV9 dc9 pm9 an9 cd9 ct9),sl9⟩) (c9:PySem.W.codeIn K cd9 "gives_back"=true) (k9:PySem.W.keepIn K (.ref f9)=true)
    (a10:PySem.W.nsIn K mainGlobals "most_of"=some (some (.ref f10))) (l10:K.lookup f10=some ⟨oc10,od10,.func (PySem.W.fnOf "most_of" "most_of" (aF jt) (aC jt) (ao jt) .none kV10 dc10 pm10 an10 cd10 ct10),sl10⟩) (c10:PySem.W.codeIn K cd10 "most_of"=true) (k10:PySem.W.keepIn K (.ref f10)=true)
    (a11:PySem.W.nsIn K mainGlobals "ranked"=some (some (.ref f11))) (l11:K.lookup f11=some ⟨oc11,od11,.func (PySem.W.fnOf "ranked" "ranked" (aF jK) (aC jK) (ao jK) .none kV11 dc11 pm11 an11 (.ref cT0) ct11),sl11⟩) (c11:PySem.W.codeIn K (.ref cT0) "ranked"=true) (k11:PySem.W.keepIn K (.ref f11)=true)
    (a12:PySem.W.nsIn K mainGlobals "groups_of"=some (some (.ref f12))) (l12:K.lookup f12=some ⟨oc12,od12,.func (PySem.W.fnOf "groups_of" "groups_of" (aF fQ) (aC fQ) (ao fQ) .none kV12 dc12 pm12 an12 cd12 ct12),sl12⟩) (c12:PySem.W.codeIn K cd12 "groups_of"=true) (k12:PySem.W.keepIn K (.ref f12)=true)
    (a13:PySem.W.nsIn K mainGlobals "wants_of"=some (some (.ref f13))) (l13:K.lookup f13=some ⟨oc13,od13,.func (PySem.W.fnOf "wants_of" "wants_of" (aF gq) (aC gq) (ao gq) .none kV13 dc13 pm13 an13 cd13 ct13),sl13⟩) (c13:PySem.W.codeIn K cd13 "wants_of"=true) (k13:PySem.W.keepIn K (.ref f13)=true)
    (a14:PySem.W.nsIn K mainGlobals "count_ways"=some (some (.ref f14))) (l14:K.lookup f14=some ⟨oc14,od14,.func (PySem.W.fnOf "count_ways" "count_ways" (aF eV) (aC eV) (ao eV) .none kV14 dc14 pm14 an14 cd14 ct14),sl14⟩) (c14:PySem.W.codeIn K cd14 "count_ways"=true) (k14:PySem.W.keepIn K (.ref f14)=true)
    (a15:PySem.W.nsIn K mainGlobals "whole_turns"=some (some (.ref f15))) (l15:K.lookup f15=some ⟨oc15,od15,.func (PySem.W.fnOf "whole_turns" "whole_turns" (aF cV) (aC cV) (ao cV) .none kV15 dc15 pm15 an15 cd15 ct15),sl15⟩) (c15:PySem.W.codeIn K cd15 "whole_turns"=true) (k15:PySem.W.keepIn K (.ref f15)=true)
    (a16:PySem.W.nsIn K mainGlobals "draw"=some (some (.ref f16))) (l16:K.lookup f16=some ⟨oc16,od16,.func (PySem.W.fnOf "draw" "draw" (aF nZ) (aC nZ) (ao nZ) .none kV16 dc16 pm16 an16 cd16 ct16),sl16⟩) (c16:PySem.W.codeIn K cd16 "draw"=true) (k16:PySem.W.keepIn K (.ref f16)=true)
    (a17:PySem.W.nsIn K mainGlobals "take_whole_turns"=some (some (.ref f17))) (l17:K.lookup f17=some ⟨oc17,od17,.func (PySem.W.fnOf "take_whole_turns" "take_whole_turns" (aF bA) (aC bA) (ao bA) .none kV17 dc17 pm17 an17 cd17 ct17),sl17⟩) (c17:PySem.W.codeIn K cd17 "take_whole_turns"=true) (k17:PySem.W.keepIn K (.ref f17)=true)
    (a18:PySem.W.nsIn K mainGlobals "take_one_turn"=some (some (.ref f18))) (l18:K.lookup f18=some ⟨oc18,od18,.func (PySem.W.fnOf "take_one_turn" "take_one_turn" (aF bV) (aC bV) (ao bV) .none kV18 dc18 pm18 an18 cd18 ct18),sl18⟩) (c18:PySem.W.codeIn K cd18 "take_one_turn"=true) (k18:PySem.W.keepIn K (.ref f18)=true)
    (a19:PySem.W.nsIn K mainGlobals "deal_turns"=some (some (.ref f19))) (l19:K.lookup f19=some ⟨oc19,od19,.func (PySem.W.fnOf "deal_turns" "deal_turns" (aF eU) (aC eU) (ao eU) .none kV19 dc19 pm19 an19 cd19 ct19),sl19⟩) (c19:PySem.W.codeIn K cd19 "deal_turns"=true) (k19:PySem.W.keepIn K (.ref f19)=true)
    (a20:PySem.W.nsIn K mainGlobals "deal"=some (some (.ref f20))) (l20:K.lookup f20=some ⟨oc20,od20,.func (PySem.W.fnOf "deal" "deal" (aF ni) (aC ni) (ao ni) .none kV20 dc20 pm20 an20 cd20 ct20),sl20⟩) (c20:PySem.W.codeIn K cd20 "deal"=true) (k20:PySem.W.keepIn K (.ref f20)=true)
    (a21:PySem.W.nsIn K mainGlobals "pond_start"=some (some (.ref f21))) (l21:K.lookup f21=some ⟨oc21,od21,.func (PySem.W.fnOf "pond_start" "pond_start" (aF dH) (aC dH) (ao dH) .none kV21 dc21 pm21 an21 cd21 ct21),sl21⟩) (c21:PySem.W.codeIn K cd21 "pond_start"=true) (k21:PySem.W.keepIn K (.ref f21)=true)
    (a22:PySem.W.nsIn K mainGlobals "look_at_let"=some (some (.ref f22))) (l22:K.lookup f22=some ⟨oc22,od22,.func (PySem.W.fnOf "look_at_let" "look_at_let" (aF dJ) (aC dJ) (ao dJ) .none kV22 dc22 pm22 an22 cd22 ct22),sl22⟩) (c22:PySem.W.codeIn K cd22 "look_at_let"=true) (k22:PySem.W.keepIn K (.ref f22)=true)
    (a23:PySem.W.nsIn K mainGlobals "let_out"=some (some (.ref f23))) (l23:K.lookup f23=some ⟨oc23,od23,.func (PySem.W.fnOf "let_out" "let_out" (aF ju) (aC ju) (ao ju) .none kV23 dc23 pm23 an23 cd23 ct23),sl23⟩) (c23:PySem.W.codeIn K cd23 "let_out"=true) (k23:PySem.W.keepIn K (.ref f23)=true)
    (a24:PySem.W.nsIn K mainGlobals "pond_calls"=some (some (.ref f24))) (l24:K.lookup f24=some ⟨oc24,od24,.func (PySem.W.fnOf "pond_calls" "pond_calls" (aF eH) (aC eH) (ao eH) .none kV24 dc24 pm24 an24 cd24 ct24),sl24⟩) (c24:PySem.W.codeIn K cd24 "pond_calls"=true) (k24:PySem.W.keepIn K (.ref f24)=true)
    (a25:PySem.W.nsIn K mainGlobals "evening"=some (some (.ref f25))) (l25:K.lookup f25=some ⟨oc25,od25,.func (PySem.W.fnOf "evening" "evening" (aF jw) (aC jw) (ao jw) .none kV25 dc25 pm25 an25 cd25 ct25),sl25⟩) (c25:PySem.W.codeIn K cd25 "evening"=true) (k25:PySem.W.keepIn K (.ref f25)=true)
    (a26:PySem.W.nsIn K mainGlobals "morning_of"=some (some (.ref f26))) (l26:K.lookup f26=some ⟨oc26,od26,.func (PySem.W.fnOf "morning_of" "morning_of" (aF eN) (aC eN) (ao eN) .none kV26 dc26 pm26 an26 cd26 ct26),sl26⟩) (c26:PySem.W.codeIn K cd26 "morning_of"=true) (k26:PySem.W.keepIn K (.ref f26)=true)
    (a27:PySem.W.nsIn K mainGlobals "moves_of"=some (some (.ref f27))) (l27:K.lookup f27=some ⟨oc27,od27,.func (PySem.W.fnOf "moves_of" "moves_of" (aF gR) (aC gR) (ao gR) .none kV27 dc27 pm27 an27 cd27 ct27),sl27⟩) (c27:PySem.W.codeIn K cd27 "moves_of"=true) (k27:PySem.W.keepIn K (.ref f27)=true)
    (a28:PySem.W.nsIn K mainGlobals "used_of"=some (some (.ref f28))) (l28:K.lookup f28=some ⟨oc28,od28,.func (PySem.W.fnOf "used_of" "used_of" (aF fL) (aC fL) (ao fL) .none kV28 dc28 pm28 an28 cd28 ct28),sl28⟩) (c28:PySem.W.codeIn K cd28 "used_of"=true) (k28:PySem.W.keepIn K (.ref f28)=true)
    (a29:PySem.W.nsIn K mainGlobals "day_of"=some (some (.ref f29))) (l29:K.lookup f29=some ⟨oc29,od29,.func (PySem.W.fnOf "day_of" "day_of" (aF jL) (aC jL) (ao jL) .none kV29 dc29 pm29 an29 cd29 ct29),sl29⟩) (c29:PySem.W.codeIn K cd29 "day_of"=true) (k29:PySem.W.keepIn K (.ref f29)=true)
    (a30:PySem.W.nsIn K mainGlobals "_law_nth"=some (some (.ref f30))) (l30:K.lookup f30=some ⟨oc30,od30,.func (PySem.W.fnOf "_law_nth" "_law_nth" (aF gW) (aC gW) (ao gW) .none kV30 dc30 pm30 an30 cd30 ct30),sl30⟩) (c30:PySem.W.codeIn K cd30 "_law_nth"=true) (k30:PySem.W.keepIn K (.ref f30)=true)
    (a31:PySem.W.nsIn K mainGlobals "_law_draws"=some (some (.ref f31))) (l31:K.lookup f31=some ⟨oc31,od31,.func (PySem.W.fnOf "_law_draws" "_law_draws" (aF cJ) (aC cJ) (ao cJ) .none kV31 dc31 pm31 an31 cd31 ct31),sl31⟩) (c31:PySem.W.codeIn K cd31 "_law_draws"=true) (k31:PySem.W.keepIn K (.ref f31)=true)
    (a32:PySem.W.nsIn K mainGlobals "_law_river"=some (some (.ref f32))) (l32:K.lookup f32=some ⟨oc32,od32,.func (PySem.W.fnOf "_law_river" "_law_river" (aF dM) (aC dM) (ao dM) .none kV32 dc32 pm32 an32 cd32 ct32),sl32⟩) (c32:PySem.W.codeIn K cd32 "_law_river"=true) (k32:PySem.W.keepIn K (.ref f32)=true)
    (a33:PySem.W.nsIn K mainGlobals "_law_way"=some (some (.ref f33))) (l33:K.lookup f33=some ⟨oc33,od33,.func (PySem.W.fnOf "_law_way" "_law_way" (aF fO) (aC fO) (ao fO) .none kV33 dc33 pm33 an33 cd33 ct33),sl33⟩) (c33:PySem.W.codeIn K cd33 "_law_way"=true) (k33:PySem.W.keepIn K (.ref f33)=true)
    (a34:PySem.W.nsIn K mainGlobals "_law_amount"=some (some (.ref f34))) (l34:K.lookup f34=some ⟨oc34,od34,.func (PySem.W.fnOf "_law_amount" "_law_amount" (aF cG) (aC cG) (ao cG) .none kV34 dc34 pm34 an34 cd34 ct34),sl34⟩) (c34:PySem.W.codeIn K cd34 "_law_amount"=true) (k34:PySem.W.keepIn K (.ref f34)=true)
    (a35:PySem.W.nsIn K mainGlobals "_law_some"=some (some (.ref f35))) (l35:K.lookup f35=some ⟨oc35,od35,.func (PySem.W.fnOf "_law_some" "_law_some" (aF fC) (aC fC) (ao fC) .none kV35 dc35 pm35 an35 cd35 ct35),sl35⟩) (c35:PySem.W.codeIn K cd35 "_law_some"=true) (k35:PySem.W.keepIn K (.ref f35)=true)
    (a36:PySem.W.nsIn K mainGlobals "_law_line"=some (some (.ref f36))) (l36:K.lookup f36=some ⟨oc36,od36,.func (PySem.W.fnOf "_law_line" "_law_line" (aF fV) (aC fV) (ao fV) .none kV36 dc36 pm36 an36 cd36 ct36),sl36⟩) (c36:PySem.W.codeIn K cd36 "_law_line"=true) (k36:PySem.W.keepIn K (.ref f36)=true)
    (a37:PySem.W.nsIn K mainGlobals "_law_roll"=some (some (.ref f37))) (l37:K.lookup f37=some ⟨oc37,od37,.func (PySem.W.fnOf "_law_roll" "_law_roll" (aF fU) (aC fU) (ao fU) .none kV37 dc37 pm37 an37 cd37 ct37),sl37⟩) (c37:PySem.W.codeIn K cd37 "_law_roll"=true) (k37:PySem.W.keepIn K (.ref f37)=true)
    (a38:PySem.W.nsIn K mainGlobals "_law_ponds"=some (some (.ref f38))) (l38:K.lookup f38=some ⟨oc38,od38,.func (PySem.W.fnOf "_law_ponds" "_law_ponds" (aF dN) (aC dN) (ao dN) .none kV38 dc38 pm38 an38 cd38 ct38),sl38⟩) (c38:PySem.W.codeIn K cd38 "_law_ponds"=true) (k38:PySem.W.keepIn K (.ref f38)=true)
    (a39:PySem.W.nsIn K mainGlobals "_law_lets"=some (some (.ref f39))) (l39:K.lookup f39=some ⟨oc39,od39,.func (PySem.W.fnOf "_law_lets" "_law_lets" (aF fY) (aC fY) (ao fY) .none kV39 dc39 pm39 an39 cd39 ct39),sl39⟩) (c39:PySem.W.codeIn K cd39 "_law_lets"=true) (k39:PySem.W.keepIn K (.ref f39)=true)
    (a40:PySem.W.nsIn K mainGlobals "_law_numbers"=some (some (.ref f40))) (l40:K.lookup f40=some ⟨oc40,od40,.func (PySem.W.fnOf "_law_numbers" "_law_numbers" (aF cF) (aC cF) (ao cF) .none kV40 dc40 pm40 an40 cd40 ct40),sl40⟩) (c40:PySem.W.codeIn K cd40 "_law_numbers"=true) (k40:PySem.W.keepIn K (.ref f40)=true)
    (a41:PySem.W.nsIn K mainGlobals "_law_kinds"=some (some (.ref f41))) (l41:K.lookup f41=some ⟨oc41,od41,.func (PySem.W.fnOf "_law_kinds" "_law_kinds" (aF eX) (aC eX) (ao eX) .none kV41 dc41 pm41 an41 cd41 ct41),sl41⟩) (c41:PySem.W.codeIn K cd41 "_law_kinds"=true) (k41:PySem.W.keepIn K (.ref f41)=true)
    (a42:PySem.W.nsIn K mainGlobals "_law_shown"=some (some (.ref f42))) (l42:K.lookup f42=some ⟨oc42,od42,.func (PySem.W.fnOf "_law_shown" "_law_shown" (aF cH) (aC cH) (ao cH) .none kV42 dc42 pm42 an42 cd42 ct42),sl42⟩) (c42:PySem.W.codeIn K cd42 "_law_shown"=true) (k42:PySem.W.keepIn K (.ref f42)=true)
    (a43:PySem.W.nsIn K mainGlobals "_law_sheet"=some (some (.ref f43))) (l43:K.lookup f43=some ⟨oc43,od43,.func (PySem.W.fnOf "_law_sheet" "_law_sheet" (aF cI) (aC cI) (ao cI) .none kV43 dc43 pm43 an43 cd43 ct43),sl43⟩) (c43:PySem.W.codeIn K cd43 "_law_sheet"=true) (k43:PySem.W.keepIn K (.ref f43)=true)
    (a44:PySem.W.nsIn K mainGlobals "law"=some (some (.ref f44))) (l44:K.lookup f44=some ⟨oc44,od44,.func (PySem.W.fnOf "law" "law" (aF nY) (aC nY) (ao nY) .none kV44 dc44 pm44 an44 cd44 ct44),sl44⟩) (c44:PySem.W.codeIn K cd44 "law"=true) (k44:PySem.W.keepIn K (.ref f44)=true)
    (e0:PySem.W.nsIn K mainGlobals "MOUTH"=some (some (.int (-1) t0)))
    (e1:PySem.W.nsIn K mainGlobals "WHOLE"=some (some (.int (1000) t1)))
    (z_len:PySem.W.nsIn K mainGlobals "len"=some none)
    (z_range:PySem.W.nsIn K mainGlobals "range"=some none)
    (z_list:PySem.W.nsIn K mainGlobals "list"=some none)
    (z_isinstance:PySem.W.nsIn K mainGlobals "isinstance"=some none)
    (z_bool:PySem.W.nsIn K mainGlobals "bool"=some none)
    (z_int:PySem.W.nsIn K mainGlobals "int"=some none)
    (z_all:PySem.W.nsIn K mainGlobals "all"=some none)
    (z_min:PySem.W.nsIn K mainGlobals "min"=some none)
    (z_max:PySem.W.nsIn K mainGlobals "max"=some none)
    (z_sum:PySem.W.nsIn K mainGlobals "sum"=some none)
    (z_sorted:PySem.W.nsIn K mainGlobals "sorted"=some none)
    (z_zip:PySem.W.nsIn K mainGlobals "zip"=some none)
    (z_tuple:PySem.W.nsIn K mainGlobals "tuple"=some none)
    (z_str:PySem.W.nsIn K mainGlobals "str"=some none)
    (z_any:PySem.W.nsIn K mainGlobals "any"=some none)
    (z_enumerate:PySem.W.nsIn K mainGlobals "enumerate"=some none)
    (z_reversed:PySem.W.nsIn K mainGlobals "reversed"=some none)
    (z_abs:PySem.W.nsIn K mainGlobals "abs"=some none)
    (z_ValueError:PySem.W.nsIn K mainGlobals "ValueError"=some none)
    (y0:PySem.W.codeHdIn K cT0 pT0=true)
    (y1:PySem.W.codeHdIn K cT1 pT1=true)
    (dd0_1:pT0≠pT1)
    : ∃ fd:FuncData,(∀ (s:Shared) (v:Value),BindsTo s fd ⟨[v],[]⟩ [("script",v)])∧∀ base:Heap,K.In base→base.Ns mainGlobals mg→BM mg base→cA l.prog w K mg base CX0 9 fa fd ["script"] (yq K [(pT0,bZ.1,bZ.2),(pT1,dW.1,dW.2)]):=by
  have e:=hfa.symm.trans (PySem.W.mg_of X G a44)
  cases e
  have B:Blt mg:=⟨PySem.W.mg_none_of X G z_len,PySem.W.mg_none_of X G z_range,PySem.W.mg_none_of X G z_list,PySem.W.mg_none_of X G z_isinstance,PySem.W.mg_none_of X G z_bool,PySem.W.mg_none_of X G z_int,PySem.W.mg_none_of X G z_all,PySem.W.mg_none_of X G z_min,PySem.W.mg_none_of X G z_max,PySem.W.mg_none_of X G z_sum,PySem.W.mg_none_of X G z_sorted,PySem.W.mg_none_of X G z_zip,PySem.W.mg_none_of X G z_tuple,PySem.W.mg_none_of X G z_str,PySem.W.mg_none_of X G z_any,PySem.W.mg_none_of X G z_enumerate,PySem.W.mg_none_of X G z_reversed,PySem.W.mg_none_of X G z_abs,PySem.W.mg_none_of X G z_ValueError⟩
  have h_MOUTH:∃ t,mg "MOUTH"=some (.int (-1) t):=⟨_,PySem.W.mg_of X G e0⟩
  have h_WHOLE:∃ t,mg "WHOLE"=some (.int (1000) t):=⟨_,PySem.W.mg_of X G e1⟩
  have F0:=bN (st:=jk) l0 c0 k0
  have dX:Df K mg "way_of" jk ["below","reach"] _ _:=⟨F0,mK F0 (fun _ _ _ _ _ _ _ _=>rfl),PySem.W.mg_of X G a0⟩
  have F1:=bN (st:=dF) l1 c1 k1
  have ig:Df K mg "tops_first" dF ["below"] _ _:=⟨F1,nF F1 (fun _ _ _ _ _ _ _=>rfl),PySem.W.mg_of X G a1⟩
  have F2:=bN (st:=fj) l2 c2 k2
  have jf:Df K mg "mouths_of" fj ["below"] _ _:=⟨F2,nF F2 (fun _ _ _ _ _ _ _=>rfl),PySem.W.mg_of X G a2⟩
  have F3:=bN (st:=dG) l3 c3 k3
  have cM:Df K mg "stretch_of" dG ["below","start","stop"] _ _:=⟨F3,pF F3 (fun _ _ _ _ _ _ _ _ _=>rfl),PySem.W.mg_of X G a3⟩
  have F4:=bN (st:=dI) l4 c4 k4
  have cO:Df K mg "natural_of" dI ["below","springs"] _ _:=⟨F4,mK F4 (fun _ _ _ _ _ _ _ _=>rfl),PySem.W.mg_of X G a4⟩
  have F5:=bN (st:=gU) l5 c5 k5
  have jT:Df K mg "flows_of" gU ["below","springs","moves"] _ _:=⟨F5,pF F5 (fun _ _ _ _ _ _ _ _ _=>rfl),PySem.W.mg_of X G a5⟩
  have F6:=bN (st:=eG) l6 c6 k6
  have iu:Df K mg "reaches_of" eG ["below","one"] _ _:=⟨F6,mK F6 (fun _ _ _ _ _ _ _ _=>rfl),PySem.W.mg_of X G a6⟩
  have F7:=bN (st:=fB) l7 c7 k7
  have dw:Df K mg "day_filed" fB ["one"] _ _:=⟨F7,nF F7 (fun _ _ _ _ _ _ _=>rfl),PySem.W.mg_of X G a7⟩
  have F8:=bN (st:=gQ) l8 c8 k8
  have jQ:Df K mg "start_of" gQ ["one"] _ _:=⟨F8,nF F8 (fun _ _ _ _ _ _ _=>rfl),PySem.W.mg_of X G a8⟩
  have F9:=bN (st:=eO) l9 c9 k9
  have iz:Df K mg "gives_back" eO ["one"] _ _:=⟨F9,nF F9 (fun _ _ _ _ _ _ _=>rfl),PySem.W.mg_of X G a9⟩
  have F10:=bN (st:=jt) l10 c10 k10
  have lA:Df K mg "most_of" jt ["one"] _ _:=⟨F10,nF F10 (fun _ _ _ _ _ _ _=>rfl),PySem.W.mg_of X G a10⟩
  have F11:=bN (st:=jK) l11 c11 k11
  have m7:Df K mg "ranked" jK ["roll"] _ _:=⟨F11,nF F11 (fun _ _ _ _ _ _ _=>rfl),PySem.W.mg_of X G a11⟩
  have F12:=bN (st:=fQ) l12 c12 k12
  have jg:Df K mg "groups_of" fQ ["roll"] _ _:=⟨F12,nF F12 (fun _ _ _ _ _ _ _=>rfl),PySem.W.mg_of X G a12⟩
  have F13:=bN (st:=gq) l13 c13 k13
  have jP:Df K mg "wants_of" gq ["roll","calls"] _ _:=⟨F13,mK F13 (fun _ _ _ _ _ _ _ _=>rfl),PySem.W.mg_of X G a13⟩
  have F14:=bN (st:=eV) l14 c14 k14
  have iC:Df K mg "count_ways" eV ["free","ways"] _ _:=⟨F14,mK F14 (fun _ _ _ _ _ _ _ _=>rfl),PySem.W.mg_of X G a14⟩
  have F15:=bN (st:=cV) l15 c15 k15
  have gB:Df K mg "whole_turns" cV ["free","ways","rests"] _ _:=⟨F15,pF F15 (fun _ _ _ _ _ _ _ _ _=>rfl),PySem.W.mg_of X G a15⟩
  have F16:=bN (st:=nZ) l16 c16 k16
  have mR:Df K mg "draw" nZ ["left","way","drops"] _ _:=⟨F16,pF F16 (fun _ _ _ _ _ _ _ _ _=>rfl),PySem.W.mg_of X G a16⟩
  have F17:=bN (st:=bA) l17 c17 k17
  have cR:Df K mg "take_whole_turns" bA ["left","ways","rests","takes","going"] _ _:=⟨F17,rR F17 (fun _ _ _ _ _ _ _ _ _ _ _=>rfl),PySem.W.mg_of X G a17⟩
  have F18:=bN (st:=bV) l18 c18 k18
  have d9:Df K mg "take_one_turn" bV ["left","ways","rests","takes","going"] _ _:=⟨F18,rR F18 (fun _ _ _ _ _ _ _ _ _ _ _=>rfl),PySem.W.mg_of X G a18⟩
  have F19:=bN (st:=eU) l19 c19 k19
  have iB:Df K mg "deal_turns" eU ["free","ways","rests"] _ _:=⟨F19,pF F19 (fun _ _ _ _ _ _ _ _ _=>rfl),PySem.W.mg_of X G a19⟩
  have F20:=bN (st:=ni) l20 c20 k20
  have rT:Df K mg "deal" ni ["below","springs","roll","calls"] _ _:=⟨F20,qN F20 (fun _ _ _ _ _ _ _ _ _ _=>rfl),PySem.W.mg_of X G a20⟩
  have F21:=bN (st:=dH) l21 c21 k21
  have cN:Df K mg "pond_start" dH ["roll","pond"] _ _:=⟨F21,mK F21 (fun _ _ _ _ _ _ _ _=>rfl),PySem.W.mg_of X G a21⟩
  have F22:=bN (st:=dJ) l22 c22 k22
  have gC:Df K mg "look_at_let" dJ ["below","roll","ponds","kept","let"] _ _:=⟨F22,rR F22 (fun _ _ _ _ _ _ _ _ _ _ _=>rfl),PySem.W.mg_of X G a22⟩
  have F23:=bN (st:=ju) l23 c23 k23
  have lB:Df K mg "let_out" ju ["below","roll","ponds","kept","lets"] _ _:=⟨F23,rR F23 (fun _ _ _ _ _ _ _ _ _ _ _=>rfl),PySem.W.mg_of X G a23⟩
  have F24:=bN (st:=eH) l24 c24 k24
  have iw:Df K mg "pond_calls" eH ["roll","ponds","kept","calls"] _ _:=⟨F24,qN F24 (fun _ _ _ _ _ _ _ _ _ _=>rfl),PySem.W.mg_of X G a24⟩
  have F25:=bN (st:=jw) l25 c25 k25
  have lC:Df K mg "evening" jw ["ponds","kept","takes"] _ _:=⟨F25,pF F25 (fun _ _ _ _ _ _ _ _ _=>rfl),PySem.W.mg_of X G a25⟩
  have F26:=bN (st:=eN) l26 c26 k26
  have iy:Df K mg "morning_of" eN ["below","roll","ponds","kept","calls","lets"] _ _:=⟨F26,Vu F26 (fun _ _ _ _ _ _ _ _ _ _ _ _=>rfl),PySem.W.mg_of X G a26⟩
  have F27:=bN (st:=gR) l27 c27 k27
  have jR:Df K mg "moves_of" gR ["roll","ponds","takes","lets"] _ _:=⟨F27,qN F27 (fun _ _ _ _ _ _ _ _ _ _=>rfl),PySem.W.mg_of X G a27⟩
  have F28:=bN (st:=fL) l28 c28 k28
  have kZ:Df K mg "used_of" fL ["roll","ponds","takes","lets"] _ _:=⟨F28,qN F28 (fun _ _ _ _ _ _ _ _ _ _=>rfl),PySem.W.mg_of X G a28⟩
  have F29:=bN (st:=jL) l29 c29 k29
  have m8:Df K mg "day_of" jL ["below","springs","roll","ponds","kept","calls","lets"] _ _:=⟨F29,Vt F29 (fun _ _ _ _ _ _ _ _ _ _ _ _ _=>rfl),PySem.W.mg_of X G a29⟩
  have F30:=bN (st:=gW) l30 c30 k30
  have bf:Df K mg "_law_nth" gW ["script","k"] _ _:=⟨F30,mK F30 (fun _ _ _ _ _ _ _ _=>rfl),PySem.W.mg_of X G a30⟩
  have F31:=bN (st:=cJ) l31 c31 k31
  have aJ:Df K mg "_law_draws" cJ ["cell","many"] _ _:=⟨F31,mK F31 (fun _ _ _ _ _ _ _ _=>rfl),PySem.W.mg_of X G a31⟩
  have F32:=bN (st:=dM) l32 c32 k32
  have iH:Df K mg "_law_river" dM ["cell"] _ _:=⟨F32,nF F32 (fun _ _ _ _ _ _ _=>rfl),PySem.W.mg_of X G a32⟩
  have F33:=bN (st:=fO) l33 c33 k33
  have bB:Df K mg "_law_way" fO ["below","start","stop"] _ _:=⟨F33,pF F33 (fun _ _ _ _ _ _ _ _ _=>rfl),PySem.W.mg_of X G a33⟩
  have F34:=bN (st:=cG) l34 c34 k34
  have aU:Df K mg "_law_amount" cG ["number","kind"] _ _:=⟨F34,mK F34 (fun _ _ _ _ _ _ _ _=>rfl),PySem.W.mg_of X G a34⟩
  have F35:=bN (st:=fC) l35 c35 k35
  have bY:Df K mg "_law_some" fC ["number","most"] _ _:=⟨F35,mK F35 (fun _ _ _ _ _ _ _ _=>rfl),PySem.W.mg_of X G a35⟩
  have F36:=bN (st:=fV) l36 c36 k36
  have fJ:Df K mg "_law_line" fV ["xs","below","kind","far"] _ _:=⟨F36,qN F36 (fun _ _ _ _ _ _ _ _ _ _=>rfl),PySem.W.mg_of X G a36⟩
  have F37:=bN (st:=fU) l37 c37 k37
  have jh:Df K mg "_law_roll" fU ["cell","cells","below","kind"] _ _:=⟨F37,qN F37 (fun _ _ _ _ _ _ _ _ _ _=>rfl),PySem.W.mg_of X G a37⟩
  have F38:=bN (st:=dN) l38 c38 k38
  have iI:Df K mg "_law_ponds" dN ["xs","roll","kind"] _ _:=⟨F38,pF F38 (fun _ _ _ _ _ _ _ _ _=>rfl),PySem.W.mg_of X G a38⟩
  have F39:=bN (st:=fY) l39 c39 k39
  have ji:Df K mg "_law_lets" fY ["cells","below","roll","ponds","left"] _ _:=⟨F39,rR F39 (fun _ _ _ _ _ _ _ _ _ _ _=>rfl),PySem.W.mg_of X G a39⟩
  have F40:=bN (st:=cF) l40 c40 k40
  have aZ:Df K mg "_law_numbers" cF ["found","many"] _ _:=⟨F40,mK F40 (fun _ _ _ _ _ _ _ _=>rfl),PySem.W.mg_of X G a40⟩
  have F41:=bN (st:=eX) l41 c41 k41
  have iJ:Df K mg "_law_kinds" eX ["told","below","roll","ponds"] _ _:=⟨F41,qN F41 (fun _ _ _ _ _ _ _ _ _ _=>rfl),PySem.W.mg_of X G a41⟩
  have F42:=bN (st:=cH) l42 c42 k42
  have iD:Df K mg "_law_shown" cH ["below","springs","roll","wants","takes"] _ _:=⟨F42,rR F42 (fun _ _ _ _ _ _ _ _ _ _ _=>rfl),PySem.W.mg_of X G a42⟩
  have F43:=bN (st:=cI) l43 c43 k43
  have iG:Df K mg "_law_sheet" cI ["below","springs","roll","ponds","kept","left","lets","told"] _ _:=⟨F43,Vs F43 (fun _ _ _ _ _ _ _ _ _ _ _ _ _ _=>rfl),PySem.W.mg_of X G a43⟩
  have F44:=bN (st:=nY) l44 c44 k44
  have Yq:Df K mg "law" nY ["script"] _ _:=⟨F44,nF F44 (fun _ _ _ _ _ _ _=>rfl),PySem.W.mg_of X G a44⟩
  refine ⟨PySem.W.fnOf "law" "law" (aF nY) (aC nY) (ao nY) .none kV44 dc44 pm44 an44 cd44 ct44,fun s v=>.of_eq rfl,fun base _ _ hbm=>?_⟩
  have C:Mth mg:=⟨h_MOUTH⟩
  have nd:([(pT0,bZ.1,bZ.2),(pT1,dW.1,dW.2)].map (·.1)).Nodup:=by
    show ([pT0,pT1]:List Addr).Nodup
    simp [dd0_1]
  have hT:TT1 pT1 [(pT0,bZ.1,bZ.2),(pT1,dW.1,dW.2)]:=⟨List.mem_cons_of_mem _ List.mem_cons_self,nd⟩
  have hT2:TT2 pT0 [(pT0,bZ.1,bZ.2),(pT1,dW.1,dW.2)]:=⟨List.mem_cons_self,nd⟩
  clear nd
  generalize ([(pT0,bZ.1,bZ.2),(pT1,dW.1,dW.2)]:fZ)=T at hT hT2 ⊢
  have g5:=Qw (P:=l.prog) (w:=w) (base:=base) dX C
  have g6:=Et cM C dX g5
  have g7:=zE iu cM g6
  have g8:=NZ (T:=T) ig rfl y1 hT hbm B dX g5
  have g9:=QH cO B C ig g8
  have g10:=N6 (P:=l.prog) (w:=w) (base:=base) lA
  have g11:=Es (T:=T) jP B lA g10
  have g12:=Ez (P:=l.prog) (w:=w) (base:=base) (T:=T) iC B
  have g13:=WQ gB B iC g12
  have g14:=N8 (P:=l.prog) (w:=w) (base:=base) (T:=T) mR
  have g15:=WR cR B gB g13 mR g14
  have g16:=WW d9 B mR g14
  have g17:=W2 iB B cR g15 d9 g16
  have g18:=QZ (P:=l.prog) (w:=w) (base:=base) dw
  have g19:=BL (T:=T) m7 rfl y0 hT2 hbm B dw g18
  have g20:=BR jg B dw g18 m7 g19
  have g21:=Oa rT B cO g9 jP g11 jg g20 iu g7 iB g17
  have h1:=N5 (P:=l.prog) (w:=w) (base:=base) jQ
  have h2:=QC cN jQ h1
  have h3:=QT (T:=T) gC B C dX g5 cN h2
  have h4:=WY lB B gC h3
  have h5:=WX (P:=l.prog) (w:=w) (base:=base) (T:=T) iw B
  have h6:=QW (P:=l.prog) (w:=w) (base:=base) (T:=T) lC B h_WHOLE
  have h7:=QK iy B lB h4 iw h5
  have h8:=QJ (T:=T) jR B cN h2
  have h9:=W0 (P:=l.prog) (w:=w) (base:=base) iz C
  have h10:=NT (T:=T) kZ B C iz h9
  have h11:=Ew jT cO g9 cM g6
  have h12:=BP (P:=l.prog) (w:=w) (base:=base) (T:=T) jf B C
  have h13:=Ey m8 B iy h7 rT g21 lC h6 jT h11 jR h8 jf h12 kZ h10
  have k1:=QG (P:=l.prog) (w:=w) (base:=base) (T:=T) bf
  have k2:=QX (P:=l.prog) (w:=w) (K:=K) (base:=base) (T:=T) aJ B
  have k3:=Qx (P:=l.prog) (w:=w) (base:=base) bY B
  have k4:=Eu iH B aJ k2
  have k5:=N7 (P:=l.prog) (w:=w) (base:=base) (T:=T) bB
  have k6:=Q0 (P:=l.prog) (w:=w) (base:=base) aU
  have k7:=QM fJ B bB k5 aU k6
  have k9:=QB jh B aJ k2 fJ k7
  have k11:=QD (T:=T) iI B aU k6
  have k12:=QL ji B aJ k2 bB k5 bY k3
  have k13:=QF (P:=l.prog) (w:=w) (K:=K) (base:=base) (T:=T) aZ B
  have k14:=QV iJ B aZ k13
  have k15:=Qz iD B bB k5
  have k16:=Qy (P:=l.prog) (w:=w) (base:=base) (T:=T) iG B
  exact QS Yq B bf k1 iH k4 jh k9 aJ k2 iI k11 aU k6 bY k3 ji k12 m8 h13 iJ k14 iD k15 iG k16
def codeOf (K:PySem.W.Frag) (x:Str):Addr:=match PySem.W.nsIn K mainGlobals x with
  | some (some (.ref f))=>match K.lookup f with
    | some ⟨_,_,.func fd,_⟩=>match fd.code with
      | .ref c=>c
      | _=>0
    | _=>0
  | _=>0
theorem Dg {K:PySem.W.Frag} {P:Addr} (x:Str) (h:PySem.W.codeHdIn K (codeOf K x) P=true):∃ c,PySem.W.codeHdIn K c P=true:=⟨_,h⟩
theorem walk {l:PySem.W.OpenLaw} {q:Program} {loose:List Str} {XP:(Str→Option Value)→Heap→Prop} {YP:World→Heap→Prop} {d:DefRec} {K:Params→PySem.W.Frag} {P0 P1:Addr} (hn:l.most=some 63) (hdf:d.params.defaults=[])
    (hY:∀ (w:World) (h:Heap),YP w h→(K w.params).In h) (hYt:∀ (w:World) (h:Heap),YP w h→∀ P∈([P0,P1]:List Addr),h.get? P=some (PySem.W.tabObj #[])) (hts:∀ (w:World),∀ P∈([P0,P1]:List Addr),(K w.params).lookup P=none∧∃ c,PySem.W.codeHdIn (K w.params) c P=true)
    (F:∀ (w:World) (mg:Str→Option Value) (fa:Addr) (h:Heap),(K w.params).In h→h.Ns mainGlobals mg→mg d.name=some (.ref fa) →
      ∃ fd:FuncData,(∀ (s:Shared) (u:Value),BindsTo s fd ⟨[u],[]⟩ [("script",u)])∧∀ base:Heap,(K w.params).In base→base.Ns mainGlobals mg→BM mg base→cA l.prog w (K w.params) mg base CX0 9 fa fd ["script"] (yq (K w.params) [(P0,bZ.1,bZ.2),(P1,dW.1,dW.2)])) :
    PySem.W.WalkO q loose XP YP l.row.toRowW d [] (fun f vs=>PySem.call f vs) :=
  L2.Eb (n:=63) (k:=9) (x:="script") (CX:=fun _=>CX0) (sp:=fun w=>yq (K w.params) [(P0,bZ.1,bZ.2),(P1,dW.1,dW.2)]) (ts:=([P0,P1]:List Addr)) hn (by decide) hdf ⟨rfl,by decide,by decide⟩ hY hYt hts F (fun _ H a ns hl _ hT hS=>⟨a,ns,rfl,hS,hl,fun t ht=>.inl (hT t.1 (by simp only [List.mem_cons,List.not_mem_nil,or_false] at ht ⊢;(try rcases ht with rfl | ht) <;> (try subst ht) <;> simp)),fun _=>rfl⟩) fun _ _ _ _ _ z=>z
end My
open PySem PySem.W PyProof.Rows
set_option maxRecDepth 100000 in
set_option maxHeartbeats 0 in
theorem PySem.Challenge.cw_sluice_k47_whole_sheet_holds : PySem.Challenge.rw_sluice_k47_whole_sheet.Holds := by
  w_on;o_law
  refine PySem.W.holds_open (q:=My.qv) (loose:=My.yI) (Xt:=(fun s=>PySem.W.xlAt My.qv [] s && PySem.W.recOk (PySem.W.RowW.records PySem.Challenge.rw_sluice_k47_whole_sheet.row.toRowW) s)) (XP:=PySem.W.XL My.qv []) (Yf:=PySem.W.Hook.obs (PySem.W.kmHook My.Kf My.asK My.hkE My.tsK)) (Ya:=PySem.W.Hook.val (PySem.W.kmHook My.Kf My.asK My.hkE My.tsK)) (YP:=PySem.W.Hook.says (PySem.W.kmHook My.Kf My.asK My.hkE My.tsK)) (N:=4778) My.hlE (PySem.W.Hook.of (PySem.W.kmHook My.Kf My.asK My.hkE My.tsK)) (PySem.W.Hook.keeps (PySem.W.kmHook My.Kf My.asK My.hkE My.tsK)) (fun s e=>PySem.W.xl_of s (Bool.and_eq_true_iff.mp e).1) PySem.W.XL.keeps (by rfl) (by rfl) (by rfl) (fun s e=>PySem.W.recFacts_of (Bool.and_eq_true_iff.mp e).2) (by rfl) (by first | assumption | decide +kernel) (by decide +kernel) ⟨rfl,rfl,rfl,rfl,rfl,by decide +kernel⟩ ?hw ?hc
  case hw=>w_witness2
  k_fill
  refine' My.walk (l:=PySem.Challenge.rw_sluice_k47_whole_sheet) rfl rfl (fun w h Y=>PySem.W.km_in_of Y) (fun w h Y=>PySem.W.km_tabs_of Y) ?hts ?F
  case F =>
    intro w mg fa h KX G hmg
    refine' My.all_mk KX G hmg ?a0 ?l0 ?c0 ?k0 ?a1 ?l1 ?c1 ?k1 ?a2 ?l2 ?c2 ?k2 ?a3 ?l3 ?c3 ?k3 ?a4 ?l4 ?c4 ?k4 ?a5 ?l5 ?c5 ?k5 ?a6 ?l6 ?c6 ?k6 ?a7 ?l7 ?c7 ?k7 ?a8 ?l8 ?c8 ?k8 ?a9 ?l9 ?c9 ?k9 ?a10 ?l10 ?c10 ?k10 ?a11 ?l11 ?c11 ?k11 ?a12 ?l12 ?c12 ?k12 ?a13 ?l13 ?c13 ?k13 ?a14 ?l14 ?c14 ?k14 ?a15 ?l15 ?c15 ?k15 ?a16 ?l16 ?c16 ?k16 ?a17 ?l17 ?c17 ?k17 ?a18 ?l18 ?c18 ?k18 ?a19 ?l19 ?c19 ?k19 ?a20 ?l20 ?c20 ?k20 ?a21 ?l21 ?c21 ?k21 ?a22 ?l22 ?c22 ?k22 ?a23 ?l23 ?c23 ?k23 ?a24 ?l24 ?c24 ?k24 ?a25 ?l25 ?c25 ?k25 ?a26 ?l26 ?c26 ?k26 ?a27 ?l27 ?c27 ?k27 ?a28 ?l28 ?c28 ?k28 ?a29 ?l29 ?c29 ?k29 ?a30 ?l30 ?c30 ?k30 ?a31 ?l31 ?c31 ?k31 ?a32 ?l32 ?c32 ?k32 ?a33 ?l33 ?c33 ?k33 ?a34 ?l34 ?c34 ?k34 ?a35 ?l35 ?c35 ?k35 ?a36 ?l36 ?c36 ?k36 ?a37 ?l37 ?c37 ?k37 ?a38 ?l38 ?c38 ?k38 ?a39 ?l39 ?c39 ?k39 ?a40 ?l40 ?c40 ?k40 ?a41 ?l41 ?c41 ?k41 ?a42 ?l42 ?c42 ?k42 ?a43 ?l43 ?c43 ?k43 ?a44 ?l44 ?c44 ?k44 ?e0 ?e1 ?z_len ?z_range ?z_list ?z_isinstance ?z_bool ?z_int ?z_all ?z_min ?z_max ?z_sum ?z_sorted ?z_zip ?z_tuple ?z_str ?z_any ?z_enumerate ?z_reversed ?z_abs ?z_ValueError ?y0 ?y1 ?dd0_1
    (case a0=>k_is)
    (case l0=>k_is)
    (case c0=>k_is)
    (case k0=>k_is)
    (case a1=>k_is)
    (case l1=>k_is)
    (case c1=>k_is)
    (case k1=>k_is)
    (case a2=>k_is)
    (case l2=>k_is)
    (case c2=>k_is)
    (case k2=>k_is)
    (case a3=>k_is)
    (case l3=>k_is)
    (case c3=>k_is)
    (case k3=>k_is)
    (case a4=>k_is)
    (case l4=>k_is)
    (case c4=>k_is)
    (case k4=>k_is)
    (case a5=>k_is)
    (case l5=>k_is)
    (case c5=>k_is)
    (case k5=>k_is)
    (case a6=>k_is)
    (case l6=>k_is)
    (case c6=>k_is)
    (case k6=>k_is)
    (case a7=>k_is)
    (case l7=>k_is)
    (case c7=>k_is)
    (case k7=>k_is)
    (case a8=>k_is)
    (case l8=>k_is)
    (case c8=>k_is)
    (case k8=>k_is)
    (case a9=>k_is)
    (case l9=>k_is)
    (case c9=>k_is)
    (case k9=>k_is)
    (case a10=>k_is)
    (case l10=>k_is)
    (case c10=>k_is)
    (case k10=>k_is)
    (case a11=>k_is)
    (case l11=>k_is)
    (case c11=>k_is)
    (case k11=>k_is)
    (case a12=>k_is)
    (case l12=>k_is)
    (case c12=>k_is)
    (case k12=>k_is)
    (case a13=>k_is)
    (case l13=>k_is)
    (case c13=>k_is)
    (case k13=>k_is)
    (case a14=>k_is)
    (case l14=>k_is)
    (case c14=>k_is)
    (case k14=>k_is)
    (case a15=>k_is)
    (case l15=>k_is)
    (case c15=>k_is)
    (case k15=>k_is)
    (case a16=>k_is)
    (case l16=>k_is)
    (case c16=>k_is)
    (case k16=>k_is)
    (case a17=>k_is)
    (case l17=>k_is)
    (case c17=>k_is)
    (case k17=>k_is)
    (case a18=>k_is)
    (case l18=>k_is)
    (case c18=>k_is)
    (case k18=>k_is)
    (case a19=>k_is)
    (case l19=>k_is)
    (case c19=>k_is)
    (case k19=>k_is)
    (case a20=>k_is)
    (case l20=>k_is)
    (case c20=>k_is)
    (case k20=>k_is)
    (case a21=>k_is)
    (case l21=>k_is)
    (case c21=>k_is)
    (case k21=>k_is)
    (case a22=>k_is)
    (case l22=>k_is)
    (case c22=>k_is)
    (case k22=>k_is)
    (case a23=>k_is)
    (case l23=>k_is)
    (case c23=>k_is)
    (case k23=>k_is)
    (case a24=>k_is)
    (case l24=>k_is)
    (case c24=>k_is)
    (case k24=>k_is)
    (case a25=>k_is)
    (case l25=>k_is)
    (case c25=>k_is)
    (case k25=>k_is)
    (case a26=>k_is)
    (case l26=>k_is)
    (case c26=>k_is)
    (case k26=>k_is)
    (case a27=>k_is)
    (case l27=>k_is)
    (case c27=>k_is)
    (case k27=>k_is)
    (case a28=>k_is)
    (case l28=>k_is)
    (case c28=>k_is)
    (case k28=>k_is)
    (case a29=>k_is)
    (case l29=>k_is)
    (case c29=>k_is)
    (case k29=>k_is)
    (case a30=>k_is)
    (case l30=>k_is)
    (case c30=>k_is)
    (case k30=>k_is)
    (case a31=>k_is)
    (case l31=>k_is)
    (case c31=>k_is)
    (case k31=>k_is)
    (case a32=>k_is)
    (case l32=>k_is)
    (case c32=>k_is)
    (case k32=>k_is)
    (case a33=>k_is)
    (case l33=>k_is)
    (case c33=>k_is)
    (case k33=>k_is)
    (case a34=>k_is)
    (case l34=>k_is)
    (case c34=>k_is)
    (case k34=>k_is)
    (case a35=>k_is)
    (case l35=>k_is)
    (case c35=>k_is)
    (case k35=>k_is)
    (case a36=>k_is)
    (case l36=>k_is)
    (case c36=>k_is)
    (case k36=>k_is)
    (case a37=>k_is)
    (case l37=>k_is)
    (case c37=>k_is)
    (case k37=>k_is)
    (case a38=>k_is)
    (case l38=>k_is)
    (case c38=>k_is)
    (case k38=>k_is)
    (case a39=>k_is)
    (case l39=>k_is)
    (case c39=>k_is)
    (case k39=>k_is)
    (case a40=>k_is)
    (case l40=>k_is)
    (case c40=>k_is)
    (case k40=>k_is)
    (case a41=>k_is)
    (case l41=>k_is)
    (case c41=>k_is)
    (case k41=>k_is)
    (case a42=>k_is)
    (case l42=>k_is)
    (case c42=>k_is)
    (case k42=>k_is)
    (case a43=>k_is)
    (case l43=>k_is)
    (case c43=>k_is)
    (case k43=>k_is)
    (case a44=>k_is)
    (case l44=>k_is)
    (case c44=>k_is)
    (case k44=>k_is)
    (case e0=>k_is)
    (case e1=>k_is)
    (case z_len=>k_is)
    (case z_range=>k_is)
    (case z_list=>k_is)
    (case z_isinstance=>k_is)
    (case z_bool=>k_is)
    (case z_int=>k_is)
    (case z_all=>k_is)
    (case z_min=>k_is)
    (case z_max=>k_is)
    (case z_sum=>k_is)
    (case z_sorted=>k_is)
    (case z_zip=>k_is)
    (case z_tuple=>k_is)
    (case z_str=>k_is)
    (case z_any=>k_is)
    (case z_enumerate=>k_is)
    (case z_reversed=>k_is)
    (case z_abs=>k_is)
    (case z_ValueError=>k_is)
    (case y0=>kernel_rfl)
    (case y1=>kernel_rfl)
    (case dd0_1=>(first | decide | (intro h;cases h) | (intro h;simp at h)))
  case hts =>
    intro w P hP
    simp only [List.mem_cons,List.not_mem_nil,or_false] at hP
    rcases hP with rfl | rfl
    · exact ⟨by kernel_rfl,My.Dg "ranked" (by kernel_rfl)⟩
    · exact ⟨by kernel_rfl,My.Dg "tops_first" (by kernel_rfl)⟩
