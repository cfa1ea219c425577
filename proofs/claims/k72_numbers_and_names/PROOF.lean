import PyProof.Rows.All
import Wide.All
import OpenK.AllK
import Wide.FinOn
import Lean
import PyProof.EqAt
import PyProof.EqKinds
import PyProof.TupleCall
import KE.KSortTup
import PySem.Challenge.RW_sluice_k72_numbers_and_names
set_option Elab.async false
set_option linter.all false
set_option maxRecDepth 100000
set_option maxHeartbeats 4000000
local macro_rules | `(tactic| omega) => `(tactic| first | lia | omega (splitDisjunctions := true))
namespace L2
open PySem
def aF (s:Stmt):Arguments:=match s with
  | .FunctionDef _ a _ _ _ _ _ _ _ _=>a
  | _=>{ posonlyargs:=[],args:=[],vararg:=none,kwonlyargs:=[],kw_defaults:=[],kwarg:=none,defaults:=[] }
def aD (s:Stmt):List Stmt:=match s with
  | .FunctionDef _ _ b _ _ _ _ _ _ _=>b
  | _=>[]
def aj (s:Stmt):Scope:=match s with
  | .FunctionDef _ _ _ _ _ _ sc _ _ _=>sc
  | _=>{ kind:=.function,names:=[],isGenerator:=false,isCoroutine:=false }
end L2
namespace My
open PySem L2
noncomputable def top0 (i:Nat):Stmt:=PySem.Challenge.pw_sluice_k72_numbers_and_names.main.body.getD i (.Pass ⟨0,0,0,0⟩)
noncomputable def en (P:Params) (x:Str) (t:Tok) (v:Value):DictEntry:=⟨PyData.keyHash P x,.str x t,v⟩
noncomputable section
def tq (a:Array Value):Obj:={ cls:=.type "tuple",data:=.seq a }
def fc (a:Array Value):Obj:={ cls:=.type "code",data:=.fields a }
def cp (n:Nat):Value:=.str "/claim/cut.py" n
def pr0 (x:Str) (i:Nat):Obj:={ cls:=.none,data:=.func { name:=x,qualname:=x,params:=aF (top0 i),body:=.stmts (aD (top0 i)),scope:=aj (top0 i),globals:=0,closure:=[],defaults:=.none,kwdefaults:=.none } }
def xg (P:Params):Obj:={ cls:=.type "dict",data:=Data.dict #[en P "__name__" 1 (.str "builtins" 160),en P "__doc__" 2 (.builtin "builtins.__doc__:str#opaque"),en P "__package__" 3 (.builtin "builtins.__package__:str#opaque"),en P "__loader__" 4 (.builtin "builtins.__loader__:shared#opaque"),en P "__spec__" 5 (.builtin "builtins.__spec__#opaque"),en P "__build_class__" 6 (.builtin "__build_class__"),en P "__import__" 7 (.builtin "__import__"),en P "abs" 8 (.builtin "abs"),en P "all" 9 (.builtin "all"),en P "any" 10 (.builtin "any"),en P "ascii" 11 (.builtin "ascii"),en P "bin" 12 (.builtin "bin"),en P "breakpoint" 13 (.builtin "breakpoint"),en P "callable" 14 (.builtin "callable"),en P "chr" 15 (.builtin "chr"),en P "compile" 16 (.builtin "compile"),en P "delattr" 17 (.builtin "delattr"),en P "dir" 18 (.builtin "dir"),en P "divmod" 19 (.builtin "divmod"),en P "eval" 20 (.builtin "eval"),en P "exec" 21 (.builtin "exec"),en P "format" 22 (.builtin "format"),en P "getattr" 23 (.builtin "getattr"),en P "globals" 24 (.builtin "globals"),en P "hasattr" 25 (.builtin "hasattr"),en P "hash" 26 (.builtin "hash"),en P "hex" 27 (.builtin "hex"),en P "id" 28 (.builtin "id"),en P "input" 29 (.builtin "input"),en P "isinstance" 30 (.builtin "isinstance"),en P "issubclass" 31 (.builtin "issubclass"),en P "iter" 32 (.builtin "iter"),en P "aiter" 33 (.builtin "aiter"),en P "len" 34 (.builtin "len"),en P "locals" 35 (.builtin "locals"),en P "max" 36 (.builtin "max"),en P "min" 37 (.builtin "min"),en P "next" 38 (.builtin "next"),en P "anext" 39 (.builtin "anext"),en P "oct" 40 (.builtin "oct"),en P "ord" 41 (.builtin "ord"),en P "pow" 42 (.builtin "pow"),en P "print" 43 (.builtin "print"),en P "repr" 44 (.builtin "repr"),en P "round" 45 (.builtin "round"),en P "setattr" 46 (.builtin "setattr"),en P "sorted" 47 (.builtin "sorted"),en P "sum" 48 (.builtin "sum"),en P "vars" 49 (.builtin "vars"),en P "None" 50 .none,en P "Ellipsis" 51 .ellipsis,en P "NotImplemented" 52 .notImplemented,en P "False" 53 (.bool false),en P "True" 54 (.bool true),en P "bool" 55 (.type "bool"),en P "memoryview" 56 (.type "memoryview"),en P "bytearray" 57 (.type "bytearray"),en P "bytes" 58 (.type "bytes"),en P "classmethod" 59 (.type "classmethod"),en P "complex" 60 (.type "complex"),en P "dict" 61 (.type "dict"),en P "enumerate" 62 (.type "enumerate"),en P "filter" 63 (.type "filter"),en P "float" 64 (.type "float"),en P "frozenset" 65 (.type "frozenset"),en P "property" 66 (.type "property"),en P "int" 67 (.type "int"),en P "list" 68 (.type "list"),en P "map" 69 (.type "map"),en P "object" 70 (.type "object"),en P "range" 71 (.type "range"),en P "reversed" 72 (.type "reversed"),en P "set" 73 (.type "set"),en P "slice" 74 (.type "slice"),en P "staticmethod" 75 (.type "staticmethod"),en P "str" 76 (.type "str"),en P "super" 77 (.type "super"),en P "tuple" 78 (.type "tuple"),en P "type" 79 (.type "type"),en P "zip" 80 (.type "zip"),en P "__debug__" 81 (.bool true),en P "BaseException" 82 (.type "BaseException"),en P "BaseExceptionGroup" 83 (.type "BaseExceptionGroup"),en P "Exception" 84 (.type "Exception"),en P "GeneratorExit" 85 (.type "GeneratorExit"),en P "KeyboardInterrupt" 86 (.type "KeyboardInterrupt"),en P "SystemExit" 87 (.type "SystemExit"),en P "ArithmeticError" 88 (.type "ArithmeticError"),en P "AssertionError" 89 (.type "AssertionError"),en P "AttributeError" 90 (.type "AttributeError"),en P "BufferError" 91 (.type "BufferError"),en P "EOFError" 92 (.type "EOFError"),en P "ImportError" 93 (.type "ImportError"),en P "LookupError" 94 (.type "LookupError"),en P "MemoryError" 95 (.type "MemoryError"),en P "NameError" 96 (.type "NameError"),en P "OSError" 97 (.type "OSError"),en P "ReferenceError" 98 (.type "ReferenceError"),en P "RuntimeError" 99 (.type "RuntimeError"),en P "StopAsyncIteration" 100 (.type "StopAsyncIteration"),en P "StopIteration" 101 (.type "StopIteration"),en P "SyntaxError" 102 (.type "SyntaxError"),en P "SystemError" 103 (.type "SystemError"),en P "TypeError" 104 (.type "TypeError"),en P "ValueError" 105 (.type "ValueError"),en P "Warning" 106 (.type "Warning"),en P "FloatingPointError" 107 (.type "FloatingPointError"),en P "OverflowError" 108 (.type "OverflowError"),en P "ZeroDivisionError" 109 (.type "ZeroDivisionError"),en P "BytesWarning" 110 (.type "BytesWarning"),en P "DeprecationWarning" 111 (.type "DeprecationWarning"),en P "EncodingWarning" 112 (.type "EncodingWarning"),en P "FutureWarning" 113 (.type "FutureWarning"),en P "ImportWarning" 114 (.type "ImportWarning"),en P "PendingDeprecationWarning" 115 (.type "PendingDeprecationWarning"),en P "ResourceWarning" 116 (.type "ResourceWarning"),en P "RuntimeWarning" 117 (.type "RuntimeWarning"),en P "SyntaxWarning" 118 (.type "SyntaxWarning"),en P "UnicodeWarning" 119 (.type "UnicodeWarning"),en P "UserWarning" 120 (.type "UserWarning"),en P "BlockingIOError" 121 (.type "BlockingIOError"),en P "ChildProcessError" 122 (.type "ChildProcessError"),en P "ConnectionError" 123 (.type "ConnectionError"),en P "FileExistsError" 124 (.type "FileExistsError"),en P "FileNotFoundError" 125 (.type "FileNotFoundError"),en P "InterruptedError" 126 (.type "InterruptedError"),en P "IsADirectoryError" 127 (.type "IsADirectoryError"),en P "NotADirectoryError" 128 (.type "NotADirectoryError"),en P "PermissionError" 129 (.type "PermissionError"),en P "ProcessLookupError" 130 (.type "ProcessLookupError"),en P "TimeoutError" 131 (.type "TimeoutError"),en P "IndentationError" 132 (.type "IndentationError"),en P "_IncompleteInputError" 133 (.type "_IncompleteInputError"),en P "IndexError" 134 (.type "IndexError"),en P "KeyError" 135 (.type "KeyError"),en P "ModuleNotFoundError" 136 (.type "ModuleNotFoundError"),en P "NotImplementedError" 137 (.type "NotImplementedError"),en P "PythonFinalizationError" 138 (.type "PythonFinalizationError"),en P "RecursionError" 139 (.type "RecursionError"),en P "UnboundLocalError" 140 (.type "UnboundLocalError"),en P "UnicodeError" 141 (.type "UnicodeError"),en P "BrokenPipeError" 142 (.type "BrokenPipeError"),en P "ConnectionAbortedError" 143 (.type "ConnectionAbortedError"),en P "ConnectionRefusedError" 144 (.type "ConnectionRefusedError"),en P "ConnectionResetError" 145 (.type "ConnectionResetError"),en P "TabError" 146 (.type "TabError"),en P "UnicodeDecodeError" 147 (.type "UnicodeDecodeError"),en P "UnicodeEncodeError" 148 (.type "UnicodeEncodeError"),en P "UnicodeTranslateError" 149 (.type "UnicodeTranslateError"),en P "ExceptionGroup" 150 (.type "ExceptionGroup"),en P "EnvironmentError" 151 (.type "OSError"),en P "IOError" 152 (.type "OSError"),en P "open" 153 (.builtin "open"),en P "quit" 154 (.builtin "builtins.quit#opaque"),en P "exit" 155 (.builtin "builtins.exit#opaque"),en P "copyright" 156 (.builtin "builtins.copyright#opaque"),en P "credits" 157 (.builtin "builtins.credits#opaque"),en P "license" 158 (.builtin "builtins.license#opaque"),en P "help" 159 (.builtin "builtins.help#opaque")] 159 }
def w5 (P:Params):Obj:={ cls:=.type "dict",data:=Data.dict #[en P "builtins" 162 (.ref 4),en P "__main__" 163 (.ref 5)] 2 }
def v9 (P:Params):Obj:={ cls:=.none,data:=Data.dict #[] }
def ho_4 (P:Params):Obj:={ cls:=.type "dict",data:=Data.dict #[en P "__name__" 165 (.str "__main__" 164),en P "__doc__" 166 .none,en P "__package__" 167 .none,en P "__loader__" 168 (.builtin "__main__.__loader__#opaque"),en P "__spec__" 169 .none,en P "__annotations__" 170 (.ref 6),en P "__builtins__" 171 (.ref 4),en P "__file__" 173 (cp 172),en P "__cached__" 174 .none] 9 }
def wZ (P:Params):Obj:={ cls:=.type "module",dict:=some 0 }
def wY (P:Params):Obj:={ cls:=.type "module",dict:=some 3 }
def vq (P:Params):Obj:={ cls:=.type "dict",data:=Data.dict #[] }
def wX (P:Params):Obj:=(tq #[])
def wW (P:Params):Obj:={ cls:=.none,data:=Data.fields #[] }
def tY (P:Params):Obj:=(fc #[.str "<module>" 176,.str "<module>" 177,cp 178,.int 1 0,.int 0 0,.int 0 0,.int 0 0,.int 0 0,.ref 7,.bool false,.int 175 0,.ref 8,.none,.none,.none,.none,.int 179 0,.int 1 0,cp 180])
def tU (P:Params):Obj:={ cls:=.type "frame",slots:=#[some (.ref 9),some (.ref 3),some (.ref 3),none,some (.str "__main__" 164),none,some (.ref 0)] }
def tG (P:Params):Obj:={ cls:=.type "dict",data:=Data.dict #[en P "__name__" 165 (.str "law_sluice_k72_numbers_and_names" 318),en P "__doc__" 166 .none,en P "__package__" 167 .none,en P "__loader__" 168 (.builtin "__main__.__loader__#opaque"),en P "__spec__" 169 .none,en P "__annotations__" 170 (.ref 6),en P "__builtins__" 171 (.ref 4),en P "__file__" 173 (cp 172),en P "__cached__" 174 .none,en P "LONGEST_NAME" 190 (.int 8 189),en P "LETTERS" 192 (.str "abcdefghijklmnopqrstuvwxyz" 191),en P "is_name" 198 (.ref 19),en P "SluiceError" 218 (.ref 29),en P "NoReach" 234 (.ref 42),en P "NoNumber" 250 (.ref 54),en P "NoHolder" 266 (.ref 66),en P "TooMuch" 282 (.ref 78),en P "NoRow" 298 (.ref 90),en P "FIGURES" 302 (.str "0123456789" 301),en P "MOST_FIGURES" 304 (.int 13 303),en P "read_number" 310 (.ref 97),en P "read_name" 317 (.ref 104),en P "_law_draws" 330 (.ref 111),en P "_law_sign" 338 (.ref 118),en P "_law_plain" 349 (.ref 125),en P "_law_word" 360 (.ref 132),en P "_law_all_in" 369 (.ref 139),en P "_law_refusal" 376 (.ref 146),en P "_law_number_right" 387 (.ref 153),en P "_law_name_right" 398 (.ref 160),en P "law" 404 (.ref 165)] 31 }
def wH (P:Params):Obj:=(tq #[])
def wG (P:Params):Obj:={ cls:=.none,data:=Data.fields #[.int 4 0,.int 0 0,.ref 18,.int 7 0,.int 0 0,.ref 25,.int 9 0,.int 0 0,.ref 38,.int 11 0,.int 0 0,.ref 50,.int 13 0,.int 0 0,.ref 62,.int 15 0,.int 0 0,.ref 74,.int 17 0,.int 0 0,.ref 86,.int 22 0,.int 0 0,.ref 96,.int 28 0,.int 0 0,.ref 103,.int 33 0,.int 0 0,.ref 110,.int 39 0,.int 0 0,.ref 117,.int 43 0,.int 0 0,.ref 124,.int 58 0,.int 0 0,.ref 131,.int 72 0,.int 0 0,.ref 138,.int 77 0,.int 0 0,.ref 145,.int 81 0,.int 0 0,.ref 152,.int 93 0,.int 0 0,.ref 159,.int 104 0,.int 0 0,.ref 164] }
def wF (P:Params):Obj:=(fc #[.str "<module>" 182,.str "<module>" 183,cp 184,.int 1 0,.int 0 0,.int 0 0,.int 0 0,.int 0 0,.ref 11,.bool false,.int 181 0,.ref 12,.none,.none,.none,.none,.int 185 0,.int 1 0,cp 186])
def wD (P:Params):Obj:={ cls:=.type "frame",slots:=#[some (.ref 13),some (.ref 3),some (.ref 3),none,some (.str "__main__" 164),none,some (.ref 0)] }
def sH (P:Params):Obj:=(tq #[])
def wC (P:Params):Obj:={ cls:=.none,data:=Data.fields #[] }
def wB (P:Params):Obj:=(pr0 "is_name" 3)
def sG (P:Params):Obj:=(fc #[.str "is_name" 193,.str "is_name" 194,cp 195,.int 4 0,.int 1 0,.int 0 0,.int 0 0,.int 3 0,.ref 15,.bool true,.int 181 0,.ref 16,.none,.none,.none,.ref 17,.int 196 0,.int 4 0,cp 197])
def sE (P:Params):Obj:=⟨.type "function",none,.func (PySem.W.fnOf "is_name" "is_name" (aF (top0 3)) (aD (top0 3)) (aj (top0 3)) .none .none .none (.str "sluice.bounds" 187) none (.ref 18) .none),#[]⟩
def sy (P:Params):Obj:=(tq #[.type "ValueError"])
def wA (P:Params):Obj:={ cls:=.type "builtin_function_or_method",data:=Data.fields #[.builtin "type.__prepare__",.type "type"] }
def wz (P:Params):Obj:={ cls:=.type "dict",data:=Data.dict #[en P "__module__" 208 (.str "sluice.errors" 199),en P "__qualname__" 210 (.str "SluiceError" 209),en P "__firstlineno__" 212 (.int 7 211),en P "__static_attributes__" 213 (.ref 27)] 4 }
def wu (P:Params):Obj:=(tq #[])
def wk (P:Params):Obj:={ cls:=.none,data:=Data.fields #[] }
def wj (P:Params):Obj:=(fc #[.str "SluiceError" 203,.str "SluiceError" 204,cp 205,.int 7 0,.int 0 0,.int 0 0,.int 0 0,.int 0 0,.ref 23,.bool false,.int 181 0,.ref 24,.none,.none,.none,.none,.int 206 0,.int 7 0,cp 207])
def wg (P:Params):Obj:={ cls:=.type "frame",slots:=#[some (.ref 25),some (.ref 3),some (.ref 22),none,some (.str "sluice.errors" 199),none,some (.ref 0)] }
def su (P:Params):Obj:=(tq #[])
def rZ (P:Params):Obj:={ cls:=.type "dict",data:=Data.dict #[en P "__module__" 208 (.str "sluice.errors" 199),en P "__firstlineno__" 212 (.int 7 211),en P "__static_attributes__" 213 (.ref 27),en P "__weakref__" 215 (.ref 30),en P "__doc__" 216 .none] 3 }
def rY (P:Params):Obj:={ cls:=.type "type",data:=Data.cls { name:="SluiceError",bases:=[.type "ValueError"],mro:=[.ref 29,.type "ValueError",.type "Exception",.type "BaseException",.type "object"],ns:=28,qualname:="SluiceError",subclasses:=[.ref 42,.ref 54,.ref 66,.ref 78,.ref 90] },slots:=#[some (.ref 20),none,some (.str "SluiceError" 201),some (.str "SluiceError" 209),some (.builtin "ValueError.__new__"),some (.bool true)] }
def rW (P:Params):Obj:={ cls:=.type "getset_descriptor",data:=Data.fields #[.str "__weakref__" 214,.ref 29,.builtin "ExceptionGroup.__weakref__",.none] }
def v8 (P:Params):Obj:={ cls:=.type "super",data:=Data.fields #[.ref 29,.ref 29,.ref 29] }
def v7 (P:Params):Obj:={ cls:=.type "builtin_function_or_method",data:=Data.fields #[.builtin "object.__init_subclass__",.ref 29] }
def rU (P:Params):Obj:=(tq #[.ref 29])
def vZ (P:Params):Obj:={ cls:=.type "builtin_function_or_method",data:=Data.fields #[.builtin "type.__prepare__",.type "type"] }
def vY (P:Params):Obj:={ cls:=.type "dict",data:=Data.dict #[en P "__module__" 226 (.str "sluice.errors" 199),en P "__qualname__" 228 (.str "NoReach" 227),en P "__firstlineno__" 230 (.int 9 229),en P "__static_attributes__" 231 (.ref 40)] 4 }
def vX (P:Params):Obj:=(tq #[])
def vW (P:Params):Obj:={ cls:=.none,data:=Data.fields #[] }
def vV (P:Params):Obj:=(fc #[.str "NoReach" 221,.str "NoReach" 222,cp 223,.int 9 0,.int 0 0,.int 0 0,.int 0 0,.int 0 0,.ref 36,.bool false,.int 181 0,.ref 37,.none,.none,.none,.none,.int 224 0,.int 9 0,cp 225])
def vU (P:Params):Obj:={ cls:=.type "frame",slots:=#[some (.ref 38),some (.ref 3),some (.ref 35),none,some (.str "sluice.errors" 199),none,some (.ref 0)] }
def rT (P:Params):Obj:=(tq #[])
def rR (P:Params):Obj:={ cls:=.type "dict",data:=Data.dict #[en P "__module__" 226 (.str "sluice.errors" 199),en P "__firstlineno__" 230 (.int 9 229),en P "__static_attributes__" 231 (.ref 40),en P "__doc__" 232 .none] 2 }
def rQ (P:Params):Obj:={ cls:=.type "type",data:=Data.cls { name:="NoReach",bases:=[.ref 29],mro:=[.ref 42,.ref 29,.type "ValueError",.type "Exception",.type "BaseException",.type "object"],ns:=41,qualname:="NoReach" },slots:=#[some (.ref 33),none,some (.str "NoReach" 219),some (.str "NoReach" 227),some (.builtin "ValueError.__new__"),some (.bool true)] }
def vR (P:Params):Obj:={ cls:=.type "super",data:=Data.fields #[.ref 42,.ref 42,.ref 42] }
def vQ (P:Params):Obj:={ cls:=.type "builtin_function_or_method",data:=Data.fields #[.builtin "object.__init_subclass__",.ref 42] }
def rP (P:Params):Obj:=(tq #[.ref 29])
def vP (P:Params):Obj:={ cls:=.type "builtin_function_or_method",data:=Data.fields #[.builtin "type.__prepare__",.type "type"] }
def vO (P:Params):Obj:={ cls:=.type "dict",data:=Data.dict #[en P "__module__" 242 (.str "sluice.errors" 199),en P "__qualname__" 244 (.str "NoNumber" 243),en P "__firstlineno__" 246 (.int 11 245),en P "__static_attributes__" 247 (.ref 52)] 4 }
def vN (P:Params):Obj:=(tq #[])
def vM (P:Params):Obj:={ cls:=.none,data:=Data.fields #[] }
def vL (P:Params):Obj:=(fc #[.str "NoNumber" 237,.str "NoNumber" 238,cp 239,.int 11 0,.int 0 0,.int 0 0,.int 0 0,.int 0 0,.ref 48,.bool false,.int 181 0,.ref 49,.none,.none,.none,.none,.int 240 0,.int 11 0,cp 241])
def vK (P:Params):Obj:={ cls:=.type "frame",slots:=#[some (.ref 50),some (.ref 3),some (.ref 47),none,some (.str "sluice.errors" 199),none,some (.ref 0)] }
def rO (P:Params):Obj:=(tq #[])
def rN (P:Params):Obj:={ cls:=.type "dict",data:=Data.dict #[en P "__module__" 242 (.str "sluice.errors" 199),en P "__firstlineno__" 246 (.int 11 245),en P "__static_attributes__" 247 (.ref 52),en P "__doc__" 248 .none] 2 }
def rM (P:Params):Obj:={ cls:=.type "type",data:=Data.cls { name:="NoNumber",bases:=[.ref 29],mro:=[.ref 54,.ref 29,.type "ValueError",.type "Exception",.type "BaseException",.type "object"],ns:=53,qualname:="NoNumber" },slots:=#[some (.ref 45),none,some (.str "NoNumber" 235),some (.str "NoNumber" 243),some (.builtin "ValueError.__new__"),some (.bool true)] }
def vJ (P:Params):Obj:={ cls:=.type "super",data:=Data.fields #[.ref 54,.ref 54,.ref 54] }
def vI (P:Params):Obj:={ cls:=.type "builtin_function_or_method",data:=Data.fields #[.builtin "object.__init_subclass__",.ref 54] }
def rK (P:Params):Obj:=(tq #[.ref 29])
def vH (P:Params):Obj:={ cls:=.type "builtin_function_or_method",data:=Data.fields #[.builtin "type.__prepare__",.type "type"] }
def vG (P:Params):Obj:={ cls:=.type "dict",data:=Data.dict #[en P "__module__" 258 (.str "sluice.errors" 199),en P "__qualname__" 260 (.str "NoHolder" 259),en P "__firstlineno__" 262 (.int 13 261),en P "__static_attributes__" 263 (.ref 64)] 4 }
def vD (P:Params):Obj:=(tq #[])
def vC (P:Params):Obj:={ cls:=.none,data:=Data.fields #[] }
def vB (P:Params):Obj:=(fc #[.str "NoHolder" 253,.str "NoHolder" 254,cp 255,.int 13 0,.int 0 0,.int 0 0,.int 0 0,.int 0 0,.ref 60,.bool false,.int 181 0,.ref 61,.none,.none,.none,.none,.int 256 0,.int 13 0,cp 257])
def vA (P:Params):Obj:={ cls:=.type "frame",slots:=#[some (.ref 62),some (.ref 3),some (.ref 59),none,some (.str "sluice.errors" 199),none,some (.ref 0)] }
def rJ (P:Params):Obj:=(tq #[])
def rH (P:Params):Obj:={ cls:=.type "dict",data:=Data.dict #[en P "__module__" 258 (.str "sluice.errors" 199),en P "__firstlineno__" 262 (.int 13 261),en P "__static_attributes__" 263 (.ref 64),en P "__doc__" 264 .none] 2 }
def rG (P:Params):Obj:={ cls:=.type "type",data:=Data.cls { name:="NoHolder",bases:=[.ref 29],mro:=[.ref 66,.ref 29,.type "ValueError",.type "Exception",.type "BaseException",.type "object"],ns:=65,qualname:="NoHolder" },slots:=#[some (.ref 57),none,some (.str "NoHolder" 251),some (.str "NoHolder" 259),some (.builtin "ValueError.__new__"),some (.bool true)] }
def vp (P:Params):Obj:={ cls:=.type "super",data:=Data.fields #[.ref 66,.ref 66,.ref 66] }
def vo (P:Params):Obj:={ cls:=.type "builtin_function_or_method",data:=Data.fields #[.builtin "object.__init_subclass__",.ref 66] }
def rF (P:Params):Obj:=(tq #[.ref 29])
def vm (P:Params):Obj:={ cls:=.type "builtin_function_or_method",data:=Data.fields #[.builtin "type.__prepare__",.type "type"] }
def vh (P:Params):Obj:={ cls:=.type "dict",data:=Data.dict #[en P "__module__" 274 (.str "sluice.errors" 199),en P "__qualname__" 276 (.str "TooMuch" 275),en P "__firstlineno__" 278 (.int 15 277),en P "__static_attributes__" 279 (.ref 76)] 4 }
def vg (P:Params):Obj:=(tq #[])
def vf (P:Params):Obj:={ cls:=.none,data:=Data.fields #[] }
def vd (P:Params):Obj:=(fc #[.str "TooMuch" 269,.str "TooMuch" 270,cp 271,.int 15 0,.int 0 0,.int 0 0,.int 0 0,.int 0 0,.ref 72,.bool false,.int 181 0,.ref 73,.none,.none,.none,.none,.int 272 0,.int 15 0,cp 273])
def u9 (P:Params):Obj:={ cls:=.type "frame",slots:=#[some (.ref 74),some (.ref 3),some (.ref 71),none,some (.str "sluice.errors" 199),none,some (.ref 0)] }
def rE (P:Params):Obj:=(tq #[])
def rD (P:Params):Obj:={ cls:=.type "dict",data:=Data.dict #[en P "__module__" 274 (.str "sluice.errors" 199),en P "__firstlineno__" 278 (.int 15 277),en P "__static_attributes__" 279 (.ref 76),en P "__doc__" 280 .none] 2 }
def rC (P:Params):Obj:={ cls:=.type "type",data:=Data.cls { name:="TooMuch",bases:=[.ref 29],mro:=[.ref 78,.ref 29,.type "ValueError",.type "Exception",.type "BaseException",.type "object"],ns:=77,qualname:="TooMuch" },slots:=#[some (.ref 69),none,some (.str "TooMuch" 267),some (.str "TooMuch" 275),some (.builtin "ValueError.__new__"),some (.bool true)] }
def u6 (P:Params):Obj:={ cls:=.type "super",data:=Data.fields #[.ref 78,.ref 78,.ref 78] }
def u5 (P:Params):Obj:={ cls:=.type "builtin_function_or_method",data:=Data.fields #[.builtin "object.__init_subclass__",.ref 78] }
def rB (P:Params):Obj:=(tq #[.ref 29])
def uZ (P:Params):Obj:={ cls:=.type "builtin_function_or_method",data:=Data.fields #[.builtin "type.__prepare__",.type "type"] }
def uY (P:Params):Obj:={ cls:=.type "dict",data:=Data.dict #[en P "__module__" 290 (.str "sluice.errors" 199),en P "__qualname__" 292 (.str "NoRow" 291),en P "__firstlineno__" 294 (.int 17 293),en P "__static_attributes__" 295 (.ref 88)] 4 }
def uX (P:Params):Obj:=(tq #[])
def uW (P:Params):Obj:={ cls:=.none,data:=Data.fields #[] }
def uV (P:Params):Obj:=(fc #[.str "NoRow" 285,.str "NoRow" 286,cp 287,.int 17 0,.int 0 0,.int 0 0,.int 0 0,.int 0 0,.ref 84,.bool false,.int 181 0,.ref 85,.none,.none,.none,.none,.int 288 0,.int 17 0,cp 289])
def uU (P:Params):Obj:={ cls:=.type "frame",slots:=#[some (.ref 86),some (.ref 3),some (.ref 83),none,some (.str "sluice.errors" 199),none,some (.ref 0)] }
def rA (P:Params):Obj:=(tq #[])
def rz (P:Params):Obj:={ cls:=.type "dict",data:=Data.dict #[en P "__module__" 290 (.str "sluice.errors" 199),en P "__firstlineno__" 294 (.int 17 293),en P "__static_attributes__" 295 (.ref 88),en P "__doc__" 296 .none] 2 }
def rm (P:Params):Obj:={ cls:=.type "type",data:=Data.cls { name:="NoRow",bases:=[.ref 29],mro:=[.ref 90,.ref 29,.type "ValueError",.type "Exception",.type "BaseException",.type "object"],ns:=89,qualname:="NoRow" },slots:=#[some (.ref 81),none,some (.str "NoRow" 283),some (.str "NoRow" 291),some (.builtin "ValueError.__new__"),some (.bool true)] }
def uT (P:Params):Obj:={ cls:=.type "super",data:=Data.fields #[.ref 90,.ref 90,.ref 90] }
def uR (P:Params):Obj:={ cls:=.type "builtin_function_or_method",data:=Data.fields #[.builtin "object.__init_subclass__",.ref 90] }
def qZ (P:Params):Obj:=(tq #[])
def uQ (P:Params):Obj:={ cls:=.none,data:=Data.fields #[] }
def uP (P:Params):Obj:=(pr0 "read_number" 14)
def qY (P:Params):Obj:=(fc #[.str "read_number" 305,.str "read_number" 306,cp 307,.int 22 0,.int 1 0,.int 0 0,.int 0 0,.int 3 0,.ref 93,.bool true,.int 181 0,.ref 94,.none,.none,.none,.ref 95,.int 308 0,.int 22 0,cp 309])
def oO (P:Params):Obj:=⟨.type "function",none,.func (PySem.W.fnOf "read_number" "read_number" (aF (top0 14)) (aD (top0 14)) (aj (top0 14)) .none .none .none (.str "sluice.texts" 299) none (.ref 96) .none),#[]⟩
def oN (P:Params):Obj:=(tq #[])
def tX (P:Params):Obj:={ cls:=.none,data:=Data.fields #[] }
def oM (P:Params):Obj:=(tq #[.str "word" 314])
def oK (P:Params):Obj:=(tq #[])
def tW (P:Params):Obj:=(pr0 "read_name" 15)
def oJ (P:Params):Obj:=(fc #[.str "read_name" 311,.str "read_name" 312,cp 313,.int 28 0,.int 1 0,.int 0 0,.int 0 0,.int 3 0,.ref 98,.bool true,.int 181 0,.ref 99,.none,.ref 100,.ref 101,.ref 102,.int 315 0,.int 28 0,cp 316])
def oH (P:Params):Obj:=⟨.type "function",none,.func (PySem.W.fnOf "read_name" "read_name" (aF (top0 15)) (aD (top0 15)) (aj (top0 15)) .none .none .none (.str "sluice.texts" 299) none (.ref 103) .none),#[]⟩
def oG (P:Params):Obj:=(tq #[])
def tV (P:Params):Obj:={ cls:=.none,data:=Data.fields #[] }
def oF (P:Params):Obj:=(tq #[.str "cell" 323,.str "many" 324,.str "drawn" 325,.str "k" 326,.str "base" 327])
def oE (P:Params):Obj:=(tq #[])
def tR (P:Params):Obj:=(pr0 "_law_draws" 17)
def oA (P:Params):Obj:=(fc #[.str "_law_draws" 320,.str "_law_draws" 321,cp 322,.int 33 0,.int 2 0,.int 0 0,.int 0 0,.int 3 0,.ref 105,.bool true,.int 181 0,.ref 106,.none,.ref 107,.ref 108,.ref 109,.int 328 0,.int 33 0,cp 329])
def ou (P:Params):Obj:=⟨.type "function",none,.func (PySem.W.fnOf "_law_draws" "_law_draws" (aF (top0 17)) (aD (top0 17)) (aj (top0 17)) .none .none .none (.str "law_sluice_k72_numbers_and_names" 318) none (.ref 110) .none),#[]⟩
def oh (P:Params):Obj:=(tq #[])
def tQ (P:Params):Obj:={ cls:=.none,data:=Data.fields #[] }
def n6 (P:Params):Obj:=(tq #[.str "number" 334,.str "some" 335])
def nZ (P:Params):Obj:=(tq #[])
def tO (P:Params):Obj:=(pr0 "_law_sign" 18)
def nY (P:Params):Obj:=(fc #[.str "_law_sign" 331,.str "_law_sign" 332,cp 333,.int 39 0,.int 1 0,.int 0 0,.int 0 0,.int 3 0,.ref 112,.bool true,.int 181 0,.ref 113,.none,.ref 114,.ref 115,.ref 116,.int 336 0,.int 39 0,cp 337])
def nW (P:Params):Obj:=⟨.type "function",none,.func (PySem.W.fnOf "_law_sign" "_law_sign" (aF (top0 18)) (aD (top0 18)) (aj (top0 18)) .none .none .none (.str "law_sluice_k72_numbers_and_names" 318) none (.ref 117) .none),#[]⟩
def nU (P:Params):Obj:=(tq #[])
def tK (P:Params):Obj:={ cls:=.none,data:=Data.fields #[] }
def nT (P:Params):Obj:=(tq #[.str "xs" 342,.str "edges" 343,.str "letters" 344,.str "word" 345,.str "k" 346])
def nR (P:Params):Obj:=(tq #[])
def tH (P:Params):Obj:=(pr0 "_law_plain" 19)
def nQ (P:Params):Obj:=(fc #[.str "_law_plain" 339,.str "_law_plain" 340,cp 341,.int 43 0,.int 1 0,.int 0 0,.int 0 0,.int 3 0,.ref 119,.bool true,.int 181 0,.ref 120,.none,.ref 121,.ref 122,.ref 123,.int 347 0,.int 43 0,cp 348])
def nP (P:Params):Obj:=⟨.type "function",none,.func (PySem.W.fnOf "_law_plain" "_law_plain" (aF (top0 19)) (aD (top0 19)) (aj (top0 19)) .none .none .none (.str "law_sluice_k72_numbers_and_names" 318) none (.ref 124) .none),#[]⟩
def nO (P:Params):Obj:=(tq #[])
def tE (P:Params):Obj:={ cls:=.none,data:=Data.fields #[] }
def nM (P:Params):Obj:=(tq #[.str "cell" 353,.str "xs" 354,.str "word" 355,.str "way" 356,.str "at" 357])
def nJ (P:Params):Obj:=(tq #[])
def tD (P:Params):Obj:=(pr0 "_law_word" 20)
def nH (P:Params):Obj:=(fc #[.str "_law_word" 350,.str "_law_word" 351,cp 352,.int 58 0,.int 1 0,.int 0 0,.int 0 0,.int 3 0,.ref 126,.bool true,.int 181 0,.ref 127,.none,.ref 128,.ref 129,.ref 130,.int 358 0,.int 58 0,cp 359])
def nG (P:Params):Obj:=⟨.type "function",none,.func (PySem.W.fnOf "_law_word" "_law_word" (aF (top0 20)) (aD (top0 20)) (aj (top0 20)) .none .none .none (.str "law_sluice_k72_numbers_and_names" 318) none (.ref 131) .none),#[]⟩
def nF (P:Params):Obj:=(tq #[])
def tu (P:Params):Obj:={ cls:=.none,data:=Data.fields #[] }
def nD (P:Params):Obj:=(tq #[.str "word" 364,.str "some" 365,.str "sign" 366])
def nC (P:Params):Obj:=(tq #[])
def sZ (P:Params):Obj:=(pr0 "_law_all_in" 21)
def nA (P:Params):Obj:=(fc #[.str "_law_all_in" 361,.str "_law_all_in" 362,cp 363,.int 72 0,.int 2 0,.int 0 0,.int 0 0,.int 3 0,.ref 133,.bool true,.int 181 0,.ref 134,.none,.ref 135,.ref 136,.ref 137,.int 367 0,.int 72 0,cp 368])
def nu (P:Params):Obj:=⟨.type "function",none,.func (PySem.W.fnOf "_law_all_in" "_law_all_in" (aF (top0 21)) (aD (top0 21)) (aj (top0 21)) .none .none .none (.str "law_sluice_k72_numbers_and_names" 318) none (.ref 138) .none),#[]⟩
def nq (P:Params):Obj:=(tq #[])
def sY (P:Params):Obj:={ cls:=.none,data:=Data.fields #[] }
def nj (P:Params):Obj:=(tq #[.str "e" 373])
def ni (P:Params):Obj:=(tq #[])
def sW (P:Params):Obj:=(pr0 "_law_refusal" 22)
def m9 (P:Params):Obj:=(fc #[.str "_law_refusal" 370,.str "_law_refusal" 371,cp 372,.int 77 0,.int 1 0,.int 0 0,.int 0 0,.int 3 0,.ref 140,.bool true,.int 181 0,.ref 141,.none,.ref 142,.ref 143,.ref 144,.int 374 0,.int 77 0,cp 375])
def m8 (P:Params):Obj:=⟨.type "function",none,.func (PySem.W.fnOf "_law_refusal" "_law_refusal" (aF (top0 22)) (aD (top0 22)) (aj (top0 22)) .none .none .none (.str "law_sluice_k72_numbers_and_names" 318) none (.ref 145) .none),#[]⟩
def m7 (P:Params):Obj:=(tq #[])
def sV (P:Params):Obj:={ cls:=.none,data:=Data.fields #[] }
def m6 (P:Params):Obj:=(tq #[.str "word" 380,.str "good" 381,.str "caught" 382,.str "found" 383,.str "e" 384])
def m5 (P:Params):Obj:=(tq #[])
def sU (P:Params):Obj:=(pr0 "_law_number_right" 23)
def mZ (P:Params):Obj:=(fc #[.str "_law_number_right" 377,.str "_law_number_right" 378,cp 379,.int 81 0,.int 1 0,.int 0 0,.int 0 0,.int 3 0,.ref 147,.bool true,.int 181 0,.ref 148,.none,.ref 149,.ref 150,.ref 151,.int 385 0,.int 81 0,cp 386])
def mY (P:Params):Obj:=⟨.type "function",none,.func (PySem.W.fnOf "_law_number_right" "_law_number_right" (aF (top0 23)) (aD (top0 23)) (aj (top0 23)) .none .none .none (.str "law_sluice_k72_numbers_and_names" 318) none (.ref 152) .none),#[]⟩
def mX (P:Params):Obj:=(tq #[])
def sS (P:Params):Obj:={ cls:=.none,data:=Data.fields #[] }
def mW (P:Params):Obj:=(tq #[.str "word" 391,.str "good" 392,.str "caught" 393,.str "found" 394,.str "e" 395])
def mV (P:Params):Obj:=(tq #[])
def sO (P:Params):Obj:=(pr0 "_law_name_right" 24)
def mU (P:Params):Obj:=(fc #[.str "_law_name_right" 388,.str "_law_name_right" 389,cp 390,.int 93 0,.int 1 0,.int 0 0,.int 0 0,.int 3 0,.ref 154,.bool true,.int 181 0,.ref 155,.none,.ref 156,.ref 157,.ref 158,.int 396 0,.int 93 0,cp 397])
def mR (P:Params):Obj:=⟨.type "function",none,.func (PySem.W.fnOf "_law_name_right" "_law_name_right" (aF (top0 24)) (aD (top0 24)) (aj (top0 24)) .none .none .none (.str "law_sluice_k72_numbers_and_names" 318) none (.ref 159) .none),#[]⟩
def mQ (P:Params):Obj:=(tq #[])
def sJ (P:Params):Obj:={ cls:=.none,data:=Data.fields #[] }
def sI (P:Params):Obj:=(pr0 "law" 25)
def mO (P:Params):Obj:=(fc #[.str "law" 399,.str "law" 400,cp 401,.int 104 0,.int 1 0,.int 0 0,.int 0 0,.int 3 0,.ref 161,.bool true,.int 181 0,.ref 162,.none,.none,.none,.ref 163,.int 402 0,.int 104 0,cp 403])
def mL (P:Params):Obj:=⟨.type "function",none,.func (PySem.W.fnOf "law" "law" (aF (top0 25)) (aD (top0 25)) (aj (top0 25)) .none .none .none (.str "law_sluice_k72_numbers_and_names" 318) none (.ref 164) .none),#[]⟩
def H0:Params→Heap:=fun P=>{ objs:=⟨xg P :: w5 P :: v9 P :: ho_4 P :: wZ P :: wY P :: vq P :: wX P :: wW P :: tY P :: tU P :: []⟩ }
def H1:Params→Heap:=fun P=>{ objs:=⟨xg P :: w5 P :: v9 P :: tG P :: wZ P :: wY P :: vq P :: wX P :: wW P :: tY P :: tU P :: wH P :: wG P :: wF P :: wD P :: sH P :: wC P :: wB P :: sG P :: sE P :: sy P :: wA P :: wz P :: wu P :: wk P :: wj P :: wg P :: su P :: rZ P :: rY P :: rW P :: v8 P :: v7 P :: rU P :: vZ P :: vY P :: vX P :: vW P :: vV P :: vU P :: rT P :: rR P :: rQ P :: vR P :: vQ P :: rP P :: vP P :: vO P :: vN P :: vM P :: vL P :: vK P :: rO P :: rN P :: rM P :: vJ P :: vI P :: rK P :: vH P :: vG P :: vD P :: vC P :: vB P :: vA P :: rJ P :: rH P :: rG P :: vp P :: vo P :: rF P :: vm P :: vh P :: vg P :: vf P :: vd P :: u9 P :: rE P :: rD P :: rC P :: u6 P :: u5 P :: rB P :: uZ P :: uY P :: uX P :: uW P :: uV P :: uU P :: rA P :: rz P :: rm P :: uT P :: uR P :: qZ P :: uQ P :: uP P :: qY P :: oO P :: oN P :: tX P :: oM P :: oK P :: tW P :: oJ P :: oH P :: oG P :: tV P :: oF P :: oE P :: tR P :: oA P :: ou P :: oh P :: tQ P :: n6 P :: nZ P :: tO P :: nY P :: nW P :: nU P :: tK P :: nT P :: nR P :: tH P :: nQ P :: nP P :: nO P :: tE P :: nM P :: nJ P :: tD P :: nH P :: nG P :: nF P :: tu P :: nD P :: nC P :: sZ P :: nA P :: nu P :: nq P :: sY P :: nj P :: ni P :: sW P :: m9 P :: m8 P :: m7 P :: sV P :: m6 P :: m5 P :: sU P :: mZ P :: mY P :: mX P :: sS P :: mW P :: mV P :: sO P :: mU P :: mR P :: mQ P :: sJ P :: sI P :: mO P :: mL P :: []⟩ }
def Kf:Params→PySem.W.Frag:=fun P=>(nat_lit 2,v9 P) ::
 (nat_lit 3,tG P) ::
 (nat_lit 6,vq P) ::
 (nat_lit 15,sH P) ::
 (nat_lit 18,sG P) ::
 (nat_lit 19,sE P) ::
 (nat_lit 20,sy P) ::
 (nat_lit 27,su P) ::
 (nat_lit 28,rZ P) ::
 (nat_lit 29,rY P) ::
 (nat_lit 30,rW P) ::
 (nat_lit 33,rU P) ::
 (nat_lit 40,rT P) ::
 (nat_lit 41,rR P) ::
 (nat_lit 42,rQ P) ::
 (nat_lit 45,rP P) ::
 (nat_lit 52,rO P) ::
 (nat_lit 53,rN P) ::
 (nat_lit 54,rM P) ::
 (nat_lit 57,rK P) ::
 (nat_lit 64,rJ P) ::
 (nat_lit 65,rH P) ::
 (nat_lit 66,rG P) ::
 (nat_lit 69,rF P) ::
 (nat_lit 76,rE P) ::
 (nat_lit 77,rD P) ::
 (nat_lit 78,rC P) ::
 (nat_lit 81,rB P) ::
 (nat_lit 88,rA P) ::
 (nat_lit 89,rz P) ::
 (nat_lit 90,rm P) ::
 (nat_lit 93,qZ P) ::
 (nat_lit 96,qY P) ::
 (nat_lit 97,oO P) ::
 (nat_lit 98,oN P) ::
 (nat_lit 100,oM P) ::
 (nat_lit 101,oK P) ::
 (nat_lit 103,oJ P) ::
 (nat_lit 104,oH P) ::
 (nat_lit 105,oG P) ::
 (nat_lit 107,oF P) ::
 (nat_lit 108,oE P) ::
 (nat_lit 110,oA P) ::
 (nat_lit 111,ou P) ::
 (nat_lit 112,oh P) ::
 (nat_lit 114,n6 P) ::
 (nat_lit 115,nZ P) ::
 (nat_lit 117,nY P) ::
 (nat_lit 118,nW P) ::
 (nat_lit 119,nU P) ::
 (nat_lit 121,nT P) ::
 (nat_lit 122,nR P) ::
 (nat_lit 124,nQ P) ::
 (nat_lit 125,nP P) ::
 (nat_lit 126,nO P) ::
 (nat_lit 128,nM P) ::
 (nat_lit 129,nJ P) ::
 (nat_lit 131,nH P) ::
 (nat_lit 132,nG P) ::
 (nat_lit 133,nF P) ::
 (nat_lit 135,nD P) ::
 (nat_lit 136,nC P) ::
 (nat_lit 138,nA P) ::
 (nat_lit 139,nu P) ::
 (nat_lit 140,nq P) ::
 (nat_lit 142,nj P) ::
 (nat_lit 143,ni P) ::
 (nat_lit 145,m9 P) ::
 (nat_lit 146,m8 P) ::
 (nat_lit 147,m7 P) ::
 (nat_lit 149,m6 P) ::
 (nat_lit 150,m5 P) ::
 (nat_lit 152,mZ P) ::
 (nat_lit 153,mY P) ::
 (nat_lit 154,mX P) ::
 (nat_lit 156,mW P) ::
 (nat_lit 157,mV P) ::
 (nat_lit 159,mU P) ::
 (nat_lit 160,mR P) ::
 (nat_lit 161,mQ P) ::
 (nat_lit 164,mO P) ::
 (nat_lit 165,mL P) :: []
def asK:List Addr:=[2,3,6,15,18,19,20,27,28,29,30,33,40,41,42,45,52,53,54,57,64,65,66,69,76,77,78,81,88,89,90,93,96,97,98,100,101,103,104,105,107,108,110,111,112,114,115,117,118,119,121,122,124,125,126,128,129,131,132,133,135,136,138,139,140,142,143,145,146,147,149,150,152,153,154,156,157,159,160,161,164,165]
theorem hkE:∀ P,asK=(Kf P).map (·.1):=fun _=>by kernel_rfl
def qv:Program:={ PySem.Challenge.pw_sluice_k72_numbers_and_names with main:={ PySem.Challenge.pw_sluice_k72_numbers_and_names.main with body:=[top0 25] } }
def iI:List Str:=("LONGEST_NAME":Str) :: ("LETTERS":Str) :: ("is_name":Str) :: ("SluiceError":Str) :: ("NoReach":Str) :: ("NoNumber":Str) :: ("NoHolder":Str) :: ("TooMuch":Str) :: ("NoRow":Str) :: ("FIGURES":Str) :: ("MOST_FIGURES":Str) :: ("read_number":Str) :: ("read_name":Str) :: ("_law_draws":Str) :: ("_law_sign":Str) :: ("_law_plain":Str) :: ("_law_word":Str) :: ("_law_all_in":Str) :: ("_law_refusal":Str) :: ("_law_number_right":Str) :: ("_law_name_right":Str) :: []
end
theorem hp1:∀ w:World,(PySem.W.fencedOpening PySem.treeTable PySem.Challenge.rw_sluice_k72_numbers_and_names.row.toRowW.prog w 3496).map (fun s=>(s.heap,s.gens,s.drawn,s.toks))=some (H0 w.params,#[],{},181):=by
  intro w;kernel_rfl
theorem hp2:∀ w:World,((H0 w.params).isNs mainGlobals && (#[]:Array GenState).size == 0,(H0 w.params).objs.size,(H0 w.params).nsMap mainGlobals "__annotations__")=(true,11,some (Value.ref 6)):=by
  intro w;kernel_rfl
theorem hp3:∀ (w:World) (os:OsState),PySem.W.topRun PySem.treeTable PySem.Challenge.rw_sluice_k72_numbers_and_names.row.toRowW.prog w 11 (some (Value.ref 6)) 3496 ⟨H0 w.params,#[],{},181,os⟩ (PySem.W.topStub PySem.Challenge.rw_sluice_k72_numbers_and_names.row.toRowW.prog)=some ⟨H1 w.params,#[],{},405,os⟩:=by
  intro w os;kernel_rfl
theorem hp4:∀ w:World,(fun os=>((PySem.W.staticsOk (importedModules PySem.Challenge.rw_sluice_k72_numbers_and_names.row.toRowW.prog.main.body) (H0 w.params) (H1 w.params) && PySem.W.namesBound PySem.Challenge.rw_sluice_k72_numbers_and_names.row.toRowW.prog (H1 w.params) && PySem.W.gensDone ⟨H1 w.params,#[],{},405,os⟩ && PySem.W.laidKept (H0 w.params) (H1 w.params)),PySem.W.openSeen qv iI (importedModules PySem.Challenge.rw_sluice_k72_numbers_and_names.row.toRowW.prog.main.body) (fun s=>PySem.W.xlAt My.qv [] s && PySem.W.recOk (PySem.W.RowW.records PySem.Challenge.rw_sluice_k72_numbers_and_names.row.toRowW) s) true ⟨H1 w.params,#[],{},405,os⟩,(PySem.W.Hook.obs (PySem.W.kHook My.Kf My.asK My.hkE)) ⟨H1 w.params,#[],{},405,os⟩))=fun _=>(true,PySem.W.openGood qv iI,(PySem.W.Hook.val (PySem.W.kHook My.Kf My.asK My.hkE)) w):=by
  intro w;kernel_rfl
theorem hlE:PySem.W.LeftO PySem.Challenge.rw_sluice_k72_numbers_and_names.row.toRowW.prog qv My.iI (fun s=>PySem.W.xlAt My.qv [] s && PySem.W.recOk (PySem.W.RowW.records PySem.Challenge.rw_sluice_k72_numbers_and_names.row.toRowW) s) (PySem.W.Hook.obs (PySem.W.kHook My.Kf My.asK My.hkE)) (PySem.W.Hook.val (PySem.W.kHook My.Kf My.asK My.hkE)) 3496:=PySem.W.LeftO.of_pieces hp1 hp2 hp3 (by decide) hp4
end My
namespace L2
open PySem PySem.Spec PyProof.Rows
abbrev Key:=Sum Int Str
def qW:Key→Value→Bool
  | .inl k,v=>Value.isInt k v
  | .inr x,v=>Value.isStrOf x v
def keyH (w:World):Key→Int
  | .inl k=>hashInt k
  | .inr x=>hashStr w x
theorem bf:∀ {k:Key} {v:Value},qW k v=true→(∃ i t,k=Sum.inl i∧v=Value.int i t)∨(∃ x t,k=Sum.inr x∧v=Value.str x t)
  | .inl i,v,h=>by
    obtain ⟨t,e⟩:=Value.isInt_shape (k:=i) (v:=v) h
    exact .inl ⟨i,t,rfl,e⟩
  | .inr x,v,h=>by
    obtain ⟨t,e⟩:=Value.isStrOf_shape (x:=x) (v:=v) h
    exact .inr ⟨x,t,rfl,e⟩
theorem qU (a b:Int):decide ((Sum.inl a:Key)=Sum.inl b)=(a == b):=by
  by_cases e:a=b
  · subst e;simp
  · have h:¬ (Sum.inl a:Key)=Sum.inl b:=fun q=>e (Sum.inl.inj q)
    rw [decide_eq_false h]
    exact (beq_eq_false_iff_ne.mpr e).symm
theorem qQ (a b:Str):decide ((Sum.inr a:Key)=Sum.inr b)=decide (a=b):=by
  by_cases e:a=b
  · subst e;simp
  · have h:¬ (Sum.inr a:Key)=Sum.inr b:=fun q=>e (Sum.inr.inj q)
    rw [decide_eq_false h,decide_eq_false e]
theorem qT (a:Int) (b:Str):decide ((Sum.inl a:Key)=Sum.inr b)=false:=decide_eq_false (fun q=>nomatch q)
theorem qR (a:Str) (b:Int):decide ((Sum.inr a:Key)=Sum.inl b)=false:=decide_eq_false (fun q=>nomatch q)
def jW (prog:Program) (w:World):PySem.KeyKind prog w Key where
  is:=qW
  hash:=keyH w
  inj:=fun v a b ha hb=>by
    rcases bf ha with ⟨i,t,rfl,rfl⟩ | ⟨x,t,rfl,rfl⟩
    · rcases bf hb with ⟨j,u,rfl,e⟩ | ⟨y,u,rfl,e⟩
      · injection e with e1 _;rw [e1]
      · exact nomatch e
    · rcases bf hb with ⟨j,u,rfl,e⟩ | ⟨y,u,rfl,e⟩
      · exact nomatch e
      · injection e with e1 _;rw [e1]
  byValue:=fun k v h=>by
    rcases bf h with ⟨i,t,rfl,rfl⟩ | ⟨x,t,rfl,rfl⟩ <;> rfl
  pyHash:=fun hv h=>by
    rcases bf hv with ⟨i,t,rfl,rfl⟩ | ⟨x,t,rfl,rfl⟩
    · exact wpAny_pyHash_int h
    · exact wpAny_pyHash_str h
  eqBool:=fun hu hv h=>by
    rcases bf hu with ⟨i,t,rfl,rfl⟩ | ⟨x,t,rfl,rfl⟩
    · rcases bf hv with ⟨j,u,rfl,rfl⟩ | ⟨y,u,rfl,rfl⟩
      · rw [qU] at h;exact wpAny_eqBool_int h
      · rw [qT] at h;exact SeqAt.EqAt.int_str i t y u _ _ _ _ h
    · rcases bf hv with ⟨j,u,rfl,rfl⟩ | ⟨y,u,rfl,rfl⟩
      · rw [qR] at h;exact SeqAt.EqAt.str_int x t j u _ _ _ _ h
      · rw [qQ] at h;exact wpAny_eqBool_str h
  «strs»:=fun k x t v h=>by
    rcases bf h with ⟨i,u,rfl,e⟩ | ⟨y,u,rfl,e⟩
    · exact nomatch e
    · injection e with e1 _
      subst e1
      cases v <;> rfl
end L2
namespace L2
open PySem PySem.Spec PyProof.Rows
inductive V where
  | non | bl (b:Bool) | int (i:Int) | str (x:Str) | byt (b:Array UInt8) | flt (b:UInt64) | ref (a:Addr) | ty (n:String)
  deriving DecidableEq
def RelV:V→Value→Prop
  | .non,u=>u=Value.none
  | .bl b,u=>u=Value.bool b
  | .int i,u=>∃ t,u=Value.int i t
  | .str x,u=>∃ t,u=Value.str x t
  | .byt b,u=>∃ t,u=Value.bytes b t
  | .flt b,u=>∃ t,u=Value.float b t
  | .ref a,u=>u=Value.ref a
  | .ty n,u=>u=Value.type n
abbrev Vals:List V→List Value→Prop:=Paired RelV
theorem Vals.length {xs:List V} {us:List Value} (r:Vals xs us):xs.length=us.length:=Paired.length r
theorem Vals.get:∀ {xs:List V} {us:List Value} {i:Nat} {x:V},Vals xs us→xs[i]?=some x→∃ u,us[i]?=some u∧RelV x u
  | _,_,_,_,.nil,e=>by simp at e
  | _,_,0,_,.cons r _,e=>by simp at e;subst e;exact ⟨_,rfl,r⟩
  | _,_,i + 1,x,.cons _ t,e=>by
    obtain ⟨u,h1,h2⟩:=Vals.get (i:=i) (x:=x) t (by simpa using e)
    exact ⟨u,by simpa using h1,h2⟩
theorem Vals.append:∀ {xs ys:List V} {us ws:List Value},Vals xs us→Vals ys ws→Vals (xs++ys) (us++ws)
  | _,_,_,_,.nil,s=>s
  | _,_,_,_,.cons r t,s=>.cons r (Vals.append t s)
theorem Vals.take:∀ {xs:List V} {us:List Value} (n:Nat),Vals xs us→Vals (xs.take n) (us.take n)
  | _,_,0,_=>.nil
  | _,_,_ + 1,.nil=>.nil
  | _,_,n + 1,.cons r t=>.cons r (Vals.take n t)
theorem Vals.drop:∀ {xs:List V} {us:List Value} (n:Nat),Vals xs us→Vals (xs.drop n) (us.drop n)
  | _,_,0,r=>r
  | _,_,_ + 1,.nil=>.nil
  | _,_,n + 1,.cons _ t=>Vals.drop n t
def wJ:Option V→Option Value→Prop
  | some v,some u=>RelV v u
  | none,none=>True
  | _,_=>False
def KV {κ:Type}:List (κ × V)→List (κ × Value)→Prop:=Paired fun (p:κ × V) (q:κ × Value)=>p.1=q.1∧RelV p.2 q.2
def kV:Key→V
  | .inl i=>.int i
  | .inr x=>.str x
inductive HO where
  /-- a list -/
  | lst (xs:List V)
  /-- a tuple (never changes) -/
  | tup (xs:List V)
  /-- a dict whose keys are ints and texts; one whose keys are tuples of ints and texts (the empty one is both) -/
  | dK (kvs:List (Key × V)) | dT (kvs:List (List Key × V))
  /-- a set of ints: its members, its size -/
  | set (S:Int→Bool) (n:Nat)
  /-- an instance of the class at C, its dict at dx, its attributes -/
  | ins (C dx:Addr) (fs:List (Str × V))
  /-- the dict of the instance at x -/
  | own (x:Addr)
  /-- the dict of an exception -/
  | xd (fs:List (Str × V))
  /-- a bound method, f of x -/
  | met (f x:Addr)
  /-- a range object lo, lo + 1, .. below hi -/
  | rng (lo hi:Int)
  /-- a thing that is known to the object (the script; a dict while a loop walks it): read, never written while it is so -/
  | frz (o:Obj) (u:HO)
  /-- a code object's table -/
  | tbl (ps:Array Value)
  /-- any other thing, by what is true of its one object (a def of one's own: SetO a S n := HO.ext fun h => ..) -/
  | ext (φ:Heap→Prop)
abbrev Hp:=Addr→Option HO
def upd (H:Hp) (a:Addr) (o:HO):Hp:=fun b=>if b=a then some o else H b
theorem cC {H:Hp} {a:Addr} {o:HO}:upd H a o a=some o:=by unfold upd;rw [if_pos rfl]
theorem aU {H:Hp} {a b:Addr} {o:HO} (h:b≠a):upd H a o b=H b:=by unfold upd;rw [if_neg h]
theorem bh {H:Hp} {a b:Addr} {o:HO} (h:H a=some o) (h':H b=none):a≠b:=by
  intro e;subst e;rw [h] at h';cases h'
section
variable (P:Program) (w:World)
def cB (H:Hp) (h:Heap) (a:Addr):HO→Prop
  | .lst xs=>xs.length≤sizeLine∧∃ (its:List Value) (n:Nat),Vals xs its∧h.get? a=some { cls:=.type "list",data:=.seq its.toArray n }
  | .tup xs=>xs.length≤sizeLine∧∃ its:List Value,Vals xs its∧IsTup h a its.toArray
  | .dK kvs=>kvs.length≤sizeLine∧(a == sysModules)=false∧∃ vs,KV kvs vs∧h.DictOf (jW P w) a vs
  | .dT kvs=>kvs.length≤sizeLine∧(a == sysModules)=false∧∃ xs:List (List Key × Addr × Value),
      Paired (fun (p:List Key × V) (q:List Key × Addr × Value)=>p.1=q.1∧H q.2.1=some (.tup (p.1.map kV))∧RelV p.2 q.2.2) kvs xs ∧
      ∃ o es ep,h.get? a=some o∧o.ExactDict∧o.data=.dict es ep∧es.toList=xs.map (entryOfKey (tupleKind (jW P w)))∧(xs.map (·.1)).Nodup
  | .set S n=>h.SetOf (intKind P w) a S n
  | .ins C dx fs=>H dx=some (.own a)∧fs.length≤1000∧dx≠a∧h.get? a=some (PySem.W.instObj C dx) ∧
      ∃ mA,h.Ns1 dx mA∧(∀ f,wJ (fs.lookup f) (mA f))∧PySem.Within mA (fs.map (·.1))
  | .own _=>∃ o,h.get? a=some o
  | .xd fs=>∃ mA,h.Ns1 a mA∧∀ f,wJ (fs.lookup f) (mA f)
  | .rng lo hi=>∃ t u v,h.get? a=some { cls:=.type "range",data:=.fields #[.int lo t,.int hi u,.int 1 v] }
  | .frz o u=>h.get? a=some o∧cB H h a u
  | .tbl ps=>h.get? a=some { cls:=.none,data:=.fields ps }
  | .met f x=>h.get? a=some (PySem.W.methodObj (.ref f) (.ref x))
  | .ext φ=>φ h∧(∃ o,h.get? a=some o)∧∀ h1 h2:Heap,φ h1→(∀ o,h1.get? a=some o→h2.get? a=some o)→φ h2
def HOk (H:Hp) (h:Heap):Prop:=∀ a o,H a=some o→cB P w H h a o
end
section
variable {P:Program} {w:World} {H H':Hp} {h h':Heap} {a:Addr} {o:HO}
theorem cB.lt (x:cB P w H h a o):a<h.objs.size:=by
  cases o with
  | lst xs=>obtain ⟨_,_,_,_,e⟩:=x;exact Heap.lt_size e
  | tup xs=>obtain ⟨_,_,_,p⟩:=x;exact p.lt
  | dK kvs=>obtain ⟨_,_,_,_,o,_,_,e,_⟩:=x;exact Heap.lt_size e
  | dT kvs=>obtain ⟨_,_,_,_,o,_,_,e,_⟩:=x;exact Heap.lt_size e
  | set S n=>obtain ⟨o,_,_,_,e,_⟩:=x;exact Heap.lt_size e
  | ins C dx fs=>obtain ⟨_,_,_,e,_⟩:=x;exact Heap.lt_size e
  | own y=>obtain ⟨_,e⟩:=x;exact Heap.lt_size e
  | xd fs=>obtain ⟨_,⟨_,_,_,e,_⟩,_⟩:=x;exact Heap.lt_size e
  | rng lo hi=>obtain ⟨_,_,_,e⟩:=x;exact Heap.lt_size e
  | frz ob u=>obtain ⟨e,_⟩:=x;exact Heap.lt_size e
  | tbl ps=>exact Heap.lt_size (show h.get? a=some _ from x)
  | met f y=>exact Heap.lt_size (show h.get? a=some _ from x)
  | ext φ=>obtain ⟨_,⟨_,e⟩,_⟩:=x;exact Heap.lt_size e
theorem Paired.wV {α β:Type} {F G:α→β→Prop}:∀ {l₁:List α} {l₂:List β},Paired F l₁ l₂→(∀ a b,F a b→G a b)→Paired G l₁ l₂
  | _,_,.nil,_=>.nil
  | _,_,.cons r t,f=>.cons (f _ _ r) (Paired.wV t f)
theorem cB.stay (x:cB P w H h a o) (k:∀ b u,(b=a∨H b=some (.own a))→h.get? b=some u→h'.get? b=some u)
    (ho:∀ b,H b=some (.own a)→H' b=some (.own a)) (ht:∀ b xs,H b=some (.tup xs)→H' b=some (.tup xs)):cB P w H' h' a o:=by
  induction o with
  | lst xs=>obtain ⟨z,its,n,r,e⟩:=x;exact ⟨z,its,n,r,k _ _ (.inl rfl) e⟩
  | tup xs=>obtain ⟨z,its,r,ob,e,c⟩:=x;exact ⟨z,its,r,ob,k _ _ (.inl rfl) e,c⟩
  | dK kvs=>obtain ⟨z,y,vs,r,ob,es,ep,e,c⟩:=x;exact ⟨z,y,vs,r,ob,es,ep,k _ _ (.inl rfl) e,c⟩
  | dT kvs =>
    obtain ⟨z,y,xs,r,ob,es,ep,e,c⟩:=x
    exact ⟨z,y,xs,Paired.wV r fun p q z=>⟨z.1,ht _ _ z.2.1,z.2.2⟩,ob,es,ep,k _ _ (.inl rfl) e,c⟩
  | set S n=>obtain ⟨ob,es,ep,t,e,c⟩:=x;exact ⟨ob,es,ep,t,k _ _ (.inl rfl) e,c⟩
  | ins C dx fs =>
    obtain ⟨d,z,ne,e,mA,⟨od,es,ep,e2,c⟩,r⟩:=x
    exact ⟨ho _ d,z,ne,k _ _ (.inl rfl) e,mA,⟨od,es,ep,k _ _ (.inr d) e2,c⟩,r⟩
  | own y=>obtain ⟨ob,e⟩:=x;exact ⟨ob,k _ _ (.inl rfl) e⟩
  | xd fs=>obtain ⟨mA,⟨od,es,ep,e,c⟩,r⟩:=x;exact ⟨mA,⟨od,es,ep,k _ _ (.inl rfl) e,c⟩,r⟩
  | rng lo hi=>obtain ⟨t,u,v,e⟩:=x;exact ⟨t,u,v,k _ _ (.inl rfl) e⟩
  | frz ob u ih=>obtain ⟨e,q⟩:=x;exact ⟨k _ _ (.inl rfl) e,ih q⟩
  | tbl ps =>
    have e:h.get? a=some { cls:=.none,data:=.fields ps }:=x
    show h'.get? a=some { cls:=.none,data:=.fields ps }
    exact k a _ (.inl rfl) e
  | met f y =>
    have e:h.get? a=some (PySem.W.methodObj (.ref f) (.ref y)):=x
    show h'.get? a=some (PySem.W.methodObj (.ref f) (.ref y))
    exact k a _ (.inl rfl) e
  | ext φ=>obtain ⟨p,⟨o,e⟩,st⟩:=x;exact ⟨st _ _ p fun o q=>k _ _ (.inl rfl) q,⟨o,k _ _ (.inl rfl) e⟩,st⟩
theorem HOk.lt (x:HOk P w H h) (e:H a=some o):a<h.objs.size:=(x a o e).lt
theorem HOk.fresh (x:HOk P w H h) (e:h.objs.size≤a):H a=none:=by
  cases q:H a with
  | none=>rfl
  | some u=>exact absurd (Nat.lt_of_lt_of_le (x.lt q) e) (Nat.lt_irrefl _)
theorem HOk.kept (x:HOk P w H h) (k:∀ b u,h.get? b=some u→h'.get? b=some u):HOk P w H h':=fun a o e =>
  (x a o e).stay (fun b u _ q=>k b u q) (fun _ q=>q) fun _ _ q=>q
theorem HOk.laid (x:HOk P w H h) (k:∀ b u,h.get? b=some u→h'.get? b=some u) (hp:h.objs.size≤a) (new:cB P w (upd H a o) h' a o):HOk P w (upd H a o) h':=fun b u e=>by
  have hn:=x.fresh hp
  by_cases hb:b=a
  · subst hb;rw [cC] at e;cases e;exact new
  · rw [aU hb] at e
    exact (x b u e).stay (fun c v _ q=>k c v q) (fun c q=>by rw [aU (bh q hn)];exact q) fun c xs q=>by rw [aU (bh q hn)];exact q
end
def Rd (H:Hp) (a:Addr) (u:HO):Prop:=H a=some u∨∃ o,H a=some (.frz o u)
theorem Rd.ok {P:Program} {w:World} {H:Hp} {h:Heap} {a:Addr} {u:HO} (r:Rd H a u) (x:HOk P w H h):cB P w H h a u:=by
  rcases r with r | ⟨o,r⟩
  · exact x a u r
  · obtain ⟨_,q⟩:=x a _ r
    exact q
def Mut:Option HO→Prop
  | some (.lst _)=>True
  | some (.dK _)=>True
  | some (.dT _)=>True
  | some (.set _ _)=>True
  | some (.ins _ _ _)=>True
  | some (.ext _)=>True
  | _=>False
section
variable {P:Program} {w:World} {H:Hp} {h h':Heap} {x e:Addr} {o':HO}
theorem HOk.write (ok:HOk P w H h) (mu:Mut (H x)) (he:e=x∨H e=some (.own x)) (k:∀ b u,b≠e→h.get? b=some u→h'.get? b=some u) (heo:∃ u,h'.get? e=some u)
    (new:cB P w (upd H x o') h' x o'):HOk P w (upd H x o') h':=fun b u q=>by
  have nown:∀ c y,H c=some (.own y)→c≠x:=fun c y r z=>by subst z;rw [r] at mu;exact mu
  have ntup:∀ c xs,H c=some (.tup xs)→c≠x:=fun c xs r z=>by subst z;rw [r] at mu;exact mu
  by_cases hb:b=x
  · subst hb;rw [cC] at q;cases q;exact new
  · rw [aU hb] at q
    by_cases hbe:b=e
    · have q':H b=some (.own x):=by
        rcases he with z | z
        · exact absurd (hbe.trans z) hb
        · rw [hbe];exact z
      rw [q] at q';cases q'
      obtain ⟨v,hv⟩:=heo
      exact ⟨v,by rw [hbe];exact hv⟩
    · refine (ok b u q).stay (fun c v hc r=>k c v ?_ r) (fun c r=>by rw [aU (nown c b r)];exact r) fun c xs r=>by rw [aU (ntup c xs r)];exact r
      rcases hc with rfl | hc
      · exact hbe
      · rintro rfl
        rcases he with z | z
        · exact nown c b hc z
        · rw [hc] at z;cases z;exact hb rfl
end
structure Un (fs ex:List Addr) (H H':Hp) (h h':Heap):Prop where
  keep:∀ b o,h.get? b=some o→H b=none→b ∉ fs→b ∉ ex→h'.get? b=some o
  slot:∀ b o,h.get? b=some o→H b=none→b∈fs→b ∉ ex→∃ sl,h'.get? b=some { o with slots:=sl }
  free:∀ b o,h.get? b=some o→H b=none→b ∉ ex→H' b=none
  there:∀ b o,h.get? b=some o→b ∉ ex→∃ o',h'.get? b=some o'
  tups:∀ b xs,H b=some (.tup xs)→H' b=some (.tup xs)
  frzs:∀ b o u,H b=some (.frz o u)→H' b=some (.frz o u)
  tbls:∀ b ps,H b=some (.tbl ps)→∃ more,H' b=some (.tbl (ps++more))
section
variable {fs fs' ex ex':List Addr} {H H1 H2:Hp} {h h1 h2 h':Heap} {a x e:Addr} {o:HO}
theorem Un.any (u:Un fs ex H H1 h h1) {b:Addr} {ob:Obj} (q:h.get? b=some ob) (n:H b=none) (hx:b ∉ ex):∃ sl,h1.get? b=some { ob with slots:=sl }:=by
  by_cases hb:b∈fs
  · exact u.slot b ob q n hb hx
  · exact ⟨ob.slots,u.keep b ob q n hb hx⟩
theorem Un.kept (k:∀ b u,h.get? b=some u→h'.get? b=some u):Un fs ex H H h h' :=
  ⟨fun b ob q _ _ _=>k b ob q,fun b ob q _ _ _=>⟨ob.slots,k b ob q⟩,fun _ _ _ n _=>n,fun b ob q _=>⟨ob,k b ob q⟩,fun _ _ q=>q,fun _ _ _ q=>q,fun _ ps q=>⟨#[],by rw [q];simp⟩⟩
theorem Un.refl:Un fs ex H H h h:=Un.kept fun _ _ q=>q
theorem Un.laid (k:∀ b u,h.get? b=some u→h'.get? b=some u) (hp:h.objs.size≤a) (hn:H a=none):Un fs ex H (upd H a o) h h' where
  keep:=fun b u q _ _ _=>k b u q
  slot:=fun b u q _ _ _=>⟨u.slots,k b u q⟩
  free:=fun b u q n _=>by rw [aU (Nat.ne_of_lt (Nat.lt_of_lt_of_le (Heap.lt_size q) hp))];exact n
  there:=fun b u q _=>⟨u,k b u q⟩
  tups:=fun b xs q=>by rw [aU (bh q hn)];exact q
  frzs:=fun b u xs q=>by rw [aU (bh q hn)];exact q
  tbls:=fun b ps q=>⟨#[],by rw [aU (bh q hn),q];simp⟩
theorem Un.write (mu:Mut (H x)) (he:e=x∨H e=some (.own x)) (k:∀ b u,b≠e→h.get? b=some u→h'.get? b=some u) (heo:∃ u,h'.get? e=some u):Un fs ex H (upd H x o) h h':=by
  have hx:∀ b,H b=none→b≠x:=fun b n z=>by subst z;rw [n] at mu;exact mu
  have hb:∀ b,H b=none→b≠e:=fun b n z=>by
    subst z
    rcases he with r | r
    · exact hx b n r
    · rw [n] at r;cases r
  have hm:∀ b u,H b=some u→¬ Mut (some u)→b≠x:=fun b u q nm z=>by subst z;rw [q] at mu;exact nm mu
  refine ⟨fun b u q n _ _=>k b u (hb b n) q,fun b u q n _ _=>⟨u.slots,k b u (hb b n) q⟩,fun b u q n _=>by rw [aU (hx b n)];exact n,fun b u q _=>?_,
    fun b xs q=>by rw [aU (hm b _ q fun z=>z)];exact q,fun b u xs q=>by rw [aU (hm b _ q fun z=>z)];exact q,fun b ps q=>⟨#[],by rw [aU (hm b _ q fun z=>z),q];simp⟩⟩
  by_cases hbe:b=e
  · subst hbe;exact heo
  · exact ⟨u,k b u hbe q⟩
end
def trk (h:Heap) (H:Hp):List Addr:=(List.range h.objs.size).filter fun a=>(H a).isSome
def lQ (h:Heap) (H:Hp):Heap:=PySem.W.hideAll h (trk h H)
theorem j5 (h:Heap) (H:Hp):(lQ h H).objs.size=h.objs.size:=PySem.W.hideAll_size _ _
theorem lO {h:Heap} {H:Hp} {b:Addr} {o:Obj} (e:h.get? b=some o) (n:H b=none):(lQ h H).get? b=some o :=
  PySem.W.hideAll_get _ e fun hm=>by
    have q:(H b).isSome=true:=(List.mem_filter.mp hm).2
    rw [n] at q;simp at q
theorem pG {h:Heap} {H:Hp} {b:Addr} {o:Obj} (e:(lQ h H).get? b=some o):h.get? b=some o∧H b=none:=by
  have e':h.get? b=some o:=PySem.W.of_hideAll (trk h H) e
  refine ⟨e',?_⟩
  cases q:H b with
  | none=>rfl
  | some x =>
    have hm:b∈trk h H:=List.mem_filter.mpr ⟨List.mem_range.mpr (Heap.lt_size e'),by simp [q]⟩
    have z:(lQ h H).get? b=none:=PySem.W.hideAll_none (trk h H) hm
    rw [z] at e;cases e
end L2
namespace L2
open PySem PySem.Spec PyProof.Rows
structure Mod (K:PySem.W.Frag) (mg:Str→Option Value) (base:Heap):Prop where
  kin:K.In base
  glob:base.Ns mainGlobals mg
  blt:∃ mb,base.Ns builtinsNs mb∧∀ x:Str,x≠"__name__"→mb x=bootBuiltins x
  nolimit:base.NoLimit
structure Cx where
  prog:Program
  w:World
  K:PySem.W.Frag
  mg:Str→Option Value
  base:Heap
  A:Around
  N:List Str
  s₀:Shared
  H₀:Hp
  env:Env
  outer:List Env
  stack:List Env
  ex:List Addr
  fn:Str→Bool
  calm:Bool
  pn:List (Addr × Obj)
  xe:Value→Shared→Prop
def frs (l:List Env):List Addr:=l.filterMap (·.frame)
abbrev Cx.fs (X:Cx):List Addr:=frs X.outer
def Vis (sc:Scope) (x:Str):Prop:=sc.names.lookup x=some .local∨sc.names.lookup x=some .cell∨sc.names.lookup x=some .free
def Loc (sc:Scope) (x:Str):Prop:=sc.names.lookup x=some .local∨sc.names.lookup x=some .cell
def Look (env:Env) (h:Heap) (m:Str→Option Value) (x:Str) (u:Value):Prop :=
  (env.kindOf x=some .local∧m x=some u)∨((env.kindOf x=some .cell∨env.kindOf x=some .free)∧∃ c,env.cells.lookup x=some c∧h.IsCell c (some u))
structure Cx.Ok (X:Cx):Prop where
  mod:Mod X.K X.mg X.base
  kind:X.env.scope.kind=.function
  glob:X.env.globals=mainGlobals
  blt:X.env.builtins=builtinsNs
  above:X.s₀.heap.objs.size≤X.env.locals
  inj:∀ x y c,X.env.cells.lookup x=some c→X.env.cells.lookup y=some c→x=y
  has:∀ x,(X.env.kindOf x=some .cell∨X.env.kindOf x=some .free)→∃ c,X.env.cells.lookup x=some c
  cab:∀ x c,X.fn x=true→X.env.cells.lookup x=some c→X.s₀.heap.objs.size≤c
  hd:X.calm=true→X.A.handled=none
  frames:X.A.frames=some X.stack
  stk:X.stack=X.outer∨(X.stack=X.env :: X.outer∧X.env.frame=some X.env.locals)
  exf:∀ b∈X.ex,b≠X.env.locals∧∀ x c,X.env.cells.lookup x=some c→c≠b
  bs:∀ b o,X.base.get? b=some o→X.s₀.heap.get? b=some o∧X.H₀ b=none
  bsz:X.base.objs.size≤X.s₀.heap.objs.size
  noex:∀ b o,X.base.get? b=some o→b ∉ X.ex
  exfs:∀ b∈X.ex,b ∉ X.fs
  jk:X.s₀.heap.FunFrames X.base X.outer
  frf:∀ b∈X.fs,X.H₀ b=none
structure Inv (X:Cx) (pins:List (Addr × Obj)) (σ:List (Option V)) (H:Hp) (s:Shared):Prop where
  ok:X.Ok
  os:s.os=X.s₀.os
  bare:AllBare s.gens
  base:Un X.fs X.ex X.H₀ H X.s₀.heap s.heap
  loc:∃ m,s.heap.Ns X.env.locals m∧∀ (i:Nat) (x:Str) (v:V),X.N[i]?=some x→σ[i]?=some (some v)→Vis X.env.scope x→∃ u,RelV v u∧Look X.env s.heap m x u
  cell:∀ x c,X.env.cells.lookup x=some c→∃ v,s.heap.IsCell c v
  free:H X.env.locals=none
  freeC:∀ x c,X.env.cells.lookup x=some c→H c=none
  pin:∀ p∈X.pn++pins,s.heap.get? p.1=some p.2∧H p.1=none∧p.1≠X.env.locals∧p.1 ∉ X.fs∧∀ v,p.2.data≠.cell v
  hok:HOk X.prog X.w H s.heap
  len:σ.length=X.N.length
section
variable {X:Cx} {pins:List (Addr × Obj)} {σ:List (Option V)} {H H':Hp} {s:Shared} {h':Heap}
theorem Cx.Ok.nofr (ok:X.Ok) {b:Addr} {o:Obj} (e:X.base.get? b=some o):b ∉ X.fs:=fun hb=>by
  have:=(ok.jk.mem hb).1
  rw [e] at this;cases this
theorem Inv.bs (I:Inv X pins σ H s):∀ b o,X.base.get? b=some o→s.heap.get? b=some o∧H b=none:=fun b o e =>
  ⟨I.base.keep b o (I.ok.bs b o e).1 (I.ok.bs b o e).2 (I.ok.nofr e) (I.ok.noex b o e),I.base.free b o (I.ok.bs b o e).1 (I.ok.bs b o e).2 (I.ok.noex b o e)⟩
theorem Inv.bk (I:Inv X pins σ H s):∀ b o,X.base.get? b=some o→s.heap.get? b=some o:=fun b o e=>(I.bs b o e).1
theorem Inv.mod (I:Inv X pins σ H s):Mod X.K X.mg X.base:=I.ok.mod
theorem Inv.kIn (I:Inv X pins σ H s):X.K.In s.heap:=I.ok.mod.kin.keeps I.bk
theorem Inv.lt (I:Inv X pins σ H s):X.env.locals<s.heap.objs.size:=let ⟨_,hn,_⟩:=I.loc;hn.lt
theorem Inv.sz (I:Inv X pins σ H s):X.s₀.heap.objs.size≤s.heap.objs.size:=Nat.le_trans I.ok.above (Nat.le_of_lt I.lt)
theorem Inv.nofs (I:Inv X pins σ H s) {a:Addr} (h:s.heap.objs.size≤a):a ∉ X.fs:=fun hb=>by
  obtain ⟨_,o,ho,_⟩:=I.ok.jk.mem hb
  exact absurd (Nat.lt_of_lt_of_le (Heap.lt_size ho) (Nat.le_trans I.sz h)) (Nat.lt_irrefl _)
theorem Inv.cne (I:Inv X pins σ H s):∀ x c,X.env.cells.lookup x=some c→c≠X.env.locals:=fun x c e z=>by
  obtain ⟨v,o,ho,hd⟩:=I.cell x c e
  obtain ⟨m,⟨o',es,ep,ho',hd',_⟩,_⟩:=I.loc
  rw [z,ho'] at ho;cases ho;rw [hd'] at hd;cases hd
theorem Inv.jk (I:Inv X pins σ H s):s.heap.FunFrames X.base X.outer:=by
  have all:∀ (l:List Env),(∀ b∈frs l,b∈X.fs)→X.s₀.heap.FunFrames X.base l→s.heap.FunFrames X.base l:=by
    intro l
    induction l with
    | nil=>intro _ _;trivial
    | cons env r ih =>
      intro hs hl
      obtain ⟨hk,⟨L,o,hf,hn,ho,hd⟩,hr⟩:=hl
      have hL:L∈X.fs:=hs L (by unfold frs;rw [List.filterMap_cons,hf];exact List.mem_cons_self)
      obtain ⟨sl,e⟩:=I.base.slot L o ho (I.ok.frf L hL) hL fun z=>I.ok.exfs L z hL
      exact ⟨hk,⟨L,_,hf,hn,e,hd⟩,ih (fun b hb=>hs b (by unfold frs;rw [List.filterMap_cons,hf];exact List.mem_cons_of_mem _ hb)) hr⟩
  exact all X.outer (fun _ hb=>hb) I.ok.jk
theorem Inv.stack (I:Inv X pins σ H s):s.heap.FunFrames X.base X.stack:=by
  rcases I.ok.stk with e | ⟨e,hf⟩
  · rw [e];exact I.jk
  · rw [e]
    obtain ⟨m,hn,_⟩:=I.loc
    refine .cons (by rw [I.ok.kind];decide) hf hn ?_ I.jk
    exact Heap.get?_none_of_le (Nat.le_trans I.ok.bsz I.ok.above)
theorem Inv.jz (I:Inv X pins σ H s):∀ b∈frs X.stack,b∈X.env.locals :: X.fs:=fun b hb=>by
  rcases I.ok.stk with e | ⟨e,hf⟩
  · rw [e] at hb;exact List.mem_cons_of_mem _ hb
  · rw [e] at hb
    unfold frs at hb
    rw [List.filterMap_cons,hf] at hb
    exact hb
theorem Inv.gM (I:Inv X pins σ H s):∀ b∈frs X.stack,H b=none:=fun b hb=>by
  rcases List.mem_cons.mp (I.jz b hb) with e | hb
  · rw [e];exact I.free
  · obtain ⟨_,o,ho,_⟩:=I.ok.jk.mem hb
    exact I.base.free b o ho (I.ok.frf b hb) fun z=>I.ok.exfs b z hb
theorem Inv.step {g':Array GenState} {t':Nat} {d':Drawn} {ch:List Addr} (I:Inv X pins σ H s)
    (hch:∀ b∈ch,(b∈X.ex∨X.s₀.heap.objs.size≤b)∧b≠X.env.locals∧(∀ x c,X.env.cells.lookup x=some c→c≠b)∧∀ p∈X.pn++pins,p.1≠b)
    (keep:∀ b o,b≠X.env.locals→b ∉ X.fs→b ∉ ch→s.heap.get? b=some o→H b=none→h'.get? b=some o)
    (slot:∀ b o,b≠X.env.locals→b∈X.fs→b ∉ ch→s.heap.get? b=some o→H b=none→∃ sl,h'.get? b=some { o with slots:=sl }) (free:∀ b o,b ∉ ch→s.heap.get? b=some o→H b=none→H' b=none)
    (there:∀ b o,b ∉ ch→s.heap.get? b=some o→∃ o',h'.get? b=some o')
    (tups:∀ b xs,H b=some (.tup xs)→H' b=some (.tup xs)) (frzs:∀ b o u,H b=some (.frz o u)→H' b=some (.frz o u)) (tbls:∀ b ps,H b=some (.tbl ps)→∃ more,H' b=some (.tbl (ps++more)))
    (ns:∀ m,s.heap.Ns X.env.locals m→h'.Ns X.env.locals m) (hok:HOk X.prog X.w H' h') (hg:AllBare g') :
    Inv X pins σ H' { s with heap:=h',gens:=g',drawn:=d',toks:=t' }:=by
  have neL:∀ b o,X.s₀.heap.get? b=some o→b≠X.env.locals:=fun b o e=>Nat.ne_of_lt (Nat.lt_of_lt_of_le (Heap.lt_size e) I.ok.above)
  have neC:∀ b o,X.s₀.heap.get? b=some o→b ∉ X.ex→b ∉ ch:=fun b o e hx hb=>by
    rcases (hch b hb).1 with z | z
    · exact hx z
    · exact absurd (Nat.lt_of_lt_of_le (Heap.lt_size e) z) (Nat.lt_irrefl _)
  have cellK:∀ x c,X.env.cells.lookup x=some c→∀ v,s.heap.IsCell c v→h'.IsCell c v:=fun x c e v ⟨o,ho,hd⟩=>by
    have nch:c ∉ ch:=fun z=>(hch c z).2.2.1 x c e rfl
    by_cases hc:c∈X.fs
    · obtain ⟨sl,q⟩:=slot c o (I.cne x c e) hc nch ho (I.freeC x c e)
      exact ⟨_,q,hd⟩
    · exact ⟨o,keep c o (I.cne x c e) hc nch ho (I.freeC x c e),hd⟩
  refine ⟨I.ok,I.os,hg,⟨fun b o e n hb hx=>?_,fun b o e n hb hx=>?_,fun b o e n hx=>?_,fun b o e hx=>?_,fun b xs e=>tups b xs (I.base.tups b xs e),fun b o xs e=>frzs b o xs (I.base.frzs b o xs e),fun b ps e=>?_⟩,?_,fun x c e=>?_,?_,fun x c e=>?_,fun p hp=>?_,hok,I.len⟩
  · exact keep b o (neL b o e) hb (neC b o e hx) (I.base.keep b o e n hb hx) (I.base.free b o e n hx)
  · obtain ⟨sl,e1⟩:=I.base.slot b o e n hb hx
    obtain ⟨sl',e2⟩:=slot b _ (neL b o e) hb (neC b o e hx) e1 (I.base.free b o e n hx)
    exact ⟨sl',e2⟩
  · obtain ⟨o',e1⟩:=I.base.there b o e hx
    exact free b o' (neC b o e hx) e1 (I.base.free b o e n hx)
  · obtain ⟨o',e1⟩:=I.base.there b o e hx
    exact there b o' (neC b o e hx) e1
  · obtain ⟨m1,e1⟩:=I.base.tbls b ps e
    obtain ⟨m2,e2⟩:=tbls b _ e1
    exact ⟨m1++m2,by rw [e2,Array.append_assoc]⟩
  · obtain ⟨m,hn,hl⟩:=I.loc
    refine ⟨m,ns m hn,fun i x v e1 e2 e3=>?_⟩
    obtain ⟨u,r,l⟩:=hl i x v e1 e2 e3
    refine ⟨u,r,?_⟩
    rcases l with l | ⟨k,c,e,z⟩
    · exact .inl l
    · exact .inr ⟨k,c,e,cellK x c e _ z⟩
  · obtain ⟨v,z⟩:=I.cell x c e
    exact ⟨v,cellK x c e v z⟩
  · obtain ⟨m,⟨o,_,_,ho,_⟩,_⟩:=I.loc
    exact free _ o (fun z=>(hch _ z).2.1 rfl) ho I.free
  · obtain ⟨v,o,ho,hd⟩:=I.cell x c e
    exact free c o (fun z=>(hch c z).2.2.1 x c e rfl) ho (I.freeC x c e)
  · obtain ⟨e,n,ne,nf,d⟩:=I.pin p hp
    have nch:p.1 ∉ ch:=fun z=>(hch p.1 z).2.2.2 p hp rfl
    exact ⟨keep p.1 p.2 ne nf nch e n,free p.1 p.2 nch e n,ne,nf,d⟩
theorem Inv.un {t':Nat} (I:Inv X pins σ H s) (u:Un X.fs [] H H' s.heap h') (hok:HOk X.prog X.w H' h'):Inv X pins σ H' { s with heap:=h',toks:=t' }:=by
  obtain ⟨m,⟨o,es,ep,ho,r⟩,_⟩:=id I.loc
  obtain ⟨sl,hL⟩:=u.any ho I.free (by simp)
  exact I.step (g':=s.gens) (d':=s.drawn) (ch:=[]) (fun _ z=>nomatch z) (fun b o _ hb _ e n=>u.keep b o e n hb (by simp)) (fun b o _ hb _ e n=>u.slot b o e n hb (by simp)) (fun b o _ e n=>u.free b o e n (by simp)) (fun b o _ e=>u.there b o e (by simp)) u.tups u.frzs u.tbls (fun m' hm=>by
    obtain ⟨o',es',ep',ho',r'⟩:=hm
    rw [ho] at ho';cases ho'
    exact ⟨_,es',ep',hL,r'⟩) hok I.bare
theorem Inv.call {g':Array GenState} {t':Nat} {d':Drawn} {ch:List Addr} (I:Inv X pins σ H s) (u:Un (frs X.stack) ch H H' s.heap h') (hok:HOk X.prog X.w H' h') (hg:AllBare g')
    (hch:∀ b∈ch,(b∈X.ex∨X.s₀.heap.objs.size≤b)∧b≠X.env.locals∧(∀ x c,X.env.cells.lookup x=some c→c≠b)∧∀ p∈X.pn++pins,p.1≠b) :
    Inv X pins σ H' { s with heap:=h',gens:=g',drawn:=d',toks:=t' }:=by
  obtain ⟨m,⟨o,es,ep,ho,r⟩,_⟩:=id I.loc
  obtain ⟨sl,hL⟩:=u.any ho I.free fun z=>(hch _ z).2.1 rfl
  exact I.step (ch:=ch) hch (fun b o hL hb hc e n=>u.keep b o e n (fun z=>(List.mem_cons.mp (I.jz b z)).elim hL hb) hc) (fun b o _ _ hc e n=>u.any e n hc) (fun b o hc e n=>u.free b o e n hc) (fun b o hc e=>u.there b o e hc) u.tups u.frzs u.tbls (fun m' hm=>by
    obtain ⟨o',es',ep',ho',r'⟩:=hm
    rw [ho] at ho';cases ho'
    exact ⟨_,es',ep',hL,r'⟩) hok hg
theorem Inv.turned {t':Nat} {it:Addr} (I:Inv X pins σ H s) (k:∀ b o,b≠it→s.heap.get? b=some o→h'.get? b=some o) (hn:H it=none) (hL:it≠X.env.locals)
    (h1:it∈X.ex∨X.s₀.heap.objs.size≤it) (h2:∀ x c,X.env.cells.lookup x=some c→c≠it) (h3:∀ p∈X.pn++pins,p.1≠it):Inv X pins σ H { s with heap:=h',toks:=t' }:=by
  have nit:∀ b u,H b=some u→b≠it:=fun b u e z=>by rw [z,hn] at e;cases e
  refine I.step (g':=s.gens) (d':=s.drawn) (ch:=[it]) (fun b hb=>?_) (fun b o _ _ hc e _=>k b o (fun z=>hc (by simp [z])) e) (fun b o _ _ hc e _=>⟨o.slots,k b o (fun z=>hc (by simp [z])) e⟩) (fun _ _ _ _ n=>n)
    (fun b o hc e=>⟨o,k b o (fun z=>hc (by simp [z])) e⟩) (fun _ _ e=>e) (fun _ _ _ e=>e) (fun b ps e=>⟨#[],by rw [e];simp⟩) (fun m hm=>?_) (fun b u e=>?_) I.bare
  · have e:b=it:=by simpa using hb
    subst e
    exact ⟨h1,hL,h2,h3⟩
  · obtain ⟨o,es,ep,ho,r⟩:=hm
    exact ⟨o,es,ep,k _ o (Ne.symm hL) ho,r⟩
  · refine (I.hok b u e).stay (fun c v hc q=>k c v ?_ q) (fun _ q=>q) fun _ _ q=>q
    rcases hc with z | z
    · rw [z];exact nit b u e
    · exact nit c _ z
theorem Inv.tok (I:Inv X pins σ H s) (t:Nat):Inv X pins σ H { s with toks:=t }:=I.un (h':=s.heap) (t':=t) Un.refl I.hok
theorem Inv.kept {t':Nat} (I:Inv X pins σ H s) (k:∀ b u,s.heap.get? b=some u→h'.get? b=some u):Inv X pins σ H { s with heap:=h',toks:=t' }:=I.un (Un.kept k) (I.hok.kept k)
theorem Inv.laid {a:Addr} {o:HO} {t':Nat} (I:Inv X pins σ H s) (k:∀ b u,s.heap.get? b=some u→h'.get? b=some u) (hp:s.heap.objs.size≤a) (new:cB X.prog X.w (upd H a o) h' a o) :
    Inv X pins σ (upd H a o) { s with heap:=h',toks:=t' }:=I.un (Un.laid k hp (I.hok.fresh hp)) (I.hok.laid k hp new)
theorem Inv.write {x e:Addr} {o:HO} {t':Nat} (I:Inv X pins σ H s) (mu:Mut (H x)) (he:e=x∨H e=some (.own x)) (k:∀ b u,b≠e→s.heap.get? b=some u→h'.get? b=some u) (heo:∃ u,h'.get? e=some u)
    (new:cB X.prog X.w (upd H x o) h' x o):Inv X pins σ (upd H x o) { s with heap:=h',toks:=t' }:=I.un (Un.write mu he k heo) (I.hok.write mu he k heo new)
theorem Inv.jL {pins':List (Addr × Obj)} (I:Inv X pins σ H s) (h:∀ p∈pins',s.heap.get? p.1=some p.2∧H p.1=none∧p.1≠X.env.locals∧p.1 ∉ X.fs∧∀ v,p.2.data≠.cell v):Inv X pins' σ H s :=
  ⟨I.ok,I.os,I.bare,I.base,I.loc,I.cell,I.free,I.freeC,fun p hp=>(List.mem_append.mp hp).elim (fun z=>I.pin p (List.mem_append_left _ z)) (h p),I.hok,I.len⟩
theorem iH {N:List Str} (hN:N.Nodup) {i j:Nat} {x:Str} (a:N[i]?=some x) (b:N[j]?=some x):i=j:=by
  obtain ⟨h1,e1⟩:=List.getElem?_eq_some_iff.mp a
  obtain ⟨h2,e2⟩:=List.getElem?_eq_some_iff.mp b
  exact (List.getElem_inj hN).mp (e1.trans e2.symm)
theorem jy {M:Model} {A:Around} {E:Value→Shared→Prop} {i:Nat} {x:Str} {v:V} {u:Value} {Q:Unit→Shared→Prop} (I:Inv X pins σ H s) (hN:X.N.Nodup) (hi:X.N[i]?=some x) (hx:Loc X.env.scope x) (r:RelV v u)
    (h:∀ s',Inv X pins (σ.set i (some v)) H s'→(∃ a,Heap.SameBut a s.heap s'.heap∧(a=X.env.locals∨X.env.cells.lookup x=some a))→Q () s') (hf:X.fn x=true∨X.env.scope.names.lookup x=some .local:=by first | exact .inl rfl | exact .inr rfl | assumption):wpAny M A (storeName X.env x u) Q E s:=by
  obtain ⟨m,hn,hl⟩:=id I.loc
  have hcls:(X.env.scope.kind == .class || (X.env.scope.kind == .module && X.env.locals != X.env.globals))=false:=by rw [I.ok.kind];rfl
  have hiσ:i<σ.length:=by rw [I.len];exact (List.getElem?_eq_some_iff.mp hi).1
  have cne:=I.cne
  have tracked:∀ {a:Addr} {h':Heap},(∃ o,s.heap.get? a=some o∧H a=none)→Heap.SameBut a s.heap h'→HOk X.prog X.w H h':=fun {a h'} ha hs b ob e=>by
    obtain ⟨_,_,hfree⟩:=ha
    refine (I.hok b ob e).stay (fun c w' hc q=>(hs.2 c ?_).trans q) (fun _ q=>q) fun _ _ q=>q
    rintro rfl
    rcases hc with rfl | hc
    · rw [hfree] at e;cases e
    · rw [hfree] at hc;cases hc
  rcases hx with hk | hk
  · refine wpAny_storeName_local hk hn (fun h' hn' hs=>?_) hcls
    obtain ⟨oL,_,_,hoL,_⟩:=id hn
    refine h _ ⟨I.ok,I.os,I.bare,⟨fun b o e n hb hx=>?_,fun b o e n hb hx=>?_,I.base.free,fun b o e hx=>?_,I.base.tups,I.base.frzs,I.base.tbls⟩,⟨_,hn',fun j y v' e1 e2 e3=>?_⟩,fun y c e=>?_,I.free,I.freeC,fun p hp=>?_,tracked ⟨oL,hoL,I.free⟩ hs,by simpa using I.len⟩ ⟨_,hs,.inl rfl⟩
    · exact (hs.2 b (Nat.ne_of_lt (Nat.lt_of_lt_of_le (Heap.lt_size e) I.ok.above))).trans (I.base.keep b o e n hb hx)
    · obtain ⟨sl,e1⟩:=I.base.slot b o e n hb hx
      exact ⟨sl,(hs.2 b (Nat.ne_of_lt (Nat.lt_of_lt_of_le (Heap.lt_size e) I.ok.above))).trans e1⟩
    · obtain ⟨o',e1⟩:=I.base.there b o e hx
      exact ⟨o',(hs.2 b (Nat.ne_of_lt (Nat.lt_of_lt_of_le (Heap.lt_size e) I.ok.above))).trans e1⟩
    · by_cases hj:j=i
      · subst hj
        rw [hi] at e1;cases e1
        rw [List.getElem?_set_self hiσ] at e2
        cases e2
        exact ⟨u,r,.inl ⟨hk,by simp⟩⟩
      · rw [List.getElem?_set_ne (Ne.symm hj)] at e2
        obtain ⟨u',r',q⟩:=hl j y v' e1 e2 e3
        refine ⟨u',r',?_⟩
        rcases q with ⟨k,e⟩ | ⟨k,c,e,z⟩
        · refine .inl ⟨k,?_⟩
          have:y≠x:=fun e=>hj (iH hN e1 (e ▸ hi))
          simp [this,e]
        · exact .inr ⟨k,c,e,z.sameBut hs (cne y c e)⟩
    · obtain ⟨w',z⟩:=I.cell y c e
      exact ⟨w',z.sameBut hs (cne y c e)⟩
    · obtain ⟨e,n,ne,nf,d⟩:=I.pin p hp
      exact ⟨(hs.2 p.1 ne).trans e,n,ne,nf,d⟩
  · have hfn:X.fn x=true:=by
      rcases hf with z | z
      · exact z
      · rw [z] at hk;cases hk
    obtain ⟨c,hc⟩:=I.ok.has x (.inl hk)
    obtain ⟨w',z⟩:=I.cell x c hc
    refine wpAny_storeName_cell I.ok.kind hk hc z (fun h' hc' hs=>?_)
    obtain ⟨oc,hoc,hocd⟩:=id z
    refine h { s with heap:=h' } ⟨I.ok,I.os,I.bare,⟨fun b o e n hb hx=>?_,fun b o e n hb hx=>?_,I.base.free,fun b o e hx=>?_,I.base.tups,I.base.frzs,I.base.tbls⟩,⟨m,hn.sameBut hs (Ne.symm (cne x c hc)),fun j y v' e1 e2 e3=>?_⟩,fun y c' e=>?_,I.free,I.freeC,fun p hp=>?_,tracked ⟨oc,hoc,I.freeC x c hc⟩ hs,by simpa using I.len⟩ ⟨c,hs,.inr hc⟩
    · exact (hs.2 b (Nat.ne_of_lt (Nat.lt_of_lt_of_le (Heap.lt_size e) (I.ok.cab x c hfn hc)))).trans (I.base.keep b o e n hb hx)
    · obtain ⟨sl,e1⟩:=I.base.slot b o e n hb hx
      exact ⟨sl,(hs.2 b (Nat.ne_of_lt (Nat.lt_of_lt_of_le (Heap.lt_size e) (I.ok.cab x c hfn hc)))).trans e1⟩
    · obtain ⟨o',e1⟩:=I.base.there b o e hx
      exact ⟨o',(hs.2 b (Nat.ne_of_lt (Nat.lt_of_lt_of_le (Heap.lt_size e) (I.ok.cab x c hfn hc)))).trans e1⟩
    · by_cases hj:j=i
      · subst hj
        rw [hi] at e1;cases e1
        rw [List.getElem?_set_self hiσ] at e2
        cases e2
        exact ⟨u,r,.inr ⟨.inl hk,c,hc,hc'⟩⟩
      · rw [List.getElem?_set_ne (Ne.symm hj)] at e2
        obtain ⟨u',r',q⟩:=hl j y v' e1 e2 e3
        refine ⟨u',r',?_⟩
        rcases q with q | ⟨k,c',e,z'⟩
        · exact .inl q
        · refine .inr ⟨k,c',e,z'.sameBut hs ?_⟩
          rintro rfl
          exact hj (iH hN e1 (I.ok.inj _ _ _ e hc ▸ hi))
    · by_cases hcc:c'=c
      · subst hcc;exact ⟨_,hc'⟩
      · obtain ⟨w2,z2⟩:=I.cell y c' e
        exact ⟨w2,z2.sameBut hs hcc⟩
    · obtain ⟨e,n,ne,nf,d⟩:=I.pin p hp
      refine ⟨(hs.2 p.1 ?_).trans e,n,ne,nf,d⟩
      intro q
      rw [q,hoc] at e
      have q':oc=p.2:=Option.some.inj e
      exact d w' (by rw [← q'];exact hocd)
theorem eE {M:Model} {A:Around} {E:Value→Shared→Prop} {i:Nat} {x:Str} {v:V} {u:Value} {Q:Unit→Shared→Prop} (I:Inv X pins σ H s) (hN:X.N.Nodup) (hi:X.N[i]?=some x) (hx:Loc X.env.scope x) (r:RelV v u)
    (h:∀ s',Inv X pins (σ.set i (some v)) H s'→Q () s') (hf:X.fn x=true∨X.env.scope.names.lookup x=some .local:=by first | exact .inl rfl | exact .inr rfl | assumption):wpAny M A (storeName X.env x u) Q E s :=
  jy I hN hi hx r (fun s' I' _=>h s' I') hf
theorem Inv.call' {s':Shared} {ch:List Addr} (I:Inv X pins σ H s) (ho:s'.os=s.os) (u:Un (frs X.stack) ch H H' s.heap s'.heap) (hok:HOk X.prog X.w H' s'.heap) (hg:AllBare s'.gens)
    (hch:∀ b∈ch,(b∈X.ex∨X.s₀.heap.objs.size≤b)∧b≠X.env.locals∧(∀ x c,X.env.cells.lookup x=some c→c≠b)∧∀ p∈X.pn++pins,p.1≠b):Inv X pins σ H' s':=by
  obtain ⟨h',g',d',t',o'⟩:=s'
  have e:o'=s.os:=ho
  subst e
  exact I.call (g':=g') (t':=t') (d':=d') u hok hg hch
end
abbrev XK:=Value→Option Addr→Hp→Prop
abbrev St:=List (Option V)
abbrev VK:=V→Hp→Prop
abbrev TE:=St→Hp→VK→Prop
abbrev TT:=St→Hp→(Bool→Hp→Prop)→Prop
abbrev TA:=St→Hp→(List V→Hp→Prop)→Prop
structure Ends where
  nx:St→Hp→Prop
  rt:VK
  bk:St→Hp→Prop:=fun _ _=>False
  ct:St→Hp→Prop:=fun _ _=>False
abbrev TS:=Ends→St→Hp→Prop
def EP (X:Cx) (pins:List (Addr × Obj)) (σ:St) (Q:VK) (u:Value) (s':Shared):Prop:=∃ v H',Inv X pins σ H' s'∧RelV v u∧Q v H'
def TP (X:Cx) (pins:List (Addr × Obj)) (σ:St) (Q:Bool→Hp→Prop) (b:Bool) (s':Shared):Prop:=∃ H',Inv X pins σ H' s'∧Q b H'
def AP (X:Cx) (pins:List (Addr × Obj)) (σ:St) (Q:List V→Hp→Prop) (us:List Value) (s':Shared):Prop:=∃ vs H',Inv X pins σ H' s'∧Vals vs us∧Q vs H'
def SP (X:Cx) (pins:List (Addr × Obj)) (D:Ends) (f:Flow) (s':Shared):Prop :=
  match f with
  | .next=>∃ σ' H',Inv X pins σ' H' s'∧D.nx σ' H'
  | .brk=>∃ σ' H',Inv X pins σ' H' s'∧D.bk σ' H'
  | .cont=>∃ σ' H',Inv X pins σ' H' s'∧D.ct σ' H'
  | .ret u=>∃ v σ' H',Inv X pins σ' H' s'∧RelV v u∧D.rt v H'
def PE (X:Cx) (e:Expr) (t:TE):Prop :=
  ∀ (pins:List (Addr × Obj)) (s:Shared) (σ:St) (H:Hp) (Q:VK),Inv X pins σ H s→t σ H Q→wpAny (model X.prog X.w) X.A (eval e X.env) (EP X pins σ Q) X.xe s
def PT (X:Cx) (e:Expr) (t:TT):Prop :=
  ∀ (pins:List (Addr × Obj)) (s:Shared) (σ:St) (H:Hp) (Q:Bool→Hp→Prop),Inv X pins σ H s→t σ H Q→wpAny (model X.prog X.w) X.A (isTrue e X.env (eval e X.env)) (TP X pins σ Q) X.xe s
def PW (X:Cx) (e:Expr) (t:TT):Prop :=
  ∀ (whole:Sem Value) (pins:List (Addr × Obj)) (s:Shared) (σ:St) (H:Hp) (Q:Bool→Hp→Prop),Inv X pins σ H s→t σ H Q→wpAny (model X.prog X.w) X.A (isTrue e X.env whole) (TP X pins σ Q) X.xe s
theorem PW.pt {X:Cx} {e:Expr} {t:TT} (h:PW X e t):PT X e t:=h _
def PA (X:Cx) (es:List Expr) (t:TA):Prop :=
  ∀ (pos:Pos) (pins:List (Addr × Obj)) (s:Shared) (σ:St) (H:Hp) (Q:List V→Hp→Prop),Inv X pins σ H s→t σ H Q→wpAny (model X.prog X.w) X.A (spliced (backTo pos (starEach es X.env))) (AP X pins σ Q) X.xe s
def PS (X:Cx) (st:Stmt) (t:TS):Prop :=
  ∀ (pins:List (Addr × Obj)) (s:Shared) (σ:St) (H:Hp) (D:Ends),Inv X pins σ H s→t D σ H→wpAny (model X.prog X.w) X.A (exec st X.env) (SP X pins D) X.xe s
def PSs (X:Cx) (st:List Stmt) (t:TS):Prop :=
  ∀ (pins:List (Addr × Obj)) (s:Shared) (σ:St) (H:Hp) (D:Ends),Inv X pins σ H s→t D σ H→wpAny (model X.prog X.w) X.A (execs st X.env) (SP X pins D) X.xe s
theorem thn {α:Type} {t:Sem α} {Q Q':α→Shared→Prop} {M:Model} {A:Around} {E:Value→Shared→Prop} {s:Shared} (h:wpAny M A t Q E s) (hQ:∀ a s,Q a s→Q' a s):wpAny M A t Q' E s:=wpAny_mono h hQ fun _ _ x=>x
end L2
namespace L2
open PySem PySem.Spec PyProof.Rows
section
variable {X:Cx}
def wO (i:Nat):TE:=fun σ H Q=>∃ v,σ[i]?=some (some v)∧Q v H
def tC (v:V):TE:=fun _ H Q=>Q v H
theorem qy {i:Nat} {x:Str} {pos:Pos} (hN:X.N[i]?=some x) (hv:Vis X.env.scope x) (hd:(x == ("__debug__":Str))=false:=by decide) (hcd:(x == ("__classdict__":Str))=false:=by decide):PE X (.Name x pos) (wO i):=by
  intro pins s σ H Q I h
  obtain ⟨v,e,h⟩:=h
  obtain ⟨m,hn,hl⟩:=I.loc
  obtain ⟨u,r,l⟩:=hl i x v hN e hv
  have fin:EP X pins σ Q u s:=⟨v,H,I,r,h⟩
  rcases l with ⟨hk,hm⟩ | ⟨hk,c,hc,hcell⟩
  · exact wpAny_Name (wpAny_loadName_local I.ok.kind hk hn hm fin) hd
  · rcases hk with hk | hk
    · exact wpAny_Name (wpAny_loadName_cell I.ok.kind hk hc hcell fin) hd
    · exact wpAny_Name (wpAny_loadName_free I.ok.kind hk hc hcell fin hcd) hd
theorem ao {i j pos}:PE X (.Constant (.int i) j pos) (tC (.int i)):=fun _ _ _ H _ I h=>wpAny_Constant_int ⟨.int i,H,I.tok _,⟨_,rfl⟩,h⟩
theorem jQ {b j pos}:PE X (.Constant (.bool b) j pos) (tC (.bl b)):=fun _ _ _ H _ I h=>Constant_bool ⟨.bl b,H,I,rfl,h⟩
theorem fj {j pos}:PE X (.Constant .none j pos) (tC .non):=fun _ _ _ H _ I h=>Constant_none ⟨.non,H,I,rfl,h⟩
theorem bY {x j pos}:PE X (.Constant (.str x) j pos) (tC (.str x)):=fun _ _ _ H _ I h=>Calls.Constant_str ⟨.str x,H,I.tok _,⟨_,rfl⟩,h⟩
def Gl (X:Cx) (x:Str):Prop:=X.env.kindOf x=some .globalImplicit
theorem eU {E:Value→Shared→Prop} {pins:List (Addr × Obj)} {s:Shared} {σ:St} {H:Hp} {x:Str} {u:Value} {pos:Pos} {Q:Value→Shared→Prop} (I:Inv X pins σ H s) (hg:Gl X x) (hm:X.mg x=some u) (h:Q u s)
    (hd:(x == ("__debug__":Str))=false:=by decide):wpAny (model X.prog X.w) X.A (eval (.Name x pos) X.env) Q E s :=
  Calls.Name_function_global I.ok.kind hg (Calls.loadGlobal_global (by rw [I.ok.glob];exact I.mod.glob.keeps I.bk) hm h) hd
theorem iK {E:Value→Shared→Prop} {pins:List (Addr × Obj)} {s:Shared} {σ:St} {H:Hp} {x:Str} {u:Value} {pos:Pos} {Q:Value→Shared→Prop} (I:Inv X pins σ H s) (hg:Gl X x) (hm:X.mg x=none) (hv:bootBuiltins x=some u) (h:Q u s)
    (hn:x≠"__name__":=by decide) (hd:(x == ("__debug__":Str))=false:=by decide):wpAny (model X.prog X.w) X.A (eval (.Name x pos) X.env) Q E s:=by
  obtain ⟨mb,h1,h2⟩:=I.mod.blt
  exact Calls.Name_function_global I.ok.kind hg (Calls.loadGlobal_builtin (by rw [I.ok.glob];exact I.mod.glob.keeps I.bk) hm (by rw [I.ok.blt];exact h1.keeps I.bk) ((h2 x hn).trans hv) h) hd
theorem eO {x:Str} {v:V} {u:Value} {pos:Pos} (hg:Gl X x) (hm:X.mg x=some u) (r:RelV v u) (hd:(x == ("__debug__":Str))=false:=by decide):PE X (.Name x pos) (tC v) :=
  fun _ _ _ H _ I h=>eU I hg hm ⟨v,H,I,r,h⟩ hd
theorem fG {x:Str} {v:V} {u:Value} {pos:Pos} (hg:Gl X x) (hm:X.mg x=none) (hv:bootBuiltins x=some u) (r:RelV v u) (hn:x≠"__name__":=by decide) (hd:(x == ("__debug__":Str))=false:=by decide):PE X (.Name x pos) (tC v) :=
  fun _ _ _ H _ I h=>iK I hg hm hv ⟨v,H,I,r,h⟩ hn hd
def t2I (ta tb:TE) (k:Int→Int→Hp→Prop):St→Hp→Prop:=fun σ H=>ta σ H fun x H1=>tb σ H1 fun y H2=>∃ i j,x=.int i∧y=.int j∧k i j H2
variable {a b:Expr} {ta tb:TE} {pos:Pos}
def qb (p:Int→Int→Bool) (ta tb:TE):TE:=fun σ H Q=>t2I ta tb (fun i j H2=>Q (.bl (p i j)) H2) σ H
abbrev tLt:TE→TE→TE:=qb fun i j=>decide (i<j)
abbrev tLe:TE→TE→TE:=qb fun i j=>decide (i≤j)
abbrev tGt:TE→TE→TE:=qb fun i j=>decide (j<i)
abbrev tGe:TE→TE→TE:=qb fun i j=>decide (j≤i)
abbrev tEqI:TE→TE→TE:=qb fun i j=>decide (i=j)
abbrev tNeI:TE→TE→TE:=qb fun i j=>!decide (i=j)
def tB (t:TE):TT:=fun σ H Q=>t σ H fun x H1=>∃ c,x=.bl c∧Q c H1
theorem dX {e:Expr} {t:TE} (h:PE X e t) (he:∀ whole,isTrue e X.env whole=(do let v ← whole;standAt e.pos;holding [v] (truthy v)):=by intro _;rfl):PT X e (tB t):=by
  intro pins s σ H Q I hw
  refine isTrue_plain (thn (h pins s σ H _ I hw) fun v s1 ⟨x,H1,I1,r1,q1⟩=>?_) (he _)
  obtain ⟨d,rfl,q⟩:=q1
  cases r1
  exact wpAny_truthy_bool ⟨H1,I1,q⟩
variable {tA tB':TT} {rest:List Expr}
def tAnd (t u:TT):TT:=fun σ H Q=>t σ H fun c H1=>if c=true then u σ H1 Q else Q false H1
def tOr (t u:TT):TT:=fun σ H Q=>t σ H fun c H1=>if c=true then Q true H1 else u σ H1 Q
def tNot (t:TT):TT:=fun σ H Q=>t σ H fun c H1=>Q (!c) H1
theorem pw_and1 (ha:PT X a tA):PW X (.BoolOp .And [a] pos) tA:=by
  intro wh pins s σ H Q I h
  refine isTrue_and (thn (ha pins s σ H Q I h) fun c s1 e=>?_)
  cases c with
  | true=>exact isTrue_and_nil e
  | false=>exact e
theorem pw_or1 (ha:PT X a tA):PW X (.BoolOp .Or [a] pos) tA:=by
  intro wh pins s σ H Q I h
  refine isTrue_or (thn (ha pins s σ H Q I h) fun c s1 e=>?_)
  cases c with
  | false=>exact isTrue_or_nil e
  | true=>exact e
theorem pw_and (ha:PT X a tA) (hb:PW X (.BoolOp .And (b :: rest) pos) tB'):PW X (.BoolOp .And (a :: b :: rest) pos) (tAnd tA tB'):=by
  intro wh pins s σ H Q I h
  refine isTrue_and (thn (ha pins s σ H _ I h) fun c s1 ⟨H1,I1,q1⟩=>?_)
  cases c with
  | true=>exact hb wh pins s1 σ H1 Q I1 q1
  | false=>exact ⟨H1,I1,q1⟩
theorem pw_or (ha:PT X a tA) (hb:PW X (.BoolOp .Or (b :: rest) pos) tB'):PW X (.BoolOp .Or (a :: b :: rest) pos) (tOr tA tB'):=by
  intro wh pins s σ H Q I h
  refine isTrue_or (thn (ha pins s σ H _ I h) fun c s1 ⟨H1,I1,q1⟩=>?_)
  cases c with
  | true=>exact ⟨H1,I1,q1⟩
  | false=>exact hb wh pins s1 σ H1 Q I1 q1
theorem fV (ha:PT X a tA):PT X (.UnaryOp .Not a pos) (tNot tA):=by
  intro pins s σ H Q I h
  exact isTrue_not (ha pins s σ H (fun c H1=>Q (!c) H1) I h)
def uH (ta tb:TE):TE:=fun σ H Q=>ta σ H fun x H1=>∃ c,x=.bl c∧if c=true then tb σ H1 Q else Q (.bl false) H1
def tOrV (ta tb:TE):TE:=fun σ H Q=>ta σ H fun x H1=>∃ c,x=.bl c∧if c=true then Q (.bl true) H1 else tb σ H1 Q
def uz (ta:TE):TE:=fun σ H Q=>ta σ H fun x H1=>∃ c,x=.bl c∧Q (.bl (!c)) H1
theorem dj {op} {t:TE} (h:PE X a t):PE X (.BoolOp op [a] pos) t:=fun pins s σ H Q I hw=>BoolOp_one (h pins s σ H Q I hw)
theorem cM (ha:PE X a ta) (hb:PE X (.BoolOp .And (b :: rest) pos) tb):PE X (.BoolOp .And (a :: b :: rest) pos) (uH ta tb):=by
  intro pins s σ H Q I h
  refine BoolOp_and (thn (ha pins s σ H _ I h) fun v s1 ⟨x,H1,I1,r1,q1⟩=>?_)
  obtain ⟨c,rfl,q1⟩:=q1
  cases r1
  refine wpAny_truthy_bool ?_
  cases c with
  | true=>exact hb pins s1 σ H1 Q I1 q1
  | false=>exact ⟨.bl false,H1,I1,rfl,q1⟩
theorem uI (ha:PE X a ta) (hb:PE X (.BoolOp .Or (b :: rest) pos) tb):PE X (.BoolOp .Or (a :: b :: rest) pos) (tOrV ta tb):=by
  intro pins s σ H Q I h
  refine BoolOp_or (thn (ha pins s σ H _ I h) fun v s1 ⟨x,H1,I1,r1,q1⟩=>?_)
  obtain ⟨c,rfl,q1⟩:=q1
  cases r1
  refine wpAny_truthy_bool ?_
  cases c with
  | false=>exact hb pins s1 σ H1 Q I1 q1
  | true=>exact ⟨.bl true,H1,I1,rfl,q1⟩
theorem jO (ha:PE X a ta):PE X (.UnaryOp .Not a pos) (uz ta):=by
  intro pins s σ H Q I h
  refine UnaryOp_ (thn (ha pins s σ H _ I h) fun v s1 ⟨x,H1,I1,r1,q1⟩=>?_)
  obtain ⟨c,rfl,q1⟩:=q1
  cases r1
  exact not_of (wpAny_truthy_bool ⟨.bl (!c),H1,I1,rfl,q1⟩)
end
end L2
namespace L2
open PySem PySem.Spec PyProof.Rows
def SqL (K:PySem.W.Frag) (H:Hp) (a:Addr) (xs:List V):Prop :=
  Rd H a (.lst xs) ∨
    ∃ (o:Obj) (its:Array Value) (n:Nat),K.lookup a=some o∧o.cls=.type "list"∧o.dict=none∧o.data=.seq its n∧its.size≤sizeLine∧Vals xs its.toList
def absV:Value→Option V
  | .none=>some .non
  | .bool b=>some (.bl b)
  | .int i _=>some (.int i)
  | .str x _=>some (.str x)
  | .bytes b _=>some (.byt b)
  | .float b _=>some (.flt b)
  | .ref a=>some (.ref a)
  | .type n=>some (.ty n)
  | _=>none
theorem RelV.abs {x:V} {u:Value} (r:RelV x u):absV u=some x:=by
  cases x with
  | non=>cases r;rfl
  | bl _=>cases r;rfl
  | int _=>obtain ⟨t,rfl⟩:=r;rfl
  | str _=>obtain ⟨t,rfl⟩:=r;rfl
  | byt _=>obtain ⟨t,rfl⟩:=r;rfl
  | flt _=>obtain ⟨t,rfl⟩:=r;rfl
  | ref _=>cases r;rfl
  | ty _=>cases r;rfl
theorem RelV.inj {x y:V} {u:Value} (r:RelV x u) (q:RelV y u):x=y:=Option.some.inj (r.abs.symm.trans q.abs)
theorem Vals.inj:∀ {xs ys:List V} {us:List Value},Vals xs us→Vals ys us→xs=ys
  | _,_,_,.nil,.nil=>rfl
  | _,_,_,.cons r t,.cons r' t'=>by rw [r.inj r',Vals.inj t t']
section
variable {X:Cx} {pins:List (Addr × Obj)} {σ:St} {H:Hp} {s:Shared} {a:Addr} {xs ys:List V}
theorem SqL.of {K:PySem.W.Frag} (h:H a=some (.lst xs)):SqL K H a xs:=.inl (.inl h)
theorem Inv.list (I:Inv X pins σ H s) (h:SqL X.K H a xs):∃ its:List Value,Vals xs its∧PlainL s.heap a its.toArray∧xs.length≤sizeLine:=by
  rcases h with h | ⟨o,its,n,hk,hc,hd,hs,hz,r⟩
  · obtain ⟨z,its,n,r,e⟩:=h.ok I.hok
    exact ⟨its,r,⟨_,n,e,rfl,rfl,rfl⟩,z⟩
  · refine ⟨its.toList,r,⟨o,n,I.kIn a o hk,hc,hd,by simpa using hs⟩,?_⟩
    have e:=r.length
    simp only [Array.length_toList] at e
    omega
theorem Inv.lJ (I:Inv X pins σ H s) (h:SqL X.K H a xs) (h':SqL X.K H a ys):xs=ys:=by
  obtain ⟨its,r,⟨o,n,e,_,_,d⟩,_⟩:=I.list h
  obtain ⟨its',r',⟨o',n',e',_,_,d'⟩,_⟩:=I.list h'
  rw [e] at e';cases e'
  rw [d] at d'
  injection d' with d1 _
  have:its=its':=by simpa using congrArg Array.toList d1
  subst this
  exact r.inj r'
end
abbrev Cx.wish (X:Cx) (E:Value→Shared→Prop):Cx:={ X with xe:=E }
abbrev Cx.nox (X:Cx):Cx:=X.wish fun _ _=>False
theorem Cx.Ok.wish {X:Cx} (ok:X.Ok) (E:Value→Shared→Prop):(X.wish E).Ok :=
  ⟨ok.mod,ok.kind,ok.glob,ok.blt,ok.above,ok.inj,ok.has,ok.cab,ok.hd,ok.frames,ok.stk,ok.exf,ok.bs,ok.bsz,ok.noex,ok.exfs,ok.jk,ok.frf⟩
theorem Cx.Ok.dH {X:Cx} {E:Value→Shared→Prop} (ok:(X.wish E).Ok):X.Ok :=
  ⟨ok.mod,ok.kind,ok.glob,ok.blt,ok.above,ok.inj,ok.has,ok.cab,ok.hd,ok.frames,ok.stk,ok.exf,ok.bs,ok.bsz,ok.noex,ok.exfs,ok.jk,ok.frf⟩
section
variable {X:Cx} {pins:List (Addr × Obj)} {σ:St} {H:Hp} {s:Shared} {E:Value→Shared→Prop}
theorem Inv.wish (I:Inv X pins σ H s) (E:Value→Shared→Prop):Inv (X.wish E) pins σ H s:=⟨I.ok.wish E,I.os,I.bare,I.base,I.loc,I.cell,I.free,I.freeC,I.pin,I.hok,I.len⟩
theorem Inv.dH (I:Inv (X.wish E) pins σ H s):Inv X pins σ H s:=⟨I.ok.dH,I.os,I.bare,I.base,I.loc,I.cell,I.free,I.freeC,I.pin,I.hok,I.len⟩
theorem SP.dH {D:Ends} {f:Flow} {s':Shared} (h:SP (X.wish E) pins D f s'):SP X pins D f s':=by
  cases f with
  | next=>obtain ⟨σ',H',I,q⟩:=h;exact ⟨σ',H',I.dH,q⟩
  | brk=>obtain ⟨σ',H',I,q⟩:=h;exact ⟨σ',H',I.dH,q⟩
  | cont=>obtain ⟨σ',H',I,q⟩:=h;exact ⟨σ',H',I.dH,q⟩
  | ret u=>obtain ⟨v,σ',H',I,r,q⟩:=h;exact ⟨v,σ',H',I.dH,r,q⟩
theorem PSs.nox {st:List Stmt} {t:TS} (h:PSs X.nox st t):PSs X st t:=fun pins s σ H D I hw =>
  wpAny_mono (h pins s σ H D (I.wish _) hw) (fun _ _ q=>q.dH) fun _ _ z=>False.elim z
end
section
variable {X:Cx} {st:Stmt} {rest:List Stmt} {t u:TS} {e:Expr} {te:TE} {pos:Pos}
def uD:TS:=fun D σ H=>D.nx σ H
def tSeq (t u:TS):TS:=fun D σ H=>t { D with nx:=u D } σ H
theorem bH:PSs X [] uD:=fun _ _ σ H _ I h=>wpAny_execs_nil ⟨σ,H,I,h⟩
theorem aq (h1:PS X st t) (h2:PSs X rest u):PSs X (st :: rest) (tSeq t u):=by
  intro pins s σ H D I h
  refine wpAny_execs_cons (thn (h1 pins s σ H { D with nx:=u D } I h) fun f s1 q=>?_)
  cases f with
  | next =>
    obtain ⟨σ',H',I',q⟩:=q
    exact h2 pins s1 σ' H' D I' q
  | ret v=>exact q
  | brk=>exact q
  | cont=>exact q
theorem aC (h1:PS X st t):PSs X [st] t:=by
  intro pins s σ H D I h
  refine wpAny_execs_cons (thn (h1 pins s σ H D I h) fun f s1 q=>?_)
  cases f with
  | next=>exact wpAny_execs_nil q
  | ret v=>exact q
  | brk=>exact q
  | cont=>exact q
theorem Inv.quiet {pins:List (Addr × Obj)} {σ:St} {H:Hp} {s:Shared} (I:Inv X pins σ H s):interactive X.env=false:=by simp [interactive,I.ok.kind]
def uE (te:TE):TS:=fun D σ H=>te σ H fun _ H1=>D.nx σ H1
theorem pB (he:PE X e te) (hs:swapsWith e none pos.line X.env=pure false:=by rfl):PS X (.Expr e pos) (uE te):=by
  intro pins s σ H D I h
  exact wpAny_Expr_any (thn (he pins s σ H _ I h) fun v s1 ⟨x,H1,I1,r1,q1⟩=>⟨σ,H1,I1,q1⟩) I.quiet hs
def tRet (te:TE):TS:=fun D σ H=>te σ H D.rt
theorem bx (he:PE X e te):PS X (.Return (some e) pos) (tRet te):=by
  intro pins s σ H D I h
  exact wpAny_Return_some (thn (he pins s σ H _ I h) fun v s1 ⟨x,H1,I1,r1,q1⟩=>⟨x,σ,H1,I1,r1,q1⟩)
def tIfS (c:TT) (t u:TS):TS:=fun D σ H=>c σ H fun b H1=>if b=true then t D σ H1 else u D σ H1
theorem cZ {c:Expr} {a b:List Stmt} {tc:TT} (hc:PT X c tc) (ha:PSs X a t) (hb:PSs X b u):PS X (.If c a b pos) (tIfS tc t u):=by
  intro pins s σ H D I h
  refine wpAny_If (thn (hc pins s σ H _ I h) fun d s1 ⟨H1,I1,q1⟩=>?_)
  cases d with
  | true=>exact ha pins s1 σ H1 D I1 q1
  | false=>exact hb pins s1 σ H1 D I1 q1
end
abbrev TG:=V→St→Hp→(St→Hp→Prop)→Prop
abbrev TGs:=List V→St→Hp→(St→Hp→Prop)→Prop
def PG (X:Cx) (target:Expr) (t:TG):Prop :=
  ∀ (pins:List (Addr × Obj)) (s:Shared) (σ:St) (H:Hp) (v:V) (u:Value) (Q:St→Hp→Prop),Inv X pins σ H s→RelV v u→t v σ H Q →
    wpAny (model X.prog X.w) X.A (assign target X.env u) (fun _ s'=>∃ σ' H',Inv X pins σ' H' s'∧Q σ' H') X.xe s
abbrev TSet:=V→V→V→Hp→(Hp→Prop)→Prop
abbrev TIp:=V→V→Hp→VK→Prop
section
variable {X:Cx} {pos:Pos}
def pN (i:Nat):TG:=fun v σ H Q=>Q (σ.set i (some v)) H
theorem dz {i:Nat} {x:Str} (hN:X.N.Nodup) (hi:X.N[i]?=some x) (hx:Loc X.env.scope x) (hf:X.fn x=true∨X.env.scope.names.lookup x=some .local:=by first | exact .inl rfl | exact .inr rfl | assumption):PG X (.Name x pos) (pN i):=by
  intro pins s σ H v u Q I r h
  exact wpAny_assign_Name (eE I hN hi hx r (fun s' I'=>⟨_,H,I',h⟩) hf)
def tAsg (te:TE) (g:TG):TS:=fun D σ H=>te σ H fun x H1=>g x σ H1 D.nx
theorem bG {i:Nat} {x:Str} {e:Expr} {te:TE} {pos':Pos} (hN:X.N.Nodup) (hi:X.N[i]?=some x) (hx:Loc X.env.scope x) (he:PE X e te) (hs:swapsWith e (some (.Name x pos')) pos.line X.env=pure false:=by rfl) (hf:X.fn x=true∨X.env.scope.names.lookup x=some .local:=by first | exact .inl rfl | exact .inr rfl | assumption) :
    PS X (.Assign [.Name x pos'] e pos) (tAsg te (pN i)):=by
  intro pins s σ H D I h
  refine wpAny_Assign_Name (thn (he pins s σ H _ I h) fun v s1 ⟨y,H1,I1,r1,q1⟩=>?_) hs
  exact eE I1 hN hi hx r1 (fun s2 I2=>⟨_,H1,I2,q1⟩) hf
end
structure It where
  go:Nat→Hp→Prop
  yld:Nat→Hp→V→Hp→Prop
  stop:Nat→Hp→Prop
def oX (X:Cx) (pins:List (Addr × Obj)) (H:Hp) (b:Addr):Prop :=
  H b=none∧b≠X.env.locals∧b ∉ X.fs∧(b∈X.ex∨X.s₀.heap.objs.size≤b)∧(∀ x c,X.env.cells.lookup x=some c→c≠b)∧∀ p∈X.pn++pins,p.1≠b
theorem Inv.wI {X:Cx} {pins:List (Addr × Obj)} {σ:St} {H H':Hp} {s:Shared} {b:Addr} (I:Inv X pins σ H s) (hb:s.heap.objs.size≤b) (hn:H' b=none):oX X pins H' b:=by
  refine ⟨hn,Nat.ne_of_gt (Nat.lt_of_lt_of_le I.lt hb),I.nofs hb,.inr (Nat.le_trans I.sz hb),fun x c e z=>?_,fun p hp z=>?_⟩
  · obtain ⟨v,q⟩:=I.cell x c e
    exact absurd (Nat.lt_of_lt_of_le q.lt (by rw [z];exact hb)) (Nat.lt_irrefl _)
  · exact absurd (Nat.lt_of_lt_of_le (Heap.lt_size (I.pin p hp).1) (by rw [z];exact hb)) (Nat.lt_irrefl _)
structure Turn (P:Program) (w:World) (K:PySem.W.Frag) (tg:Expr) (J:It) (fp:List Addr) (it:Addr) (tn:Nat→Heap→Prop):Prop where
  mem:it∈fp
  obj:∀ i h,tn i h→∀ b∈fp,∃ o,h.get? b=some o∧∀ v,o.data≠.cell v
  keep:∀ i h h',tn i h→(∀ b∈fp,∀ o,h.get? b=some o→h'.get? b=some o)→tn i h'
  item:∀ (X:Cx),X.prog=P→X.w=w→X.K=K→X.calm=true→∀ (i:Nat) (pins:List (Addr × Obj)) (s:Shared) (σ:St) (H:Hp) (E:Value→Shared→Prop),Inv X pins σ H s→(∀ b∈fp,oX X pins H b)→tn i s.heap→J.go i H →
    wpAny (model P w) X.A (pyNext (.ref it)) (fun r s1=>∃ u,r=some u ∧
      wpAny (model P w) X.A (letOwnedTupleGo tg (.ref it) u) (fun _ s2=>∃ x H',Inv X pins σ H' s2∧RelV x u∧J.yld i H x H'∧tn (i + 1) s2.heap∧∀ b∈fp,H' b=none) E s1) E s
  done:∀ (X:Cx),X.prog=P→X.w=w→X.K=K→X.calm=true→∀ (i:Nat) (pins:List (Addr × Obj)) (s:Shared) (σ:St) (H:Hp) (E:Value→Shared→Prop),Inv X pins σ H s→(∀ b∈fp,oX X pins H b)→tn i s.heap→J.stop i H →
    wpAny (model P w) X.A (pyNext (.ref it)) (fun r s1=>r=none∧Inv X pins σ H s1) E s
  self:∀ (A:Around) (i:Nat) (s:Shared) (Q:Value→Shared→Prop) (E:Value→Shared→Prop),tn i s.heap→Q (.ref it) s→wpAny (model P w) A (pyIter (.ref it)) Q E s
abbrev TI:=St→Hp→(It→Hp→Prop)→Prop
def PIE (X:Cx) (pins:List (Addr × Obj)) (σ:St) (tg:Expr) (R:It→Hp→Prop) (itv:Value) (s2:Shared):Prop :=
  ∃ (it:Addr) (fp:List Addr) (tn:Nat→Heap→Prop) (J:It) (H':Hp),itv=.ref it∧Inv X pins σ H' s2∧Turn X.prog X.w X.K tg J fp it tn∧tn 0 s2.heap∧(∀ b∈fp,oX X pins H' b)∧R J H'
def PI (X:Cx) (tg iter:Expr) (wi:TI):Prop :=
  ∀ (pins:List (Addr × Obj)) (s:Shared) (σ:St) (H:Hp) (R:It→Hp→Prop),Inv X pins σ H s→wi σ H R →
    wpAny (model X.prog X.w) X.A (eval iter X.env) (fun v s1=>wpAny (model X.prog X.w) X.A (pyIter v) (PIE X pins σ tg R) X.xe s1) X.xe s
theorem pL {M:Model} {A:Around} {E:Value→Shared→Prop} {s:Shared} {tg:Expr} {it:Addr} {u:Value} {o:Obj} {n:String} {vs:Array Value} {Q:Unit→Shared→Prop} (ho:s.heap.get? it=some o) (hc:o.cls=.type n) (hd:o.data=.fields vs)
    (hn:["enumerate","zip","dict_itemiterator","dict_reverseitemiterator","odict_iterator","itertools.zip_longest","itertools.pairwise"].contains n=false) (hQ:Q () s):wpAny M A (letOwnedTupleGo tg (.ref it) u) Q E s:=by
  unfold letOwnedTupleGo
  cases tg <;> first
    | exact wpAny_pure hQ
    | (cases u <;> first
        | exact wpAny_pure hQ
        | (refine wpAny_bind (wpAny_load ho ?_)
           rw [hc,hd]
           show wpAny M A (if (["enumerate","zip","dict_itemiterator","dict_reverseitemiterator","odict_iterator","itertools.zip_longest","itertools.pairwise"].contains n && vs[0]? == some (rawInt _))=true then _ else _) Q E s
           rw [if_neg (by intro h;rw [hn,Bool.false_and] at h;cases h)]
           exact wpAny_pure hQ))
def Itl (K:PySem.W.Frag) (a:Addr):It :=
  ⟨fun i H=>∃ xs x,SqL K H a xs∧xs[i]?=some x,fun i H x H'=>H'=H∧∀ xs,SqL K H a xs→xs[i]?=some x,fun i H=>∃ xs,SqL K H a xs∧xs.length≤i⟩
def Itr (lo:Int) (n:Nat):It:=⟨fun i _=>i<n,fun i H x H'=>H'=H∧x=.int (lo + i),fun i _=>n≤i⟩
theorem jw {P:Program} {w:World} {K:PySem.W.Frag} {tg:Expr} (a it:Addr):Turn P w K tg (Itl K a) [it] it (fun i h=>h.IsListIter it a i) where
  mem:=by simp
  obj:=fun i h st b hb=>by
    have e:b=it:=by simpa using hb
    subst e
    obtain ⟨o,e,c,d⟩:=st
    exact ⟨o,e,fun v z=>by rw [d] at z;cases z⟩
  keep:=fun i h h' st k=>st.at fun o e=>k it (by simp) o e
  item:=by
    intro X hP hw hK hc i pins s σ H E I hf st hg
    subst hP hw hK
    obtain ⟨xs,x,hq,hx⟩:=hg
    obtain ⟨its,rv,p,hz⟩:=I.list hq
    obtain ⟨u,hu,ru⟩:=rv.get hx
    obtain ⟨f0,f1,f2,f3,f4,f5⟩:=hf it (by simp)
    refine wpAny_pyNext_list_item st p.isList (x:=u) (by simpa using hu) fun h' st' sb=>?_
    have I1:Inv X pins σ H { s with heap:=h' }:=I.turned (t':=s.toks) (fun b o hb e=>(sb.2 b hb).trans e) f0 f1 f3 f4 f5
    obtain ⟨o,e,c,d⟩:=id st'
    exact ⟨u,rfl,pL (s:={ s with heap:=h' }) e c d (by decide) ⟨x,H,I1,ru,⟨rfl,fun ys hy=>by rw [I.lJ hy hq];exact hx⟩,st',fun b hb=>(hf b hb).1⟩⟩
  done:=by
    intro X hP hw hK hc i pins s σ H E I hf st hg
    subst hP hw hK
    obtain ⟨xs,hq,hx⟩:=hg
    obtain ⟨its,rv,p,hz⟩:=I.list hq
    obtain ⟨f0,f1,f2,f3,f4,f5⟩:=hf it (by simp)
    have hl:=rv.length
    exact wpAny_pyNext_list_end (I.ok.hd hc) st p.isList (by simp;omega) fun h' eb=>⟨rfl,I.turned (t':=s.toks) (fun b o hb e=>eb b o hb e) f0 f1 f3 f4 f5⟩
  self:=fun _ _ _ _ _ st h=>wpAny_pyIter_listiter st h
theorem jf {P:Program} {w:World} {K:PySem.W.Frag} {tg:Expr} (it:Addr) (lo:Int) (n:Nat):Turn P w K tg (Itr lo n) [it] it (fun i h=>IsRangeIter h it (lo + (i:Nat) * 1) ((n:Int) - (i:Nat)) 1) where
  mem:=by simp
  obj:=fun i h st b hb=>by
    have e:b=it:=by simpa using hb
    subst e
    exact ⟨_,st,fun v z=>by
      have z':Data.fields _=Data.cell v:=z
      cases z'⟩
  keep:=fun i h h' st k=>k it (by simp) _ st
  item:=by
    intro X hP hw hK hc i pins s σ H E I hf st hg
    subst hP hw hK
    obtain ⟨f0,f1,f2,f3,f4,f5⟩:=hf it (by simp)
    have W:=Walks.range (prog:=X.prog) (w:=X.w) (I.ok.hd hc) it lo 1 n
    refine W.item i s _ _ hg st fun v h' tk hv st' kk=>?_
    obtain ⟨t,rfl⟩:=hv
    have I1:Inv X pins σ H { s with heap:=h',toks:=tk }:=I.turned (fun b o hb e=>kk b o (by simpa using hb) e) f0 f1 f3 f4 f5
    refine ⟨_,rfl,pL (s:={ s with heap:=h',toks:=tk }) (n:="range_iterator") st' rfl rfl (by decide) ⟨.int (lo + i),H,I1,⟨t,?_⟩,⟨rfl,rfl⟩,st',fun b hb=>(hf b hb).1⟩⟩
    rw [Int.mul_one]
  done:=by
    intro X hP hw hK hc i pins s σ H E I hf st hg
    subst hP hw hK
    obtain ⟨f0,f1,f2,f3,f4,f5⟩:=hf it (by simp)
    exact wpAny_pyNext_range_end (I.ok.hd hc) st (by have:n≤i:=hg;omega) fun h' eb=>⟨rfl,I.turned (t':=s.toks) (fun b o hb e=>eb b o hb e) f0 f1 f3 f4 f5⟩
  self:=fun _ _ _ _ _ st h=>wpAny_pyIter_rangeiter st h
end L2
namespace L2
open PySem PySem.Spec PyProof.Rows
section
variable {X:Cx} {tg:Expr}
def uO (K:PySem.W.Frag) (tl:TE):TI:=fun σ H R=>tl σ H fun x H1=>∃ a,x=.ref a∧(∃ xs,SqL K H1 a xs)∧R (Itl K a) H1
theorem jN {l:Expr} {tl:TE} (hl:PE X l tl):PI X tg l (uO X.K tl):=by
  intro pins s σ H R I h
  refine thn (hl pins s σ H _ I h) fun v s1 ⟨x,H1,I1,r1,q1⟩=>?_
  obtain ⟨a,e,⟨xs,hq⟩,q⟩:=q1
  subst e
  cases r1
  obtain ⟨its,rv,p,hz⟩:=I1.list hq
  refine wpAny_pyIter_list p.isList ?_
  refine ⟨s1.heap.objs.size,[s1.heap.objs.size],_,_,H1,rfl,I1.kept (t':=s1.toks) fun b o e=>Heap.get?_push_of_some _ e,jw a _,⟨_,Heap.get?_push_size _ rfl,rfl,rfl⟩,fun b hb=>?_,q⟩
  have e:b=s1.heap.objs.size:=by simpa using hb
  subst e
  exact I1.wI (Nat.le_refl _) (I1.hok.fresh (Nat.le_refl _))
theorem lG {pins:List (Addr × Obj)} {σ:St} {H:Hp} {s:Shared} {R:It→Hp→Prop} {E:Value→Shared→Prop} {lo hi:Int} {t u v:Tok} {tk:Nat} (I:Inv X pins σ H s) (h1:-(2 ^ 62)≤lo) (h2:lo<2 ^ 62) (h3:-(2 ^ 62)≤hi) (h4:hi<2 ^ 62)
    (q:R (Itr lo (hi - lo).toNat) H):wpAny (model X.prog X.w) X.A (pyIter (.ref s.heap.objs.size)) (PIE X pins σ tg R) E { s with heap:=s.heap.push { cls:=.type "range",data:=.fields #[.int lo t,.int hi u,.int 1 v] },toks:=tk }:=by
  refine wpAny_pyIter_range (IsRange.new ..) (small_one h1 h2 h3 h4) ?_
  have I1:Inv X pins σ H { s with heap:=s.heap.push { cls:=.type "range",data:=.fields #[.int lo t,.int hi u,.int 1 v] },toks:=tk }:=I.kept fun b o e=>Heap.get?_push_of_some _ e
  refine ⟨(s.heap.push { cls:=.type "range",data:=.fields #[.int lo t,.int hi u,.int 1 v] }).objs.size,[(s.heap.push { cls:=.type "range",data:=.fields #[.int lo t,.int hi u,.int 1 v] }).objs.size],_,_,H,rfl,
    I1.kept (t':=tk) fun b o e=>Heap.get?_push_of_some _ e,jf _ lo (hi - lo).toNat,?_,fun b hb=>?_,q⟩
  · have e1:lo + ((0:Nat):Int) * 1=lo:=by simp
    have e2:(((hi - lo).toNat:Nat):Int) - ((0:Nat):Int)=Builtin.Range.rangeSize lo hi 1:=by rw [rangeSize_one];split <;> omega
    show IsRangeIter _ _ (lo + ((0:Nat):Int) * 1) ((((hi - lo).toNat:Nat):Int) - ((0:Nat):Int)) 1
    rw [e1,e2]
    exact Heap.get?_push_size _ rfl
  · have e:b=(s.heap.push { cls:=.type "range",data:=.fields #[.int lo t,.int hi u,.int 1 v] }).objs.size:=by simpa using hb
    subst e
    exact I1.wI (Nat.le_refl _) (I1.hok.fresh (Nat.le_refl _))
def uN (ta:TA):TI:=fun σ H R=>ta σ H fun vs H1=>∃ j:Int,vs=[.int j]∧-(2 ^ 62)≤j∧j<2 ^ 62∧R (Itr 0 j.toNat) H1
theorem fX {a:Expr} {ta:TA} {p pos:Pos} (hg:Gl X "range") (hm:X.mg "range"=none) (ha:PA X [a] ta) (hs:starEach [a] X.env=[(false,eval a X.env)]:=by rfl):PI X tg (.Call (.Name "range" p) [a] [] pos) (uN ta):=by
  intro pins s σ H R I h
  refine Call_ (iK I hg hm boot_range (PyProof.Rows.callWith_type1 (thn (ha pos pins s σ H _ I h) fun us s1 ⟨vs,H1,I1,r1,q1⟩=>?_) hs rfl))
  obtain ⟨j,e,q1,q2,q⟩:=q1
  subst e
  cases r1 with
  | cons r rr =>
    cases rr
    obtain ⟨t,rfl⟩:=r
    exact call_range_1 (lG I1 (by omega) (by omega) q1 q2 (by simpa using q))
def tFor (wi:TI) (g:TG) (tb:TS):TS:=fun D σ H=>wi σ H fun J H1=>∃ W:Nat→Nat→St→Hp→Prop,(∃ m,W 0 m σ H1)∧∀ i m σ H,W i m σ H →
  (J.stop i H∧D.nx σ H)∨(J.go i H∧∃ N:St→Hp→Prop,(∀ σ' H',N σ' H'→∃ m',m'<m∧W (i + 1) m' σ' H')∧∀ x H',J.yld i H x H'→g x σ H' fun σ2 H2=>tb { D with nx:=N,ct:=N,bk:=D.nx } σ2 H2)
def fW (fp:List Addr) (h:Heap):List (Addr × Obj):=fp.filterMap fun b=>(h.get? b).map fun o=>(b,o)
theorem cY {fp:List Addr} {h:Heap} {b:Addr} {o:Obj} (hb:b∈fp) (e:h.get? b=some o):(b,o)∈fW fp h:=List.mem_filterMap.mpr ⟨b,hb,by rw [e];rfl⟩
theorem jV {fp:List Addr} {h:Heap} {p:Addr × Obj} (hp:p∈fW fp h):p.1∈fp∧h.get? p.1=some p.2:=by
  obtain ⟨b,hb,e⟩:=List.mem_filterMap.mp hp
  cases q:h.get? b with
  | none=>rw [q] at e;cases e
  | some o =>
    rw [q] at e
    have e':(b,o)=p:=Option.some.inj e
    subst e'
    exact ⟨hb,q⟩
theorem Inv.pinned {pins:List (Addr × Obj)} {σ:St} {H:Hp} {s:Shared} {fp:List Addr} (I:Inv X pins σ H s) (hf:∀ b∈fp,oX X pins H b) (ho:∀ b∈fp,∃ o,s.heap.get? b=some o∧∀ v,o.data≠.cell v):Inv X (pins++fW fp s.heap) σ H s :=
  I.jL fun p hp=>(List.mem_append.mp hp).elim (fun z=>I.pin p (List.mem_append_right _ z)) fun z=>by
    obtain ⟨hb,e⟩:=jV z
    obtain ⟨f0,f1,f2,_⟩:=hf p.1 hb
    obtain ⟨o,e',d⟩:=ho p.1 hb
    rw [e] at e';cases e'
    exact ⟨e,f0,f1,f2,d⟩
theorem Inv.d9 {pins pl:List (Addr × Obj)} {σ:St} {H:Hp} {s:Shared} (I:Inv X (pins++pl) σ H s):Inv X pins σ H s:=I.jL fun p hp=>I.pin p (List.mem_append_right _ (List.mem_append_left _ hp))
theorem iD {iter:Expr} {body:List Stmt} {wi:TI} {g:TG} {tb:TS} {pos:Pos} (hp:PassesOwn (model X.prog X.w) X.A X.env X.xe) (hc:X.calm=true) (hi:PI X tg iter wi) (hg:PG X tg g) (hb:PSs X body tb)
    (hs:∀ x,foldedSetIterable iter X.env x=pure x:=by intro _;rfl):PS X (.For tg iter body [] pos) (tFor wi g tb):=by
  intro pins s σ H D I h
  refine wpAny_For (thn (hi pins s σ H _ I h) fun v s1 h1=>thn h1 fun itv s2 h2=>?_) hs
  obtain ⟨it,fp,tn,J,H2,e,I2,T,st2,f2,W,⟨m0,w0⟩,turn⟩:=h2
  subst e
  have stat:∀ {H':Hp},(∀ b∈fp,H' b=none)→∀ b∈fp,oX X pins H' b:=fun hn b hb=>⟨hn b hb,(f2 b hb).2⟩
  refine codeAny_forLoop_any (fun n s'=>∃ i σ' H',Inv X pins σ' H' s'∧tn i s'.heap∧(∀ b∈fp,H' b=none)∧W i n σ' H') ?_ m0 ⟨0,σ,H2,I2,st2,fun b hb=>(f2 b hb).1,w0⟩
  rintro n s3 ⟨i,σ3,H3,I3,st3,fr3,w3⟩
  rcases turn i n σ3 H3 w3 with ⟨stop,qn⟩ | ⟨go,N,hN,step⟩
  · refine wpAny_passesOwn hp (thn (T.done X rfl rfl rfl hc i pins s3 σ3 H3 X.xe I3 (stat fr3) st3 stop) fun r s4 ⟨hr,I4⟩=>?_)
    subst hr
    exact wpAny_execs_nil ⟨σ3,H3,I4,qn⟩
  · refine wpAny_passesOwn hp (thn (T.item X rfl rfl rfl hc i pins s3 σ3 H3 X.xe I3 (stat fr3) st3 go) fun r s4 ⟨u,hr,h4⟩=>?_)
    subst hr
    refine wpAny_passesOwn hp (thn h4 fun _ s5 ⟨x,H5,I5,r5,y5,st5,fr5⟩=>?_)
    have I5':=I5.pinned (stat fr5) (T.obj _ _ st5)
    refine wpAny_passesOwn hp (thn (hg _ s5 σ3 H5 x u _ I5' r5 (step x H5 y5)) fun _ s6 ⟨σ6,H6,I6,q6⟩=>?_)
    refine wpAny_passesOwn hp (thn (hb _ s6 σ6 H6 _ I6 q6) fun f s7 q7=>?_)
    have again:∀ {σ7:St} {H7:Hp},Inv X (pins++fW fp s5.heap) σ7 H7 s7→N σ7 H7→∃ m,m<n∧∃ i σ' H',Inv X pins σ' H' s7∧tn i s7.heap∧(∀ b∈fp,H' b=none)∧W i m σ' H':=fun {σ7 H7} I7 n7=>by
      obtain ⟨m',hm,w7⟩:=hN σ7 H7 n7
      refine ⟨m',hm,i + 1,σ7,H7,I7.d9,T.keep _ _ _ st5 fun b hb o e=>(I7.pin (b,o) (List.mem_append_right _ (List.mem_append_right _ (cY hb e)))).1,fun b hb=>?_,w7⟩
      obtain ⟨o,e,d⟩:=T.obj _ _ st5 b hb
      exact (I7.pin (b,o) (List.mem_append_right _ (List.mem_append_right _ (cY hb e)))).2.1
    cases f with
    | next=>obtain ⟨σ7,H7,I7,n7⟩:=q7;exact again I7 n7
    | cont=>obtain ⟨σ7,H7,I7,n7⟩:=q7;exact again I7 n7
    | brk=>obtain ⟨σ7,H7,I7,q7⟩:=q7;exact ⟨σ7,H7,I7.d9,q7⟩
    | ret v=>obtain ⟨x7,σ7,H7,I7,r7,q7⟩:=q7;exact ⟨x7,σ7,H7,I7.d9,r7,q7⟩
end
theorem lR {K:PySem.W.Frag} {a:Addr} {xs:List V} {g:TG} {tb:TS} {D:Ends} {σ:St} {H:Hp} (Pv:Nat→St→Hp→Prop) (h0:Pv 0 σ H) (hl:∀ i σ H,i≤xs.length→Pv i σ H→SqL K H a xs)
    (hs:∀ i x σ H,xs[i]?=some x→Pv i σ H→g x σ H fun σ2 H2=>tb { D with nx:=Pv (i + 1),ct:=Pv (i + 1),bk:=D.nx } σ2 H2) (hd:∀ σ H,Pv xs.length σ H→D.nx σ H) :
    ∃ W:Nat→Nat→St→Hp→Prop,(∃ m,W 0 m σ H)∧∀ i m σ H,W i m σ H →
      ((Itl K a).stop i H∧D.nx σ H)∨((Itl K a).go i H∧∃ N:St→Hp→Prop,(∀ σ' H',N σ' H'→∃ m',m'<m∧W (i + 1) m' σ' H')∧∀ x H',(Itl K a).yld i H x H'→g x σ H' fun σ2 H2=>tb { D with nx:=N,ct:=N,bk:=D.nx } σ2 H2):=by
  refine ⟨fun i m σ H=>m=xs.length - i∧i≤xs.length∧Pv i σ H,⟨xs.length,by simp,Nat.zero_le _,h0⟩,?_⟩
  rintro i m σ H ⟨rfl,hi,p⟩
  have q:=hl i σ H hi p
  by_cases hlt:i<xs.length
  · refine .inr ⟨⟨xs,xs[i],q,by simp [hlt]⟩,Pv (i + 1),fun σ' H' p'=>⟨xs.length - (i + 1),by omega,rfl,hlt,p'⟩,fun x H' y=>?_⟩
    obtain ⟨e,y⟩:=y
    subst e
    exact hs i x σ _ (y xs q) p
  · have e:i=xs.length:=by omega
    subst e
    exact .inl ⟨⟨xs,q,Nat.le_refl _⟩,hd σ H p⟩
theorem gq {lo:Int} {n:Nat} {g:TG} {tb:TS} {D:Ends} {σ:St} {H:Hp} (Pv:Nat→St→Hp→Prop) (h0:Pv 0 σ H)
    (hs:∀ i σ H,i<n→Pv i σ H→g (.int (lo + i)) σ H fun σ2 H2=>tb { D with nx:=Pv (i + 1),ct:=Pv (i + 1),bk:=D.nx } σ2 H2) (hd:∀ σ H,Pv n σ H→D.nx σ H) :
    ∃ W:Nat→Nat→St→Hp→Prop,(∃ m,W 0 m σ H)∧∀ i m σ H,W i m σ H →
      ((Itr lo n).stop i H∧D.nx σ H)∨((Itr lo n).go i H∧∃ N:St→Hp→Prop,(∀ σ' H',N σ' H'→∃ m',m'<m∧W (i + 1) m' σ' H')∧∀ x H',(Itr lo n).yld i H x H'→g x σ H' fun σ2 H2=>tb { D with nx:=N,ct:=N,bk:=D.nx } σ2 H2):=by
  refine ⟨fun i m σ H=>m=n - i∧i≤n∧Pv i σ H,⟨n,by simp,Nat.zero_le _,h0⟩,?_⟩
  rintro i m σ H ⟨rfl,hi,p⟩
  by_cases hlt:i<n
  · refine .inr ⟨hlt,Pv (i + 1),fun σ' H' p'=>⟨n - (i + 1),by omega,rfl,hlt,p'⟩,fun x H' y=>?_⟩
    obtain ⟨e,y⟩:=y
    subst e y
    exact hs i σ _ hlt p
  · have e:i=n:=by omega
    subst e
    exact .inl ⟨Nat.le_refl _,hd σ H p⟩
end L2
namespace L2
open PySem PySem.Spec PyProof.Rows
abbrev R2:=V→V→Hp→VK→Prop
def OpR (X:Cx) (f:Value→Value→Sem Value) (r:R2):Prop :=
  ∀ (pins:List (Addr × Obj)) (s:Shared) (σ:St) (H:Hp) (x y:V) (v u:Value) (Q:VK),Inv X pins σ H s→RelV x v→RelV y u→r x y H Q →
    wpAny (model X.prog X.w) X.A (f v u) (EP X pins σ Q) X.xe s
def gK (X:Cx) (f:Value) (r:List V→Hp→VK→Prop):Prop :=
  ∀ (pins:List (Addr × Obj)) (s:Shared) (σ:St) (H:Hp) (xs:List V) (us:List Value) (Q:VK),Inv X pins σ H s→Vals xs us→r xs H Q →
    wpAny (model X.prog X.w) X.A (call f us) (EP X pins σ Q) X.xe s
def tOp (r:R2) (ta tb:TE):TE:=fun σ H Q=>ta σ H fun x H1=>tb σ H1 fun y H2=>r x y H2 Q
def rI (C:Int→Int→Prop) (g:Int→Int→V):R2:=fun x y H Q=>∃ i j,x=.int i∧y=.int j∧C i j∧Q (g i j) H
def rI0 (g:Int→Int→V):R2:=fun x y H Q=>∃ i j,x=.int i∧y=.int j∧Q (g i j) H
section
variable {X:Cx} {a b c:Expr} {ta tb tc:TE} {pos:Pos}
theorem uh (ha:PE X a ta) (hb:PE X b tb) {pins:List (Addr × Obj)} {s:Shared} {σ:St} {H:Hp} {R:V→V→Hp→Prop} (I:Inv X pins σ H s)
    (h:ta σ H fun x H1=>tb σ H1 fun y H2=>R x y H2) {Q:Value→Shared→Prop} {f:Value→Value→Sem Value}
    (hf:∀ v u s2 x y H2,Inv X pins σ H2 s2→RelV x v→RelV y u→R x y H2→wpAny (model X.prog X.w) X.A (f v u) Q X.xe s2) :
    wpAny (model X.prog X.w) X.A (eval a X.env) (fun v s₁=>wpAny (model X.prog X.w) X.A (eval b X.env) (fun u s₂=>wpAny (model X.prog X.w) X.A (f v u) Q X.xe s₂) X.xe s₁) X.xe s:=by
  refine thn (ha pins s σ H _ I h) fun v s1 ⟨x,H1,I1,r1,q1⟩=>?_
  refine thn (hb pins s1 σ H1 _ I1 q1) fun u s2 ⟨y,H2,I2,r2,q2⟩=>?_
  exact hf v u s2 x y H2 I2 r1 r2 q2
theorem aO {op:Operator} {r:R2} (ho:OpR X (binaryOp op) r) (ha:PE X a ta) (hb:PE X b tb):PE X (.BinOp a op b pos) (tOp r ta tb):=by
  intro pins s σ H Q I h
  exact wpAny_BinOp (uh ha hb I h fun v u s2 x y H2 I2 rx ry q=>ho pins s2 σ H2 x y v u Q I2 rx ry q)
theorem opI {f:Value→Value→Sem Value} {C:Int→Int→Prop} {g:Int→Int→Int}
    (rule:∀ (i j:Int) (t u:Tok) (s:Shared) (Q:Value→Shared→Prop) (E:Value→Shared→Prop),C i j→Q (.int (g i j) s.toks) { s with toks:=s.toks + 1 }→wpAny (model X.prog X.w) X.A (f (.int i t) (.int j u)) Q E s) :
    OpR X f (rI C fun i j=>.int (g i j)):=by
  intro pins s σ H x y v u Q I rx ry h
  obtain ⟨i,j,rfl,rfl,hc,q⟩:=h
  obtain ⟨t,rfl⟩:=rx
  obtain ⟨t',rfl⟩:=ry
  exact rule i j t t' s _ _ hc ⟨.int (g i j),H,I.tok _,⟨_,rfl⟩,q⟩
theorem wR {f:Value→Value→Sem Value} {g:Int→Int→Int}
    (rule:∀ (i j:Int) (t u:Tok) (s:Shared) (Q:Value→Shared→Prop) (E:Value→Shared→Prop),Q (.int (g i j) s.toks) { s with toks:=s.toks + 1 }→wpAny (model X.prog X.w) X.A (f (.int i t) (.int j u)) Q E s) :
    OpR X f (rI0 fun i j=>.int (g i j)):=by
  intro pins s σ H x y v u Q I rx ry h
  obtain ⟨i,j,rfl,rfl,q⟩:=h
  obtain ⟨t,rfl⟩:=rx
  obtain ⟨t',rfl⟩:=ry
  exact rule i j t t' s _ _ ⟨.int (g i j),H,I.tok _,⟨_,rfl⟩,q⟩
theorem wU {f:Value→Value→Sem Value} {g:Int→Int→Bool}
    (rule:∀ (i j:Int) (t u:Tok) (s:Shared) (Q:Value→Shared→Prop) (E:Value→Shared→Prop),Q (.bool (g i j)) s→wpAny (model X.prog X.w) X.A (f (.int i t) (.int j u)) Q E s) :
    OpR X f (rI0 fun i j=>.bl (g i j)):=by
  intro pins s σ H x y v u Q I rx ry h
  obtain ⟨i,j,rfl,rfl,q⟩:=h
  obtain ⟨t,rfl⟩:=rx
  obtain ⟨t',rfl⟩:=ry
  exact rule i j t t' s _ _ ⟨.bl (g i j),H,I,rfl,q⟩
def CDiv (i j:Int):Prop:=0<j∧j<1073741824
def CPow (i j:Int):Prop:=0≤j∧j≤1000000∧i.natAbs<2 ^ 64
def wM (i j:Int):Prop:=(-(2 ^ 64)<i∧i<2 ^ 64)∨(-(2 ^ 64)<j∧j<2 ^ 64)
theorem wM.ok {i j:Int} (h:wM i j):IntMulOk i j:=by
  rcases h with ⟨h1,h2⟩ | ⟨h1,h2⟩
  · exact .of_left (intBits_le_64 h1 h2)
  · exact .of_right (intBits_le_64 h1 h2)
theorem dZ:OpR X (binaryOp .Add) (rI0 fun i j=>.int (i + j)):=wR fun _ _ _ _ _ _ _ q=>add_int q
theorem jR:OpR X (binaryOp .Sub) (rI0 fun i j=>.int (i - j)):=wR fun _ _ _ _ _ _ _ q=>sub_int q
theorem iG:OpR X (binaryOp .Mult) (rI wM fun i j=>.int (i * j)):=opI fun _ _ _ _ _ _ _ hc q=>mul_int q hc.ok
theorem jU:OpR X (binaryOp .FloorDiv) (rI CDiv fun i j=>.int (i / j)):=opI fun i j _ _ _ _ _ hc q=>by
  have h1:(0:Int)<j:=hc.1
  have h2:j<1073741824:=hc.2
  exact floordiv_int (by omega) (by rw [Int.fdiv_eq_ediv_of_nonneg i (by omega)];exact q) (.inl (PyProof.noPylong_small (by omega)))
theorem cu:OpR X (binaryOp .Mod) (rI (fun _ j=>0<j) fun i j=>.int (i % j)):=opI fun i j _ _ _ _ _ hc q=>by
  have h1:(0:Int)<j:=hc
  exact mod_int' (by omega) (by rw [Int.fmod_eq_emod_of_nonneg i (by omega)];exact q)
theorem dY:OpR X (binaryOp .Pow) (rI CPow fun i j=>.int (i ^ j.toNat)):=opI fun _ _ _ _ _ _ _ hc q=>pow_int_small hc.1 hc.2.1 hc.2.2 q
end
def wQ:V→V→Bool
  | .non,.non=>true | .non,.int _=>true | .int _,.non=>true | .non,.bl _=>true | .bl _,.non=>true | .non,.str _=>true | .str _,.non=>true
  | .int _,.int _=>true | .bl _,.bl _=>true | .str _,.str _=>true | .byt _,.byt _=>true
  | .int _,.str _=>true | .str _,.int _=>true | .bl _,.str _=>true | .str _,.bl _=>true
  | _,_=>false
def rEq:R2:=fun x y H Q=>wQ x y=true∧Q (.bl (decide (x=y))) H
def rNe:R2:=fun x y H Q=>wQ x y=true∧Q (.bl (!decide (x=y))) H
theorem j7 {i j:Int}:decide (V.int i=V.int j)=(i == j):=by
  rw [Bool.eq_iff_iff]
  simp
theorem oU {i j:Bool}:decide (V.bl i=V.bl j)=(i == j):=by
  rw [Bool.eq_iff_iff]
  simp
theorem j6 {i j:Str}:decide (V.str i=V.str j)=(i == j):=by
  rw [Bool.eq_iff_iff]
  simp
theorem j8 {i j:Array UInt8}:decide (V.byt i=V.byt j)=(i.toList == j.toList):=by
  rw [Bool.eq_iff_iff]
  cases i
  cases j
  simp
section
variable {X:Cx} {a b c:Expr} {ta tb tc:TE} {pos:Pos}
theorem aP {pins:List (Addr × Obj)} {σ:St} {H:Hp} {s:Shared} {Q:VK} {k k':Bool} (I:Inv X pins σ H s) (q:Q (.bl k) H) (e:k=k'):EP X pins σ Q (.bool k') s:=by
  subst e
  exact ⟨.bl k,H,I,rfl,q⟩
theorem d8:OpR X (compareOp .Eq) rEq:=by
  intro pins s σ H x y v u Q I rx ry h
  obtain ⟨hs,q⟩:=h
  cases x with
  | non =>
    cases rx
    cases y with
    | non=>cases ry;exact PySem.EqNone.eq_none_none (aP I q (by simp))
    | bl j=>cases ry;exact PySem.EqNone.eq_none_bool (aP I q (by simp))
    | int j=>obtain ⟨t',rfl⟩:=ry;exact PySem.EqNone.eq_none_int (aP I q (by simp))
    | str j=>obtain ⟨t',rfl⟩:=ry;exact PySem.EqNone.eq_none_str (aP I q (by simp))
    | _=>exact absurd (show false=true from hs) Bool.false_ne_true
  | bl i =>
    cases rx
    cases y with
    | non=>cases ry;exact PySem.EqNone.eq_bool_none (aP I q (by simp))
    | bl j=>cases ry;exact eq_bool (aP I q oU)
    | str j=>obtain ⟨t',rfl⟩:=ry;exact PySem.EqMixed.eq_bool_str (aP I q (by simp))
    | _=>exact absurd (show false=true from hs) Bool.false_ne_true
  | int i =>
    obtain ⟨t,rfl⟩:=rx
    cases y with
    | non=>cases ry;exact PySem.EqNone.eq_int_none (aP I q (by simp))
    | int j=>obtain ⟨t',rfl⟩:=ry;exact eq_int (aP I q j7)
    | str j=>obtain ⟨t',rfl⟩:=ry;exact PySem.EqMixed.eq_int_str (aP I q (by simp))
    | _=>exact absurd (show false=true from hs) Bool.false_ne_true
  | str i =>
    obtain ⟨t,rfl⟩:=rx
    cases y with
    | non=>cases ry;exact PySem.EqNone.eq_str_none (aP I q (by simp))
    | bl j=>cases ry;exact PySem.EqMixed.eq_str_bool (aP I q (by simp))
    | int j=>obtain ⟨t',rfl⟩:=ry;exact PySem.EqMixed.eq_str_int (aP I q (by simp))
    | str j=>obtain ⟨t',rfl⟩:=ry;exact eq_str (aP I q j6)
    | _=>exact absurd (show false=true from hs) Bool.false_ne_true
  | byt i =>
    obtain ⟨t,rfl⟩:=rx
    cases y with
    | byt j=>obtain ⟨t',rfl⟩:=ry;exact PySem.W.eq_bytes (aP I q j8)
    | _=>exact absurd (show false=true from hs) Bool.false_ne_true
  | _=>cases y <;> exact absurd (show false=true from hs) Bool.false_ne_true
theorem qz:OpR X (compareOp .NotEq) rNe:=by
  intro pins s σ H x y v u Q I rx ry h
  obtain ⟨hs,q⟩:=h
  cases x with
  | non =>
    cases rx
    cases y with
    | non=>cases ry;exact PySem.EqNone.ne_none_none (aP I q (by simp))
    | bl j=>cases ry;exact PySem.EqNone.ne_none_bool (aP I q (by simp))
    | int j=>obtain ⟨t',rfl⟩:=ry;exact PySem.EqNone.ne_none_int (aP I q (by simp))
    | str j=>obtain ⟨t',rfl⟩:=ry;exact PySem.EqNone.ne_none_str (aP I q (by simp))
    | _=>exact absurd (show false=true from hs) Bool.false_ne_true
  | bl i =>
    cases rx
    cases y with
    | non=>cases ry;exact PySem.EqNone.ne_bool_none (aP I q (by simp))
    | bl j=>cases ry;exact ne_bool (aP I q (congrArg not oU))
    | str j=>obtain ⟨t',rfl⟩:=ry;exact PySem.EqMixed.ne_bool_str (aP I q (by simp))
    | _=>exact absurd (show false=true from hs) Bool.false_ne_true
  | int i =>
    obtain ⟨t,rfl⟩:=rx
    cases y with
    | non=>cases ry;exact PySem.EqNone.ne_int_none (aP I q (by simp))
    | int j=>obtain ⟨t',rfl⟩:=ry;exact ne_int (aP I q (congrArg not j7))
    | str j=>obtain ⟨t',rfl⟩:=ry;exact PySem.EqMixed.ne_int_str (aP I q (by simp))
    | _=>exact absurd (show false=true from hs) Bool.false_ne_true
  | str i =>
    obtain ⟨t,rfl⟩:=rx
    cases y with
    | non=>cases ry;exact PySem.EqNone.ne_str_none (aP I q (by simp))
    | bl j=>cases ry;exact PySem.EqMixed.ne_str_bool (aP I q (by simp))
    | int j=>obtain ⟨t',rfl⟩:=ry;exact PySem.EqMixed.ne_str_int (aP I q (by simp))
    | str j=>obtain ⟨t',rfl⟩:=ry;exact ne_str (aP I q (congrArg not j6))
    | _=>exact absurd (show false=true from hs) Bool.false_ne_true
  | byt i =>
    obtain ⟨t,rfl⟩:=rx
    cases y with
    | byt j=>obtain ⟨t',rfl⟩:=ry;exact PySem.W.ne_bytes (aP I q (congrArg not j8))
    | _=>exact absurd (show false=true from hs) Bool.false_ne_true
  | _=>cases y <;> exact absurd (show false=true from hs) Bool.false_ne_true
theorem qC:OpR X (compareOp .Lt) (rI0 fun i j=>.bl (decide (i<j))):=wU fun _ _ _ _ _ _ _ q=>lt_int q
theorem jj:OpR X (compareOp .LtE) (rI0 fun i j=>.bl (decide (i≤j))):=wU fun _ _ _ _ _ _ _ q=>le_int q
theorem gj:OpR X (compareOp .In) (fun x y H Q=>∃ i j,x=.str i∧y=.str j∧Q (.bl (!(Builtin.Str.occurrences j i 0 j.length 1).isEmpty)) H):=by
  intro pins s σ H x y v u Q I rx ry h
  obtain ⟨i,j,rfl,rfl,q⟩:=h
  obtain ⟨t,rfl⟩:=rx
  obtain ⟨t',rfl⟩:=ry
  exact in_str (aP I q rfl)
theorem jT:OpR X (compareOp .IsNot) (fun x y H Q=>y=.non∧Q (.bl (!decide (x=.non))) H):=by
  intro pins s σ H x y v u Q I rx ry h
  obtain ⟨rfl,q⟩:=h
  cases ry
  refine isnot_none_gen (aP I q ?_)
  cases x <;> first
    | (cases rx;rfl)
    | (obtain ⟨t,rfl⟩:=rx;rfl)
theorem fZ:OpR X (compareOp .NotIn) (fun x y H Q=>∃ i j,x=.str i∧y=.str j∧Q (.bl (!(!(Builtin.Str.occurrences j i 0 j.length 1).isEmpty))) H):=by
  intro pins s σ H x y v u Q I rx ry h
  obtain ⟨i,j,rfl,rfl,q⟩:=h
  obtain ⟨t,rfl⟩:=rx
  obtain ⟨t',rfl⟩:=ry
  exact notIn_str (aP I q rfl)
theorem bZ (b:Expr) {op:CmpOp} (h:op≠.In:=by decide) (h2:op≠.NotIn:=by decide):behindInMarks op b=false:=by
  have e1:(op == CmpOp.In)=false:=by cases op <;> first | rfl | exact absurd rfl h
  have e2:(op == CmpOp.NotIn)=false:=by cases op <;> first | rfl | exact absurd rfl h2
  cases b <;> simp [behindInMarks,e1,e2]
theorem dO {op:CmpOp} {r:R2} (ho:OpR X (compareOp op) r) (ha:PE X a ta) (hb:PE X b tb) (hm:behindInMarks op b=false):PE X (.Compare a [op] [b] pos) (tOp r ta tb):=by
  intro pins s σ H Q I h
  exact wpAny_Compare1 (uh ha hb I h fun v u s2 x y H2 I2 rx ry q=>ho pins s2 σ H2 x y v u Q I2 rx ry q) hm
def qj (t:TE):TT:=fun σ H Q=>t σ H fun x H'=>∃ k,x=.bl k∧Q k H'
theorem bR {op:CmpOp} {r:R2} (ho:OpR X (compareOp op) r) (ha:PE X a ta) (hb:PE X b tb) (hm:behindInMarks op b=false):PT X (.Compare a [op] [b] pos) (qj (tOp r ta tb)):=by
  intro pins s σ H Q I h
  refine wpAny_isTrue_Compare1 (thn (ha pins s σ H _ I h) fun v s1 ⟨x,H1,I1,r1,q1⟩=>thn (hb pins s1 σ H1 _ I1 q1) fun u s2 ⟨y,H2,I2,r2,q2⟩ =>
    thn (ho pins s2 σ H2 x y v u _ I2 r1 r2 q2) fun c s3 ⟨z,H3,I3,r3,k,e,q3⟩=>?_) hm
  subst e
  cases r3
  exact wpAny_truthy_bool ⟨H3,I3,q3⟩
def lY (r r':R2) (ta tb tc:TE):TE:=fun σ H Q=>ta σ H fun x H1=>tb σ H1 fun y H2=>r x y H2 fun z H3=>∃ k,z=.bl k ∧
  (if k=true then tc σ H3 fun w' H4=>r' y w' H4 Q else Q (.bl false) H3)
theorem fD {op op':CmpOp} {r r':R2} (ho:OpR X (compareOp op) r) (ho':OpR X (compareOp op') r') (ha:PE X a ta) (hb:PE X b tb) (hc:PE X c tc)
    (hm:lastMarks [op,op'] [b,c]=false:=by with_unfolding_all rfl):PE X (.Compare a [op,op'] [b,c] pos) (lY r r' ta tb tc):=by
  intro pins s σ H Q I h
  refine Compare_chain (thn (ha pins s σ H _ I h) fun v s1 ⟨x,H1,I1,r1,q1⟩=>chain_link (thn (hb pins s1 σ H1 _ I1 q1) fun u s2 ⟨y,H2,I2,r2,q2⟩ =>
    thn (ho pins s2 σ H2 x y v u _ I2 r1 r2 q2) fun d s3 ⟨z,H3,I3,r3,k,e,q3⟩=>?_)) hm
  subst e
  cases r3
  refine wpAny_truthy_bool ?_
  cases k with
  | false=>exact ite_ff ⟨.bl false,H3,I3,rfl,q3⟩
  | true=>exact ite_tt (chain_last (thn (hc pins s3 σ H3 _ I3 q3) fun w' s4 ⟨z',H4,I4,r4,q4⟩=>ho' pins s4 σ H4 y z' u w' Q I4 r2 r4 q4))
theorem lH {op op':CmpOp} {r r':R2} (ho:OpR X (compareOp op) r) (ho':OpR X (compareOp op') r') (ha:PE X a ta) (hb:PE X b tb) (hc:PE X c tc)
    (hm:lastMarks [op,op'] [b,c]=false:=by with_unfolding_all rfl):PT X (.Compare a [op,op'] [b,c] pos) (qj (lY r r' ta tb tc)):=by
  intro pins s σ H Q I h
  refine isTrue_chain (thn (ha pins s σ H _ I h) fun v s1 ⟨x,H1,I1,r1,q1⟩=>test_link (thn (hb pins s1 σ H1 _ I1 q1) fun u s2 ⟨y,H2,I2,r2,q2⟩ =>
    thn (ho pins s2 σ H2 x y v u _ I2 r1 r2 q2) fun d s3 ⟨z,H3,I3,r3,k,e,q3⟩=>?_)) hm
  subst e
  cases r3
  refine wpAny_truthy_bool ?_
  cases k with
  | false =>
    obtain ⟨k',e',q'⟩:=q3
    cases e'
    exact ite_ff ⟨H3,I3,q'⟩
  | true =>
    refine ite_tt (test_last (thn (hc pins s3 σ H3 _ I3 q3) fun w' s4 ⟨z',H4,I4,r4,q4⟩=>thn (ho' pins s4 σ H4 y z' u w' _ I4 r2 r4 q4) fun d' s5 ⟨z2,H5,I5,r5,k2,e2,q5⟩=>?_))
    subst e2
    cases r5
    exact wpAny_truthy_bool ⟨H5,I5,q5⟩
theorem mH:(sizeLine:Nat)<2 ^ 63:=by rw [sizeLine_eq];decide
theorem bJ:OpR X (binaryOp .Add) (fun x y H Q=>∃ i j,x=.str i∧y=.str j∧i.length + j.length≤sizeLine∧Q (.str (i++j)) H):=by
  intro pins s σ H x y v u Q I rx ry h
  obtain ⟨i,j,rfl,rfl,hz,q⟩:=h
  obtain ⟨t,rfl⟩:=rx
  obtain ⟨t',rfl⟩:=ry
  exact add_str (fun t' tk=>⟨.str (i++j),H,I.tok _,⟨_,rfl⟩,q⟩) hz
def lW (b:Expr):Prop:=∀ o i,subscripted b false o i=operate [o,i] (getItem o i)
theorem cJ (ha:PE X a ta) (hb:PE X b tb) (hs:lW b) :
    PE X (.Subscript a b pos) (tOp (fun x y H Q=>∃ z i c,x=.str z∧y=.int i∧0≤i∧i<2 ^ 63∧i<z.length∧z.cps[i.toNat]?=some c∧Q (.str ⟨#[c]⟩) H) ta tb):=by
  intro pins s σ H Q I h
  refine Subscript_ (uh ha hb I h fun v u s2 x y H2 I2 rx ry q=>?_)
  obtain ⟨z,i,c,rfl,rfl,h0,h63,h1,hc,q⟩:=q
  obtain ⟨t,rfl⟩:=rx
  obtain ⟨t',rfl⟩:=ry
  have e:seqIndex? i z.length=some i.toNat:=PySem.StrLaws.seqIndex_nonneg h0 h1
  exact tail_any (typeIs_str s2 z t) slot_str_getitem.lookup (getItem_str (c:=c) (by
    have e1:decide (i < -(2 ^ 63:Int))=false:=decide_eq_false (by omega)
    have e2:decide (i ≥ 2 ^ 63)=false:=decide_eq_false (by omega)
    rw [e1,e2] <;> rfl) (by rw [e];exact hc) ⟨.str ⟨#[c]⟩,H2,I2.tok _,⟨_,rfl⟩,q⟩) (hs _ _)
theorem vals1 {x:V} {us:List Value} (r:Vals [x] us):∃ u,us=[u]∧RelV x u:=by
  cases r with
  | cons r1 r2=>cases r2;exact ⟨_,rfl,r1⟩
theorem vals2 {x y:V} {us:List Value} (r:Vals [x,y] us):∃ u w',us=[u,w']∧RelV x u∧RelV y w':=by
  cases r with
  | cons r1 r2 =>
    cases r2 with
    | cons r3 r4=>cases r4;exact ⟨_,_,rfl,r1,r3⟩
theorem cD:gK X (.type "str") (fun xs H Q=>∃ i,xs=[.int i]∧i.natAbs.log2<1920∧Q (.str (toString i)) H):=by
  intro pins s σ H xs us Q I r h
  obtain ⟨i,rfl,hz,q⟩:=h
  obtain ⟨u,rfl,t,rfl⟩:=vals1 r
  exact PySem.P.str_of_int hz ⟨.str _,H,I.tok _,⟨_,rfl⟩,q⟩
end
end L2
namespace L2
open PySem PySem.Spec PyProof.Rows
structure wK (h:Heap) (x dx C:Addr) (mA:Str→Option Value):Prop where
  obj:h.get? x=some (PySem.W.instObj C dx)
  ns:h.Ns1 dx mA
  ne:dx≠x
theorem jY {h:Heap} {dx:Addr} {mA:Str→Option Value} (n:h.Ns1 dx mA):∃ od,h.get? dx=some od∧∀ name,PySem.W.lookIn name od=some (mA name):=by
  obtain ⟨o,es,ep,ho,hd,hk,_,hm⟩:=n
  refine ⟨o,ho,fun name=>?_⟩
  have e:=hm name
  unfold nsFind findBy at e
  rw [← Array.find?_toList] at e
  unfold PySem.W.lookIn
  rw [hd]
  dsimp only
  split
  · rename_i y q
    rw [q] at e
    exact congrArg some e
  · rename_i q
    rw [q] at e
    have a:es.toList.any (·.refKey)=false:=by
      rw [List.any_eq_false]
      intro y hy
      obtain ⟨z,t,hkey⟩:=hk y (Array.mem_toList_iff.mp hy)
      simp [DictEntry.refKey,hkey]
    have a':¬ es.toList.any (·.refKey)=true:=by rw [a];exact Bool.false_ne_true
    rw [if_neg a']
    exact congrArg some e
theorem wK.look {h:Heap} {x dx C:Addr} {mA:Str→Option Value} (I:wK h x dx C mA):∃ od,PySem.W.InstAt h x (PySem.W.instObj C dx) C (some od)∧∀ name,PySem.W.lookIn name od=some (mA name) :=
  let ⟨od,ho,hl⟩:=jY I.ns
  ⟨od,⟨I.obj,rfl,rfl,ho⟩,hl⟩
section
variable {P:Program} {w:World} {H H':Hp} {h h':Heap} {a C dx:Addr} {fs fs':List (Str × V)}
theorem pK (hok:HOk P w H h) (e:H a=some (.ins C dx fs)):∃ mA,wK h a dx C mA∧(∀ f,wJ (fs.lookup f) (mA f))∧PySem.Within mA (fs.map (·.1))∧fs.length≤1000∧H dx=some (.own a):=by
  obtain ⟨d,z,ne,ob,mA,n,r,q⟩:=(show cB P w H h a (.ins C dx fs) from hok a _ e)
  exact ⟨mA,⟨ob,n,ne⟩,r,q,z,d⟩
end
structure Cls (K:PySem.W.Frag) (C:Addr):Prop where
  pg:PySem.W.plainGet K C Str.empty=true
  hd:PySem.W.hasDictIn K C=true
  po:PySem.W.plainOver K C=true
  sa:PySem.W.findIn K (.ref C) "__setattr__"=some (some (.builtin "object.__setattr__"))
theorem Cls.get {K:PySem.W.Frag} {C:Addr} (c:Cls K C) (f:Str):PySem.W.plainGet K C f=true:=c.pg
section
variable {X:Cx} {pins:List (Addr × Obj)} {σ:St} {H:Hp} {s:Shared} {A:Around} {E:Value→Shared→Prop} {Q:Value→Shared→Prop} {c:Value} {b:Bool}
inductive jd (K:PySem.W.Frag) (H:Hp):V→Value→Prop where
  | non:jd K H .non (.type "NoneType")
  | bl (x:Bool):jd K H (.bl x) (.type "bool")
  | int (i:Int):jd K H (.int i) (.type "int")
  | str (x:Str):jd K H (.str x) (.type "str")
  | flt (x:UInt64):jd K H (.flt x) (.type "float")
  | lst {a:Addr} {xs:List V} (e:H a=some (.lst xs)):jd K H (.ref a) (.type "list")
  | frz {a:Addr} {o:Obj} {xs:List V} (e:H a=some (.frz o (.lst xs))):jd K H (.ref a) (.type "list")
  | tup {a:Addr} {xs:List V} (e:H a=some (.tup xs)):jd K H (.ref a) (.type "tuple")
  | dK {a:Addr} {kvs:List (Key × V)} (e:H a=some (.dK kvs)):jd K H (.ref a) (.type "dict")
  | dT {a:Addr} {kvs:List (List Key × V)} (e:H a=some (.dT kvs)):jd K H (.ref a) (.type "dict")
  | ins {a C dx:Addr} {fs:List (Str × V)} (e:H a=some (.ins C dx fs)) (cl:Cls K C) (ha:PySem.W.findIn K (.ref C) "__class__"=some (some (.builtin "object.__class__")))
      (hn:PySem.W.specialIn K (.builtin "object.__class__") "__get__"=some (some (.builtin "getset_descriptor.__get__"))) (htk:PySem.W.takesIn K (.builtin "object.__class__")=some true)
      (hm:PySem.W.mroIn K C (.type "object")=some true):jd K H (.ref a) (.ref C)
theorem jZ {x:V} {u t:Value} (I:Inv X pins σ H s) (rx:RelV x u) (ty:jd X.K H x t) (e:PySem.W.kitOne X.K t c=some b) (h:∀ tk,Q (.bool b) { s with toks:=tk }) :
    wpAny (model X.prog X.w) A (call (.builtin "isinstance") [u,c]) Q E s:=by
  cases ty with
  | non=>cases (show u=Value.none from rx);exact PySem.W.kia_one PySem.W.kitx_none I.kIn True.intro e (fun z=>nomatch z) h
  | bl y=>cases (show u=Value.bool y from rx);exact PySem.W.kia_one PySem.W.kitx_bool I.kIn True.intro e (fun z=>nomatch z) h
  | int i=>obtain ⟨t,q⟩:=(show ∃ t,u=Value.int i t from rx);cases q;exact PySem.W.kia_one PySem.W.kitx_int I.kIn True.intro e (fun z=>nomatch z) h
  | str y=>obtain ⟨t,q⟩:=(show ∃ t,u=Value.str y t from rx);cases q;exact PySem.W.kia_one PySem.W.kitx_str I.kIn True.intro e (fun z=>nomatch z) h
  | flt y=>obtain ⟨t,q⟩:=(show ∃ t,u=Value.float y t from rx);cases q;exact PySem.W.kia_one PySem.W.kitx_float I.kIn True.intro e (fun z=>nomatch z) h
  | @lst a xs ea =>
    cases (show u=Value.ref a from rx)
    obtain ⟨_,_,n,_,h1⟩:=(show cB X.prog X.w H s.heap a (.lst xs) from I.hok a _ ea)
    exact PySem.W.kia_one PySem.W.kitx_list I.kIn ⟨_,h1,rfl⟩ e (fun z=>nomatch z) h
  | @frz a ob xs ea =>
    cases (show u=Value.ref a from rx)
    obtain ⟨_,_,_,n,_,h1⟩:=(show cB X.prog X.w H s.heap a (.frz ob (.lst xs)) from I.hok a _ ea)
    exact PySem.W.kia_one PySem.W.kitx_list I.kIn ⟨_,h1,rfl⟩ e (fun z=>nomatch z) h
  | @tup a xs ea =>
    cases (show u=Value.ref a from rx)
    obtain ⟨_,_,_,p⟩:=(show cB X.prog X.w H s.heap a (.tup xs) from I.hok a _ ea)
    obtain ⟨o,h1,h2,_⟩:=p
    exact PySem.W.kia_one PySem.W.kitx_tuple I.kIn ⟨o,h1,h2⟩ e (fun z=>nomatch z) h
  | @dK a kvs ea =>
    cases (show u=Value.ref a from rx)
    obtain ⟨_,_,vs,_,p⟩:=(show cB X.prog X.w H s.heap a (.dK kvs) from I.hok a _ ea)
    obtain ⟨o,es,ep,h1,h2,_⟩:=p
    exact PySem.W.kia_one PySem.W.kitx_dict I.kIn ⟨o,h1,h2.1⟩ e (fun z=>nomatch z) h
  | @dT a kvs ea =>
    cases (show u=Value.ref a from rx)
    obtain ⟨_,_,xs,_,o,es,ep,h1,h2,_⟩:=(show cB X.prog X.w H s.heap a (.dT kvs) from I.hok a _ ea)
    exact PySem.W.kia_one PySem.W.kitx_dict I.kIn ⟨o,h1,h2.1⟩ e (fun z=>nomatch z) h
  | @ins a C dx fs ea cl ha hn htk hm =>
    cases (show u=Value.ref a from rx)
    obtain ⟨mA,O,_⟩:=pK I.hok ea
    obtain ⟨od,J,_⟩:=O.look
    exact PySem.W.kia_one (PySem.W.kitx_own (cl.get _) cl.hd ha hn htk hm) I.kIn J e (fun z=>nomatch z) h
end
end L2
namespace L2
open PySem PySem.Spec PyProof.Rows
structure gF (k:Nat) (A:Around):Prop where
  hd:A.handled=none
  dp:A.depth + 3 * k + 5<recursionLimit
  un:A.units + 16 * k + 200<cLine
theorem gF.mono {j k:Nat} {A:Around} (r:gF k A) (h:j≤k):gF j A:=⟨r.hd,by have:=r.dp;omega,by have:=r.un;omega⟩
theorem gF.deeper {k:Nat} {A:Around} (r:gF (k + 1) A) (env:Env):gF k (A.deeper env) :=
  ⟨r.hd,by have:=r.dp;show A.depth + 1 + 3 * k + 5<_;omega,by have:=r.un;show A.units + 3 + 16 * k + 200<_;omega⟩
theorem gF.depth {k:Nat} {A:Around} (r:gF k A):A.depth<recursionLimit:=by have:=r.dp;omega
def tNil:TA:=fun _ H Q=>Q [] H
def uF (ta:TE) (tr:TA):TA:=fun σ H Q=>ta σ H fun x H1=>tr σ H1 fun xs H2=>Q (x :: xs) H2
section
variable {X:Cx} {e:Expr} {es:List Expr} {te:TE} {t:TA} {pos:Pos}
theorem aB:PA X [] tNil:=fun _ _ _ _ H Q I h=>Calls.spliced_nil ⟨[],H,I,.nil,h⟩
theorem ak (ha:PE X e te) (hr:PA X es t) (hs:starEach (e :: es) X.env=(false,eval e X.env) :: starEach es X.env:=by rfl):PA X (e :: es) (uF te t):=by
  intro pos pins s σ H Q I h
  rw [hs]
  show wpAny _ _ (spliced ((false,eval e X.env) :: backTo pos (starEach es X.env))) _ _ s
  refine Calls.spliced_cons (thn (ha pins s σ H _ I h) fun u s1 ⟨x,H1,I1,r1,q1⟩=>?_)
  exact thn (hr pos pins s1 σ H1 _ I1 q1) fun us s2 ⟨xs,H2,I2,r2,q2⟩=>⟨x :: xs,H2,I2,.cons r1 r2,q2⟩
def tLst (t:TA):TE:=fun σ H Q=>t σ H fun xs H1=>xs.length≤sizeLine∧∀ p,H1 p=none→Q (.ref p) (upd H1 p (.lst xs))
theorem jP (h:PA X es t):PE X (.List es pos) (tLst t):=by
  intro pins s σ H Q I hq
  refine wpAny_List_spliced (thn (h pos pins s σ H _ I hq) fun us s1 ⟨xs,H1,I1,r,z,q⟩=>⟨by rw [← r.length];exact z,?_⟩)
  have hf:H1 s1.heap.objs.size=none:=I1.hok.fresh (Nat.le_refl _)
  refine ⟨.ref s1.heap.objs.size,upd H1 s1.heap.objs.size (.lst xs),I1.laid (t':=s1.toks) (fun b u e=>Heap.get?_push_of_some _ e) (Nat.le_refl _) ?_,rfl,q _ hf⟩
  exact ⟨z,us,0,r,Heap.get?_push_size _ rfl⟩
end
abbrev Sp:=List V→Hp→VK→XK→Prop
abbrev CXT:=List Env→Hp→Shared→XK→Value→Shared→Prop
structure um (P:Program) (w:World) (K:PySem.W.Frag) (mg:Str→Option Value) (base:Heap) (A:Around) (outer:List Env) (s:Shared) (H:Hp):Prop where
  frames:A.frames=some outer
  mod:Mod K mg base
  bs:∀ b o,base.get? b=some o→s.heap.get? b=some o∧H b=none
  bsz:base.objs.size≤s.heap.objs.size
  jk:s.heap.FunFrames base outer
  frf:∀ b∈frs outer,H b=none
  hok:HOk P w H s.heap
  bare:AllBare s.gens
def CE (outer:List Env) (P:Program) (w:World) (H:Hp) (s:Shared) (Q:VK) (u:Value) (s':Shared):Prop :=
  ∃ v H',s'.os=s.os∧AllBare s'.gens∧Un (frs outer) [] H H' s.heap s'.heap∧HOk P w H' s'.heap∧RelV v u∧Q v H'
def CR (CX:CXT) (outer:List Env) (P:Program) (w:World) (H:Hp) (s:Shared) (Q:VK) (E:XK) (r:Result) (s':Shared):Prop :=
  match r with
  | .ok (.ret u)=>CE outer P w H s Q u s'
  | .ok _=>False
  | .error e=>CX outer H s E e s'
structure cX (P:Program) (w:World) (K:PySem.W.Frag) (mg:Str→Option Value) (base:Heap) (CX:CXT) (k:Nat) (f:Addr) (fd:FuncData) (ps:List Str) (sp:Sp):Prop where
  len:∀ vs H Q E,sp vs H Q E→vs.length=ps.length
  run:∀ (A:Around) (outer:List Env) (s:Shared) (H:Hp) (args:Args) (us:List Value) (vs:List V) (Q:VK) (E:XK),gF k A→um P w K mg base A outer s H→BindsTo s fd args (ps.zip us)→Vals vs us→sp vs H Q E →
    codeAny (model P w) A (.call (.ref f) args) (CR CX outer P w H s Q E) s
section
variable {X:Cx} {pins:List (Addr × Obj)} {σ:St} {H:Hp} {s s':Shared}
theorem Inv.env0 (I:Inv X pins σ H s):um X.prog X.w X.K X.mg X.base X.A X.stack s H :=
  ⟨I.ok.frames,I.ok.mod,I.bs,Nat.le_trans I.ok.bsz I.sz,I.stack,I.gM,I.hok,I.bare⟩
theorem Inv.after {Q:VK} {u:Value} (I:Inv X pins σ H s) (h:CE X.stack X.prog X.w H s Q u s'):EP X pins σ Q u s':=by
  obtain ⟨v,H',os,bare,un,hok,r,q⟩:=h
  obtain ⟨hh,g,d,t,os'⟩:=s'
  obtain rfl:os'=s.os:=os
  exact ⟨v,H',I.call (h':=hh) (g':=g) (d':=d) (t':=t) (ch:=[]) un hok bare (fun b z=>absurd z (by simp)),r,q⟩
end
def uG (sp:Sp) (dvs:List V) (E:XK) (t:TA):TE:=fun σ H Q=>t σ H fun vs H1=>sp (vs++dvs) H1 Q E
def Binds (K:PySem.W.Frag) (fd:FuncData) (ps:List Str) (ds:List Value):Prop :=
  ∀ (s:Shared) (us:List Value),K.In s.heap→(us++ds).length=ps.length→BindsTo s fd ⟨us,[]⟩ (ps.zip (us++ds))
theorem Binds.all {K:PySem.W.Frag} {fd:FuncData} {ps:List Str} (h:∀ us:List Value,us.length=ps.length→bindArgs fd ⟨us,[]⟩=pure (ps.zip us)):Binds K fd ps []:=fun s us _ hl=>by
  rw [List.append_nil] at hl ⊢
  exact .of_eq (h us hl)
def Passes (CX:CXT) (X:Cx) (E:XK):Prop:=∀ (pins:List (Addr × Obj)) (σ:St) (H:Hp) (s:Shared) (e:Value) (s':Shared),Inv X pins σ H s→CX X.stack H s E e s'→X.xe e s'
section
variable {X:Cx} {CX:CXT} {k:Nat} {f C:Addr} {fd:FuncData} {ps:List Str} {sp:Sp} {dvs:List V} {ds:List Value} {E:XK} {x m:Str} {p pos apos:Pos} {e o:Expr} {es:List Expr} {ta:TE} {t:TA}
theorem qw {pins:List (Addr × Obj)} {σ:St} {H:Hp} {s:Shared} {Q:VK} {us:List Value} {vs:List V} (F:cX X.prog X.w X.K X.mg X.base CX k f fd ps sp) (hr:gF k X.A) (hb:Binds X.K fd ps ds) (hd:Vals dvs ds) (hx:Passes CX X E)
    (I:Inv X pins σ H s) (r:Vals vs us) (h:sp (vs++dvs) H Q E):wpAny (model X.prog X.w) X.A (call (.ref f) us) (EP X pins σ Q) X.xe s:=by
  have r2:Vals (vs++dvs) (us++ds):=r.append hd
  have hl:(us++ds).length=ps.length:=by rw [← r2.length];exact F.len _ _ _ _ h
  refine wpAny_call (codeAny_mono (F.run X.A X.stack s H ⟨us,[]⟩ (us++ds) (vs++dvs) Q E hr I.env0 (hb s us I.kIn hl) r2 h) fun r s' hq=>?_)
  cases r with
  | error e=>exact hx pins σ H s e s' I hq
  | ok fl =>
    cases fl with
    | ret u=>exact I.after hq
    | next=>exact False.elim hq
    | brk=>exact False.elim hq
    | cont=>exact False.elim hq
theorem bT (F:cX X.prog X.w X.K X.mg X.base CX k f fd ps sp) (hr:gF k X.A) (hg:Gl X x) (hm:X.mg x=some (.ref f)) (hk:PySem.W.keepIn X.K (.ref f)=true) (hb:Binds X.K fd ps ds) (hd:Vals dvs ds) (hx:Passes CX X E)
    (ha:PA X (e :: es) t) (hdb:(x == ("__debug__":Str))=false:=by decide) (he:starEach (e :: es) X.env=(false,eval e X.env) :: starEach es X.env:=by rfl) (hpl:(backTo pos (starEach es X.env)).any (·.1)=false:=by rfl) :
    PE X (.Call (.Name x p) (e :: es) [] pos) (uG sp dvs E t):=by
  intro pins s σ H Q I h
  refine wpAny_Call_Name_kw (eU I hg hm ?_ hdb)
  refine PySem.W.callWith_K (h₀:=X.base) I.ok.mod.kin hk (thn (ha pos pins s σ H _ I h) fun us s1 ⟨vs,H1,I1,r,q⟩=>⟨I1.kIn,?_⟩) he hpl
  exact qw F hr hb hd hx I1 r q
end
structure bI (N P:List Str) (sc:Scope):Prop where
  kind:sc.kind=.function
  co:sc.isCoroutine=false
  gen:sc.isGenerator=false
  nd:N.Nodup
  pre:N.take P.length=P
  par:∀ x∈P,sc.names.lookup x=some .local∨sc.names.lookup x=some .cell
  nofree:∀ y∈sc.names,y.2≠.free
theorem gA {kindOf:Str→Option NameKind} {x:Str}:∀ {binds:List (Str × Value)} {m:Str→Option Value},(∀ v,(x,v) ∉ binds)→bindL kindOf binds m x=m x
  | [],_,_=>rfl
  | (n,v) :: r,m,h=>by
    unfold bindL
    rw [gA fun w hw=>h w (List.mem_cons_of_mem _ hw)]
    split
    · have:x≠n:=by rintro rfl;exact h v List.mem_cons_self
      simp [this]
    · rfl
theorem gC {kindOf:Str→Option NameKind} {x:Str}:∀ {binds:List (Str × Value)} {m:Str→Option Value},(∀ v,(x,v) ∉ binds)→bindC kindOf binds m x=m x
  | [],_,_=>rfl
  | (n,v) :: r,m,h=>by
    unfold bindC
    rw [gC fun w hw=>h w (List.mem_cons_of_mem _ hw)]
    split
    · rfl
    · have:x≠n:=by rintro rfl;exact h v List.mem_cons_self
      simp [this]
theorem gB {kindOf:Str→Option NameKind} {x:Str} {v:Value}:∀ {P:List Str} {vs:List Value} {i:Nat} {m:Str→Option Value},P.Nodup→P[i]?=some x→vs[i]?=some v→kindOf x=some .local →
    bindL kindOf (P.zip vs) m x=some v
  | [],_,_,_,_,h,_,_=>by simp at h
  | _ :: _,[],_,_,_,_,h,_=>by simp at h
  | p :: P,w :: vs,0,m,nd,h1,h2,hk=>by
    simp at h1 h2;subst h1;subst h2
    show bindL kindOf ((p,w) :: P.zip vs) m p=_
    unfold bindL
    rw [gA fun v hv=>(List.nodup_cons.mp nd).1 (List.of_mem_zip hv).1,if_pos hk]
    simp
  | p :: P,w :: vs,i + 1,m,nd,h1,h2,hk=>by
    show bindL kindOf ((p,w) :: P.zip vs) m x=_
    unfold bindL
    exact gB (i:=i) (List.nodup_cons.mp nd).2 (by simpa using h1) (by simpa using h2) hk
theorem gD {kindOf:Str→Option NameKind} {x:Str} {v:Value}:∀ {P:List Str} {vs:List Value} {i:Nat} {m:Str→Option Value},P.Nodup→P[i]?=some x→vs[i]?=some v→kindOf x≠some .local →
    bindC kindOf (P.zip vs) m x=some v
  | [],_,_,_,_,h,_,_=>by simp at h
  | _ :: _,[],_,_,_,_,h,_=>by simp at h
  | p :: P,w :: vs,0,m,nd,h1,h2,hk=>by
    simp at h1 h2;subst h1;subst h2
    show bindC kindOf ((p,w) :: P.zip vs) m p=_
    unfold bindC
    rw [gC fun v hv=>(List.nodup_cons.mp nd).1 (List.of_mem_zip hv).1,if_neg hk]
    simp
  | p :: P,w :: vs,i + 1,m,nd,h1,h2,hk=>by
    show bindC kindOf ((p,w) :: P.zip vs) m x=_
    unfold bindC
    exact gD (i:=i) (List.nodup_cons.mp nd).2 (by simpa using h1) (by simpa using h2) hk
def start (N:List Str) (vs:List V):St:=vs.map some++List.replicate (N.length - vs.length) none
def oV (CX:CXT) (P:Program) (w:World) (K:PySem.W.Frag) (mg:Str→Option Value) (base:Heap) (N:List Str) (qual:Str) (scope:Scope) (f:Addr) (cd:Value) (A:Around) (outer:List Env) (s:Shared) (H:Hp) (E:XK):Cx where
  prog:=P
  w:=w
  K:=K
  mg:=mg
  base:=base
  A:=A.deeper (envOfC qual scope s.heap.objs.size f cd)
  N:=N
  s₀:=s
  H₀:=H
  env:=envOfC qual scope s.heap.objs.size f cd
  outer:=outer
  stack:=envOfC qual scope s.heap.objs.size f cd :: outer
  ex:=[]
  calm:=true
  fn:=fun _=>true
  pn:=[]
  xe:=fun e s'=>wpAny (model P w) (A.deeper (envOfC qual scope s.heap.objs.size f cd)) (leaving (envOfC qual scope s.heap.objs.size f cd) e) (fun _ s''=>CX outer H s E e s'') (fun e' s''=>CX outer H s E e' s'') s'
theorem iZ {sc:Scope} {n:Nat} {x:Str} (h:sc.names.lookup x=some .cell):∃ c,(cellsFrom n sc.names []).lookup x=some c:=by
  have q:=PySem.W.cellsFrom_some sc.names n [] (.inl h)
  exact Option.isSome_iff_exists.mp q
theorem j4 {CX:CXT} {P:Program} {w:World} {K:PySem.W.Frag} {mg:Str→Option Value} {base:Heap} {N ps:List Str} {qual:Str} {scope:Scope} {f:Addr} {cd:Value} {A:Around} {outer:List Env} {s s1:Shared} {H:Hp} {E:XK} {us:List Value} {vs:List V}
    (S:bI N ps scope) (hd:A.handled=none) (e0:um P w K mg base A outer s H) (hl:vs.length=ps.length) (r:Vals vs us)
    (x:InCallC s s.heap.objs.size (bindL (envOfC qual scope s.heap.objs.size f cd).kindOf (ps.zip us) fun _=>none) (cellsFrom (s.heap.objs.size + 1) scope.names []) (bindC (envOfC qual scope s.heap.objs.size f cd).kindOf (ps.zip us) fun _=>none) s1) :
    Inv (oV CX P w K mg base N qual scope f cd A outer s H E) [] (start N vs) H s1:=by
  have hpl:ps.length≤N.length:=by have:=congrArg List.length S.pre;rw [List.length_take] at this;omega
  obtain ⟨h1,tk,rfl,hk⟩:=x.done
  have noA:∀ b:Addr,b ∉ (oV CX P w K mg base N qual scope f cd A outer s H E).ex:=fun b z=>absurd (show b∈([]:List Addr) from z) (by simp)
  refine ⟨⟨e0.mod,S.kind,rfl,rfl,Nat.le_refl _,fun y z c h1 h2=>?_,fun y hy=>?_,fun y c _ h=>?_,fun _=>hd,Around.frames_deeper e0.frames,.inr ⟨rfl,rfl⟩,fun b z=>absurd z (noA b),e0.bs,e0.bsz,fun b _ _=>noA b,fun b z=>absurd z (noA b),e0.jk,e0.frf⟩,
    rfl,e0.bare,Un.kept hk,⟨_,x.toInCall.ns,fun i y v h1 h2 h3=>?_⟩,fun y c h=>⟨_,x.cell y c h⟩,e0.hok.fresh (Nat.le_refl _),fun y c h=>?_,fun p hp=>absurd (show p∈([]:List (Addr × Obj)) from hp) (by simp),e0.hok.kept hk,?_⟩
  · exact name_of_addr x.apart (PySem.mem_of_lookup h1) (PySem.mem_of_lookup h2)
  · have hy:scope.names.lookup y=some .cell∨scope.names.lookup y=some .free:=hy
    rcases hy with hy | hy
    · exact iZ hy
    · exact absurd rfl (S.nofree _ (PySem.mem_of_lookup hy))
  · exact Nat.le_of_lt (x.above y c (PySem.mem_of_lookup h))
  · have hi:i<vs.length:=by
      unfold start at h2
      by_cases hi:i<vs.length
      · exact hi
      · rw [List.getElem?_append_right (by simpa using hi)] at h2
        rw [List.getElem?_replicate] at h2
        split at h2 <;> cases h2
    have ha:vs[i]?=some v:=by
      unfold start at h2
      rw [List.getElem?_append_left (by simpa using hi),List.getElem?_map] at h2
      cases e:vs[i]? with
      | none=>rw [e] at h2;cases h2
      | some a=>rw [e] at h2;cases h2;rfl
    obtain ⟨u,hu,rv⟩:=r.get ha
    have hp:ps[i]?=some y:=by
      rw [← S.pre,List.getElem?_take_of_lt (by omega)];exact h1
    have ndP:ps.Nodup:=by rw [← S.pre];exact S.nd.sublist (List.take_sublist _ _)
    refine ⟨u,rv,?_⟩
    rcases S.par y (List.mem_of_getElem? hp) with k | k
    · exact .inl ⟨k,gB ndP hp hu k⟩
    · obtain ⟨c,e⟩:=iZ (n:=s.heap.objs.size + 1) k
      refine .inr ⟨.inl k,c,e,?_⟩
      have q:=x.cell y c e
      rw [gD ndP hp hu (by show scope.names.lookup y≠_;rw [k];decide)] at q
      exact q
  · exact e0.hok.fresh (Nat.le_of_lt (x.above y c (PySem.mem_of_lookup h)))
  · unfold start
    show _=N.length
    rw [List.length_append,List.length_map,List.length_replicate]
    omega
theorem tZ {CX:CXT} {P:Program} {w:World} {K:PySem.W.Frag} {mg:Str→Option Value} {base:Heap} {k:Nat} {f:Addr} {name qual:Str} {params:Arguments} {body:List Stmt} {scope:Scope} {dV kV doc pm cdv ct oc:Value} {an od:Option Addr}
    {osl:Array (Option Value)} {N ps:List Str} {sp:Sp} (lk:K.lookup f=some ⟨oc,od,.func (PySem.W.fnOf name qual params body scope dV kV doc pm an cdv ct),osl⟩) (hcd:PySem.W.codeIn K cdv qual=true) (S:bI N ps scope)
    (len:∀ vs H Q E,sp vs H Q E→vs.length=ps.length)
    (hbody:∀ (A:Around) (outer:List Env) (s:Shared) (H:Hp) (vs:List V) (Q:VK) (E:XK),gF k (A.deeper (envOfC qual scope s.heap.objs.size f cdv))→sp vs H Q E →
      ∃ t,PSs (oV CX P w K mg base N qual scope f cdv A outer s H E) body t∧t { nx:=fun _ H'=>Q .non H',rt:=Q } (start N vs) H) :
    cX P w K mg base CX (k + 1) f (PySem.W.fnOf name qual params body scope dV kV doc pm an cdv ct) ps sp:=by
  refine ⟨len,fun A outer s H args us vs Q E hr e0 hb r hsp=>?_⟩
  have hl:=len _ _ _ _ hsp
  have KX:K.In s.heap:=e0.mod.kin.keeps fun b o e=>(e0.bs b o e).1
  have lim:s.heap.NoLimit:=e0.mod.nolimit.keeps fun b o e=>(e0.bs b o e).1
  have hkind:∀ y∈ps.zip us,scope.names.lookup y.1=some .local∨(scope.names.lookup y.1=some .cell∧((cellsFrom (s.heap.objs.size + 1) scope.names []).lookup y.1).isSome=true):=fun ⟨n,v⟩ hy=>by
    rcases S.par n (List.of_mem_zip hy).1 with q | q
    · exact .inl q
    · exact .inr ⟨q,PySem.W.cellsFrom_some _ _ _ (.inl q)⟩
  refine codeAny_call_function hr.depth (KX _ _ lk) rfl S.co S.gen rfl (PySem.W.codeRec_of KX hcd) (hb _ _ _ _ ?_)
  refine wpAny_newFunctionEnv_cells S.kind hkind fun env he s1 x=>?_
  subst he
  refine ⟨lim.keeps x.toInCall.keep,codeAny_func ?_⟩
  obtain ⟨t,ht,hq⟩:=hbody A outer s H vs Q E (hr.deeper _) hsp
  have I:Inv (oV CX P w K mg base N qual scope f cdv A outer s H E) [] (start N vs) H s1:=j4 S hr.hd e0 hl r x
  refine wpAny_mono (ht [] s1 (start N vs) H _ I hq) (fun fl s' hs=>?_) fun e s' hs=>hs
  have fin:∀ {σ':St} {H':Hp} {v:V} {u:Value},Inv (oV CX P w K mg base N qual scope f cdv A outer s H E) [] σ' H' s'→RelV v u→Q v H'→CE outer P w H s Q u s' :=
    fun {σ' H' v u} J rv q=>⟨v,H',J.os,J.bare,J.base,J.hok,rv,q⟩
  cases fl with
  | ret u =>
    obtain ⟨v,σ',H',J,rv,q⟩:=hs
    exact fin J rv q
  | next =>
    obtain ⟨σ',H',J,q⟩:=hs
    exact fin (v:=V.non) (u:=Value.none) J rfl q
  | brk =>
    obtain ⟨_,_,_,q⟩:=hs
    exact False.elim q
  | cont =>
    obtain ⟨_,_,_,q⟩:=hs
    exact False.elim q
end L2
namespace L2
open PySem PySem.Spec PyProof.Rows
section
variable {X:Cx} {x:Str} {p pos:Pos} {e:Expr} {es:List Expr} {t:TA} {id T:String} {r:List V→Hp→VK→Prop}
def tCB (r:List V→Hp→VK→Prop) (t:TA):TE:=fun σ H Q=>t σ H fun vs H1=>r vs H1 Q
theorem aW (hc:gK X (.builtin id) r) (hg:Gl X x) (hm:X.mg x=none) (hv:bootBuiltins x=some (.builtin id)) (ha:PA X (e :: es) t) (hn:x≠"__name__":=by decide) (hdb:(x == ("__debug__":Str))=false:=by decide)
    (he:starEach (e :: es) X.env=(false,eval e X.env) :: starEach es X.env:=by rfl) (hpl:(backTo pos (starEach es X.env)).any (·.1)=false:=by rfl):PE X (.Call (.Name x p) (e :: es) [] pos) (tCB r t):=by
  intro pins s σ H Q I h
  refine wpAny_Call_Name_kw (iK I hg hm hv ?_ hn hdb)
  exact PyProof.Rows.callWith_builtin1 (thn (ha pos pins s σ H _ I h) fun us s1 ⟨vs,H1,I1,r1,q1⟩=>hc pins s1 σ H1 vs us Q I1 r1 q1) he hpl
theorem cW (hc:gK X (.type T) r) (hg:Gl X x) (hm:X.mg x=none) (hv:bootBuiltins x=some (.type T)) (ha:PA X (e :: es) t) (hn:x≠"__name__":=by decide) (hdb:(x == ("__debug__":Str))=false:=by decide)
    (he:starEach (e :: es) X.env=(false,eval e X.env) :: starEach es X.env:=by rfl) (hpl:(backTo pos (starEach es X.env)).any (·.1)=false:=by rfl):PE X (.Call (.Name x p) (e :: es) [] pos) (tCB r t):=by
  intro pins s σ H Q I h
  refine wpAny_Call_Name_kw (iK I hg hm hv ?_ hn hdb)
  exact PyProof.Rows.callWith_type1 (thn (ha pos pins s σ H _ I h) fun us s1 ⟨vs,H1,I1,r1,q1⟩=>hc pins s1 σ H1 vs us Q I1 r1 q1) he hpl
end
end L2
namespace HT
open PySem PyProof.Rows
section
open PySem.SeqAt
open PySem.AutoSeq1 (wpAny_loadPart')
open PySem.MeetsSeq PySem.MeetsSeq2 PySem.MeetsSeq3
end
section
variable {prog:Program} {w:World} {A:Around} {E:Value→Shared→Prop} {s:Shared}
def sIx (n d:Nat):Option Int→Nat
  | none=>d
  | some v=>if v<0 then (v + (n:Int)).toNat else min v.toNat n
theorem pq (n d k:Nat):sIx n d (some (k:Int))=min k n:=by
  show (if (k:Int)<0 then ((k:Int) + (n:Int)).toNat else min (k:Int).toNat n)=min k n
  rw [if_neg (by omega),Int.toNat_natCast]
end
end HT
namespace L2
open PySem PySem.Spec PyProof.Rows
abbrev TO:=St→Hp→(Option Int→Hp→Prop)→Prop
def PO (X:Cx) (e:Option Expr) (t:TO):Prop :=
  ∀ (pins:List (Addr × Obj)) (s:Shared) (σ:St) (H:Hp) (Q:Option Int→Hp→Prop),Inv X pins σ H s→t σ H Q →
    wpAny (model X.prog X.w) X.A (evalPart e X.env) (fun u s'=>∃ o H',Inv X pins σ H' s'∧IsPart u o∧Q o H') X.xe s
def o7:TO:=fun _ H Q=>Q none H
def uy (t:TE):TO:=fun σ H Q=>t σ H fun x H1=>∃ i,x=.int i∧Q (some i) H1
section
variable {X:Cx} {e:Expr} {te:TE} {lo hi:Option Expr} {tl th:TO} {pos p2:Pos}
theorem eN:PO X none o7:=by
  intro pins s σ H Q I h
  rw [evalPart_none]
  exact wpAny_pure ⟨none,H,I,.none,h⟩
theorem eH (h:PE X e te):PO X (some e) (uy te):=by
  intro pins s σ H Q I hw
  rw [evalPart_some]
  refine thn (h pins s σ H _ I hw) fun u s1 ⟨x,H1,I1,r1,q1⟩=>?_
  obtain ⟨i,rfl,q⟩:=q1
  obtain ⟨t,rfl⟩:=r1
  exact ⟨some i,H1,I1,.int i t,q⟩
def SlR (X:Cx) (r:V→Option Int→Option Int→Hp→VK→Prop):Prop :=
  ∀ (pins:List (Addr × Obj)) (s:Shared) (σ:St) (H:Hp) (x:V) (v vl vu:Value) (lo hi:Option Int) (sl:Addr) (Q:VK),Inv X pins σ H s→RelV x v→s.heap.IsSliceOf sl vl vu .none→IsPart vl lo→IsPart vu hi→r x lo hi H Q →
    ∃ T id,typeLookup (.type T) "__getitem__"=pure (some (.builtin id))∧s.TypeIs v T∧wpAny (model X.prog X.w) X.A (getItem v (.ref sl)) (EP X pins σ Q) X.xe s
def tSl (r:V→Option Int→Option Int→Hp→VK→Prop) (te:TE) (tl th:TO):TE:=fun σ H Q=>te σ H fun x H1=>tl σ H1 fun l H2=>th σ H2 fun u H3=>r x l u H3 Q
theorem dM {r:V→Option Int→Option Int→Hp→VK→Prop} (hr:SlR X r) (he:PE X e te) (hl:PO X lo tl) (hu:PO X hi th):PE X (.Subscript e (.Slice lo hi none p2) pos) (tSl r te tl th):=by
  intro pins s σ H Q I h
  refine Subscript_ (thn (he pins s σ H _ I h) fun v s1 ⟨x,H1,I1,r1,q1⟩=>?_)
  refine wpAny_Slice (thn (hl pins s1 σ H1 _ I1 q1) fun vl s2 ⟨l,H2,I2,pl,q2⟩=>thn (hu pins s2 σ H2 _ I2 q2) fun vu s3 ⟨u,H3,I3,pu,q3⟩=>?_)
  rw [evalPart_none]
  refine wpAny_pure ?_
  have I4:Inv X pins σ H3 { s3 with heap:=s3.heap.push { cls:=.type "slice",data:=.fields #[vl,vu,.none] } }:=I3.kept (t':=s3.toks) fun b ob q=>Heap.get?_push_of_some _ q
  obtain ⟨T,id,hT,ht,hg⟩:=hr pins { s3 with heap:=s3.heap.push { cls:=.type "slice",data:=.fields #[vl,vu,.none] } } σ H3 x v vl vu l u s3.heap.objs.size Q I4 r1 (Heap.IsSliceOf.new ..) pl pu q3
  show wpAny (model X.prog X.w) X.A (subscriptTail e (.Slice lo hi none p2) v (.ref s3.heap.objs.size)) (EP X pins σ Q) X.xe { s3 with heap:=s3.heap.push { cls:=.type "slice",data:=.fields #[vl,vu,.none] } }
  exact tail_any (ops:=[.ref s3.heap.objs.size,v]) ht hT hg (by with_unfolding_all rfl)
def pR (xs:List V) (lo hi:Option Int):List V:=(xs.drop (HT.sIx xs.length 0 lo)).take (HT.sIx xs.length xs.length hi - HT.sIx xs.length 0 lo)
theorem gR (xs:List V) (lo hi:Option Int):(pR xs lo hi).length≤xs.length:=by
  unfold pR
  rw [List.length_take,List.length_drop]
  omega
end
end L2
namespace L2
open PySem PySem.Spec PyProof.Rows
def ixN (n:Nat) (i:Int):Option Nat:=if 0≤i then (if i<n then some i.toNat else none) else if -(n:Int)≤i then some (i + n).toNat else none
def atI {α:Type} (xs:List α) (i:Int):Option α:=(ixN xs.length i).bind fun j=>xs[j]?
theorem pJ {n:Nat} {i:Int} {j:Nat} (h:ixN n i=some j):seqIndex? i n=some j∧j<n∧-(n:Int)≤i∧i<n:=by
  unfold ixN at h
  by_cases h0:0≤i
  · rw [if_pos h0] at h
    by_cases h1:i<n
    · rw [if_pos h1] at h
      have e:i.toNat=j:=Option.some.inj h
      exact ⟨by rw [seqIndex_of h0 h1,e],by omega,by omega,h1⟩
    · rw [if_neg h1] at h;cases h
  · rw [if_neg h0] at h
    by_cases h1:-(n:Int)≤i
    · rw [if_pos h1] at h
      have e:(i + n).toNat=j:=Option.some.inj h
      exact ⟨by rw [seqIndex_neg (by omega) h1,e],by omega,h1,by omega⟩
    · rw [if_neg h1] at h;cases h
theorem pY {α:Type} {xs:List α} {i:Int} {v:α} (h:atI xs i=some v):∃ j,seqIndex? i xs.length=some j∧xs[j]?=some v∧j<xs.length∧-(xs.length:Int)≤i∧i<xs.length:=by
  unfold atI at h
  cases e:ixN xs.length i with
  | none=>rw [e] at h;cases h
  | some j =>
    rw [e] at h
    obtain ⟨h1,h2,h3,h4⟩:=pJ e
    exact ⟨j,h1,h,h2,h3,h4⟩
theorem kY {α:Type} {xs:List α} {j:Nat} {v:α} (h:xs[j]?=some v):atI xs (j:Int)=some v:=by
  have hj:j<xs.length:=(List.getElem?_eq_some_iff.mp h).1
  have e:ixN xs.length (j:Int)=some j:=by
    unfold ixN
    rw [if_pos (by omega),if_pos (by omega)];simp
  unfold atI;rw [e];exact h
def p8 (b:Expr):Prop:=∀ o i,subscripted b false o i=operate [o,i] (getItem o i)
def IxR (X:Cx) (r:R2):Prop :=
  ∀ (value slice:Expr) (pins:List (Addr × Obj)) (s:Shared) (σ:St) (H:Hp) (x y:V) (v u:Value) (Q:VK),Inv X pins σ H s→RelV x v→RelV y u→r x y H Q →
    subscripted slice false v u=operate [v,u] (getItem v u)→wpAny (model X.prog X.w) X.A (subscriptTail value slice v u) (EP X pins σ Q) X.xe s
def MtR (X:Cx) (id:String) (r:V→List V→Hp→VK→Prop):Prop :=
  ∀ (pins:List (Addr × Obj)) (s:Shared) (σ:St) (H:Hp) (x:V) (xs:List V) (v:Value) (us:List Value) (Q:VK),Inv X pins σ H s→RelV x v→Vals xs us→r x xs H Q →
    wpAny (model X.prog X.w) X.A (call (.builtin id) (v :: us)) (EP X pins σ Q) X.xe s
section
variable {X:Cx} {a b:Expr} {ta tb:TE} {pos:Pos}
theorem cV {r:R2} (hr:IxR X r) (ha:PE X a ta) (hb:PE X b tb) (hs:p8 b):PE X (.Subscript a b pos) (tOp r ta tb):=by
  intro pins s σ H Q I h
  exact Subscript_ (uh ha hb I h fun v u s2 x y H2 I2 rx ry q=>hr a b pins s2 σ H2 x y v u Q I2 rx ry q (hs _ _))
def rIxL (K:PySem.W.Frag):R2:=fun x y H Q=>∃ p xs i v,x=.ref p∧y=.int i∧SqL K H p xs∧atI xs i=some v∧Q v H
theorem bD:IxR X (rIxL X.K):=by
  intro value slice pins s σ H x y v u Q I rx ry h hs
  obtain ⟨p,xs,i,z,rfl,rfl,hq,he,q⟩:=h
  cases rx
  obtain ⟨t,rfl⟩:=ry
  obtain ⟨its,r,pl,hz⟩:=I.list hq
  obtain ⟨j,h1,h2,h3,h4,h5⟩:=pY he
  obtain ⟨w,ew,rw'⟩:=r.get h2
  have hl:=r.length
  have hn:=mH
  have fin:EP X pins σ Q w s:=⟨z,H,I,rw',q⟩
  by_cases h0:0≤i
  · have hj:i.toNat=j:=by
      rw [seqIndex_of h0 h5] at h1
      exact Option.some.inj h1
    exact item_listR pl.isList h0 (by omega) (by rw [hj];simpa using ew) fin hs
  · have hj:(i + (its.toArray.size:Int)).toNat=j:=by
      rw [seqIndex_neg (by omega) h4] at h1
      rw [List.size_toArray,← hl]
      exact Option.some.inj h1
    exact subscriptTail_builtinR (x:=w) pl.isList.typeIs slot_list_getitem.lookup
      (wpAny_getItem_list_neg (Q:=fun r s'=>r=w∧EP X pins σ Q r s') pl.isList (by omega) (by rw [List.size_toArray] <;> omega) (by omega) (by rw [hj];simpa using ew) ⟨rfl,fin⟩) hs
theorem fO (lo hi:Option Int) (n:Nat):(sliceBounds lo hi none n).1=((HT.sIx n 0 lo:Nat):Int)∧(sliceBounds lo hi none n).2.1=((HT.sIx n n hi:Nat):Int)∧(sliceBounds lo hi none n).2.2=1:=by
  refine ⟨?_,?_,rfl⟩
  · cases lo with
    | none=>simp [sliceBounds,HT.sIx]
    | some i =>
      simp only [sliceBounds,HT.sIx,Option.getD_none,show (1:Int) > 0 by decide,if_true]
      by_cases h:i<0
      · simp only [h,if_true] <;> omega
      · simp only [h,if_false] <;> omega
  · cases hi with
    | none=>simp [sliceBounds,HT.sIx]
    | some i =>
      simp only [sliceBounds,HT.sIx,Option.getD_none,show (1:Int) > 0 by decide,if_true]
      by_cases h:i<0
      · simp only [h,if_true] <;> omega
      · simp only [h,if_false] <;> omega
theorem fB (its:List Value) (lo hi:Option Int):slicePick its.toArray lo hi none=((its.drop (HT.sIx its.length 0 lo)).take (HT.sIx its.length its.length hi - HT.sIx its.length 0 lo)).toArray:=by
  obtain ⟨h1,h2,h3⟩:=fO lo hi its.toArray.size
  unfold slicePick
  rw [h1,h2,h3]
  simp only [sliceRange_one,pick_run,List.size_toArray] <;> rfl
def rSlL (K:PySem.W.Frag):V→Option Int→Option Int→Hp→VK→Prop:=fun x lo hi H Q=>∃ a xs,x=.ref a∧SqL K H a xs∧∀ p,H p=none→Q (.ref p) (upd H p (.lst (pR xs lo hi)))
theorem o9:SlR X (rSlL X.K):=by
  intro pins s σ H x v vl vu lo hi sl Q I rx hs pl pu h
  obtain ⟨a,xs,rfl,hx,q⟩:=h
  cases rx
  obtain ⟨its,r,ht,hz⟩:=I.list hx
  have hlen:=r.length
  refine ⟨"list",_,slot_list_getitem.lookup,ht.isList.typeIs,?_⟩
  refine wpAny_getItem_list_slice ht.isList hs pl pu .none (by simp) ?_ (by rw [List.size_toArray] <;> omega)
  rw [fB,← hlen]
  refine ⟨.ref s.heap.objs.size,_,I.laid (t':=s.toks) (o:=.lst (pR xs lo hi)) (fun b ob q=>Heap.get?_push_of_some _ q) (Nat.le_refl _) ?_,rfl,q _ (I.hok.fresh (Nat.le_refl _))⟩
  exact ⟨Nat.le_trans (gR xs lo hi) hz,_,0,(r.drop (HT.sIx xs.length 0 lo)).take (HT.sIx xs.length xs.length hi - HT.sIx xs.length 0 lo),Heap.get?_push_size _ rfl⟩
theorem bK:gK X (.builtin "len") (fun xs H Q=>∃ z,xs=[.str z]∧z.length≤sizeLine∧Q (.int z.length) H):=by
  intro pins s σ H xs us Q I r h
  obtain ⟨z,rfl,hz,q⟩:=h
  obtain ⟨u,rfl,t,rfl⟩:=vals1 r
  have hn:=mH
  exact len_str (by omega) ⟨.int z.length,H,I.tok _,⟨_,rfl⟩,q⟩
def tyV (K:PySem.W.Frag) (T:String) (x:V) (H:Hp):Prop:=match x with
  | .str _=>T="str"
  | .int _=>T="int"
  | .ref p=>(T="list"∧∃ xs,SqL K H p xs)∨(T="tuple"∧∃ o,K.lookup p=some o∧o.cls=.type "tuple"∧o.dict=none) ∨
      (T="dict"∧((∃ kvs,H p=some (.dK kvs))∨∃ kvs,H p=some (.dT kvs)))∨(T="set"∧∃ S n,H p=some (.set S n))
  | _=>False
theorem qg {pins:List (Addr × Obj)} {σ:St} {H:Hp} {s:Shared} {T:String} {x:V} {v:Value} (I:Inv X pins σ H s) (r:RelV x v) (ty:tyV X.K T x H) :
    s.TypeIs v T∧∀ a,v=.ref a→∃ ob,s.heap.get? a=some ob∧ob.dict=none:=by
  cases x with
  | str z =>
    obtain ⟨t,rfl⟩:=r
    cases (show T="str" from ty)
    exact ⟨typeIs_str s z t,fun _ e=>nomatch e⟩
  | int i =>
    obtain ⟨t,rfl⟩:=r
    cases (show T="int" from ty)
    exact ⟨typeIs_int s i t,fun _ e=>nomatch e⟩
  | ref p =>
    cases r
    rcases ty with ⟨rfl,xs,hq⟩ | ⟨rfl,o,hk,hc,hd⟩ | ⟨rfl,hk⟩ | ⟨rfl,S,n,hk⟩
    · obtain ⟨its,_,pl,_⟩:=I.list hq
      refine ⟨pl.isList.typeIs,fun a e=>?_⟩
      cases e
      obtain ⟨o,n,e,c,hd,_⟩:=pl
      exact ⟨o,e,hd⟩
    · refine ⟨⟨o,I.kIn p o hk,hc⟩,fun a e=>?_⟩
      cases e
      exact ⟨o,I.kIn _ o hk,hd⟩
    · have z:∃ o,s.heap.get? p=some o∧o.ExactDict:=by
        rcases hk with ⟨kvs,hk⟩ | ⟨kvs,hk⟩
        · obtain ⟨_,_,_,_,o,_,_,e,ex,_⟩:=I.hok p _ hk
          exact ⟨o,e,ex⟩
        · obtain ⟨_,_,_,_,o,_,_,e,ex,_⟩:=I.hok p _ hk
          exact ⟨o,e,ex⟩
      obtain ⟨o,e,ex⟩:=z
      refine ⟨⟨o,e,ex.1⟩,fun a e2=>?_⟩
      cases e2
      exact ⟨o,e,ex.2.1⟩
    · obtain ⟨o,_,_,_,e,ex,_⟩:=I.hok p _ hk
      refine ⟨⟨o,e,ex.1⟩,fun a e2=>?_⟩
      cases e2
      exact ⟨o,e,ex.2.1⟩
  | _=>exact False.elim ty
def tBM (K:PySem.W.Frag) (T:String) (r:V→List V→Hp→VK→Prop) (to:TE) (t:TA):TE:=fun σ H Q=>to σ H fun x H1=>tyV K T x H1∧t σ H1 fun xs H2=>r x xs H2 Q
variable {o e:Expr} {es:List Expr} {to:TE} {t:TA} {name:Str} {apos cpos:Pos} {T id:String} {r:V→List V→Hp→VK→Prop}
theorem uJ (pa:PlainAttrs T) (slot:Slot T name id) (hty:typeOf (.builtin id)=pure (.type "method_descriptor")) (hm:MtR X id r) (ho:PE X o to) (ha:PA X (e :: es) t)
    (hbase:attributeBase o name X.env (eval o X.env)=eval o X.env:=by rfl)
    (hfew:((backTo cpos (starEach (e :: es) X.env)).all (fun x=>!x.1) && (backToKw cpos (keywordEach [] X.env)).all (fun x=>x.1.isSome)
      && decide ((e :: es).length + ([]:List Keyword).length + (if ([]:List Keyword).isEmpty then 0 else 1)<30))=true:=by rfl)
    (hline:(apos.endLine == cpos.line)=true:=by rfl) (hs:starEach (e :: es) X.env=(false,eval e X.env) :: starEach es X.env:=by rfl) (hplain:(backTo cpos (starEach es X.env)).any (·.1)=false:=by rfl) :
    PE X (.Call (.Attribute o name apos) (e :: es) [] cpos) (tBM X.K T r to t):=by
  intro pins s σ H Q I h
  refine wpAny_Call_method_late hbase hfew hline rfl (thn (ho pins s σ H _ I h) fun v s1 ⟨x,H1,I1,r1,ty,q1⟩=>?_)
  obtain ⟨h1,h2⟩:=qg I1 r1 ty
  refine ⟨T,id,pa,slot,hty,h1,h2,?_⟩
  have hA:=ha cpos pins s1 σ H1 _ I1 q1
  rw [hs] at hA ⊢
  refine Calls.callWith_builtin (by show (false || (backTo cpos (starEach es X.env)).any (·.1))=false;rw [hplain] <;> rfl) (Calls.evalArgs_plain ?_)
  exact thn hA fun us s2 ⟨vs,H2,I2,r2,q2⟩=>hm pins s2 σ H2 x vs v us Q I2 r1 r2 q2
end
end L2
namespace L2
open PySem PySem.Spec PyProof.Rows
def MtM (X:Cx) (id:String) (r:V→List V→Hp→VK→Prop):Prop :=
  ∀ (pins:List (Addr × Obj)) (s:Shared) (σ:St) (H:Hp) (x:V) (xs:List V) (v:Value) (us:List Value) (Q:VK),Inv X pins σ H s→RelV x v→Vals xs us→r x xs H Q →
    wpAny (model X.prog X.w) X.A (call (.builtin id) (v :: us)) (EP X pins σ Q) X.xe s
theorem Vals.one:∀ {x:V} {us:List Value},Vals [x] us→∃ u,us=[u]∧RelV x u
  | _,_,.cons r .nil=>⟨_,rfl,r⟩
section
variable {X:Cx} {pins:List (Addr × Obj)} {σ:St} {H:Hp} {s:Shared} {l b:Addr} {xs ys zs:List V}
theorem Inv.lset {its its':List Value} {n:Nat} {f:Array Value→Array Value} {t':Nat} (I:Inv X pins σ H s) (hH:H l=some (.lst xs))
    (e:s.heap.get? l=some { cls:=.type "list",data:=.seq its.toArray n }) (hf:f its.toArray=its'.toArray) (hv:Vals ys its') (hz:ys.length≤sizeLine) :
    Inv X pins σ (upd H l (.lst ys)) { s with heap:=s.heap.update l (Obj.mapSeq f),toks:=t' }:=by
  have q:=PySem.IsL.update e f
  rw [hf] at q
  refine I.write (x:=l) (e:=l) (by rw [hH];exact trivial) (.inl rfl) (fun b' u hb hu=>(Heap.get?_update_other s.heap (Obj.mapSeq f) (Ne.symm hb)).trans hu) ⟨_,q⟩ ?_
  exact ⟨hz,its',_,hv,q⟩
theorem Inv.lnew {its:List Value} {t':Nat} (I:Inv X pins σ H s) (hv:Vals ys its) (hz:ys.length≤sizeLine) :
    Inv X pins σ (upd H s.heap.objs.size (.lst ys)) { s with heap:=s.heap.push { cls:=.type "list",data:=.seq its.toArray },toks:=t' } :=
  I.laid (fun _ _ q=>Heap.get?_push_of_some _ q) (Nat.le_refl _) ⟨hz,its,0,hv,Heap.get?_push_size _ rfl⟩
theorem Inv.fresh (I:Inv X pins σ H s):H s.heap.objs.size=none:=I.hok.fresh (Nat.le_refl _)
theorem Inv.uM (I:Inv X pins σ H s) (hH:H l=some (.lst xs)):xs.length≤sizeLine∧∃ (its:List Value) (n:Nat),Vals xs its∧xs.length=its.length∧s.heap.get? l=some { cls:=.type "list",data:=.seq its.toArray n }:=by
  obtain ⟨z,its,n,r,e⟩:=I.hok l _ hH
  exact ⟨z,its,n,r,r.length,e⟩
end
section
variable {X:Cx}
def pA:V→List V→Hp→VK→Prop:=fun x vs H Q=>∃ l xs y,x=.ref l∧vs=[y]∧H l=some (.lst xs)∧xs.length<sizeLine∧Q .non (upd H l (.lst (xs++[y])))
theorem gk:MtM X "list.append" pA:=by
  intro pins s σ H x vs v us Q I rx rv h
  obtain ⟨l,xs,y,rfl,rfl,hH,hz,q⟩:=h
  cases rx
  obtain ⟨u,rfl,ru⟩:=rv.one
  obtain ⟨z,its,n,r,hl,e⟩:=I.uM hH
  refine call_meets F.slot_list_append ⟨_,e,rfl⟩ F.entry_list_append (F.args_list_append_2 _ _) (PySem.list_append l its.toArray n u (by rw [List.size_toArray];omega)) ⟨e,?_⟩
  refine ⟨.non,_,I.lset (its':=its++[u]) hH e (by simp) (r.append (.cons ru .nil)) ?_,rfl,q⟩
  rw [List.length_append,List.length_singleton]
  omega
def rCat:R2:=fun x y H Q=>∃ l b xs zs,x=.ref l∧y=.ref b∧H l=some (.lst xs)∧H b=some (.lst zs)∧xs.length + zs.length≤sizeLine∧∀ p,H p=none→Q (.ref p) (upd H p (.lst (xs++zs)))
theorem qD:OpR X (binaryOp .Add) rCat:=by
  intro pins s σ H x y v u Q I rx ry h
  obtain ⟨l,b,xs,zs,rfl,rfl,hH,hB,hz,q⟩:=h
  cases rx
  cases ry
  obtain ⟨z,its,n,r,hl,e⟩:=I.uM hH
  obtain ⟨z2,its2,n2,r2,hl2,e2⟩:=I.uM hB
  refine PySem.P.add_list e e2 ?_ (by rw [List.size_toArray,List.size_toArray];omega)
  have ea:its.toArray++its2.toArray=(its++its2).toArray:=by simp
  rw [ea]
  exact ⟨.ref _,_,I.lnew (t':=s.toks) (r.append r2) (by rw [List.length_append];omega),rfl,q _ I.fresh⟩
end
end L2
namespace Att
open PySem PySem.W PySem.Calls PyProof.Rows
theorem eV {P:Params} {h:Heap}:∀ (ns:List Int) (vs:List Value),WellAll P h vs (ns.map WData.int)→IntsAre vs ns:=by
  intro ns
  induction ns with
  | nil =>
    intro vs w
    rw [List.map_nil] at w
    cases w
    exact .nil
  | cons n ns ih =>
    intro vs w
    rw [List.map_cons] at w
    cases w with
    | cons a b =>
      cases a
      exact .cons _ _ (ih _ b)
theorem jF {l:OpenLaw} {n:Nat} (hn:l.most=some n) {P:Params} {h:Heap} {args:List WData} {vals:List Value}
    (hpre:l.row.toRowW.claim.pre args=true) (hwl:WellAll P h vals args) :
    ∃ a vs ns,vals=[Value.ref a]∧args=[WData.list (ns.map WData.int)]∧h.get? a=some { cls:=.type "list",data:=.seq vs.toArray }∧IntsAre vs ns∧ns.length≤n:=by
  have hsh:WShape.hasAll [] args [.list .int]=true:=(pre_splitW hpre).1
  have hc:l.pre.holds [] { args:=args }=true:=(pre_splitW hpre).2
  obtain ⟨d,r,rfl,h1,h2⟩:=hasAllW_cons hsh
  obtain rfl:=hasAllW_nil h2
  obtain ⟨xs,rfl,h3⟩:=hasW_list h1
  obtain ⟨ns,rfl⟩:=items_int h3
  have hlen:ns.length≤n:=by
    unfold OpenLaw.pre at hc
    have h4:(WTm.not (.lt (.lit (.int (n:Int))) (.len (.arg 0)))).holds [] { args:=[.list (ns.map .int)] }=true:=by
      have h4:=(holds_andW hc).1
      rw [hn] at h4
      exact h4
    have h5:=condW_of h4 (w_not (w_lt w_lit (w_len_list (w_arg rfl))))
    rw [List.length_map] at h5
    refine Nat.le_of_not_lt fun q=>?_
    have q':(n:Int)<((ns.length:Nat):Int):=by omega
    first
      | (rw [decide_eq_true q'] at h5;exact absurd h5 (by decide))
      | (simp at h5;omega)
  cases hwl with
  | cons w1 w2 =>
    cases w2
    cases w1 with
    | list ho hall=>exact ⟨_,_,ns,rfl,rfl,ho,eV ns _ hall,hlen⟩
theorem jJ (l:OpenLaw) (args:List WData):l.row.toRowW.claim.post args (.bool true) args=true :=
  postW_of (r:=l.row.toRowW) (X:=(true == true))
    (show WShape.has [] (.bool true) .bool=true by first | rfl | decide | simp [WShape.has,WShape.arms,WShape.armsAll])
    (show (WTm.eq .res (.lit (.bool true))).value [] { args:=args,res:=some (.bool true),after:=args }=some (.bool (true == true)) from w_eq_bool (w_res rfl) w_lit) rfl
theorem gW {l:OpenLaw} {n:Nat} {q:Program} {loose:List Str} {XP:(Str→Option Value)→Heap→Prop} {YP:World→Heap→Prop} {d:DefRec}
    (hn:l.most=some n) (hdf:d.params.defaults=[])
    (call:∀ (w:World) (s₀ s₁:Shared) (mg mb:Str→Option Value) (fa:Addr) (o:Obj) (pm cd doc:Value) (a:Addr) (vs:List Value) (ns:List Int),
      Ground q loose [] XP w s₀ mg mb s₁.heap→YP w s₁.heap →
      s₁.heap.get? fa=some o→o.data=.func (docDef d.name d.params d.body d.scope pm cd doc)→s₁.heap.CodeRec cd d.name→mg d.name=some (.ref fa) →
      s₁.heap.get? a=some { cls:=.type "list",data:=.seq vs.toArray }→IntsAre vs ns→ns.length≤n→s₁.gens=#[] →
      codeAny (model l.prog w) callerA (.call (.ref fa) ⟨[.ref a],[]⟩) (fun r s'=>r=.ok (.ret (.bool true))∧OldK s₁.heap s'.heap∧s'.os=s₁.os∧AllBare s'.gens) s₁) :
    WalkO q loose XP YP l.row.toRowW d [] (fun f vs=>PySem.call f vs):=by
  intro w s₀ s₁ mg mb G Y fa o pm cd doc dV kV ho hd hcd hD hmg hg args vals as hpre hlay hrd hwl hlo
  obtain rfl:dV=.none:=Dflts.none hD hdf
  obtain rfl:kV=.none:=Dflts.noKw hD
  obtain ⟨a,vs,ns,rfl,rfl,hobj,hints,hlen⟩:=jF hn hpre hwl
  refine enter_call (codeAny_mono (call w s₀ s₁ mg mb fa o pm cd doc a vs ns G Y ho (fd_plain hd) hcd hmg hobj hints hlen hg) fun r s' hq=>?_)
  obtain ⟨rfl,h2,h3,h4⟩:=hq
  exact ⟨.inl ⟨.bool true,.bool true,[],rfl,fun _=>rfl,.bool true,jJ l _,fun _=>⟨List.Pairwise.nil,fun _ hm=>(nomatch hm)⟩⟩,h2,h3,h4⟩
end Att
namespace L2
open PySem PySem.Spec PyProof.Rows
theorem fL:∀ {vs:List Value} {ns:List Int},IntsAre vs ns→Vals (ns.map V.int) vs
  | _,_,.nil=>.nil
  | _,_,.cons n t h=>.cons ⟨t,rfl⟩ (fL h)
def Only (H:Hp):Prop:=∀ b,H b=none∨∃ o xs,H b=some (.frz o (.lst xs))
theorem lK {P:Program} {w:World} {K:PySem.W.Frag} {mg mb:Str→Option Value} {CX:CXT} {k:Nat} {fa a:Addr} {fd:FuncData} {x:Str} {sp:Sp} {s₁:Shared} {vs:List Value} {ns:List Int}
    (KX:K.In s₁.heap) (hns:s₁.heap.Ns mainGlobals mg) (hb:s₁.heap.Ns builtinsNs mb) (hbb:∀ x:Str,x≠"__name__"→mb x=bootBuiltins x) (hlim:s₁.heap.NoLimit) (hg:s₁.gens=#[])
    (ha:s₁.heap.get? a=some { cls:=.type "list",data:=.seq vs.toArray }) (hi:IntsAre vs ns) (hl:ns.length≤sizeLine) (hr:gF k callerA)
    (F:∀ base:Heap,K.In base→base.Ns mainGlobals mg→cX P w K mg base CX k fa fd [x] sp) (hbind:∀ (s:Shared) (u:Value),BindsTo s fd ⟨[u],[]⟩ [(x,u)])
    (hsp:∀ H:Hp,Only H→SqL K H a (ns.map V.int)→sp [.ref a] H (fun v _=>v=.bl true) fun _ _ _=>False)
    (hCX:∀ H e s',CX [] H s₁ (fun _ _ _=>False) e s'→False) :
    codeAny (model P w) callerA (.call (.ref fa) ⟨[.ref a],[]⟩) (fun r s'=>r=.ok (.ret (.bool true))∧OldK s₁.heap s'.heap∧s'.os=s₁.os∧AllBare s'.gens) s₁:=by
  have rv:=fL hi
  have lenV:=hi.length
  have core:∀ H:Hp,Only H→SqL K H a (ns.map V.int)→HOk P w H s₁.heap→(∀ b,H b≠none→b=a)→(H a≠none→K.lookup a=none) →
      codeAny (model P w) callerA (.call (.ref fa) ⟨[.ref a],[]⟩) (fun r s'=>r=.ok (.ret (.bool true))∧OldK s₁.heap s'.heap∧s'.os=s₁.os∧AllBare s'.gens) s₁:=by
    intro H hO hS hok hA hK
    have base_of:∀ {b:Addr} {o:Obj},s₁.heap.get? b=some o→H b=none→(lQ s₁.heap H).get? b=some o:=fun e n=>lO e n
    have noA:∀ {b:Addr} {o:Obj} {es:Array DictEntry} {ep:Nat},s₁.heap.get? b=some o→o.data=.dict es ep→H b=none:=fun {b o es ep} e d=>by
      cases q:H b with
      | none=>rfl
      | some u =>
        have e':b=a:=hA b (by rw [q];simp)
        subst e'
        rw [ha] at e;cases e
        have d':Data.seq vs.toArray _=Data.dict es ep:=d
        cases d'
    have nsK:∀ {b:Addr} {m:Str→Option Value},s₁.heap.Ns b m→(lQ s₁.heap H).Ns b m:=fun {b m} ⟨o,es,ep,e,d,r⟩=>⟨o,es,ep,base_of e (noA e d),d,r⟩
    have hKb:K.In (lQ s₁.heap H):=fun b o e=>base_of (KX b o e) (by
      cases q:H b with
      | none=>rfl
      | some u =>
        have e':b=a:=hA b (by rw [q];simp)
        subst e'
        rw [hK (by rw [q];simp)] at e;cases e)
    have hM:Mod K mg (lQ s₁.heap H):=⟨hKb,nsK hns,⟨mb,nsK hb,hbb⟩,let ⟨mc,h1,h2⟩:=hlim;⟨mc,nsK h1,h2⟩⟩
    have e0:um P w K mg (lQ s₁.heap H) callerA [] s₁ H:=⟨rfl,hM,fun b o e=>pG e,Nat.le_of_eq (j5 _ _),trivial,fun b hb=>absurd (show b∈([]:List Addr) from hb) (by simp),hok,.of_eq hg⟩
    refine codeAny_mono ((F _ hKb (nsK hns)).run callerA [] s₁ H ⟨[.ref a],[]⟩ [.ref a] [.ref a] _ _ hr e0 (hbind s₁ (.ref a)) (.cons rfl .nil) (hsp H hO hS)) fun r s' h=>?_
    cases r with
    | error e=>exact (hCX H e s' h).elim
    | ok fl =>
      cases fl with
      | next=>exact False.elim h
      | brk=>exact False.elim h
      | cont=>exact False.elim h
      | ret u =>
        obtain ⟨v,H',os,bare,un,hok',r',q⟩:=h
        have q':v=.bl true:=q
        subst q'
        obtain rfl:u=Value.bool true:=r'
        refine ⟨rfl,OldK.of_keep fun b o e=>?_,os,bare⟩
        cases q:H b with
        | none=>exact un.keep b o e q (by intro z;exact absurd (show b∈([]:List Addr) from z) (by simp)) (by simp)
        | some u =>
          rcases hO b with z | ⟨ob,xs,z⟩
          · rw [q] at z;cases z
          · have z2:=un.frzs b ob _ z
            obtain ⟨e1,_⟩:=hok b _ z
            obtain ⟨e2,_⟩:=hok' b _ z2
            rw [e] at e1;cases e1
            exact e2
  cases hk:K.lookup a with
  | some o =>
    have e:=KX a o hk
    rw [ha] at e
    cases e
    refine core (fun _=>none) (fun _=>.inl rfl) (.inr ⟨_,vs.toArray,_,hk,rfl,rfl,rfl,by rw [List.size_toArray,lenV];exact hl,by simpa using rv⟩) (fun b u z=>by have z':(none:Option HO)=some u:=z;cases z') (fun b z=>absurd rfl z) fun z=>absurd rfl z
  | none =>
    refine core (fun b=>if b=a then some (.frz { cls:=.type "list",data:=.seq vs.toArray } (.lst (ns.map V.int))) else none) (fun b=>?_) (.inl (.inr ⟨{ cls:=.type "list",data:=.seq vs.toArray },if_pos rfl⟩)) (fun b u z=>?_) (fun b z=>?_) fun _=>hk
    · by_cases hb:b=a
      · exact .inr ⟨_,_,if_pos hb⟩
      · exact .inl (if_neg hb)
    · by_cases hb:b=a
      · have z':=(if_pos hb).symm.trans z
        cases z'
        subst hb
        exact ⟨ha,by rw [List.length_map];exact hl,vs,_,rv,ha⟩
      · have z':=(if_neg hb).symm.trans z
        cases z'
    · by_cases hb:b=a
      · exact hb
      · exact absurd (if_neg hb) z
end L2
namespace L2
open PySem PySem.Spec PyProof.Rows
abbrev KOf {K:PySem.W.Frag} {h:Heap} (_:K.In h):PySem.W.Frag:=K
theorem oZ {l:PySem.W.OpenLaw} {n k:Nat} {q:Program} {loose:List Str} {XP:(Str→Option Value)→Heap→Prop} {YP:World→Heap→Prop} {d:DefRec} {K:Params→PySem.W.Frag} {CX:World→CXT} {sp:World→Sp} {x:Str}
    (hn:l.most=some n) (hn2:n≤sizeLine) (hdf:d.params.defaults=[]) (hr:gF k callerA)
    (hY:∀ (w:World) (h:Heap),YP w h→(K w.params).In h)
    (F:∀ (w:World) (mg:Str→Option Value) (fa:Addr) (h:Heap),(K w.params).In h→h.Ns mainGlobals mg→mg d.name=some (.ref fa) →
      ∃ fd:FuncData,(∀ (s:Shared) (u:Value),BindsTo s fd ⟨[u],[]⟩ [(x,u)]) ∧
        ∀ base:Heap,(K w.params).In base→base.Ns mainGlobals mg→cX l.prog w (K w.params) mg base (CX w) k fa fd [x] (sp w))
    (hsp:∀ (w:World) (H:Hp) (a:Addr) (ns:List Int),ns.length≤n→Only H→SqL (K w.params) H a (ns.map V.int)→sp w [.ref a] H (fun v _=>v=.bl true) fun _ _ _=>False)
    (hCX:∀ (w:World) (H:Hp) (s:Shared) (e:Value) (s':Shared),CX w [] H s (fun _ _ _=>False) e s'→False) :
    PySem.W.WalkO q loose XP YP l.row.toRowW d [] (fun f vs=>PySem.call f vs):=by
  refine Att.gW hn hdf fun w s₀ s₁ mg mb fa o pm cd doc a vs ns G Y ho hd hcd hmg hobj hints hlen hg=>?_
  have KX:=hY w _ Y
  obtain ⟨fd,hb,hF⟩:=F w mg fa _ KX G.T.g hmg
  exact lK KX G.T.g G.T.b G.T.builtins G.T.nolimit hg hobj hints (Nat.le_trans hlen hn2) hr hF hb (fun H hO hS=>hsp w H a ns hlen hO hS) fun H e s'=>hCX w H s₁ e s'
end L2
namespace L2
open PySem PySem.Spec PyProof.Rows
abbrev CX0:CXT:=fun _ _ _ _ _ _=>False
abbrev E0:XK:=fun _ _ _=>False
theorem dR {X:Cx}:Passes CX0 X E0:=fun _ _ _ _ _ _ _ h=>h.elim
structure Fun (K:PySem.W.Frag) (x qual:Str) (st:Stmt) (f:Addr) (fd:FuncData):Prop where
  ex:∃ (oc:Value) (od:Option Addr) (kV doc pm:Value) (an:Option Addr) (cdv ct:Value) (osl:Array (Option Value)),
    fd=PySem.W.fnOf x qual (aF st) (aD st) (aj st) .none kV doc pm an cdv ct∧K.lookup f=some ⟨oc,od,.func fd,osl⟩∧PySem.W.codeIn K cdv qual=true
  kp:PySem.W.keepIn K (.ref f)=true
variable {P:Program} {w:World} {K:PySem.W.Frag} {mg:Str→Option Value} {base:Heap} {T:fJ}
theorem Fun.ok {x qual:Str} {st:Stmt} {f:Addr} {fd:FuncData} {N ps:List Str} {k:Nat} {sp:Sp} (F:Fun K x qual st f fd) (S:bI N ps (aj st)) (len:∀ vs H Q E,sp vs H Q E→vs.length=ps.length)
    (hbody:∀ (cdv:Value) (A:Around) (outer:List Env) (s:Shared) (H:Hp) (vs:List V) (Q:VK) (E:XK),gF k (A.deeper (envOfC qual (aj st) s.heap.objs.size f cdv))→sp vs H Q E →
      ∃ t,PSs (oV CX0 P w K mg base N qual (aj st) f cdv A outer s H E).nox (aD st) t∧t { nx:=fun _ H'=>Q .non H',rt:=Q } (start N vs) H):cX P w K mg base CX0 (k + 1) f fd ps sp:=by
  obtain ⟨oc,od,kV,doc,pm,an,cdv,ct,osl,rfl,lk,hcd⟩:=F.ex
  refine tZ lk hcd S len fun A outer s H vs Q E hr hsp=>?_
  obtain ⟨t,h,q⟩:=hbody cdv A outer s H vs Q E hr hsp
  exact ⟨t,h.nox,q⟩
theorem Fun.binds {x qual:Str} {st:Stmt} {f:Addr} {fd:FuncData} {ps:List Str} (F:Fun K x qual st f fd)
    (h:∀ (kV doc pm:Value) (an:Option Addr) (cdv ct:Value) (us:List Value),us.length=ps.length→bindArgs (PySem.W.fnOf x qual (aF st) (aD st) (aj st) .none kV doc pm an cdv ct) ⟨us,[]⟩=pure (ps.zip us)):Binds K fd ps []:=by
  obtain ⟨oc,od,kV,doc,pm,an,cdv,ct,osl,rfl,lk,hcd⟩:=F.ex
  exact .all (h kV doc pm an cdv ct)
theorem cO {x qual:Str} {st:Stmt} {f:Addr} {oc:Value} {od an:Option Addr} {osl:Array (Option Value)} {kV doc pm cdv ct:Value} (l:K.lookup f=some ⟨oc,od,.func (PySem.W.fnOf x qual (aF st) (aD st) (aj st) .none kV doc pm an cdv ct),osl⟩)
    (c:PySem.W.codeIn K cdv qual=true) (k:PySem.W.keepIn K (.ref f)=true):Fun K x qual st f (PySem.W.fnOf x qual (aF st) (aD st) (aj st) .none kV doc pm an cdv ct):=⟨⟨oc,od,kV,doc,pm,an,cdv,ct,osl,rfl,l,c⟩,k⟩
section
variable {X:Cx}
theorem pv (i:Nat) {x:Str} {pos:Pos} (hN:X.N[i]?=some x:=by rfl) (hv:Vis X.env.scope x:=by first | exact Or.inl rfl | exact Or.inr (Or.inl rfl) | exact Or.inr (Or.inr rfl)) (hd:(x == ("__debug__":Str))=false:=by decide)
    (hcd:(x == ("__classdict__":Str))=false:=by decide):PE X (.Name x pos) (wO i):=qy hN hv hd hcd
end
theorem iQ {A B:Prop} (h:B):if false=true then A else B:=by
  rw [if_neg Bool.false_ne_true]
  exact h
theorem iM {A B:Prop} (h:A):if true=true then A else B:=by
  rw [if_pos rfl]
  exact h
end L2
namespace L2
open PySem PySem.Spec PyProof.Rows
def clo (cells:List (Str × Addr)):List (Str × NameKind)→List (Str × Addr)→List (Str × Addr)
  | [],cs=>cs
  | (n,k) :: r,cs=>clo cells r (if k == .free then (n,(cells.lookup n).getD 0) :: cs else cs)
theorem kJ {env:Env}:∀ (names:List (Str × NameKind)) (cs:List (Str × Addr)),(∀ y∈names,y.2=.free→∃ c,env.cells.lookup y.1=some c) →
    (forIn names cs fun (x:Str × NameKind) (r:List (Str × Addr))=>(do
      let cs:=r
      match x with
      | (name,kind) =>
        if kind == .free then do
          let c ← cellOf env name
          let cs:=(name,c) :: cs
          pure (ForInStep.yield cs)
        else pure (ForInStep.yield cs):Sem (ForInStep (List (Str × Addr)))))=pure (clo env.cells names cs)
  | [],cs,_=>rfl
  | (n,k) :: r,cs,h=>by
    rw [List.forIn_cons]
    by_cases hk:k=.free
    · subst hk
      obtain ⟨c,hc⟩:=h (n,.free) List.mem_cons_self rfl
      have e:cellOf env n=pure c:=by unfold cellOf;rw [hc]
      simp only [beq_self_eq_true,if_true,e,pure_bind]
      rw [kJ r _ fun y hy=>h y (List.mem_cons_of_mem _ hy)]
      simp [clo,hc]
    · have hb:(k == NameKind.free)=false:=by simpa using hk
      simp only [hb,Bool.false_eq_true,if_false,pure_bind]
      rw [kJ r _ fun y hy=>h y (List.mem_cons_of_mem _ hy)]
      simp [clo,hb]
theorem eZ {env:Env} {scope:Scope} (h:∀ y∈scope.names,y.2=.free→∃ c,env.cells.lookup y.1=some c):closureFor scope env=pure (clo env.cells scope.names []):=by
  unfold closureFor
  have e:=kJ (env:=env) scope.names [] h
  first
    | (rw [← e];rfl)
    | (simp only [bind_pure];exact e)
    | exact e
theorem kI {cells:List (Str × Addr)}:∀ (names:List (Str × NameKind)) (cs:List (Str × Addr)) (p:Str × Addr),p∈clo cells names cs→p∈cs∨p.2=(cells.lookup p.1).getD 0
  | [],_,_,h=>.inl h
  | (n,k) :: r,cs,p,h=>by
    rcases kI r _ p h with h' | h'
    · by_cases hk:(k == NameKind.free)=true
      · rw [if_pos hk] at h'
        rcases List.mem_cons.mp h' with e | e
        · subst e;exact .inr rfl
        · exact .inl e
      · rw [if_neg hk] at h';exact .inl h'
    · exact .inr h'
theorem iW {cells:List (Str × Addr)}:∀ (names:List (Str × NameKind)) (cs:List (Str × Addr)) (x:Str),(cs.lookup x).isSome=true→((clo cells names cs).lookup x).isSome=true
  | [],_,_,h=>h
  | (n,k) :: r,cs,x,h=>by
    refine iW r _ x ?_
    by_cases hk:(k == NameKind.free)=true
    · rw [if_pos hk]
      rw [List.lookup_cons]
      cases x == n with
      | true=>rfl
      | false=>exact h
    · rw [if_neg hk];exact h
theorem gU {cells:List (Str × Addr)}:∀ (names:List (Str × NameKind)) (cs:List (Str × Addr)) (x:Str),(x,NameKind.free)∈names→((clo cells names cs).lookup x).isSome=true
  | [],_,_,h=>nomatch h
  | (n,k) :: r,cs,x,h=>by
    show ((clo cells r _).lookup x).isSome=true
    rcases List.mem_cons.mp h with e | e
    · have e1:x=n:=congrArg Prod.fst e
      have e2:NameKind.free=k:=congrArg Prod.snd e
      subst e1
      subst e2
      refine iW r _ x ?_
      rw [if_pos (by decide),List.lookup_cons]
      simp
    · exact gU r _ x e
theorem pU {cells:List (Str × Addr)} {names:List (Str × NameKind)} {x:Str} {c:Addr} (h:(clo cells names []).lookup x=some c):c=(cells.lookup x).getD 0:=by
  rcases kI names [] _ (PySem.mem_of_lookup h) with z | z
  · exact nomatch z
  · exact z
theorem iY {cells:List (Str × Addr)}:∀ {names:List (Str × NameKind)} (cs:List (Str × Addr)) {p:Str × Addr},p∈clo cells names cs→p∈cs∨(p.1,NameKind.free)∈names
  | [],_,_,h=>.inl h
  | (n,k) :: r,cs,p,h=>by
    rcases iY (names:=r) _ h with h' | h'
    · by_cases hk:(k == NameKind.free)=true
      · rw [if_pos hk] at h'
        rcases List.mem_cons.mp h' with e | e
        · subst e
          have:k=.free:=by simpa using hk
          subst this
          exact .inr List.mem_cons_self
        · exact .inl e
      · rw [if_neg hk] at h';exact .inl h'
    · exact .inr (List.mem_cons_of_mem _ h')
def eX (X:Cx) (scope:Scope) (N:List Str) (s:Shared) (H:Hp) (ex:List Addr):Cx :=
  { X with N:=N,s₀:=s,H₀:=H,env:=compEnvC scope (clo X.env.cells scope.names []) s.heap.objs.size X.env,outer:=X.stack,stack:=X.stack,ex:=ex,fn:=fun x=>((clo X.env.cells scope.names []).lookup x).isNone,pn:=[],xe:=fun _ _=>False }
def freeOk (sc scope:Scope):Bool:=scope.names.all fun y=>(y.2 != .free) || (sc.names.lookup y.1 == some .cell) || (sc.names.lookup y.1 == some .free)
def pC (scope:Scope):Bool:=(scope.kind == .function) && (scope.names.all fun y=>y.2 != .cell) && (scope.names.all fun y=>y.2 != .local || scope.names.lookup y.1 == some .local)
def pW (scope:Scope) (N N':List Str) (cap:List (Option Nat)):Bool:=(cap.length == N'.length) && (N'.zip cap).all fun p=>match p.2 with
  | none=>true
  | some j=>N[j]? == some p.1 && scope.names.lookup p.1 == some .free
def kO (cap:List (Option Nat)) (σ:St):St:=cap.map fun o=>o.bind fun j=>(σ[j]?).bind id
theorem dB {f:Str × NameKind→Str × NameKind} (hf:∀ y,(f y).1=y.1) (x:Str):∀ names:List (Str × NameKind),(names.map f).lookup x=(names.lookup x).map fun k=>(f (x,k)).2
  | []=>rfl
  | (n,k) :: r=>by
    have ih:=dB hf x r
    have e1:(f (n,k)).1=n:=hf (n,k)
    have e2:f (n,k)=(n,(f (n,k)).2):=Prod.ext e1 rfl
    rw [List.map_cons,e2,List.lookup_cons,List.lookup_cons]
    cases hx:x == n with
    | true =>
      have:x=n:=by simpa using hx
      subst this
      rfl
    | false=>exact ih
def rlb (env:Env):Str × NameKind→Str × NameKind:=fun (n,k)=>if (k == NameKind.free && env.scope.kind == .function && env.kindOf n == some .cell) then (n,NameKind.cell) else (n,k)
theorem jH (env:Env) (y:Str × NameKind):(rlb env y).1=y.1:=by
  obtain ⟨n,k⟩:=y
  unfold rlb
  dsimp only
  split <;> rfl
theorem jG (env:Env) (n:Str) (k:NameKind):(rlb env (n,k)).2=k∨((rlb env (n,k)).2=.cell∧k=.free):=by
  unfold rlb
  dsimp only
  split
  · rename_i h
    rw [Bool.and_eq_true,Bool.and_eq_true] at h
    exact .inr ⟨rfl,by simpa using h.1.1⟩
  · exact .inl rfl
theorem dI (scope:Scope) (env:Env):(relabel scope env).names=scope.names.map (rlb env):=rfl
theorem fQ {scope:Scope} {env:Env} {x:Str} (h:scope.names.lookup x=some .free):(relabel scope env).names.lookup x=some .cell∨(relabel scope env).names.lookup x=some .free:=by
  rw [dI,dB (jH env),h]
  rcases jG env x .free with e | ⟨e,_⟩
  · exact .inr (congrArg some e)
  · exact .inl (congrArg some e)
theorem dW {scope:Scope} {env:Env} {x:Str} {k':NameKind} (hk:k'=.cell∨k'=.free) (hn:∀ y∈scope.names,y.2≠.cell) (h:(relabel scope env).names.lookup x=some k'):(x,NameKind.free)∈scope.names:=by
  rw [dI,dB (jH env)] at h
  cases e:scope.names.lookup x with
  | none=>rw [e] at h;cases h
  | some k =>
    rw [e] at h
    have h':(rlb env (x,k)).2=k':=Option.some.inj h
    have hm:=PySem.mem_of_lookup e
    rcases jG env x k with z | ⟨_,z⟩
    · rw [z] at h'
      subst h'
      rcases hk with z2 | z2
      · exact absurd z2 (hn _ hm)
      · rw [z2] at hm;exact hm
    · rw [z] at hm;exact hm
def PTs (X:Cx) (ifs:List Expr) (t:TT):Prop :=
  ∀ (pins:List (Addr × Obj)) (s:Shared) (σ:St) (H:Hp) (Q:Bool→Hp→Prop),Inv X pins σ H s→t σ H Q →
    wpAny (model X.prog X.w) X.A (forIn ifs true fun c r=>if r=true then do let ok ← isTrue c X.env (eval c X.env);pure (ForInStep.yield ok) else pure (ForInStep.yield r)) (TP X pins σ Q) X.xe s
def wN:TT:=fun _ H Q=>Q true H
theorem uo {i:Nat} {x:V} {τ:St} {H:Hp} {A B:St→Hp→Prop} (h:A (τ.set i (some x)) H):pN i x τ H fun τ4 H4=>wN τ4 H4 fun b H5=>if b=true then A τ4 H5 else B τ4 H5:=by
  show if true=true then A (τ.set i (some x)) H else B (τ.set i (some x)) H
  rw [if_pos rfl];exact h
theorem gO {X:Cx}:PTs X [] wN:=fun _ _ _ H _ I h=>wpAny_tests_nil ⟨H,I,h⟩
def jx (J:It) (acc:Addr) (g:TG) (tc:TT) (te:TE) (τ:St) (H1:Hp) (Q:Hp→Prop):Prop :=
  ∃ W:Nat→Nat→St→Hp→Prop,(∃ m,W 0 m τ (upd H1 acc (.lst [])))∧∀ i m τ H2,W i m τ H2→(J.stop i H2∧Q H2)∨(J.go i H2∧∃ N:St→Hp→Prop,(∀ τ' H',N τ' H'→∃ m',m'<m∧W (i + 1) m' τ' H')∧∀ x H3,J.yld i H2 x H3→g x τ H3 fun τ4 H4 =>
    tc τ4 H4 fun b H5=>if b=true then te τ4 H5 fun y H6=>∃ ys,H6 acc=some (.lst ys)∧ys.length<sizeLine∧N τ4 (upd H6 acc (.lst (ys++[y]))) else N τ4 H5)
theorem kj {K:PySem.W.Frag} {a:Addr} {xs:List V} {acc:Addr} {g:TG} {tc:TT} {te:TE} {τ:St} {H1:Hp} {Q:Hp→Prop} (Pv:Nat→St→Hp→Prop) (h0:Pv 0 τ (upd H1 acc (.lst []))) (hl:∀ i τ H,i≤xs.length→Pv i τ H→SqL K H a xs)
    (hs:∀ i x τ H,xs[i]?=some x→Pv i τ H→g x τ H fun τ4 H4=>tc τ4 H4 fun b H5=>if b=true then te τ4 H5 fun y H6=>∃ ys,H6 acc=some (.lst ys)∧ys.length<sizeLine∧Pv (i + 1) τ4 (upd H6 acc (.lst (ys++[y]))) else Pv (i + 1) τ4 H5)
    (hd:∀ τ H,Pv xs.length τ H→Q H):jx (Itl K a) acc g tc te τ H1 Q:=by
  refine ⟨fun i m τ H=>m=xs.length - i∧i≤xs.length∧Pv i τ H,⟨xs.length,by simp,Nat.zero_le _,h0⟩,?_⟩
  rintro i m τ H ⟨rfl,hi,p⟩
  have q:=hl i τ H hi p
  by_cases hlt:i<xs.length
  · refine .inr ⟨⟨xs,xs[i],q,by simp [hlt]⟩,Pv (i + 1),fun τ' H' p'=>⟨xs.length - (i + 1),by omega,rfl,hlt,p'⟩,fun x H' y=>?_⟩
    obtain ⟨e,y⟩:=y
    subst e
    exact hs i x τ _ (y xs q) p
  · have e:i=xs.length:=by omega
    subst e
    exact .inl ⟨⟨xs,q,Nat.le_refl _⟩,hd τ H p⟩
def qm (wi:TI) (cap:List (Option Nat)) (g:TG) (tc:TT) (te:TE):TE:=fun σ H Q=>wi σ H fun J H1=>∀ acc,H1 acc=none→jx J acc g tc te (kO cap σ) H1 (fun H2=>Q (.ref acc) H2)
abbrev ud (ifs:List Expr) (env:Env):Sem Bool:=forIn ifs true fun c r=>if r=true then do let ok ← isTrue c env (eval c env);pure (ForInStep.yield ok) else pure (ForInStep.yield r)
abbrev wpQ {α:Type} (prog:Program) (w:World) (A:Around) (m:Sem α) (Q:α→Shared→Prop) (s:Shared):Prop:=wpAny (model prog w) A m Q (fun _ _=>False) s
theorem kh {prog:Program} {w:World} {A:Around} {R:Result→Shared→Prop} {s:Shared} {elt target iter:Expr} {ifs:List Expr} {scope:Scope} {pos:Pos} {it acc:Value} {env:Env} (I:Nat→Shared→Prop)
    (turn:∀ k s0,I k s0→wpQ prog w A (pyNext it) (fun r s1=>(r=none∧R (.ok .next) s1)∨∃ v,r=some v ∧
      wpQ prog w A (letOwnedTupleGo target it v) (fun _ s2=>wpQ prog w A (assign target env v) (fun _ s3=>wpQ prog w A (ud ifs env) (fun ok s4 =>
        (ok=false∧∃ m,m<k∧I m s4)∨(ok=true∧wpQ prog w A (eval elt env) (fun x s5=>wpQ prog w A (call (.builtin "list.append") [acc,x]) (fun _ s6=>∃ m,m<k∧I m s6) s5) s4)) s3) s2) s1) s0)
    (k:Nat) (h:I k s):codeAny (model prog w) A (.compLoop (.ListComp elt [⟨target,iter,ifs,0⟩] scope pos) 0 it acc env) R s:=by
  have quiet:∀ (e:Value) (s':Shared),False→notedBy (model prog w) A env (fun e s'=>R (.error e) s') e s':=fun _ _ z=>z.elim
  apply codeAny_loop rfl I _ k h
  intro k s0 start
  apply wpAny_noted
  rw [compTurn_list]
  apply wpAny_bind
  apply wpAny_standAt
  apply wpAny_bind
  apply wpAny_mono (turn k s0 start) _ quiet
  rintro r s1 (⟨rfl,stop⟩ | ⟨v,rfl,rest⟩)
  · exact wpAny_pure stop
  apply wpAny_bind
  apply wpAny_mono rest _ quiet
  intro _ s2 h2
  apply wpAny_bind
  apply wpAny_mono h2 _ quiet
  intro _ s3 h3
  apply wpAny_bind
  apply wpAny_mono h3 _ quiet
  rintro ok s4 (⟨rfl,skip⟩ | ⟨rfl,add⟩)
  · exact wpAny_pure ⟨rfl,skip⟩
  apply wpAny_bind
  apply wpAny_bind
  apply wpAny_mono add _ quiet
  intro x s5 h5
  apply wpAny_bind
  apply wpAny_mono h5 _ quiet
  intro _ s6 h6
  exact wpAny_pure (wpAny_pure ⟨rfl,h6⟩)
section
variable {X:Cx} {tg iter elt:Expr} {ifs:List Expr} {scope:Scope} {pos:Pos} {wi:TI} {N':List Str} {cap:List (Option Nat)} {g:TG} {tc:TT} {te:TE}
theorem jm {use:Option (Value→Sem Unit)} {R:Value→Shared→Prop} (sc:Scope) (hsc:X.env.scope=sc) (N₀:List Str) (hN₀:X.N=N₀) (f1:freeOk sc scope=true) (f2:pC scope=true) (f3:pW scope N₀ N' cap=true) (hcalm:X.calm=true)
    (hi:PI X tg iter wi)
    (hg:∀ (s:Shared) (H:Hp) (ex:List Addr),PG (eX X scope N' s H ex) tg g)
    (hc:∀ (s:Shared) (H:Hp) (ex:List Addr),PTs (eX X scope N' s H ex) ifs tc)
    (he:∀ (s:Shared) (H:Hp) (ex:List Addr),PE (eX X scope N' s H ex) elt te)
    (hs:∀ x,foldedSetIterable iter X.env x=pure x)
    {pins:List (Addr × Obj)} {s:Shared} {σ:St} {H:Hp} {Q:V→Hp→Prop} (I:Inv X pins σ H s) (h:qm wi cap g tc te σ H Q)
    (fin:∀ (acc C:Addr) (s':Shared) (H':Hp) (m:Str→Option Value),Inv X pins σ H' s'→s'.heap.Ns C m→H' C=none→C≠X.env.locals→X.s₀.heap.objs.size≤C→(∀ x c,X.env.cells.lookup x=some c→c≠C)→(∀ p∈X.pn++pins,p.1≠C)→Q (.ref acc) H' →
      compPost (model X.prog X.w) X.A X.xe use R (.ref acc) C (.ok .next) s') :
    wpAny (model X.prog X.w) X.A (comprehension (.ListComp elt [⟨tg,iter,ifs,0⟩] scope pos) scope X.env (firstIterPos [⟨tg,iter,ifs,0⟩] pos) (newList []) false (firstIter [⟨tg,iter,ifs,0⟩] X.env) use) R X.xe s:=by
  have ok:=I.ok
  have fr:∀ y∈scope.names,y.2=.free→X.env.kindOf y.1=some .cell∨X.env.kindOf y.1=some .free:=fun y hy e=>by
    have q:=List.all_eq_true.mp f1 y hy
    rw [e] at q
    have q':((sc.names.lookup y.1 == some NameKind.cell) || (sc.names.lookup y.1 == some NameKind.free))=true:=by simpa using q
    rw [Bool.or_eq_true] at q'
    unfold Env.kindOf
    rw [hsc]
    rcases q' with z | z
    · exact .inl (by simpa using z)
    · exact .inr (by simpa using z)
  obtain ⟨⟨k1,k2⟩,k3⟩:((scope.kind == .function)=true∧(scope.names.all fun y=>y.2 != .cell)=true)∧(scope.names.all fun y=>y.2 != .local || scope.names.lookup y.1 == some .local)=true:=by
    unfold pC at f2
    rw [Bool.and_eq_true,Bool.and_eq_true] at f2
    exact f2
  have hkind:scope.kind=.function:=by simpa using k1
  have hcell:∀ y∈scope.names,y.2≠.cell:=fun y hy=>by
    have q:=List.all_eq_true.mp k2 y hy
    simpa using q
  have hnames:∀ y∈scope.names,y.2=.local→scope.names.lookup y.1=some .local:=fun y hy e=>by
    have q:=List.all_eq_true.mp k3 y hy
    rw [e] at q
    simpa using q
  have hclos:closureFor scope X.env=pure (clo X.env.cells scope.names []):=eZ fun y hy e=>ok.has y.1 (fr y hy e)
  have clX:∀ x c,(clo X.env.cells scope.names []).lookup x=some c→X.env.cells.lookup x=some c:=fun x c e=>by
    have e1:=pU e
    have hx:(x,NameKind.free)∈scope.names:=by
      rcases iY [] (PySem.mem_of_lookup e) with z | z
      · exact nomatch z
      · exact z
    obtain ⟨c',e2⟩:=ok.has x (fr (x,.free) hx rfl)
    rw [e2] at e1 ⊢
    rw [e1];rfl
  refine wpAny_comprehension_free (use:=use) rfl hs hclos hkind hnames ?_
  show wpAny (model X.prog X.w) X.A (eval iter X.env) _ X.xe s
  refine thn (hi pins s σ H _ I h) fun v s1 h1=>thn h1 fun itv s2 h2=>?_
  obtain ⟨it,fp,tn,J,H2,e,I2,T,st2,f2',h3⟩:=h2
  subst e
  refine wpAny_newObj_type ?_
  have fresh2:H2 s2.heap.objs.size=none:=I2.hok.fresh (Nat.le_refl _)
  have I3:Inv X pins σ (upd H2 s2.heap.objs.size (.lst [])) { s2 with heap:=s2.heap.push { cls:=.type "list",data:=.seq ([]:List Value).toArray } } :=
    I2.laid (t':=s2.toks) (fun b o e=>Heap.get?_push_of_some _ e) (Nat.le_refl _) ⟨Nat.zero_le _,[],0,.nil,Heap.get?_push_size _ rfl⟩
  have st3:tn 0 (s2.heap.push { cls:=.type "list",data:=.seq ([]:List Value).toArray }):=T.keep _ _ _ st2 fun b _ o e=>Heap.get?_push_of_some _ e
  have fpne:∀ b∈fp,b≠s2.heap.objs.size:=fun b hb z=>by
    obtain ⟨o,eo,_⟩:=T.obj 0 _ st2 b hb
    exact absurd (Heap.lt_size eo) (by rw [z];exact Nat.lt_irrefl _)
  have fp3:∀ b∈fp,oX X pins (upd H2 s2.heap.objs.size (.lst [])) b:=fun b hb=>by
    obtain ⟨a0,a1⟩:=f2' b hb
    exact ⟨by rw [aU (fpne b hb)];exact a0,a1⟩
  obtain ⟨W,⟨m0,w0⟩,turn⟩:=h3 s2.heap.objs.size fresh2
  generalize hacc:s2.heap.objs.size=acc at I3 fp3 w0 turn fpne ⊢
  generalize hs3:({ s2 with heap:=s2.heap.push { cls:=.type "list",data:=.seq ([]:List Value).toArray } }:Shared)=s3 at I3 ⊢
  have st3:tn 0 s3.heap:=by rw [← hs3];exact st3
  have accTr:(upd H2 acc (.lst [])) acc=some (.lst []):=cC
  refine wpAny_newFunctionEnv hcell (by intro y hy;cases hy) (fun h4 hns hsb=>?_) hkind
  have hCf:s3.heap.get? s3.heap.objs.size=none:=Heap.get?_none_of_le (Nat.le_refl _)
  have kp4:∀ b o,s3.heap.get? b=some o→h4.get? b=some o:=fun b o e=>hsb.extBut b o (Nat.ne_of_lt (Heap.lt_size e)) (Heap.get?_push_of_some _ e)
  let Y:Cx:=eX X scope N' s3 (upd H2 acc (.lst [])) fp
  have envY:Y.env=compEnvC scope (clo X.env.cells scope.names []) s3.heap.objs.size X.env:=rfl
  have okY:Y.Ok:=by
    refine ⟨ok.mod,?_,ok.glob,ok.blt,Nat.le_refl _,?_,?_,?_,ok.hd,ok.frames,.inl rfl,?_,?_,?_,?_,?_,?_,?_⟩
    · show (relabel scope X.env).kind=.function
      exact hkind
    · exact fun x y c h1 h2=>ok.inj x y c (clX x c h1) (clX y c h2)
    · intro x hx
      have hx':(relabel scope X.env).names.lookup x=some .cell∨(relabel scope X.env).names.lookup x=some .free:=hx
      have hm:(x,NameKind.free)∈scope.names:=by
        rcases hx' with z | z
        · exact dW (.inl rfl) hcell z
        · exact dW (.inr rfl) hcell z
      exact Option.isSome_iff_exists.mp (gU scope.names [] x hm)
    · intro x c hx h1
      have hx':((clo X.env.cells scope.names []).lookup x).isNone=true:=hx
      have h1':(clo X.env.cells scope.names []).lookup x=some c:=h1
      rw [h1'] at hx';cases hx'
    · intro b hb
      obtain ⟨q0,q1,q2,q3,q4,q5⟩:=fp3 b hb
      refine ⟨?_,fun x c h1=>q4 x c (clX x c h1)⟩
      obtain ⟨o,eo,_⟩:=T.obj 0 _ st3 b hb
      exact Nat.ne_of_lt (Heap.lt_size eo)
    · exact fun b o e=>I3.bs b o e
    · exact Nat.le_trans ok.bsz I3.sz
    · intro b o e hb
      obtain ⟨q0,q1,q2,q3,q4,q5⟩:=fp3 b hb
      rcases q3 with z | z
      · exact ok.noex b o e z
      · exact absurd (Nat.lt_of_lt_of_le (Heap.lt_size e) (Nat.le_trans ok.bsz z)) (Nat.lt_irrefl _)
    · intro b hb hf
      obtain ⟨q0,q1,q2,q3,q4,q5⟩:=fp3 b hb
      rcases List.mem_cons.mp (I3.jz b hf) with z | z
      · exact q1 z
      · exact q2 z
    · exact I3.stack
    · exact I3.gM
  have capl:cap.length=N'.length∧∀ p∈N'.zip cap,(match p.2 with | none=>true | some j=>N₀[j]? == some p.1 && scope.names.lookup p.1 == some .free)=true:=by
    unfold pW at f3
    rw [Bool.and_eq_true] at f3
    exact ⟨by simpa using f3.1,fun p hp=>List.all_eq_true.mp f3.2 p hp⟩
  have IY:Inv Y [] (kO cap σ) (upd H2 acc (.lst [])) { s3 with heap:=h4,toks:=s3.toks + ([]:List (Str × Value)).length }:=by
    refine ⟨okY,rfl,I3.bare,Un.kept kp4,⟨_,hns,?_⟩,?_,?_,?_,fun p hp=>absurd (show p∈([]:List (Addr × Obj)) from hp) (by simp),I3.hok.kept kp4,?_⟩
    · intro i x v e1 e2 e3
      have e1':N'[i]?=some x:=e1
      unfold kO at e2
      rw [List.getElem?_map] at e2
      cases ec:cap[i]? with
      | none=>rw [ec] at e2;cases e2
      | some o =>
        rw [ec] at e2
        cases o with
        | none=>cases e2
        | some j =>
          have e2':(σ[j]?).bind id=some v:=by simpa using e2
          have hz:(x,some j)∈N'.zip cap:=by
            refine List.mem_of_getElem? (i:=i) ?_
            rw [List.getElem?_zip_eq_some]
            exact ⟨e1',ec⟩
          have q:=capl.2 _ hz
          have q':(N₀[j]? == some x)=true∧(scope.names.lookup x == some NameKind.free)=true:=by simpa [Bool.and_eq_true] using q
          have q1:X.N[j]?=some x:=by rw [hN₀];simpa using q'.1
          have q2:scope.names.lookup x=some .free:=by simpa using q'.2
          have eσ:σ[j]?=some (some v):=by
            cases z:σ[j]? with
            | none=>rw [z] at e2';cases e2'
            | some y =>
              rw [z] at e2'
              have:y=some v:=e2'
              rw [this]
          have hk:=fr (x,.free) (PySem.mem_of_lookup q2) rfl
          obtain ⟨m,hn,hl⟩:=I3.loc
          have vis:Vis X.env.scope x:=by
            rcases hk with z | z
            · exact .inr (.inl z)
            · exact .inr (.inr z)
          obtain ⟨u,r,l⟩:=hl j x v q1 eσ vis
          refine ⟨u,r,.inr ⟨?_,?_⟩⟩
          · rcases fQ (scope:=scope) (env:=X.env) q2 with z | z
            · exact .inl z
            · exact .inr z
          · rcases l with ⟨kl,_⟩ | ⟨_,c,ecx,hcx⟩
            · rcases hk with z | z
              · have z':X.env.kindOf x=some .cell:=z
                rw [kl] at z';cases z'
              · have z':X.env.kindOf x=some .free:=z
                rw [kl] at z';cases z'
            · have hh:=gU (cells:=X.env.cells) scope.names [] x (PySem.mem_of_lookup q2)
              obtain ⟨c',ec'⟩:=Option.isSome_iff_exists.mp hh
              have ec2:=clX x c' ec'
              rw [ecx] at ec2
              cases ec2
              exact ⟨c,ec',hcx.keeps kp4⟩
    · intro x c e
      obtain ⟨v,z⟩:=I3.cell x c (clX x c e)
      exact ⟨v,z.keeps kp4⟩
    · exact I3.hok.fresh (Nat.le_refl _)
    · exact fun x c e=>I3.freeC x c (clX x c e)
    · show (kO cap σ).length=N'.length
      unfold kO
      rw [List.length_map];exact capl.1
  have fpY:∀ {H':Hp},(∀ b∈fp,H' b=none)→∀ b∈fp,oX Y [] H' b:=fun {H'} hn b hb=>by
    obtain ⟨q0,q1,q2,q3,q4,q5⟩:=fp3 b hb
    refine ⟨hn b hb,(okY.exf b hb).1,okY.exfs b hb,.inl hb,(okY.exf b hb).2,fun p hp=>absurd (show p∈([]:List (Addr × Obj)) from hp) (by simp)⟩
  have st4:tn 0 h4:=T.keep _ _ _ st3 fun b _ o e=>kp4 b o e
  have back:∀ {τ:St} {H':Hp} {s':Shared},Inv Y [] τ H' s'→Q (.ref acc) H'→compPost (model X.prog X.w) X.A X.xe use R (.ref acc) s3.heap.objs.size (.ok .next) s':=fun {τ H' s'} J q=>by
    have un:Un (frs X.stack) fp (upd H2 acc (.lst [])) H' s3.heap s'.heap:=J.base
    have IX:Inv X pins σ H' s':=I3.call' (J.os) un J.hok J.bare fun b hb=>by
      obtain ⟨q0,q1,q2,q3,q4,q5⟩:=fp3 b hb
      exact ⟨q3,q1,q4,q5⟩
    obtain ⟨m,hn,_⟩:=J.loc
    refine fin acc s3.heap.objs.size s' H' m IX hn J.free (Nat.ne_of_gt I3.lt) I3.sz (fun x c e z=>?_) (fun p hp z=>?_) q
    · obtain ⟨v,q⟩:=I3.cell x c e
      exact absurd q.lt (by rw [z];exact Nat.lt_irrefl _)
    · exact absurd (Heap.lt_size (I3.pin p hp).1) (by rw [z];exact Nat.lt_irrefl _)
  have loop:∀ s5:Shared,s5={ s3 with heap:=h4,toks:=s3.toks + ([]:List (Str × Value)).length } →
      codeAny (model X.prog X.w) X.A (.compLoop (.ListComp elt [⟨tg,iter,ifs,0⟩] scope pos) 0 (.ref it) (.ref acc) Y.env) (compPost (model X.prog X.w) X.A X.xe use R (.ref acc) s3.heap.objs.size) s5:=by
    rintro s5 rfl
    refine kh (fun n s'=>∃ i τ H',Inv Y [] τ H' s'∧tn i s'.heap∧(∀ b∈fp,H' b=none)∧W i n τ H') ?_ m0 ⟨0,_,_,IY,st4,fun b hb=>(fp3 b hb).1,w0⟩
    rintro n s6 ⟨i,τ,H6,I6,st6,fr6,w6⟩
    rcases turn i n τ H6 w6 with ⟨stop,q⟩ | ⟨go,N,hN,step⟩
    · refine wpAny_mono (T.done Y rfl rfl rfl hcalm i [] s6 τ H6 (fun _ _=>False) I6 (fpY fr6) st6 stop) (fun r s7 ⟨hr,I7⟩=>?_) fun _ _ z=>z.elim
      exact .inl ⟨hr,back I7 q⟩
    · refine wpAny_mono (T.item Y rfl rfl rfl hcalm i [] s6 τ H6 (fun _ _=>False) I6 (fpY fr6) st6 go) (fun r s6b ⟨u,hr,h7⟩=>?_) fun _ _ z=>z.elim
      refine .inr ⟨u,hr,?_⟩
      refine wpAny_mono h7 (fun _ s7 ⟨x,H7,I7,r7,y7,st7,fr7⟩=>?_) fun _ _ z=>z.elim
      have I7':=I7.pinned (fpY fr7) (T.obj _ _ st7)
      have again:∀ {τ8:St} {H8:Hp} {s8:Shared},Inv Y ([]++fW fp s7.heap) τ8 H8 s8→N τ8 H8→∃ m,m<n∧∃ i τ H',Inv Y [] τ H' s8∧tn i s8.heap∧(∀ b∈fp,H' b=none)∧W i m τ H':=fun {τ8 H8 s8} I8 n8=>by
        obtain ⟨m',hm,w8⟩:=hN τ8 H8 n8
        refine ⟨m',hm,i + 1,τ8,H8,I8.d9,T.keep _ _ _ st7 fun b hb o e=>(I8.pin (b,o) (List.mem_append_right _ (List.mem_append_right _ (cY hb e)))).1,fun b hb=>?_,w8⟩
        obtain ⟨o,e,d⟩:=T.obj _ _ st7 b hb
        exact (I8.pin (b,o) (List.mem_append_right _ (List.mem_append_right _ (cY hb e)))).2.1
      refine wpAny_mono (hg s3 (upd H2 acc (.lst [])) fp _ s7 τ H7 x u _ I7' r7 (step x H7 y7)) (fun _ s8 ⟨τ8,H8,I8,q8⟩=>?_) fun _ _ z=>z.elim
      refine wpAny_mono (hc s3 (upd H2 acc (.lst [])) fp _ s8 τ8 H8 _ I8 q8) (fun b s9 ⟨H9,I9,q9⟩=>?_) fun _ _ z=>z.elim
      cases b with
      | false =>
        rw [if_neg Bool.false_ne_true] at q9
        exact .inl ⟨rfl,again I9 q9⟩
      | true =>
        rw [if_pos rfl] at q9
        refine .inr ⟨rfl,?_⟩
        refine wpAny_mono (he s3 (upd H2 acc (.lst [])) fp _ s9 τ8 H9 _ I9 q9) (fun y s10 ⟨yv,H10,I10,r10,ys,hl,hz,q10⟩=>?_) fun _ _ z=>z.elim
        refine wpAny_mono (gk (X:=Y) _ s10 τ8 H10 (.ref acc) [yv] (.ref acc) [y] (fun v H'=>N τ8 H') I10 rfl (.cons r10 .nil) ⟨acc,ys,yv,rfl,rfl,hl,hz,q10⟩) (fun v s11 ⟨vv,H11,I11,r11,q11⟩=>?_) fun _ _ z=>z.elim
        exact again I11 q11
  exact codeAny_compStart_list (loop _ rfl) (T.self _ _ _ _ _ st4 (loop _ rfl))
theorem gP (sc:Scope) (hsc:X.env.scope=sc) (N₀:List Str) (hN₀:X.N=N₀) (N':List Str) (cap:List (Option Nat)) (f1:freeOk sc scope=true) (f2:pC scope=true) (f3:pW scope N₀ N' cap=true) (hcalm:X.calm=true)
    (hi:PI X tg iter wi)
    (hg:∀ (s:Shared) (H:Hp) (ex:List Addr),PG (eX X scope N' s H ex) tg g)
    (hc:∀ (s:Shared) (H:Hp) (ex:List Addr),PTs (eX X scope N' s H ex) ifs tc)
    (he:∀ (s:Shared) (H:Hp) (ex:List Addr),PE (eX X scope N' s H ex) elt te)
    (hs:∀ x,foldedSetIterable iter X.env x=pure x:=by intro _;rfl) :
    PE X (.ListComp elt [⟨tg,iter,ifs,0⟩] scope pos) (qm wi cap g tc te):=by
  intro pins s σ H Q I h
  rw [eval_ListComp]
  refine jm (use:=none) sc hsc N₀ hN₀ f1 f2 f3 hcalm hi hg hc he hs I h ?_
  intro acc C s' H' m IX hn hC h1 h2 h3 h4 q
  refine ⟨m,hn,fun h'' hs''=>?_⟩
  exact ⟨.ref acc,H',IX.turned (t':=s'.toks) (fun b o hb e=>(hs''.2 b hb).trans e) hC h1 (.inr h2) h3 h4,rfl,q⟩
end
end L2
namespace L2
open PySem PySem.Spec PyProof.Rows
section
variable {X:Cx}
theorem dD:gK X (.builtin "isinstance") (fun xs H Q=>∃ x t c b,xs=[x,.ty c]∧jd X.K H x t∧PySem.W.kitOne X.K t (.type c)=some b∧Q (.bl b) H):=by
  intro pins s σ H xs us Q I r h
  obtain ⟨x,t,c,b,rfl,ty,e,q⟩:=h
  obtain ⟨u,w,rfl,ru,rw'⟩:=vals2 r
  obtain rfl:w=Value.type c:=rw'
  exact jZ I ru ty e fun tk=>⟨.bl b,H,I.tok tk,rfl,q⟩
theorem ji:∀ (bs:List Bool),((List.range bs.length).all fun i=>(bs[i]?).getD true)=bs.all id:=by
  intro bs
  rw [Bool.eq_iff_iff]
  simp only [List.all_eq_true,List.mem_range,id_eq]
  constructor
  · intro h b hb
    obtain ⟨i,hi,e⟩:=List.getElem_of_mem hb
    have:=h i hi
    rw [List.getElem?_eq_getElem hi,e] at this
    exact this
  · intro h i hi
    rw [List.getElem?_eq_getElem hi]
    exact h _ (List.getElem_mem hi)
theorem jc (hc:X.calm=true):gK X (.builtin "all") (fun xs H Q=>∃ (p:Addr) (bs:List Bool),xs=[.ref p]∧SqL X.K H p (bs.map V.bl)∧Q (.bl (bs.all id)) H):=by
  intro pins s σ H xs us Q I r h
  obtain ⟨p,bs,rfl,hq,q⟩:=h
  obtain ⟨u,rfl,ru⟩:=vals1 r
  cases ru
  obtain ⟨its,r1,p1,hz⟩:=I.list hq
  have hl:=p1.isList
  have hlt:p<s.heap.objs.size:=p1.lt
  have hlen:=r1.length
  rw [List.length_map] at hlen
  refine call_all_walk (wpAny_pyIter_list hl ?_)
  refine ⟨s.heap.objs.size,[s.heap.objs.size,p],[s.heap.objs.size],its.toArray.size,_,_,fun i=>(bs[i]?).getD true,rfl,Walks.list (A:=X.A.in1) (I.ok.hd hc) _ p (Nat.ne_of_lt hlt) its.toArray,
    ⟨⟨_,Heap.get?_push_size _ rfl,rfl,rfl⟩,hl.push _⟩,fun i v s' Q' E' hP hQ=>?_,fun h' tk hk=>?_⟩
  · have hP':its[i]?=some v:=by simpa using hP
    have hi:i<bs.length:=by
      have:=(List.getElem?_eq_some_iff.mp hP').1
      omega
    obtain ⟨u,eu,ru⟩:=r1.get (x:=.bl bs[i]) (by rw [List.getElem?_map,List.getElem?_eq_getElem hi];rfl)
    rw [hP'] at eu
    cases eu
    cases ru
    dsimp only at hQ
    rw [List.getElem?_eq_getElem hi] at hQ
    exact wpAny_truthy_bool hQ
  · have e:((List.range its.toArray.size).all fun i=>(bs[i]?).getD true)=bs.all id:=by
      rw [List.size_toArray,← hlen];exact ji bs
    rw [e]
    refine ⟨.bl _,H,I.kept fun b o eo=>hk b o (fun hm=>?_) (Heap.get?_push_of_some _ eo),rfl,q⟩
    rw [List.mem_singleton.mp hm] at eo
    exact Nat.lt_irrefl _ (Heap.lt_size eo)
end
end L2
namespace L2
open PySem PySem.Spec PyProof.Rows
section
variable {X:Cx} {st:Stmt} {rest:List Stmt} {t u:TS}
def ux (t u:TS):TS:=fun D σ H=>∃ M:St→Hp→Prop,t { D with nx:=M } σ H∧∀ σ' H',M σ' H'→u D σ' H'
theorem dJ (h1:PS X st t) (h2:PSs X rest u):PSs X (st :: rest) (ux t u):=by
  intro pins s σ H D I h
  obtain ⟨M,ha,hb⟩:=h
  refine wpAny_execs_cons (thn (h1 pins s σ H { D with nx:=M } I ha) fun f s1 q=>?_)
  cases f with
  | next =>
    obtain ⟨σ',H',I',q⟩:=q
    exact h2 pins s1 σ' H' D I' (hb σ' H' q)
  | ret v=>exact q
  | brk=>exact q
  | cont=>exact q
end
end L2
namespace L2
open PySem PySem.Spec PyProof.Rows
structure Df (K:PySem.W.Frag) (mg:Str→Option Value) (x:Str) (st:Stmt) (ps:List Str) (a:Addr) (fd:FuncData):Prop where
  F:Fun K x x st a fd
  b:Binds K fd ps []
  m:mg x=some (.ref a)
theorem ints_get {ns:List Int} {i:Nat} {y:V} (h:(ns.map V.int)[i]?=some y):∃ z,ns[i]?=some z∧y=V.int z:=by
  rw [List.getElem?_map] at h
  cases e:ns[i]? with
  | none=>rw [e] at h;cases h
  | some z=>rw [e] at h;exact ⟨z,rfl,(Option.some.inj h).symm⟩
theorem bw {ns:List Int} {i:Nat} {z:Int} (h:ns[i]?=some z):atI (ns.map V.int) (i:Int)=some (V.int z):=kY (by rw [List.getElem?_map,h];rfl)
theorem lN {ns:List Int} {i:Int} {z:Int} (h0:0≤i) (h:ns[i.toNat]?=some z):atI (ns.map V.int) i=some (V.int z):=by
  obtain ⟨k,rfl⟩:=Int.eq_ofNat_of_zero_le h0
  exact bw (by simpa using h)
theorem iz {n:Nat} (h:n≤100000):n≤sizeLine:=Nat.le_trans h (by decide)
theorem cP {n:Nat} (h:n≤100000):n<sizeLine:=Nat.lt_of_le_of_lt h (by decide)
structure Blt (mg:Str→Option Value):Prop where
  len:mg "len"=none
  range:mg "range"=none
  list:mg "list"=none
  isinstance:mg "isinstance"=none
  bool:mg "bool"=none
  int:mg "int"=none
  all:mg "all"=none
  min:mg "min"=none
  max:mg "max"=none
  sum:mg "sum"=none
  sorted:mg "sorted"=none
  zip:mg "zip"=none
  tuple:mg "tuple"=none
  str:mg "str"=none
  any:mg "any"=none
  enumerate:mg "enumerate"=none
  reversed:mg "reversed"=none
  abs:mg "abs"=none
  ValueError:mg "ValueError"=none
  set:mg "set"=none
end L2
namespace L2
open PySem PySem.W PyProof.Rows
section
variable {N:Nat} {κ:Nat→Int} {R:Shared→Prop} {cmp:Nat→Nat→(Bool→Shared→Prop)→Shared→Prop}
def Cmp (N:Nat) (κ:Nat→Int) (R:Shared→Prop) (cmp:Nat→Nat→(Bool→Shared→Prop)→Shared→Prop):Prop :=
  ∀ i j C s,i<N→j<N→R s→(∀ s',R s'→C (decide (κ i<κ j)) s')→cmp i j C s
def Inj (N:Nat) (κ:Nat→Int):Prop:=∀ i j,i<N→j<N→i≠j→κ i≠κ j
variable (hc:Cmp N κ R cmp) (hI:Inj N κ)
include hc hI
end
end L2
namespace L2
open PySem PySem.Spec PyProof.Rows
end L2
namespace L2
open PySem PySem.W PySem.Spec PyProof.Rows
end L2
namespace L2
open PySem PySem.W PySem.Spec PyProof.Rows
end L2
namespace L2
open PySem PySem.W PySem.Spec PyProof.Rows
end L2
namespace L2
open PySem PySem.W PySem.Spec PyProof.Rows
end L2
namespace L2
open PySem PySem.W PySem.Spec PyProof.Rows
section
variable {X:Cx} {pins:List (Addr × Obj)} {σ:St} {H:Hp} {s:Shared}
def TabOk (P:Addr) (pos:Pos) (qual:Str) (H:Hp):Prop:=H P=some (.tbl #[])∨∃ c':Addr,H P=some (.tbl #[rawInt pos.line,rawInt pos.col,.ref c'])∧H c'=some (.ext fun h=>h.CodeRec (.ref c') qual)
end
end L2
namespace L2
open PySem PySem.W PySem.Spec PyProof.Rows
end L2
namespace L2
open PySem PySem.W PySem.Spec PyProof.Rows
end L2
namespace L2
open PySem PySem.Spec PyProof.Rows
abbrev fJ:=List (Addr × Pos × Str)
def TabsOk (T:fJ) (H:Hp):Prop:=∀ t∈T,TabOk t.1 t.2.1 t.2.2 H
structure bO (T:fJ) (H H':Hp):Prop where
  t0:TabsOk T H
  t1:TabsOk T H'
  keep:∀ b o,H b=some o→(∀ ps,o≠.tbl ps)→H' b=some o
  tb:∀ b ps,H b=some (.tbl ps)→∃ ps',H' b=some (.tbl ps')
theorem TabsOk.nil (H:Hp):TabsOk [] H:=fun t ht=>nomatch ht
theorem bO.refl {T:fJ} {H:Hp} (t:TabsOk T H):bO T H H:=⟨t,t,fun _ _ h _=>h,fun _ ps h=>⟨ps,h⟩⟩
theorem bO.trans {T:fJ} {H H1 H2:Hp} (a:bO T H H1) (b:bO T H1 H2):bO T H H2:=⟨a.t0,b.t1,fun c o h n=>b.keep c o (a.keep c o h n) n,fun c ps h=>by
  obtain ⟨ps',e⟩:=a.tb c ps h
  exact b.tb c ps' e⟩
theorem bO.free {T:fJ} {H H':Hp} (a:bO T H H') {l:Addr} (h:H' l=none):H l=none:=by
  cases q:H l with
  | none=>rfl
  | some o =>
    have key:(∃ ps,o=.tbl ps)∨∀ ps,o≠.tbl ps:=by
      cases o with
      | tbl ps=>exact .inl ⟨ps,rfl⟩
      | _=>exact .inr fun _ z=>by cases z
    rcases key with ⟨ps,rfl⟩ | n
    · obtain ⟨ps',e⟩:=a.tb l ps q
      rw [h] at e;cases e
    · have:=a.keep l o q n
      rw [h] at this;cases this
theorem bO.seq {T:fJ} {K:PySem.W.Frag} {H H':Hp} {a:Addr} {xs:List V} (e:bO T H H') (h:SqL K H a xs):SqL K H' a xs:=by
  rcases h with (h | ⟨o,h⟩) | h
  · exact .inl (.inl (e.keep _ _ h fun _ z=>by cases z))
  · exact .inl (.inr ⟨o,e.keep _ _ h fun _ z=>by cases z⟩)
  · exact .inr h
def p7 (T:fJ) (H:Hp) (P:List V→Prop) (Q:VK):Prop:=∀ (l:Addr) (H':Hp) (xs:List V),bO T H H'→H l=none→H' l=some (.lst xs)→P xs→Q (.ref l) H'
def dh:HO→Bool
  | .tbl _=>false
  | .ext _=>false
  | _=>true
structure Ow (T:fJ) (H0 H:Hp) (L:List (Addr × HO)):Prop where
  same:bO T H0 H
  new:∀ p∈L,H0 p.1=none
  at_:∀ p∈L,H p.1=some p.2
  pl:∀ p∈L,dh p.2=true
  nd:(L.map (·.1)).Nodup
section
variable {T:fJ} {H0 H1 H H':Hp} {L L':List (Addr × HO)} {a l:Addr} {o o':HO} {xs:List V}
theorem Ow.refl (t:TabsOk T H):Ow T H H []:=⟨bO.refl t,(fun p hp=>nomatch hp),(fun p hp=>nomatch hp),(fun p hp=>nomatch hp),List.nodup_nil⟩
theorem Ow.get (O:Ow T H0 H L) (k:Nat) (h:L[k]?=some (a,o):=by rfl):H a=some o:=O.at_ _ (List.mem_of_getElem? h)
theorem Ow.fr (O:Ow T H0 H L) (k:Nat) (h:L[k]?=some (a,o):=by rfl):H0 a=none:=O.new _ (List.mem_of_getElem? h)
theorem Ow.sq {K:PySem.W.Frag} (O:Ow T H0 H L) (k:Nat) (h:L[k]?=some (a,.lst xs):=by rfl):SqL K H a xs:=SqL.of (O.get k h)
theorem TabOk.upd {P:Addr} {pos:Pos} {q:Str} (t:TabOk P pos q H) (h:H a=none∨∃ o,H a=some o∧dh o=true):TabOk P pos q (L2.upd H a o'):=by
  have ne:∀ b u,H b=some u→dh u=false→b≠a:=fun b u e p z=>by
    subst z
    rcases h with h | ⟨o,h,ho⟩
    · rw [h] at e;cases e
    · rw [h] at e;cases e;rw [ho] at p;cases p
  rcases t with e | ⟨c,e1,e2⟩
  · exact .inl (by rw [aU (ne _ _ e rfl)];exact e)
  · exact .inr ⟨c,by rw [aU (ne _ _ e1 rfl)];exact e1,by rw [aU (ne _ _ e2 rfl)];exact e2⟩
theorem bO.upd (s:bO T H0 H) (h:H0 a=none) (h':H a=none∨∃ o,H a=some o∧dh o=true):bO T H0 (L2.upd H a o') :=
  ⟨s.t0,fun t ht=>(s.t1 t ht).upd h',fun b u e n=>by rw [aU (bh e h)];exact s.keep b u e n,fun b ps e=>by rw [aU (bh e h)];exact s.tb b ps e⟩
theorem Ow.mk' (O:Ow T H0 H L) (h:H a=none) (ho:dh o=true):Ow T H0 (upd H a o) ((a,o) :: L):=by
  have ne:∀ p∈L,p.1≠a:=fun p hp=>bh (O.at_ p hp) h
  have n0:H0 a=none:=O.same.free h
  refine ⟨O.same.upd n0 (.inl h),fun p hp=>?_,fun p hp=>?_,fun p hp=>?_,?_⟩
  · rcases List.mem_cons.mp hp with e | e
    · rw [e];exact n0
    · exact O.new p e
  · rcases List.mem_cons.mp hp with e | e
    · rw [e];exact cC
    · rw [aU (ne p e)];exact O.at_ p e
  · rcases List.mem_cons.mp hp with e | e
    · rw [e];exact ho
    · exact O.pl p e
  · rw [List.map_cons,List.nodup_cons]
    refine ⟨fun hm=>?_,O.nd⟩
    obtain ⟨p,hp,e⟩:=List.mem_map.mp hm
    exact ne p hp e
theorem jE:∀ {L:List (Addr × HO)} {k:Nat} {a:Addr} {o o':HO},L[k]?=some (a,o)→(L.set k (a,o')).map (·.1)=L.map (·.1)
  | [],_,_,_,_,h=>by simp at h
  | p :: L,0,a,o,o',h=>by
    have:p=(a,o):=by simpa using h
    rw [this];rfl
  | p :: L,k + 1,a,o,o',h=>by
    rw [List.set_cons_succ,List.map_cons,List.map_cons,jE (L:=L) (k:=k) (o:=o) (by simpa using h)]
theorem Ow.put' (O:Ow T H0 H L) (k:Nat) (h:L[k]?=some (a,o)) (ho:dh o'=true):Ow T H0 (upd H a o') (L.set k (a,o')):=by
  have hm0:=List.mem_of_getElem? h
  have n0:H0 a=none:=O.new _ hm0
  have hk:k<L.length:=(List.getElem?_eq_some_iff.mp h).1
  refine ⟨O.same.upd n0 (.inr ⟨o,O.at_ _ hm0,O.pl _ hm0⟩),fun p hp=>?_,fun p hp=>?_,fun p hp=>?_,by rw [jE h];exact O.nd⟩
  · rcases List.mem_or_eq_of_mem_set hp with e | e
    · exact O.new p e
    · rw [e];exact n0
  · obtain ⟨j,hj,e⟩:=List.getElem_of_mem hp
    by_cases hjk:j=k
    · subst hjk
      rw [List.getElem_set_self] at e
      rw [← e];exact cC
    · rw [List.getElem_set_ne (Ne.symm hjk)] at e
      have hj':j<L.length:=by rw [List.length_set] at hj;exact hj
      have hm:p∈L:=by rw [← e];exact List.getElem_mem hj'
      rw [aU]
      · exact O.at_ p hm
      · intro z
        have e1:(L.map (·.1))[j]?=some p.1:=by rw [List.getElem?_map,List.getElem?_eq_getElem hj',e];rfl
        have e2:(L.map (·.1))[k]?=some a:=by rw [List.getElem?_map,h];rfl
        rw [z] at e1
        obtain ⟨a1,a2⟩:=List.getElem?_eq_some_iff.mp e1
        obtain ⟨b1,b2⟩:=List.getElem?_eq_some_iff.mp e2
        exact hjk ((List.getElem_inj O.nd).mp (a2.trans b2.symm))
  · rcases List.mem_or_eq_of_mem_set hp with e | e
    · exact O.pl p e
    · rw [e];exact ho
theorem jK {o:HO} (h:dh o=true):∀ ps,o≠.tbl ps:=fun ps z=>by rw [z] at h;cases h
theorem Ow.kW (O:Ow T H0 H L) (s:bO T H H'):Ow T H0 H' L:=⟨O.same.trans s,O.new,fun p hp=>s.keep _ _ (O.at_ p hp) (jK (O.pl p hp)),O.pl,O.nd⟩
theorem Ow.uL (O:Ow T H0 H L) (s:bO T H H') (n:H l=none) (h:H' l=some o) (ho:dh o=true):Ow T H0 H' ((l,o) :: L):=by
  have O2:=O.kW s
  refine ⟨O2.same,fun p hp=>?_,fun p hp=>?_,fun p hp=>?_,?_⟩
  · rcases List.mem_cons.mp hp with e | e
    · rw [e];exact O.same.free n
    · exact O.new p e
  · rcases List.mem_cons.mp hp with e | e
    · rw [e];exact h
    · exact O2.at_ p e
  · rcases List.mem_cons.mp hp with e | e
    · rw [e];exact ho
    · exact O.pl p e
  · rw [List.map_cons,List.nodup_cons]
    refine ⟨fun hm=>?_,O.nd⟩
    obtain ⟨p,hp,e⟩:=List.mem_map.mp hm
    exact bh (O.at_ p hp) n e
theorem Ow.sub (O:Ow T H0 H L) (h:L'.Sublist L):Ow T H0 H L':=⟨O.same,fun p hp=>O.new p (h.subset hp),fun p hp=>O.at_ p (h.subset hp),fun p hp=>O.pl p (h.subset hp),O.nd.sublist (h.map _)⟩
theorem Ow.ret {P:List V→Prop} {Q:VK} (O:Ow T H0 H L) (k:Nat) (h:L[k]?=some (l,.lst xs)) (q:p7 T H0 P Q) (p:P xs):Q (.ref l) H:=q l H xs O.same (O.fr k h) (O.get k h) p
theorem Ow.gotT {P:List V→Prop} {Q:VK} (O:Ow T H0 H L) (k:∀ l H' xs,Ow T H0 H' ((l,.lst xs) :: L)→P xs→Q (.ref l) H'):p7 T H P Q:=fun l H' xs s n h p=>k l H' xs (O.uL s n h rfl) p
end
end L2
namespace L2
open PySem PySem.W PySem.Spec PyProof.Rows
theorem szl {n:Nat} (h:Nat.ble n 100000=true:=by rfl):n≤sizeLine:=iz (Nat.le_of_ble_eq_true h)
section
variable {T:fJ} {H0 H:Hp} {L:List (Addr × HO)} {l:Addr} {xs:List V}
theorem Ow.mkE {a:Addr} {o:HO} {H':Hp} (O:Ow T H0 H L) (h:H a=none) (e:upd H a o=H') (ho:dh o=true):Ow T H0 H' ((a,o) :: L):=e ▸ O.mk' h ho
theorem Ow.iC {a:Addr} {o o':HO} {H':Hp} (O:Ow T H0 H L) (k:Nat) (h:L[k]?=some (a,o)) (e:upd H a o'=H') (ho:dh o'=true):Ow T H0 H' (L.set k (a,o')):=e ▸ O.put' k h ho
end
end L2
namespace L2
open PySem PySem.W PySem.Spec PySem.Calls PyProof.Rows PySem.Builtin PySem.Builtin.ObjectAttr PySem.Builtin.Getset_descriptor
section
variable {prog:Program} {w:World} {A:Around} {E:Value→Shared→Prop} {K:Frag} {e D:Addr} {hh:Heap} {g:Array GenState} {d:Drawn} {t:Nat} {os:OsState}
structure pZ (K:Frag) (D:Addr):Prop where
  ga:findIn K (.ref D) "__getattribute__"=some (some (.builtin "BaseException.__getattribute__"))
  gt:findIn K (.ref D) "__getattr__"=some none
  at_:findIn K (.ref D) "__class__"=some (some (.builtin "object.__class__"))
  sp:specialIn K (.builtin "object.__class__") "__get__"=some (some (.builtin "getset_descriptor.__get__"))
  tk:takesIn K (.builtin "object.__class__")=some true
  mo:mroIn K D (.type "object")=some true
  mb:mroIn K D (.type "BaseException")=some true
  cl:(clsIn K D).isSome=true
theorem oY {M:Model} (X:K.In hh) (C:pZ K D):Looks M hh (Builtin.ObjectAttr.find (.ref e) (.ref D) "__class__") (.bind (.builtin "getset_descriptor.__get__") (.builtin "object.__class__")):=by
  have L3:Looks M hh (Builtin.ObjectAttr.dataDescriptor? (some (.builtin "object.__class__")) (some (.builtin "getset_descriptor.__get__"))) (some (.builtin "getset_descriptor.__get__",.builtin "object.__class__")):=(looks_takesIn X C.tk).andThen .now
  exact (looks_findIn X C.at_).andThen ((looks_specialIn X C.sp).andThen (L3.andThen (Looks.tag .now)))
theorem qd {R:Result→Shared→Prop} {tp:Value} (LT:Looks (model prog w) hh (typeOf (.ref e)) (.ref D)) (X:K.In hh) (C:pZ K D) (q:R (.ok (.ret (.ref D))) ⟨hh,g,d,t,os⟩) :
    codeAny (model prog w) A (.call (.builtin "getset_descriptor.__get__") ⟨[.builtin "object.__class__",.ref e,tp],[]⟩) R ⟨hh,g,d,t,os⟩:=by
  have LS:=looks_mroIn (M:=model prog w) X C.mo
  clear C X
  refine codeAny_call_builtin KF.slot_gs.plain KF.entry_gs (KF.slot_gs.check _ _ _ _ _ _ _ _ KF.type_class (KF.args_gs _ _ (tp)) ?_)
  unfold Builtin.«getset_descriptor.__get__» descrGet;rw [dga_obj];refine wpAny_bind (wpAny_pure ?_)
  unfold descrGetter descrCheckInstance descrNameAndClass isInstance;simp only [KF.owner_class];repeat lk
  refine ⟨Code.quiet_builtin _ (by decide +kernel),codeAny_builtin KF.entry_class ?_⟩;unfold Builtin.«object.__class__» shownTypeOf;(repeat lk);exact q
theorem lD {tk:Tok} {Q:Fin→Shared→Prop} (LT:Looks (model prog w) hh (typeOf (.ref e)) (.ref D)) (X:K.In hh) (C:pZ K D) (h:Q (.done (.ret (.ref D))) ⟨hh,g,d,t,os⟩) :
    wpAny (model prog w) A (Builtin.«object.__getattribute__» ⟨[.ref e,.str "__class__" tk],[]⟩) Q E ⟨hh,g,d,t,os⟩:=by
  unfold Builtin.«object.__getattribute__»
  refine wpAny_bind (m:=slotArgs "__getattribute__" 1 _) (wpAny_pure ?_)
  refine wpAny_bind (m:=Builtin.ObjectAttr.attrName _) (wpAny_pure ?_)
  refine wpAny_bind (LT.at (wpAny_bind ((oY X C).at ?_)))
  unfold Builtin.ObjectAttr.bindTo
  exact wpAny_bind (wpAny_holding (wpAny_call (qd LT X C (wpAny_pure h))))
theorem lE {Q:Option Value→Shared→Prop} (LT:Looks (model prog w) hh (typeOf (.ref e)) (.ref D)) (X:K.In hh) (C:pZ K D) (h:Q (some (.ref D)) ⟨hh,g,d,t + 1,os⟩) :
    wpAny (model prog w) A (getAttr? (.ref e) "__class__") Q E ⟨hh,g,d,t,os⟩:=by
  have L1:=looks_findIn (M:=model prog w) X C.ga
  have L2:=looks_findIn (M:=model prog w) X C.gt
  have LI:Looks (model prog w) hh (isInstance (.ref e) (.type "BaseException")) true:=LT.andThen (looks_mroIn X C.mb)
  have f3:=PySem.F.attr_ValueError.ga.bind (.ref e)
  have hx2:(Value.builtin "BaseException.__getattribute__" == Value.builtin "object.__getattribute__")=false:=by decide +kernel
  unfold getAttr? getAttrBy? getAttrBy
  refine wpAny_bind (wpAny_mkText (wpAny_bind (wpAny_attempt (wpAny_holding (wpAny_bind (LT.at (wpAny_bind (L1.at ?_))))))))
  dsimp only
  rw [if_neg (by rw [hx2];simp)]
  unfold getAttrByItsOwn hookBefore callGetattribute
  refine wpAny_bind ?_
  rw [if_pos (show onTheHeap (Value.ref D)=true from rfl)]
  refine L2.at ?_
  refine wpAny_bind (wpAny_attempt (wpAny_holding ?_))
  rw [if_neg (by simp)]
  unfold boundAndCalled
  rw [f3]
  refine wpAny_bind (wpAny_pure ?_)
  refine wpAny_call (codeAny_call_builtin PySem.F.attr_ValueError.ga.plain PySem.F.entry_bexc_ga ?_)
  have kd:builtinKind "BaseException.__getattribute__"=some .slot:=by decide +kernel
  have spl:splitId "BaseException.__getattribute__"=some ("BaseException","__getattribute__"):=by decide +kernel
  have ha:=PySem.F.args_bexc_ga (.ref e) (.str "__class__" t)
  simp only [checkBuiltinCall,kd,spl]
  refine wpAny_bind (LI.at ?_)
  rw [if_neg (by simp)]
  refine wpAny_of_eq (a:=()) ha ?_
  refine lD (t:=t + 1) LT X C ?_
  show wpAny (model prog w) A (handedOut (.ref D)) _ _ _
  exact wpAny_pure (wpAny_pure h)
def XAt (e D:Addr) (h:Heap):Prop:=∃ o,h.get? e=some o∧o.cls=.ref D
theorem jt {M:Model} {h:Heap} (x:XAt e D h):Looks M h (typeOf (.ref e)) (.ref D):=by
  obtain ⟨o,h1,h2⟩:=x
  rw [← h2]
  exact (Looks.ld h1).andThen .now
theorem lM (C:pZ K D):KitX K (.ref e) (.ref D) (XAt e D) where
  ty:=fun _ _ _ p=>jt p
  it:=fun M h X _=>by
    have c:=C.cl
    unfold clsIn at c
    split at c
    · rename_i ho
      intro _ _ _ _ k q
      unfold isType loadHead
      exact wpAny_bind (wpAny_loadPart (k _ _ (X _ _ ho)) (wpAny_pure q))
    · cases c
  ne:=fun h tp dd its n sl X htp=>by
    have c:=C.cl
    refine Bool.eq_false_iff.mpr fun q=>?_
    cases Value.ref.inj (beq_iff_eq.mp q)
    unfold clsIn at c
    split at c
    · rename_i ho
      cases (X _ _ ho).symm.trans htp
    · cases c
  ca:=fun {_ _ _ _ _ s} X p k=>by
    obtain ⟨h0,g0,d0,t0,o0⟩:=s
    exact lE (jt p) X C k
end
end L2
namespace L2
open PySem PySem.W PySem.Spec PySem.Calls PyProof.Rows
theorem cB.obj {P:Program} {w:World} {H:Hp} {h:Heap} {a:Addr} {o:HO} (x:cB P w H h a o):∃ ob,h.get? a=some ob:=by
  cases o with
  | lst xs=>obtain ⟨_,_,_,_,e⟩:=x;exact ⟨_,e⟩
  | tup xs=>obtain ⟨_,_,_,o,e,_⟩:=x;exact ⟨_,e⟩
  | dK kvs=>obtain ⟨_,_,_,_,o,_,_,e,_⟩:=x;exact ⟨_,e⟩
  | dT kvs=>obtain ⟨_,_,_,_,o,_,_,e,_⟩:=x;exact ⟨_,e⟩
  | set S n=>obtain ⟨o,_,_,_,e,_⟩:=x;exact ⟨_,e⟩
  | ins C dx fs=>obtain ⟨_,_,_,e,_⟩:=x;exact ⟨_,e⟩
  | own y=>exact x
  | xd fs=>obtain ⟨_,⟨_,_,_,e,_⟩,_⟩:=x;exact ⟨_,e⟩
  | rng lo hi=>obtain ⟨_,_,_,e⟩:=x;exact ⟨_,e⟩
  | frz ob u=>obtain ⟨e,_⟩:=x;exact ⟨_,e⟩
  | tbl ps=>exact ⟨_,x⟩
  | met f y=>exact ⟨_,x⟩
  | ext φ=>obtain ⟨_,e,_⟩:=x;exact e
structure Fly (P:Program) (w:World) (B:Heap) (fs:List Addr) (H:Hp) (h0:Heap) (H':Hp) (h:Heap):Prop where
  un:Un fs [] H H' h0 h
  hok:HOk P w H' h
  old:∀ b o,h0.get? b=some o→b ∉ fs→∃ o',B.get? b=some o'∧(H b=none→o'=o)
  trk:∀ b u,H' b=some u→∃ o,h.get? b=some o∧B.get? b=some o
section
variable {P:Program} {w:World} {B h0 h h2:Heap} {fs:List Addr} {H H':Hp}
theorem Fly.on (x:Fly P w B fs H h0 H' h) (sb:B.StaysIn h2) (sm:∀ b∈fs,∀ o,h.get? b=some o→∃ sl,h2.get? b=some { o with slots:=sl }):Fly P w B fs H h0 H' h2:=by
  have kp:∀ b o,h0.get? b=some o→H b=none→b ∉ fs→h2.get? b=some o:=fun b o q n hb=>by
    obtain ⟨o',e,k⟩:=x.old b o q hb
    rw [← k n];exact sb b o' e
  have sl:∀ b o,h0.get? b=some o→H b=none→b∈fs→∃ s,h2.get? b=some { o with slots:=s }:=fun b o q n hb=>by
    obtain ⟨s1,e1⟩:=x.un.slot b o q n hb (by simp)
    obtain ⟨s2,e2⟩:=sm b hb _ e1
    exact ⟨s2,e2⟩
  refine ⟨⟨fun b o q n hb _=>kp b o q n hb,fun b o q n hb _=>sl b o q n hb,x.un.free,fun b o q _=>?_,x.un.tups,x.un.frzs,x.un.tbls⟩,fun a u e=>?_,x.old,fun b u e=>?_⟩
  · by_cases hb:b∈fs
    · obtain ⟨o1,e1⟩:=x.un.there b o q (by simp)
      obtain ⟨s2,e2⟩:=sm b hb _ e1
      exact ⟨_,e2⟩
    · obtain ⟨o',e,_⟩:=x.old b o q hb
      exact ⟨o',sb b o' e⟩
  · refine (x.hok a u e).stay (fun b v hb q=>?_) (fun _ q=>q) fun _ _ q=>q
    have tr:∃ u',H' b=some u':=by
      rcases hb with z | z
      · exact ⟨u,by rw [z];exact e⟩
      · exact ⟨_,z⟩
    obtain ⟨u',e'⟩:=tr
    obtain ⟨o,e1,e2⟩:=x.trk b u' e'
    rw [q] at e1;cases e1
    exact sb b v e2
  · obtain ⟨o,e1,e2⟩:=x.trk b u e
    exact ⟨o,sb b o e2,e2⟩
end
def CXE (P:Program) (w:World):CXT:=fun outer H s E e s'=>∃ (ea t C:Addr) (B:Heap) (H':Hp),e=.ref ea∧s'.os=s.os∧AllBare s'.gens∧Fly P w B (frs outer) H s.heap H' s'.heap∧Heap.FlyingW B outer ea (.ref C) (.ref t) s'.heap ∧
  s.heap.get? ea=none∧H' ea=none∧E (.ref C) (some ea) H'
theorem iU {env:Env} {l:List Env} {L:Addr} (hf:env.frame=some L):frs (env :: l)=L :: frs l:=by unfold frs;rw [List.filterMap_cons,hf]
theorem qX {l:List Env}:∀ env∈l,∀ b,env.frame=some b→b∈frs l:=fun env he b hb=>List.mem_filterMap.mpr ⟨env,he,hb⟩
theorem cQ {B h:Heap} {l:List Env} {h2:Heap} (f:h.FunFrames B l) (sm:h.UpToSlots h2):∀ b∈frs l,∀ o,h.get? b=some o→∃ sl,h2.get? b=some { o with slots:=sl }:=fun b hb o e=>by
  obtain ⟨_,o',e',d⟩:=f.mem hb
  rw [e] at e';cases e'
  exact sm b o e d
section
variable {X:Cx} {pins:List (Addr × Obj)} {σ:St} {H:Hp} {s:Shared} {E:XK}
structure Body (X:Cx):Prop where
  st:X.stack=X.env :: X.outer
  fr:X.env.frame=some X.env.locals
  ex:X.ex=[]
theorem Inv.pI (I:Inv X pins σ H s) (hB:Body X) {b:Addr} {o:Obj} (e:X.s₀.heap.get? b=some o) (hb:b ∉ frs X.outer):b ∉ frs X.stack:=by
  rw [hB.st,iU hB.fr]
  intro hm
  rcases List.mem_cons.mp hm with z | z
  · exact absurd (Heap.lt_size e) (by rw [z];exact Nat.not_lt.mpr I.ok.above)
  · exact hb z
theorem fU {e C:Addr} {args:List Value} {h':Heap} {F:Value→Shared→Prop} (hB:Body X) (I:Inv X pins σ H s) (hm:Heap.MadeExcOf s.heap h' e (.ref C) args) (hE:H e=none→E (.ref C) (some e) H) :
    wpAny (model X.prog X.w) X.A (leaving X.env (.ref e)) (fun _ s''=>CXE X.prog X.w X.outer X.H₀ X.s₀ E (.ref e) s'') F { s with heap:=h' }:=by
  have hfr:X.A.frames=some (X.env :: X.outer):=by rw [← hB.st];exact I.ok.frames
  have stk:=I.stack
  have hl:s.heap.FunFrames (hideAll s.heap (frs X.stack)) (X.env :: X.outer):=by
    have:=funFrames_hide stk qX
    rw [hB.st] at this ⊢;exact this
  have hne:∀ b o,s.heap.get? b=some o→b ∉ frs X.stack→(hideAll s.heap (frs X.stack)).get? b=some o:=fun b o q n=>hideAll_get _ q n
  have htr:∀ b u,H b=some u→∃ o,s.heap.get? b=some o∧(hideAll s.heap (frs X.stack)).get? b=some o:=fun b u q=>by
    obtain ⟨o,eo⟩:=(I.hok b u q).obj
    exact ⟨o,eo,hne b o eo fun z=>by rw [I.gM b z] at q;cases q⟩
  have hnx:∀ b:Addr,b ∉ X.ex:=fun b=>by rw [hB.ex];simp
  refine wpAny_leaves_madeW (base:=hideAll s.heap (frs X.stack)) (h:=s.heap) hfr hB.fr (fun b o q=>of_hideAll _ q) hl hm fun h2 t fl _ _ sm=>?_
  have F0:Fly X.prog X.w (hideAll s.heap (frs X.stack)) (frs X.outer) X.H₀ X.s₀.heap H s.heap:=by
    refine ⟨?_,I.hok,fun b o q n=>?_,htr⟩
    · have u:=I.base
      rw [hB.ex] at u
      exact u
    · obtain ⟨o',e'⟩:=I.base.there b o q (hnx b)
      refine ⟨o',hne b o' e' (I.pI hB q n),fun z=>?_⟩
      have:=I.base.keep b o q z n (hnx b)
      rw [e'] at this;exact Option.some.inj this
  have F1:=F0.on (h2:=h2) fl.1 fun b hb o q=>by
    have hb':b∈frs X.stack:=by rw [hB.st,iU hB.fr];exact List.mem_cons_of_mem _ hb
    obtain ⟨_,o',e',d⟩:=stk.mem hb'
    rw [q] at e';cases e'
    exact sm b o (hm.keeps b o q) d
  have he0:H e=none:=by
    cases q:H e with
    | none=>rfl
    | some u =>
      obtain ⟨o,eo⟩:=(I.hok e u q).obj
      rw [hm.new] at eo;cases eo
  refine ⟨e,t,C,_,H,rfl,I.os,I.bare,F1,fl,?_,he0,hE he0⟩
  · cases q:X.s₀.heap.get? e with
    | none=>rfl
    | some o =>
      obtain ⟨o',e'⟩:=I.base.there e o q (hnx e)
      rw [hm.new] at e';cases e'
end
section
variable {P:Program} {w:World} {K:PySem.W.Frag} {mg:Str→Option Value} {base:Heap} {N:List Str} {qual:Str} {scope:Scope} {f:Addr} {cd:Value} {A:Around} {outer:List Env} {s:Shared} {H:Hp} {E:XK}
theorem gV {CX:CXT}:Body (oV CX P w K mg base N qual scope f cd A outer s H E):=⟨rfl,rfl,rfl⟩
theorem Fun.okX {x:Str} {st:Stmt} {fd:FuncData} {ps:List Str} {k:Nat} {sp:Sp} (F:Fun K x qual st f fd) (S:bI N ps (aj st)) (len:∀ vs H Q E,sp vs H Q E→vs.length=ps.length)
    (hbody:∀ (cdv:Value) (A:Around) (outer:List Env) (s:Shared) (H:Hp) (vs:List V) (Q:VK) (E:XK),gF k (A.deeper (envOfC qual (aj st) s.heap.objs.size f cdv))→sp vs H Q E →
      ∃ t,PSs (oV (CXE P w) P w K mg base N qual (aj st) f cdv A outer s H E) (aD st) t∧t { nx:=fun _ H'=>Q .non H',rt:=Q } (start N vs) H):cX P w K mg base (CXE P w) (k + 1) f fd ps sp:=by
  obtain ⟨oc,od,kV,doc,pm,an,cdv,ct,osl,rfl,lk,hcd⟩:=F.ex
  exact tZ lk hcd S len fun A outer s H vs Q E hr hsp=>hbody cdv A outer s H vs Q E hr hsp
end
end L2
namespace L2
open PySem PySem.W PySem.Spec PySem.Calls PyProof.Rows
abbrev lC:List Value:=[.type "ValueError",.type "Exception",.type "BaseException",.type "object"]
theorem pP {K:Frag} {h:Heap} {C:Addr} (X:K.In h) (q:excIn K C lC "ValueError.__new__"=true) :
    ∃ bm N nm qn bs hdct sn sub ab col dd k0 k1 k2 k3 k5 mN,h.get? C=some (excClassObj nm qn C N bs bm hdct sn sub ab col dd k0 k1 k2 k3 k5 "ValueError.__new__")∧h.Ns N mN∧mN "__init__"=none∧OwnTail h lC bm:=by
  unfold excIn at q
  split at q
  · rename_i d1 c1 s1 look
    split at q
    · rename_i C1 bm1 a0 a1 a2 a3 n1 a5 m1 l1
      simp only [Bool.and_eq_true,beq_iff_eq,Bool.not_eq_true'] at q
      obtain ⟨⟨⟨⟨⟨e1,e2⟩,e3⟩,e4⟩,e5⟩,e6⟩:=q
      subst e1 e2
      obtain ⟨nm,bs,mro,ns,qn,hd,sn,sub,ab,col,del⟩:=c1
      dsimp only at m1 e3 e5 e6
      subst m1 e3
      have es:s1=#[a0,a1,a2,a3,some (.builtin "ValueError.__new__"),a5]:=by cases s1;simp only at l1;rw [l1]
      subst es
      exact ⟨bm1,ns,nm,qn,bs,hd,sn,sub,ab,col,d1,a0,a1,a2,a3,a5,_,X _ _ look,Heap.Ns.of_isNs (isNs_of_in X e5),nsMap_none_of_in X e5 e6,tail_of_in X e4⟩
    · cases q
  · cases q
def ql (E:XK) (C:Addr) (ta:TA):TS:=fun _ σ H=>ta σ H fun vs H1=>vs.length≤sizeLine∧∀ e,H1 e=none→E (.ref C) (some e) H1
section
variable {X:Cx} {E:XK} {x:Str} {C:Addr} {np cpos pos:Pos} {e0:Expr} {ta:TA}
theorem fC (hB:Body X) (hc:X.calm=true) (hx:∀ e s',wpAny (model X.prog X.w) X.A (leaving X.env e) (fun _ s''=>CXE X.prog X.w X.outer X.H₀ X.s₀ E e s'') (fun e s''=>CXE X.prog X.w X.outer X.H₀ X.s₀ E e s'') s'→X.xe e s')
    (hg:Gl X x) (hm:X.mg x=some (.ref C)) (hq:excIn X.K C lC "ValueError.__new__"=true) (ha:PA X [e0] ta) (he:starEach [e0] X.env=[(false,eval e0 X.env)]:=by rfl) (hd:(x == ("__debug__":Str))=false:=by decide) :
    PS X (.Raise (some (.Call (.Name x np) [e0] [] cpos)) none pos) (ql E C ta):=by
  intro pins s σ H D I h
  obtain ⟨bm,Nn,nm,qn,bs,hdct,sn,sub,ab,col,dd,k0,k1,k2,k3,k5,mN,hC,hN,hni,TL⟩:=pP I.ok.mod.kin hq
  refine wpAny_Raise_call_subU (C:=C) (nm:=nm) (q:=qn) (N:=Nn) (bs:=bs) (bm:=bm) (hdct:=hdct) (sn:=sn) (sub:=sub) (ab:=ab) (col:=col) (dd:=dd) (k0:=k0) (k1:=k1) (k2:=k2) (k3:=k3) (k5:=k5) (mN:=mN) (newId:="ValueError.__new__")
    PySem.F.excBase_ValueError PySem.F.excBase_ValueError.hasB PySem.F.excBase_ValueError (TL.hasType PySem.F.excBase_ValueError.hasBase) (I.ok.hd hc) (by rw [he];rfl) hni ?_
  refine eU I hg hm ⟨rfl,?_⟩ hd
  have a:=ha cpos pins s σ H _ I h
  rw [he] at a ⊢
  refine Calls.evalArgs_plain (wpAny_mono a (fun us s1 ⟨vs,H1,I1,r1,hz,q1⟩=>?_) fun _ _ z=>z)
  exact ⟨rfl,by show us.length≤_;rw [← r1.length];exact hz,I1.bk _ _ hC,hN.keeps I1.bk,TL.keeps I1.bk,fun h' e mk=>hx _ _ (fU hB I1 mk (q1 e))⟩
end
end L2
namespace L2
open PySem PySem.W PySem.Spec PySem.Calls PyProof.Rows
def XS (X:Cx) (pins:List (Addr × Obj)) (Ex:St→XK) (ev:Value) (s':Shared):Prop:=∃ σ H s,Inv X pins σ H s∧CXE X.prog X.w X.stack H s (Ex σ) ev s'
def PEx (X:Cx) (e:Expr) (t:St→Hp→VK→XK→Prop):Prop :=
  ∀ (pins:List (Addr × Obj)) (s:Shared) (σ:St) (H:Hp) (Q:VK) (Ex:St→XK),Inv X pins σ H s→t σ H Q (Ex σ)→wpAny (model X.prog X.w) X.A (eval e X.env) (EP X pins σ Q) (XS X pins Ex) s
abbrev TX:=Ends→(St→XK)→St→Hp→Prop
def PSx (X:Cx) (st:Stmt) (t:TX):Prop :=
  ∀ (pins:List (Addr × Obj)) (s:Shared) (σ:St) (H:Hp) (D:Ends) (Ex:St→XK),Inv X pins σ H s→t D Ex σ H→wpAny (model X.prog X.w) X.A (exec st X.env) (SP X pins D) (XS X pins Ex) s
def xq (X:Cx) (sts:List Stmt) (t:TX):Prop :=
  ∀ (pins:List (Addr × Obj)) (s:Shared) (σ:St) (H:Hp) (D:Ends) (Ex:St→XK),Inv X pins σ H s→t D Ex σ H→wpAny (model X.prog X.w) X.A (execs sts X.env) (SP X pins D) (XS X pins Ex) s
section
variable {X:Cx} {k:Nat} {f:Addr} {fd:FuncData} {ps:List Str} {sp:Sp} {dvs:List V} {ds:List Value} {x:Str} {p pos:Pos} {e:Expr} {es:List Expr} {t:TA}
def ur (sp:Sp) (dvs:List V) (t:TA):St→Hp→VK→XK→Prop:=fun σ H Q Ex=>t σ H fun vs H1=>sp (vs++dvs) H1 Q Ex
theorem jr (F:cX X.prog X.w X.K X.mg X.base (CXE X.prog X.w) k f fd ps sp) (hr:gF k X.A) (hg:Gl X x) (hm:X.mg x=some (.ref f)) (hk:PySem.W.keepIn X.K (.ref f)=true) (hb:Binds X.K fd ps ds) (hd:Vals dvs ds)
    (ha:PA X.nox (e :: es) t) (hdb:(x == ("__debug__":Str))=false:=by decide) (he:starEach (e :: es) X.env=(false,eval e X.env) :: starEach es X.env:=by rfl) (hpl:(backTo pos (starEach es X.env)).any (·.1)=false:=by rfl) :
    PEx X (.Call (.Name x p) (e :: es) [] pos) (ur sp dvs t):=by
  intro pins s σ H Q Ex I h
  refine wpAny_Call_Name_kw (eU I hg hm ?_ hdb)
  refine PySem.W.callWith_K (h₀:=X.base) I.ok.mod.kin hk (wpAny_mono (ha pos pins s σ H _ (I.wish _) h) (fun us s1 ⟨vs,H1,I1,r,q⟩=>?_) fun _ _ z=>z.elim) he hpl
  have I1:=I1.dH
  refine ⟨I1.kIn,?_⟩
  have r2:Vals (vs++dvs) (us++ds):=r.append hd
  have hl:(us++ds).length=ps.length:=by rw [← r2.length];exact F.len _ _ _ _ q
  refine wpAny_call (codeAny_mono (F.run X.A X.stack s1 H1 ⟨us,[]⟩ (us++ds) (vs++dvs) Q (Ex σ) hr I1.env0 (hb s1 us I1.kIn hl) r2 q) fun rr s' hq=>?_)
  cases rr with
  | error ev=>exact ⟨σ,H1,s1,I1,hq⟩
  | ok fl =>
    cases fl with
    | ret u=>exact I1.after hq
    | next=>exact False.elim hq
    | brk=>exact False.elim hq
    | cont=>exact False.elim hq
theorem lX {i:Nat} {te:St→Hp→VK→XK→Prop} {pos pos':Pos} (hN:X.N.Nodup) (hi:X.N[i]?=some x) (hx:Loc X.env.scope x) (he:PEx X e te) (hs:swapsWith e (some (.Name x pos')) pos.line X.env=pure false:=by rfl) (hf:X.fn x=true∨X.env.scope.names.lookup x=some .local:=by first | exact .inl rfl | exact .inr rfl | assumption) :
    PSx X (.Assign [.Name x pos'] e pos) (fun D Ex σ H=>te σ H (fun v H1=>D.nx (σ.set i (some v)) H1) (Ex σ)):=by
  intro pins s σ H D Ex I h
  refine wpAny_Assign_Name (wpAny_mono (he pins s σ H _ Ex I h) (fun v s1 ⟨y,H1,I1,r1,q1⟩=>?_) fun _ _ z=>z) hs
  exact eE I1 hN hi hx r1 (fun s2 I2=>⟨_,H1,I2,q1⟩) hf
theorem jq {st:Stmt} {tx:TX} (h:PSx X st tx):xq X [st] tx:=by
  intro pins s σ H D Ex I hq
  refine wpAny_execs_cons (wpAny_mono (h pins s σ H D Ex I hq) (fun fl s1 q=>?_) fun _ _ z=>z)
  cases fl with
  | next=>exact wpAny_execs_nil q
  | ret v=>exact q
  | brk=>exact q
  | cont=>exact q
end
section
variable {X:Cx} {pins:List (Addr × Obj)} {σ:St} {H:Hp} {s:Shared}
def jg (X:Cx) (e:Addr):Cx:={ X with A:=X.A.mark (some (.ref e)),calm:=false,xe:=fun _ _=>False }
theorem Inv.sup (I:Inv X pins σ H s) (e:Addr):Inv (jg X e) pins σ H s :=
  ⟨⟨I.ok.mod,I.ok.kind,I.ok.glob,I.ok.blt,I.ok.above,I.ok.inj,I.ok.has,I.ok.cab,fun z=>(by cases z),I.ok.frames,I.ok.stk,I.ok.exf,I.ok.bs,I.ok.bsz,I.ok.noex,I.ok.exfs,I.ok.jk,I.ok.frf⟩,I.os,I.bare,I.base,I.loc,I.cell,I.free,I.freeC,I.pin,I.hok,I.len⟩
theorem Inv.uw {e:Addr} (hc:X.calm=true→X.A.handled=none) (I:Inv (jg X e) pins σ H s):Inv X pins σ H s :=
  ⟨⟨I.ok.mod,I.ok.kind,I.ok.glob,I.ok.blt,I.ok.above,I.ok.inj,I.ok.has,I.ok.cab,hc,I.ok.frames,I.ok.stk,I.ok.exf,I.ok.bs,I.ok.bsz,I.ok.noex,I.ok.exfs,I.ok.jk,I.ok.frf⟩,I.os,I.bare,I.base,I.loc,I.cell,I.free,I.freeC,I.pin,I.hok,I.len⟩
theorem Inv.uf {a:Addr} {o:HO} (I:Inv X pins σ H s) (hn:H a=none) (hL:a≠X.env.locals) (h0:X.s₀.heap.get? a=none) (hc:∀ x c,X.env.cells.lookup x=some c→c≠a) (hp:∀ p∈X.pn++pins,p.1≠a)
    (new:cB X.prog X.w (upd H a o) s.heap a o):Inv X pins σ (upd H a o) s:=by
  have ne:∀ b u,H b=some u→b≠a:=fun b u e=>bh e hn
  refine ⟨I.ok,I.os,I.bare,⟨I.base.keep,I.base.slot,fun b ob e n hx=>?_,I.base.there,fun b xs e=>?_,fun b ob xs e=>?_,fun b ps e=>?_⟩,I.loc,I.cell,?_,fun x c e=>?_,fun p hq=>?_,fun b u e=>?_,I.len⟩
  · rw [aU fun z=>by rw [z,h0] at e;cases e];exact I.base.free b ob e n hx
  · have:=I.base.tups b xs e;rw [aU (ne b _ this)];exact this
  · have:=I.base.frzs b ob xs e;rw [aU (ne b _ this)];exact this
  · obtain ⟨m,e1⟩:=I.base.tbls b ps e;exact ⟨m,by rw [aU (ne b _ e1)];exact e1⟩
  · rw [aU hL.symm];exact I.free
  · rw [aU (hc x c e)];exact I.freeC x c e
  · obtain ⟨e1,n,r⟩:=I.pin p hq;exact ⟨e1,by rw [aU (hp p hq)];exact n,r⟩
  · by_cases hb:b=a
    · subst hb;rw [cC] at e;cases e;exact new
    · rw [aU hb] at e
      exact (I.hok b u e).stay (fun _ _ _ q=>q) (fun c q=>by rw [aU (ne c _ q)];exact q) fun c xs q=>by rw [aU (ne c _ q)];exact q
theorem Inv.qe {i:Nat} {n:Str} {h':Heap} {v:Option Value} {m:Str→Option Value} {t':Nat} (I:Inv X pins σ H s) (hN:X.N.Nodup) (hi:X.N[i]?=some n) (hs:Heap.SameBut X.env.locals s.heap h') (hm:s.heap.Ns X.env.locals m)
    (hl:∀ (j:Nat) (x:Str) (w:V),X.N[j]?=some x→σ[j]?=some (some w)→Vis X.env.scope x→∃ u,RelV w u∧Look X.env s.heap m x u) (hn:h'.Ns X.env.locals (fun x=>if x=n then v else m x)):Inv X pins (σ.set i none) H { s with heap:=h',toks:=t' }:=by
  have kp:∀ b o,b≠X.env.locals→s.heap.get? b=some o→h'.get? b=some o:=fun b o hb e=>(hs.2 b hb).trans e
  have old:∀ b o,X.s₀.heap.get? b=some o→b≠X.env.locals:=fun b o e=>Nat.ne_of_lt (Nat.lt_of_lt_of_le (Heap.lt_size e) I.ok.above)
  refine ⟨I.ok,I.os,I.bare,⟨fun b o e n hb hx=>kp b o (old b o e) (I.base.keep b o e n hb hx),fun b o e n hb hx=>?_,I.base.free,fun b o e hx=>?_,I.base.tups,I.base.frzs,I.base.tbls⟩,⟨_,hn,fun j x w e1 e2 e3=>?_⟩,fun x c e=>?_,I.free,I.freeC,fun p hp=>?_,fun b u e=>?_,by rw [List.length_set];exact I.len⟩
  · obtain ⟨sl,e1⟩:=I.base.slot b o e n hb hx
    exact ⟨sl,kp b _ (old b o e) e1⟩
  · obtain ⟨o',e1⟩:=I.base.there b o e hx
    exact ⟨o',kp b _ (old b o e) e1⟩
  · by_cases hj:j=i
    · subst hj
      have hj':j<σ.length:=by
        have:=(List.getElem?_eq_some_iff.mp e2).1
        rw [List.length_set] at this;exact this
      rw [List.getElem?_set_self hj'] at e2;cases e2
    · rw [List.getElem?_set_ne (Ne.symm hj)] at e2
      have hx:x≠n:=fun z=>by
        subst z
        obtain ⟨a1,a2⟩:=List.getElem?_eq_some_iff.mp e1
        obtain ⟨b1,b2⟩:=List.getElem?_eq_some_iff.mp hi
        exact hj ((List.getElem_inj hN).mp (a2.trans b2.symm))
      obtain ⟨u,r,l⟩:=hl j x w e1 e2 e3
      refine ⟨u,r,?_⟩
      rcases l with ⟨k,z⟩ | ⟨k,c,ec,z⟩
      · exact .inl ⟨k,by dsimp only;rw [if_neg hx];exact z⟩
      · refine .inr ⟨k,c,ec,?_⟩
        obtain ⟨o,ho,hd⟩:=z
        exact ⟨o,kp c o (I.cne x c ec) ho,hd⟩
  · obtain ⟨w,o,ho,hd⟩:=I.cell x c e
    exact ⟨w,o,kp c o (I.cne x c e) ho,hd⟩
  · obtain ⟨e1,n1,l1,r⟩:=I.pin p hp
    exact ⟨kp _ _ l1 e1,n1,l1,r⟩
  · refine (I.hok b u e).stay (fun c w hc q=>kp c w (fun z=>?_) q) (fun _ q=>q) fun _ _ q=>q
    rcases hc with y | y
    · rw [← y,z,I.free] at e;cases e
    · rw [z,I.free] at y;cases y
end
end L2
namespace L2
open PySem PySem.W PySem.Spec PySem.Calls PyProof.Rows
def uq (K:PySem.W.Frag) (Bc:Value) (i:Nat) (th:TS) (D:Ends):St→XK:=fun σ cls oe H=>∃ C e,cls=.ref C∧oe=some e∧exmOne K (.ref C) Bc=some true ∧
  th { nx:=fun σ' H'=>D.nx (σ'.set i none) H',rt:=D.rt,bk:=fun σ' H'=>D.bk (σ'.set i none) H',ct:=fun σ' H'=>D.ct (σ'.set i none) H' } (σ.set i (some (.ref e))) (upd H e (.ext (XAt e C)))
def tTry (K:PySem.W.Frag) (Bc:Value) (i:Nat) (tb:TX) (th:TS):TS:=fun D σ H=>tb D (uq K Bc i th D) σ H
section
variable {X:Cx} {body suite:List Stmt} {b0:Stmt} {x n:Str} {Ba:Addr} {i:Nat} {tb:TX} {th:TS} {np hpos pos:Pos}
theorem mG (hB:Body X) (hc:X.calm=true) (hb:xq X body tb) (hg:Gl X x) (hm:X.mg x=some (.ref Ba)) (hN:X.N.Nodup) (hi:X.N[i]?=some n) (hlo:X.env.scope.names.lookup n=some .local)
    (hs:∀ e:Addr,PSs (jg X e) (b0 :: suite) th) (hd:(x == ("__debug__":Str))=false:=by decide) :
    PS X (.Try body [.ExceptHandler (some (.Name x np)) (some n) (b0 :: suite) hpos] [] [] pos) (tTry X.K (.ref Ba) i tb th):=by
  intro pins s σ H D I h
  refine wpAny_Try_except (wpAny_mono (hb pins s σ H D _ I h) (fun fl s1 q=>?_) fun ev s1 q=>?_)
  · cases fl with
    | next=>exact wpAny_execs_nil q
    | ret v=>exact q
    | brk=>exact q
    | cont=>exact q
  obtain ⟨σ1,H1,s0,I1,ea,t,C,B,H',rfl,os,bare,fl,fy,new,nh,C',e',ec,ee,hx,ht⟩:=q
  cases ec
  cases ee
  have hfr:X.A.frames=some (X.env :: X.outer):=by rw [← hB.st];exact I1.ok.frames
  have fy0:Heap.FlyingW B (X.env :: X.outer) ea (.ref C) (.ref t) s1.heap:=by rw [← hB.st];exact fy
  refine wpAny_looks_onW hfr hB.fr fy0 fun h4 hd4 sm4=>?_
  have fl4:=fl.on (h2:=h4) hd4.1 (cQ fy.2.2.1 sm4)
  refine wpAny_landsW hd4 fun h5 fy5 sm5=>?_
  have fl5:=fl4.on (h2:=h5) fy5.1 (by rw [hB.st];exact cQ hd4.2.2.1 sm5)
  have I5:Inv X pins σ1 H' { s1 with heap:=h5 }:=I1.call' (s':={ s1 with heap:=h5 }) (ch:=[]) os fl5.un fl5.hok bare (fun b z=>nomatch z)
  have hxe:XAt ea C h5:=by obtain ⟨ob,h1,h2⟩:=fy5.there;exact ⟨ob,h1,h2⟩
  refine wpAny_handleBy_cons (codeAny_handlers_test ?_) (by intro q;cases q)
  refine eU (X:=jg X ea) (I5.sup ea) hg hm ?_ hd
  refine (exm_one (K:=X.K) I5.kIn (jt hxe) hx).at ?_
  show codeAny _ _ _ _ _
  refine codeAny_handlers_suite_as ?_
  refine lands_againW fy5 fun h6 fy6 sm6=>?_
  have fl6:=fl5.on (h2:=h6) fy6.1 (by rw [hB.st];exact cQ fy5.2.2.1 sm6)
  have I6:Inv X pins σ1 H' { s1 with heap:=h6 }:=I1.call' (s':={ s1 with heap:=h6 }) (ch:=[]) os fl6.un fl6.hok bare (fun b z=>nomatch z)
  have hxe6:XAt ea C h6:=by obtain ⟨ob,h1,h2⟩:=fy6.there;exact ⟨ob,h1,h2⟩
  have newS:X.s₀.heap.get? ea=none:=by
    cases q:X.s₀.heap.get? ea with
    | none=>rfl
    | some o =>
      obtain ⟨o',e'⟩:=I1.base.there ea o q (by rw [hB.ex];simp)
      rw [new] at e';cases e'
  have I7:Inv X pins σ1 (upd H' ea (.ext (XAt ea C))) { s1 with heap:=h6 }:=by
    refine I6.uf nh (fun z=>?_) newS (fun y c e z=>?_) (fun p hp z=>?_) ⟨hxe6,(by obtain ⟨o,h1,_⟩:=hxe6;exact ⟨o,h1⟩),fun g1 g2 p k=>?_⟩
    · obtain ⟨m,⟨o,_,_,ho,_⟩,_⟩:=I1.loc
      rw [← z,new] at ho;cases ho
    · obtain ⟨v,o,ho,_⟩:=I1.cell y c e
      rw [z,new] at ho;cases ho
    · have ho:=(I1.pin p hp).1
      rw [z,new] at ho;cases ho
    · obtain ⟨o,h1,h2⟩:=p
      exact ⟨o,k o h1,h2⟩
  refine eE (X:=jg X ea) (I7.sup ea) hN hi (.inl hlo) (v:=.ref ea) rfl (fun s8 I8=>?_) (.inr hlo)
  refine wpAny_mono (hs ea pins s8 _ _ _ I8 ht) (fun f s9 q=>?_) fun _ _ z=>z.elim
  have out:∀ {σ9:St} {H9:Hp} (J:Inv (jg X ea) pins σ9 H9 s9) (Z:Shared→Prop),(∀ s10,Inv X pins (σ9.set i none) H9 s10→Z s10)→wpAny (model X.prog X.w) X.A (do bindName X.env n .none;unbindBehindTheSuite X.env n hpos) (fun _ s10=>Z s10) X.xe s9:=fun {σ9 H9} J Z k=>by
    have J':Inv X pins σ9 H9 s9:=J.uw fun hc=>I1.ok.hd hc
    obtain ⟨m,hn,hl⟩:=id J'.loc
    exact wpAny_nameGoes_keeps hlo hn (by rw [J'.ok.kind];rfl) fun h' v hn' hsb=>k _ (J'.qe hN hi hsb hn hl hn')
  cases f with
  | next=>obtain ⟨σ9,H9,J,q⟩:=q;exact out J _ fun s10 J10=>⟨_,H9,J10,q⟩
  | brk=>obtain ⟨σ9,H9,J,q⟩:=q;exact out J _ fun s10 J10=>⟨_,H9,J10,q⟩
  | cont=>obtain ⟨σ9,H9,J,q⟩:=q;exact out J _ fun s10 J10=>⟨_,H9,J10,q⟩
  | ret u=>obtain ⟨v,σ9,H9,J,r,q⟩:=q;exact out J _ fun s10 J10=>⟨v,_,H9,J10,r,q⟩
def ClsV (c:V) (t:Value):Prop:=(∃ T,c=.ty T∧t=.type T)∨∃ a,c=.ref a∧t=.ref a
theorem bL:gK X (.builtin "isinstance") (fun xs H Q=>∃ (e D:Addr) (c:V) (t:Value) (b:Bool),xs=[.ref e,c]∧H e=some (.ext (XAt e D))∧pZ X.K D∧ClsV c t∧PySem.W.kitOne X.K (.ref D) t=some b∧Q (.bl b) H):=by
  intro pins s σ H xs us Q I r h
  obtain ⟨e,D,c,t,b,rfl,he,hD,hc,hk,q⟩:=h
  obtain ⟨u,v,rfl,ru,rv⟩:=vals2 r
  cases ru
  have ev:v=t:=by
    rcases hc with ⟨T,rfl,rfl⟩ | ⟨a,rfl,rfl⟩
    · exact rv
    · exact rv
  subst ev
  obtain ⟨hx,_,_⟩:=(show cB X.prog X.w H s.heap e (.ext (XAt e D)) from I.hok e _ he)
  exact PySem.W.kia_one (lM hD) I.kIn hx hk (fun z=>nomatch z) fun tk=>⟨.bl b,H,I.tok tk,rfl,q⟩
end
theorem pX:bootBuiltins "ValueError"=some (.type "ValueError"):=by kernel_rfl
theorem fY {X:Cx} {x:Str} {C:Addr} {pos:Pos} (hg:Gl X x) (hm:X.mg x=some (.ref C)) (hd:(x == ("__debug__":Str))=false:=by decide):PE X (.Name x pos) (tC (.ref C)):=eO (v:=.ref C) hg hm rfl hd
structure iu (K:PySem.W.Frag) (mg:Str→Option Value) (x:Str) (C:Addr):Prop where
  m:mg x=some (.ref C)
  q:excIn K C lC "ValueError.__new__"=true
  x:pZ K C
end L2
namespace L2
open PySem PySem.Spec PyProof.Rows
end L2
namespace L2
open PySem PySem.Spec PyProof.Rows
end L2
namespace L2
open PySem PySem.Spec PyProof.Rows
structure Iv (P:Prop):Prop where
  t:True
  p:P
theorem ifT {c:Bool} {A B:Prop} (h:c=true) (a:A):if c=true then A else B:=by rw [if_pos h];exact a
theorem ifF {c:Bool} {A B:Prop} (h:c=false) (b:B):if c=true then A else B:=by rw [if_neg (by rw [h];exact Bool.false_ne_true)];exact b
theorem ifB {c:Bool} {A B:Prop} (h1:c=true→A) (h2:c=false→B):if c=true then A else B:=by
  cases c with
  | true=>exact ifT rfl (h1 rfl)
  | false=>exact ifF rfl (h2 rfl)
theorem pQ (x y:Int):decide (V.int x=V.int y)=decide (x=y):=by
  by_cases h:x=y
  · simp [h]
  · have:¬ V.int x=V.int y:=fun e=>h (by cases e;rfl)
    simp [h,this]
theorem cj {ns:List Int} {i:Int} (h0:0≤i) (h1:i<(ns.length:Int)):atI (ns.map V.int) i=some (V.int (ns.getD i.toNat 0)):=by
  refine lN h0 ?_
  rw [List.getD_eq_getElem?_getD,List.getElem?_eq_getElem (by omega)];rfl
theorem gn {ns:List Int} {k:Nat} (h:k<ns.length):ns[k]?=some (ns.getD k 0):=by
  rw [List.getD_eq_getElem?_getD,List.getElem?_eq_getElem h];rfl
theorem SqL.mo {T:fJ} {K:PySem.W.Frag} {H H':Hp} {a:Addr} {xs:List V} (h:SqL K H a xs) (e:bO T H H'):SqL K H' a xs:=e.seq h
end L2
namespace L2
open PySem PySem.Spec PyProof.Rows
section
variable {A B:Prop}
theorem ifD {p:Prop} [Decidable p] (h1:p→A) (h2:¬ p→B):if decide p=true then A else B:=ifB (fun h=>h1 (of_decide_eq_true h)) fun h=>h2 (of_decide_eq_false h)
theorem ifI {x y:Int} (h1:x=y→A) (h2:¬ x=y→B):if decide (V.int x=V.int y)=true then A else B:=by rw [pQ];exact ifD h1 h2
theorem ifN {c:Bool} (h:if c=true then B else A):if (!c)=true then A else B:=by cases c <;> simpa using h
end
structure Lic where
  day:Int
  start:Int
  back:Int
  most:Int
abbrev vLic (l:Lic):List V:=[.int l.day,.int l.start,.int l.back,.int l.most]
theorem lV (ns:List Int) (j:Nat):pR (ns.map V.int) none (some (j:Int))=(ns.take j).map V.int:=by
  unfold pR
  rw [HT.pq,List.length_map,show HT.sIx ns.length 0 none=0 from rfl,List.drop_zero,Nat.sub_zero,List.map_take]
  by_cases h:j≤ns.length
  · rw [Nat.min_eq_left h]
  · rw [Nat.min_eq_right (by omega),List.take_of_length_le (by rw [List.length_map];omega),List.take_of_length_le (by rw [List.length_map];omega)]
end L2
namespace L2
open PySem PySem.Spec PyProof.Rows
end L2
namespace L2
open PySem PySem.Spec PyProof.Rows
end L2
namespace L2
open PySem PySem.Spec PyProof.Rows
end L2
namespace L2
open PySem PySem.Spec PyProof.Rows
end L2
namespace L2
open PySem PySem.Spec PyProof.Rows
end L2
namespace L2
open PySem PySem.Spec PyProof.Rows
end L2
namespace L2
open PySem PySem.W PySem.Spec PyProof.Rows
end L2
namespace L2
open PySem PySem.Spec PyProof.Rows
abbrev KT (H:Hp):List (List Key × V)→List (List Key × Addr × Value)→Prop:=Paired fun p q=>p.1=q.1∧H q.2.1=some (.tup (p.1.map kV))∧RelV p.2 q.2.2
abbrev VV:List (V × V)→List (Value × Value)→Prop:=Paired fun p q=>RelV p.1 q.1∧RelV p.2 q.2
end L2
namespace L2
open PySem PySem.W PySem.Spec PyProof.Rows
end L2
namespace L2
open PySem PySem.W PySem.Spec PyProof.Rows
section
variable {X:Cx}
abbrev oLic (l:Lic):HO:=.tup (vLic l)
abbrev oInts (w:List Int):HO:=.lst (w.map V.int)
end
end L2
namespace L2
open PySem PySem.W PySem.Spec PyProof.Rows
end L2
namespace L2
open PySem PySem.W PySem.Spec PyProof.Rows
end L2
namespace HT
open PySem PyProof.Rows
end HT
namespace L2
open PySem PySem.W PySem.Spec PyProof.Rows
end L2
namespace L2
open PySem PySem.Spec PyProof.Rows
def Its (x:Str):It:=⟨fun i _=>i<x.cps.size,fun i H y H'=>H'=H∧∃ c,x.cps[i]?=some c∧y=.str ⟨#[c]⟩,fun i _=>x.cps.size≤i⟩
theorem lF {P:Program} {w:World} {K:PySem.W.Frag} {tg:Expr} (it:Addr) (x:Str) (t:Tok):Turn P w K tg (Its x) [it] it (fun i h=>h.IsStrIter it "str_ascii_iterator" x t i) where
  mem:=by simp
  obj:=fun i h st b hb=>by
    have e:b=it:=by simpa using hb
    subst e
    obtain ⟨o,e,c,d⟩:=st
    exact ⟨o,e,fun v z=>by rw [d] at z;cases z⟩
  keep:=fun i h h' st k=>let ⟨o,e,r⟩:=st;⟨o,k it (by simp) o e,r⟩
  item:=by
    intro X hP hw hK hc i pins s σ H E I hf st hg
    subst hP hw hK
    obtain ⟨f0,f1,f2,f3,f4,f5⟩:=hf it (by simp)
    have hg:i<x.cps.size:=hg
    have hx:x.cps[i]?=some x.cps[i]:=by simp [hg]
    refine wpAny_pyNext_ascii_item st hx fun h' st' sb=>?_
    have I1:Inv X pins σ H { s with heap:=h',toks:=s.toks + 1 }:=I.turned (fun b o hb e=>(sb.2 b hb).trans e) f0 f1 f3 f4 f5
    obtain ⟨o,e,c,d⟩:=id st'
    exact ⟨_,rfl,pL (s:={ s with heap:=h',toks:=s.toks + 1 }) e c d (by decide) ⟨.str ⟨#[x.cps[i]]⟩,H,I1,⟨_,rfl⟩,⟨rfl,_,hx,rfl⟩,st',fun b hb=>(hf b hb).1⟩⟩
  done:=by
    intro X hP hw hK hc i pins s σ H E I hf st hg
    subst hP hw hK
    obtain ⟨f0,f1,f2,f3,f4,f5⟩:=hf it (by simp)
    have hg:x.cps.size≤i:=hg
    exact wpAny_pyNext_ascii_end (I.ok.hd hc) st (by simp [hg]) fun h' eb=>⟨rfl,I.turned (t':=s.toks) (fun b o hb e=>eb b o hb e) f0 f1 f3 f4 f5⟩
  self:=fun _ _ _ _ _ st h=>wpAny_pyIter_striter_ascii st h
section
variable {X:Cx} {tg:Expr}
def iStr (tl:TE):TI:=fun σ H R=>tl σ H fun v H1=>∃ x,v=.str x∧x.cps.all (·<128)=true∧R (Its x) H1
theorem jM {l:Expr} {tl:TE} (hl:PE X l tl):PI X tg l (iStr tl):=by
  intro pins s σ H R I h
  refine thn (hl pins s σ H _ I h) fun v s1 ⟨x,H1,I1,r1,q1⟩=>?_
  obtain ⟨z,e,ha,q⟩:=q1
  subst e
  obtain ⟨t,rfl⟩:=r1
  refine wpAny_pyIter_ascii ha ?_
  refine ⟨s1.heap.objs.size,[s1.heap.objs.size],_,_,H1,rfl,I1.kept (t':=s1.toks) fun b o e=>Heap.get?_push_of_some _ e,lF _ z t,⟨_,Heap.get?_push_size _ rfl,rfl,rfl⟩,fun b hb=>?_,q⟩
  have e:b=s1.heap.objs.size:=by simpa using hb
  subst e
  exact I1.wI (Nat.le_refl _) (I1.hok.fresh (Nat.le_refl _))
theorem iV {x:Str} {acc:Addr} {g:TG} {tc:TT} {te:TE} {τ:St} {H1:Hp} {Q:Hp→Prop} (Pv:Nat→St→Hp→Prop) (h0:Pv 0 τ (upd H1 acc (.lst [])))
    (hs:∀ i c τ H,x.cps[i]?=some c→Pv i τ H→g (.str ⟨#[c]⟩) τ H fun τ4 H4=>tc τ4 H4 fun b H5=>if b=true then te τ4 H5 fun y H6=>∃ ys,H6 acc=some (.lst ys)∧ys.length<sizeLine∧Pv (i + 1) τ4 (upd H6 acc (.lst (ys++[y]))) else Pv (i + 1) τ4 H5)
    (hd:∀ τ H,Pv x.cps.size τ H→Q H):jx (Its x) acc g tc te τ H1 Q:=by
  refine ⟨fun i m τ H=>m=x.cps.size - i∧i≤x.cps.size∧Pv i τ H,⟨x.cps.size,by simp,Nat.zero_le _,h0⟩,?_⟩
  rintro i m τ H ⟨rfl,hi,p⟩
  by_cases hlt:i<x.cps.size
  · refine .inr ⟨hlt,Pv (i + 1),fun τ' H' p'=>⟨x.cps.size - (i + 1),by omega,rfl,hlt,p'⟩,fun y H' e=>?_⟩
    obtain ⟨e,c,hc,ey⟩:=e
    subst e ey
    exact hs i c τ _ hc p
  · have e:i=x.cps.size:=by omega
    subst e
    exact .inl ⟨Nat.le_refl _,hd τ H p⟩
theorem pD:OpR X (binaryOp .Mult) (fun x y H Q=>∃ z n,x=.str z∧y=.int n∧0≤n∧n≤64∧z.length≤64∧Q (.str (Txt.mul z n)) H):=by
  intro pins s σ H x y v u Q I rx ry h
  obtain ⟨z,n,rfl,rfl,n0,n1,hz,q⟩:=h
  obtain ⟨t,rfl⟩:=rx
  obtain ⟨t',rfl⟩:=ry
  refine SB.mul ⟨?_,fun h1 _=>?_,fun h1 _=>?_⟩ fun t' k=>⟨.str _,H,I.tok _,⟨_,rfl⟩,q⟩
  · rw [decide_eq_false (by omega),decide_eq_false (by omega)];rfl
  · have:(64:Int)≤(2 ^ 63 - 1) / n:=by
      refine Int.le_ediv_of_mul_le (by omega) ?_
      omega
    omega
  · have h2:z.length * n.toNat≤64 * 64:=Nat.mul_le_mul hz (by omega)
    unfold Builtin.Str.tooLong
    exact decide_eq_false (by rw [sizeLine_eq];omega)
end
end L2
namespace L2
open PySem PySem.Spec PyProof.Rows
def rSlS:V→Option Int→Option Int→Hp→VK→Prop:=fun x lo hi H Q=>∃ z,x=.str z∧z.length≤100000∧Q (.str (Txt.slice z lo hi)) H
theorem iB {X:Cx}:SlR X rSlS:=by
  intro pins s σ H x v vl vu lo hi sl Q I rx hs pl pu h
  obtain ⟨z,rfl,hz,q⟩:=h
  obtain ⟨t,rfl⟩:=rx
  refine ⟨"str",_,F.slot_str_getitem.lookup,typeIs_str _ _ _,?_⟩
  have hk:∀ (lo hi:Option Int),(Txt.slice z lo hi).length≤sizeLine:=fun lo hi=>Nat.le_trans (Txt.slice_le z lo hi) (by rw [sizeLine_eq];omega)
  cases pl with
  | none =>
    cases pu with
    | none=>exact wpAny_getItem_str_slice (l:=none) (u:=none) (st:=none) hs rfl (post_val_or_str ⟨hk _ _,fun t' k=>⟨.str _,H,I.tok _,⟨_,rfl⟩,q⟩⟩)
    | int j tj=>exact wpAny_getItem_str_slice (l:=none) (u:=some (j,tj)) (st:=none) hs rfl (post_val_or_str ⟨hk _ _,fun t' k=>⟨.str _,H,I.tok _,⟨_,rfl⟩,q⟩⟩)
  | int i ti =>
    cases pu with
    | none=>exact wpAny_getItem_str_slice (l:=some (i,ti)) (u:=none) (st:=none) hs rfl (post_val_or_str ⟨hk _ _,fun t' k=>⟨.str _,H,I.tok _,⟨_,rfl⟩,q⟩⟩)
    | int j tj=>exact wpAny_getItem_str_slice (l:=some (i,ti)) (u:=some (j,tj)) (st:=none) hs rfl (post_val_or_str ⟨hk _ _,fun t' k=>⟨.str _,H,I.tok _,⟨_,rfl⟩,q⟩⟩)
theorem jD {x:Str} {lo hi:Option Int} {c:Nat} (h:c∈(Txt.slice x lo hi).cps.toList):c∈x.cps.toList:=by
  unfold Txt.slice at h
  split at h
  · exact h
  · simp only [List.mem_filterMap] at h
    obtain ⟨a,_,h⟩:=h
    exact Array.mem_toList_iff.mpr (Array.mem_of_getElem? h)
end L2
namespace L2
open PySem PySem.Spec PyProof.Rows PySem.NumText
theorem fH {X:Cx}:gK X (.type "int") (fun xs H Q=>∃ x:Str,xs=[.str x]∧AllDigits x.cps.toList∧x.cps.toList≠[]∧x.length≤640∧Q (.int (digitsVal x.cps.toList:Nat)) H):=by
  intro pins s σ H xs us Q I r h
  obtain ⟨x,rfl,hd,hn,hl,q⟩:=h
  obtain ⟨u,rfl,t,rfl⟩:=vals1 r
  exact PySem.W.KIN.call_text (intText_digits hd hn (by omega)) hl ⟨.int _,H,I.tok _,⟨_,rfl⟩,q⟩
theorem pO {x:Str} {g:TG} {tb:TS} {D:Ends} {σ:St} {H:Hp} (Pv:Nat→St→Hp→Prop) (h0:Pv 0 σ H)
    (hs:∀ i c σ H,x.cps[i]?=some c→Pv i σ H→g (.str ⟨#[c]⟩) σ H fun σ2 H2=>tb { D with nx:=Pv (i + 1),ct:=Pv (i + 1),bk:=D.nx } σ2 H2) (hd:∀ σ H,Pv x.cps.size σ H→D.nx σ H) :
    ∃ W:Nat→Nat→St→Hp→Prop,(∃ m,W 0 m σ H)∧∀ i m σ H,W i m σ H →
      ((Its x).stop i H∧D.nx σ H)∨((Its x).go i H∧∃ N:St→Hp→Prop,(∀ σ' H',N σ' H'→∃ m',m'<m∧W (i + 1) m' σ' H')∧∀ y H',(Its x).yld i H y H'→g y σ H' fun σ2 H2=>tb { D with nx:=N,ct:=N,bk:=D.nx } σ2 H2):=by
  refine ⟨fun i m σ H=>m=x.cps.size - i∧i≤x.cps.size∧Pv i σ H,⟨x.cps.size,by simp,Nat.zero_le _,h0⟩,?_⟩
  rintro i m σ H ⟨rfl,hi,p⟩
  by_cases hlt:i<x.cps.size
  · refine .inr ⟨hlt,Pv (i + 1),fun σ' H' p'=>⟨x.cps.size - (i + 1),by omega,rfl,hlt,p'⟩,fun y H' e=>?_⟩
    obtain ⟨e,c,hc,ey⟩:=e
    subst e ey
    exact hs i c σ _ hc p
  · have e:i=x.cps.size:=by omega
    subst e
    exact .inl ⟨Nat.le_refl _,hd σ H p⟩
theorem snoc_ind {P:List Nat→Prop} (h0:P []) (h1:∀ l a,P l→P (l++[a])) (l:List Nat):P l:=by
  have h:∀ m:List Nat,P m.reverse:=fun m=>by
    induction m with
    | nil=>exact h0
    | cons a m ih=>rw [List.reverse_cons];exact h1 _ _ ih
  have:=h l.reverse
  rwa [List.reverse_reverse] at this
theorem jl:∀ cs:List Nat,AllDigits cs→cs[0]?≠some 48→cs≠[]→0<digitsVal cs:=by
  refine snoc_ind (fun _ _ h=>absurd rfl h) fun cs c ih h h0 hn=>?_
  rw [digitsVal_snoc]
  cases cs with
  | nil =>
    have hc:=h c (by simp)
    have h0:c≠48:=fun e=>h0 (by rw [e];rfl)
    show 0<0 * 10 + (c - 48)
    omega
  | cons d ds =>
    have:=ih (fun x hx=>h x (List.mem_append_left _ hx)) (fun e=>h0 e) (fun e=>nomatch e)
    omega
theorem dN:∀ d:Nat,d<10→(Nat.digitChar d).toNat=48 + d:=by decide
theorem gw:∀ cs:List Nat,AllDigits cs→cs[0]?≠some 48→cs≠[]→(Nat.toDigits 10 (digitsVal cs)).map Char.toNat=cs:=by
  refine snoc_ind (fun _ _ h=>absurd rfl h) fun cs c ih h h0 hn=>?_
  have hc:=h c (by simp)
  rw [digitsVal_snoc]
  cases cs with
  | nil =>
    show (Nat.toDigits 10 (0 * 10 + (c - 48))).map Char.toNat=[c]
    rw [Nat.toDigits_of_lt_base (by omega),List.map_cons,List.map_nil,dN _ (by omega)]
    rw [show 48 + (0 * 10 + (c - 48))=c by omega]
  | cons d ds =>
    have hd:AllDigits (d :: ds):=fun x hx=>h x (List.mem_append_left _ hx)
    have h0':(d :: ds)[0]?≠some 48:=fun e=>h0 e
    have ih:=ih hd h0' (fun e=>nomatch e)
    have hp:=jl _ hd h0' (fun e=>nomatch e)
    have t:Nat.toDigits 10 (digitsVal (d :: ds))++Nat.toDigits 10 (c - 48)=Nat.toDigits 10 (10 * digitsVal (d :: ds) + (c - 48)):=Nat.toDigits_append_toDigits (by decide) hp (by omega)
    rw [show digitsVal (d :: ds) * 10 + (c - 48)=10 * digitsVal (d :: ds) + (c - 48) by omega,← t,List.map_append,ih,Nat.toDigits_of_lt_base (by omega),List.map_cons,List.map_nil,dN _ (by omega)]
    rw [show 48 + (c - 48)=c by omega]
theorem gQ {cs:List Nat} (h:AllDigits cs) (h0:cs=[48]∨cs[0]?≠some 48) (hn:cs≠[]):(Nat.toDigits 10 (digitsVal cs)).map Char.toNat=cs:=by
  rcases h0 with e | h0
  · rw [e];decide
  · exact gw cs h h0 hn
end L2
namespace Rv
end Rv
namespace Rv
end Rv
namespace Rv
abbrev Mv:=Int × Int × Int
end Rv
namespace Rv
end Rv
namespace Rv
end Rv
namespace Rv
end Rv
namespace Rv
end Rv
namespace Rv
end Rv
namespace Tn
end Tn
namespace Tn
end Tn
namespace Tn
end Tn
namespace Tn
end Tn
namespace Tn
end Tn
namespace Tn
end Tn
namespace Tn
end Tn
namespace Tn
end Tn
namespace Tn
end Tn
namespace Tn
theorem fM {α:Type} {gs:List α} {i:Nat} {k:α} (h:gs[i]?=some k):gs.take (i + 1)=gs.take i++[k]:=by
  rw [List.take_add_one,h];rfl
end Tn
namespace Tn
end Tn
namespace Tn
end Tn
namespace Tn
end Tn
namespace Tn
end Tn
namespace Rv
end Rv
namespace Rv
end Rv
namespace Tn
end Tn
namespace Rv
end Rv
namespace Tn
end Tn
namespace Tn
end Tn
namespace Rv
end Rv
namespace Tn
end Tn
namespace Rv
end Rv
namespace Tn
end Tn
namespace Rv
end Rv
namespace My
open PySem L2
local macro_rules | `(tactic| walk_at "new") => `(tactic| (generalize hE : upd _ _ _ = Hn; have On := Ow.mkE (by assumption) (by assumption) hE rfl; clear hE; revert On; revert Hn))
local macro_rules | `(tactic| walk_at "put") => `(tactic| (generalize hE : upd _ _ _ = Hn; (first | have On := Ow.iC (by assumption) 0 rfl hE rfl | have On := Ow.iC (by assumption) 1 rfl hE rfl | have On := Ow.iC (by assumption) 2 rfl hE rfl | have On := Ow.iC (by assumption) 3 rfl hE rfl | have On := Ow.iC (by assumption) 4 rfl hE rfl | have On := Ow.iC (by assumption) 5 rfl hE rfl); clear hE; (try simp only [List.set_cons_zero, List.set_cons_succ] at On); revert On; revert Hn))
set_option hygiene false
local macro_rules | `(tactic| walk_at "get") => `(tactic| first | assumption | exact O.get 0 | exact O.get 1 | exact O.get 2 | exact O.get 3 | exact O.get 4 | exact O.get 5 | exact O.get 6 | exact O.get 7 | exact O.get 8 | exact O.get 9 | exact O.get 10 | exact O.get 11 | exact O.get 12 | fail)
local macro_rules | `(tactic| walk_at "sq") => `(tactic| first | assumption | exact O.sq 0 | exact O.sq 1 | exact O.sq 2 | exact O.sq 3 | exact O.sq 4 | exact O.sq 5 | exact O.sq 6 | exact O.sq 7 | exact O.sq 8 | exact O.sq 9 | exact O.sq 10 | exact O.sq 11 | exact O.sq 12 | exact SqL.mo (by assumption) O.same | exact SqL.mo (by assumption) (s0.trans O.same) | fail)
local macro_rules | `(tactic| walk_at "sqT") => `(tactic| first | assumption | exact O.sqT 0 | exact O.sqT 1 | exact O.sqT 2 | exact O.sqT 3 | exact O.sqT 4 | exact O.sqT 5 | exact O.sqT 6 | exact O.sqT 7 | exact SqT.mo (by assumption) O.same | exact SqT.mo (by assumption) (s0.trans O.same) | fail)
local macro_rules | `(tactic| walk_at "at") => `(tactic| first | rfl | exact bw (by assumption) | exact kY (by assumption) | exact cj (by omega) (by omega) | exact lastV _ _ | exact ints_last (by omega) | exact cj (ns := [_, _]) (by omega) (by simp only [List.length_cons, List.length_nil]; omega) | exact cj (ns := [_, _, _]) (by omega) (by simp only [List.length_cons, List.length_nil]; omega) | exact cj (ns := [_, _, _, _]) (by omega) (by simp only [List.length_cons, List.length_nil]; omega) | exact cj (ns := [_, _, _, _, _]) (by omega) (by simp only [List.length_cons, List.length_nil]; omega) | exact cj (ns := [_, _, _, _, _, _]) (by omega) (by simp only [List.length_cons, List.length_nil]; omega) | exact cj (ns := [_, _, _, _, _, _, _]) (by omega) (by simp only [List.length_cons, List.length_nil]; omega) | exact cj (ns := [_, _, _, _, _, _, _, _]) (by omega) (by simp only [List.length_cons, List.length_nil]; omega) | fail)
local macro_rules | `(tactic| walk_at "c") => `(tactic| first | omega | (simp only [List.length_map]; omega) | exact szl | (show (0 : Int) < _; decide) | (show (0 : Int) < _; omega) | exact ⟨by decide, by decide⟩ | exact .inl ⟨by decide, by decide⟩ | exact .inr ⟨by decide, by decide⟩ | exact ⟨by decide, by decide, by decide⟩ | exact .inl ⟨by omega, by omega⟩ | exact .inr ⟨by omega, by omega⟩ | exact ⟨by omega, by omega⟩ | (split <;> omega) | fail)
local macro_rules | `(tactic| walk_at "ty") => `(tactic| first | exact .int _ | exact .bl _ | exact .lst (by walk_at "get") | exact .tup (by walk_at "get") | exact .non | fail)
local macro_rules | `(tactic| walk_at "kit") => `(tactic| first | exact mJ K | exact mK K | exact kit_ll K | exact kit_bb K | exact kit_bi K | exact kit_tt K | fail)
local macro_rules | `(tactic| walk_at "sz") => `(tactic| exact cP (by (try simp only [List.length_map, List.length_append, List.length_cons, List.length_nil]); omega))
local macro_rules | `(tactic| walk_at "s") => `(tactic| first | refine yes2 ?_ | refine ⟨_, rfl, ?_⟩ | refine ⟨_, _, rfl, rfl, ?_⟩ | refine And.intro rfl ?_ | refine And.intro (by walk_at "c") ?_ | refine ⟨_, _, _, _, rfl, rfl, (show SqL _ _ _ _ by walk_at "sq"), (show atI _ _ = some _ by walk_at "at"), ?_⟩ | refine ⟨_, _, _, _, rfl, rfl, (show SqT _ _ _ _ by walk_at "sqT"), (show atI _ _ = some _ by walk_at "at"), ?_⟩ | refine ⟨_, _, rfl, .inl (show SqL _ _ _ _ by walk_at "sq"), ?_⟩ | refine ⟨_, _, rfl, .inr (show SqT _ _ _ _ by walk_at "sqT"), ?_⟩ | refine ⟨_, _, rfl, (show SqL _ _ _ _ by walk_at "sq"), ?_⟩ | refine And.intro ⟨_, (show SqL _ _ _ _ by walk_at "sq")⟩ ?_ | refine And.intro (.inl ⟨rfl, _, (show SqL _ _ _ _ by walk_at "sq")⟩) ?_ | refine ⟨_, _, _, _, rfl, (show jd _ _ _ _ by walk_at "ty"), (show PySem.W.kitOne _ _ _ = some _ by walk_at "kit"), ?_⟩ | refine ⟨_, _, rfl, ?_⟩ | fail)
local macro_rules | `(tactic| walk_at "w") => `(tactic| repeat walk_at "s")
local macro_rules | `(tactic| walk_at "if") => `(tactic| first | refine iM ?_ | refine iQ ?_ | refine ifN ?_ | refine ifI (fun hc => ?_) (fun hc => ?_) | refine ifD (fun hc => ?_) (fun hc => ?_) | refine ifB (fun hc => ?_) (fun hc => ?_) | fail)
local macro_rules | `(tactic| walk_at "go") => `(tactic| repeat' (first | walk_at "if" | walk_at "s" | fail))
local macro_rules | `(tactic| walk_at "nw") => `(tactic| (generalize hE : upd _ _ _ = Hn; replace O := Ow.mkE O (by assumption) hE rfl; clear hE))
local macro_rules | `(tactic| walk_at "pt") => `(tactic| (generalize hE : upd _ _ _ = Hn; (first | replace O := Ow.iC O 0 rfl hE rfl | replace O := Ow.iC O 1 rfl hE rfl | replace O := Ow.iC O 2 rfl hE rfl | replace O := Ow.iC O 3 rfl hE rfl | replace O := Ow.iC O 4 rfl hE rfl | replace O := Ow.iC O 5 rfl hE rfl | replace O := Ow.iC O 6 rfl hE rfl | replace O := Ow.iC O 7 rfl hE rfl); clear hE; (try simp only [List.set_cons_zero, List.set_cons_succ] at O)))
local macro_rules | `(tactic| walk_at "app") => `(tactic| (refine ⟨_, _, _, rfl, rfl, (by walk_at "get"), (by walk_at "sz"), ?_⟩; walk_at "pt"))
local macro_rules | `(tactic| walk_at "elt") => `(tactic| (refine ⟨_, (by walk_at "get"), (by walk_at "sz"), ?_⟩; walk_at "pt"))
local macro_rules | `(tactic| walk_at "frz") => `(tactic| (obtain ⟨Hn, On, sn, en⟩ := O.frz; clear O; have O := On; clear On; (try replace s0 := s0.mo sn); (try replace d0 := d0.mo sn); (try replace d1 := d1.mo sn); (try replace d2 := d2.mo sn); (try replace d3 := d3.mo sn); (try replace d4 := d4.mo sn); (try replace d5 := d5.mo sn); (try replace d6 := d6.mo sn); (try replace d7 := d7.mo sn)))
local macro_rules | `(tactic| walk_at "mo") => `(tactic| ((try simp only [List.eraseIdx_cons_zero, List.eraseIdx_cons_succ] at O); (try replace s0 := s0.mo sn); (try replace d0 := d0.mo sn); (try replace d1 := d1.mo sn); (try replace d2 := d2.mo sn); (try replace d3 := d3.mo sn); (try replace d4 := d4.mo sn); (try replace d5 := d5.mo sn); (try replace d6 := d6.mo sn); (try replace d7 := d7.mo sn)))
local macro_rules | `(tactic| walk_at "er") => `(tactic| simp only [List.eraseIdx_cons_zero, List.eraseIdx_cons_succ] at O)
local macro_rules | `(tactic| walk_at "jn") => `(tactic| simp only [List.cons_append, List.nil_append] at O)
def top (i:Nat):Stmt:=PySem.Challenge.pw_sluice_k72_numbers_and_names.main.body.getD i (.Pass ⟨0,0,0,0⟩)
theorem lg (x y:Str):(x++y).cps.toList=x.cps.toList++y.cps.toList:=by
  show (x.cps++y.cps).toList=_
  simp
def Asc (x:Str):Prop:=∀ c∈x.cps.toList,c<128
theorem Asc.app {x y:Str} (h:Asc x) (h':Asc y):Asc (x++y):=fun c hc=>by
  rw [lg] at hc
  rcases List.mem_append.mp hc with e | e
  · exact h c e
  · exact h' c e
theorem Asc.slice {x:Str} {lo hi:Option Int} (h:Asc x):Asc (Txt.slice x lo hi):=fun c hc=>h c (jD hc)
theorem cF (x:Str):x.cps.toList.length=x.length:=by show _=x.cps.size;simp
theorem len_app (x y:Str):(x++y).length=x.length + y.length:=by rw [← cF,lg,List.length_append,cF,cF]
abbrev aY:Stmt:=top 17
theorem cg:bI ["cell","many","drawn","k","base"] ["cell","many"] (aj aY):=⟨rfl,rfl,rfl,by decide +kernel,rfl,by decide +kernel,by decide +kernel⟩
def mD (T:fJ):Sp:=fun vs H Q _=>∃ (c:Int) (n:Nat),vs=[.int c,.int (n:Int)]∧n≤100∧TabsOk T H∧p7 T H (fun xs=>∃ ys:List Int,xs=ys.map V.int∧ys.length=n∧∀ y∈ys,0≤y∧y<600011003) Q
theorem qN {f:Addr} {fd:FuncData} (D:Df K mg "_law_draws" aY ["cell","many"] f fd) (B:Blt mg):cX P w K mg base CX0 1 f fd ["cell","many"] (mD T):=by
  refine D.F.ok cg (fun vs H Q E h=>?_) (fun cdv A outer s H vs Q E hr h=>?_)
  · obtain ⟨c,n,rfl,_⟩:=h;rfl
  · obtain ⟨c,n,rfl,h1,tk,q⟩:=h
    have O:=Ow.refl tk
    refine ⟨_,(aq (bG (i:=2) cg.nd rfl (Or.inl rfl) (jP aB))
      (aq (iD PassesOwn.never rfl (fX rfl B.range (ak (pv 1) aB)) (dz (i:=3) cg.nd rfl (Or.inl rfl))
        (aq (bG (i:=4) cg.nd rfl (Or.inl rfl) (aO dZ (aO dZ (aO cu (pv 0) ao) (aO iG ao (pv 3))) ao))
        (aC (pB (uJ PySem.F.plainAttrs_list PySem.F.slot_list_append PySem.F.type_list_append gk (pv 2) (ak (aO cu (aO jU (aO iG (aO iG (pv 4) (pv 4)) (pv 4)) ao) ao) aB))))))
      (aC (bx (pv 2))))),?_⟩
    refine ⟨szl,fun lw hlw=>?_⟩
    walk_at "nw"
    refine ⟨_,rfl,(n:Int),rfl,by omega,by omega,?_⟩
    rw [Int.toNat_natCast]
    refine gq (n:=n) (fun i σ H'=>Iv (∃ (v3 v4:Option V) (ys:List Int),σ=[some (.int c),some (.int (n:Int)),some (.ref lw),v3,v4]∧Ow T H H' [(lw,.lst (ys.map V.int))]∧ys.length=i∧∀ y∈ys,0≤y∧y<600011003)) ⟨trivial,none,none,[],rfl,O,rfl,fun y hy=>nomatch hy⟩ ?_ ?_
    · clear O
      rintro i σ H4 hi ⟨-,v3,v4,ys,rfl,O,hy,hyb⟩
      rw [Int.zero_add]
      have a0:=Int.emod_nonneg c (show (777767777:Int)≠0 by decide)
      have a1:=Int.emod_lt_of_pos c (show (0:Int)<777767777 by decide)
      have b0:(0:Int)≤c % 777767777 + 1217 * (i:Int) + 59:=by omega
      have b1:c % 777767777 + 1217 * (i:Int) + 59<1000000000:=by omega
      refine ⟨_,rfl,_,_,rfl,rfl,(by show (0:Int)<777767777;decide),_,rfl,_,_,rfl,rfl,.inl ⟨by decide,by decide⟩,_,_,rfl,rfl,_,_,rfl,rfl,?_⟩
      refine ⟨_,rfl,.inl ⟨rfl,_,O.sq 0⟩,_,rfl,_,rfl,_,_,rfl,rfl,.inr ⟨by omega,by omega⟩,_,rfl,_,_,rfl,rfl,.inr ⟨by omega,by omega⟩,_,_,rfl,rfl,⟨by decide,by decide⟩,_,_,rfl,rfl,(by show (0:Int)<600011003;decide),lw,_,_,rfl,rfl,O.get 0,cP (by rw [List.length_map];omega),?_⟩
      walk_at "pt"
      refine ⟨trivial,_,_,ys++[(c % 777767777 + 1217 * (i:Int) + 59) * (c % 777767777 + 1217 * (i:Int) + 59) * (c % 777767777 + 1217 * (i:Int) + 59) / 11 % 600011003],rfl,?_,by rw [List.length_append,hy];rfl,fun y h=>?_⟩
      · rw [List.map_append];exact O
      · rcases List.mem_append.mp h with h | h
        · exact hyb y h
        · rw [List.mem_singleton.mp h];exact ⟨Int.emod_nonneg _ (by decide),Int.emod_lt_of_pos _ (by decide)⟩
    clear O
    rintro σ H4 ⟨-,v3,v4,ys,rfl,O,hy,hyb⟩
    exact ⟨_,rfl,O.ret 0 rfl q ⟨ys,rfl,hy,hyb⟩⟩
def gG (x:Str):Prop:=1≤x.cps.size∧x.cps.size≤8∧∀ c∈x.cps.toList,97≤c∧c≤122
open PySem.NumText in
def jo (x:Str):Prop:=1≤x.length∧x.length≤13∧AllDigits x.cps.toList∧(x=("0":Str)∨x.cps.toList[0]?≠some 48)
abbrev lB:Str:="abcdefghijklmnopqrstuvwxyz"
abbrev oR:Str:="0123456789"
theorem iR (c:Nat):c∈lB.cps.toList↔97≤c∧c≤122:=by
  have e:lB.cps.toList=(List.range 26).map (97 + ·):=by decide +kernel
  rw [e,List.mem_map]
  constructor
  · rintro ⟨k,hk,rfl⟩
    have:=List.mem_range.mp hk;omega
  · intro h
    exact ⟨c - 97,List.mem_range.mpr (by omega),by omega⟩
theorem iT (c:Nat):c∈oR.cps.toList↔48≤c∧c≤57:=by
  have e:oR.cps.toList=(List.range 10).map (48 + ·):=by decide +kernel
  rw [e,List.mem_map]
  constructor
  · rintro ⟨k,hk,rfl⟩
    have:=List.mem_range.mp hk;omega
  · intro h
    exact ⟨c - 48,List.mem_range.mpr (by omega),by omega⟩
def allIn (x s:Str):Bool:=x.cps.toList.all fun c=>decide (c∈s.cps.toList)
theorem cA (x s:Str):allIn x s=true↔∀ c∈x.cps.toList,c∈s.cps.toList:=by
  unfold allIn;rw [List.all_eq_true]
  exact ⟨fun h c hc=>of_decide_eq_true (h c hc),fun h c hc=>decide_eq_true (h c hc)⟩
theorem j9 {x:Str} {i c:Nat} (h:x.cps[i]?=some c):x.cps.toList[i]?=some c:=by rw [Array.getElem?_toList];exact h
theorem gY {x:Str} (h:Asc x):x.cps.all (·<128)=true:=by
  rw [Array.all_eq_true]
  intro i hi
  exact decide_eq_true (h _ (Array.getElem_mem_toList hi))
theorem take_all {x s:Str} {i c:Nat} (hc:x.cps[i]?=some c):((x.cps.toList.take (i + 1)).map fun c=>decide (c∈s.cps.toList))=((x.cps.toList.take i).map fun c=>decide (c∈s.cps.toList))++[decide (c∈s.cps.toList)]:=by
  rw [Tn.fM (j9 hc),List.map_append];rfl
abbrev bQ:Stmt:=top 3
theorem jh:bI ["text"] ["text"] (aj bQ):=⟨rfl,rfl,rfl,by decide +kernel,rfl,by decide +kernel,by decide +kernel⟩
structure CN (mg:Str→Option Value):Prop where
  LONGEST_NAME:∃ t,mg "LONGEST_NAME"=some (.int 8 t)
  LETTERS:∃ t,mg "LETTERS"=some (.str "abcdefghijklmnopqrstuvwxyz" t)
structure CF (mg:Str→Option Value):Prop where
  MOST_FIGURES:∃ t,mg "MOST_FIGURES"=some (.int 13 t)
  FIGURES:∃ t,mg "FIGURES"=some (.str "0123456789" t)
def mC (T:fJ):Sp:=fun vs H Q _=>∃ (x:Str),vs=[.str x]∧Asc x∧x.length≤1000∧TabsOk T H∧∀ (b:Bool) (H':Hp),bO T H H'→(b=true↔gG x)→Q (.bl b) H'
theorem qM {f:Addr} {fd:FuncData} (D:Df K mg "is_name" bQ ["text"] f fd) (B:Blt mg) (CN:CN mg):cX P w K mg base CX0 1 f fd ["text"] (mC T):=by
  obtain ⟨tM,hLONGEST_NAME⟩:=CN.LONGEST_NAME
  obtain ⟨tL,hLETTERS⟩:=CN.LETTERS
  refine D.F.ok jh (fun vs H Q E h=>?_) (fun cdv A outer s H vs Q E hr h=>?_)
  · obtain ⟨_,rfl,_⟩:=h;rfl
  · obtain ⟨x,rfl,hA,hl,tk,q⟩:=h
    have O:=Ow.refl tk
    have hz:x.length=x.cps.size:=rfl
    have no:¬ gG x→Q (.bl false) H:=fun h=>q _ _ O.same ⟨(fun e=>nomatch e),fun z=>absurd z h⟩
    refine ⟨_,(aC (bx (cM (fD jj jj ao (aW bK rfl B.len PySem.boot_len (ak (pv 0) aB)) (eO (v:=.int (8)) rfl hLONGEST_NAME ⟨_,rfl⟩)) (dj (aW (jc rfl) rfl B.all PyProof.Rows.boot_all (ak (gP (aj bQ) rfl ["text"] rfl ["sign"] [none] (by decide +kernel) (by decide +kernel) (by decide +kernel) rfl (jM (pv 0)) (fun _ _ _=>(dz (i:=0) (show (["sign"]:List Str).Nodup by decide +kernel) rfl (Or.inl rfl))) (fun _ _ _=>gO) (fun _ _ _=>(dO gj (pv 0) (eO (v:=.str "abcdefghijklmnopqrstuvwxyz") rfl hLETTERS ⟨_,rfl⟩) (by rfl)))) aB)))))),?_⟩
    refine ⟨_,rfl,x,rfl,(by rw [sizeLine_eq];omega),_,_,rfl,rfl,_,rfl,ifD (fun h1=>?_) (fun h1=>?_)⟩
    rotate_left
    · exact ⟨_,rfl,iQ (no fun z=>h1 (by have:=z.1;omega))⟩
    refine ⟨_,_,rfl,rfl,_,rfl,ifD (fun h2=>?_) (fun h2=>?_)⟩
    rotate_left
    · exact no fun z=>h2 (by have:=z.2.1;omega)
    refine ⟨_,rfl,x,rfl,gY hA,fun lw hlw=>?_⟩
    refine iV (fun i τ H'=>Iv (∃ (v0:Option V),τ=[v0]∧Ow T H H' [(lw,.lst (((x.cps.toList.take i).map fun c=>decide (c∈lB.cps.toList)).map V.bl))])) ⟨trivial,none,rfl,O.mk' hlw rfl⟩ ?_ ?_
    · clear O
      rintro i c τ H4 hc ⟨-,v0,rfl,O⟩
      refine uo ?_
      refine ⟨_,rfl,_,_,rfl,rfl,?_⟩
      rw [show (!(Builtin.Str.occurrences ("abcdefghijklmnopqrstuvwxyz":Str) ⟨#[c]⟩ 0 ("abcdefghijklmnopqrstuvwxyz":Str).length 1).isEmpty)=decide (c∈lB.cps.toList) from PySem.StrLaws.found_one lB c]
      refine ⟨_,O.get 0,cP (by rw [List.length_map,List.length_map,List.length_take,cF];omega),?_⟩
      walk_at "pt"
      refine ⟨trivial,_,rfl,?_⟩
      rw [take_all hc,List.map_append];exact O
    clear O
    rintro τ H4 ⟨-,v0,rfl,O⟩
    refine ⟨lw,_,rfl,O.sq 0,q _ _ O.same ?_⟩
    rw [List.take_of_length_le (by simp),List.all_map]
    show allIn x lB=true↔_
    rw [cA]
    exact ⟨fun h=>⟨by omega,by omega,fun c hc=>(iR c).mp (h c hc)⟩,fun h c hc=>(iR c).mpr (h.2.2 c hc)⟩
abbrev bA:Stmt:=top 15
theorem fP:bI ["word"] ["word"] (aj bA):=⟨rfl,rfl,rfl,by decide +kernel,rfl,by decide +kernel,by decide +kernel⟩
def mj (T:fJ) (cR:Addr):Sp:=fun vs H Q E=>∃ (x:Str),vs=[.str x]∧Asc x∧x.length≤1000∧TabsOk T H∧(¬ gG x→∀ (e:Addr) (H':Hp),bO T H H'→H' e=none→E (.ref cR) (some e) H')∧(gG x→∀ H',bO T H H'→Q (.str x) H')
theorem qG {f f1 cR:Addr} {fd fd1:FuncData} (D:Df K mg "read_name" bA ["word"] f fd) (X_NoRow:iu K mg "NoRow" cR)
    (cI:Df K mg "is_name" bQ ["text"] f1 fd1) (lu:cX P w K mg base CX0 1 f1 fd1 ["text"] (mC T)):cX P w K mg base (CXE P w) 2 f fd ["word"] (mj T cR):=by
  refine D.F.okX fP (fun vs H Q E h=>?_) (fun cdv A outer s H vs Q E hr h=>?_)
  · obtain ⟨_,rfl,_⟩:=h;rfl
  · obtain ⟨x,rfl,hA,hl,tk,qx,q⟩:=h
    refine ⟨_,(aq (cZ (fV (dX (bT lu (hr.mono (by decide)) rfl cI.m cI.F.kp cI.b .nil dR (ak (pv 0) aB))))
        (aC (fC gV rfl (fun _ _ z=>z) rfl X_NoRow.m X_NoRow.q (ak bY aB)))
        bH)
      (aC (bx (pv 0)))),?_⟩
    refine ⟨_,rfl,x,rfl,hA,hl,tk,fun b H1 s1 hb=>?_⟩
    refine ⟨_,rfl,?_⟩
    cases b with
    | false=>exact iM ⟨szl,fun e he=>qx (fun z=>nomatch hb.mpr z) e _ s1 he⟩
    | true=>exact iQ ⟨_,rfl,q (hb.mp rfl) _ s1⟩
theorem fu {c:Nat}:V.str (⟨#[c]⟩:Str)=V.str ("0":Str)↔c=48:=by
  constructor
  · intro h
    have h:=congrArg (fun z:Str=>z.cps.toList) (V.str.inj h)
    rw [show ("0":Str).cps.toList=[48] from rfl] at h
    simpa using h
  · intro h;rw [h];rfl
abbrev aQ:Stmt:=top 14
theorem eY:bI ["word"] ["word"] (aj aQ):=⟨rfl,rfl,rfl,by decide +kernel,rfl,by decide +kernel,by decide +kernel⟩
open PySem.NumText in
def qp (T:fJ) (cR:Addr):Sp:=fun vs H Q E=>∃ (x:Str),vs=[.str x]∧Asc x∧x.length≤1000∧TabsOk T H∧(¬ jo x→∀ (e:Addr) (H':Hp),bO T H H'→H' e=none→E (.ref cR) (some e) H')∧(jo x→∀ H',bO T H H'→Q (.int (digitsVal x.cps.toList:Nat)) H')
theorem uK {f cR:Addr} {fd:FuncData} (D:Df K mg "read_number" aQ ["word"] f fd) (B:Blt mg) (CF:CF mg) (X_NoRow:iu K mg "NoRow" cR):cX P w K mg base (CXE P w) 1 f fd ["word"] (qp T cR):=by
  obtain ⟨tM,hMOST_FIGURES⟩:=CF.MOST_FIGURES
  obtain ⟨tL,hFIGURES⟩:=CF.FIGURES
  refine D.F.okX eY (fun vs H Q E h=>?_) (fun cdv A outer s H vs Q E hr h=>?_)
  · obtain ⟨_,rfl,_⟩:=h;rfl
  · obtain ⟨x,rfl,hA,hl,tk,qx,q⟩:=h
    have O:=Ow.refl tk
    refine ⟨_,(aq (cZ (PW.pt (pw_or (fV (lH jj jj ao (aW bK rfl B.len PySem.boot_len (ak (pv 0) aB)) (eO (v:=.int (13)) rfl hMOST_FIGURES ⟨_,rfl⟩))) (pw_or1 (fV (dX (aW (jc rfl) rfl B.all PyProof.Rows.boot_all (ak (gP (aj aQ) rfl ["word"] rfl ["sign"] [none] (by decide +kernel) (by decide +kernel) (by decide +kernel) rfl (jM (pv 0)) (fun _ _ _=>(dz (i:=0) (show (["sign"]:List Str).Nodup by decide +kernel) rfl (Or.inl rfl))) (fun _ _ _=>gO) (fun _ _ _=>(dO gj (pv 0) (eO (v:=.str "0123456789") rfl hFIGURES ⟨_,rfl⟩) (by rfl)))) aB)))))))
        (aC (fC gV rfl (fun _ _ z=>z) rfl X_NoRow.m X_NoRow.q (ak bY aB)))
        bH)
      (aq (cZ (PW.pt (pw_and (bR d8 (cJ (pv 0) ao (fun _ _=>rfl)) bY (bZ _)) (pw_and1 (bR qz (pv 0) bY (bZ _)))))
        (aC (fC gV rfl (fun _ _ z=>z) rfl X_NoRow.m X_NoRow.q (ak bY aB)))
        bH)
      (aC (bx (cW fH rfl B.int PyProof.Rows.boot_int (ak (pv 0) aB)))))),?_⟩
    refine ⟨_,rfl,x,rfl,(by rw [sizeLine_eq];omega),_,_,rfl,rfl,_,rfl,ifD (fun h1=>?_) (fun h1=>?_)⟩
    rotate_left
    · exact ⟨_,rfl,iM ⟨szl,fun e he=>qx (fun z=>h1 (by have:=z.1;omega)) e _ O.same he⟩⟩
    refine ⟨_,_,rfl,rfl,_,rfl,ifN (ifD (fun h2=>?_) (fun h2=>?_))⟩
    rotate_left
    · exact ⟨szl,fun e he=>qx (fun z=>h2 (by have:=z.2.1;omega)) e _ O.same he⟩
    refine ⟨_,rfl,x,rfl,gY hA,fun lw hlw=>?_⟩
    refine iV (fun i τ H'=>Iv (∃ (v0:Option V),τ=[v0]∧Ow T H H' [(lw,.lst (((x.cps.toList.take i).map fun c=>decide (c∈oR.cps.toList)).map V.bl))])) ⟨trivial,none,rfl,O.mk' hlw rfl⟩ ?_ ?_
    · clear O
      rintro i c τ H4 hc ⟨-,v0,rfl,O⟩
      refine uo ?_
      refine ⟨_,rfl,_,_,rfl,rfl,?_⟩
      rw [show (!(Builtin.Str.occurrences ("0123456789":Str) ⟨#[c]⟩ 0 ("0123456789":Str).length 1).isEmpty)=decide (c∈oR.cps.toList) from PySem.StrLaws.found_one oR c]
      refine ⟨_,O.get 0,cP (by rw [List.length_map,List.length_map,List.length_take,cF];omega),?_⟩
      walk_at "pt"
      refine ⟨trivial,_,rfl,?_⟩
      rw [take_all hc,List.map_append];exact O
    clear O
    rintro τ H4 ⟨-,v0,rfl,O⟩
    refine ⟨lw,_,rfl,O.sq 0,?_⟩
    rw [List.take_of_length_le (by simp),List.all_map]
    show (∃ b:Bool,V.bl (allIn x oR)=V.bl b∧_)
    refine ⟨_,rfl,ifN (ifB (fun h3=>?_) (fun h3=>?_))⟩
    rotate_left
    · exact ⟨szl,fun e he=>qx (fun z=>by
        have:=(cA x oR).mpr fun c hc=>(iT c).mpr (z.2.2.1 c hc)
        rw [this] at h3;cases h3) e _ O.same he⟩
    have hdig:PySem.NumText.AllDigits x.cps.toList:=fun c hc=>(iT c).mp ((cA x oR).mp h3 c hc)
    have xl:=cF x
    obtain ⟨c0,hc0⟩:∃ c,x.cps.toList[0]?=some c:=⟨_,List.getElem?_eq_getElem (by omega)⟩
    have hnil:x.cps.toList≠[]:=fun e=>by rw [e] at xl;have:(0:Nat)=x.length:=xl;omega
    have fin:(x=("0":Str)∨x.cps.toList[0]?≠some 48)→jo x:=fun h=>⟨by omega,by omega,hdig,h⟩
    refine ⟨_,rfl,_,_,_,rfl,rfl,by decide,by decide,(by show (0:Int)<(x.length:Int);omega),(by rw [← Array.getElem?_toList];exact hc0),rfl,_,rfl,ifD (fun h4=>?_) (fun h4=>?_)⟩
    · refine ⟨_,rfl,rfl,_,rfl,ifN (ifD (fun h5=>?_) (fun h5=>?_))⟩
      · exact ⟨_,rfl,x,rfl,hdig,hnil,by omega,q (fin (.inl (V.str.inj h5))) _ O.same⟩
      · exact ⟨szl,fun e he=>qx (fun z=>z.2.2.2.elim (fun e=>h5 (by rw [e])) fun e=>e (by rw [hc0,fu.mp h4])) e _ O.same he⟩
    · exact ⟨_,rfl,x,rfl,hdig,hnil,by omega,q (fin (.inr (by rw [hc0];exact fun e=>h4 (fu.mpr (Option.some.inj e))))) _ O.same⟩
abbrev bC:Stmt:=top 18
theorem cU:bI ["number","some"] ["number"] (aj bC):=⟨rfl,rfl,rfl,by decide +kernel,rfl,by decide +kernel,by decide +kernel⟩
abbrev sgA:Str:=" !\"#$&'()*+,-./0123456789:;<=>?@ABCDEFGHIJKLMNOPQRSTUVWXYZ[\\]^_`"
abbrev sgB:Str:="abcdefghijklmnopqrstuvwxyz{|}~\n\t"
theorem qu:Asc (sgA++sgB):=by
  have h:∀ c∈(sgA++sgB).cps.toList,c<128:=by decide +kernel
  exact h
theorem qt:0<(sgA++sgB).length∧(sgA++sgB).length≤200:=by decide +kernel
theorem kZ {c:Nat} (h:c<128):Asc (⟨#[c]⟩:Str):=fun d hd=>by
  have:d=c:=by simpa using hd
  omega
def lZ:Sp:=fun vs H Q _=>∃ (n:Int),vs=[.int n]∧∀ y:Str,y.length=1→Asc y→Q (.str y) H
theorem qF {f:Addr} {fd:FuncData} (D:Df K mg "_law_sign" bC ["number"] f fd) (B:Blt mg):cX P w K mg base CX0 1 f fd ["number"] lZ:=by
  refine D.F.ok cU (fun vs H Q E h=>?_) (fun cdv A outer s H vs Q E hr h=>?_)
  · obtain ⟨_,rfl,_⟩:=h;rfl
  · obtain ⟨n,rfl,q⟩:=h
    refine ⟨_,(aq (bG (i:=1) cU.nd rfl (Or.inl rfl) bY)
      (aq (bG (i:=1) cU.nd rfl (Or.inl rfl) (aO bJ (pv 1) bY))
      (aC (bx (cJ (pv 1) (aO cu (pv 0) (aW bK rfl B.len PySem.boot_len (ak (pv 1) aB))) (fun _ _=>rfl)))))),?_⟩
    refine ⟨_,rfl,_,_,rfl,rfl,(by show sgA.length + sgB.length≤sizeLine;decide +kernel),?_⟩
    have sA:=qu
    have sP:=qt
    generalize (sgA++sgB:Str)=so at sA sP
    have p0:=Int.emod_nonneg n (show (so.length:Int)≠0 by omega)
    have p1:=Int.emod_lt_of_pos n (show (0:Int)<(so.length:Int) by omega)
    have hlt:(n % (so.length:Int)).toNat<so.cps.size:=by show _<so.length;omega
    refine ⟨_,rfl,_,rfl,_,rfl,so,rfl,(by rw [sizeLine_eq];omega),_,_,rfl,rfl,(by show (0:Int)<(so.length:Int);omega),_,_,_,rfl,rfl,p0,(by show n % (so.length:Int)<2 ^ 63;omega),p1,Array.getElem?_eq_getElem hlt,q _ rfl (kZ (sA _ (Array.getElem_mem_toList hlt)))⟩
theorem pH {n:Int} (h0:0≤n) (h1:n<10 ^ 30):1≤(Str.ofString (toString n)).length∧(Str.ofString (toString n)).length≤31∧Asc (Str.ofString (toString n)):=by
  obtain ⟨m,rfl⟩:=Int.eq_ofNat_of_zero_le h0
  have hs:=PySem.W.KIN.signs_num m
  have hl:(Str.ofString (toString ((m:Nat):Int))).length=(Nat.toDigits 10 m).length:=by rw [← cF,hs,List.length_map]
  refine ⟨?_,?_,?_⟩
  · rw [hl];exact PySem.toDigits_len_ge 10 m
  · have:=int_text_length_le10 (a:=((m:Nat):Int)) (k:=30) (by decide) (by omega)
    rw [hl]
    have e:(toString ((m:Nat):Int)).length=(Nat.toDigits 10 m).length:=by
      show (Nat.repr m).length=_
      rw [← String.length_toList,Nat.toList_repr]
    omega
  · intro c hc
    rw [hs] at hc
    obtain ⟨ch,hch,e⟩:=List.mem_map.mp hc
    have r:=PyProof.Rows.digit_range (Nat.isDigit_of_mem_toDigits (by decide) (by decide) hch)
    rw [← e];omega
theorem iJ {n:Int} (h0:0≤n) (h1:n<10 ^ 30):n.natAbs.log2<1920:=by
  by_cases e:n.natAbs=0
  · rw [e];decide
  · rw [Nat.log2_lt e]
    have:(10:Nat) ^ 30<2 ^ 1920:=by decide +kernel
    omega
abbrev ug:Str:="ABCDEFGHIJKLMNOPQRSTUVWXYZ"
theorem jX:Asc lB∧lB.length=26:=by
  have h:∀ c∈lB.cps.toList,c<128:=by decide +kernel
  exact ⟨h,by decide +kernel⟩
theorem ju:Asc ug∧ug.length=26:=by
  have h:∀ c∈ug.cps.toList,c<128:=by decide +kernel
  exact ⟨h,by decide +kernel⟩
theorem getD_in {ns:List Int} {j:Nat} (h:j<ns.length):ns.getD j 0∈ns:=by
  rw [List.getD_eq_getElem?_getD,List.getElem?_eq_getElem h];exact List.getElem_mem h
abbrev aX:Stmt:=top 19
theorem aZ:bI ["xs","edges","letters","word","k"] ["xs"] (aj aX):=⟨rfl,rfl,rfl,by decide +kernel,rfl,by decide +kernel,by decide +kernel⟩
def mq (K:PySem.W.Frag) (T:fJ):Sp:=fun vs H Q _=>∃ (a:Addr) (ys:List Int),vs=[.ref a]∧SqL K H a (ys.map V.int)∧ys.length=15∧(∀ y∈ys,0≤y∧y<600011003)∧TabsOk T H∧∀ (x:Str) (H':Hp),bO T H H'→1≤x.length→x.length≤100→Asc x→Q (.str x) H'
theorem qI {f:Addr} {fd:FuncData} (D:Df K mg "_law_plain" aX ["xs"] f fd) (B:Blt mg):cX P w K mg base CX0 1 f fd ["xs"] (mq K T):=by
  refine D.F.ok aZ (fun vs H Q E h=>?_) (fun cdv A outer s H vs Q E hr h=>?_)
  · obtain ⟨_,_,rfl,_⟩:=h;rfl
  · obtain ⟨a,ys,rfl,hS,y15,hyb,tk,q⟩:=h
    change ∃ t,PSs _ (_ :: _) t∧_
    generalize hc0:Expr.Constant (Const.int 0) 0 ⟨49,17,49,18⟩=a0
    have hA0:∀ X:Cx,PE X a0 (tC (.int 0)):=fun X=>by rw [← hc0];exact ao
    have hN0:∀ (es:List Expr) (env:Env),starEach (a0 :: es) env=(false,eval a0 env) :: starEach es env:=fun es env=>by rw [← hc0];rfl
    generalize hc1:Expr.Constant (Const.int 9) 0 ⟨49,20,49,21⟩=a1
    have hA1:∀ X:Cx,PE X a1 (tC (.int 9)):=fun X=>by rw [← hc1];exact ao
    have hN1:∀ (es:List Expr) (env:Env),starEach (a1 :: es) env=(false,eval a1 env) :: starEach es env:=fun es env=>by rw [← hc1];rfl
    generalize hc2:Expr.Constant (Const.int 10) 0 ⟨49,23,49,25⟩=a2
    have hA2:∀ X:Cx,PE X a2 (tC (.int 10)):=fun X=>by rw [← hc2];exact ao
    have hN2:∀ (es:List Expr) (env:Env),starEach (a2 :: es) env=(false,eval a2 env) :: starEach es env:=fun es env=>by rw [← hc2];rfl
    refine ⟨_,(aq (cZ (bR d8 (aO cu (cV bD (pv 0) ao (fun _ _=>rfl)) ao) ao (bZ _))
        (aC (bx (cW cD rfl B.str PyProof.Rows.boot_str (ak (aO cu (aO iG (cV bD (pv 0) ao (fun _ _=>rfl)) (cV bD (pv 0) ao (fun _ _=>rfl))) (aO dY ao ao)) aB))))
        bH)
      (aq (cZ (bR d8 (aO cu (cV bD (pv 0) ao (fun _ _=>rfl)) ao) ao (bZ _))
        (aC (bx (cW cD rfl B.str PyProof.Rows.boot_str (ak (aO cu (cV bD (pv 0) ao (fun _ _=>rfl)) ao) aB))))
        bH)
      (aq (cZ (bR d8 (aO cu (cV bD (pv 0) ao (fun _ _=>rfl)) ao) ao (bZ _))
        (aq (bG (i:=1) aZ.nd rfl (Or.inl rfl) (jP (ak (hA0 _) (ak (hA1 _) (ak (hA2 _) (ak (aO jR (aO dY ao ao) ao) (ak (aO dY ao ao) (ak (aO dZ (aO dY ao ao) ao) (ak (aO jR (aO dY ao ao) ao) (ak (aO dY ao ao) (ak (aO jR (aO dY ao ao) ao) (ak (aO dZ (aO dY ao ao) ao) aB))))))) (hN2 _ _)) (hN1 _ _)) (hN0 _ _))))
        (aC (bx (cW cD rfl B.str PyProof.Rows.boot_str (ak (cV bD (pv 1) (aO cu (cV bD (pv 0) ao (fun _ _=>rfl)) ao) (fun _ _=>rfl)) aB)))))
        bH)
      (aq (bG (i:=2) aZ.nd rfl (Or.inl rfl) bY)
      (dJ (cZ (bR d8 (aO cu (aO jU (cV bD (pv 0) ao (fun _ _=>rfl)) ao) ao) ao (bZ _))
        (aC (bG (i:=2) aZ.nd rfl (Or.inl rfl) bY))
        bH)
      (aq (bG (i:=3) aZ.nd rfl (Or.inl rfl) bY)
      (aq (iD PassesOwn.never rfl (fX rfl B.range (ak (aO dZ ao (aO cu (cV bD (pv 0) ao (fun _ _=>rfl)) ao)) aB)) (dz (i:=4) aZ.nd rfl (Or.inl rfl))
        (aC (bG (i:=3) aZ.nd rfl (Or.inl rfl) (aO bJ (pv 3) (cJ (pv 2) (aO cu (cV bD (pv 0) (aO dZ ao (pv 4)) (fun _ _=>rfl)) ao) (fun _ _=>rfl))))))
      (aC (bx (pv 3)))))))))),?_⟩
    have O:=Ow.refl tk
    have g:∀ k:Nat,k<15→ys[k]?=some (ys.getD k 0):=fun k hk=>gn (by omega)
    have gb:∀ k:Nat,k<15→0≤ys.getD k 0∧ys.getD k 0<600011003:=fun k hk=>hyb _ (getD_in (by omega))
    have b1:=gb 1 (by decide)
    have b2:=gb 2 (by decide)
    have num:∀ (n:Int),0≤n→n<10 ^ 30→∀ H',bO T H H'→Q (.str (Str.ofString (toString n))) H':=fun n h0 h1 H' s'=>by
      have:=pH h0 h1
      exact q _ _ s' this.1 (by omega) this.2.2
    refine ⟨_,rfl,a,_,0,_,rfl,rfl,hS,bw (i:=0) (g 0 (by decide)),_,_,rfl,rfl,(by show (0:Int)<5;decide),rfl,_,rfl,ifI (fun _=>?_) (fun _=>?_)⟩
    · have e0:=Int.emod_nonneg (ys.getD 1 0 * ys.getD 2 0) (show (10:Int) ^ (13:Int).toNat≠0 by decide)
      have e1:=Int.emod_lt_of_pos (ys.getD 1 0 * ys.getD 2 0) (show (0:Int)<(10:Int) ^ (13:Int).toNat by decide)
      have e2:(10:Int) ^ (13:Int).toNat<10 ^ 30:=by decide
      exact ⟨_,rfl,a,_,1,_,rfl,rfl,hS,bw (i:=1) (g 1 (by decide)),_,rfl,a,_,2,_,rfl,rfl,hS,bw (i:=2) (g 2 (by decide)),_,_,rfl,rfl,.inl ⟨by omega,by omega⟩,_,_,rfl,rfl,⟨by decide,by decide,by decide⟩,_,_,rfl,rfl,(by show (0:Int)<10 ^ 13;decide),_,rfl,iJ e0 (by omega),num _ e0 (by omega) _ O.same⟩
    refine ⟨_,rfl,a,_,0,_,rfl,rfl,hS,bw (i:=0) (g 0 (by decide)),_,_,rfl,rfl,(by show (0:Int)<5;decide),rfl,_,rfl,ifI (fun _=>?_) (fun _=>?_)⟩
    · have e0:=Int.emod_nonneg (ys.getD 1 0) (show (1000:Int)≠0 by decide)
      have e1:=Int.emod_lt_of_pos (ys.getD 1 0) (show (0:Int)<1000 by decide)
      have e2:(1000:Int)<10 ^ 30:=by decide
      exact ⟨_,rfl,a,_,1,_,rfl,rfl,hS,bw (i:=1) (g 1 (by decide)),_,_,rfl,rfl,(by show (0:Int)<1000;decide),_,rfl,iJ e0 (by omega),num _ e0 (by omega) _ O.same⟩
    refine ⟨_,rfl,a,_,0,_,rfl,rfl,hS,bw (i:=0) (g 0 (by decide)),_,_,rfl,rfl,(by show (0:Int)<5;decide),rfl,_,rfl,ifI (fun _=>?_) (fun _=>?_)⟩
    · have k0:=Int.emod_nonneg (ys.getD 1 0) (show (10:Int)≠0 by decide)
      have k1:=Int.emod_lt_of_pos (ys.getD 1 0) (show (0:Int)<10 by decide)
      refine ⟨_,_,rfl,rfl,⟨by decide,by decide,by decide⟩,_,_,rfl,rfl,_,_,rfl,rfl,⟨by decide,by decide,by decide⟩,_,_,rfl,rfl,⟨by decide,by decide,by decide⟩,_,_,rfl,rfl,_,_,rfl,rfl,⟨by decide,by decide,by decide⟩,_,_,rfl,rfl,_,_,rfl,rfl,⟨by decide,by decide,by decide⟩,_,_,rfl,rfl,⟨by decide,by decide,by decide⟩,_,_,rfl,rfl,_,_,rfl,rfl,⟨by decide,by decide,by decide⟩,_,_,rfl,rfl,szl,fun l1 h1=>?_⟩
      walk_at "nw"
      refine ⟨_,rfl,_,rfl,a,_,1,_,rfl,rfl,hS.mo O.same,bw (i:=1) (g 1 (by decide)),_,_,rfl,rfl,(by show (0:Int)<10;decide),?_⟩
      dsimp only at O ⊢
      have hb:∀ z∈[(0:Int),9,10,10 ^ (12:Int).toNat - 1,10 ^ (12:Int).toNat,10 ^ (12:Int).toNat + 1,10 ^ (13:Int).toNat - 1,10 ^ (13:Int).toNat,10 ^ (14:Int).toNat - 1,10 ^ (13:Int).toNat + 7],0≤z∧z<10 ^ 30:=by decide
      have hz:=hb _ (getD_in (j:=(ys.getD 1 0 % 10).toNat) (by show _<10;omega))
      refine ⟨l1,_,_,_,rfl,rfl,O.sq 0,cj (ns:=[(0:Int),9,10,10 ^ (12:Int).toNat - 1,10 ^ (12:Int).toNat,10 ^ (12:Int).toNat + 1,10 ^ (13:Int).toNat - 1,10 ^ (13:Int).toNat,10 ^ (14:Int).toNat - 1,10 ^ (13:Int).toNat + 7]) k0 k1,?_⟩
      exact ⟨_,rfl,iJ hz.1 hz.2,num _ hz.1 hz.2 _ O.same⟩
    refine ⟨fun σ H'=>Iv (∃ (le:Str),σ=[some (.ref a),none,some (.str le),none,none]∧Asc le∧le.length=26∧H'=H),?_,?_⟩
    · refine ⟨_,rfl,a,_,0,_,rfl,rfl,hS,bw (i:=0) (g 0 (by decide)),_,_,rfl,rfl,⟨by decide,by decide⟩,_,_,rfl,rfl,(by show (0:Int)<8;decide),rfl,_,rfl,ifI (fun _=>?_) (fun _=>?_)⟩
      · exact ⟨trivial,ug,rfl,ju.1,ju.2,rfl⟩
      · exact ⟨trivial,lB,rfl,jX.1,jX.2,rfl⟩
    rintro σ H1 ⟨-,le,rfl,lA,l26,rfl⟩
    have z0:=Int.emod_nonneg (ys.getD 1 0) (show (9:Int)≠0 by decide)
    have z1:=Int.emod_lt_of_pos (ys.getD 1 0) (show (0:Int)<9 by decide)
    obtain ⟨sz,hsz⟩:∃ sz:Nat,1 + ys.getD 1 0 % 9=(sz:Int):=⟨(1 + ys.getD 1 0 % 9).toNat,by omega⟩
    have s1:1≤sz:=by omega
    have s9:sz≤9:=by omega
    refine ⟨_,rfl,a,_,1,_,rfl,rfl,hS,bw (i:=1) (g 1 (by decide)),_,_,rfl,rfl,(by show (0:Int)<9;decide),_,_,rfl,rfl,(sz:Int),congrArg (fun z=>[V.int z]) hsz,by omega,by omega,?_⟩
    clear hsz z0 z1
    rw [Int.toNat_natCast]
    refine gq (n:=sz) (fun i σ H'=>Iv (∃ (v4:Option V) (x:Str),σ=[some (.ref a),none,some (.str le),some (.str x),v4]∧H'=H1∧x.length=i∧Asc x)) ⟨trivial,none,"",rfl,rfl,rfl,fun c hc=>nomatch hc⟩ ?_ ?_
    · rintro i σ H4 hi ⟨-,v4,x,rfl,rfl,hx,hA⟩
      have hi:i<sz:=hi
      rw [Int.zero_add]
      have gy:ys[3 + i]?=some (ys.getD (3 + i) 0):=g (3 + i) (by omega)
      have p0:=Int.emod_nonneg (ys.getD (3 + i) 0) (show (26:Int)≠0 by decide)
      have p1:=Int.emod_lt_of_pos (ys.getD (3 + i) 0) (show (0:Int)<26 by decide)
      have hlt:(ys.getD (3 + i) 0 % 26).toNat<le.cps.size:=by show _<le.length;omega
      refine ⟨_,rfl,_,rfl,_,rfl,_,rfl,_,_,rfl,rfl,a,_,((3 + i:Nat):Int),_,rfl,(by show V.int (3 + (i:Int))=V.int ((3 + i:Nat):Int);rw [show (3:Int) + (i:Int)=((3 + i:Nat):Int) by omega]),hS,bw gy,_,_,rfl,rfl,(by show (0:Int)<26;decide),_,_,_,rfl,rfl,p0,(by show ys.getD (3 + i) 0 % 26<2 ^ 63;omega),(by show ys.getD (3 + i) 0 % 26<(le.length:Int);omega),Array.getElem?_eq_getElem hlt,_,_,rfl,rfl,(by show x.length + 1≤sizeLine;rw [sizeLine_eq];omega),?_⟩
      refine ⟨trivial,_,_,rfl,rfl,?_,hA.app (kZ (lA _ (Array.getElem_mem_toList hlt)))⟩
      rw [len_app,hx];rfl
    rintro σ H4 ⟨-,v4,x,rfl,rfl,hx,hA⟩
    exact ⟨_,rfl,q x _ O.same (by omega) (by omega) hA⟩
theorem mul_zero {n:Int} (h0:1≤n) (h1:n≤2):(Txt.mul ("0":Str) n).length≤2∧Asc (Txt.mul ("0":Str) n):=by
  have h:n=1∨n=2:=by omega
  have k1:(Txt.mul ("0":Str) 1).length≤2∧(∀ c∈(Txt.mul ("0":Str) 1).cps.toList,c<128):=by decide +kernel
  have k2:(Txt.mul ("0":Str) 2).length≤2∧(∀ c∈(Txt.mul ("0":Str) 2).cps.toList,c<128):=by decide +kernel
  rcases h with rfl | rfl
  · exact k1
  · exact k2
abbrev bB:Stmt:=top 20
theorem bW:bI ["cell","xs","word","way","at"] ["cell"] (aj bB):=⟨rfl,rfl,rfl,by decide +kernel,rfl,by decide +kernel,by decide +kernel⟩
def jA (T:fJ):Sp:=fun vs H Q _=>∃ (c:Int),vs=[.int c]∧TabsOk T H∧∀ (x:Str) (H':Hp),bO T H H'→x.length≤300→Asc x→Q (.str x) H'
theorem pF {f f1 f2 f3:Addr} {fd fd1 fd2 fd3:FuncData} (D:Df K mg "_law_word" bB ["cell"] f fd) (B:Blt mg)
    (bN:Df K mg "_law_draws" aY ["cell","many"] f1 fd1) (gJ:cX P w K mg base CX0 1 f1 fd1 ["cell","many"] (mD T))
    (bM:Df K mg "_law_plain" aX ["xs"] f2 fd2) (gH:cX P w K mg base CX0 1 f2 fd2 ["xs"] (mq K T))
    (aN:Df K mg "_law_sign" bC ["number"] f3 fd3) (dF:cX P w K mg base CX0 1 f3 fd3 ["number"] lZ):cX P w K mg base CX0 2 f fd ["cell"] (jA T):=by
  refine D.F.ok bW (fun vs H Q E h=>?_) (fun cdv A outer s H vs Q E hr h=>?_)
  · obtain ⟨_,rfl,_⟩:=h;rfl
  · obtain ⟨c,rfl,tk,q⟩:=h
    have O:=Ow.refl tk
    refine ⟨_,(aq (bG (i:=1) bW.nd rfl (Or.inl rfl) (bT gJ (hr.mono (by decide)) rfl bN.m bN.F.kp bN.b .nil dR (ak (pv 0) (ak ao aB))))
      (aq (bG (i:=2) bW.nd rfl (Or.inl rfl) (bT gH (hr.mono (by decide)) rfl bM.m bM.F.kp bM.b .nil dR (ak (pv 1) aB)))
      (aq (bG (i:=3) bW.nd rfl (Or.inl rfl) (aO cu (cV bD (pv 1) ao (fun _ _=>rfl)) ao))
      (aq (bG (i:=4) bW.nd rfl (Or.inl rfl) (aO cu (cV bD (pv 1) ao (fun _ _=>rfl)) (aW bK rfl B.len PySem.boot_len (ak (pv 2) aB))))
      (aq (cZ (bR d8 (pv 3) ao (bZ _))
        (aC (bx (aO bJ (aO pD bY (aO dZ ao (aO cu (cV bD (pv 1) ao (fun _ _=>rfl)) ao))) (pv 2))))
        bH)
      (aq (cZ (bR d8 (pv 3) ao (bZ _))
        (aC (bx (aO bJ (aO bJ (dM iB (pv 2) eN (eH (pv 4))) (bT dF (hr.mono (by decide)) rfl aN.m aN.F.kp aN.b .nil dR (ak (cV bD (pv 1) ao (fun _ _=>rfl)) aB))) (dM iB (pv 2) (eH (pv 4)) eN))))
        bH)
      (aq (cZ (bR d8 (pv 3) ao (bZ _))
        (aC (bx (aO bJ (aO bJ (dM iB (pv 2) eN (eH (pv 4))) (bT dF (hr.mono (by decide)) rfl aN.m aN.F.kp aN.b .nil dR (ak (cV bD (pv 1) ao (fun _ _=>rfl)) aB))) (dM iB (pv 2) (eH (aO dZ (pv 4) ao)) eN))))
        bH)
      (aq (cZ (bR d8 (pv 3) ao (bZ _))
        (aC (bx (aO bJ (pv 2) (bT dF (hr.mono (by decide)) rfl aN.m aN.F.kp aN.b .nil dR (ak (cV bD (pv 1) ao (fun _ _=>rfl)) aB)))))
        bH)
      (aC (bx (pv 2))))))))))),?_⟩
    refine ⟨_,rfl,c,15,rfl,by decide,tk,O.gotT fun lx H1 xs O e=>?_⟩
    obtain ⟨ys,rfl,y15,hyb⟩:=e
    have g:∀ k:Nat,k<15→ys[k]?=some (ys.getD k 0):=fun k hk=>gn (by omega)
    refine ⟨_,rfl,lx,ys,rfl,O.sq 0,y15,hyb,O.same.t1,fun x H2 s2 hx1 hx2 hA=>?_⟩
    have O:=O.kW s2
    refine ⟨_,rfl,lx,_,12,_,rfl,rfl,O.sq 0,bw (i:=12) (g 12 (by decide)),_,_,rfl,rfl,(by show (0:Int)<8;decide),?_⟩
    refine ⟨_,rfl,lx,_,13,_,rfl,rfl,O.sq 0,bw (i:=13) (g 13 (by decide)),_,rfl,x,rfl,(by rw [sizeLine_eq];omega),_,_,rfl,rfl,(by show (0:Int)<(x.length:Int);omega),?_⟩
    dsimp only
    generalize ys.getD 13 0 % (x.length:Int)=at'
    have l1:=Txt.slice_le x none (some at')
    have l2:=Txt.slice_le x (some at') none
    have l3:=Txt.slice_le x (some (at' + 1)) none
    have z0:=Int.emod_nonneg (ys.getD 13 0) (show (2:Int)≠0 by decide)
    have z1:=Int.emod_lt_of_pos (ys.getD 13 0) (show (0:Int)<2 by decide)
    have mz:=mul_zero (n:=1 + ys.getD 13 0 % 2) (by omega) (by omega)
    refine ⟨_,rfl,rfl,_,rfl,ifI (fun _=>?_) (fun _=>?_)⟩
    · refine ⟨_,rfl,lx,_,13,_,rfl,rfl,O.sq 0,bw (i:=13) (g 13 (by decide)),_,_,rfl,rfl,(by show (0:Int)<2;decide),_,_,rfl,rfl,_,_,rfl,rfl,by omega,by omega,by decide,_,rfl,_,_,rfl,rfl,(by rw [sizeLine_eq];have:=mz.1;omega),?_⟩
      exact q _ _ O.same (by rw [len_app];have:=mz.1;omega) (mz.2.app hA)
    refine ⟨_,rfl,rfl,_,rfl,ifI (fun _=>?_) (fun _=>?_)⟩
    · refine ⟨_,rfl,_,rfl,at',rfl,x,rfl,by omega,_,rfl,lx,_,14,_,rfl,rfl,O.sq 0,bw (i:=14) (g 14 (by decide)),_,rfl,fun y hy yA=>?_⟩
      refine ⟨_,_,rfl,rfl,(by rw [sizeLine_eq];omega),_,rfl,_,rfl,at',rfl,x,rfl,by omega,_,_,rfl,rfl,(by rw [len_app,sizeLine_eq];omega),?_⟩
      exact q _ _ O.same (by rw [len_app,len_app];omega) ((hA.slice.app yA).app hA.slice)
    refine ⟨_,rfl,rfl,_,rfl,ifI (fun _=>?_) (fun _=>?_)⟩
    · refine ⟨_,rfl,_,rfl,at',rfl,x,rfl,by omega,_,rfl,lx,_,14,_,rfl,rfl,O.sq 0,bw (i:=14) (g 14 (by decide)),_,rfl,fun y hy yA=>?_⟩
      refine ⟨_,_,rfl,rfl,(by rw [sizeLine_eq];omega),_,rfl,_,rfl,_,_,rfl,rfl,at' + 1,rfl,x,rfl,by omega,_,_,rfl,rfl,(by rw [len_app,sizeLine_eq];omega),?_⟩
      exact q _ _ O.same (by rw [len_app,len_app];omega) ((hA.slice.app yA).app hA.slice)
    refine ⟨_,rfl,rfl,_,rfl,ifI (fun _=>?_) (fun _=>?_)⟩
    · refine ⟨_,rfl,_,rfl,lx,_,14,_,rfl,rfl,O.sq 0,bw (i:=14) (g 14 (by decide)),_,rfl,fun y hy yA=>?_⟩
      refine ⟨_,_,rfl,rfl,(by rw [sizeLine_eq];omega),?_⟩
      exact q _ _ O.same (by rw [len_app];omega) (hA.app yA)
    · exact ⟨_,rfl,q x _ O.same (by omega) hA⟩
abbrev aR:Stmt:=top 21
theorem dg:bI ["word","some","sign"] ["word","some"] (aj aR):=⟨rfl,rfl,rfl,by decide +kernel,rfl,by decide +kernel,by decide +kernel⟩
def jC:Sp:=fun vs H Q _=>∃ (x s:Str),vs=[.str x,.str s]∧Asc x∧Q (.bl (allIn x s)) H
theorem qO {f:Addr} {fd:FuncData} (D:Df K mg "_law_all_in" aR ["word","some"] f fd):cX P w K mg base CX0 1 f fd ["word","some"] jC:=by
  refine D.F.ok dg (fun vs H Q E h=>?_) (fun cdv A outer s H vs Q E hr h=>?_)
  · obtain ⟨_,_,rfl,_⟩:=h;rfl
  · obtain ⟨x,s,rfl,hA,q⟩:=h
    refine ⟨_,(aq (iD PassesOwn.never rfl (jM (pv 0)) (dz (i:=2) dg.nd rfl (Or.inl rfl))
        (aC (cZ (bR fZ (pv 2) (pv 1) (by rfl))
          (aC (bx jQ))
          bH)))
      (aC (bx jQ))),?_⟩
    refine ⟨_,rfl,x,rfl,gY hA,?_⟩
    refine pO (fun i σ H'=>Iv (∃ (v2:Option V),σ=[some (.str x),some (.str s),v2]∧H'=H∧∀ c∈x.cps.toList.take i,c∈s.cps.toList)) ⟨trivial,none,rfl,rfl,fun c hc=>by simp at hc⟩ ?_ ?_
    · rintro i c σ H4 hc ⟨-,v2,rfl,rfl,ha⟩
      refine ⟨_,rfl,_,rfl,_,_,rfl,rfl,?_⟩
      rw [show (!(Builtin.Str.occurrences s (⟨#[c]⟩:Str) 0 s.length 1).isEmpty)=decide (c∈s.cps.toList) from PySem.StrLaws.found_one s c]
      refine ⟨_,rfl,ifN (ifD (fun h=>?_) (fun h=>?_))⟩
      · refine ⟨trivial,_,rfl,rfl,fun d hd=>?_⟩
        rw [Tn.fM (j9 hc)] at hd
        rcases List.mem_append.mp hd with e | e
        · exact ha d e
        · rw [List.mem_singleton.mp e];exact h
      · have hf:allIn x s=false:=by
          cases e:allIn x s with
          | false=>rfl
          | true=>exact absurd ((cA x s).mp e c (List.mem_of_getElem? (j9 hc))) h
        rw [hf] at q
        exact q
    rintro σ H4 ⟨-,v2,rfl,rfl,ha⟩
    rw [List.take_of_length_le (by simp)] at ha
    rw [(cA x s).mpr ha] at q
    exact q
structure je (K:PySem.W.Frag) (cR cS cN cH cE cT:Addr):Prop where
  mS:PySem.W.exmOne K (.ref cR) (.ref cS)=some true
  kN:PySem.W.kitOne K (.ref cR) (.ref cN)=some false
  kH:PySem.W.kitOne K (.ref cR) (.ref cH)=some false
  kE:PySem.W.kitOne K (.ref cR) (.ref cE)=some false
  kT:PySem.W.kitOne K (.ref cR) (.ref cT)=some false
  kR:PySem.W.kitOne K (.ref cR) (.ref cR)=some true
  kV:PySem.W.kitOne K (.ref cR) (.type "ValueError")=some true
abbrev aM:Stmt:=top 22
theorem eF:bI ["e"] ["e"] (aj aM):=⟨rfl,rfl,rfl,by decide +kernel,rfl,by decide +kernel,by decide +kernel⟩
def jB (cR:Addr):Sp:=fun vs H Q _=>∃ (e:Addr),vs=[.ref e]∧H e=some (.ext (XAt e cR))∧Q (.bl true) H
theorem qH {f cR cS cN cH cE cT:Addr} {fd:FuncData} (D:Df K mg "_law_refusal" aM ["e"] f fd) (B:Blt mg) (X_NoRow:iu K mg "NoRow" cR) (X_NoNumber:iu K mg "NoNumber" cN) (X_NoHolder:iu K mg "NoHolder" cH) (X_NoReach:iu K mg "NoReach" cE) (X_TooMuch:iu K mg "TooMuch" cT) (TT:je K cR cS cN cH cE cT):cX P w K mg base CX0 1 f fd ["e"] (jB cR):=by
  refine D.F.ok eF (fun vs H Q E h=>?_) (fun cdv A outer s H vs Q E hr h=>?_)
  · obtain ⟨_,rfl,_⟩:=h;rfl
  · obtain ⟨e,rfl,hX,q⟩:=h
    refine ⟨_,(aq (cZ (PW.pt (pw_or (dX (aW bL rfl B.isinstance PyProof.Rows.boot_isinstance (ak (pv 0) (ak (fY rfl X_NoNumber.m) aB)))) (pw_or (dX (aW bL rfl B.isinstance PyProof.Rows.boot_isinstance (ak (pv 0) (ak (fY rfl X_NoHolder.m) aB)))) (pw_or (dX (aW bL rfl B.isinstance PyProof.Rows.boot_isinstance (ak (pv 0) (ak (fY rfl X_NoReach.m) aB)))) (pw_or1 (dX (aW bL rfl B.isinstance PyProof.Rows.boot_isinstance (ak (pv 0) (ak (fY rfl X_TooMuch.m) aB)))))))))
        (aC (bx jQ))
        bH)
      (aC (bx (cM (aW bL rfl B.isinstance PyProof.Rows.boot_isinstance (ak (pv 0) (ak (fY rfl X_NoRow.m) aB))) (dj (aW bL rfl B.isinstance PyProof.Rows.boot_isinstance (ak (pv 0) (ak (fG (v:=.ty "ValueError") rfl B.ValueError pX rfl) aB)))))))),?_⟩
    refine ⟨_,rfl,e,cR,_,_,false,rfl,hX,X_NoRow.x,.inr ⟨_,rfl,rfl⟩,TT.kN,_,rfl,iQ ?_⟩
    refine ⟨_,rfl,e,cR,_,_,false,rfl,hX,X_NoRow.x,.inr ⟨_,rfl,rfl⟩,TT.kH,_,rfl,iQ ?_⟩
    refine ⟨_,rfl,e,cR,_,_,false,rfl,hX,X_NoRow.x,.inr ⟨_,rfl,rfl⟩,TT.kE,_,rfl,iQ ?_⟩
    refine ⟨_,rfl,e,cR,_,_,false,rfl,hX,X_NoRow.x,.inr ⟨_,rfl,rfl⟩,TT.kT,_,rfl,iQ ?_⟩
    refine ⟨_,rfl,e,cR,_,_,true,rfl,hX,X_NoRow.x,.inr ⟨_,rfl,rfl⟩,TT.kR,_,rfl,iM ?_⟩
    exact ⟨_,rfl,e,cR,_,_,true,rfl,hX,X_NoRow.x,.inl ⟨_,rfl,rfl⟩,TT.kV,q⟩
theorem qP (K:PySem.W.Frag):PySem.W.kitOne K (.type "str") (.type "str")=some true:=by rfl
theorem mJ (K:PySem.W.Frag):PySem.W.kitOne K (.type "int") (.type "int")=some true:=by rfl
theorem mK (K:PySem.W.Frag):PySem.W.kitOne K (.type "int") (.type "bool")=some false:=by rfl
theorem o8 {x y:Str} (h:x.cps.toList=y.cps.toList):x=y:=by
  cases x with
  | mk a=>cases y with
    | mk b=>rw [show a=b from Array.toList_inj.mp h]
theorem lU {x:Str} (h:jo x):Str.ofString (toString ((PySem.NumText.digitsVal x.cps.toList:Nat):Int))=x:=by
  apply o8
  rw [PySem.W.KIN.signs_num]
  have xl:=cF x
  refine gQ h.2.2.1 (h.2.2.2.imp (fun e=>by rw [e];rfl) id) (fun e=>?_)
  rw [e] at xl
  have:(0:Nat)=x.length:=xl
  have:=h.1
  omega
theorem uc {x:Str} (h:jo x):(PySem.NumText.digitsVal x.cps.toList)<10 ^ 30:=by
  have xl:=cF x
  have key:∀ cs:List Nat,PySem.NumText.AllDigits cs→PySem.NumText.digitsVal cs<10 ^ cs.length:=by
    refine snoc_ind (fun _=>by decide) fun cs c ih h=>?_
    have hc:=h c (by simp)
    have:=ih fun x hx=>h x (List.mem_append_left _ hx)
    rw [PySem.NumText.digitsVal_snoc,List.length_append]
    show _<10 ^ (cs.length + 1)
    rw [Nat.pow_succ];omega
  have h1:=key _ h.2.2.1
  have h2:(10:Nat) ^ x.cps.toList.length≤10 ^ 30:=Nat.pow_le_pow_right (by decide) (by have:=h.2.1;omega)
  omega
abbrev aA:Stmt:=top 23
theorem au:bI ["word","good","caught","found","e"] ["word"] (aj aA):=⟨rfl,rfl,rfl,by decide +kernel,rfl,by decide +kernel,by decide +kernel⟩
def iw (T:fJ):Sp:=fun vs H Q _=>∃ (x:Str),vs=[.str x]∧Asc x∧x.length≤1000∧TabsOk T H∧∀ H',bO T H H'→Q (.bl true) H'
theorem qJ {f f1 f2 f3 cR cS cN cH cE cT:Addr} {fd fd1 fd2 fd3:FuncData} (D:Df K mg "_law_number_right" aA ["word"] f fd) (B:Blt mg) (X_SluiceError:iu K mg "SluiceError" cS) (TT:je K cR cS cN cH cE cT)
    (aK:Df K mg "_law_all_in" aR ["word","some"] f1 fd1) (cL:cX P w K mg base CX0 1 f1 fd1 ["word","some"] jC)
    (bF:Df K mg "read_number" aQ ["word"] f2 fd2) (fK:cX P w K mg base (CXE P w) 1 f2 fd2 ["word"] (qp T cR))
    (aG:Df K mg "_law_refusal" aM ["e"] f3 fd3) (cG:cX P w K mg base CX0 1 f3 fd3 ["e"] (jB cR)):cX P w K mg base CX0 2 f fd ["word"] (iw T):=by
  refine D.F.ok au (fun vs H Q E h=>?_) (fun cdv A outer s H vs Q E hr h=>?_)
  · obtain ⟨_,rfl,_⟩:=h;rfl
  · obtain ⟨x,rfl,hA,hl,tk,q⟩:=h
    refine ⟨_,(dJ (bG (i:=1) au.nd rfl (Or.inl rfl) (cM (fD qC jj ao (aW bK rfl B.len PySem.boot_len (ak (pv 0) aB)) ao) (dj (bT cL (hr.mono (by decide)) rfl aK.m aK.F.kp aK.b .nil dR (ak (pv 0) (ak bY aB))))))
      (dJ (bG (i:=1) au.nd rfl (Or.inl rfl) (cM (pv 1) (dj (uI (dO d8 (pv 0) bY (bZ _)) (dj (dO qz (cJ (pv 0) ao (fun _ _=>rfl)) bY (bZ _)))))))
      (aq (bG (i:=2) au.nd rfl (Or.inl rfl) fj)
      (aq (bG (i:=3) au.nd rfl (Or.inl rfl) fj)
      (aq (mG (i:=4) ⟨rfl,rfl,rfl⟩ rfl (jq (lX (i:=3) au.nd rfl (Or.inl rfl) (jr fK (hr.mono (by decide)) rfl bF.m bF.F.kp bF.b .nil (ak (pv 0) aB)))) rfl X_SluiceError.m au.nd rfl rfl (fun e =>
        (aC (bG (i:=2) au.nd rfl (Or.inl rfl) (pv 4)))))
      (aq (cZ (bR jT (pv 2) fj (bZ _))
        (aC (bx (cM (jO (pv 1)) (dj (bT cG (hr.mono (by decide)) rfl aG.m aG.F.kp aG.b .nil dR (ak (pv 2) aB))))))
        bH)
      (aC (bx (cM (pv 1) (cM (aW dD rfl B.isinstance PyProof.Rows.boot_isinstance (ak (pv 3) (ak (fG (v:=.ty "int") rfl B.int PyProof.Rows.boot_int rfl) aB))) (cM (jO (aW dD rfl B.isinstance PyProof.Rows.boot_isinstance (ak (pv 3) (ak (fG (v:=.ty "bool") rfl B.bool PyProof.Rows.boot_bool rfl) aB)))) (dj (dO d8 (cW cD rfl B.str PyProof.Rows.boot_str (ak (pv 3) aB)) (pv 0) (bZ _)))))))))))))),?_⟩
    refine ⟨fun σ H'=>Iv (∃ b:Bool,σ=[some (.str x),some (.bl b),none,none,none]∧H'=H∧(b=true↔(1≤x.length∧x.length≤13∧PySem.NumText.AllDigits x.cps.toList))),?_,?_⟩
    · refine ⟨_,rfl,x,rfl,(by rw [sizeLine_eq];omega),_,_,rfl,rfl,_,rfl,ifD (fun h1=>?_) (fun h1=>?_)⟩
      rotate_left
      · exact ⟨_,rfl,iQ ⟨trivial,false,rfl,rfl,(fun e=>nomatch e),fun z=>absurd (show (0:Int)<(x.length:Int) by omega) h1⟩⟩
      refine ⟨_,_,rfl,rfl,_,rfl,ifD (fun h2=>?_) (fun h2=>?_)⟩
      rotate_left
      · exact ⟨trivial,false,rfl,rfl,(fun e=>nomatch e),fun z=>absurd (show (x.length:Int)≤13 by omega) h2⟩
      refine ⟨_,rfl,x,_,rfl,hA,?_⟩
      refine ⟨trivial,_,rfl,rfl,?_⟩
      rw [cA]
      exact ⟨fun h=>⟨by omega,by omega,fun c hc=>(iT c).mp (h c hc)⟩,fun h c hc=>(iT c).mpr (h.2.2 c hc)⟩
    rintro σ H1 ⟨-,b,rfl,rfl,hb⟩
    refine ⟨fun σ H'=>Iv (∃ b:Bool,σ=[some (.str x),some (.bl b),none,none,none]∧H'=H1∧(b=true↔jo x)),?_,?_⟩
    · refine ⟨_,rfl,_,rfl,?_⟩
      cases b with
      | false=>exact iQ ⟨trivial,false,rfl,rfl,(fun e=>nomatch e),fun z=>nomatch hb.mpr ⟨z.1,z.2.1,z.2.2.1⟩⟩
      | true =>
        have hb:=hb.mp rfl
        refine iM ?_
        refine ⟨_,rfl,rfl,_,rfl,ifD (fun h=>?_) (fun h=>?_)⟩
        · exact ⟨trivial,true,rfl,rfl,fun _=>⟨hb.1,hb.2.1,hb.2.2,.inl (V.str.inj h)⟩,fun _=>rfl⟩
        have xl:=cF x
        obtain ⟨c0,hc0⟩:∃ c,x.cps.toList[0]?=some c:=⟨_,List.getElem?_eq_getElem (by omega)⟩
        refine ⟨_,rfl,_,_,_,rfl,rfl,by decide,by decide,(by show (0:Int)<(x.length:Int);omega),(by rw [← Array.getElem?_toList];exact hc0),rfl,?_⟩
        refine ⟨trivial,_,rfl,rfl,?_⟩
        rw [Bool.not_eq_true',decide_eq_false_iff_not,fu]
        exact ⟨fun e=>⟨hb.1,hb.2.1,hb.2.2,.inr (by rw [hc0];exact fun z=>e (Option.some.inj z))⟩,fun z e=>z.2.2.2.elim (fun y=>h (by rw [y])) fun y=>y (by rw [hc0,e])⟩
    rintro σ H2 ⟨-,b,rfl,rfl,hb⟩
    refine ⟨_,rfl,x,rfl,hA,hl,tk,fun hn e H' s' he=>⟨cR,e,rfl,rfl,TT.mS,?_⟩,fun hd H' s'=>?_⟩
    · refine ⟨_,rfl,?_⟩
      have hX:(upd H' e (.ext (XAt e cR))) e=some (.ext (XAt e cR)):=cC
      have sX:bO T H2 (upd H' e (.ext (XAt e cR))):=s'.upd (s'.free he) (.inl he)
      generalize upd H' e (.ext (XAt e cR))=H3 at hX sX
      have eb:b=false:=by cases b;rfl;exact absurd (hb.mp rfl) hn
      subst eb
      refine ⟨_,rfl,rfl,_,rfl,iM ?_⟩
      refine ⟨_,rfl,_,rfl,_,rfl,iM ?_⟩
      exact ⟨_,rfl,e,rfl,hX,q _ sX⟩
    · have eb:b=true:=hb.mpr hd
      subst eb
      refine ⟨_,rfl,rfl,_,rfl,iQ ?_⟩
      refine ⟨_,rfl,_,rfl,iM ?_⟩
      refine ⟨_,rfl,_,_,_,true,rfl,.int _,mJ K,_,rfl,iM ?_⟩
      refine ⟨_,rfl,_,_,_,false,rfl,.int _,mK K,_,rfl,_,rfl,iM ?_⟩
      refine ⟨_,rfl,_,rfl,iJ (by omega) (by have:=uc hd;omega),_,rfl,rfl,?_⟩
      rw [lU hd,decide_eq_true rfl]
      exact q _ s'
abbrev aH:Stmt:=top 24
theorem aJ:bI ["word","good","caught","found","e"] ["word"] (aj aH):=⟨rfl,rfl,rfl,by decide +kernel,rfl,by decide +kernel,by decide +kernel⟩
theorem qK {f f1 f2 f3 cR cS cN cH cE cT:Addr} {fd fd1 fd2 fd3:FuncData} (D:Df K mg "_law_name_right" aH ["word"] f fd) (B:Blt mg) (X_SluiceError:iu K mg "SluiceError" cS) (TT:je K cR cS cN cH cE cT)
    (aK:Df K mg "_law_all_in" aR ["word","some"] f1 fd1) (cL:cX P w K mg base CX0 1 f1 fd1 ["word","some"] jC)
    (bU:Df K mg "read_name" bA ["word"] f2 fd2) (gZ:cX P w K mg base (CXE P w) 2 f2 fd2 ["word"] (mj T cR))
    (aG:Df K mg "_law_refusal" aM ["e"] f3 fd3) (cG:cX P w K mg base CX0 1 f3 fd3 ["e"] (jB cR)):cX P w K mg base CX0 3 f fd ["word"] (iw T):=by
  refine D.F.ok aJ (fun vs H Q E h=>?_) (fun cdv A outer s H vs Q E hr h=>?_)
  · obtain ⟨_,rfl,_⟩:=h;rfl
  · obtain ⟨x,rfl,hA,hl,tk,q⟩:=h
    have hz:x.length=x.cps.size:=rfl
    refine ⟨_,(dJ (bG (i:=1) aJ.nd rfl (Or.inl rfl) (cM (fD qC jj ao (aW bK rfl B.len PySem.boot_len (ak (pv 0) aB)) ao) (dj (bT cL (hr.mono (by decide)) rfl aK.m aK.F.kp aK.b .nil dR (ak (pv 0) (ak bY aB))))))
      (aq (bG (i:=2) aJ.nd rfl (Or.inl rfl) fj)
      (aq (bG (i:=3) aJ.nd rfl (Or.inl rfl) fj)
      (aq (mG (i:=4) ⟨rfl,rfl,rfl⟩ rfl (jq (lX (i:=3) aJ.nd rfl (Or.inl rfl) (jr gZ (hr.mono (by decide)) rfl bU.m bU.F.kp bU.b .nil (ak (pv 0) aB)))) rfl X_SluiceError.m aJ.nd rfl rfl (fun e =>
        (aC (bG (i:=2) aJ.nd rfl (Or.inl rfl) (pv 4)))))
      (aq (cZ (bR jT (pv 2) fj (bZ _))
        (aC (bx (cM (jO (pv 1)) (dj (bT cG (hr.mono (by decide)) rfl aG.m aG.F.kp aG.b .nil dR (ak (pv 2) aB))))))
        bH)
      (aC (bx (cM (pv 1) (cM (aW dD rfl B.isinstance PyProof.Rows.boot_isinstance (ak (pv 3) (ak (fG (v:=.ty "str") rfl B.str PyProof.Rows.boot_str rfl) aB))) (dj (dO d8 (pv 3) (pv 0) (bZ _)))))))))))),?_⟩
    refine ⟨fun σ H'=>Iv (∃ b:Bool,σ=[some (.str x),some (.bl b),none,none,none]∧H'=H∧(b=true↔gG x)),?_,?_⟩
    · refine ⟨_,rfl,x,rfl,(by rw [sizeLine_eq];omega),_,_,rfl,rfl,_,rfl,ifD (fun h1=>?_) (fun h1=>?_)⟩
      rotate_left
      · exact ⟨_,rfl,iQ ⟨trivial,false,rfl,rfl,(fun e=>nomatch e),fun z=>absurd (show (0:Int)<(x.length:Int) by have:=z.1;omega) h1⟩⟩
      refine ⟨_,_,rfl,rfl,_,rfl,ifD (fun h2=>?_) (fun h2=>?_)⟩
      rotate_left
      · exact ⟨trivial,false,rfl,rfl,(fun e=>nomatch e),fun z=>absurd (show (x.length:Int)≤8 by have:=z.2.1;omega) h2⟩
      refine ⟨_,rfl,x,_,rfl,hA,?_⟩
      refine ⟨trivial,_,rfl,rfl,?_⟩
      rw [cA]
      exact ⟨fun h=>⟨by omega,by omega,fun c hc=>(iR c).mp (h c hc)⟩,fun h c hc=>(iR c).mpr (h.2.2 c hc)⟩
    rintro σ H2 ⟨-,b,rfl,rfl,hb⟩
    refine ⟨_,rfl,x,rfl,hA,hl,tk,fun hn e H' s' he=>⟨cR,e,rfl,rfl,TT.mS,?_⟩,fun hd H' s'=>?_⟩
    · refine ⟨_,rfl,?_⟩
      have hX:(upd H' e (.ext (XAt e cR))) e=some (.ext (XAt e cR)):=cC
      have sX:bO T H2 (upd H' e (.ext (XAt e cR))):=s'.upd (s'.free he) (.inl he)
      generalize upd H' e (.ext (XAt e cR))=H3 at hX sX
      have eb:b=false:=by cases b;rfl;exact absurd (hb.mp rfl) hn
      subst eb
      refine ⟨_,rfl,rfl,_,rfl,iM ?_⟩
      refine ⟨_,rfl,_,rfl,_,rfl,iM ?_⟩
      exact ⟨_,rfl,e,rfl,hX,q _ sX⟩
    · have eb:b=true:=hb.mpr hd
      subst eb
      refine ⟨_,rfl,rfl,_,rfl,iQ ?_⟩
      refine ⟨_,rfl,_,rfl,iM ?_⟩
      refine ⟨_,rfl,_,_,_,true,rfl,.str _,qP K,_,rfl,iM ?_⟩
      refine ⟨_,rfl,_,rfl,rfl,?_⟩
      rw [decide_eq_true rfl]
      exact q _ s'
abbrev eG:Stmt:=top 25
theorem mF:bI ["script","word"] ["script"] (aj eG):=⟨rfl,rfl,rfl,by decide +kernel,rfl,by decide +kernel,by decide +kernel⟩
def iy (K:PySem.W.Frag):Sp:=fun vs H Q _=>∃ (a:Addr) (ns:List Int),vs=[.ref a]∧SqL K H a (ns.map V.int)∧ns.length≤63∧∀ H',Q (.bl true) H'
theorem qL {f f1 f2 f3:Addr} {fd fd1 fd2 fd3:FuncData} (hT0:T=[]) (D:Df K mg "law" eG ["script"] f fd) (B:Blt mg)
    (bV:Df K mg "_law_word" bB ["cell"] f1 fd1) (ig:cX P w K mg base CX0 2 f1 fd1 ["cell"] (jA T))
    (aL:Df K mg "_law_number_right" aA ["word"] f2 fd2) (dG:cX P w K mg base CX0 2 f2 fd2 ["word"] (iw T))
    (aV:Df K mg "_law_name_right" aH ["word"] f3 fd3) (dU:cX P w K mg base CX0 3 f3 fd3 ["word"] (iw T)):cX P w K mg base CX0 4 f fd ["script"] (iy K):=by
  refine D.F.ok mF (fun vs H Q E h=>?_) (fun cdv A outer s H vs Q E hr h=>?_)
  · obtain ⟨_,_,rfl,_⟩:=h;rfl
  · obtain ⟨a,ns0,rfl,hS,hlen,k⟩:=h
    have tk:TabsOk T H:=hT0 ▸ TabsOk.nil H
    have O:=Ow.refl tk
    refine ⟨_,(aq (iD PassesOwn.never rfl (jN (aO qD (jP (ak bY aB)) (gP (aj eG) rfl ["script","word"] rfl ["cell"] [none] (by decide +kernel) (by decide +kernel) (by decide +kernel) rfl (jN (dM o9 (pv 0) eN (eH ao))) (fun _ _ _=>(dz (i:=0) (show (["cell"]:List Str).Nodup by decide +kernel) rfl (Or.inl rfl))) (fun _ _ _=>gO) (fun _ _ _=>(bT ig (hr.mono (by decide)) rfl bV.m bV.F.kp bV.b .nil dR (ak (pv 0) aB)))))) (dz (i:=1) mF.nd rfl (Or.inl rfl))
        (aC (cZ (PW.pt (pw_or (fV (dX (bT dG (hr.mono (by decide)) rfl aL.m aL.F.kp aL.b .nil dR (ak (pv 1) aB)))) (pw_or1 (fV (dX (bT dU (hr.mono (by decide)) rfl aV.m aV.F.kp aV.b .nil dR (ak (pv 1) aB)))))))
          (aC (bx jQ))
          bH)))
      (aC (bx jQ))),?_⟩
    refine ⟨szl,fun l0 h0=>?_⟩
    walk_at "nw"
    refine ⟨_,rfl,200,rfl,a,_,rfl,O.same.seq hS,fun lq hlq=>?_⟩
    walk_at "nw"
    rw [show pR (ns0.map V.int) none (some 200)=(ns0.take 200).map V.int from lV ns0 200] at O
    have hql:(ns0.take 200).length≤63:=by rw [List.length_take];omega
    generalize ns0.take 200=qs at O hql
    refine ⟨lq,rfl,⟨_,O.sq 0⟩,fun lw hlw=>?_⟩
    refine kj (K:=K) (xs:=qs.map V.int) (fun i τ H'=>Iv (∃ (v0:Option V) (ns:List Str),τ=[v0]∧Ow T H H' [(lw,.lst (ns.map V.str)),(lq,.lst (qs.map V.int)),(l0,.lst [.str ""])]∧ns.length=i∧∀ x∈ns,x.length≤300∧Asc x))
      ⟨trivial,none,[],rfl,O.mk' hlw rfl,rfl,fun x hx=>nomatch hx⟩ (fun i τ H' _ ⟨_,_,_,_,O,_⟩=>O.sq 1) ?_ ?_
    · clear O
      rintro i y τ H4 hy ⟨-,v0,ns,rfl,O,hns,hnm⟩
      obtain ⟨c,hc,rfl⟩:=ints_get hy
      have hi:=(List.getElem?_eq_some_iff.mp hc).1
      refine uo ?_
      refine ⟨_,rfl,c,rfl,O.same.t1,fun x H5 s5 hx hA=>?_⟩
      have O:=O.kW s5
      refine ⟨_,O.get 0,cP (by rw [List.length_map];omega),?_⟩
      walk_at "pt"
      refine ⟨trivial,_,ns++[x],rfl,?_,by rw [List.length_append,hns];rfl,?_⟩
      · rw [List.map_append];exact O
      · intro y hy
        rcases List.mem_append.mp hy with h | h
        · exact hnm y h
        · rw [List.mem_singleton.mp h];exact ⟨hx,hA⟩
    clear O
    rintro τ H4 ⟨-,v0,ns,rfl,O,hns,hnm⟩
    rw [List.length_map] at hns
    refine ⟨l0,lw,_,_,rfl,rfl,O.get 2,O.get 0,iz (by rw [List.length_map];show 1 + ns.length≤100000;omega),fun lc hlc=>?_⟩
    walk_at "nw"
    rw [show [V.str ""]++ns.map V.str=((("":Str) :: ns).map V.str) from rfl] at O
    have hnm2:∀ x∈("":Str) :: ns,x.length≤300∧Asc x:=fun x hx=>by
      rcases List.mem_cons.mp hx with e | e
      · rw [e];exact ⟨Nat.zero_le _,fun c hc=>nomatch hc⟩
      · exact hnm x e
    generalize ("":Str) :: ns=ws at O hnm2
    refine ⟨lc,rfl,⟨_,O.sq 0⟩,?_⟩
    refine lR (K:=K) (xs:=ws.map V.str) (fun i σ H'=>Iv (∃ (v1:Option V),σ=[some (.ref a),v1]∧Ow T H H' [(lc,.lst (ws.map V.str))])) ⟨trivial,none,rfl,O.sub (.cons₂ _ (List.nil_sublist _))⟩ (fun i σ H' _ ⟨_,_,_,O⟩=>O.sq 0) ?_ ?_
    · clear O
      rintro i y σ H7 hy ⟨-,v1,rfl,O⟩
      rw [List.getElem?_map] at hy
      obtain ⟨y,hy2,rfl⟩:=Option.map_eq_some_iff.mp hy
      have hyA:=hnm2 y (List.mem_of_getElem? hy2)
      refine ⟨_,rfl,y,rfl,hyA.2,by omega,O.same.t1,fun H8 s8=>?_⟩
      have O:=O.kW s8
      refine ⟨_,rfl,iQ ?_⟩
      refine ⟨_,rfl,y,rfl,hyA.2,by omega,O.same.t1,fun H9 s9=>?_⟩
      exact ⟨_,rfl,iQ ⟨trivial,_,rfl,O.kW s9⟩⟩
    rintro σ H7 ⟨-,v1,rfl,O⟩
    exact k _
theorem dw {K:PySem.W.Frag} {x qual:Str} {st:Stmt} {f:Addr} {fd:FuncData} {n0:Str} (F:Fun K x qual st f fd) (h:∀ (kV doc pm:Value) (an:Option Addr) (cdv ct u0:Value),bindArgs (PySem.W.fnOf x qual (aF st) (aD st) (aj st) .none kV doc pm an cdv ct) ⟨[u0],[]⟩=pure (([n0]:List Str).zip [u0])):Binds K fd [n0] [] :=
  F.binds (ps:=[n0]) fun kV doc pm an cdv ct us hl=>match us,hl with | [u0],_=>h kV doc pm an cdv ct u0
theorem oW {K:PySem.W.Frag} {x qual:Str} {st:Stmt} {f:Addr} {fd:FuncData} {n0 n1:Str} (F:Fun K x qual st f fd) (h:∀ (kV doc pm:Value) (an:Option Addr) (cdv ct u0 u1:Value),bindArgs (PySem.W.fnOf x qual (aF st) (aD st) (aj st) .none kV doc pm an cdv ct) ⟨[u0,u1],[]⟩=pure (([n0,n1]:List Str).zip [u0,u1])):Binds K fd [n0,n1] [] :=
  F.binds (ps:=[n0,n1]) fun kV doc pm an cdv ct us hl=>match us,hl with | [u0,u1],_=>h kV doc pm an cdv ct u0 u1
theorem all_mk {l:PySem.W.OpenLaw} {w:World} {K:PySem.W.Frag} {h:Heap} {mg:Str→Option Value} {fa f0 f1 f2 f3 f4 f5 f6 f7 f8 f9 f10 f11 cX_SluiceError cX_NoRow cX_NoNumber cX_NoHolder cX_NoReach cX_TooMuch:Addr} (X:K.In h) (G:h.Ns mainGlobals mg) (hfa:mg "law"=some (.ref fa))
    {od0 an0 od1 an1 od2 an2 od3 an3 od4 an4 od5 an5 od6 an6 od7 an7 od8 an8 od9 an9 od10 an10 od11 an11:Option Addr} {sl0 sl1 sl2 sl3 sl4 sl5 sl6 sl7 sl8 sl9 sl10 sl11:Array (Option Value)} {oc0 kV0 dc0 pm0 cd0 ct0 oc1 kV1 dc1 pm1 cd1 ct1 oc2 kV2 dc2 pm2 cd2 ct2 oc3 kV3 dc3 pm3 cd3 ct3 oc4 kV4 dc4 pm4 cd4 ct4 oc5 kV5 dc5 pm5 cd5 ct5 oc6 kV6 dc6 pm6 cd6 ct6 oc7 kV7 dc7 pm7 cd7 ct7 oc8 kV8 dc8 pm8 cd8 ct8 oc9 kV9 dc9 pm9 cd9 ct9 oc10 kV10 dc10 pm10 cd10 ct10 oc11 kV11 dc11 pm11 cd11 ct11:Value} {t0 t1 t2 t3:Tok}
    (a0:PySem.W.nsIn K mainGlobals "is_name"=some (some (.ref f0))) (l0:K.lookup f0=some ⟨oc0,od0,.func (PySem.W.fnOf "is_name" "is_name" (aF bQ) (aD bQ) (aj bQ) .none kV0 dc0 pm0 an0 cd0 ct0),sl0⟩) (c0:PySem.W.codeIn K cd0 "is_name"=true) (k0:PySem.W.keepIn K (.ref f0)=true)
    (a1:PySem.W.nsIn K mainGlobals "read_number"=some (some (.ref f1))) (l1:K.lookup f1=some ⟨oc1,od1,.func (PySem.W.fnOf "read_number" "read_number" (aF aQ) (aD aQ) (aj aQ) .none kV1 dc1 pm1 an1 cd1 ct1),sl1⟩) (c1:PySem.W.codeIn K cd1 "read_number"=true) (k1:PySem.W.keepIn K (.ref f1)=true)
    (a2:PySem.W.nsIn K mainGlobals "read_name"=some (some (.ref f2))) (l2:K.lookup f2=some ⟨oc2,od2,.func (PySem.W.fnOf "read_name" "read_name" (aF bA) (aD bA) (aj bA) .none kV2 dc2 pm2 an2 cd2 ct2),sl2⟩) (c2:PySem.W.codeIn K cd2 "read_name"=true) (k2:PySem.W.keepIn K (.ref f2)=true)
    (a3:PySem.W.nsIn K mainGlobals "_law_draws"=some (some (.ref f3))) (l3:K.lookup f3=some ⟨oc3,od3,.func (PySem.W.fnOf "_law_draws" "_law_draws" (aF aY) (aD aY) (aj aY) .none kV3 dc3 pm3 an3 cd3 ct3),sl3⟩) (c3:PySem.W.codeIn K cd3 "_law_draws"=true) (k3:PySem.W.keepIn K (.ref f3)=true)
    (a4:PySem.W.nsIn K mainGlobals "_law_sign"=some (some (.ref f4))) (l4:K.lookup f4=some ⟨oc4,od4,.func (PySem.W.fnOf "_law_sign" "_law_sign" (aF bC) (aD bC) (aj bC) .none kV4 dc4 pm4 an4 cd4 ct4),sl4⟩) (c4:PySem.W.codeIn K cd4 "_law_sign"=true) (k4:PySem.W.keepIn K (.ref f4)=true)
    (a5:PySem.W.nsIn K mainGlobals "_law_plain"=some (some (.ref f5))) (l5:K.lookup f5=some ⟨oc5,od5,.func (PySem.W.fnOf "_law_plain" "_law_plain" (aF aX) (aD aX) (aj aX) .none kV5 dc5 pm5 an5 cd5 ct5),sl5⟩) (c5:PySem.W.codeIn K cd5 "_law_plain"=true) (k5:PySem.W.keepIn K (.ref f5)=true)
    (a6:PySem.W.nsIn K mainGlobals "_law_word"=some (some (.ref f6))) (l6:K.lookup f6=some ⟨oc6,od6,.func (PySem.W.fnOf "_law_word" "_law_word" (aF bB) (aD bB) (aj bB) .none kV6 dc6 pm6 an6 cd6 ct6),sl6⟩) (c6:PySem.W.codeIn K cd6 "_law_word"=true) (k6:PySem.W.keepIn K (.ref f6)=true)
    (a7:PySem.W.nsIn K mainGlobals "_law_all_in"=some (some (.ref f7))) (l7:K.lookup f7=some ⟨oc7,od7,.func (PySem.W.fnOf "_law_all_in" "_law_all_in" (aF aR) (aD aR) (aj aR) .none kV7 dc7 pm7 an7 cd7 ct7),sl7⟩) (c7:PySem.W.codeIn K cd7 "_law_all_in"=true) (k7:PySem.W.keepIn K (.ref f7)=true)
    (a8:PySem.W.nsIn K mainGlobals "_law_refusal"=some (some (.ref f8))) (l8:K.lookup f8=some ⟨oc8,od8,.func (PySem.W.fnOf "_law_refusal" "_law_refusal" (aF aM) (aD aM) (aj aM) .none kV8 dc8 pm8 an8 cd8 ct8),sl8⟩) (c8:PySem.W.codeIn K cd8 "_law_refusal"=true) (k8:PySem.W.keepIn K (.ref f8)=true)
    (a9:PySem.W.nsIn K mainGlobals "_law_number_right"=some (some (.ref f9))) (l9:K.lookup f9=some ⟨oc9,od9,.func (PySem.W.fnOf "_law_number_right" "_law_number_right" (aF aA) (aD aA) (aj aA) .none kV9 dc9 pm9 an9 cd9 ct9),sl9⟩) (c9:PySem.W.codeIn K cd9 "_law_number_right"=true) (k9:PySem.W.keepIn K (.ref f9)=true)
    (a10:PySem.W.nsIn K mainGlobals "_law_name_right"=some (some (.ref f10))) (l10:K.lookup f10=some ⟨oc10,od10,.func (PySem.W.fnOf "_law_name_right" "_law_name_right" (aF aH) (aD aH) (aj aH) .none kV10 dc10 pm10 an10 cd10 ct10),sl10⟩) (c10:PySem.W.codeIn K cd10 "_law_name_right"=true) (k10:PySem.W.keepIn K (.ref f10)=true)
    (a11:PySem.W.nsIn K mainGlobals "law"=some (some (.ref f11))) (l11:K.lookup f11=some ⟨oc11,od11,.func (PySem.W.fnOf "law" "law" (aF eG) (aD eG) (aj eG) .none kV11 dc11 pm11 an11 cd11 ct11),sl11⟩) (c11:PySem.W.codeIn K cd11 "law"=true) (k11:PySem.W.keepIn K (.ref f11)=true)
    (e0:PySem.W.nsIn K mainGlobals "LONGEST_NAME"=some (some (.int (8) t0)))
    (e1:PySem.W.nsIn K mainGlobals "LETTERS"=some (some (.str "abcdefghijklmnopqrstuvwxyz" t1)))
    (e2:PySem.W.nsIn K mainGlobals "FIGURES"=some (some (.str "0123456789" t2)))
    (e3:PySem.W.nsIn K mainGlobals "MOST_FIGURES"=some (some (.int (13) t3)))
    (z_len:PySem.W.nsIn K mainGlobals "len"=some none)
    (z_range:PySem.W.nsIn K mainGlobals "range"=some none)
    (z_list:PySem.W.nsIn K mainGlobals "list"=some none)
    (z_isinstance:PySem.W.nsIn K mainGlobals "isinstance"=some none)
    (z_bool:PySem.W.nsIn K mainGlobals "bool"=some none)
    (z_int:PySem.W.nsIn K mainGlobals "int"=some none)
    (z_all:PySem.W.nsIn K mainGlobals "all"=some none)
    (z_min:PySem.W.nsIn K mainGlobals "min"=some none)
    (z_max:PySem.W.nsIn K mainGlobals "max"=some none)
    (z_sum:PySem.W.nsIn K mainGlobals "sum"=some none)
    (z_sorted:PySem.W.nsIn K mainGlobals "sorted"=some none)
    (z_zip:PySem.W.nsIn K mainGlobals "zip"=some none)
    (z_tuple:PySem.W.nsIn K mainGlobals "tuple"=some none)
    (z_str:PySem.W.nsIn K mainGlobals "str"=some none)
    (z_any:PySem.W.nsIn K mainGlobals "any"=some none)
    (z_enumerate:PySem.W.nsIn K mainGlobals "enumerate"=some none)
    (z_reversed:PySem.W.nsIn K mainGlobals "reversed"=some none)
    (z_abs:PySem.W.nsIn K mainGlobals "abs"=some none)
    (z_ValueError:PySem.W.nsIn K mainGlobals "ValueError"=some none)
    (z_set:PySem.W.nsIn K mainGlobals "set"=some none)
    (n_SluiceError:PySem.W.nsIn K mainGlobals "SluiceError"=some (some (.ref cX_SluiceError))) (q_SluiceError:PySem.W.excIn K cX_SluiceError lC "ValueError.__new__"=true)
    (xa_SluiceError:PySem.W.findIn K (.ref cX_SluiceError) "__getattribute__"=some (some (.builtin "BaseException.__getattribute__"))) (xb_SluiceError:PySem.W.findIn K (.ref cX_SluiceError) "__getattr__"=some none) (xc_SluiceError:PySem.W.findIn K (.ref cX_SluiceError) "__class__"=some (some (.builtin "object.__class__")))
    (xd_SluiceError:PySem.W.specialIn K (.builtin "object.__class__") "__get__"=some (some (.builtin "getset_descriptor.__get__"))) (xe_SluiceError:PySem.W.takesIn K (.builtin "object.__class__")=some true) (xf_SluiceError:PySem.W.mroIn K cX_SluiceError (.type "object")=some true) (xg_SluiceError:PySem.W.mroIn K cX_SluiceError (.type "BaseException")=some true) (xh_SluiceError:(PySem.W.clsIn K cX_SluiceError).isSome=true)
    (n_NoRow:PySem.W.nsIn K mainGlobals "NoRow"=some (some (.ref cX_NoRow))) (q_NoRow:PySem.W.excIn K cX_NoRow lC "ValueError.__new__"=true)
    (xa_NoRow:PySem.W.findIn K (.ref cX_NoRow) "__getattribute__"=some (some (.builtin "BaseException.__getattribute__"))) (xb_NoRow:PySem.W.findIn K (.ref cX_NoRow) "__getattr__"=some none) (xc_NoRow:PySem.W.findIn K (.ref cX_NoRow) "__class__"=some (some (.builtin "object.__class__")))
    (xd_NoRow:PySem.W.specialIn K (.builtin "object.__class__") "__get__"=some (some (.builtin "getset_descriptor.__get__"))) (xe_NoRow:PySem.W.takesIn K (.builtin "object.__class__")=some true) (xf_NoRow:PySem.W.mroIn K cX_NoRow (.type "object")=some true) (xg_NoRow:PySem.W.mroIn K cX_NoRow (.type "BaseException")=some true) (xh_NoRow:(PySem.W.clsIn K cX_NoRow).isSome=true)
    (n_NoNumber:PySem.W.nsIn K mainGlobals "NoNumber"=some (some (.ref cX_NoNumber))) (q_NoNumber:PySem.W.excIn K cX_NoNumber lC "ValueError.__new__"=true)
    (xa_NoNumber:PySem.W.findIn K (.ref cX_NoNumber) "__getattribute__"=some (some (.builtin "BaseException.__getattribute__"))) (xb_NoNumber:PySem.W.findIn K (.ref cX_NoNumber) "__getattr__"=some none) (xc_NoNumber:PySem.W.findIn K (.ref cX_NoNumber) "__class__"=some (some (.builtin "object.__class__")))
    (xd_NoNumber:PySem.W.specialIn K (.builtin "object.__class__") "__get__"=some (some (.builtin "getset_descriptor.__get__"))) (xe_NoNumber:PySem.W.takesIn K (.builtin "object.__class__")=some true) (xf_NoNumber:PySem.W.mroIn K cX_NoNumber (.type "object")=some true) (xg_NoNumber:PySem.W.mroIn K cX_NoNumber (.type "BaseException")=some true) (xh_NoNumber:(PySem.W.clsIn K cX_NoNumber).isSome=true)
    (n_NoHolder:PySem.W.nsIn K mainGlobals "NoHolder"=some (some (.ref cX_NoHolder))) (q_NoHolder:PySem.W.excIn K cX_NoHolder lC "ValueError.__new__"=true)
    (xa_NoHolder:PySem.W.findIn K (.ref cX_NoHolder) "__getattribute__"=some (some (.builtin "BaseException.__getattribute__"))) (xb_NoHolder:PySem.W.findIn K (.ref cX_NoHolder) "__getattr__"=some none) (xc_NoHolder:PySem.W.findIn K (.ref cX_NoHolder) "__class__"=some (some (.builtin "object.__class__")))
    (xd_NoHolder:PySem.W.specialIn K (.builtin "object.__class__") "__get__"=some (some (.builtin "getset_descriptor.__get__"))) (xe_NoHolder:PySem.W.takesIn K (.builtin "object.__class__")=some true) (xf_NoHolder:PySem.W.mroIn K cX_NoHolder (.type "object")=some true) (xg_NoHolder:PySem.W.mroIn K cX_NoHolder (.type "BaseException")=some true) (xh_NoHolder:(PySem.W.clsIn K cX_NoHolder).isSome=true)
    (n_NoReach:PySem.W.nsIn K mainGlobals "NoReach"=some (some (.ref cX_NoReach))) (q_NoReach:PySem.W.excIn K cX_NoReach lC "ValueError.__new__"=true)
    (xa_NoReach:PySem.W.findIn K (.ref cX_NoReach) "__getattribute__"=some (some (.builtin "BaseException.__getattribute__"))) (xb_NoReach:PySem.W.findIn K (.ref cX_NoReach) "__getattr__"=some none) (xc_NoReach:PySem.W.findIn K (.ref cX_NoReach) "__class__"=some (some (.builtin "object.__class__")))
    (xd_NoReach:PySem.W.specialIn K (.builtin "object.__class__") "__get__"=some (some (.builtin "getset_descriptor.__get__"))) (xe_NoReach:PySem.W.takesIn K (.builtin "object.__class__")=some true) (xf_NoReach:PySem.W.mroIn K cX_NoReach (.type "object")=some true) (xg_NoReach:PySem.W.mroIn K cX_NoReach (.type "BaseException")=some true) (xh_NoReach:(PySem.W.clsIn K cX_NoReach).isSome=true)
    (n_TooMuch:PySem.W.nsIn K mainGlobals "TooMuch"=some (some (.ref cX_TooMuch))) (q_TooMuch:PySem.W.excIn K cX_TooMuch lC "ValueError.__new__"=true)
    (xa_TooMuch:PySem.W.findIn K (.ref cX_TooMuch) "__getattribute__"=some (some (.builtin "BaseException.__getattribute__"))) (xb_TooMuch:PySem.W.findIn K (.ref cX_TooMuch) "__getattr__"=some none) (xc_TooMuch:PySem.W.findIn K (.ref cX_TooMuch) "__class__"=some (some (.builtin "object.__class__")))
    (xd_TooMuch:PySem.W.specialIn K (.builtin "object.__class__") "__get__"=some (some (.builtin "getset_descriptor.__get__"))) (xe_TooMuch:PySem.W.takesIn K (.builtin "object.__class__")=some true) (xf_TooMuch:PySem.W.mroIn K cX_TooMuch (.type "object")=some true) (xg_TooMuch:PySem.W.mroIn K cX_TooMuch (.type "BaseException")=some true) (xh_TooMuch:(PySem.W.clsIn K cX_TooMuch).isSome=true)
    (m_NoRow_SluiceError:PySem.W.exmOne K (.ref cX_NoRow) (.ref cX_SluiceError)=some true)
    (i_NoRow_NoNumber:PySem.W.kitOne K (.ref cX_NoRow) (.ref cX_NoNumber)=some false)
    (i_NoRow_NoHolder:PySem.W.kitOne K (.ref cX_NoRow) (.ref cX_NoHolder)=some false)
    (i_NoRow_NoReach:PySem.W.kitOne K (.ref cX_NoRow) (.ref cX_NoReach)=some false)
    (i_NoRow_TooMuch:PySem.W.kitOne K (.ref cX_NoRow) (.ref cX_TooMuch)=some false)
    (i_NoRow_NoRow:PySem.W.kitOne K (.ref cX_NoRow) (.ref cX_NoRow)=some true)
    (i_NoRow_ValueError:PySem.W.kitOne K (.ref cX_NoRow) (.type "ValueError")=some true)
    : ∃ fd:FuncData,(∀ (s:Shared) (v:Value),BindsTo s fd ⟨[v],[]⟩ [("script",v)])∧∀ base:Heap,K.In base→base.Ns mainGlobals mg→cX l.prog w K mg base CX0 4 fa fd ["script"] (iy K):=by
  have e:=hfa.symm.trans (PySem.W.mg_of X G a11)
  cases e
  have B:Blt mg:=⟨PySem.W.mg_none_of X G z_len,PySem.W.mg_none_of X G z_range,PySem.W.mg_none_of X G z_list,PySem.W.mg_none_of X G z_isinstance,PySem.W.mg_none_of X G z_bool,PySem.W.mg_none_of X G z_int,PySem.W.mg_none_of X G z_all,PySem.W.mg_none_of X G z_min,PySem.W.mg_none_of X G z_max,PySem.W.mg_none_of X G z_sum,PySem.W.mg_none_of X G z_sorted,PySem.W.mg_none_of X G z_zip,PySem.W.mg_none_of X G z_tuple,PySem.W.mg_none_of X G z_str,PySem.W.mg_none_of X G z_any,PySem.W.mg_none_of X G z_enumerate,PySem.W.mg_none_of X G z_reversed,PySem.W.mg_none_of X G z_abs,PySem.W.mg_none_of X G z_ValueError,PySem.W.mg_none_of X G z_set⟩
  have h_LONGEST_NAME:∃ t,mg "LONGEST_NAME"=some (.int (8) t):=⟨_,PySem.W.mg_of X G e0⟩
  have h_LETTERS:∃ t,mg "LETTERS"=some (.str "abcdefghijklmnopqrstuvwxyz" t):=⟨_,PySem.W.mg_of X G e1⟩
  have h_FIGURES:∃ t,mg "FIGURES"=some (.str "0123456789" t):=⟨_,PySem.W.mg_of X G e2⟩
  have h_MOST_FIGURES:∃ t,mg "MOST_FIGURES"=some (.int (13) t):=⟨_,PySem.W.mg_of X G e3⟩
  have X_SluiceError:iu K mg "SluiceError" cX_SluiceError:=⟨PySem.W.mg_of X G n_SluiceError,q_SluiceError,⟨xa_SluiceError,xb_SluiceError,xc_SluiceError,xd_SluiceError,xe_SluiceError,xf_SluiceError,xg_SluiceError,xh_SluiceError⟩⟩
  have X_NoRow:iu K mg "NoRow" cX_NoRow:=⟨PySem.W.mg_of X G n_NoRow,q_NoRow,⟨xa_NoRow,xb_NoRow,xc_NoRow,xd_NoRow,xe_NoRow,xf_NoRow,xg_NoRow,xh_NoRow⟩⟩
  have X_NoNumber:iu K mg "NoNumber" cX_NoNumber:=⟨PySem.W.mg_of X G n_NoNumber,q_NoNumber,⟨xa_NoNumber,xb_NoNumber,xc_NoNumber,xd_NoNumber,xe_NoNumber,xf_NoNumber,xg_NoNumber,xh_NoNumber⟩⟩
  have X_NoHolder:iu K mg "NoHolder" cX_NoHolder:=⟨PySem.W.mg_of X G n_NoHolder,q_NoHolder,⟨xa_NoHolder,xb_NoHolder,xc_NoHolder,xd_NoHolder,xe_NoHolder,xf_NoHolder,xg_NoHolder,xh_NoHolder⟩⟩
  have X_NoReach:iu K mg "NoReach" cX_NoReach:=⟨PySem.W.mg_of X G n_NoReach,q_NoReach,⟨xa_NoReach,xb_NoReach,xc_NoReach,xd_NoReach,xe_NoReach,xf_NoReach,xg_NoReach,xh_NoReach⟩⟩
  have X_TooMuch:iu K mg "TooMuch" cX_TooMuch:=⟨PySem.W.mg_of X G n_TooMuch,q_TooMuch,⟨xa_TooMuch,xb_TooMuch,xc_TooMuch,xd_TooMuch,xe_TooMuch,xf_TooMuch,xg_TooMuch,xh_TooMuch⟩⟩
  have F0:=cO (st:=bQ) l0 c0 k0
  have cI:Df K mg "is_name" bQ ["text"] _ _:=⟨F0,dw F0 (fun _ _ _ _ _ _ _=>rfl),PySem.W.mg_of X G a0⟩
  have F1:=cO (st:=aQ) l1 c1 k1
  have bF:Df K mg "read_number" aQ ["word"] _ _:=⟨F1,dw F1 (fun _ _ _ _ _ _ _=>rfl),PySem.W.mg_of X G a1⟩
  have F2:=cO (st:=bA) l2 c2 k2
  have bU:Df K mg "read_name" bA ["word"] _ _:=⟨F2,dw F2 (fun _ _ _ _ _ _ _=>rfl),PySem.W.mg_of X G a2⟩
  have F3:=cO (st:=aY) l3 c3 k3
  have bN:Df K mg "_law_draws" aY ["cell","many"] _ _:=⟨F3,oW F3 (fun _ _ _ _ _ _ _ _=>rfl),PySem.W.mg_of X G a3⟩
  have F4:=cO (st:=bC) l4 c4 k4
  have aN:Df K mg "_law_sign" bC ["number"] _ _:=⟨F4,dw F4 (fun _ _ _ _ _ _ _=>rfl),PySem.W.mg_of X G a4⟩
  have F5:=cO (st:=aX) l5 c5 k5
  have bM:Df K mg "_law_plain" aX ["xs"] _ _:=⟨F5,dw F5 (fun _ _ _ _ _ _ _=>rfl),PySem.W.mg_of X G a5⟩
  have F6:=cO (st:=bB) l6 c6 k6
  have bV:Df K mg "_law_word" bB ["cell"] _ _:=⟨F6,dw F6 (fun _ _ _ _ _ _ _=>rfl),PySem.W.mg_of X G a6⟩
  have F7:=cO (st:=aR) l7 c7 k7
  have aK:Df K mg "_law_all_in" aR ["word","some"] _ _:=⟨F7,oW F7 (fun _ _ _ _ _ _ _ _=>rfl),PySem.W.mg_of X G a7⟩
  have F8:=cO (st:=aM) l8 c8 k8
  have aG:Df K mg "_law_refusal" aM ["e"] _ _:=⟨F8,dw F8 (fun _ _ _ _ _ _ _=>rfl),PySem.W.mg_of X G a8⟩
  have F9:=cO (st:=aA) l9 c9 k9
  have aL:Df K mg "_law_number_right" aA ["word"] _ _:=⟨F9,dw F9 (fun _ _ _ _ _ _ _=>rfl),PySem.W.mg_of X G a9⟩
  have F10:=cO (st:=aH) l10 c10 k10
  have aV:Df K mg "_law_name_right" aH ["word"] _ _:=⟨F10,dw F10 (fun _ _ _ _ _ _ _=>rfl),PySem.W.mg_of X G a10⟩
  have F11:=cO (st:=eG) l11 c11 k11
  have wL:Df K mg "law" eG ["script"] _ _:=⟨F11,dw F11 (fun _ _ _ _ _ _ _=>rfl),PySem.W.mg_of X G a11⟩
  refine ⟨PySem.W.fnOf "law" "law" (aF eG) (aD eG) (aj eG) .none kV11 dc11 pm11 an11 cd11 ct11,fun s v=>.of_eq rfl,fun base _ _=>?_⟩
  have CNm:CN mg:=⟨h_LONGEST_NAME,h_LETTERS⟩
  have CFm:CF mg:=⟨h_MOST_FIGURES,h_FIGURES⟩
  have T8:je K cX_NoRow cX_SluiceError cX_NoNumber cX_NoHolder cX_NoReach cX_TooMuch:=⟨m_NoRow_SluiceError,i_NoRow_NoNumber,i_NoRow_NoHolder,i_NoRow_NoReach,i_NoRow_TooMuch,i_NoRow_NoRow,i_NoRow_ValueError⟩
  have g1:=qM (P:=l.prog) (w:=w) (K:=K) (base:=base) (T:=[]) cI B CNm
  have g2:=qG bU X_NoRow cI g1
  have g3:=uK (P:=l.prog) (w:=w) (base:=base) (T:=[]) bF B CFm X_NoRow
  have g4:=qN (P:=l.prog) (w:=w) (K:=K) (base:=base) (T:=[]) bN B
  have g5:=qF (P:=l.prog) (w:=w) (K:=K) (base:=base) aN B
  have g6:=qI (P:=l.prog) (w:=w) (base:=base) (T:=[]) bM B
  have g7:=pF bV B bN g4 bM g6 aN g5
  have g8:=qO (P:=l.prog) (w:=w) (K:=K) (mg:=mg) (base:=base) aK
  have g9:=qH (P:=l.prog) (w:=w) (base:=base) aG B X_NoRow X_NoNumber X_NoHolder X_NoReach X_TooMuch T8
  have g10:=qJ aL B X_SluiceError T8 aK g8 bF g3 aG g9
  have g11:=qK aV B X_SluiceError T8 aK g8 bU g2 aG g9
  exact qL rfl wL B bV g7 aL g10 aV g11
theorem walk {l:PySem.W.OpenLaw} {q:Program} {loose:List Str} {XP:(Str→Option Value)→Heap→Prop} {YP:World→Heap→Prop} {d:DefRec} {K:Params→PySem.W.Frag} (hn:l.most=some 63) (hdf:d.params.defaults=[])
    (hY:∀ (w:World) (h:Heap),YP w h→(K w.params).In h)
    (F:∀ (w:World) (mg:Str→Option Value) (fa:Addr) (h:Heap),(K w.params).In h→h.Ns mainGlobals mg→mg d.name=some (.ref fa) →
      ∃ fd:FuncData,(∀ (s:Shared) (u:Value),BindsTo s fd ⟨[u],[]⟩ [("script",u)])∧∀ base:Heap,(K w.params).In base→base.Ns mainGlobals mg→cX l.prog w (K w.params) mg base CX0 4 fa fd ["script"] (iy (K w.params))) :
    PySem.W.WalkO q loose XP YP l.row.toRowW d [] (fun f vs=>PySem.call f vs) :=
  L2.oZ (n:=63) (k:=4) (x:="script") (CX:=fun _=>CX0) (sp:=fun w=>iy (K w.params)) hn (by decide) hdf ⟨rfl,by decide,by decide⟩ hY F (fun _ _ a ns hl _ hS=>⟨a,ns,rfl,hS,hl,fun _=>rfl⟩) fun _ _ _ _ _ z=>z
end My
open PySem PySem.W PyProof.Rows
set_option maxRecDepth 100000 in
set_option maxHeartbeats 0 in
theorem PySem.Challenge.cw_sluice_k72_numbers_and_names_holds : PySem.Challenge.rw_sluice_k72_numbers_and_names.Holds := by
  w_on;o_law
  refine PySem.W.holds_open (q:=My.qv) (loose:=My.iI) (Xt:=(fun s=>PySem.W.xlAt My.qv [] s && PySem.W.recOk (PySem.W.RowW.records PySem.Challenge.rw_sluice_k72_numbers_and_names.row.toRowW) s)) (XP:=PySem.W.XL My.qv []) (Yf:=PySem.W.Hook.obs (PySem.W.kHook My.Kf My.asK My.hkE)) (Ya:=PySem.W.Hook.val (PySem.W.kHook My.Kf My.asK My.hkE)) (YP:=PySem.W.Hook.says (PySem.W.kHook My.Kf My.asK My.hkE)) (N:=3496) My.hlE (PySem.W.Hook.of (PySem.W.kHook My.Kf My.asK My.hkE)) (PySem.W.Hook.keeps (PySem.W.kHook My.Kf My.asK My.hkE)) (fun s e=>PySem.W.xl_of s (Bool.and_eq_true_iff.mp e).1) PySem.W.XL.keeps (by rfl) (by rfl) (by rfl) (fun s e=>PySem.W.recFacts_of (Bool.and_eq_true_iff.mp e).2) (by rfl) (by first | assumption | decide +kernel) (by decide +kernel) ⟨rfl,rfl,rfl,rfl,rfl,by decide +kernel⟩ ?hw ?hc
  case hw=>w_witness2
  k_fill
  refine My.walk (l:=PySem.Challenge.rw_sluice_k72_numbers_and_names) rfl rfl (fun w h Y=>PySem.W.kIn_of Y) ?F
  case F =>
    intro w mg fa h KX G hmg
    refine' My.all_mk KX G hmg ?a0 ?l0 ?c0 ?k0 ?a1 ?l1 ?c1 ?k1 ?a2 ?l2 ?c2 ?k2 ?a3 ?l3 ?c3 ?k3 ?a4 ?l4 ?c4 ?k4 ?a5 ?l5 ?c5 ?k5 ?a6 ?l6 ?c6 ?k6 ?a7 ?l7 ?c7 ?k7 ?a8 ?l8 ?c8 ?k8 ?a9 ?l9 ?c9 ?k9 ?a10 ?l10 ?c10 ?k10 ?a11 ?l11 ?c11 ?k11 ?e0 ?e1 ?e2 ?e3 ?z_len ?z_range ?z_list ?z_isinstance ?z_bool ?z_int ?z_all ?z_min ?z_max ?z_sum ?z_sorted ?z_zip ?z_tuple ?z_str ?z_any ?z_enumerate ?z_reversed ?z_abs ?z_ValueError ?z_set ?n_SluiceError ?q_SluiceError ?xa_SluiceError ?xb_SluiceError ?xc_SluiceError ?xd_SluiceError ?xe_SluiceError ?xf_SluiceError ?xg_SluiceError ?xh_SluiceError ?n_NoRow ?q_NoRow ?xa_NoRow ?xb_NoRow ?xc_NoRow ?xd_NoRow ?xe_NoRow ?xf_NoRow ?xg_NoRow ?xh_NoRow ?n_NoNumber ?q_NoNumber ?xa_NoNumber ?xb_NoNumber ?xc_NoNumber ?xd_NoNumber ?xe_NoNumber ?xf_NoNumber ?xg_NoNumber ?xh_NoNumber ?n_NoHolder ?q_NoHolder ?xa_NoHolder ?xb_NoHolder ?xc_NoHolder ?xd_NoHolder ?xe_NoHolder ?xf_NoHolder ?xg_NoHolder ?xh_NoHolder ?n_NoReach ?q_NoReach ?xa_NoReach ?xb_NoReach ?xc_NoReach ?xd_NoReach ?xe_NoReach ?xf_NoReach ?xg_NoReach ?xh_NoReach ?n_TooMuch ?q_TooMuch ?xa_TooMuch ?xb_TooMuch ?xc_TooMuch ?xd_TooMuch ?xe_TooMuch ?xf_TooMuch ?xg_TooMuch ?xh_TooMuch ?m_NoRow_SluiceError ?i_NoRow_NoNumber ?i_NoRow_NoHolder ?i_NoRow_NoReach ?i_NoRow_TooMuch ?i_NoRow_NoRow ?i_NoRow_ValueError
    (case a0=>k_is)
    (case l0=>k_is)
    (case c0=>k_is)
    (case k0=>k_is)
    (case a1=>k_is)
    (case l1=>k_is)
    (case c1=>k_is)
    (case k1=>k_is)
    (case a2=>k_is)
    (case l2=>k_is)
    (case c2=>k_is)
    (case k2=>k_is)
    (case a3=>k_is)
    (case l3=>k_is)
    (case c3=>k_is)
    (case k3=>k_is)
    (case a4=>k_is)
    (case l4=>k_is)
    (case c4=>k_is)
    (case k4=>k_is)
    (case a5=>k_is)
    (case l5=>k_is)
    (case c5=>k_is)
    (case k5=>k_is)
    (case a6=>k_is)
    (case l6=>k_is)
    (case c6=>k_is)
    (case k6=>k_is)
    (case a7=>k_is)
    (case l7=>k_is)
    (case c7=>k_is)
    (case k7=>k_is)
    (case a8=>k_is)
    (case l8=>k_is)
    (case c8=>k_is)
    (case k8=>k_is)
    (case a9=>k_is)
    (case l9=>k_is)
    (case c9=>k_is)
    (case k9=>k_is)
    (case a10=>k_is)
    (case l10=>k_is)
    (case c10=>k_is)
    (case k10=>k_is)
    (case a11=>k_is)
    (case l11=>k_is)
    (case c11=>k_is)
    (case k11=>k_is)
    (case e0=>k_is)
    (case e1=>k_is)
    (case e2=>k_is)
    (case e3=>k_is)
    (case z_len=>k_is)
    (case z_range=>k_is)
    (case z_list=>k_is)
    (case z_isinstance=>k_is)
    (case z_bool=>k_is)
    (case z_int=>k_is)
    (case z_all=>k_is)
    (case z_min=>k_is)
    (case z_max=>k_is)
    (case z_sum=>k_is)
    (case z_sorted=>k_is)
    (case z_zip=>k_is)
    (case z_tuple=>k_is)
    (case z_str=>k_is)
    (case z_any=>k_is)
    (case z_enumerate=>k_is)
    (case z_reversed=>k_is)
    (case z_abs=>k_is)
    (case z_ValueError=>k_is)
    (case z_set=>k_is)
    (case n_SluiceError=>k_is)
    (case q_SluiceError=>(first | k_is | kernel_rfl))
    (case xa_SluiceError=>(first | k_is | kernel_rfl))
    (case xb_SluiceError=>(first | k_is | kernel_rfl))
    (case xc_SluiceError=>(first | k_is | kernel_rfl))
    (case xd_SluiceError=>(first | k_is | kernel_rfl))
    (case xe_SluiceError=>(first | k_is | kernel_rfl))
    (case xf_SluiceError=>(first | k_is | kernel_rfl))
    (case xg_SluiceError=>(first | k_is | kernel_rfl))
    (case xh_SluiceError=>(first | k_is | kernel_rfl))
    (case n_NoRow=>k_is)
    (case q_NoRow=>(first | k_is | kernel_rfl))
    (case xa_NoRow=>(first | k_is | kernel_rfl))
    (case xb_NoRow=>(first | k_is | kernel_rfl))
    (case xc_NoRow=>(first | k_is | kernel_rfl))
    (case xd_NoRow=>(first | k_is | kernel_rfl))
    (case xe_NoRow=>(first | k_is | kernel_rfl))
    (case xf_NoRow=>(first | k_is | kernel_rfl))
    (case xg_NoRow=>(first | k_is | kernel_rfl))
    (case xh_NoRow=>(first | k_is | kernel_rfl))
    (case n_NoNumber=>k_is)
    (case q_NoNumber=>(first | k_is | kernel_rfl))
    (case xa_NoNumber=>(first | k_is | kernel_rfl))
    (case xb_NoNumber=>(first | k_is | kernel_rfl))
    (case xc_NoNumber=>(first | k_is | kernel_rfl))
    (case xd_NoNumber=>(first | k_is | kernel_rfl))
    (case xe_NoNumber=>(first | k_is | kernel_rfl))
    (case xf_NoNumber=>(first | k_is | kernel_rfl))
    (case xg_NoNumber=>(first | k_is | kernel_rfl))
    (case xh_NoNumber=>(first | k_is | kernel_rfl))
    (case n_NoHolder=>k_is)
    (case q_NoHolder=>(first | k_is | kernel_rfl))
    (case xa_NoHolder=>(first | k_is | kernel_rfl))
    (case xb_NoHolder=>(first | k_is | kernel_rfl))
    (case xc_NoHolder=>(first | k_is | kernel_rfl))
    (case xd_NoHolder=>(first | k_is | kernel_rfl))
    (case xe_NoHolder=>(first | k_is | kernel_rfl))
    (case xf_NoHolder=>(first | k_is | kernel_rfl))
    (case xg_NoHolder=>(first | k_is | kernel_rfl))
    (case xh_NoHolder=>(first | k_is | kernel_rfl))
    (case n_NoReach=>k_is)
    (case q_NoReach=>(first | k_is | kernel_rfl))
    (case xa_NoReach=>(first | k_is | kernel_rfl))
    (case xb_NoReach=>(first | k_is | kernel_rfl))
    (case xc_NoReach=>(first | k_is | kernel_rfl))
    (case xd_NoReach=>(first | k_is | kernel_rfl))
    (case xe_NoReach=>(first | k_is | kernel_rfl))
    (case xf_NoReach=>(first | k_is | kernel_rfl))
    (case xg_NoReach=>(first | k_is | kernel_rfl))
    (case xh_NoReach=>(first | k_is | kernel_rfl))
    (case n_TooMuch=>k_is)
    (case q_TooMuch=>(first | k_is | kernel_rfl))
    (case xa_TooMuch=>(first | k_is | kernel_rfl))
    (case xb_TooMuch=>(first | k_is | kernel_rfl))
    (case xc_TooMuch=>(first | k_is | kernel_rfl))
    (case xd_TooMuch=>(first | k_is | kernel_rfl))
    (case xe_TooMuch=>(first | k_is | kernel_rfl))
    (case xf_TooMuch=>(first | k_is | kernel_rfl))
    (case xg_TooMuch=>(first | k_is | kernel_rfl))
    (case xh_TooMuch=>(first | k_is | kernel_rfl))
    (case m_NoRow_SluiceError=>(first | k_is | kernel_rfl))
    (case i_NoRow_NoNumber=>(first | k_is | kernel_rfl))
    (case i_NoRow_NoHolder=>(first | k_is | kernel_rfl))
    (case i_NoRow_NoReach=>(first | k_is | kernel_rfl))
    (case i_NoRow_TooMuch=>(first | k_is | kernel_rfl))
    (case i_NoRow_NoRow=>(first | k_is | kernel_rfl))
    (case i_NoRow_ValueError=>(first | k_is | kernel_rfl))
