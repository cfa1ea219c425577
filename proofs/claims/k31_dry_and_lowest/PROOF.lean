import PyProof.Rows.All
import Wide.All
import OpenK.AllK
import Wide.FinOn
import Lean
import PyProof.EqAt
import PyProof.EqKinds
import PyProof.TupleCall
import KE.KSortTup
import PySem.Challenge.RW_sluice_k31_dry_and_lowest
set_option Elab.async false
set_option linter.all false
set_option maxRecDepth 100000
set_option maxHeartbeats 4000000
local macro_rules | `(tactic| omega) => `(tactic| first | lia | omega (splitDisjunctions := true))
namespace L2
open PySem
def aC (s:Stmt):Arguments:=match s with
  | .FunctionDef _ a _ _ _ _ _ _ _ _=>a
  | _=>{ posonlyargs:=[],args:=[],vararg:=none,kwonlyargs:=[],kw_defaults:=[],kwarg:=none,defaults:=[] }
def aB (s:Stmt):List Stmt:=match s with
  | .FunctionDef _ _ b _ _ _ _ _ _ _=>b
  | _=>[]
def ao (s:Stmt):Scope:=match s with
  | .FunctionDef _ _ _ _ _ _ sc _ _ _=>sc
  | _=>{ kind:=.function,names:=[],isGenerator:=false,isCoroutine:=false }
end L2
namespace My
open PySem L2
noncomputable def top0 (i:Nat):Stmt:=PySem.Challenge.pw_sluice_k31_dry_and_lowest.main.body.getD i (.Pass ⟨0,0,0,0⟩)
noncomputable def en (P:Params) (x:Str) (t:Tok) (v:Value):DictEntry:=⟨PyData.keyHash P x,.str x t,v⟩
noncomputable section
def tq (a:Array Value):Obj:={ cls:=.type "tuple",data:=.seq a }
def fc (a:Array Value):Obj:={ cls:=.type "code",data:=.fields a }
def cp (n:Nat):Value:=.str "/claim/cut.py" n
def pr0 (x:Str) (i:Nat):Obj:={ cls:=.none,data:=.func { name:=x,qualname:=x,params:=aC (top0 i),body:=.stmts (aB (top0 i)),scope:=ao (top0 i),globals:=0,closure:=[],defaults:=.none,kwdefaults:=.none } }
def JC (P:Params):Obj:={ cls:=.type "dict",data:=Data.dict #[en P "__name__" 1 (.str "builtins" 160),en P "__doc__" 2 (.builtin "builtins.__doc__:str#opaque"),en P "__package__" 3 (.builtin "builtins.__package__:str#opaque"),en P "__loader__" 4 (.builtin "builtins.__loader__:shared#opaque"),en P "__spec__" 5 (.builtin "builtins.__spec__#opaque"),en P "__build_class__" 6 (.builtin "__build_class__"),en P "__import__" 7 (.builtin "__import__"),en P "abs" 8 (.builtin "abs"),en P "all" 9 (.builtin "all"),en P "any" 10 (.builtin "any"),en P "ascii" 11 (.builtin "ascii"),en P "bin" 12 (.builtin "bin"),en P "breakpoint" 13 (.builtin "breakpoint"),en P "callable" 14 (.builtin "callable"),en P "chr" 15 (.builtin "chr"),en P "compile" 16 (.builtin "compile"),en P "delattr" 17 (.builtin "delattr"),en P "dir" 18 (.builtin "dir"),en P "divmod" 19 (.builtin "divmod"),en P "eval" 20 (.builtin "eval"),en P "exec" 21 (.builtin "exec"),en P "format" 22 (.builtin "format"),en P "getattr" 23 (.builtin "getattr"),en P "globals" 24 (.builtin "globals"),en P "hasattr" 25 (.builtin "hasattr"),en P "hash" 26 (.builtin "hash"),en P "hex" 27 (.builtin "hex"),en P "id" 28 (.builtin "id"),en P "input" 29 (.builtin "input"),en P "isinstance" 30 (.builtin "isinstance"),en P "issubclass" 31 (.builtin "issubclass"),en P "iter" 32 (.builtin "iter"),en P "aiter" 33 (.builtin "aiter"),en P "len" 34 (.builtin "len"),en P "locals" 35 (.builtin "locals"),en P "max" 36 (.builtin "max"),en P "min" 37 (.builtin "min"),en P "next" 38 (.builtin "next"),en P "anext" 39 (.builtin "anext"),en P "oct" 40 (.builtin "oct"),en P "ord" 41 (.builtin "ord"),en P "pow" 42 (.builtin "pow"),en P "print" 43 (.builtin "print"),en P "repr" 44 (.builtin "repr"),en P "round" 45 (.builtin "round"),en P "setattr" 46 (.builtin "setattr"),en P "sorted" 47 (.builtin "sorted"),en P "sum" 48 (.builtin "sum"),en P "vars" 49 (.builtin "vars"),en P "None" 50 .none,en P "Ellipsis" 51 .ellipsis,en P "NotImplemented" 52 .notImplemented,en P "False" 53 (.bool false),en P "True" 54 (.bool true),en P "bool" 55 (.type "bool"),en P "memoryview" 56 (.type "memoryview"),en P "bytearray" 57 (.type "bytearray"),en P "bytes" 58 (.type "bytes"),en P "classmethod" 59 (.type "classmethod"),en P "complex" 60 (.type "complex"),en P "dict" 61 (.type "dict"),en P "enumerate" 62 (.type "enumerate"),en P "filter" 63 (.type "filter"),en P "float" 64 (.type "float"),en P "frozenset" 65 (.type "frozenset"),en P "property" 66 (.type "property"),en P "int" 67 (.type "int"),en P "list" 68 (.type "list"),en P "map" 69 (.type "map"),en P "object" 70 (.type "object"),en P "range" 71 (.type "range"),en P "reversed" 72 (.type "reversed"),en P "set" 73 (.type "set"),en P "slice" 74 (.type "slice"),en P "staticmethod" 75 (.type "staticmethod"),en P "str" 76 (.type "str"),en P "super" 77 (.type "super"),en P "tuple" 78 (.type "tuple"),en P "type" 79 (.type "type"),en P "zip" 80 (.type "zip"),en P "__debug__" 81 (.bool true),en P "BaseException" 82 (.type "BaseException"),en P "BaseExceptionGroup" 83 (.type "BaseExceptionGroup"),en P "Exception" 84 (.type "Exception"),en P "GeneratorExit" 85 (.type "GeneratorExit"),en P "KeyboardInterrupt" 86 (.type "KeyboardInterrupt"),en P "SystemExit" 87 (.type "SystemExit"),en P "ArithmeticError" 88 (.type "ArithmeticError"),en P "AssertionError" 89 (.type "AssertionError"),en P "AttributeError" 90 (.type "AttributeError"),en P "BufferError" 91 (.type "BufferError"),en P "EOFError" 92 (.type "EOFError"),en P "ImportError" 93 (.type "ImportError"),en P "LookupError" 94 (.type "LookupError"),en P "MemoryError" 95 (.type "MemoryError"),en P "NameError" 96 (.type "NameError"),en P "OSError" 97 (.type "OSError"),en P "ReferenceError" 98 (.type "ReferenceError"),en P "RuntimeError" 99 (.type "RuntimeError"),en P "StopAsyncIteration" 100 (.type "StopAsyncIteration"),en P "StopIteration" 101 (.type "StopIteration"),en P "SyntaxError" 102 (.type "SyntaxError"),en P "SystemError" 103 (.type "SystemError"),en P "TypeError" 104 (.type "TypeError"),en P "ValueError" 105 (.type "ValueError"),en P "Warning" 106 (.type "Warning"),en P "FloatingPointError" 107 (.type "FloatingPointError"),en P "OverflowError" 108 (.type "OverflowError"),en P "ZeroDivisionError" 109 (.type "ZeroDivisionError"),en P "BytesWarning" 110 (.type "BytesWarning"),en P "DeprecationWarning" 111 (.type "DeprecationWarning"),en P "EncodingWarning" 112 (.type "EncodingWarning"),en P "FutureWarning" 113 (.type "FutureWarning"),en P "ImportWarning" 114 (.type "ImportWarning"),en P "PendingDeprecationWarning" 115 (.type "PendingDeprecationWarning"),en P "ResourceWarning" 116 (.type "ResourceWarning"),en P "RuntimeWarning" 117 (.type "RuntimeWarning"),en P "SyntaxWarning" 118 (.type "SyntaxWarning"),en P "UnicodeWarning" 119 (.type "UnicodeWarning"),en P "UserWarning" 120 (.type "UserWarning"),en P "BlockingIOError" 121 (.type "BlockingIOError"),en P "ChildProcessError" 122 (.type "ChildProcessError"),en P "ConnectionError" 123 (.type "ConnectionError"),en P "FileExistsError" 124 (.type "FileExistsError"),en P "FileNotFoundError" 125 (.type "FileNotFoundError"),en P "InterruptedError" 126 (.type "InterruptedError"),en P "IsADirectoryError" 127 (.type "IsADirectoryError"),en P "NotADirectoryError" 128 (.type "NotADirectoryError"),en P "PermissionError" 129 (.type "PermissionError"),en P "ProcessLookupError" 130 (.type "ProcessLookupError"),en P "TimeoutError" 131 (.type "TimeoutError"),en P "IndentationError" 132 (.type "IndentationError"),en P "_IncompleteInputError" 133 (.type "_IncompleteInputError"),en P "IndexError" 134 (.type "IndexError"),en P "KeyError" 135 (.type "KeyError"),en P "ModuleNotFoundError" 136 (.type "ModuleNotFoundError"),en P "NotImplementedError" 137 (.type "NotImplementedError"),en P "PythonFinalizationError" 138 (.type "PythonFinalizationError"),en P "RecursionError" 139 (.type "RecursionError"),en P "UnboundLocalError" 140 (.type "UnboundLocalError"),en P "UnicodeError" 141 (.type "UnicodeError"),en P "BrokenPipeError" 142 (.type "BrokenPipeError"),en P "ConnectionAbortedError" 143 (.type "ConnectionAbortedError"),en P "ConnectionRefusedError" 144 (.type "ConnectionRefusedError"),en P "ConnectionResetError" 145 (.type "ConnectionResetError"),en P "TabError" 146 (.type "TabError"),en P "UnicodeDecodeError" 147 (.type "UnicodeDecodeError"),en P "UnicodeEncodeError" 148 (.type "UnicodeEncodeError"),en P "UnicodeTranslateError" 149 (.type "UnicodeTranslateError"),en P "ExceptionGroup" 150 (.type "ExceptionGroup"),en P "EnvironmentError" 151 (.type "OSError"),en P "IOError" 152 (.type "OSError"),en P "open" 153 (.builtin "open"),en P "quit" 154 (.builtin "builtins.quit#opaque"),en P "exit" 155 (.builtin "builtins.exit#opaque"),en P "copyright" 156 (.builtin "builtins.copyright#opaque"),en P "credits" 157 (.builtin "builtins.credits#opaque"),en P "license" 158 (.builtin "builtins.license#opaque"),en P "help" 159 (.builtin "builtins.help#opaque")] 159 }
def JB (P:Params):Obj:={ cls:=.type "dict",data:=Data.dict #[en P "builtins" 162 (.ref 4),en P "__main__" 163 (.ref 5)] 2 }
def Ib (P:Params):Obj:={ cls:=.none,data:=Data.dict #[] }
def ho_4 (P:Params):Obj:={ cls:=.type "dict",data:=Data.dict #[en P "__name__" 165 (.str "__main__" 164),en P "__doc__" 166 .none,en P "__package__" 167 .none,en P "__loader__" 168 (.builtin "__main__.__loader__#opaque"),en P "__spec__" 169 .none,en P "__annotations__" 170 (.ref 6),en P "__builtins__" 171 (.ref 4),en P "__file__" 173 (cp 172),en P "__cached__" 174 .none] 9 }
def Jz (P:Params):Obj:={ cls:=.type "module",dict:=some 0 }
def Jy (P:Params):Obj:={ cls:=.type "module",dict:=some 3 }
def Jx (P:Params):Obj:={ cls:=.type "dict",data:=Data.dict #[] }
def Jw (P:Params):Obj:=(tq #[])
def Jv (P:Params):Obj:={ cls:=.none,data:=Data.fields #[] }
def FW (P:Params):Obj:=(fc #[.str "<module>" 176,.str "<module>" 177,cp 178,.int 1 0,.int 0 0,.int 0 0,.int 0 0,.int 0 0,.ref 7,.bool false,.int 175 0,.ref 8,.none,.none,.none,.none,.int 179 0,.int 1 0,cp 180])
def FJ (P:Params):Obj:={ cls:=.type "frame",slots:=#[some (.ref 9),some (.ref 3),some (.ref 3),none,some (.str "__main__" 164),none,some (.ref 0)] }
def Fq (P:Params):Obj:={ cls:=.type "dict",data:=Data.dict #[en P "__name__" 165 (.str "law_sluice_k31_dry_and_lowest" 322),en P "__doc__" 166 .none,en P "__package__" 167 .none,en P "__loader__" 168 (.builtin "__main__.__loader__#opaque"),en P "__spec__" 169 .none,en P "__annotations__" 170 (.ref 6),en P "__builtins__" 171 (.ref 4),en P "__file__" 173 (cp 172),en P "__cached__" 174 .none,en P "SluiceError" 206 (.ref 24),en P "NoReach" 222 (.ref 37),en P "MOUTH" 227 (.int (-1) 226),en P "way_of" 236 (.ref 46),en P "tops_first" 244 (.ref 53),en P "stretch_of" 254 (.ref 60),en P "natural_of" 266 (.ref 67),en P "reaches_of" 280 (.ref 74),en P "holds_of" 295 (.ref 81),en P "free_of" 301 (.ref 86),en P "dry_of" 309 (.ref 91),en P "meets" 315 (.ref 96),en P "lowest_of" 321 (.ref 101),en P "_law_cell_at" 331 (.ref 108),en P "_law_whole" 338 (.ref 115),en P "_law_draw" 348 (.ref 122),en P "_law_mixed" 354 (.ref 127),en P "_law_river" 360 (.ref 132),en P "_law_way" 369 (.ref 139),en P "_law_stretch" 378 (.ref 146),en P "_law_free" 394 (.ref 153),en P "_law_drawn" 408 (.ref 160),en P "_law_springs" 423 (.ref 167),en P "_law_rising" 429 (.ref 172),en P "_law_lowest" 435 (.ref 177),en P "law" 441 (.ref 182)] 35 }
def Ir (P:Params):Obj:=(tq #[])
def Ip (P:Params):Obj:={ cls:=.none,data:=Data.fields #[.int 2 0,.int 0 0,.ref 20,.int 4 0,.int 0 0,.ref 33,.int 8 0,.int 0 0,.ref 45,.int 13 0,.int 0 0,.ref 52,.int 15 0,.int 0 0,.ref 59,.int 23 0,.int 0 0,.ref 66,.int 30 0,.int 0 0,.ref 73,.int 34 0,.int 0 0,.ref 80,.int 40 0,.int 0 0,.ref 85,.int 44 0,.int 0 0,.ref 90,.int 46 0,.int 0 0,.ref 95,.int 48 0,.int 0 0,.ref 100,.int 51 0,.int 0 0,.ref 107,.int 55 0,.int 0 0,.ref 114,.int 57 0,.int 0 0,.ref 121,.int 61 0,.int 0 0,.ref 126,.int 63 0,.int 0 0,.ref 131,.int 74 0,.int 0 0,.ref 138,.int 80 0,.int 0 0,.ref 145,.int 85 0,.int 0 0,.ref 152,.int 94 0,.int 0 0,.ref 159,.int 104 0,.int 0 0,.ref 166,.int 111 0,.int 0 0,.ref 171,.int 115 0,.int 0 0,.ref 176,.int 121 0,.int 0 0,.ref 181] }
def Io (P:Params):Obj:=(fc #[.str "<module>" 182,.str "<module>" 183,cp 184,.int 1 0,.int 0 0,.int 0 0,.int 0 0,.int 0 0,.ref 11,.bool false,.int 181 0,.ref 12,.none,.none,.none,.none,.int 185 0,.int 1 0,cp 186])
def Im (P:Params):Obj:={ cls:=.type "frame",slots:=#[some (.ref 13),some (.ref 3),some (.ref 3),none,some (.str "__main__" 164),none,some (.ref 0)] }
def Ep (P:Params):Obj:=(tq #[.type "ValueError"])
def Il (P:Params):Obj:={ cls:=.type "builtin_function_or_method",data:=Data.fields #[.builtin "type.__prepare__",.type "type"] }
def Ik (P:Params):Obj:={ cls:=.type "dict",data:=Data.dict #[en P "__module__" 196 (.str "sluice.errors" 187),en P "__qualname__" 198 (.str "SluiceError" 197),en P "__firstlineno__" 200 (.int 2 199),en P "__static_attributes__" 201 (.ref 22)] 4 }
def Ij (P:Params):Obj:=(tq #[])
def Ii (P:Params):Obj:={ cls:=.none,data:=Data.fields #[] }
def Ih (P:Params):Obj:=(fc #[.str "SluiceError" 191,.str "SluiceError" 192,cp 193,.int 2 0,.int 0 0,.int 0 0,.int 0 0,.int 0 0,.ref 18,.bool false,.int 181 0,.ref 19,.none,.none,.none,.none,.int 194 0,.int 2 0,cp 195])
def Ig (P:Params):Obj:={ cls:=.type "frame",slots:=#[some (.ref 20),some (.ref 3),some (.ref 17),none,some (.str "sluice.errors" 187),none,some (.ref 0)] }
def Em (P:Params):Obj:=(tq #[])
def El (P:Params):Obj:={ cls:=.type "dict",data:=Data.dict #[en P "__module__" 196 (.str "sluice.errors" 187),en P "__firstlineno__" 200 (.int 2 199),en P "__static_attributes__" 201 (.ref 22),en P "__weakref__" 203 (.ref 25),en P "__doc__" 204 .none] 3 }
def Ek (P:Params):Obj:={ cls:=.type "type",data:=Data.cls { name:="SluiceError",bases:=[.type "ValueError"],mro:=[.ref 24,.type "ValueError",.type "Exception",.type "BaseException",.type "object"],ns:=23,qualname:="SluiceError",subclasses:=[.ref 37] },slots:=#[some (.ref 15),none,some (.str "SluiceError" 189),some (.str "SluiceError" 197),some (.builtin "ValueError.__new__"),some (.bool true)] }
def Ej (P:Params):Obj:={ cls:=.type "getset_descriptor",data:=Data.fields #[.str "__weakref__" 202,.ref 24,.builtin "ExceptionGroup.__weakref__",.none] }
def Ie (P:Params):Obj:={ cls:=.type "super",data:=Data.fields #[.ref 24,.ref 24,.ref 24] }
def Ia (P:Params):Obj:={ cls:=.type "builtin_function_or_method",data:=Data.fields #[.builtin "object.__init_subclass__",.ref 24] }
def Ei (P:Params):Obj:=(tq #[.ref 24])
def HY (P:Params):Obj:={ cls:=.type "builtin_function_or_method",data:=Data.fields #[.builtin "type.__prepare__",.type "type"] }
def HX (P:Params):Obj:={ cls:=.type "dict",data:=Data.dict #[en P "__module__" 214 (.str "sluice.errors" 187),en P "__qualname__" 216 (.str "NoReach" 215),en P "__firstlineno__" 218 (.int 4 217),en P "__static_attributes__" 219 (.ref 35)] 4 }
def HW (P:Params):Obj:=(tq #[])
def HS (P:Params):Obj:={ cls:=.none,data:=Data.fields #[] }
def HN (P:Params):Obj:=(fc #[.str "NoReach" 209,.str "NoReach" 210,cp 211,.int 4 0,.int 0 0,.int 0 0,.int 0 0,.int 0 0,.ref 31,.bool false,.int 181 0,.ref 32,.none,.none,.none,.none,.int 212 0,.int 4 0,cp 213])
def HJ (P:Params):Obj:={ cls:=.type "frame",slots:=#[some (.ref 33),some (.ref 3),some (.ref 30),none,some (.str "sluice.errors" 187),none,some (.ref 0)] }
def Eh (P:Params):Obj:=(tq #[])
def Ef (P:Params):Obj:={ cls:=.type "dict",data:=Data.dict #[en P "__module__" 214 (.str "sluice.errors" 187),en P "__firstlineno__" 218 (.int 4 217),en P "__static_attributes__" 219 (.ref 35),en P "__doc__" 220 .none] 2 }
def Ed (P:Params):Obj:={ cls:=.type "type",data:=Data.cls { name:="NoReach",bases:=[.ref 24],mro:=[.ref 37,.ref 24,.type "ValueError",.type "Exception",.type "BaseException",.type "object"],ns:=36,qualname:="NoReach" },slots:=#[some (.ref 28),none,some (.str "NoReach" 207),some (.str "NoReach" 215),some (.builtin "ValueError.__new__"),some (.bool true)] }
def HF (P:Params):Obj:={ cls:=.type "super",data:=Data.fields #[.ref 37,.ref 37,.ref 37] }
def HD (P:Params):Obj:={ cls:=.type "builtin_function_or_method",data:=Data.fields #[.builtin "object.__init_subclass__",.ref 37] }
def Ec (P:Params):Obj:=(tq #[])
def HB (P:Params):Obj:={ cls:=.none,data:=Data.fields #[] }
def Eb (P:Params):Obj:=(tq #[.str "below" 231,.str "reach" 232,.str "way" 233])
def Ea (P:Params):Obj:=(tq #[])
def Hz (P:Params):Obj:=(pr0 "way_of" 5)
def DY (P:Params):Obj:=(fc #[.str "way_of" 228,.str "way_of" 229,cp 230,.int 8 0,.int 2 0,.int 0 0,.int 0 0,.int 3 0,.ref 40,.bool true,.int 181 0,.ref 41,.none,.ref 42,.ref 43,.ref 44,.int 234 0,.int 8 0,cp 235])
def DX (P:Params):Obj:=⟨.type "function",none,.func (PySem.W.fnOf "way_of" "way_of" (aC (top0 5)) (aB (top0 5)) (ao (top0 5)) .none .none .none (.str "sluice.rivers" 223) none (.ref 45) .none),#[]⟩
def DW (P:Params):Obj:=(tq #[])
def Hy (P:Params):Obj:={ cls:=.none,data:=Data.fields #[] }
def DR (P:Params):Obj:=(tq #[.str "below" 240])
def DQ (P:Params):Obj:=(tq #[.str "below" 241])
def Hx (P:Params):Obj:=(pr0 "tops_first" 6)
def DP (P:Params):Obj:=(fc #[.str "tops_first" 237,.str "tops_first" 238,cp 239,.int 13 0,.int 1 0,.int 0 0,.int 0 0,.int 3 0,.ref 47,.bool true,.int 181 0,.ref 48,.none,.ref 49,.ref 50,.ref 51,.int 242 0,.int 13 0,cp 243])
def DN (P:Params):Obj:=⟨.type "function",none,.func (PySem.W.fnOf "tops_first" "tops_first" (aC (top0 6)) (aB (top0 6)) (ao (top0 6)) .none .none .none (.str "sluice.rivers" 223) none (.ref 52) .none),#[]⟩
def DK (P:Params):Obj:=(tq #[])
def Hw (P:Params):Obj:={ cls:=.none,data:=Data.fields #[] }
def DG (P:Params):Obj:=(tq #[.str "below" 248,.str "start" 249,.str "stop" 250,.str "way" 251])
def Dz (P:Params):Obj:=(tq #[])
def Hv (P:Params):Obj:=(pr0 "stretch_of" 7)
def Dy (P:Params):Obj:=(fc #[.str "stretch_of" 245,.str "stretch_of" 246,cp 247,.int 15 0,.int 3 0,.int 0 0,.int 0 0,.int 3 0,.ref 54,.bool true,.int 181 0,.ref 55,.none,.ref 56,.ref 57,.ref 58,.int 252 0,.int 15 0,cp 253])
def Dw (P:Params):Obj:=⟨.type "function",none,.func (PySem.W.fnOf "stretch_of" "stretch_of" (aC (top0 7)) (aB (top0 7)) (ao (top0 7)) .none .none .none (.str "sluice.rivers" 223) none (.ref 59) .none),#[]⟩
def Dv (P:Params):Obj:=(tq #[])
def Hu (P:Params):Obj:={ cls:=.none,data:=Data.fields #[] }
def Du (P:Params):Obj:=(tq #[.str "below" 260,.str "springs" 261,.str "flows" 262,.str "reach" 263])
def Dt (P:Params):Obj:=(tq #[])
def Ht (P:Params):Obj:=(pr0 "natural_of" 9)
def Ds (P:Params):Obj:=(fc #[.str "natural_of" 257,.str "natural_of" 258,cp 259,.int 23 0,.int 2 0,.int 0 0,.int 0 0,.int 3 0,.ref 61,.bool true,.int 181 0,.ref 62,.none,.ref 63,.ref 64,.ref 65,.int 264 0,.int 23 0,cp 265])
def Dr (P:Params):Obj:=⟨.type "function",none,.func (PySem.W.fnOf "natural_of" "natural_of" (aC (top0 9)) (aB (top0 9)) (ao (top0 9)) .none .none .none (.str "sluice.flows" 255) none (.ref 66) .none),#[]⟩
def Dq (P:Params):Obj:=(tq #[])
def Hs (P:Params):Obj:={ cls:=.none,data:=Data.fields #[] }
def Dp (P:Params):Obj:=(tq #[.str "below" 272,.str "one" 273,.str "day" 274,.str "start" 275,.str "back" 276,.str "most" 277])
def Dn (P:Params):Obj:=(tq #[])
def Hr (P:Params):Obj:=(pr0 "reaches_of" 11)
def Dm (P:Params):Obj:=(fc #[.str "reaches_of" 269,.str "reaches_of" 270,cp 271,.int 30 0,.int 2 0,.int 0 0,.int 0 0,.int 3 0,.ref 68,.bool true,.int 181 0,.ref 69,.none,.ref 70,.ref 71,.ref 72,.int 278 0,.int 30 0,cp 279])
def Dl (P:Params):Obj:=⟨.type "function",none,.func (PySem.W.fnOf "reaches_of" "reaches_of" (aC (top0 11)) (aB (top0 11)) (ao (top0 11)) .none .none .none (.str "sluice.licences" 267) none (.ref 73) .none),#[]⟩
def Dk (P:Params):Obj:=(tq #[])
def Hq (P:Params):Obj:={ cls:=.none,data:=Data.fields #[] }
def Dj (P:Params):Obj:=(tq #[.str "below" 286,.str "roll" 287,.str "takes" 288,.str "holds" 289,.str "one" 290,.str "take" 291,.str "reach" 292])
def Di (P:Params):Obj:=(tq #[])
def Ho (P:Params):Obj:=(pr0 "holds_of" 13)
def Dh (P:Params):Obj:=(fc #[.str "holds_of" 283,.str "holds_of" 284,cp 285,.int 34 0,.int 3 0,.int 0 0,.int 0 0,.int 3 0,.ref 75,.bool true,.int 181 0,.ref 76,.none,.ref 77,.ref 78,.ref 79,.int 293 0,.int 34 0,cp 294])
def Dg (P:Params):Obj:=⟨.type "function",none,.func (PySem.W.fnOf "holds_of" "holds_of" (aC (top0 13)) (aB (top0 13)) (ao (top0 13)) .none .none .none (.str "sluice.holds" 281) none (.ref 80) .none),#[]⟩
def Dd (P:Params):Obj:=(tq #[])
def Hl (P:Params):Obj:={ cls:=.none,data:=Data.fields #[] }
def Hj (P:Params):Obj:=(pr0 "free_of" 14)
def Dc (P:Params):Obj:=(fc #[.str "free_of" 296,.str "free_of" 297,cp 298,.int 40 0,.int 4 0,.int 0 0,.int 0 0,.int 3 0,.ref 82,.bool true,.int 181 0,.ref 83,.none,.none,.none,.ref 84,.int 299 0,.int 40 0,cp 300])
def CZ (P:Params):Obj:=⟨.type "function",none,.func (PySem.W.fnOf "free_of" "free_of" (aC (top0 14)) (aB (top0 14)) (ao (top0 14)) .none .none .none (.str "sluice.holds" 281) none (.ref 85) .none),#[]⟩
def CW (P:Params):Obj:=(tq #[])
def Hi (P:Params):Obj:={ cls:=.none,data:=Data.fields #[] }
def Hh (P:Params):Obj:=(pr0 "dry_of" 16)
def CV (P:Params):Obj:=(fc #[.str "dry_of" 304,.str "dry_of" 305,cp 306,.int 44 0,.int 4 0,.int 0 0,.int 0 0,.int 3 0,.ref 87,.bool true,.int 181 0,.ref 88,.none,.none,.none,.ref 89,.int 307 0,.int 44 0,cp 308])
def CT (P:Params):Obj:=⟨.type "function",none,.func (PySem.W.fnOf "dry_of" "dry_of" (aC (top0 16)) (aB (top0 16)) (ao (top0 16)) .none .none .none (.str "sluice.cuts" 302) none (.ref 90) .none),#[]⟩
def CQ (P:Params):Obj:=(tq #[])
def Hg (P:Params):Obj:={ cls:=.none,data:=Data.fields #[] }
def Hf (P:Params):Obj:=(pr0 "meets" 17)
def CP (P:Params):Obj:=(fc #[.str "meets" 310,.str "meets" 311,cp 312,.int 46 0,.int 2 0,.int 0 0,.int 0 0,.int 3 0,.ref 92,.bool true,.int 181 0,.ref 93,.none,.none,.none,.ref 94,.int 313 0,.int 46 0,cp 314])
def CN (P:Params):Obj:=⟨.type "function",none,.func (PySem.W.fnOf "meets" "meets" (aC (top0 17)) (aB (top0 17)) (ao (top0 17)) .none .none .none (.str "sluice.cuts" 302) none (.ref 95) .none),#[]⟩
def zN (P:Params):Obj:=(tq #[])
def FT (P:Params):Obj:={ cls:=.none,data:=Data.fields #[] }
def FQ (P:Params):Obj:=(pr0 "lowest_of" 18)
def zM (P:Params):Obj:=(fc #[.str "lowest_of" 316,.str "lowest_of" 317,cp 318,.int 48 0,.int 2 0,.int 0 0,.int 0 0,.int 3 0,.ref 97,.bool true,.int 181 0,.ref 98,.none,.none,.none,.ref 99,.int 319 0,.int 48 0,cp 320])
def zL (P:Params):Obj:=⟨.type "function",none,.func (PySem.W.fnOf "lowest_of" "lowest_of" (aC (top0 18)) (aB (top0 18)) (ao (top0 18)) .none .none .none (.str "sluice.cuts" 302) none (.ref 100) .none),#[]⟩
def zK (P:Params):Obj:=(tq #[])
def FP (P:Params):Obj:={ cls:=.none,data:=Data.fields #[] }
def zJ (P:Params):Obj:=(tq #[.str "script" 327,.str "k" 328])
def zH (P:Params):Obj:=(tq #[])
def FN (P:Params):Obj:=(pr0 "_law_cell_at" 20)
def zG (P:Params):Obj:=(fc #[.str "_law_cell_at" 324,.str "_law_cell_at" 325,cp 326,.int 51 0,.int 2 0,.int 0 0,.int 0 0,.int 3 0,.ref 102,.bool true,.int 181 0,.ref 103,.none,.ref 104,.ref 105,.ref 106,.int 329 0,.int 51 0,cp 330])
def zF (P:Params):Obj:=⟨.type "function",none,.func (PySem.W.fnOf "_law_cell_at" "_law_cell_at" (aC (top0 20)) (aB (top0 20)) (ao (top0 20)) .none .none .none (.str "law_sluice_k31_dry_and_lowest" 322) none (.ref 107) .none),#[]⟩
def zE (P:Params):Obj:=(tq #[])
def Fz (P:Params):Obj:={ cls:=.none,data:=Data.fields #[] }
def zB (P:Params):Obj:=(tq #[.str "found" 335])
def zA (P:Params):Obj:=(tq #[])
def Fy (P:Params):Obj:=(pr0 "_law_whole" 21)
def zy (P:Params):Obj:=(fc #[.str "_law_whole" 332,.str "_law_whole" 333,cp 334,.int 55 0,.int 1 0,.int 0 0,.int 0 0,.int 3 0,.ref 109,.bool true,.int 181 0,.ref 110,.none,.ref 111,.ref 112,.ref 113,.int 336 0,.int 55 0,cp 337])
def zx (P:Params):Obj:=⟨.type "function",none,.func (PySem.W.fnOf "_law_whole" "_law_whole" (aC (top0 21)) (aB (top0 21)) (ao (top0 21)) .none .none .none (.str "law_sluice_k31_dry_and_lowest" 322) none (.ref 114) .none),#[]⟩
def zu (P:Params):Obj:=(tq #[])
def Fx (P:Params):Obj:={ cls:=.none,data:=Data.fields #[] }
def zq (P:Params):Obj:=(tq #[.str "cell" 342,.str "k" 343,.str "seed" 344,.str "turned" 345])
def zp (P:Params):Obj:=(tq #[])
def Fw (P:Params):Obj:=(pr0 "_law_draw" 22)
def zm (P:Params):Obj:=(fc #[.str "_law_draw" 339,.str "_law_draw" 340,cp 341,.int 57 0,.int 2 0,.int 0 0,.int 0 0,.int 3 0,.ref 116,.bool true,.int 181 0,.ref 117,.none,.ref 118,.ref 119,.ref 120,.int 346 0,.int 57 0,cp 347])
def zj (P:Params):Obj:=⟨.type "function",none,.func (PySem.W.fnOf "_law_draw" "_law_draw" (aC (top0 22)) (aB (top0 22)) (ao (top0 22)) .none .none .none (.str "law_sluice_k31_dry_and_lowest" 322) none (.ref 121) .none),#[]⟩
def zf (P:Params):Obj:=(tq #[])
def Fv (P:Params):Obj:={ cls:=.none,data:=Data.fields #[] }
def Ft (P:Params):Obj:=(pr0 "_law_mixed" 23)
def zc (P:Params):Obj:=(fc #[.str "_law_mixed" 349,.str "_law_mixed" 350,cp 351,.int 61 0,.int 2 0,.int 0 0,.int 0 0,.int 3 0,.ref 123,.bool true,.int 181 0,.ref 124,.none,.none,.none,.ref 125,.int 352 0,.int 61 0,cp 353])
def za (P:Params):Obj:=⟨.type "function",none,.func (PySem.W.fnOf "_law_mixed" "_law_mixed" (aC (top0 23)) (aB (top0 23)) (ao (top0 23)) .none .none .none (.str "law_sluice_k31_dry_and_lowest" 322) none (.ref 126) .none),#[]⟩
def yZ (P:Params):Obj:=(tq #[])
def Fp (P:Params):Obj:={ cls:=.none,data:=Data.fields #[] }
def Fo (P:Params):Obj:=(pr0 "_law_river" 24)
def yX (P:Params):Obj:=(fc #[.str "_law_river" 355,.str "_law_river" 356,cp 357,.int 63 0,.int 1 0,.int 0 0,.int 0 0,.int 3 0,.ref 128,.bool true,.int 181 0,.ref 129,.none,.none,.none,.ref 130,.int 358 0,.int 63 0,cp 359])
def yW (P:Params):Obj:=⟨.type "function",none,.func (PySem.W.fnOf "_law_river" "_law_river" (aC (top0 24)) (aB (top0 24)) (ao (top0 24)) .none .none .none (.str "law_sluice_k31_dry_and_lowest" 322) none (.ref 131) .none),#[]⟩
def yV (P:Params):Obj:=(tq #[])
def Fj (P:Params):Obj:={ cls:=.none,data:=Data.fields #[] }
def yU (P:Params):Obj:=(tq #[.str "below" 364,.str "reach" 365,.str "way" 366])
def yS (P:Params):Obj:=(tq #[])
def Fi (P:Params):Obj:=(pr0 "_law_way" 25)
def yR (P:Params):Obj:=(fc #[.str "_law_way" 361,.str "_law_way" 362,cp 363,.int 74 0,.int 2 0,.int 0 0,.int 0 0,.int 3 0,.ref 133,.bool true,.int 181 0,.ref 134,.none,.ref 135,.ref 136,.ref 137,.int 367 0,.int 74 0,cp 368])
def yQ (P:Params):Obj:=⟨.type "function",none,.func (PySem.W.fnOf "_law_way" "_law_way" (aC (top0 25)) (aB (top0 25)) (ao (top0 25)) .none .none .none (.str "law_sluice_k31_dry_and_lowest" 322) none (.ref 138) .none),#[]⟩
def yP (P:Params):Obj:=(tq #[])
def Fg (P:Params):Obj:={ cls:=.none,data:=Data.fields #[] }
def yO (P:Params):Obj:=(tq #[.str "below" 373,.str "one" 374,.str "way" 375])
def yN (P:Params):Obj:=(tq #[])
def Fe (P:Params):Obj:=(pr0 "_law_stretch" 26)
def yM (P:Params):Obj:=(fc #[.str "_law_stretch" 370,.str "_law_stretch" 371,cp 372,.int 80 0,.int 2 0,.int 0 0,.int 0 0,.int 3 0,.ref 140,.bool true,.int 181 0,.ref 141,.none,.ref 142,.ref 143,.ref 144,.int 376 0,.int 80 0,cp 377])
def yL (P:Params):Obj:=⟨.type "function",none,.func (PySem.W.fnOf "_law_stretch" "_law_stretch" (aC (top0 26)) (aB (top0 26)) (ao (top0 26)) .none .none .none (.str "law_sluice_k31_dry_and_lowest" 322) none (.ref 145) .none),#[]⟩
def yK (P:Params):Obj:=(tq #[])
def Fd (P:Params):Obj:={ cls:=.none,data:=Data.fields #[] }
def yJ (P:Params):Obj:=(tq #[.str "below" 382,.str "springs" 383,.str "roll" 384,.str "takes" 385,.str "free" 386,.str "reach" 387,.str "rises" 388,.str "low" 389,.str "one" 390,.str "take" 391])
def yI (P:Params):Obj:=(tq #[])
def Fb (P:Params):Obj:=(pr0 "_law_free" 27)
def yH (P:Params):Obj:=(fc #[.str "_law_free" 379,.str "_law_free" 380,cp 381,.int 85 0,.int 4 0,.int 0 0,.int 0 0,.int 3 0,.ref 147,.bool true,.int 181 0,.ref 148,.none,.ref 149,.ref 150,.ref 151,.int 392 0,.int 85 0,cp 393])
def yG (P:Params):Obj:=⟨.type "function",none,.func (PySem.W.fnOf "_law_free" "_law_free" (aC (top0 27)) (aB (top0 27)) (ao (top0 27)) .none .none .none (.str "law_sluice_k31_dry_and_lowest" 322) none (.ref 152) .none),#[]⟩
def yF (P:Params):Obj:=(tq #[])
def EY (P:Params):Obj:={ cls:=.none,data:=Data.fields #[] }
def yE (P:Params):Obj:=(tq #[.str "cell" 398,.str "below" 399,.str "far" 400,.str "great" 401,.str "xs" 402,.str "way" 403,.str "back" 404,.str "take" 405])
def yD (P:Params):Obj:=(tq #[])
def Ez (P:Params):Obj:=(pr0 "_law_drawn" 28)
def yC (P:Params):Obj:=(fc #[.str "_law_drawn" 395,.str "_law_drawn" 396,cp 397,.int 94 0,.int 4 0,.int 0 0,.int 0 0,.int 3 0,.ref 154,.bool true,.int 181 0,.ref 155,.none,.ref 156,.ref 157,.ref 158,.int 406 0,.int 94 0,cp 407])
def yx (P:Params):Obj:=⟨.type "function",none,.func (PySem.W.fnOf "_law_drawn" "_law_drawn" (aC (top0 28)) (aB (top0 28)) (ao (top0 28)) .none .none .none (.str "law_sluice_k31_dry_and_lowest" 322) none (.ref 159) .none),#[]⟩
def yw (P:Params):Obj:=(tq #[])
def Ey (P:Params):Obj:={ cls:=.none,data:=Data.fields #[] }
def yu (P:Params):Obj:=(tq #[.str "cell" 412,.str "below" 413,.str "roll" 414,.str "takes" 415,.str "springs" 416,.str "one" 417,.str "take" 418,.str "reach" 419,.str "x" 420])
def yt (P:Params):Obj:=(tq #[])
def Ew (P:Params):Obj:=(pr0 "_law_springs" 29)
def yr (P:Params):Obj:=(fc #[.str "_law_springs" 409,.str "_law_springs" 410,cp 411,.int 104 0,.int 4 0,.int 0 0,.int 0 0,.int 3 0,.ref 161,.bool true,.int 181 0,.ref 162,.none,.ref 163,.ref 164,.ref 165,.int 421 0,.int 104 0,cp 422])
def yq (P:Params):Obj:=⟨.type "function",none,.func (PySem.W.fnOf "_law_springs" "_law_springs" (aC (top0 29)) (aB (top0 29)) (ao (top0 29)) .none .none .none (.str "law_sluice_k31_dry_and_lowest" 322) none (.ref 166) .none),#[]⟩
def yp (P:Params):Obj:=(tq #[])
def Eu (P:Params):Obj:={ cls:=.none,data:=Data.fields #[] }
def Et (P:Params):Obj:=(pr0 "_law_rising" 30)
def yj (P:Params):Obj:=(fc #[.str "_law_rising" 424,.str "_law_rising" 425,cp 426,.int 111 0,.int 2 0,.int 0 0,.int 0 0,.int 3 0,.ref 168,.bool true,.int 181 0,.ref 169,.none,.none,.none,.ref 170,.int 427 0,.int 111 0,cp 428])
def yh (P:Params):Obj:=⟨.type "function",none,.func (PySem.W.fnOf "_law_rising" "_law_rising" (aC (top0 30)) (aB (top0 30)) (ao (top0 30)) .none .none .none (.str "law_sluice_k31_dry_and_lowest" 322) none (.ref 171) .none),#[]⟩
def yg (P:Params):Obj:=(tq #[])
def Es (P:Params):Obj:={ cls:=.none,data:=Data.fields #[] }
def Er (P:Params):Obj:=(pr0 "_law_lowest" 31)
def yd (P:Params):Obj:=(fc #[.str "_law_lowest" 430,.str "_law_lowest" 431,cp 432,.int 115 0,.int 2 0,.int 0 0,.int 0 0,.int 3 0,.ref 173,.bool true,.int 181 0,.ref 174,.none,.none,.none,.ref 175,.int 433 0,.int 115 0,cp 434])
def yc (P:Params):Obj:=⟨.type "function",none,.func (PySem.W.fnOf "_law_lowest" "_law_lowest" (aC (top0 31)) (aB (top0 31)) (ao (top0 31)) .none .none .none (.str "law_sluice_k31_dry_and_lowest" 322) none (.ref 176) .none),#[]⟩
def xZ (P:Params):Obj:=(tq #[])
def Eo (P:Params):Obj:={ cls:=.none,data:=Data.fields #[] }
def En (P:Params):Obj:=(pr0 "law" 32)
def xY (P:Params):Obj:=(fc #[.str "law" 436,.str "law" 437,cp 438,.int 121 0,.int 1 0,.int 0 0,.int 0 0,.int 3 0,.ref 178,.bool true,.int 181 0,.ref 179,.none,.none,.none,.ref 180,.int 439 0,.int 121 0,cp 440])
def xX (P:Params):Obj:=⟨.type "function",none,.func (PySem.W.fnOf "law" "law" (aC (top0 32)) (aB (top0 32)) (ao (top0 32)) .none .none .none (.str "law_sluice_k31_dry_and_lowest" 322) none (.ref 181) .none),#[]⟩
def H0:Params→Heap:=fun P=>{ objs:=⟨JC P :: JB P :: Ib P :: ho_4 P :: Jz P :: Jy P :: Jx P :: Jw P :: Jv P :: FW P :: FJ P :: []⟩ }
def H1:Params→Heap:=fun P=>{ objs:=⟨JC P :: JB P :: Ib P :: Fq P :: Jz P :: Jy P :: Jx P :: Jw P :: Jv P :: FW P :: FJ P :: Ir P :: Ip P :: Io P :: Im P :: Ep P :: Il P :: Ik P :: Ij P :: Ii P :: Ih P :: Ig P :: Em P :: El P :: Ek P :: Ej P :: Ie P :: Ia P :: Ei P :: HY P :: HX P :: HW P :: HS P :: HN P :: HJ P :: Eh P :: Ef P :: Ed P :: HF P :: HD P :: Ec P :: HB P :: Eb P :: Ea P :: Hz P :: DY P :: DX P :: DW P :: Hy P :: DR P :: DQ P :: Hx P :: DP P :: DN P :: DK P :: Hw P :: DG P :: Dz P :: Hv P :: Dy P :: Dw P :: Dv P :: Hu P :: Du P :: Dt P :: Ht P :: Ds P :: Dr P :: Dq P :: Hs P :: Dp P :: Dn P :: Hr P :: Dm P :: Dl P :: Dk P :: Hq P :: Dj P :: Di P :: Ho P :: Dh P :: Dg P :: Dd P :: Hl P :: Hj P :: Dc P :: CZ P :: CW P :: Hi P :: Hh P :: CV P :: CT P :: CQ P :: Hg P :: Hf P :: CP P :: CN P :: zN P :: FT P :: FQ P :: zM P :: zL P :: zK P :: FP P :: zJ P :: zH P :: FN P :: zG P :: zF P :: zE P :: Fz P :: zB P :: zA P :: Fy P :: zy P :: zx P :: zu P :: Fx P :: zq P :: zp P :: Fw P :: zm P :: zj P :: zf P :: Fv P :: Ft P :: zc P :: za P :: yZ P :: Fp P :: Fo P :: yX P :: yW P :: yV P :: Fj P :: yU P :: yS P :: Fi P :: yR P :: yQ P :: yP P :: Fg P :: yO P :: yN P :: Fe P :: yM P :: yL P :: yK P :: Fd P :: yJ P :: yI P :: Fb P :: yH P :: yG P :: yF P :: EY P :: yE P :: yD P :: Ez P :: yC P :: yx P :: yw P :: Ey P :: yu P :: yt P :: Ew P :: yr P :: yq P :: yp P :: Eu P :: Et P :: yj P :: yh P :: yg P :: Es P :: Er P :: yd P :: yc P :: xZ P :: Eo P :: En P :: xY P :: xX P :: []⟩ }
def Kf:Params→PySem.W.Frag:=fun P=>(nat_lit 2,Ib P) ::
 (nat_lit 3,Fq P) ::
 (nat_lit 15,Ep P) ::
 (nat_lit 22,Em P) ::
 (nat_lit 23,El P) ::
 (nat_lit 24,Ek P) ::
 (nat_lit 25,Ej P) ::
 (nat_lit 28,Ei P) ::
 (nat_lit 35,Eh P) ::
 (nat_lit 36,Ef P) ::
 (nat_lit 37,Ed P) ::
 (nat_lit 40,Ec P) ::
 (nat_lit 42,Eb P) ::
 (nat_lit 43,Ea P) ::
 (nat_lit 45,DY P) ::
 (nat_lit 46,DX P) ::
 (nat_lit 47,DW P) ::
 (nat_lit 49,DR P) ::
 (nat_lit 50,DQ P) ::
 (nat_lit 52,DP P) ::
 (nat_lit 53,DN P) ::
 (nat_lit 54,DK P) ::
 (nat_lit 56,DG P) ::
 (nat_lit 57,Dz P) ::
 (nat_lit 59,Dy P) ::
 (nat_lit 60,Dw P) ::
 (nat_lit 61,Dv P) ::
 (nat_lit 63,Du P) ::
 (nat_lit 64,Dt P) ::
 (nat_lit 66,Ds P) ::
 (nat_lit 67,Dr P) ::
 (nat_lit 68,Dq P) ::
 (nat_lit 70,Dp P) ::
 (nat_lit 71,Dn P) ::
 (nat_lit 73,Dm P) ::
 (nat_lit 74,Dl P) ::
 (nat_lit 75,Dk P) ::
 (nat_lit 77,Dj P) ::
 (nat_lit 78,Di P) ::
 (nat_lit 80,Dh P) ::
 (nat_lit 81,Dg P) ::
 (nat_lit 82,Dd P) ::
 (nat_lit 85,Dc P) ::
 (nat_lit 86,CZ P) ::
 (nat_lit 87,CW P) ::
 (nat_lit 90,CV P) ::
 (nat_lit 91,CT P) ::
 (nat_lit 92,CQ P) ::
 (nat_lit 95,CP P) ::
 (nat_lit 96,CN P) ::
 (nat_lit 97,zN P) ::
 (nat_lit 100,zM P) ::
 (nat_lit 101,zL P) ::
 (nat_lit 102,zK P) ::
 (nat_lit 104,zJ P) ::
 (nat_lit 105,zH P) ::
 (nat_lit 107,zG P) ::
 (nat_lit 108,zF P) ::
 (nat_lit 109,zE P) ::
 (nat_lit 111,zB P) ::
 (nat_lit 112,zA P) ::
 (nat_lit 114,zy P) ::
 (nat_lit 115,zx P) ::
 (nat_lit 116,zu P) ::
 (nat_lit 118,zq P) ::
 (nat_lit 119,zp P) ::
 (nat_lit 121,zm P) ::
 (nat_lit 122,zj P) ::
 (nat_lit 123,zf P) ::
 (nat_lit 126,zc P) ::
 (nat_lit 127,za P) ::
 (nat_lit 128,yZ P) ::
 (nat_lit 131,yX P) ::
 (nat_lit 132,yW P) ::
 (nat_lit 133,yV P) ::
 (nat_lit 135,yU P) ::
 (nat_lit 136,yS P) ::
 (nat_lit 138,yR P) ::
 (nat_lit 139,yQ P) ::
 (nat_lit 140,yP P) ::
 (nat_lit 142,yO P) ::
 (nat_lit 143,yN P) ::
 (nat_lit 145,yM P) ::
 (nat_lit 146,yL P) ::
 (nat_lit 147,yK P) ::
 (nat_lit 149,yJ P) ::
 (nat_lit 150,yI P) ::
 (nat_lit 152,yH P) ::
 (nat_lit 153,yG P) ::
 (nat_lit 154,yF P) ::
 (nat_lit 156,yE P) ::
 (nat_lit 157,yD P) ::
 (nat_lit 159,yC P) ::
 (nat_lit 160,yx P) ::
 (nat_lit 161,yw P) ::
 (nat_lit 163,yu P) ::
 (nat_lit 164,yt P) ::
 (nat_lit 166,yr P) ::
 (nat_lit 167,yq P) ::
 (nat_lit 168,yp P) ::
 (nat_lit 171,yj P) ::
 (nat_lit 172,yh P) ::
 (nat_lit 173,yg P) ::
 (nat_lit 176,yd P) ::
 (nat_lit 177,yc P) ::
 (nat_lit 178,xZ P) ::
 (nat_lit 181,xY P) ::
 (nat_lit 182,xX P) :: []
def asK:List Addr:=[2,3,15,22,23,24,25,28,35,36,37,40,42,43,45,46,47,49,50,52,53,54,56,57,59,60,61,63,64,66,67,68,70,71,73,74,75,77,78,80,81,82,85,86,87,90,91,92,95,96,97,100,101,102,104,105,107,108,109,111,112,114,115,116,118,119,121,122,123,126,127,128,131,132,133,135,136,138,139,140,142,143,145,146,147,149,150,152,153,154,156,157,159,160,161,163,164,166,167,168,171,172,173,176,177,178,181,182]
def tsK:List Addr:=[48]
theorem hkE:∀ P,asK=(Kf P).map (·.1):=fun _=>by kernel_rfl
def qv:Program:={ PySem.Challenge.pw_sluice_k31_dry_and_lowest with main:={ PySem.Challenge.pw_sluice_k31_dry_and_lowest.main with body:=[top0 32] } }
def qt:List Str:=("SluiceError":Str) :: ("NoReach":Str) :: ("MOUTH":Str) :: ("way_of":Str) :: ("tops_first":Str) :: ("stretch_of":Str) :: ("natural_of":Str) :: ("reaches_of":Str) :: ("holds_of":Str) :: ("free_of":Str) :: ("dry_of":Str) :: ("meets":Str) :: ("lowest_of":Str) :: ("_law_cell_at":Str) :: ("_law_whole":Str) :: ("_law_draw":Str) :: ("_law_mixed":Str) :: ("_law_river":Str) :: ("_law_way":Str) :: ("_law_stretch":Str) :: ("_law_free":Str) :: ("_law_drawn":Str) :: ("_law_springs":Str) :: ("_law_rising":Str) :: ("_law_lowest":Str) :: []
end
theorem hp1:∀ w:World,(PySem.W.fencedOpening PySem.treeTable PySem.Challenge.rw_sluice_k31_dry_and_lowest.row.toRowW.prog w 2462).map (fun s=>(s.heap,s.gens,s.drawn,s.toks))=some (H0 w.params,#[],{},181):=by
  intro w;kernel_rfl
theorem hp2:∀ w:World,((H0 w.params).isNs mainGlobals && (#[]:Array GenState).size == 0,(H0 w.params).objs.size,(H0 w.params).nsMap mainGlobals "__annotations__")=(true,11,some (Value.ref 6)):=by
  intro w;kernel_rfl
theorem hp3:∀ (w:World) (os:OsState),PySem.W.topRun PySem.treeTable PySem.Challenge.rw_sluice_k31_dry_and_lowest.row.toRowW.prog w 11 (some (Value.ref 6)) 2462 ⟨H0 w.params,#[],{},181,os⟩ (PySem.W.topStub PySem.Challenge.rw_sluice_k31_dry_and_lowest.row.toRowW.prog)=some ⟨H1 w.params,#[],{},442,os⟩:=by
  intro w os;kernel_rfl
theorem hp4:∀ w:World,(fun os=>((PySem.W.staticsOk (importedModules PySem.Challenge.rw_sluice_k31_dry_and_lowest.row.toRowW.prog.main.body) (H0 w.params) (H1 w.params) && PySem.W.namesBound PySem.Challenge.rw_sluice_k31_dry_and_lowest.row.toRowW.prog (H1 w.params) && PySem.W.gensDone ⟨H1 w.params,#[],{},442,os⟩ && PySem.W.laidKept (H0 w.params) (H1 w.params)),PySem.W.openSeen qv qt (importedModules PySem.Challenge.rw_sluice_k31_dry_and_lowest.row.toRowW.prog.main.body) (fun s=>PySem.W.xlAt My.qv [] s && PySem.W.recOk (PySem.W.RowW.records PySem.Challenge.rw_sluice_k31_dry_and_lowest.row.toRowW) s) true ⟨H1 w.params,#[],{},442,os⟩,(PySem.W.Hook.obs (PySem.W.kmHook My.Kf My.asK My.hkE My.tsK)) ⟨H1 w.params,#[],{},442,os⟩))=fun _=>(true,PySem.W.openGood qv qt,(PySem.W.Hook.val (PySem.W.kmHook My.Kf My.asK My.hkE My.tsK)) w):=by
  intro w;kernel_rfl
theorem hlE:PySem.W.LeftO PySem.Challenge.rw_sluice_k31_dry_and_lowest.row.toRowW.prog qv My.qt (fun s=>PySem.W.xlAt My.qv [] s && PySem.W.recOk (PySem.W.RowW.records PySem.Challenge.rw_sluice_k31_dry_and_lowest.row.toRowW) s) (PySem.W.Hook.obs (PySem.W.kmHook My.Kf My.asK My.hkE My.tsK)) (PySem.W.Hook.val (PySem.W.kmHook My.Kf My.asK My.hkE My.tsK)) 2462:=PySem.W.LeftO.of_pieces hp1 hp2 hp3 (by decide) hp4
end My
namespace L2
open PySem PySem.Spec PyProof.Rows
abbrev Key:=Sum Int Str
def CJ:Key→Value→Bool
  | .inl k,v=>Value.isInt k v
  | .inr x,v=>Value.isStrOf x v
def keyH (w:World):Key→Int
  | .inl k=>hashInt k
  | .inr x=>hashStr w x
theorem cB:∀ {k:Key} {v:Value},CJ k v=true→(∃ i t,k=Sum.inl i∧v=Value.int i t)∨(∃ x t,k=Sum.inr x∧v=Value.str x t)
  | .inl i,v,h=>by
    obtain ⟨t,e⟩:=Value.isInt_shape (k:=i) (v:=v) h
    exact .inl ⟨i,t,rfl,e⟩
  | .inr x,v,h=>by
    obtain ⟨t,e⟩:=Value.isStrOf_shape (x:=x) (v:=v) h
    exact .inr ⟨x,t,rfl,e⟩
theorem CG (a b:Int):decide ((Sum.inl a:Key)=Sum.inl b)=(a == b):=by
  by_cases e:a=b
  · subst e;simp
  · have h:¬ (Sum.inl a:Key)=Sum.inl b:=fun q=>e (Sum.inl.inj q)
    rw [decide_eq_false h]
    exact (beq_eq_false_iff_ne.mpr e).symm
theorem Cw (a b:Str):decide ((Sum.inr a:Key)=Sum.inr b)=decide (a=b):=by
  by_cases e:a=b
  · subst e;simp
  · have h:¬ (Sum.inr a:Key)=Sum.inr b:=fun q=>e (Sum.inr.inj q)
    rw [decide_eq_false h,decide_eq_false e]
theorem Cz (a:Int) (b:Str):decide ((Sum.inl a:Key)=Sum.inr b)=false:=decide_eq_false (fun q=>nomatch q)
theorem Cy (a:Str) (b:Int):decide ((Sum.inr a:Key)=Sum.inl b)=false:=decide_eq_false (fun q=>nomatch q)
def uo (prog:Program) (w:World):PySem.KeyKind prog w Key where
  is:=CJ
  hash:=keyH w
  inj:=fun v a b ha hb=>by
    rcases cB ha with ⟨i,t,rfl,rfl⟩ | ⟨x,t,rfl,rfl⟩
    · rcases cB hb with ⟨j,u,rfl,e⟩ | ⟨y,u,rfl,e⟩
      · injection e with e1 _;rw [e1]
      · exact nomatch e
    · rcases cB hb with ⟨j,u,rfl,e⟩ | ⟨y,u,rfl,e⟩
      · exact nomatch e
      · injection e with e1 _;rw [e1]
  byValue:=fun k v h=>by
    rcases cB h with ⟨i,t,rfl,rfl⟩ | ⟨x,t,rfl,rfl⟩ <;> rfl
  pyHash:=fun hv h=>by
    rcases cB hv with ⟨i,t,rfl,rfl⟩ | ⟨x,t,rfl,rfl⟩
    · exact wpAny_pyHash_int h
    · exact wpAny_pyHash_str h
  eqBool:=fun hu hv h=>by
    rcases cB hu with ⟨i,t,rfl,rfl⟩ | ⟨x,t,rfl,rfl⟩
    · rcases cB hv with ⟨j,u,rfl,rfl⟩ | ⟨y,u,rfl,rfl⟩
      · rw [CG] at h;exact wpAny_eqBool_int h
      · rw [Cz] at h;exact SeqAt.EqAt.int_str i t y u _ _ _ _ h
    · rcases cB hv with ⟨j,u,rfl,rfl⟩ | ⟨y,u,rfl,rfl⟩
      · rw [Cy] at h;exact SeqAt.EqAt.str_int x t j u _ _ _ _ h
      · rw [Cw] at h;exact wpAny_eqBool_str h
  «strs»:=fun k x t v h=>by
    rcases cB h with ⟨i,u,rfl,e⟩ | ⟨y,u,rfl,e⟩
    · exact nomatch e
    · injection e with e1 _
      subst e1
      cases v <;> rfl
end L2
namespace L2
open PySem PySem.Spec PyProof.Rows
inductive V where
  | non | bl (b:Bool) | int (i:Int) | str (x:Str) | byt (b:Array UInt8) | flt (b:UInt64) | ref (a:Addr) | ty (n:String)
  deriving DecidableEq
def RelV:V→Value→Prop
  | .non,u=>u=Value.none
  | .bl b,u=>u=Value.bool b
  | .int i,u=>∃ t,u=Value.int i t
  | .str x,u=>∃ t,u=Value.str x t
  | .byt b,u=>∃ t,u=Value.bytes b t
  | .flt b,u=>∃ t,u=Value.float b t
  | .ref a,u=>u=Value.ref a
  | .ty n,u=>u=Value.type n
abbrev Vals:List V→List Value→Prop:=Paired RelV
theorem Vals.length {xs:List V} {us:List Value} (r:Vals xs us):xs.length=us.length:=Paired.length r
theorem Vals.get:∀ {xs:List V} {us:List Value} {i:Nat} {x:V},Vals xs us→xs[i]?=some x→∃ u,us[i]?=some u∧RelV x u
  | _,_,_,_,.nil,e=>by simp at e
  | _,_,0,_,.cons r _,e=>by simp at e;subst e;exact ⟨_,rfl,r⟩
  | _,_,i + 1,x,.cons _ t,e=>by
    obtain ⟨u,h1,h2⟩:=Vals.get (i:=i) (x:=x) t (by simpa using e)
    exact ⟨u,by simpa using h1,h2⟩
theorem Vals.set {x:V} {u:Value} (r:RelV x u):∀ {xs:List V} {us:List Value} (i:Nat),Vals xs us→Vals (xs.set i x) (us.set i u)
  | _,_,_,.nil=>.nil
  | _,_,0,.cons _ t=>.cons r t
  | _,_,i + 1,.cons q t=>.cons q (Vals.set r i t)
theorem Vals.append:∀ {xs ys:List V} {us ws:List Value},Vals xs us→Vals ys ws→Vals (xs++ys) (us++ws)
  | _,_,_,_,.nil,s=>s
  | _,_,_,_,.cons r t,s=>.cons r (Vals.append t s)
theorem Vals.take:∀ {xs:List V} {us:List Value} (n:Nat),Vals xs us→Vals (xs.take n) (us.take n)
  | _,_,0,_=>.nil
  | _,_,_ + 1,.nil=>.nil
  | _,_,n + 1,.cons r t=>.cons r (Vals.take n t)
theorem Vals.drop:∀ {xs:List V} {us:List Value} (n:Nat),Vals xs us→Vals (xs.drop n) (us.drop n)
  | _,_,0,r=>r
  | _,_,_ + 1,.nil=>.nil
  | _,_,n + 1,.cons _ t=>Vals.drop n t
def IV:Option V→Option Value→Prop
  | some v,some u=>RelV v u
  | none,none=>True
  | _,_=>False
def KV {κ:Type}:List (κ × V)→List (κ × Value)→Prop:=Paired fun (p:κ × V) (q:κ × Value)=>p.1=q.1∧RelV p.2 q.2
def kV:Key→V
  | .inl i=>.int i
  | .inr x=>.str x
inductive HO where
  /-- a list -/
  | lst (xs:List V)
  /-- a tuple (never changes) -/
  | tup (xs:List V)
  /-- a dict whose keys are ints and texts; one whose keys are tuples of ints and texts (the empty one is both) -/
  | dK (kvs:List (Key × V)) | dT (kvs:List (List Key × V))
  /-- a set of ints: its members, its size -/
  | set (S:Int→Bool) (n:Nat)
  /-- an instance of the class at C, its dict at dx, its attributes -/
  | ins (C dx:Addr) (fs:List (Str × V))
  /-- the dict of the instance at x -/
  | own (x:Addr)
  /-- the dict of an exception -/
  | xd (fs:List (Str × V))
  /-- a bound method, f of x -/
  | met (f x:Addr)
  /-- a range object lo, lo + 1, .. below hi -/
  | rng (lo hi:Int)
  /-- a thing that is known to the object (the script; a dict while a loop walks it): read, never written while it is so -/
  | frz (o:Obj) (u:HO)
  /-- a code object's table -/
  | tbl (ps:Array Value)
  /-- any other thing, by what is true of its one object (a def of one's own: mO a S n := HO.ext fun h => ..) -/
  | ext (φ:Heap→Prop)
abbrev Hp:=Addr→Option HO
def upd (H:Hp) (a:Addr) (o:HO):Hp:=fun b=>if b=a then some o else H b
theorem bh {H:Hp} {a:Addr} {o:HO}:upd H a o a=some o:=by unfold upd;rw [if_pos rfl]
theorem aL {H:Hp} {a b:Addr} {o:HO} (h:b≠a):upd H a o b=H b:=by unfold upd;rw [if_neg h]
theorem aY {H:Hp} {a b:Addr} {o:HO} (h:H a=some o) (h':H b=none):a≠b:=by
  intro e;subst e;rw [h] at h';cases h'
section
variable (P:Program) (w:World)
def d9 (H:Hp) (h:Heap) (a:Addr):HO→Prop
  | .lst xs=>xs.length≤sizeLine∧∃ (its:List Value) (n:Nat),Vals xs its∧h.get? a=some { cls:=.type "list",data:=.seq its.toArray n }
  | .tup xs=>xs.length≤sizeLine∧∃ its:List Value,Vals xs its∧IsTup h a its.toArray
  | .dK kvs=>kvs.length≤sizeLine∧(a == sysModules)=false∧∃ vs,KV kvs vs∧h.DictOf (uo P w) a vs
  | .dT kvs=>kvs.length≤sizeLine∧(a == sysModules)=false∧∃ xs:List (List Key × Addr × Value),
      Paired (fun (p:List Key × V) (q:List Key × Addr × Value)=>p.1=q.1∧H q.2.1=some (.tup (p.1.map kV))∧RelV p.2 q.2.2) kvs xs ∧
      ∃ o es ep,h.get? a=some o∧o.ExactDict∧o.data=.dict es ep∧es.toList=xs.map (entryOfKey (tupleKind (uo P w)))∧(xs.map (·.1)).Nodup
  | .set S n=>h.SetOf (intKind P w) a S n
  | .ins C dx fs=>H dx=some (.own a)∧fs.length≤1000∧dx≠a∧h.get? a=some (PySem.W.instObj C dx) ∧
      ∃ mA,h.Ns1 dx mA∧(∀ f,IV (fs.lookup f) (mA f))∧PySem.Within mA (fs.map (·.1))
  | .own _=>∃ o,h.get? a=some o
  | .xd fs=>∃ mA,h.Ns1 a mA∧∀ f,IV (fs.lookup f) (mA f)
  | .rng lo hi=>∃ t u v,h.get? a=some { cls:=.type "range",data:=.fields #[.int lo t,.int hi u,.int 1 v] }
  | .frz o u=>h.get? a=some o∧d9 H h a u
  | .tbl ps=>h.get? a=some { cls:=.none,data:=.fields ps }
  | .met f x=>h.get? a=some (PySem.W.methodObj (.ref f) (.ref x))
  | .ext φ=>φ h∧(∃ o,h.get? a=some o)∧∀ h1 h2:Heap,φ h1→(∀ o,h1.get? a=some o→h2.get? a=some o)→φ h2
def HOk (H:Hp) (h:Heap):Prop:=∀ a o,H a=some o→d9 P w H h a o
end
section
variable {P:Program} {w:World} {H H':Hp} {h h':Heap} {a:Addr} {o:HO}
theorem d9.lt (x:d9 P w H h a o):a<h.objs.size:=by
  cases o with
  | lst xs=>obtain ⟨_,_,_,_,e⟩:=x;exact Heap.lt_size e
  | tup xs=>obtain ⟨_,_,_,p⟩:=x;exact p.lt
  | dK kvs=>obtain ⟨_,_,_,_,o,_,_,e,_⟩:=x;exact Heap.lt_size e
  | dT kvs=>obtain ⟨_,_,_,_,o,_,_,e,_⟩:=x;exact Heap.lt_size e
  | set S n=>obtain ⟨o,_,_,_,e,_⟩:=x;exact Heap.lt_size e
  | ins C dx fs=>obtain ⟨_,_,_,e,_⟩:=x;exact Heap.lt_size e
  | own y=>obtain ⟨_,e⟩:=x;exact Heap.lt_size e
  | xd fs=>obtain ⟨_,⟨_,_,_,e,_⟩,_⟩:=x;exact Heap.lt_size e
  | rng lo hi=>obtain ⟨_,_,_,e⟩:=x;exact Heap.lt_size e
  | frz ob u=>obtain ⟨e,_⟩:=x;exact Heap.lt_size e
  | tbl ps=>exact Heap.lt_size (show h.get? a=some _ from x)
  | met f y=>exact Heap.lt_size (show h.get? a=some _ from x)
  | ext φ=>obtain ⟨_,⟨_,e⟩,_⟩:=x;exact Heap.lt_size e
theorem Paired.Js {α β:Type} {F G:α→β→Prop}:∀ {l₁:List α} {l₂:List β},Paired F l₁ l₂→(∀ a b,F a b→G a b)→Paired G l₁ l₂
  | _,_,.nil,_=>.nil
  | _,_,.cons r t,f=>.cons (f _ _ r) (Paired.Js t f)
theorem d9.stay (x:d9 P w H h a o) (k:∀ b u,(b=a∨H b=some (.own a))→h.get? b=some u→h'.get? b=some u)
    (ho:∀ b,H b=some (.own a)→H' b=some (.own a)) (ht:∀ b xs,H b=some (.tup xs)→H' b=some (.tup xs)):d9 P w H' h' a o:=by
  induction o with
  | lst xs=>obtain ⟨z,its,n,r,e⟩:=x;exact ⟨z,its,n,r,k _ _ (.inl rfl) e⟩
  | tup xs=>obtain ⟨z,its,r,ob,e,c⟩:=x;exact ⟨z,its,r,ob,k _ _ (.inl rfl) e,c⟩
  | dK kvs=>obtain ⟨z,y,vs,r,ob,es,ep,e,c⟩:=x;exact ⟨z,y,vs,r,ob,es,ep,k _ _ (.inl rfl) e,c⟩
  | dT kvs =>
    obtain ⟨z,y,xs,r,ob,es,ep,e,c⟩:=x
    exact ⟨z,y,xs,Paired.Js r fun p q z=>⟨z.1,ht _ _ z.2.1,z.2.2⟩,ob,es,ep,k _ _ (.inl rfl) e,c⟩
  | set S n=>obtain ⟨ob,es,ep,t,e,c⟩:=x;exact ⟨ob,es,ep,t,k _ _ (.inl rfl) e,c⟩
  | ins C dx fs =>
    obtain ⟨d,z,ne,e,mA,⟨od,es,ep,e2,c⟩,r⟩:=x
    exact ⟨ho _ d,z,ne,k _ _ (.inl rfl) e,mA,⟨od,es,ep,k _ _ (.inr d) e2,c⟩,r⟩
  | own y=>obtain ⟨ob,e⟩:=x;exact ⟨ob,k _ _ (.inl rfl) e⟩
  | xd fs=>obtain ⟨mA,⟨od,es,ep,e,c⟩,r⟩:=x;exact ⟨mA,⟨od,es,ep,k _ _ (.inl rfl) e,c⟩,r⟩
  | rng lo hi=>obtain ⟨t,u,v,e⟩:=x;exact ⟨t,u,v,k _ _ (.inl rfl) e⟩
  | frz ob u ih=>obtain ⟨e,q⟩:=x;exact ⟨k _ _ (.inl rfl) e,ih q⟩
  | tbl ps =>
    have e:h.get? a=some { cls:=.none,data:=.fields ps }:=x
    show h'.get? a=some { cls:=.none,data:=.fields ps }
    exact k a _ (.inl rfl) e
  | met f y =>
    have e:h.get? a=some (PySem.W.methodObj (.ref f) (.ref y)):=x
    show h'.get? a=some (PySem.W.methodObj (.ref f) (.ref y))
    exact k a _ (.inl rfl) e
  | ext φ=>obtain ⟨p,⟨o,e⟩,st⟩:=x;exact ⟨st _ _ p fun o q=>k _ _ (.inl rfl) q,⟨o,k _ _ (.inl rfl) e⟩,st⟩
theorem HOk.lt (x:HOk P w H h) (e:H a=some o):a<h.objs.size:=(x a o e).lt
theorem HOk.fresh (x:HOk P w H h) (e:h.objs.size≤a):H a=none:=by
  cases q:H a with
  | none=>rfl
  | some u=>exact absurd (Nat.lt_of_lt_of_le (x.lt q) e) (Nat.lt_irrefl _)
theorem HOk.kept (x:HOk P w H h) (k:∀ b u,h.get? b=some u→h'.get? b=some u):HOk P w H h':=fun a o e =>
  (x a o e).stay (fun b u _ q=>k b u q) (fun _ q=>q) fun _ _ q=>q
theorem HOk.laid (x:HOk P w H h) (k:∀ b u,h.get? b=some u→h'.get? b=some u) (hp:h.objs.size≤a) (new:d9 P w (upd H a o) h' a o):HOk P w (upd H a o) h':=fun b u e=>by
  have hn:=x.fresh hp
  by_cases hb:b=a
  · subst hb;rw [bh] at e;cases e;exact new
  · rw [aL hb] at e
    exact (x b u e).stay (fun c v _ q=>k c v q) (fun c q=>by rw [aL (aY q hn)];exact q) fun c xs q=>by rw [aL (aY q hn)];exact q
end
def Rd (H:Hp) (a:Addr) (u:HO):Prop:=H a=some u∨∃ o,H a=some (.frz o u)
theorem Rd.ok {P:Program} {w:World} {H:Hp} {h:Heap} {a:Addr} {u:HO} (r:Rd H a u) (x:HOk P w H h):d9 P w H h a u:=by
  rcases r with r | ⟨o,r⟩
  · exact x a u r
  · obtain ⟨_,q⟩:=x a _ r
    exact q
def Mut:Option HO→Prop
  | some (.lst _)=>True
  | some (.dK _)=>True
  | some (.dT _)=>True
  | some (.set _ _)=>True
  | some (.ins _ _ _)=>True
  | some (.ext _)=>True
  | _=>False
section
variable {P:Program} {w:World} {H:Hp} {h h':Heap} {x e:Addr} {o':HO}
theorem HOk.write (ok:HOk P w H h) (mu:Mut (H x)) (he:e=x∨H e=some (.own x)) (k:∀ b u,b≠e→h.get? b=some u→h'.get? b=some u) (heo:∃ u,h'.get? e=some u)
    (new:d9 P w (upd H x o') h' x o'):HOk P w (upd H x o') h':=fun b u q=>by
  have nown:∀ c y,H c=some (.own y)→c≠x:=fun c y r z=>by subst z;rw [r] at mu;exact mu
  have ntup:∀ c xs,H c=some (.tup xs)→c≠x:=fun c xs r z=>by subst z;rw [r] at mu;exact mu
  by_cases hb:b=x
  · subst hb;rw [bh] at q;cases q;exact new
  · rw [aL hb] at q
    by_cases hbe:b=e
    · have q':H b=some (.own x):=by
        rcases he with z | z
        · exact absurd (hbe.trans z) hb
        · rw [hbe];exact z
      rw [q] at q';cases q'
      obtain ⟨v,hv⟩:=heo
      exact ⟨v,by rw [hbe];exact hv⟩
    · refine (ok b u q).stay (fun c v hc r=>k c v ?_ r) (fun c r=>by rw [aL (nown c b r)];exact r) fun c xs r=>by rw [aL (ntup c xs r)];exact r
      rcases hc with rfl | hc
      · exact hbe
      · rintro rfl
        rcases he with z | z
        · exact nown c b hc z
        · rw [hc] at z;cases z;exact hb rfl
end
structure Un (fs ex:List Addr) (H H':Hp) (h h':Heap):Prop where
  keep:∀ b o,h.get? b=some o→H b=none→b ∉ fs→b ∉ ex→h'.get? b=some o
  slot:∀ b o,h.get? b=some o→H b=none→b∈fs→b ∉ ex→∃ sl,h'.get? b=some { o with slots:=sl }
  free:∀ b o,h.get? b=some o→H b=none→b ∉ ex→H' b=none
  there:∀ b o,h.get? b=some o→b ∉ ex→∃ o',h'.get? b=some o'
  tups:∀ b xs,H b=some (.tup xs)→H' b=some (.tup xs)
  frzs:∀ b o u,H b=some (.frz o u)→H' b=some (.frz o u)
  tbls:∀ b ps,H b=some (.tbl ps)→∃ more,H' b=some (.tbl (ps++more))
section
variable {fs fs' ex ex':List Addr} {H H1 H2:Hp} {h h1 h2 h':Heap} {a x e:Addr} {o:HO}
theorem Un.any (u:Un fs ex H H1 h h1) {b:Addr} {ob:Obj} (q:h.get? b=some ob) (n:H b=none) (hx:b ∉ ex):∃ sl,h1.get? b=some { ob with slots:=sl }:=by
  by_cases hb:b∈fs
  · exact u.slot b ob q n hb hx
  · exact ⟨ob.slots,u.keep b ob q n hb hx⟩
theorem Un.kept (k:∀ b u,h.get? b=some u→h'.get? b=some u):Un fs ex H H h h' :=
  ⟨fun b ob q _ _ _=>k b ob q,fun b ob q _ _ _=>⟨ob.slots,k b ob q⟩,fun _ _ _ n _=>n,fun b ob q _=>⟨ob,k b ob q⟩,fun _ _ q=>q,fun _ _ _ q=>q,fun _ ps q=>⟨#[],by rw [q];simp⟩⟩
theorem Un.refl:Un fs ex H H h h:=Un.kept fun _ _ q=>q
theorem Un.laid (k:∀ b u,h.get? b=some u→h'.get? b=some u) (hp:h.objs.size≤a) (hn:H a=none):Un fs ex H (upd H a o) h h' where
  keep:=fun b u q _ _ _=>k b u q
  slot:=fun b u q _ _ _=>⟨u.slots,k b u q⟩
  free:=fun b u q n _=>by rw [aL (Nat.ne_of_lt (Nat.lt_of_lt_of_le (Heap.lt_size q) hp))];exact n
  there:=fun b u q _=>⟨u,k b u q⟩
  tups:=fun b xs q=>by rw [aL (aY q hn)];exact q
  frzs:=fun b u xs q=>by rw [aL (aY q hn)];exact q
  tbls:=fun b ps q=>⟨#[],by rw [aL (aY q hn),q];simp⟩
theorem Un.write (mu:Mut (H x)) (he:e=x∨H e=some (.own x)) (k:∀ b u,b≠e→h.get? b=some u→h'.get? b=some u) (heo:∃ u,h'.get? e=some u):Un fs ex H (upd H x o) h h':=by
  have hx:∀ b,H b=none→b≠x:=fun b n z=>by subst z;rw [n] at mu;exact mu
  have hb:∀ b,H b=none→b≠e:=fun b n z=>by
    subst z
    rcases he with r | r
    · exact hx b n r
    · rw [n] at r;cases r
  have hm:∀ b u,H b=some u→¬ Mut (some u)→b≠x:=fun b u q nm z=>by subst z;rw [q] at mu;exact nm mu
  refine ⟨fun b u q n _ _=>k b u (hb b n) q,fun b u q n _ _=>⟨u.slots,k b u (hb b n) q⟩,fun b u q n _=>by rw [aL (hx b n)];exact n,fun b u q _=>?_,
    fun b xs q=>by rw [aL (hm b _ q fun z=>z)];exact q,fun b u xs q=>by rw [aL (hm b _ q fun z=>z)];exact q,fun b ps q=>⟨#[],by rw [aL (hm b _ q fun z=>z),q];simp⟩⟩
  by_cases hbe:b=e
  · subst hbe;exact heo
  · exact ⟨u,k b u hbe q⟩
end
def trk (h:Heap) (H:Hp):List Addr:=(List.range h.objs.size).filter fun a=>(H a).isSome
def vp (h:Heap) (H:Hp):Heap:=PySem.W.hideAll h (trk h H)
theorem uG (h:Heap) (H:Hp):(vp h H).objs.size=h.objs.size:=PySem.W.hideAll_size _ _
theorem wI {h:Heap} {H:Hp} {b:Addr} {o:Obj} (e:h.get? b=some o) (n:H b=none):(vp h H).get? b=some o :=
  PySem.W.hideAll_get _ e fun hm=>by
    have q:(H b).isSome=true:=(List.mem_filter.mp hm).2
    rw [n] at q;simp at q
theorem Av {h:Heap} {H:Hp} {b:Addr} {o:Obj} (e:(vp h H).get? b=some o):h.get? b=some o∧H b=none:=by
  have e':h.get? b=some o:=PySem.W.of_hideAll (trk h H) e
  refine ⟨e',?_⟩
  cases q:H b with
  | none=>rfl
  | some x =>
    have hm:b∈trk h H:=List.mem_filter.mpr ⟨List.mem_range.mpr (Heap.lt_size e'),by simp [q]⟩
    have z:(vp h H).get? b=none:=PySem.W.hideAll_none (trk h H) hm
    rw [z] at e;cases e
end L2
namespace L2
open PySem PySem.Spec PyProof.Rows
structure Mod (K:PySem.W.Frag) (mg:Str→Option Value) (base:Heap):Prop where
  kin:K.In base
  glob:base.Ns mainGlobals mg
  blt:∃ mb,base.Ns builtinsNs mb∧∀ x:Str,x≠"__name__"→mb x=bootBuiltins x
  nolimit:base.NoLimit
structure Cx where
  prog:Program
  w:World
  K:PySem.W.Frag
  mg:Str→Option Value
  base:Heap
  A:Around
  N:List Str
  s₀:Shared
  H₀:Hp
  env:Env
  outer:List Env
  stack:List Env
  ex:List Addr
  fn:Str→Bool
  calm:Bool
  pn:List (Addr × Obj)
  xe:Value→Shared→Prop
def frs (l:List Env):List Addr:=l.filterMap (·.frame)
abbrev Cx.fs (X:Cx):List Addr:=frs X.outer
def Vis (sc:Scope) (x:Str):Prop:=sc.names.lookup x=some .local∨sc.names.lookup x=some .cell∨sc.names.lookup x=some .free
def Loc (sc:Scope) (x:Str):Prop:=sc.names.lookup x=some .local∨sc.names.lookup x=some .cell
def Look (env:Env) (h:Heap) (m:Str→Option Value) (x:Str) (u:Value):Prop :=
  (env.kindOf x=some .local∧m x=some u)∨((env.kindOf x=some .cell∨env.kindOf x=some .free)∧∃ c,env.cells.lookup x=some c∧h.IsCell c (some u))
structure Cx.Ok (X:Cx):Prop where
  mod:Mod X.K X.mg X.base
  kind:X.env.scope.kind=.function
  glob:X.env.globals=mainGlobals
  blt:X.env.builtins=builtinsNs
  above:X.s₀.heap.objs.size≤X.env.locals
  inj:∀ x y c,X.env.cells.lookup x=some c→X.env.cells.lookup y=some c→x=y
  has:∀ x,(X.env.kindOf x=some .cell∨X.env.kindOf x=some .free)→∃ c,X.env.cells.lookup x=some c
  cab:∀ x c,X.fn x=true→X.env.cells.lookup x=some c→X.s₀.heap.objs.size≤c
  hd:X.calm=true→X.A.handled=none
  frames:X.A.frames=some X.stack
  stk:X.stack=X.outer∨(X.stack=X.env :: X.outer∧X.env.frame=some X.env.locals)
  exf:∀ b∈X.ex,b≠X.env.locals∧∀ x c,X.env.cells.lookup x=some c→c≠b
  bs:∀ b o,X.base.get? b=some o→X.s₀.heap.get? b=some o∧X.H₀ b=none
  bsz:X.base.objs.size≤X.s₀.heap.objs.size
  noex:∀ b o,X.base.get? b=some o→b ∉ X.ex
  exfs:∀ b∈X.ex,b ∉ X.fs
  uH:X.s₀.heap.FunFrames X.base X.outer
  frf:∀ b∈X.fs,X.H₀ b=none
structure Inv (X:Cx) (pins:List (Addr × Obj)) (σ:List (Option V)) (H:Hp) (s:Shared):Prop where
  ok:X.Ok
  os:s.os=X.s₀.os
  bare:AllBare s.gens
  base:Un X.fs X.ex X.H₀ H X.s₀.heap s.heap
  loc:∃ m,s.heap.Ns X.env.locals m∧∀ (i:Nat) (x:Str) (v:V),X.N[i]?=some x→σ[i]?=some (some v)→Vis X.env.scope x→∃ u,RelV v u∧Look X.env s.heap m x u
  cell:∀ x c,X.env.cells.lookup x=some c→∃ v,s.heap.IsCell c v
  free:H X.env.locals=none
  freeC:∀ x c,X.env.cells.lookup x=some c→H c=none
  pin:∀ p∈X.pn++pins,s.heap.get? p.1=some p.2∧H p.1=none∧p.1≠X.env.locals∧p.1 ∉ X.fs∧∀ v,p.2.data≠.cell v
  hok:HOk X.prog X.w H s.heap
  len:σ.length=X.N.length
section
variable {X:Cx} {pins:List (Addr × Obj)} {σ:List (Option V)} {H H':Hp} {s:Shared} {h':Heap}
theorem Cx.Ok.nofr (ok:X.Ok) {b:Addr} {o:Obj} (e:X.base.get? b=some o):b ∉ X.fs:=fun hb=>by
  have:=(ok.uH.mem hb).1
  rw [e] at this;cases this
theorem Inv.bs (I:Inv X pins σ H s):∀ b o,X.base.get? b=some o→s.heap.get? b=some o∧H b=none:=fun b o e =>
  ⟨I.base.keep b o (I.ok.bs b o e).1 (I.ok.bs b o e).2 (I.ok.nofr e) (I.ok.noex b o e),I.base.free b o (I.ok.bs b o e).1 (I.ok.bs b o e).2 (I.ok.noex b o e)⟩
theorem Inv.bk (I:Inv X pins σ H s):∀ b o,X.base.get? b=some o→s.heap.get? b=some o:=fun b o e=>(I.bs b o e).1
theorem Inv.mod (I:Inv X pins σ H s):Mod X.K X.mg X.base:=I.ok.mod
theorem Inv.kIn (I:Inv X pins σ H s):X.K.In s.heap:=I.ok.mod.kin.keeps I.bk
theorem Inv.nolimit (I:Inv X pins σ H s):s.heap.NoLimit:=I.ok.mod.nolimit.keeps I.bk
theorem Inv.lt (I:Inv X pins σ H s):X.env.locals<s.heap.objs.size:=let ⟨_,hn,_⟩:=I.loc;hn.lt
theorem Inv.sz (I:Inv X pins σ H s):X.s₀.heap.objs.size≤s.heap.objs.size:=Nat.le_trans I.ok.above (Nat.le_of_lt I.lt)
theorem Inv.nofs (I:Inv X pins σ H s) {a:Addr} (h:s.heap.objs.size≤a):a ∉ X.fs:=fun hb=>by
  obtain ⟨_,o,ho,_⟩:=I.ok.uH.mem hb
  exact absurd (Nat.lt_of_lt_of_le (Heap.lt_size ho) (Nat.le_trans I.sz h)) (Nat.lt_irrefl _)
theorem Inv.cne (I:Inv X pins σ H s):∀ x c,X.env.cells.lookup x=some c→c≠X.env.locals:=fun x c e z=>by
  obtain ⟨v,o,ho,hd⟩:=I.cell x c e
  obtain ⟨m,⟨o',es,ep,ho',hd',_⟩,_⟩:=I.loc
  rw [z,ho'] at ho;cases ho;rw [hd'] at hd;cases hd
theorem Inv.uH (I:Inv X pins σ H s):s.heap.FunFrames X.base X.outer:=by
  have all:∀ (l:List Env),(∀ b∈frs l,b∈X.fs)→X.s₀.heap.FunFrames X.base l→s.heap.FunFrames X.base l:=by
    intro l
    induction l with
    | nil=>intro _ _;trivial
    | cons env r ih =>
      intro hs hl
      obtain ⟨hk,⟨L,o,hf,hn,ho,hd⟩,hr⟩:=hl
      have hL:L∈X.fs:=hs L (by unfold frs;rw [List.filterMap_cons,hf];exact List.mem_cons_self)
      obtain ⟨sl,e⟩:=I.base.slot L o ho (I.ok.frf L hL) hL fun z=>I.ok.exfs L z hL
      exact ⟨hk,⟨L,_,hf,hn,e,hd⟩,ih (fun b hb=>hs b (by unfold frs;rw [List.filterMap_cons,hf];exact List.mem_cons_of_mem _ hb)) hr⟩
  exact all X.outer (fun _ hb=>hb) I.ok.uH
theorem Inv.stack (I:Inv X pins σ H s):s.heap.FunFrames X.base X.stack:=by
  rcases I.ok.stk with e | ⟨e,hf⟩
  · rw [e];exact I.uH
  · rw [e]
    obtain ⟨m,hn,_⟩:=I.loc
    refine .cons (by rw [I.ok.kind];decide) hf hn ?_ I.uH
    exact Heap.get?_none_of_le (Nat.le_trans I.ok.bsz I.ok.above)
theorem Inv.sH (I:Inv X pins σ H s):∀ b∈frs X.stack,b∈X.env.locals :: X.fs:=fun b hb=>by
  rcases I.ok.stk with e | ⟨e,hf⟩
  · rw [e] at hb;exact List.mem_cons_of_mem _ hb
  · rw [e] at hb
    unfold frs at hb
    rw [List.filterMap_cons,hf] at hb
    exact hb
theorem Inv.oV (I:Inv X pins σ H s):∀ b∈frs X.stack,H b=none:=fun b hb=>by
  rcases List.mem_cons.mp (I.sH b hb) with e | hb
  · rw [e];exact I.free
  · obtain ⟨_,o,ho,_⟩:=I.ok.uH.mem hb
    exact I.base.free b o ho (I.ok.frf b hb) fun z=>I.ok.exfs b z hb
theorem Inv.step {g':Array GenState} {t':Nat} {d':Drawn} {ch:List Addr} (I:Inv X pins σ H s)
    (hch:∀ b∈ch,(b∈X.ex∨X.s₀.heap.objs.size≤b)∧b≠X.env.locals∧(∀ x c,X.env.cells.lookup x=some c→c≠b)∧∀ p∈X.pn++pins,p.1≠b)
    (keep:∀ b o,b≠X.env.locals→b ∉ X.fs→b ∉ ch→s.heap.get? b=some o→H b=none→h'.get? b=some o)
    (slot:∀ b o,b≠X.env.locals→b∈X.fs→b ∉ ch→s.heap.get? b=some o→H b=none→∃ sl,h'.get? b=some { o with slots:=sl }) (free:∀ b o,b ∉ ch→s.heap.get? b=some o→H b=none→H' b=none)
    (there:∀ b o,b ∉ ch→s.heap.get? b=some o→∃ o',h'.get? b=some o')
    (tups:∀ b xs,H b=some (.tup xs)→H' b=some (.tup xs)) (frzs:∀ b o u,H b=some (.frz o u)→H' b=some (.frz o u)) (tbls:∀ b ps,H b=some (.tbl ps)→∃ more,H' b=some (.tbl (ps++more)))
    (ns:∀ m,s.heap.Ns X.env.locals m→h'.Ns X.env.locals m) (hok:HOk X.prog X.w H' h') (hg:AllBare g') :
    Inv X pins σ H' { s with heap:=h',gens:=g',drawn:=d',toks:=t' }:=by
  have neL:∀ b o,X.s₀.heap.get? b=some o→b≠X.env.locals:=fun b o e=>Nat.ne_of_lt (Nat.lt_of_lt_of_le (Heap.lt_size e) I.ok.above)
  have neC:∀ b o,X.s₀.heap.get? b=some o→b ∉ X.ex→b ∉ ch:=fun b o e hx hb=>by
    rcases (hch b hb).1 with z | z
    · exact hx z
    · exact absurd (Nat.lt_of_lt_of_le (Heap.lt_size e) z) (Nat.lt_irrefl _)
  have cellK:∀ x c,X.env.cells.lookup x=some c→∀ v,s.heap.IsCell c v→h'.IsCell c v:=fun x c e v ⟨o,ho,hd⟩=>by
    have nch:c ∉ ch:=fun z=>(hch c z).2.2.1 x c e rfl
    by_cases hc:c∈X.fs
    · obtain ⟨sl,q⟩:=slot c o (I.cne x c e) hc nch ho (I.freeC x c e)
      exact ⟨_,q,hd⟩
    · exact ⟨o,keep c o (I.cne x c e) hc nch ho (I.freeC x c e),hd⟩
  refine ⟨I.ok,I.os,hg,⟨fun b o e n hb hx=>?_,fun b o e n hb hx=>?_,fun b o e n hx=>?_,fun b o e hx=>?_,fun b xs e=>tups b xs (I.base.tups b xs e),fun b o xs e=>frzs b o xs (I.base.frzs b o xs e),fun b ps e=>?_⟩,?_,fun x c e=>?_,?_,fun x c e=>?_,fun p hp=>?_,hok,I.len⟩
  · exact keep b o (neL b o e) hb (neC b o e hx) (I.base.keep b o e n hb hx) (I.base.free b o e n hx)
  · obtain ⟨sl,e1⟩:=I.base.slot b o e n hb hx
    obtain ⟨sl',e2⟩:=slot b _ (neL b o e) hb (neC b o e hx) e1 (I.base.free b o e n hx)
    exact ⟨sl',e2⟩
  · obtain ⟨o',e1⟩:=I.base.there b o e hx
    exact free b o' (neC b o e hx) e1 (I.base.free b o e n hx)
  · obtain ⟨o',e1⟩:=I.base.there b o e hx
    exact there b o' (neC b o e hx) e1
  · obtain ⟨m1,e1⟩:=I.base.tbls b ps e
    obtain ⟨m2,e2⟩:=tbls b _ e1
    exact ⟨m1++m2,by rw [e2,Array.append_assoc]⟩
  · obtain ⟨m,hn,hl⟩:=I.loc
    refine ⟨m,ns m hn,fun i x v e1 e2 e3=>?_⟩
    obtain ⟨u,r,l⟩:=hl i x v e1 e2 e3
    refine ⟨u,r,?_⟩
    rcases l with l | ⟨k,c,e,z⟩
    · exact .inl l
    · exact .inr ⟨k,c,e,cellK x c e _ z⟩
  · obtain ⟨v,z⟩:=I.cell x c e
    exact ⟨v,cellK x c e v z⟩
  · obtain ⟨m,⟨o,_,_,ho,_⟩,_⟩:=I.loc
    exact free _ o (fun z=>(hch _ z).2.1 rfl) ho I.free
  · obtain ⟨v,o,ho,hd⟩:=I.cell x c e
    exact free c o (fun z=>(hch c z).2.2.1 x c e rfl) ho (I.freeC x c e)
  · obtain ⟨e,n,ne,nf,d⟩:=I.pin p hp
    have nch:p.1 ∉ ch:=fun z=>(hch p.1 z).2.2.2 p hp rfl
    exact ⟨keep p.1 p.2 ne nf nch e n,free p.1 p.2 nch e n,ne,nf,d⟩
theorem Inv.un {t':Nat} (I:Inv X pins σ H s) (u:Un X.fs [] H H' s.heap h') (hok:HOk X.prog X.w H' h'):Inv X pins σ H' { s with heap:=h',toks:=t' }:=by
  obtain ⟨m,⟨o,es,ep,ho,r⟩,_⟩:=id I.loc
  obtain ⟨sl,hL⟩:=u.any ho I.free (by simp)
  exact I.step (g':=s.gens) (d':=s.drawn) (ch:=[]) (fun _ z=>nomatch z) (fun b o _ hb _ e n=>u.keep b o e n hb (by simp)) (fun b o _ hb _ e n=>u.slot b o e n hb (by simp)) (fun b o _ e n=>u.free b o e n (by simp)) (fun b o _ e=>u.there b o e (by simp)) u.tups u.frzs u.tbls (fun m' hm=>by
    obtain ⟨o',es',ep',ho',r'⟩:=hm
    rw [ho] at ho';cases ho'
    exact ⟨_,es',ep',hL,r'⟩) hok I.bare
theorem Inv.call {g':Array GenState} {t':Nat} {d':Drawn} {ch:List Addr} (I:Inv X pins σ H s) (u:Un (frs X.stack) ch H H' s.heap h') (hok:HOk X.prog X.w H' h') (hg:AllBare g')
    (hch:∀ b∈ch,(b∈X.ex∨X.s₀.heap.objs.size≤b)∧b≠X.env.locals∧(∀ x c,X.env.cells.lookup x=some c→c≠b)∧∀ p∈X.pn++pins,p.1≠b) :
    Inv X pins σ H' { s with heap:=h',gens:=g',drawn:=d',toks:=t' }:=by
  obtain ⟨m,⟨o,es,ep,ho,r⟩,_⟩:=id I.loc
  obtain ⟨sl,hL⟩:=u.any ho I.free fun z=>(hch _ z).2.1 rfl
  exact I.step (ch:=ch) hch (fun b o hL hb hc e n=>u.keep b o e n (fun z=>(List.mem_cons.mp (I.sH b z)).elim hL hb) hc) (fun b o _ _ hc e n=>u.any e n hc) (fun b o hc e n=>u.free b o e n hc) (fun b o hc e=>u.there b o e hc) u.tups u.frzs u.tbls (fun m' hm=>by
    obtain ⟨o',es',ep',ho',r'⟩:=hm
    rw [ho] at ho';cases ho'
    exact ⟨_,es',ep',hL,r'⟩) hok hg
theorem Inv.turned {t':Nat} {it:Addr} (I:Inv X pins σ H s) (k:∀ b o,b≠it→s.heap.get? b=some o→h'.get? b=some o) (hn:H it=none) (hL:it≠X.env.locals)
    (h1:it∈X.ex∨X.s₀.heap.objs.size≤it) (h2:∀ x c,X.env.cells.lookup x=some c→c≠it) (h3:∀ p∈X.pn++pins,p.1≠it):Inv X pins σ H { s with heap:=h',toks:=t' }:=by
  have nit:∀ b u,H b=some u→b≠it:=fun b u e z=>by rw [z,hn] at e;cases e
  refine I.step (g':=s.gens) (d':=s.drawn) (ch:=[it]) (fun b hb=>?_) (fun b o _ _ hc e _=>k b o (fun z=>hc (by simp [z])) e) (fun b o _ _ hc e _=>⟨o.slots,k b o (fun z=>hc (by simp [z])) e⟩) (fun _ _ _ _ n=>n)
    (fun b o hc e=>⟨o,k b o (fun z=>hc (by simp [z])) e⟩) (fun _ _ e=>e) (fun _ _ _ e=>e) (fun b ps e=>⟨#[],by rw [e];simp⟩) (fun m hm=>?_) (fun b u e=>?_) I.bare
  · have e:b=it:=by simpa using hb
    subst e
    exact ⟨h1,hL,h2,h3⟩
  · obtain ⟨o,es,ep,ho,r⟩:=hm
    exact ⟨o,es,ep,k _ o (Ne.symm hL) ho,r⟩
  · refine (I.hok b u e).stay (fun c v hc q=>k c v ?_ q) (fun _ q=>q) fun _ _ q=>q
    rcases hc with z | z
    · rw [z];exact nit b u e
    · exact nit c _ z
theorem Inv.tok (I:Inv X pins σ H s) (t:Nat):Inv X pins σ H { s with toks:=t }:=I.un (h':=s.heap) (t':=t) Un.refl I.hok
theorem Inv.kept {t':Nat} (I:Inv X pins σ H s) (k:∀ b u,s.heap.get? b=some u→h'.get? b=some u):Inv X pins σ H { s with heap:=h',toks:=t' }:=I.un (Un.kept k) (I.hok.kept k)
theorem Inv.laid {a:Addr} {o:HO} {t':Nat} (I:Inv X pins σ H s) (k:∀ b u,s.heap.get? b=some u→h'.get? b=some u) (hp:s.heap.objs.size≤a) (new:d9 X.prog X.w (upd H a o) h' a o) :
    Inv X pins σ (upd H a o) { s with heap:=h',toks:=t' }:=I.un (Un.laid k hp (I.hok.fresh hp)) (I.hok.laid k hp new)
theorem Inv.write {x e:Addr} {o:HO} {t':Nat} (I:Inv X pins σ H s) (mu:Mut (H x)) (he:e=x∨H e=some (.own x)) (k:∀ b u,b≠e→s.heap.get? b=some u→h'.get? b=some u) (heo:∃ u,h'.get? e=some u)
    (new:d9 X.prog X.w (upd H x o) h' x o):Inv X pins σ (upd H x o) { s with heap:=h',toks:=t' }:=I.un (Un.write mu he k heo) (I.hok.write mu he k heo new)
theorem Inv.oX {pins':List (Addr × Obj)} (I:Inv X pins σ H s) (h:∀ p∈pins',s.heap.get? p.1=some p.2∧H p.1=none∧p.1≠X.env.locals∧p.1 ∉ X.fs∧∀ v,p.2.data≠.cell v):Inv X pins' σ H s :=
  ⟨I.ok,I.os,I.bare,I.base,I.loc,I.cell,I.free,I.freeC,fun p hp=>(List.mem_append.mp hp).elim (fun z=>I.pin p (List.mem_append_left _ z)) (h p),I.hok,I.len⟩
theorem qj {N:List Str} (hN:N.Nodup) {i j:Nat} {x:Str} (a:N[i]?=some x) (b:N[j]?=some x):i=j:=by
  obtain ⟨h1,e1⟩:=List.getElem?_eq_some_iff.mp a
  obtain ⟨h2,e2⟩:=List.getElem?_eq_some_iff.mp b
  exact (List.getElem_inj hN).mp (e1.trans e2.symm)
theorem mX {M:Model} {A:Around} {E:Value→Shared→Prop} {i:Nat} {x:Str} {v:V} {u:Value} {Q:Unit→Shared→Prop} (I:Inv X pins σ H s) (hN:X.N.Nodup) (hi:X.N[i]?=some x) (hx:Loc X.env.scope x) (r:RelV v u)
    (h:∀ s',Inv X pins (σ.set i (some v)) H s'→(∃ a,Heap.SameBut a s.heap s'.heap∧(a=X.env.locals∨X.env.cells.lookup x=some a))→Q () s') (hf:X.fn x=true∨X.env.scope.names.lookup x=some .local:=by first | exact .inl rfl | exact .inr rfl | assumption):wpAny M A (storeName X.env x u) Q E s:=by
  obtain ⟨m,hn,hl⟩:=id I.loc
  have hcls:(X.env.scope.kind == .class || (X.env.scope.kind == .module && X.env.locals != X.env.globals))=false:=by rw [I.ok.kind];rfl
  have hiσ:i<σ.length:=by rw [I.len];exact (List.getElem?_eq_some_iff.mp hi).1
  have cne:=I.cne
  have tracked:∀ {a:Addr} {h':Heap},(∃ o,s.heap.get? a=some o∧H a=none)→Heap.SameBut a s.heap h'→HOk X.prog X.w H h':=fun {a h'} ha hs b ob e=>by
    obtain ⟨_,_,hfree⟩:=ha
    refine (I.hok b ob e).stay (fun c w' hc q=>(hs.2 c ?_).trans q) (fun _ q=>q) fun _ _ q=>q
    rintro rfl
    rcases hc with rfl | hc
    · rw [hfree] at e;cases e
    · rw [hfree] at hc;cases hc
  rcases hx with hk | hk
  · refine wpAny_storeName_local hk hn (fun h' hn' hs=>?_) hcls
    obtain ⟨oL,_,_,hoL,_⟩:=id hn
    refine h _ ⟨I.ok,I.os,I.bare,⟨fun b o e n hb hx=>?_,fun b o e n hb hx=>?_,I.base.free,fun b o e hx=>?_,I.base.tups,I.base.frzs,I.base.tbls⟩,⟨_,hn',fun j y v' e1 e2 e3=>?_⟩,fun y c e=>?_,I.free,I.freeC,fun p hp=>?_,tracked ⟨oL,hoL,I.free⟩ hs,by simpa using I.len⟩ ⟨_,hs,.inl rfl⟩
    · exact (hs.2 b (Nat.ne_of_lt (Nat.lt_of_lt_of_le (Heap.lt_size e) I.ok.above))).trans (I.base.keep b o e n hb hx)
    · obtain ⟨sl,e1⟩:=I.base.slot b o e n hb hx
      exact ⟨sl,(hs.2 b (Nat.ne_of_lt (Nat.lt_of_lt_of_le (Heap.lt_size e) I.ok.above))).trans e1⟩
    · obtain ⟨o',e1⟩:=I.base.there b o e hx
      exact ⟨o',(hs.2 b (Nat.ne_of_lt (Nat.lt_of_lt_of_le (Heap.lt_size e) I.ok.above))).trans e1⟩
    · by_cases hj:j=i
      · subst hj
        rw [hi] at e1;cases e1
        rw [List.getElem?_set_self hiσ] at e2
        cases e2
        exact ⟨u,r,.inl ⟨hk,by simp⟩⟩
      · rw [List.getElem?_set_ne (Ne.symm hj)] at e2
        obtain ⟨u',r',q⟩:=hl j y v' e1 e2 e3
        refine ⟨u',r',?_⟩
        rcases q with ⟨k,e⟩ | ⟨k,c,e,z⟩
        · refine .inl ⟨k,?_⟩
          have:y≠x:=fun e=>hj (qj hN e1 (e ▸ hi))
          simp [this,e]
        · exact .inr ⟨k,c,e,z.sameBut hs (cne y c e)⟩
    · obtain ⟨w',z⟩:=I.cell y c e
      exact ⟨w',z.sameBut hs (cne y c e)⟩
    · obtain ⟨e,n,ne,nf,d⟩:=I.pin p hp
      exact ⟨(hs.2 p.1 ne).trans e,n,ne,nf,d⟩
  · have hfn:X.fn x=true:=by
      rcases hf with z | z
      · exact z
      · rw [z] at hk;cases hk
    obtain ⟨c,hc⟩:=I.ok.has x (.inl hk)
    obtain ⟨w',z⟩:=I.cell x c hc
    refine wpAny_storeName_cell I.ok.kind hk hc z (fun h' hc' hs=>?_)
    obtain ⟨oc,hoc,hocd⟩:=id z
    refine h { s with heap:=h' } ⟨I.ok,I.os,I.bare,⟨fun b o e n hb hx=>?_,fun b o e n hb hx=>?_,I.base.free,fun b o e hx=>?_,I.base.tups,I.base.frzs,I.base.tbls⟩,⟨m,hn.sameBut hs (Ne.symm (cne x c hc)),fun j y v' e1 e2 e3=>?_⟩,fun y c' e=>?_,I.free,I.freeC,fun p hp=>?_,tracked ⟨oc,hoc,I.freeC x c hc⟩ hs,by simpa using I.len⟩ ⟨c,hs,.inr hc⟩
    · exact (hs.2 b (Nat.ne_of_lt (Nat.lt_of_lt_of_le (Heap.lt_size e) (I.ok.cab x c hfn hc)))).trans (I.base.keep b o e n hb hx)
    · obtain ⟨sl,e1⟩:=I.base.slot b o e n hb hx
      exact ⟨sl,(hs.2 b (Nat.ne_of_lt (Nat.lt_of_lt_of_le (Heap.lt_size e) (I.ok.cab x c hfn hc)))).trans e1⟩
    · obtain ⟨o',e1⟩:=I.base.there b o e hx
      exact ⟨o',(hs.2 b (Nat.ne_of_lt (Nat.lt_of_lt_of_le (Heap.lt_size e) (I.ok.cab x c hfn hc)))).trans e1⟩
    · by_cases hj:j=i
      · subst hj
        rw [hi] at e1;cases e1
        rw [List.getElem?_set_self hiσ] at e2
        cases e2
        exact ⟨u,r,.inr ⟨.inl hk,c,hc,hc'⟩⟩
      · rw [List.getElem?_set_ne (Ne.symm hj)] at e2
        obtain ⟨u',r',q⟩:=hl j y v' e1 e2 e3
        refine ⟨u',r',?_⟩
        rcases q with q | ⟨k,c',e,z'⟩
        · exact .inl q
        · refine .inr ⟨k,c',e,z'.sameBut hs ?_⟩
          rintro rfl
          exact hj (qj hN e1 (I.ok.inj _ _ _ e hc ▸ hi))
    · by_cases hcc:c'=c
      · subst hcc;exact ⟨_,hc'⟩
      · obtain ⟨w2,z2⟩:=I.cell y c' e
        exact ⟨w2,z2.sameBut hs hcc⟩
    · obtain ⟨e,n,ne,nf,d⟩:=I.pin p hp
      refine ⟨(hs.2 p.1 ?_).trans e,n,ne,nf,d⟩
      intro q
      rw [q,hoc] at e
      have q':oc=p.2:=Option.some.inj e
      exact d w' (by rw [← q'];exact hocd)
theorem pO {M:Model} {A:Around} {E:Value→Shared→Prop} {i:Nat} {x:Str} {v:V} {u:Value} {Q:Unit→Shared→Prop} (I:Inv X pins σ H s) (hN:X.N.Nodup) (hi:X.N[i]?=some x) (hx:Loc X.env.scope x) (r:RelV v u)
    (h:∀ s',Inv X pins (σ.set i (some v)) H s'→Q () s') (hf:X.fn x=true∨X.env.scope.names.lookup x=some .local:=by first | exact .inl rfl | exact .inr rfl | assumption):wpAny M A (storeName X.env x u) Q E s :=
  mX I hN hi hx r (fun s' I' _=>h s' I') hf
theorem Inv.call' {s':Shared} {ch:List Addr} (I:Inv X pins σ H s) (ho:s'.os=s.os) (u:Un (frs X.stack) ch H H' s.heap s'.heap) (hok:HOk X.prog X.w H' s'.heap) (hg:AllBare s'.gens)
    (hch:∀ b∈ch,(b∈X.ex∨X.s₀.heap.objs.size≤b)∧b≠X.env.locals∧(∀ x c,X.env.cells.lookup x=some c→c≠b)∧∀ p∈X.pn++pins,p.1≠b):Inv X pins σ H' s':=by
  obtain ⟨h',g',d',t',o'⟩:=s'
  have e:o'=s.os:=ho
  subst e
  exact I.call (g':=g') (t':=t') (d':=d') u hok hg hch
end
abbrev XK:=Value→Option Addr→Hp→Prop
abbrev St:=List (Option V)
abbrev VK:=V→Hp→Prop
abbrev TE:=St→Hp→VK→Prop
abbrev TT:=St→Hp→(Bool→Hp→Prop)→Prop
abbrev TA:=St→Hp→(List V→Hp→Prop)→Prop
structure Ends where
  nx:St→Hp→Prop
  rt:VK
  bk:St→Hp→Prop:=fun _ _=>False
  ct:St→Hp→Prop:=fun _ _=>False
abbrev TS:=Ends→St→Hp→Prop
def EP (X:Cx) (pins:List (Addr × Obj)) (σ:St) (Q:VK) (u:Value) (s':Shared):Prop:=∃ v H',Inv X pins σ H' s'∧RelV v u∧Q v H'
def TP (X:Cx) (pins:List (Addr × Obj)) (σ:St) (Q:Bool→Hp→Prop) (b:Bool) (s':Shared):Prop:=∃ H',Inv X pins σ H' s'∧Q b H'
def AP (X:Cx) (pins:List (Addr × Obj)) (σ:St) (Q:List V→Hp→Prop) (us:List Value) (s':Shared):Prop:=∃ vs H',Inv X pins σ H' s'∧Vals vs us∧Q vs H'
def SP (X:Cx) (pins:List (Addr × Obj)) (D:Ends) (f:Flow) (s':Shared):Prop :=
  match f with
  | .next=>∃ σ' H',Inv X pins σ' H' s'∧D.nx σ' H'
  | .brk=>∃ σ' H',Inv X pins σ' H' s'∧D.bk σ' H'
  | .cont=>∃ σ' H',Inv X pins σ' H' s'∧D.ct σ' H'
  | .ret u=>∃ v σ' H',Inv X pins σ' H' s'∧RelV v u∧D.rt v H'
def PE (X:Cx) (e:Expr) (t:TE):Prop :=
  ∀ (pins:List (Addr × Obj)) (s:Shared) (σ:St) (H:Hp) (Q:VK),Inv X pins σ H s→t σ H Q→wpAny (model X.prog X.w) X.A (eval e X.env) (EP X pins σ Q) X.xe s
def PT (X:Cx) (e:Expr) (t:TT):Prop :=
  ∀ (pins:List (Addr × Obj)) (s:Shared) (σ:St) (H:Hp) (Q:Bool→Hp→Prop),Inv X pins σ H s→t σ H Q→wpAny (model X.prog X.w) X.A (isTrue e X.env (eval e X.env)) (TP X pins σ Q) X.xe s
def PW (X:Cx) (e:Expr) (t:TT):Prop :=
  ∀ (whole:Sem Value) (pins:List (Addr × Obj)) (s:Shared) (σ:St) (H:Hp) (Q:Bool→Hp→Prop),Inv X pins σ H s→t σ H Q→wpAny (model X.prog X.w) X.A (isTrue e X.env whole) (TP X pins σ Q) X.xe s
theorem PW.pt {X:Cx} {e:Expr} {t:TT} (h:PW X e t):PT X e t:=h _
def PA (X:Cx) (es:List Expr) (t:TA):Prop :=
  ∀ (pos:Pos) (pins:List (Addr × Obj)) (s:Shared) (σ:St) (H:Hp) (Q:List V→Hp→Prop),Inv X pins σ H s→t σ H Q→wpAny (model X.prog X.w) X.A (spliced (backTo pos (starEach es X.env))) (AP X pins σ Q) X.xe s
def PS (X:Cx) (st:Stmt) (t:TS):Prop :=
  ∀ (pins:List (Addr × Obj)) (s:Shared) (σ:St) (H:Hp) (D:Ends),Inv X pins σ H s→t D σ H→wpAny (model X.prog X.w) X.A (exec st X.env) (SP X pins D) X.xe s
def PSs (X:Cx) (st:List Stmt) (t:TS):Prop :=
  ∀ (pins:List (Addr × Obj)) (s:Shared) (σ:St) (H:Hp) (D:Ends),Inv X pins σ H s→t D σ H→wpAny (model X.prog X.w) X.A (execs st X.env) (SP X pins D) X.xe s
theorem thn {α:Type} {t:Sem α} {Q Q':α→Shared→Prop} {M:Model} {A:Around} {E:Value→Shared→Prop} {s:Shared} (h:wpAny M A t Q E s) (hQ:∀ a s,Q a s→Q' a s):wpAny M A t Q' E s:=wpAny_mono h hQ fun _ _ x=>x
end L2
namespace L2
open PySem PySem.Spec PyProof.Rows
section
variable {X:Cx}
def Je (i:Nat):TE:=fun σ H Q=>∃ v,σ[i]?=some (some v)∧Q v H
def tC (v:V):TE:=fun _ H Q=>Q v H
theorem BL {i:Nat} {x:Str} {pos:Pos} (hN:X.N[i]?=some x) (hv:Vis X.env.scope x) (hd:(x == ("__debug__":Str))=false:=by decide) (hcd:(x == ("__classdict__":Str))=false:=by decide):PE X (.Name x pos) (Je i):=by
  intro pins s σ H Q I h
  obtain ⟨v,e,h⟩:=h
  obtain ⟨m,hn,hl⟩:=I.loc
  obtain ⟨u,r,l⟩:=hl i x v hN e hv
  have fin:EP X pins σ Q u s:=⟨v,H,I,r,h⟩
  rcases l with ⟨hk,hm⟩ | ⟨hk,c,hc,hcell⟩
  · exact wpAny_Name (wpAny_loadName_local I.ok.kind hk hn hm fin) hd
  · rcases hk with hk | hk
    · exact wpAny_Name (wpAny_loadName_cell I.ok.kind hk hc hcell fin) hd
    · exact wpAny_Name (wpAny_loadName_free I.ok.kind hk hc hcell fin hcd) hd
theorem aq {i j pos}:PE X (.Constant (.int i) j pos) (tC (.int i)):=fun _ _ _ H _ I h=>wpAny_Constant_int ⟨.int i,H,I.tok _,⟨_,rfl⟩,h⟩
theorem tY {b j pos}:PE X (.Constant (.bool b) j pos) (tC (.bl b)):=fun _ _ _ H _ I h=>Constant_bool ⟨.bl b,H,I,rfl,h⟩
def Gl (X:Cx) (x:Str):Prop:=X.env.kindOf x=some .globalImplicit
theorem ux {E:Value→Shared→Prop} {pins:List (Addr × Obj)} {s:Shared} {σ:St} {H:Hp} {x:Str} {u:Value} {pos:Pos} {Q:Value→Shared→Prop} (I:Inv X pins σ H s) (hg:Gl X x) (hm:X.mg x=some u) (h:Q u s)
    (hd:(x == ("__debug__":Str))=false:=by decide):wpAny (model X.prog X.w) X.A (eval (.Name x pos) X.env) Q E s :=
  Calls.Name_function_global I.ok.kind hg (Calls.loadGlobal_global (by rw [I.ok.glob];exact I.mod.glob.keeps I.bk) hm h) hd
theorem fZ {E:Value→Shared→Prop} {pins:List (Addr × Obj)} {s:Shared} {σ:St} {H:Hp} {x:Str} {u:Value} {pos:Pos} {Q:Value→Shared→Prop} (I:Inv X pins σ H s) (hg:Gl X x) (hm:X.mg x=none) (hv:bootBuiltins x=some u) (h:Q u s)
    (hn:x≠"__name__":=by decide) (hd:(x == ("__debug__":Str))=false:=by decide):wpAny (model X.prog X.w) X.A (eval (.Name x pos) X.env) Q E s:=by
  obtain ⟨mb,h1,h2⟩:=I.mod.blt
  exact Calls.Name_function_global I.ok.kind hg (Calls.loadGlobal_builtin (by rw [I.ok.glob];exact I.mod.glob.keeps I.bk) hm (by rw [I.ok.blt];exact h1.keeps I.bk) ((h2 x hn).trans hv) h) hd
theorem oZ {x:Str} {v:V} {u:Value} {pos:Pos} (hg:Gl X x) (hm:X.mg x=some u) (r:RelV v u) (hd:(x == ("__debug__":Str))=false:=by decide):PE X (.Name x pos) (tC v) :=
  fun _ _ _ H _ I h=>ux I hg hm ⟨v,H,I,r,h⟩ hd
theorem o7 {x:Str} {v:V} {u:Value} {pos:Pos} (hg:Gl X x) (hm:X.mg x=none) (hv:bootBuiltins x=some u) (r:RelV v u) (hn:x≠"__name__":=by decide) (hd:(x == ("__debug__":Str))=false:=by decide):PE X (.Name x pos) (tC v) :=
  fun _ _ _ H _ I h=>fZ I hg hm hv ⟨v,H,I,r,h⟩ hn hd
def t2I (ta tb:TE) (k:Int→Int→Hp→Prop):St→Hp→Prop:=fun σ H=>ta σ H fun x H1=>tb σ H1 fun y H2=>∃ i j,x=.int i∧y=.int j∧k i j H2
variable {a b:Expr} {ta tb:TE} {pos:Pos}
def Bs (p:Int→Int→Bool) (ta tb:TE):TE:=fun σ H Q=>t2I ta tb (fun i j H2=>Q (.bl (p i j)) H2) σ H
abbrev tLt:TE→TE→TE:=Bs fun i j=>decide (i<j)
abbrev tLe:TE→TE→TE:=Bs fun i j=>decide (i≤j)
abbrev tGt:TE→TE→TE:=Bs fun i j=>decide (j<i)
abbrev tGe:TE→TE→TE:=Bs fun i j=>decide (j≤i)
abbrev tEqI:TE→TE→TE:=Bs fun i j=>decide (i=j)
abbrev tNeI:TE→TE→TE:=Bs fun i j=>!decide (i=j)
def tB (t:TE):TT:=fun σ H Q=>t σ H fun x H1=>∃ c,x=.bl c∧Q c H1
theorem jK {e:Expr} {t:TE} (h:PE X e t) (he:∀ whole,isTrue e X.env whole=(do let v ← whole;standAt e.pos;holding [v] (truthy v)):=by intro _;rfl):PT X e (tB t):=by
  intro pins s σ H Q I hw
  refine isTrue_plain (thn (h pins s σ H _ I hw) fun v s1 ⟨x,H1,I1,r1,q1⟩=>?_) (he _)
  obtain ⟨d,rfl,q⟩:=q1
  cases r1
  exact wpAny_truthy_bool ⟨H1,I1,q⟩
variable {tA tB':TT} {rest:List Expr}
def tAnd (t u:TT):TT:=fun σ H Q=>t σ H fun c H1=>if c=true then u σ H1 Q else Q false H1
def tOr (t u:TT):TT:=fun σ H Q=>t σ H fun c H1=>if c=true then Q true H1 else u σ H1 Q
def tNot (t:TT):TT:=fun σ H Q=>t σ H fun c H1=>Q (!c) H1
theorem pw_and1 (ha:PT X a tA):PW X (.BoolOp .And [a] pos) tA:=by
  intro wh pins s σ H Q I h
  refine isTrue_and (thn (ha pins s σ H Q I h) fun c s1 e=>?_)
  cases c with
  | true=>exact isTrue_and_nil e
  | false=>exact e
theorem pw_or1 (ha:PT X a tA):PW X (.BoolOp .Or [a] pos) tA:=by
  intro wh pins s σ H Q I h
  refine isTrue_or (thn (ha pins s σ H Q I h) fun c s1 e=>?_)
  cases c with
  | false=>exact isTrue_or_nil e
  | true=>exact e
theorem pw_and (ha:PT X a tA) (hb:PW X (.BoolOp .And (b :: rest) pos) tB'):PW X (.BoolOp .And (a :: b :: rest) pos) (tAnd tA tB'):=by
  intro wh pins s σ H Q I h
  refine isTrue_and (thn (ha pins s σ H _ I h) fun c s1 ⟨H1,I1,q1⟩=>?_)
  cases c with
  | true=>exact hb wh pins s1 σ H1 Q I1 q1
  | false=>exact ⟨H1,I1,q1⟩
theorem pw_or (ha:PT X a tA) (hb:PW X (.BoolOp .Or (b :: rest) pos) tB'):PW X (.BoolOp .Or (a :: b :: rest) pos) (tOr tA tB'):=by
  intro wh pins s σ H Q I h
  refine isTrue_or (thn (ha pins s σ H _ I h) fun c s1 ⟨H1,I1,q1⟩=>?_)
  cases c with
  | true=>exact ⟨H1,I1,q1⟩
  | false=>exact hb wh pins s1 σ H1 Q I1 q1
theorem ni (ha:PT X a tA):PT X (.UnaryOp .Not a pos) (tNot tA):=by
  intro pins s σ H Q I h
  exact isTrue_not (ha pins s σ H (fun c H1=>Q (!c) H1) I h)
def GD (ta tb:TE):TE:=fun σ H Q=>ta σ H fun x H1=>∃ c,x=.bl c∧if c=true then tb σ H1 Q else Q (.bl false) H1
def Gu (ta:TE):TE:=fun σ H Q=>ta σ H fun x H1=>∃ c,x=.bl c∧Q (.bl (!c)) H1
theorem xM {op} {t:TE} (h:PE X a t):PE X (.BoolOp op [a] pos) t:=fun pins s σ H Q I hw=>BoolOp_one (h pins s σ H Q I hw)
theorem xO (ha:PE X a ta) (hb:PE X (.BoolOp .And (b :: rest) pos) tb):PE X (.BoolOp .And (a :: b :: rest) pos) (GD ta tb):=by
  intro pins s σ H Q I h
  refine BoolOp_and (thn (ha pins s σ H _ I h) fun v s1 ⟨x,H1,I1,r1,q1⟩=>?_)
  obtain ⟨c,rfl,q1⟩:=q1
  cases r1
  refine wpAny_truthy_bool ?_
  cases c with
  | true=>exact hb pins s1 σ H1 Q I1 q1
  | false=>exact ⟨.bl false,H1,I1,rfl,q1⟩
theorem BP (ha:PE X a ta):PE X (.UnaryOp .Not a pos) (Gu ta):=by
  intro pins s σ H Q I h
  refine UnaryOp_ (thn (ha pins s σ H _ I h) fun v s1 ⟨x,H1,I1,r1,q1⟩=>?_)
  obtain ⟨c,rfl,q1⟩:=q1
  cases r1
  exact not_of (wpAny_truthy_bool ⟨.bl (!c),H1,I1,rfl,q1⟩)
end
end L2
namespace L2
open PySem PySem.Spec PyProof.Rows
def SqL (K:PySem.W.Frag) (H:Hp) (a:Addr) (xs:List V):Prop :=
  Rd H a (.lst xs) ∨
    ∃ (o:Obj) (its:Array Value) (n:Nat),K.lookup a=some o∧o.cls=.type "list"∧o.dict=none∧o.data=.seq its n∧its.size≤sizeLine∧Vals xs its.toList
def SqT (K:PySem.W.Frag) (H:Hp) (a:Addr) (xs:List V):Prop :=
  Rd H a (.tup xs) ∨
    ∃ (o:Obj) (its:Array Value) (n:Nat),K.lookup a=some o∧o.cls=.type "tuple"∧o.data=.seq its n∧its.size≤sizeLine∧Vals xs its.toList
def absV:Value→Option V
  | .none=>some .non
  | .bool b=>some (.bl b)
  | .int i _=>some (.int i)
  | .str x _=>some (.str x)
  | .bytes b _=>some (.byt b)
  | .float b _=>some (.flt b)
  | .ref a=>some (.ref a)
  | .type n=>some (.ty n)
  | _=>none
theorem RelV.abs {x:V} {u:Value} (r:RelV x u):absV u=some x:=by
  cases x with
  | non=>cases r;rfl
  | bl _=>cases r;rfl
  | int _=>obtain ⟨t,rfl⟩:=r;rfl
  | str _=>obtain ⟨t,rfl⟩:=r;rfl
  | byt _=>obtain ⟨t,rfl⟩:=r;rfl
  | flt _=>obtain ⟨t,rfl⟩:=r;rfl
  | ref _=>cases r;rfl
  | ty _=>cases r;rfl
theorem RelV.inj {x y:V} {u:Value} (r:RelV x u) (q:RelV y u):x=y:=Option.some.inj (r.abs.symm.trans q.abs)
theorem Vals.inj:∀ {xs ys:List V} {us:List Value},Vals xs us→Vals ys us→xs=ys
  | _,_,_,.nil,.nil=>rfl
  | _,_,_,.cons r t,.cons r' t'=>by rw [r.inj r',Vals.inj t t']
section
variable {X:Cx} {pins:List (Addr × Obj)} {σ:St} {H:Hp} {s:Shared} {a:Addr} {xs ys:List V}
theorem SqL.of {K:PySem.W.Frag} (h:H a=some (.lst xs)):SqL K H a xs:=.inl (.inl h)
theorem SqT.of {K:PySem.W.Frag} (h:H a=some (.tup xs)):SqT K H a xs:=.inl (.inl h)
theorem Inv.list (I:Inv X pins σ H s) (h:SqL X.K H a xs):∃ its:List Value,Vals xs its∧PlainL s.heap a its.toArray∧xs.length≤sizeLine:=by
  rcases h with h | ⟨o,its,n,hk,hc,hd,hs,hz,r⟩
  · obtain ⟨z,its,n,r,e⟩:=h.ok I.hok
    exact ⟨its,r,⟨_,n,e,rfl,rfl,rfl⟩,z⟩
  · refine ⟨its.toList,r,⟨o,n,I.kIn a o hk,hc,hd,by simpa using hs⟩,?_⟩
    have e:=r.length
    simp only [Array.length_toList] at e
    omega
theorem Inv.tuple (I:Inv X pins σ H s) (h:SqT X.K H a xs):∃ its:List Value,Vals xs its∧IsTup s.heap a its.toArray∧xs.length≤sizeLine:=by
  rcases h with h | ⟨o,its,n,hk,hc,hs,hz,r⟩
  · obtain ⟨z,its,r,p⟩:=h.ok I.hok
    exact ⟨its,r,p,z⟩
  · refine ⟨its.toList,r,⟨o,I.kIn a o hk,hc,n,by simpa using hs⟩,?_⟩
    have e:=r.length
    simp only [Array.length_toList] at e
    omega
theorem Inv.wA (I:Inv X pins σ H s) (h:SqL X.K H a xs) (h':SqL X.K H a ys):xs=ys:=by
  obtain ⟨its,r,⟨o,n,e,_,_,d⟩,_⟩:=I.list h
  obtain ⟨its',r',⟨o',n',e',_,_,d'⟩,_⟩:=I.list h'
  rw [e] at e';cases e'
  rw [d] at d'
  injection d' with d1 _
  have:its=its':=by simpa using congrArg Array.toList d1
  subst this
  exact r.inj r'
end
abbrev Cx.wish (X:Cx) (E:Value→Shared→Prop):Cx:={ X with xe:=E }
abbrev Cx.nox (X:Cx):Cx:=X.wish fun _ _=>False
theorem Cx.Ok.wish {X:Cx} (ok:X.Ok) (E:Value→Shared→Prop):(X.wish E).Ok :=
  ⟨ok.mod,ok.kind,ok.glob,ok.blt,ok.above,ok.inj,ok.has,ok.cab,ok.hd,ok.frames,ok.stk,ok.exf,ok.bs,ok.bsz,ok.noex,ok.exfs,ok.uH,ok.frf⟩
theorem Cx.Ok.jj {X:Cx} {E:Value→Shared→Prop} (ok:(X.wish E).Ok):X.Ok :=
  ⟨ok.mod,ok.kind,ok.glob,ok.blt,ok.above,ok.inj,ok.has,ok.cab,ok.hd,ok.frames,ok.stk,ok.exf,ok.bs,ok.bsz,ok.noex,ok.exfs,ok.uH,ok.frf⟩
section
variable {X:Cx} {pins:List (Addr × Obj)} {σ:St} {H:Hp} {s:Shared} {E:Value→Shared→Prop}
theorem Inv.wish (I:Inv X pins σ H s) (E:Value→Shared→Prop):Inv (X.wish E) pins σ H s:=⟨I.ok.wish E,I.os,I.bare,I.base,I.loc,I.cell,I.free,I.freeC,I.pin,I.hok,I.len⟩
theorem Inv.jj (I:Inv (X.wish E) pins σ H s):Inv X pins σ H s:=⟨I.ok.jj,I.os,I.bare,I.base,I.loc,I.cell,I.free,I.freeC,I.pin,I.hok,I.len⟩
theorem SP.jj {D:Ends} {f:Flow} {s':Shared} (h:SP (X.wish E) pins D f s'):SP X pins D f s':=by
  cases f with
  | next=>obtain ⟨σ',H',I,q⟩:=h;exact ⟨σ',H',I.jj,q⟩
  | brk=>obtain ⟨σ',H',I,q⟩:=h;exact ⟨σ',H',I.jj,q⟩
  | cont=>obtain ⟨σ',H',I,q⟩:=h;exact ⟨σ',H',I.jj,q⟩
  | ret u=>obtain ⟨v,σ',H',I,r,q⟩:=h;exact ⟨v,σ',H',I.jj,r,q⟩
theorem PSs.nox {st:List Stmt} {t:TS} (h:PSs X.nox st t):PSs X st t:=fun pins s σ H D I hw =>
  wpAny_mono (h pins s σ H D (I.wish _) hw) (fun _ _ q=>q.jj) fun _ _ z=>False.elim z
end
section
variable {X:Cx} {st:Stmt} {rest:List Stmt} {t u:TS} {e:Expr} {te:TE} {pos:Pos}
def Gv:TS:=fun D σ H=>D.nx σ H
def aR (t u:TS):TS:=fun D σ H=>t { D with nx:=u D } σ H
theorem dz:PSs X [] Gv:=fun _ _ σ H _ I h=>wpAny_execs_nil ⟨σ,H,I,h⟩
theorem aA (h1:PS X st t) (h2:PSs X rest u):PSs X (st :: rest) (aR t u):=by
  intro pins s σ H D I h
  refine wpAny_execs_cons (thn (h1 pins s σ H { D with nx:=u D } I h) fun f s1 q=>?_)
  cases f with
  | next =>
    obtain ⟨σ',H',I',q⟩:=q
    exact h2 pins s1 σ' H' D I' q
  | ret v=>exact q
  | brk=>exact q
  | cont=>exact q
theorem aD (h1:PS X st t):PSs X [st] t:=by
  intro pins s σ H D I h
  refine wpAny_execs_cons (thn (h1 pins s σ H D I h) fun f s1 q=>?_)
  cases f with
  | next=>exact wpAny_execs_nil q
  | ret v=>exact q
  | brk=>exact q
  | cont=>exact q
theorem Inv.quiet {pins:List (Addr × Obj)} {σ:St} {H:Hp} {s:Shared} (I:Inv X pins σ H s):interactive X.env=false:=by simp [interactive,I.ok.kind]
def Gw (te:TE):TS:=fun D σ H=>te σ H fun _ H1=>D.nx σ H1
theorem fY (he:PE X e te) (hs:swapsWith e none pos.line X.env=pure false:=by rfl):PS X (.Expr e pos) (Gw te):=by
  intro pins s σ H D I h
  exact wpAny_Expr_any (thn (he pins s σ H _ I h) fun v s1 ⟨x,H1,I1,r1,q1⟩=>⟨σ,H1,I1,q1⟩) I.quiet hs
def tRet (te:TE):TS:=fun D σ H=>te σ H D.rt
theorem bG (he:PE X e te):PS X (.Return (some e) pos) (tRet te):=by
  intro pins s σ H D I h
  exact wpAny_Return_some (thn (he pins s σ H _ I h) fun v s1 ⟨x,H1,I1,r1,q1⟩=>⟨x,σ,H1,I1,r1,q1⟩)
def jt (c:TT) (t u:TS):TS:=fun D σ H=>c σ H fun b H1=>if b=true then t D σ H1 else u D σ H1
theorem iu {c:Expr} {a b:List Stmt} {tc:TT} (hc:PT X c tc) (ha:PSs X a t) (hb:PSs X b u):PS X (.If c a b pos) (jt tc t u):=by
  intro pins s σ H D I h
  refine wpAny_If (thn (hc pins s σ H _ I h) fun d s1 ⟨H1,I1,q1⟩=>?_)
  cases d with
  | true=>exact ha pins s1 σ H1 D I1 q1
  | false=>exact hb pins s1 σ H1 D I1 q1
def Bu:TS:=fun _ _ _=>False
theorem vQ:PS X st Bu:=fun _ _ _ _ _ _ h=>h.elim
end
abbrev TG:=V→St→Hp→(St→Hp→Prop)→Prop
abbrev TGs:=List V→St→Hp→(St→Hp→Prop)→Prop
def PG (X:Cx) (target:Expr) (t:TG):Prop :=
  ∀ (pins:List (Addr × Obj)) (s:Shared) (σ:St) (H:Hp) (v:V) (u:Value) (Q:St→Hp→Prop),Inv X pins σ H s→RelV v u→t v σ H Q →
    wpAny (model X.prog X.w) X.A (assign target X.env u) (fun _ s'=>∃ σ' H',Inv X pins σ' H' s'∧Q σ' H') X.xe s
def PGs (X:Cx) (ts:List Expr) (t:TGs):Prop :=
  ∀ (pins:List (Addr × Obj)) (s:Shared) (σ:St) (H:Hp) (vs:List V) (us:List Value) (Q:St→Hp→Prop),Inv X pins σ H s→Vals vs us→t vs σ H Q →
    wpAny (model X.prog X.w) X.A (assignInOrder ((assignEach ts X.env).map (·.2)) us) (fun _ s'=>∃ σ' H',Inv X pins σ' H' s'∧Q σ' H') X.xe s
abbrev Gg:=V→V→V→Hp→(Hp→Prop)→Prop
def IW (X:Cx) (t:Gg):Prop :=
  ∀ (pins:List (Addr × Obj)) (s:Shared) (σ:St) (H:Hp) (o i v:V) (ov iv u:Value) (Q:Hp→Prop),Inv X pins σ H s→RelV o ov→RelV i iv→RelV v u→t o i v H Q →
    wpAny (model X.prog X.w) X.A (setItem ov iv u) (fun _ s'=>∃ H',Inv X pins σ H' s'∧Q H') X.xe s
abbrev TIp:=V→V→Hp→VK→Prop
def PIp (X:Cx) (op:Operator) (t:TIp):Prop :=
  ∀ (pins:List (Addr × Obj)) (s:Shared) (σ:St) (H:Hp) (x y:V) (v u:Value) (Q:VK),Inv X pins σ H s→RelV x v→RelV y u→t x y H Q →
    wpAny (model X.prog X.w) X.A (inplaceOp op v u) (EP X pins σ Q) X.xe s
section
variable {X:Cx} {pos:Pos}
def wK (i:Nat):TG:=fun v σ H Q=>Q (σ.set i (some v)) H
theorem aO {i:Nat} {x:Str} (hN:X.N.Nodup) (hi:X.N[i]?=some x) (hx:Loc X.env.scope x) (hf:X.fn x=true∨X.env.scope.names.lookup x=some .local:=by first | exact .inl rfl | exact .inr rfl | assumption):PG X (.Name x pos) (wK i):=by
  intro pins s σ H v u Q I r h
  exact wpAny_assign_Name (pO I hN hi hx r (fun s' I'=>⟨_,H,I',h⟩) hf)
def gNil:TGs:=fun vs σ H Q=>vs=[]∧Q σ H
def Iu (t:TG) (u:TGs):TGs:=fun vs σ H Q=>∃ v r,vs=v :: r∧t v σ H fun σ' H'=>u r σ' H' Q
theorem fB:PGs X [] gNil:=by
  intro pins s σ H vs us Q I r h
  obtain ⟨e,h⟩:=h
  subst e
  cases r
  exact assignInOrder_nil ⟨σ,H,I,h⟩
theorem aX {e:Expr} {es:List Expr} {t:TG} {u:TGs} (h1:PG X e t) (h2:PGs X es u)
    (hs:(assignEach (e :: es) X.env).map (·.2)=assign e X.env :: (assignEach es X.env).map (·.2):=by rfl):PGs X (e :: es) (Iu t u):=by
  intro pins s σ H vs us Q I r h
  obtain ⟨v,vr,e1,h⟩:=h
  subst e1
  cases r with
  | cons r rr =>
    rw [hs]
    refine assignInOrder_cons (thn (h1 pins s σ H _ _ _ I r h) fun _ s1 ⟨σ1,H1,I1,q1⟩=>?_)
    exact h2 pins s1 σ1 H1 _ _ Q I1 rr q1
def JD (K:PySem.W.Frag) (n:Nat) (t:TGs):TG:=fun v σ H Q=>∃ a xs,v=.ref a∧SqT K H a xs∧xs.length=n∧t xs σ H Q
theorem jm {es:List Expr} {k:Nat} {t:TGs} {n:Nat} (hc:X.calm=true) (h:PGs X es t)
    (hn:(assignEach es X.env).length=n:=by rfl) (hst:(assignEach es X.env).findIdx? (·.1)=none:=by rfl):PG X (.Tuple es k pos) (JD X.K n t):=by
  intro pins s σ H v u Q I r hw
  obtain ⟨a,xs,e1,hq,hl,hw⟩:=hw
  subst e1
  cases r
  obtain ⟨its,rv,ht,hz⟩:=I.tuple hq
  refine assign_Tuple_tuple (I.ok.hd hc) ht (by simp [hn,← hl,rv.length]) hst fun h' hx=>?_
  have I1:Inv X pins σ H { s with heap:=h' }:=I.kept (t':=s.toks) fun b o e=>hx b o (Nat.ne_of_lt (Heap.lt_size e)) e
  exact h pins _ σ H xs _ Q I1 (by simpa using rv) hw
def gSub (to ti:TE) (t:Gg):TG:=fun v σ H Q=>to σ H fun o H1=>ti σ H1 fun i H2=>t o i v H2 fun H3=>Q σ H3
theorem nu {o i:Expr} {to ti:TE} {t:Gg} (ho:PE X o to) (hi:PE X i ti) (hs:IW X t)
    (ha:∀ v,assign (.Subscript o i pos) X.env v=(do
      let ov ← holding [v] (eval o X.env)
      let iv ← holding [v,ov] (eval i X.env)
      standAt pos
      holding [v,ov,iv] (setItem ov iv v)
      release [v,ov,iv] []):=by intro _;rfl):PG X (.Subscript o i pos) (gSub to ti t):=by
  intro pins s σ H v u Q I r h
  rw [ha]
  refine wpAny_bind (wpAny_holding (thn (ho pins s σ H _ I h) fun ov s1 ⟨x,H1,I1,r1,q1⟩=>?_))
  refine wpAny_bind (wpAny_holding (thn (hi pins s1 σ H1 _ I1 q1) fun iv s2 ⟨y,H2,I2,r2,q2⟩=>?_))
  refine wpAny_bind (wpAny_standAt (wpAny_bind (wpAny_holding (thn (hs pins s2 σ H2 x y v ov iv u _ I2 r1 r2 r q2) fun _ s3 ⟨H3,I3,q3⟩=>?_))))
  exact wpAny_release ⟨σ,H3,I3,q3⟩
def GC (te:TE) (g:TG):TS:=fun D σ H=>te σ H fun x H1=>g x σ H1 D.nx
theorem jL {tg e:Expr} {te:TE} {g:TG} (he:PE X e te) (hg:PG X tg g) (hs:swapsWithSole [tg] e pos.line X.env=pure false:=by rfl) (hw:swappedStores [tg] e X.env=pure none:=by rfl)
    (h1:(assignEach [tg] X.env).map (·.2)=[assign tg X.env]:=by rfl):PS X (.Assign [tg] e pos) (GC te g):=by
  intro pins s σ H D I h
  refine wpAny_Assign_stores (thn (he pins s σ H _ I h) fun v s1 ⟨x,H1,I1,r1,q1⟩=>?_) hs hw
  rw [h1]
  exact thn (hg pins s1 σ H1 x v _ I1 r1 q1) fun _ s2 q=>q
theorem aW {i:Nat} {x:Str} {e:Expr} {te:TE} {pos':Pos} (hN:X.N.Nodup) (hi:X.N[i]?=some x) (hx:Loc X.env.scope x) (he:PE X e te) (hs:swapsWith e (some (.Name x pos')) pos.line X.env=pure false:=by rfl) (hf:X.fn x=true∨X.env.scope.names.lookup x=some .local:=by first | exact .inl rfl | exact .inr rfl | assumption) :
    PS X (.Assign [.Name x pos'] e pos) (GC te (wK i)):=by
  intro pins s σ H D I h
  refine wpAny_Assign_Name (thn (he pins s σ H _ I h) fun v s1 ⟨y,H1,I1,r1,q1⟩=>?_) hs
  exact pO I1 hN hi hx r1 (fun s2 I2=>⟨_,H1,I2,q1⟩) hf
def Gz (to ti te:TE) (tget:V→V→Hp→VK→Prop) (tip:TIp) (tset:Gg):TS:=fun D σ H=>to σ H fun o H1=>ti σ H1 fun i H2=>tget o i H2 fun x H3=>te σ H3 fun y H4=>tip x y H4 fun z H5=>tset o i z H5 fun H6=>D.nx σ H6
def JG (X:Cx) (t:V→V→Hp→VK→Prop):Prop :=
  ∀ (pins:List (Addr × Obj)) (s:Shared) (σ:St) (H:Hp) (o i:V) (ov iv:Value) (Q:VK),Inv X pins σ H s→RelV o ov→RelV i iv→t o i H Q →
    wpAny (model X.prog X.w) X.A (getItem ov iv) (EP X pins σ Q) X.xe s
theorem tO {o i e:Expr} {to ti te:TE} {tget:V→V→Hp→VK→Prop} {tip:TIp} {tset:Gg} {op:Operator} {tpos:Pos} (ho:PE X o to) (hi:PE X i ti) (hg:JG X tget) (he:PE X e te) (hp:PIp X op tip) (hs:IW X tset)
    (ha:∀ ov iv new,augStore i ov iv new=(do holding [new,ov,iv] (setItem ov iv new);release [new,ov,iv] [];pure .next):=by intros;rfl):PS X (.AugAssign (.Subscript o i tpos) op e pos) (Gz to ti te tget tip tset):=by
  intro pins s σ H D I h
  refine wpAny_AugAssign_SubscriptAny (thn (ho pins s σ H _ I h) fun ov s1 ⟨x1,H1,I1,r1,q1⟩=>?_) ha
  refine thn (hi pins s1 σ H1 _ I1 q1) fun iv s2 ⟨x2,H2,I2,r2,q2⟩=>?_
  refine thn (hg pins s2 σ H2 x1 x2 ov iv _ I2 r1 r2 q2) fun old s3 ⟨x3,H3,I3,r3,q3⟩=>?_
  refine thn (he pins s3 σ H3 _ I3 q3) fun v s4 ⟨x4,H4,I4,r4,q4⟩=>?_
  refine thn (hp pins s4 σ H4 x3 x4 old v _ I4 r3 r4 q4) fun new s5 ⟨x5,H5,I5,r5,q5⟩=>?_
  exact thn (hs pins s5 σ H5 x1 x2 x5 ov iv new _ I5 r1 r2 r5 q5) fun _ s6 ⟨H6,I6,q6⟩=>⟨σ,H6,I6,q6⟩
def ipI (f:Int→Int→Int):TIp:=fun x y H Q=>∃ i j,x=.int i∧y=.int j∧Q (.int (f i j)) H
theorem xW:PIp X .Add (ipI fun i j=>i + j):=by
  intro pins s σ H x y v u Q I r1 r2 h
  obtain ⟨i,j,e1,e2,q⟩:=h
  subst e1;subst e2
  obtain ⟨t,rfl⟩:=r1
  obtain ⟨t',rfl⟩:=r2
  exact iadd_int ⟨.int _,H,I.tok _,⟨_,rfl⟩,q⟩
end
section
variable {X:Cx} {pos:Pos}
def mV (c:TT) (tb:TS):TS:=fun D σ H=>∃ W:Nat→St→Hp→Prop,(∃ m,W m σ H)∧∀ m σ H,W m σ H →
  c σ H fun b H1=>if b=true then ∃ N:St→Hp→Prop,(∀ σ' H',N σ' H'→∃ m',m'<m∧W m' σ' H')∧tb { D with nx:=N,ct:=N,bk:=D.nx } σ H1 else D.nx σ H1
theorem qd {c:Expr} {body:List Stmt} {tc:TT} {tb:TS} (hp:PassesOwn (model X.prog X.w) X.A X.env X.xe) (hc:PT X c tc) (hb:PSs X body tb):PS X (.While c body [] pos) (mV tc tb):=by
  intro pins s σ H D I h
  obtain ⟨W,⟨m0,w0⟩,turn⟩:=h
  refine wpAny_While (codeAny_whileLoop (fun n s'=>∃ σ' H',Inv X pins σ' H' s'∧W n σ' H') ?_ m0 ⟨σ,H,I,w0⟩)
  rintro n s1 ⟨σ1,H1,I1,w1⟩
  refine wpAny_passesOwn hp (thn (hc pins s1 σ1 H1 _ I1 (turn n σ1 H1 w1)) fun b s2 ⟨H2,I2,q2⟩=>?_)
  cases b with
  | true =>
    obtain ⟨N,hN,q2⟩:=q2
    rw [if_pos rfl]
    refine wpAny_passesOwn hp (thn (hb pins s2 σ1 H2 _ I2 q2) fun f s3 q3=>?_)
    cases f with
    | next =>
      obtain ⟨σ3,H3,I3,n3⟩:=q3
      obtain ⟨m',hm,w3⟩:=hN σ3 H3 n3
      exact ⟨m',hm,σ3,H3,I3,w3⟩
    | cont =>
      obtain ⟨σ3,H3,I3,n3⟩:=q3
      obtain ⟨m',hm,w3⟩:=hN σ3 H3 n3
      exact ⟨m',hm,σ3,H3,I3,w3⟩
    | brk=>exact q3
    | ret v=>exact q3
  | false =>
    rw [if_neg Bool.false_ne_true]
    exact wpAny_execs_nil ⟨σ1,H2,I2,q2⟩
end
structure It where
  go:Nat→Hp→Prop
  yld:Nat→Hp→V→Hp→Prop
  stop:Nat→Hp→Prop
def oN (X:Cx) (pins:List (Addr × Obj)) (H:Hp) (b:Addr):Prop :=
  H b=none∧b≠X.env.locals∧b ∉ X.fs∧(b∈X.ex∨X.s₀.heap.objs.size≤b)∧(∀ x c,X.env.cells.lookup x=some c→c≠b)∧∀ p∈X.pn++pins,p.1≠b
theorem Inv.rP {X:Cx} {pins:List (Addr × Obj)} {σ:St} {H H':Hp} {s:Shared} {b:Addr} (I:Inv X pins σ H s) (hb:s.heap.objs.size≤b) (hn:H' b=none):oN X pins H' b:=by
  refine ⟨hn,Nat.ne_of_gt (Nat.lt_of_lt_of_le I.lt hb),I.nofs hb,.inr (Nat.le_trans I.sz hb),fun x c e z=>?_,fun p hp z=>?_⟩
  · obtain ⟨v,q⟩:=I.cell x c e
    exact absurd (Nat.lt_of_lt_of_le q.lt (by rw [z];exact hb)) (Nat.lt_irrefl _)
  · exact absurd (Nat.lt_of_lt_of_le (Heap.lt_size (I.pin p hp).1) (by rw [z];exact hb)) (Nat.lt_irrefl _)
structure Turn (P:Program) (w:World) (K:PySem.W.Frag) (tg:Expr) (J:It) (fp:List Addr) (it:Addr) (tn:Nat→Heap→Prop):Prop where
  mem:it∈fp
  obj:∀ i h,tn i h→∀ b∈fp,∃ o,h.get? b=some o∧∀ v,o.data≠.cell v
  keep:∀ i h h',tn i h→(∀ b∈fp,∀ o,h.get? b=some o→h'.get? b=some o)→tn i h'
  item:∀ (X:Cx),X.prog=P→X.w=w→X.K=K→X.calm=true→∀ (i:Nat) (pins:List (Addr × Obj)) (s:Shared) (σ:St) (H:Hp) (E:Value→Shared→Prop),Inv X pins σ H s→(∀ b∈fp,oN X pins H b)→tn i s.heap→J.go i H →
    wpAny (model P w) X.A (pyNext (.ref it)) (fun r s1=>∃ u,r=some u ∧
      wpAny (model P w) X.A (letOwnedTupleGo tg (.ref it) u) (fun _ s2=>∃ x H',Inv X pins σ H' s2∧RelV x u∧J.yld i H x H'∧tn (i + 1) s2.heap∧∀ b∈fp,H' b=none) E s1) E s
  done:∀ (X:Cx),X.prog=P→X.w=w→X.K=K→X.calm=true→∀ (i:Nat) (pins:List (Addr × Obj)) (s:Shared) (σ:St) (H:Hp) (E:Value→Shared→Prop),Inv X pins σ H s→(∀ b∈fp,oN X pins H b)→tn i s.heap→J.stop i H →
    wpAny (model P w) X.A (pyNext (.ref it)) (fun r s1=>r=none∧Inv X pins σ H s1) E s
  self:∀ (A:Around) (i:Nat) (s:Shared) (Q:Value→Shared→Prop) (E:Value→Shared→Prop),tn i s.heap→Q (.ref it) s→wpAny (model P w) A (pyIter (.ref it)) Q E s
abbrev TI:=St→Hp→(It→Hp→Prop)→Prop
def PIE (X:Cx) (pins:List (Addr × Obj)) (σ:St) (tg:Expr) (R:It→Hp→Prop) (itv:Value) (s2:Shared):Prop :=
  ∃ (it:Addr) (fp:List Addr) (tn:Nat→Heap→Prop) (J:It) (H':Hp),itv=.ref it∧Inv X pins σ H' s2∧Turn X.prog X.w X.K tg J fp it tn∧tn 0 s2.heap∧(∀ b∈fp,oN X pins H' b)∧R J H'
def PI (X:Cx) (tg iter:Expr) (wi:TI):Prop :=
  ∀ (pins:List (Addr × Obj)) (s:Shared) (σ:St) (H:Hp) (R:It→Hp→Prop),Inv X pins σ H s→wi σ H R →
    wpAny (model X.prog X.w) X.A (eval iter X.env) (fun v s1=>wpAny (model X.prog X.w) X.A (pyIter v) (PIE X pins σ tg R) X.xe s1) X.xe s
theorem FZ {M:Model} {A:Around} {E:Value→Shared→Prop} {s:Shared} {tg:Expr} {it:Addr} {u:Value} {o:Obj} {n:String} {vs:Array Value} {Q:Unit→Shared→Prop} (ho:s.heap.get? it=some o) (hc:o.cls=.type n) (hd:o.data=.fields vs)
    (hn:["enumerate","zip","dict_itemiterator","dict_reverseitemiterator","odict_iterator","itertools.zip_longest","itertools.pairwise"].contains n=false) (hQ:Q () s):wpAny M A (letOwnedTupleGo tg (.ref it) u) Q E s:=by
  unfold letOwnedTupleGo
  cases tg <;> first
    | exact wpAny_pure hQ
    | (cases u <;> first
        | exact wpAny_pure hQ
        | (refine wpAny_bind (wpAny_load ho ?_)
           rw [hc,hd]
           show wpAny M A (if (["enumerate","zip","dict_itemiterator","dict_reverseitemiterator","odict_iterator","itertools.zip_longest","itertools.pairwise"].contains n && vs[0]? == some (rawInt _))=true then _ else _) Q E s
           rw [if_neg (by intro h;rw [hn,Bool.false_and] at h;cases h)]
           exact wpAny_pure hQ))
def Itl (K:PySem.W.Frag) (a:Addr):It :=
  ⟨fun i H=>∃ xs x,SqL K H a xs∧xs[i]?=some x,fun i H x H'=>H'=H∧∀ xs,SqL K H a xs→xs[i]?=some x,fun i H=>∃ xs,SqL K H a xs∧xs.length≤i⟩
def Itr (lo:Int) (n:Nat):It:=⟨fun i _=>i<n,fun i H x H'=>H'=H∧x=.int (lo + i),fun i _=>n≤i⟩
theorem rY {P:Program} {w:World} {K:PySem.W.Frag} {tg:Expr} (a it:Addr):Turn P w K tg (Itl K a) [it] it (fun i h=>h.IsListIter it a i) where
  mem:=by simp
  obj:=fun i h st b hb=>by
    have e:b=it:=by simpa using hb
    subst e
    obtain ⟨o,e,c,d⟩:=st
    exact ⟨o,e,fun v z=>by rw [d] at z;cases z⟩
  keep:=fun i h h' st k=>st.at fun o e=>k it (by simp) o e
  item:=by
    intro X hP hw hK hc i pins s σ H E I hf st hg
    subst hP hw hK
    obtain ⟨xs,x,hq,hx⟩:=hg
    obtain ⟨its,rv,p,hz⟩:=I.list hq
    obtain ⟨u,hu,ru⟩:=rv.get hx
    obtain ⟨f0,f1,f2,f3,f4,f5⟩:=hf it (by simp)
    refine wpAny_pyNext_list_item st p.isList (x:=u) (by simpa using hu) fun h' st' sb=>?_
    have I1:Inv X pins σ H { s with heap:=h' }:=I.turned (t':=s.toks) (fun b o hb e=>(sb.2 b hb).trans e) f0 f1 f3 f4 f5
    obtain ⟨o,e,c,d⟩:=id st'
    exact ⟨u,rfl,FZ (s:={ s with heap:=h' }) e c d (by decide) ⟨x,H,I1,ru,⟨rfl,fun ys hy=>by rw [I.wA hy hq];exact hx⟩,st',fun b hb=>(hf b hb).1⟩⟩
  done:=by
    intro X hP hw hK hc i pins s σ H E I hf st hg
    subst hP hw hK
    obtain ⟨xs,hq,hx⟩:=hg
    obtain ⟨its,rv,p,hz⟩:=I.list hq
    obtain ⟨f0,f1,f2,f3,f4,f5⟩:=hf it (by simp)
    have hl:=rv.length
    exact wpAny_pyNext_list_end (I.ok.hd hc) st p.isList (by simp;omega) fun h' eb=>⟨rfl,I.turned (t':=s.toks) (fun b o hb e=>eb b o hb e) f0 f1 f3 f4 f5⟩
  self:=fun _ _ _ _ _ st h=>wpAny_pyIter_listiter st h
theorem qT {P:Program} {w:World} {K:PySem.W.Frag} {tg:Expr} (it:Addr) (lo:Int) (n:Nat):Turn P w K tg (Itr lo n) [it] it (fun i h=>IsRangeIter h it (lo + (i:Nat) * 1) ((n:Int) - (i:Nat)) 1) where
  mem:=by simp
  obj:=fun i h st b hb=>by
    have e:b=it:=by simpa using hb
    subst e
    exact ⟨_,st,fun v z=>by
      have z':Data.fields _=Data.cell v:=z
      cases z'⟩
  keep:=fun i h h' st k=>k it (by simp) _ st
  item:=by
    intro X hP hw hK hc i pins s σ H E I hf st hg
    subst hP hw hK
    obtain ⟨f0,f1,f2,f3,f4,f5⟩:=hf it (by simp)
    have W:=Walks.range (prog:=X.prog) (w:=X.w) (I.ok.hd hc) it lo 1 n
    refine W.item i s _ _ hg st fun v h' tk hv st' kk=>?_
    obtain ⟨t,rfl⟩:=hv
    have I1:Inv X pins σ H { s with heap:=h',toks:=tk }:=I.turned (fun b o hb e=>kk b o (by simpa using hb) e) f0 f1 f3 f4 f5
    refine ⟨_,rfl,FZ (s:={ s with heap:=h',toks:=tk }) (n:="range_iterator") st' rfl rfl (by decide) ⟨.int (lo + i),H,I1,⟨t,?_⟩,⟨rfl,rfl⟩,st',fun b hb=>(hf b hb).1⟩⟩
    rw [Int.mul_one]
  done:=by
    intro X hP hw hK hc i pins s σ H E I hf st hg
    subst hP hw hK
    obtain ⟨f0,f1,f2,f3,f4,f5⟩:=hf it (by simp)
    exact wpAny_pyNext_range_end (I.ok.hd hc) st (by have:n≤i:=hg;omega) fun h' eb=>⟨rfl,I.turned (t':=s.toks) (fun b o hb e=>eb b o hb e) f0 f1 f3 f4 f5⟩
  self:=fun _ _ _ _ _ st h=>wpAny_pyIter_rangeiter st h
end L2
namespace L2
open PySem PySem.Spec PyProof.Rows
section
variable {X:Cx} {tg:Expr}
def G8 (K:PySem.W.Frag) (tl:TE):TI:=fun σ H R=>tl σ H fun x H1=>∃ a,x=.ref a∧(∃ xs,SqL K H1 a xs)∧R (Itl K a) H1
theorem fu {l:Expr} {tl:TE} (hl:PE X l tl):PI X tg l (G8 X.K tl):=by
  intro pins s σ H R I h
  refine thn (hl pins s σ H _ I h) fun v s1 ⟨x,H1,I1,r1,q1⟩=>?_
  obtain ⟨a,e,⟨xs,hq⟩,q⟩:=q1
  subst e
  cases r1
  obtain ⟨its,rv,p,hz⟩:=I1.list hq
  refine wpAny_pyIter_list p.isList ?_
  refine ⟨s1.heap.objs.size,[s1.heap.objs.size],_,_,H1,rfl,I1.kept (t':=s1.toks) fun b o e=>Heap.get?_push_of_some _ e,rY a _,⟨_,Heap.get?_push_size _ rfl,rfl,rfl⟩,fun b hb=>?_,q⟩
  have e:b=s1.heap.objs.size:=by simpa using hb
  subst e
  exact I1.rP (Nat.le_refl _) (I1.hok.fresh (Nat.le_refl _))
theorem p8 {pins:List (Addr × Obj)} {σ:St} {H:Hp} {s:Shared} {R:It→Hp→Prop} {E:Value→Shared→Prop} {lo hi:Int} {t u v:Tok} {tk:Nat} (I:Inv X pins σ H s) (h1:-(2 ^ 62)≤lo) (h2:lo<2 ^ 62) (h3:-(2 ^ 62)≤hi) (h4:hi<2 ^ 62)
    (q:R (Itr lo (hi - lo).toNat) H):wpAny (model X.prog X.w) X.A (pyIter (.ref s.heap.objs.size)) (PIE X pins σ tg R) E { s with heap:=s.heap.push { cls:=.type "range",data:=.fields #[.int lo t,.int hi u,.int 1 v] },toks:=tk }:=by
  refine wpAny_pyIter_range (IsRange.new ..) (small_one h1 h2 h3 h4) ?_
  have I1:Inv X pins σ H { s with heap:=s.heap.push { cls:=.type "range",data:=.fields #[.int lo t,.int hi u,.int 1 v] },toks:=tk }:=I.kept fun b o e=>Heap.get?_push_of_some _ e
  refine ⟨(s.heap.push { cls:=.type "range",data:=.fields #[.int lo t,.int hi u,.int 1 v] }).objs.size,[(s.heap.push { cls:=.type "range",data:=.fields #[.int lo t,.int hi u,.int 1 v] }).objs.size],_,_,H,rfl,
    I1.kept (t':=tk) fun b o e=>Heap.get?_push_of_some _ e,qT _ lo (hi - lo).toNat,?_,fun b hb=>?_,q⟩
  · have e1:lo + ((0:Nat):Int) * 1=lo:=by simp
    have e2:(((hi - lo).toNat:Nat):Int) - ((0:Nat):Int)=Builtin.Range.rangeSize lo hi 1:=by rw [rangeSize_one];split <;> omega
    show IsRangeIter _ _ (lo + ((0:Nat):Int) * 1) ((((hi - lo).toNat:Nat):Int) - ((0:Nat):Int)) 1
    rw [e1,e2]
    exact Heap.get?_push_size _ rfl
  · have e:b=(s.heap.push { cls:=.type "range",data:=.fields #[.int lo t,.int hi u,.int 1 v] }).objs.size:=by simpa using hb
    subst e
    exact I1.rP (Nat.le_refl _) (I1.hok.fresh (Nat.le_refl _))
def G7 (ta:TA):TI:=fun σ H R=>ta σ H fun vs H1=>∃ j:Int,vs=[.int j]∧-(2 ^ 62)≤j∧j<2 ^ 62∧R (Itr 0 j.toNat) H1
def G6 (ta:TA):TI:=fun σ H R=>ta σ H fun vs H1=>∃ i j:Int,vs=[.int i,.int j]∧(-(2 ^ 62)≤i∧i<2 ^ 62∧-(2 ^ 62)≤j∧j<2 ^ 62)∧R (Itr i (j - i).toNat) H1
theorem iw {a:Expr} {ta:TA} {p pos:Pos} (hg:Gl X "range") (hm:X.mg "range"=none) (ha:PA X [a] ta) (hs:starEach [a] X.env=[(false,eval a X.env)]:=by rfl):PI X tg (.Call (.Name "range" p) [a] [] pos) (G7 ta):=by
  intro pins s σ H R I h
  refine Call_ (fZ I hg hm boot_range (PyProof.Rows.callWith_type1 (thn (ha pos pins s σ H _ I h) fun us s1 ⟨vs,H1,I1,r1,q1⟩=>?_) hs rfl))
  obtain ⟨j,e,q1,q2,q⟩:=q1
  subst e
  cases r1 with
  | cons r rr =>
    cases rr
    obtain ⟨t,rfl⟩:=r
    exact call_range_1 (p8 I1 (by omega) (by omega) q1 q2 (by simpa using q))
theorem tV {a b:Expr} {ta:TA} {p pos:Pos} (hg:Gl X "range") (hm:X.mg "range"=none) (ha:PA X [a,b] ta) (hs:starEach [a,b] X.env=[(false,eval a X.env),(false,eval b X.env)]:=by rfl) (hs2:starEach [b] X.env=[(false,eval b X.env)]:=by rfl) :
    PI X tg (.Call (.Name "range" p) [a,b] [] pos) (G6 ta):=by
  intro pins s σ H R I h
  refine Call_ (fZ I hg hm boot_range (PyProof.Rows.callWith_type1 (thn (ha pos pins s σ H _ I h) fun us s1 ⟨vs,H1,I1,r1,q1⟩=>?_) (by rw [hs,hs2]) (by rw [hs2];rfl)))
  obtain ⟨i,j,e,⟨q1,q2,q3,q4⟩,q⟩:=q1
  subst e
  cases r1 with
  | cons r rr =>
    cases rr with
    | cons r' rr =>
      cases rr
      obtain ⟨t,rfl⟩:=r
      obtain ⟨t',rfl⟩:=r'
      exact call_range_2 (p8 I1 q1 q2 q3 q4 q)
def jC (wi:TI) (g:TG) (tb:TS):TS:=fun D σ H=>wi σ H fun J H1=>∃ W:Nat→Nat→St→Hp→Prop,(∃ m,W 0 m σ H1)∧∀ i m σ H,W i m σ H →
  (J.stop i H∧D.nx σ H)∨(J.go i H∧∃ N:St→Hp→Prop,(∀ σ' H',N σ' H'→∃ m',m'<m∧W (i + 1) m' σ' H')∧∀ x H',J.yld i H x H'→g x σ H' fun σ2 H2=>tb { D with nx:=N,ct:=N,bk:=D.nx } σ2 H2)
def nq (fp:List Addr) (h:Heap):List (Addr × Obj):=fp.filterMap fun b=>(h.get? b).map fun o=>(b,o)
theorem gD {fp:List Addr} {h:Heap} {b:Addr} {o:Obj} (hb:b∈fp) (e:h.get? b=some o):(b,o)∈nq fp h:=List.mem_filterMap.mpr ⟨b,hb,by rw [e];rfl⟩
theorem ug {fp:List Addr} {h:Heap} {p:Addr × Obj} (hp:p∈nq fp h):p.1∈fp∧h.get? p.1=some p.2:=by
  obtain ⟨b,hb,e⟩:=List.mem_filterMap.mp hp
  cases q:h.get? b with
  | none=>rw [q] at e;cases e
  | some o =>
    rw [q] at e
    have e':(b,o)=p:=Option.some.inj e
    subst e'
    exact ⟨hb,q⟩
theorem Inv.pinned {pins:List (Addr × Obj)} {σ:St} {H:Hp} {s:Shared} {fp:List Addr} (I:Inv X pins σ H s) (hf:∀ b∈fp,oN X pins H b) (ho:∀ b∈fp,∃ o,s.heap.get? b=some o∧∀ v,o.data≠.cell v):Inv X (pins++nq fp s.heap) σ H s :=
  I.oX fun p hp=>(List.mem_append.mp hp).elim (fun z=>I.pin p (List.mem_append_right _ z)) fun z=>by
    obtain ⟨hb,e⟩:=ug z
    obtain ⟨f0,f1,f2,_⟩:=hf p.1 hb
    obtain ⟨o,e',d⟩:=ho p.1 hb
    rw [e] at e';cases e'
    exact ⟨e,f0,f1,f2,d⟩
theorem Inv.dR {pins pl:List (Addr × Obj)} {σ:St} {H:Hp} {s:Shared} (I:Inv X (pins++pl) σ H s):Inv X pins σ H s:=I.oX fun p hp=>I.pin p (List.mem_append_right _ (List.mem_append_left _ hp))
theorem fH {iter:Expr} {body:List Stmt} {wi:TI} {g:TG} {tb:TS} {pos:Pos} (hp:PassesOwn (model X.prog X.w) X.A X.env X.xe) (hc:X.calm=true) (hi:PI X tg iter wi) (hg:PG X tg g) (hb:PSs X body tb)
    (hs:∀ x,foldedSetIterable iter X.env x=pure x:=by intro _;rfl):PS X (.For tg iter body [] pos) (jC wi g tb):=by
  intro pins s σ H D I h
  refine wpAny_For (thn (hi pins s σ H _ I h) fun v s1 h1=>thn h1 fun itv s2 h2=>?_) hs
  obtain ⟨it,fp,tn,J,H2,e,I2,T,st2,f2,W,⟨m0,w0⟩,turn⟩:=h2
  subst e
  have stat:∀ {H':Hp},(∀ b∈fp,H' b=none)→∀ b∈fp,oN X pins H' b:=fun hn b hb=>⟨hn b hb,(f2 b hb).2⟩
  refine codeAny_forLoop_any (fun n s'=>∃ i σ' H',Inv X pins σ' H' s'∧tn i s'.heap∧(∀ b∈fp,H' b=none)∧W i n σ' H') ?_ m0 ⟨0,σ,H2,I2,st2,fun b hb=>(f2 b hb).1,w0⟩
  rintro n s3 ⟨i,σ3,H3,I3,st3,fr3,w3⟩
  rcases turn i n σ3 H3 w3 with ⟨stop,qn⟩ | ⟨go,N,hN,step⟩
  · refine wpAny_passesOwn hp (thn (T.done X rfl rfl rfl hc i pins s3 σ3 H3 X.xe I3 (stat fr3) st3 stop) fun r s4 ⟨hr,I4⟩=>?_)
    subst hr
    exact wpAny_execs_nil ⟨σ3,H3,I4,qn⟩
  · refine wpAny_passesOwn hp (thn (T.item X rfl rfl rfl hc i pins s3 σ3 H3 X.xe I3 (stat fr3) st3 go) fun r s4 ⟨u,hr,h4⟩=>?_)
    subst hr
    refine wpAny_passesOwn hp (thn h4 fun _ s5 ⟨x,H5,I5,r5,y5,st5,fr5⟩=>?_)
    have I5':=I5.pinned (stat fr5) (T.obj _ _ st5)
    refine wpAny_passesOwn hp (thn (hg _ s5 σ3 H5 x u _ I5' r5 (step x H5 y5)) fun _ s6 ⟨σ6,H6,I6,q6⟩=>?_)
    refine wpAny_passesOwn hp (thn (hb _ s6 σ6 H6 _ I6 q6) fun f s7 q7=>?_)
    have again:∀ {σ7:St} {H7:Hp},Inv X (pins++nq fp s5.heap) σ7 H7 s7→N σ7 H7→∃ m,m<n∧∃ i σ' H',Inv X pins σ' H' s7∧tn i s7.heap∧(∀ b∈fp,H' b=none)∧W i m σ' H':=fun {σ7 H7} I7 n7=>by
      obtain ⟨m',hm,w7⟩:=hN σ7 H7 n7
      refine ⟨m',hm,i + 1,σ7,H7,I7.dR,T.keep _ _ _ st5 fun b hb o e=>(I7.pin (b,o) (List.mem_append_right _ (List.mem_append_right _ (gD hb e)))).1,fun b hb=>?_,w7⟩
      obtain ⟨o,e,d⟩:=T.obj _ _ st5 b hb
      exact (I7.pin (b,o) (List.mem_append_right _ (List.mem_append_right _ (gD hb e)))).2.1
    cases f with
    | next=>obtain ⟨σ7,H7,I7,n7⟩:=q7;exact again I7 n7
    | cont=>obtain ⟨σ7,H7,I7,n7⟩:=q7;exact again I7 n7
    | brk=>obtain ⟨σ7,H7,I7,q7⟩:=q7;exact ⟨σ7,H7,I7.dR,q7⟩
    | ret v=>obtain ⟨x7,σ7,H7,I7,r7,q7⟩:=q7;exact ⟨x7,σ7,H7,I7.dR,r7,q7⟩
end
theorem iI {K:PySem.W.Frag} {a:Addr} {xs:List V} {g:TG} {tb:TS} {D:Ends} {σ:St} {H:Hp} (Pv:Nat→St→Hp→Prop) (h0:Pv 0 σ H) (hl:∀ i σ H,i≤xs.length→Pv i σ H→SqL K H a xs)
    (hs:∀ i x σ H,xs[i]?=some x→Pv i σ H→g x σ H fun σ2 H2=>tb { D with nx:=Pv (i + 1),ct:=Pv (i + 1),bk:=D.nx } σ2 H2) (hd:∀ σ H,Pv xs.length σ H→D.nx σ H) :
    ∃ W:Nat→Nat→St→Hp→Prop,(∃ m,W 0 m σ H)∧∀ i m σ H,W i m σ H →
      ((Itl K a).stop i H∧D.nx σ H)∨((Itl K a).go i H∧∃ N:St→Hp→Prop,(∀ σ' H',N σ' H'→∃ m',m'<m∧W (i + 1) m' σ' H')∧∀ x H',(Itl K a).yld i H x H'→g x σ H' fun σ2 H2=>tb { D with nx:=N,ct:=N,bk:=D.nx } σ2 H2):=by
  refine ⟨fun i m σ H=>m=xs.length - i∧i≤xs.length∧Pv i σ H,⟨xs.length,by simp,Nat.zero_le _,h0⟩,?_⟩
  rintro i m σ H ⟨rfl,hi,p⟩
  have q:=hl i σ H hi p
  by_cases hlt:i<xs.length
  · refine .inr ⟨⟨xs,xs[i],q,by simp [hlt]⟩,Pv (i + 1),fun σ' H' p'=>⟨xs.length - (i + 1),by omega,rfl,hlt,p'⟩,fun x H' y=>?_⟩
    obtain ⟨e,y⟩:=y
    subst e
    exact hs i x σ _ (y xs q) p
  · have e:i=xs.length:=by omega
    subst e
    exact .inl ⟨⟨xs,q,Nat.le_refl _⟩,hd σ H p⟩
theorem nM {lo:Int} {n:Nat} {g:TG} {tb:TS} {D:Ends} {σ:St} {H:Hp} (Pv:Nat→St→Hp→Prop) (h0:Pv 0 σ H)
    (hs:∀ i σ H,i<n→Pv i σ H→g (.int (lo + i)) σ H fun σ2 H2=>tb { D with nx:=Pv (i + 1),ct:=Pv (i + 1),bk:=D.nx } σ2 H2) (hd:∀ σ H,Pv n σ H→D.nx σ H) :
    ∃ W:Nat→Nat→St→Hp→Prop,(∃ m,W 0 m σ H)∧∀ i m σ H,W i m σ H →
      ((Itr lo n).stop i H∧D.nx σ H)∨((Itr lo n).go i H∧∃ N:St→Hp→Prop,(∀ σ' H',N σ' H'→∃ m',m'<m∧W (i + 1) m' σ' H')∧∀ x H',(Itr lo n).yld i H x H'→g x σ H' fun σ2 H2=>tb { D with nx:=N,ct:=N,bk:=D.nx } σ2 H2):=by
  refine ⟨fun i m σ H=>m=n - i∧i≤n∧Pv i σ H,⟨n,by simp,Nat.zero_le _,h0⟩,?_⟩
  rintro i m σ H ⟨rfl,hi,p⟩
  by_cases hlt:i<n
  · refine .inr ⟨hlt,Pv (i + 1),fun σ' H' p'=>⟨n - (i + 1),by omega,rfl,hlt,p'⟩,fun x H' y=>?_⟩
    obtain ⟨e,y⟩:=y
    subst e y
    exact hs i σ _ hlt p
  · have e:i=n:=by omega
    subst e
    exact .inl ⟨Nat.le_refl _,hd σ H p⟩
end L2
namespace L2
open PySem PySem.Spec PyProof.Rows
abbrev R2:=V→V→Hp→VK→Prop
def OpR (X:Cx) (f:Value→Value→Sem Value) (r:R2):Prop :=
  ∀ (pins:List (Addr × Obj)) (s:Shared) (σ:St) (H:Hp) (x y:V) (v u:Value) (Q:VK),Inv X pins σ H s→RelV x v→RelV y u→r x y H Q →
    wpAny (model X.prog X.w) X.A (f v u) (EP X pins σ Q) X.xe s
def UnR (X:Cx) (f:Value→Sem Value) (r:V→Hp→VK→Prop):Prop :=
  ∀ (pins:List (Addr × Obj)) (s:Shared) (σ:St) (H:Hp) (x:V) (v:Value) (Q:VK),Inv X pins σ H s→RelV x v→r x H Q →
    wpAny (model X.prog X.w) X.A (f v) (EP X pins σ Q) X.xe s
def oK (X:Cx) (f:Value) (r:List V→Hp→VK→Prop):Prop :=
  ∀ (pins:List (Addr × Obj)) (s:Shared) (σ:St) (H:Hp) (xs:List V) (us:List Value) (Q:VK),Inv X pins σ H s→Vals xs us→r xs H Q →
    wpAny (model X.prog X.w) X.A (call f us) (EP X pins σ Q) X.xe s
def tOp (r:R2) (ta tb:TE):TE:=fun σ H Q=>ta σ H fun x H1=>tb σ H1 fun y H2=>r x y H2 Q
def tUn (r:V→Hp→VK→Prop) (ta:TE):TE:=fun σ H Q=>ta σ H fun x H1=>r x H1 Q
def rI (C:Int→Int→Prop) (g:Int→Int→V):R2:=fun x y H Q=>∃ i j,x=.int i∧y=.int j∧C i j∧Q (g i j) H
def rI0 (g:Int→Int→V):R2:=fun x y H Q=>∃ i j,x=.int i∧y=.int j∧Q (g i j) H
def rU (g:Int→V):V→Hp→VK→Prop:=fun x H Q=>∃ i,x=.int i∧Q (g i) H
section
variable {X:Cx} {a b c:Expr} {ta tb tc:TE} {pos:Pos}
theorem Iz (ha:PE X a ta) (hb:PE X b tb) {pins:List (Addr × Obj)} {s:Shared} {σ:St} {H:Hp} {R:V→V→Hp→Prop} (I:Inv X pins σ H s)
    (h:ta σ H fun x H1=>tb σ H1 fun y H2=>R x y H2) {Q:Value→Shared→Prop} {f:Value→Value→Sem Value}
    (hf:∀ v u s2 x y H2,Inv X pins σ H2 s2→RelV x v→RelV y u→R x y H2→wpAny (model X.prog X.w) X.A (f v u) Q X.xe s2) :
    wpAny (model X.prog X.w) X.A (eval a X.env) (fun v s₁=>wpAny (model X.prog X.w) X.A (eval b X.env) (fun u s₂=>wpAny (model X.prog X.w) X.A (f v u) Q X.xe s₂) X.xe s₁) X.xe s:=by
  refine thn (ha pins s σ H _ I h) fun v s1 ⟨x,H1,I1,r1,q1⟩=>?_
  refine thn (hb pins s1 σ H1 _ I1 q1) fun u s2 ⟨y,H2,I2,r2,q2⟩=>?_
  exact hf v u s2 x y H2 I2 r1 r2 q2
theorem aM {op:Operator} {r:R2} (ho:OpR X (binaryOp op) r) (ha:PE X a ta) (hb:PE X b tb):PE X (.BinOp a op b pos) (tOp r ta tb):=by
  intro pins s σ H Q I h
  exact wpAny_BinOp (Iz ha hb I h fun v u s2 x y H2 I2 rx ry q=>ho pins s2 σ H2 x y v u Q I2 rx ry q)
theorem jN {op:UnaryOp} {r:V→Hp→VK→Prop} (ho:UnR X (unaryOp op) r) (ha:PE X a ta):PE X (.UnaryOp op a pos) (tUn r ta):=by
  intro pins s σ H Q I h
  exact UnaryOp_ (thn (ha pins s σ H _ I h) fun v s1 ⟨x,H1,I1,r1,q1⟩=>ho pins s1 σ H1 x v Q I1 r1 q1)
theorem opI {f:Value→Value→Sem Value} {C:Int→Int→Prop} {g:Int→Int→Int}
    (rule:∀ (i j:Int) (t u:Tok) (s:Shared) (Q:Value→Shared→Prop) (E:Value→Shared→Prop),C i j→Q (.int (g i j) s.toks) { s with toks:=s.toks + 1 }→wpAny (model X.prog X.w) X.A (f (.int i t) (.int j u)) Q E s) :
    OpR X f (rI C fun i j=>.int (g i j)):=by
  intro pins s σ H x y v u Q I rx ry h
  obtain ⟨i,j,rfl,rfl,hc,q⟩:=h
  obtain ⟨t,rfl⟩:=rx
  obtain ⟨t',rfl⟩:=ry
  exact rule i j t t' s _ _ hc ⟨.int (g i j),H,I.tok _,⟨_,rfl⟩,q⟩
theorem Jq {f:Value→Value→Sem Value} {g:Int→Int→Int}
    (rule:∀ (i j:Int) (t u:Tok) (s:Shared) (Q:Value→Shared→Prop) (E:Value→Shared→Prop),Q (.int (g i j) s.toks) { s with toks:=s.toks + 1 }→wpAny (model X.prog X.w) X.A (f (.int i t) (.int j u)) Q E s) :
    OpR X f (rI0 fun i j=>.int (g i j)):=by
  intro pins s σ H x y v u Q I rx ry h
  obtain ⟨i,j,rfl,rfl,q⟩:=h
  obtain ⟨t,rfl⟩:=rx
  obtain ⟨t',rfl⟩:=ry
  exact rule i j t t' s _ _ ⟨.int (g i j),H,I.tok _,⟨_,rfl⟩,q⟩
theorem Jr {f:Value→Value→Sem Value} {g:Int→Int→Bool}
    (rule:∀ (i j:Int) (t u:Tok) (s:Shared) (Q:Value→Shared→Prop) (E:Value→Shared→Prop),Q (.bool (g i j)) s→wpAny (model X.prog X.w) X.A (f (.int i t) (.int j u)) Q E s) :
    OpR X f (rI0 fun i j=>.bl (g i j)):=by
  intro pins s σ H x y v u Q I rx ry h
  obtain ⟨i,j,rfl,rfl,q⟩:=h
  obtain ⟨t,rfl⟩:=rx
  obtain ⟨t',rfl⟩:=ry
  exact rule i j t t' s _ _ ⟨.bl (g i j),H,I,rfl,q⟩
def CDiv (i j:Int):Prop:=0<j∧j<1073741824
def CPow (i j:Int):Prop:=0≤j∧j≤1000000∧i.natAbs<2 ^ 64
def Jc (i j:Int):Prop:=(-(2 ^ 64)<i∧i<2 ^ 64)∨(-(2 ^ 64)<j∧j<2 ^ 64)
theorem Jc.ok {i j:Int} (h:Jc i j):IntMulOk i j:=by
  rcases h with ⟨h1,h2⟩ | ⟨h1,h2⟩
  · exact .of_left (intBits_le_64 h1 h2)
  · exact .of_right (intBits_le_64 h1 h2)
theorem dG:OpR X (binaryOp .Add) (rI0 fun i j=>.int (i + j)):=Jq fun _ _ _ _ _ _ _ q=>add_int q
theorem jo:OpR X (binaryOp .Sub) (rI0 fun i j=>.int (i - j)):=Jq fun _ _ _ _ _ _ _ q=>sub_int q
theorem eU:OpR X (binaryOp .Mult) (rI Jc fun i j=>.int (i * j)):=opI fun _ _ _ _ _ _ _ hc q=>mul_int q hc.ok
theorem iZ:OpR X (binaryOp .FloorDiv) (rI CDiv fun i j=>.int (i / j)):=opI fun i j _ _ _ _ _ hc q=>by
  have h1:(0:Int)<j:=hc.1
  have h2:j<1073741824:=hc.2
  exact floordiv_int (by omega) (by rw [Int.fdiv_eq_ediv_of_nonneg i (by omega)];exact q) (.inl (PyProof.noPylong_small (by omega)))
theorem cM:OpR X (binaryOp .Mod) (rI (fun _ j=>0<j) fun i j=>.int (i % j)):=opI fun i j _ _ _ _ _ hc q=>by
  have h1:(0:Int)<j:=hc
  exact mod_int' (by omega) (by rw [Int.fmod_eq_emod_of_nonneg i (by omega)];exact q)
theorem tZ:OpR X (binaryOp .Pow) (rI CPow fun i j=>.int (i ^ j.toNat)):=opI fun _ _ _ _ _ _ _ hc q=>pow_int_small hc.1 hc.2.1 hc.2.2 q
theorem unI {f:Value→Sem Value} {g:Int→Int}
    (rule:∀ (i:Int) (t:Tok) (s:Shared) (Q:Value→Shared→Prop) (E:Value→Shared→Prop),Q (.int (g i) s.toks) { s with toks:=s.toks + 1 }→wpAny (model X.prog X.w) X.A (f (.int i t)) Q E s) :
    UnR X f (rU fun i=>.int (g i)):=by
  intro pins s σ H x v Q I rx h
  obtain ⟨i,rfl,q⟩:=h
  obtain ⟨t,rfl⟩:=rx
  exact rule i t s _ _ ⟨.int (g i),H,I.tok _,⟨_,rfl⟩,q⟩
theorem fO:UnR X (unaryOp .USub) (rU fun i=>.int (-i)):=unI fun _ _ _ _ _ q=>neg_int q
end
def Jj:V→V→Bool
  | .non,.non=>true | .non,.int _=>true | .int _,.non=>true | .non,.bl _=>true | .bl _,.non=>true | .non,.str _=>true | .str _,.non=>true
  | .int _,.int _=>true | .bl _,.bl _=>true | .str _,.str _=>true | .byt _,.byt _=>true
  | .int _,.str _=>true | .str _,.int _=>true | .bl _,.str _=>true | .str _,.bl _=>true
  | _,_=>false
def rEq:R2:=fun x y H Q=>Jj x y=true∧Q (.bl (decide (x=y))) H
def rNe:R2:=fun x y H Q=>Jj x y=true∧Q (.bl (!decide (x=y))) H
theorem uP {i j:Int}:decide (V.int i=V.int j)=(i == j):=by
  rw [Bool.eq_iff_iff]
  simp
theorem zP {i j:Bool}:decide (V.bl i=V.bl j)=(i == j):=by
  rw [Bool.eq_iff_iff]
  simp
theorem uO {i j:Str}:decide (V.str i=V.str j)=(i == j):=by
  rw [Bool.eq_iff_iff]
  simp
theorem uQ {i j:Array UInt8}:decide (V.byt i=V.byt j)=(i.toList == j.toList):=by
  rw [Bool.eq_iff_iff]
  cases i
  cases j
  simp
section
variable {X:Cx} {a b c:Expr} {ta tb tc:TE} {pos:Pos}
theorem bJ {pins:List (Addr × Obj)} {σ:St} {H:Hp} {s:Shared} {Q:VK} {k k':Bool} (I:Inv X pins σ H s) (q:Q (.bl k) H) (e:k=k'):EP X pins σ Q (.bool k') s:=by
  subst e
  exact ⟨.bl k,H,I,rfl,q⟩
theorem rB:OpR X (compareOp .Eq) rEq:=by
  intro pins s σ H x y v u Q I rx ry h
  obtain ⟨hs,q⟩:=h
  cases x with
  | non =>
    cases rx
    cases y with
    | non=>cases ry;exact PySem.EqNone.eq_none_none (bJ I q (by simp))
    | bl j=>cases ry;exact PySem.EqNone.eq_none_bool (bJ I q (by simp))
    | int j=>obtain ⟨t',rfl⟩:=ry;exact PySem.EqNone.eq_none_int (bJ I q (by simp))
    | str j=>obtain ⟨t',rfl⟩:=ry;exact PySem.EqNone.eq_none_str (bJ I q (by simp))
    | _=>exact absurd (show false=true from hs) Bool.false_ne_true
  | bl i =>
    cases rx
    cases y with
    | non=>cases ry;exact PySem.EqNone.eq_bool_none (bJ I q (by simp))
    | bl j=>cases ry;exact eq_bool (bJ I q zP)
    | str j=>obtain ⟨t',rfl⟩:=ry;exact PySem.EqMixed.eq_bool_str (bJ I q (by simp))
    | _=>exact absurd (show false=true from hs) Bool.false_ne_true
  | int i =>
    obtain ⟨t,rfl⟩:=rx
    cases y with
    | non=>cases ry;exact PySem.EqNone.eq_int_none (bJ I q (by simp))
    | int j=>obtain ⟨t',rfl⟩:=ry;exact eq_int (bJ I q uP)
    | str j=>obtain ⟨t',rfl⟩:=ry;exact PySem.EqMixed.eq_int_str (bJ I q (by simp))
    | _=>exact absurd (show false=true from hs) Bool.false_ne_true
  | str i =>
    obtain ⟨t,rfl⟩:=rx
    cases y with
    | non=>cases ry;exact PySem.EqNone.eq_str_none (bJ I q (by simp))
    | bl j=>cases ry;exact PySem.EqMixed.eq_str_bool (bJ I q (by simp))
    | int j=>obtain ⟨t',rfl⟩:=ry;exact PySem.EqMixed.eq_str_int (bJ I q (by simp))
    | str j=>obtain ⟨t',rfl⟩:=ry;exact eq_str (bJ I q uO)
    | _=>exact absurd (show false=true from hs) Bool.false_ne_true
  | byt i =>
    obtain ⟨t,rfl⟩:=rx
    cases y with
    | byt j=>obtain ⟨t',rfl⟩:=ry;exact PySem.W.eq_bytes (bJ I q uQ)
    | _=>exact absurd (show false=true from hs) Bool.false_ne_true
  | _=>cases y <;> exact absurd (show false=true from hs) Bool.false_ne_true
theorem Aj:OpR X (compareOp .NotEq) rNe:=by
  intro pins s σ H x y v u Q I rx ry h
  obtain ⟨hs,q⟩:=h
  cases x with
  | non =>
    cases rx
    cases y with
    | non=>cases ry;exact PySem.EqNone.ne_none_none (bJ I q (by simp))
    | bl j=>cases ry;exact PySem.EqNone.ne_none_bool (bJ I q (by simp))
    | int j=>obtain ⟨t',rfl⟩:=ry;exact PySem.EqNone.ne_none_int (bJ I q (by simp))
    | str j=>obtain ⟨t',rfl⟩:=ry;exact PySem.EqNone.ne_none_str (bJ I q (by simp))
    | _=>exact absurd (show false=true from hs) Bool.false_ne_true
  | bl i =>
    cases rx
    cases y with
    | non=>cases ry;exact PySem.EqNone.ne_bool_none (bJ I q (by simp))
    | bl j=>cases ry;exact ne_bool (bJ I q (congrArg not zP))
    | str j=>obtain ⟨t',rfl⟩:=ry;exact PySem.EqMixed.ne_bool_str (bJ I q (by simp))
    | _=>exact absurd (show false=true from hs) Bool.false_ne_true
  | int i =>
    obtain ⟨t,rfl⟩:=rx
    cases y with
    | non=>cases ry;exact PySem.EqNone.ne_int_none (bJ I q (by simp))
    | int j=>obtain ⟨t',rfl⟩:=ry;exact ne_int (bJ I q (congrArg not uP))
    | str j=>obtain ⟨t',rfl⟩:=ry;exact PySem.EqMixed.ne_int_str (bJ I q (by simp))
    | _=>exact absurd (show false=true from hs) Bool.false_ne_true
  | str i =>
    obtain ⟨t,rfl⟩:=rx
    cases y with
    | non=>cases ry;exact PySem.EqNone.ne_str_none (bJ I q (by simp))
    | bl j=>cases ry;exact PySem.EqMixed.ne_str_bool (bJ I q (by simp))
    | int j=>obtain ⟨t',rfl⟩:=ry;exact PySem.EqMixed.ne_str_int (bJ I q (by simp))
    | str j=>obtain ⟨t',rfl⟩:=ry;exact ne_str (bJ I q (congrArg not uO))
    | _=>exact absurd (show false=true from hs) Bool.false_ne_true
  | byt i =>
    obtain ⟨t,rfl⟩:=rx
    cases y with
    | byt j=>obtain ⟨t',rfl⟩:=ry;exact PySem.W.ne_bytes (bJ I q (congrArg not uQ))
    | _=>exact absurd (show false=true from hs) Bool.false_ne_true
  | _=>cases y <;> exact absurd (show false=true from hs) Bool.false_ne_true
theorem G4:OpR X (compareOp .Lt) (rI0 fun i j=>.bl (decide (i<j))):=Jr fun _ _ _ _ _ _ _ q=>lt_int q
theorem BR:OpR X (compareOp .Gt) (rI0 fun i j=>.bl (decide (j<i))):=Jr fun _ _ _ _ _ _ _ q=>gt_int q
theorem dB (b:Expr) {op:CmpOp} (h:op≠.In:=by decide) (h2:op≠.NotIn:=by decide):behindInMarks op b=false:=by
  have e1:(op == CmpOp.In)=false:=by cases op <;> first | rfl | exact absurd rfl h
  have e2:(op == CmpOp.NotIn)=false:=by cases op <;> first | rfl | exact absurd rfl h2
  cases b <;> simp [behindInMarks,e1,e2]
theorem jO {op:CmpOp} {r:R2} (ho:OpR X (compareOp op) r) (ha:PE X a ta) (hb:PE X b tb) (hm:behindInMarks op b=false):PE X (.Compare a [op] [b] pos) (tOp r ta tb):=by
  intro pins s σ H Q I h
  exact wpAny_Compare1 (Iz ha hb I h fun v u s2 x y H2 I2 rx ry q=>ho pins s2 σ H2 x y v u Q I2 rx ry q) hm
def Gq (t:TE):TT:=fun σ H Q=>t σ H fun x H'=>∃ k,x=.bl k∧Q k H'
theorem cu {op:CmpOp} {r:R2} (ho:OpR X (compareOp op) r) (ha:PE X a ta) (hb:PE X b tb) (hm:behindInMarks op b=false):PT X (.Compare a [op] [b] pos) (Gq (tOp r ta tb)):=by
  intro pins s σ H Q I h
  refine wpAny_isTrue_Compare1 (thn (ha pins s σ H _ I h) fun v s1 ⟨x,H1,I1,r1,q1⟩=>thn (hb pins s1 σ H1 _ I1 q1) fun u s2 ⟨y,H2,I2,r2,q2⟩ =>
    thn (ho pins s2 σ H2 x y v u _ I2 r1 r2 q2) fun c s3 ⟨z,H3,I3,r3,k,e,q3⟩=>?_) hm
  subst e
  cases r3
  exact wpAny_truthy_bool ⟨H3,I3,q3⟩
theorem lA:(sizeLine:Nat)<2 ^ 63:=by rw [sizeLine_eq];decide
theorem vals1 {x:V} {us:List Value} (r:Vals [x] us):∃ u,us=[u]∧RelV x u:=by
  cases r with
  | cons r1 r2=>cases r2;exact ⟨_,rfl,r1⟩
theorem vals2 {x y:V} {us:List Value} (r:Vals [x,y] us):∃ u w',us=[u,w']∧RelV x u∧RelV y w':=by
  cases r with
  | cons r1 r2 =>
    cases r2 with
    | cons r3 r4=>cases r4;exact ⟨_,_,rfl,r1,r3⟩
theorem nP (hc:X.calm=true):oK X (.builtin "max") (fun xs H Q=>∃ i j,xs=[.int i,.int j]∧Q (.int (if j > i then j else i)) H):=by
  intro pins s σ H xs us Q I r h
  obtain ⟨i,j,rfl,q⟩:=h
  obtain ⟨u,w',rfl,⟨t,rfl⟩,⟨t',rfl⟩⟩:=vals2 r
  refine max_two_ints (I.ok.hd hc) fun h' tk k=>⟨_,H,I.kept k,?_,q⟩
  by_cases hj:j > i
  · rw [if_pos hj,if_pos hj];exact ⟨_,rfl⟩
  · rw [if_neg hj,if_neg hj];exact ⟨_,rfl⟩
end
end L2
namespace L2
open PySem PySem.Spec PyProof.Rows
structure Ja (h:Heap) (x dx C:Addr) (mA:Str→Option Value):Prop where
  obj:h.get? x=some (PySem.W.instObj C dx)
  ns:h.Ns1 dx mA
  ne:dx≠x
theorem uw {h:Heap} {dx:Addr} {mA:Str→Option Value} (n:h.Ns1 dx mA):∃ od,h.get? dx=some od∧∀ name,PySem.W.lookIn name od=some (mA name):=by
  obtain ⟨o,es,ep,ho,hd,hk,_,hm⟩:=n
  refine ⟨o,ho,fun name=>?_⟩
  have e:=hm name
  unfold nsFind findBy at e
  rw [← Array.find?_toList] at e
  unfold PySem.W.lookIn
  rw [hd]
  dsimp only
  split
  · rename_i y q
    rw [q] at e
    exact congrArg some e
  · rename_i q
    rw [q] at e
    have a:es.toList.any (·.refKey)=false:=by
      rw [List.any_eq_false]
      intro y hy
      obtain ⟨z,t,hkey⟩:=hk y (Array.mem_toList_iff.mp hy)
      simp [DictEntry.refKey,hkey]
    have a':¬ es.toList.any (·.refKey)=true:=by rw [a];exact Bool.false_ne_true
    rw [if_neg a']
    exact congrArg some e
theorem Ja.look {h:Heap} {x dx C:Addr} {mA:Str→Option Value} (I:Ja h x dx C mA):∃ od,PySem.W.InstAt h x (PySem.W.instObj C dx) C (some od)∧∀ name,PySem.W.lookIn name od=some (mA name) :=
  let ⟨od,ho,hl⟩:=uw I.ns
  ⟨od,⟨I.obj,rfl,rfl,ho⟩,hl⟩
section
variable {prog:Program} {w:World} {A:Around} {E:Value→Shared→Prop} {s:Shared} {K:PySem.W.Frag} {x dx C f:Addr} {mA:Str→Option Value} {name:Str} {v:Value}
end
section
variable {P:Program} {w:World} {H H':Hp} {h h':Heap} {a C dx:Addr} {fs fs':List (Str × V)}
theorem Bd (hok:HOk P w H h) (e:H a=some (.ins C dx fs)):∃ mA,Ja h a dx C mA∧(∀ f,IV (fs.lookup f) (mA f))∧PySem.Within mA (fs.map (·.1))∧fs.length≤1000∧H dx=some (.own a):=by
  obtain ⟨d,z,ne,ob,mA,n,r,q⟩:=(show d9 P w H h a (.ins C dx fs) from hok a _ e)
  exact ⟨mA,⟨ob,n,ne⟩,r,q,z,d⟩
end
structure Cls (K:PySem.W.Frag) (C:Addr):Prop where
  pg:PySem.W.plainGet K C Str.empty=true
  hd:PySem.W.hasDictIn K C=true
  po:PySem.W.plainOver K C=true
  sa:PySem.W.findIn K (.ref C) "__setattr__"=some (some (.builtin "object.__setattr__"))
theorem Cls.get {K:PySem.W.Frag} {C:Addr} (c:Cls K C) (f:Str):PySem.W.plainGet K C f=true:=c.pg
section
variable {X:Cx} {pins:List (Addr × Obj)} {σ:St} {H:Hp} {s:Shared} {a C dx:Addr} {fs:List (Str × V)} {f:Str} {v:V} {A:Around} {E:Value→Shared→Prop}
end
section
variable {X:Cx} {o e value:Expr} {f:Str} {pos pos' tpos:Pos} {ta tv:TE}
end
section
variable {X:Cx} {pins:List (Addr × Obj)} {σ:St} {H:Hp} {s:Shared} {A:Around} {E:Value→Shared→Prop} {Q:Value→Shared→Prop} {c:Value} {b:Bool}
inductive qM (K:PySem.W.Frag) (H:Hp):V→Value→Prop where
  | non:qM K H .non (.type "NoneType")
  | bl (x:Bool):qM K H (.bl x) (.type "bool")
  | int (i:Int):qM K H (.int i) (.type "int")
  | str (x:Str):qM K H (.str x) (.type "str")
  | flt (x:UInt64):qM K H (.flt x) (.type "float")
  | lst {a:Addr} {xs:List V} (e:H a=some (.lst xs)):qM K H (.ref a) (.type "list")
  | frz {a:Addr} {o:Obj} {xs:List V} (e:H a=some (.frz o (.lst xs))):qM K H (.ref a) (.type "list")
  | tup {a:Addr} {xs:List V} (e:H a=some (.tup xs)):qM K H (.ref a) (.type "tuple")
  | dK {a:Addr} {kvs:List (Key × V)} (e:H a=some (.dK kvs)):qM K H (.ref a) (.type "dict")
  | dT {a:Addr} {kvs:List (List Key × V)} (e:H a=some (.dT kvs)):qM K H (.ref a) (.type "dict")
  | ins {a C dx:Addr} {fs:List (Str × V)} (e:H a=some (.ins C dx fs)) (cl:Cls K C) (ha:PySem.W.findIn K (.ref C) "__class__"=some (some (.builtin "object.__class__")))
      (hn:PySem.W.specialIn K (.builtin "object.__class__") "__get__"=some (some (.builtin "getset_descriptor.__get__"))) (htk:PySem.W.takesIn K (.builtin "object.__class__")=some true)
      (hm:PySem.W.mroIn K C (.type "object")=some true):qM K H (.ref a) (.ref C)
theorem uD {x:V} {u t:Value} (I:Inv X pins σ H s) (rx:RelV x u) (ty:qM X.K H x t) (e:PySem.W.kitOne X.K t c=some b) (h:∀ tk,Q (.bool b) { s with toks:=tk }) :
    wpAny (model X.prog X.w) A (call (.builtin "isinstance") [u,c]) Q E s:=by
  cases ty with
  | non=>cases (show u=Value.none from rx);exact PySem.W.kia_one PySem.W.kitx_none I.kIn True.intro e (fun z=>nomatch z) h
  | bl y=>cases (show u=Value.bool y from rx);exact PySem.W.kia_one PySem.W.kitx_bool I.kIn True.intro e (fun z=>nomatch z) h
  | int i=>obtain ⟨t,q⟩:=(show ∃ t,u=Value.int i t from rx);cases q;exact PySem.W.kia_one PySem.W.kitx_int I.kIn True.intro e (fun z=>nomatch z) h
  | str y=>obtain ⟨t,q⟩:=(show ∃ t,u=Value.str y t from rx);cases q;exact PySem.W.kia_one PySem.W.kitx_str I.kIn True.intro e (fun z=>nomatch z) h
  | flt y=>obtain ⟨t,q⟩:=(show ∃ t,u=Value.float y t from rx);cases q;exact PySem.W.kia_one PySem.W.kitx_float I.kIn True.intro e (fun z=>nomatch z) h
  | @lst a xs ea =>
    cases (show u=Value.ref a from rx)
    obtain ⟨_,_,n,_,h1⟩:=(show d9 X.prog X.w H s.heap a (.lst xs) from I.hok a _ ea)
    exact PySem.W.kia_one PySem.W.kitx_list I.kIn ⟨_,h1,rfl⟩ e (fun z=>nomatch z) h
  | @frz a ob xs ea =>
    cases (show u=Value.ref a from rx)
    obtain ⟨_,_,_,n,_,h1⟩:=(show d9 X.prog X.w H s.heap a (.frz ob (.lst xs)) from I.hok a _ ea)
    exact PySem.W.kia_one PySem.W.kitx_list I.kIn ⟨_,h1,rfl⟩ e (fun z=>nomatch z) h
  | @tup a xs ea =>
    cases (show u=Value.ref a from rx)
    obtain ⟨_,_,_,p⟩:=(show d9 X.prog X.w H s.heap a (.tup xs) from I.hok a _ ea)
    obtain ⟨o,h1,h2,_⟩:=p
    exact PySem.W.kia_one PySem.W.kitx_tuple I.kIn ⟨o,h1,h2⟩ e (fun z=>nomatch z) h
  | @dK a kvs ea =>
    cases (show u=Value.ref a from rx)
    obtain ⟨_,_,vs,_,p⟩:=(show d9 X.prog X.w H s.heap a (.dK kvs) from I.hok a _ ea)
    obtain ⟨o,es,ep,h1,h2,_⟩:=p
    exact PySem.W.kia_one PySem.W.kitx_dict I.kIn ⟨o,h1,h2.1⟩ e (fun z=>nomatch z) h
  | @dT a kvs ea =>
    cases (show u=Value.ref a from rx)
    obtain ⟨_,_,xs,_,o,es,ep,h1,h2,_⟩:=(show d9 X.prog X.w H s.heap a (.dT kvs) from I.hok a _ ea)
    exact PySem.W.kia_one PySem.W.kitx_dict I.kIn ⟨o,h1,h2.1⟩ e (fun z=>nomatch z) h
  | @ins a C dx fs ea cl ha hn htk hm =>
    cases (show u=Value.ref a from rx)
    obtain ⟨mA,O,_⟩:=Bd I.hok ea
    obtain ⟨od,J,_⟩:=O.look
    exact PySem.W.kia_one (PySem.W.kitx_own (cl.get _) cl.hd ha hn htk hm) I.kIn J e (fun z=>nomatch z) h
end
end L2
namespace L2
open PySem PySem.Spec PyProof.Rows
structure j9 (k:Nat) (A:Around):Prop where
  hd:A.handled=none
  dp:A.depth + 3 * k + 5<recursionLimit
  un:A.units + 16 * k + 200<cLine
theorem j9.mono {j k:Nat} {A:Around} (r:j9 k A) (h:j≤k):j9 j A:=⟨r.hd,by have:=r.dp;omega,by have:=r.un;omega⟩
theorem j9.deeper {k:Nat} {A:Around} (r:j9 (k + 1) A) (env:Env):j9 k (A.deeper env) :=
  ⟨r.hd,by have:=r.dp;show A.depth + 1 + 3 * k + 5<_;omega,by have:=r.un;show A.units + 3 + 16 * k + 200<_;omega⟩
theorem j9.depth {k:Nat} {A:Around} (r:j9 k A):A.depth<recursionLimit:=by have:=r.dp;omega
theorem j9.units {k:Nat} {A:Around} (r:j9 k A):A.units + 64<cLine:=by have:=r.un;omega
def tNil:TA:=fun _ H Q=>Q [] H
def Gx (ta:TE) (tr:TA):TA:=fun σ H Q=>ta σ H fun x H1=>tr σ H1 fun xs H2=>Q (x :: xs) H2
section
variable {X:Cx} {e:Expr} {es:List Expr} {te:TE} {t:TA} {pos:Pos}
theorem au:PA X [] tNil:=fun _ _ _ _ H Q I h=>Calls.spliced_nil ⟨[],H,I,.nil,h⟩
theorem ak (ha:PE X e te) (hr:PA X es t) (hs:starEach (e :: es) X.env=(false,eval e X.env) :: starEach es X.env:=by rfl):PA X (e :: es) (Gx te t):=by
  intro pos pins s σ H Q I h
  rw [hs]
  show wpAny _ _ (spliced ((false,eval e X.env) :: backTo pos (starEach es X.env))) _ _ s
  refine Calls.spliced_cons (thn (ha pins s σ H _ I h) fun u s1 ⟨x,H1,I1,r1,q1⟩=>?_)
  exact thn (hr pos pins s1 σ H1 _ I1 q1) fun us s2 ⟨xs,H2,I2,r2,q2⟩=>⟨x :: xs,H2,I2,.cons r1 r2,q2⟩
def tTup (t:TA):TE:=fun σ H Q=>t σ H fun xs H1=>xs.length≤sizeLine∧∀ p,H1 p=none→Q (.ref p) (upd H1 p (.tup xs))
def tLst (t:TA):TE:=fun σ H Q=>t σ H fun xs H1=>xs.length≤sizeLine∧∀ p,H1 p=none→Q (.ref p) (upd H1 p (.lst xs))
theorem tX {x1} (h:PA X es t):PE X (.Tuple es x1 pos) (tTup t):=by
  intro pins s σ H Q I hq
  refine wpAny_Tuple_spliced (thn (h pos pins s σ H _ I hq) fun us s1 ⟨xs,H1,I1,r,z,q⟩=>⟨by rw [← r.length];exact z,?_⟩)
  have hf:H1 s1.heap.objs.size=none:=I1.hok.fresh (Nat.le_refl _)
  refine ⟨.ref s1.heap.objs.size,upd H1 s1.heap.objs.size (.tup xs),I1.laid (t':=s1.toks) (fun b u e=>Heap.get?_push_of_some _ e) (Nat.le_refl _) ?_,rfl,q _ hf⟩
  exact ⟨z,us,r,⟨_,Heap.get?_push_size _ rfl,rfl,_,rfl⟩⟩
theorem dO (h:PA X es t):PE X (.List es pos) (tLst t):=by
  intro pins s σ H Q I hq
  refine wpAny_List_spliced (thn (h pos pins s σ H _ I hq) fun us s1 ⟨xs,H1,I1,r,z,q⟩=>⟨by rw [← r.length];exact z,?_⟩)
  have hf:H1 s1.heap.objs.size=none:=I1.hok.fresh (Nat.le_refl _)
  refine ⟨.ref s1.heap.objs.size,upd H1 s1.heap.objs.size (.lst xs),I1.laid (t':=s1.toks) (fun b u e=>Heap.get?_push_of_some _ e) (Nat.le_refl _) ?_,rfl,q _ hf⟩
  exact ⟨z,us,0,r,Heap.get?_push_size _ rfl⟩
end
abbrev Sp:=List V→Hp→VK→XK→Prop
abbrev CXT:=List Env→Hp→Shared→XK→Value→Shared→Prop
structure Gm (P:Program) (w:World) (K:PySem.W.Frag) (mg:Str→Option Value) (base:Heap) (A:Around) (outer:List Env) (s:Shared) (H:Hp):Prop where
  frames:A.frames=some outer
  mod:Mod K mg base
  bs:∀ b o,base.get? b=some o→s.heap.get? b=some o∧H b=none
  bsz:base.objs.size≤s.heap.objs.size
  uH:s.heap.FunFrames base outer
  frf:∀ b∈frs outer,H b=none
  hok:HOk P w H s.heap
  bare:AllBare s.gens
def CE (outer:List Env) (P:Program) (w:World) (H:Hp) (s:Shared) (Q:VK) (u:Value) (s':Shared):Prop :=
  ∃ v H',s'.os=s.os∧AllBare s'.gens∧Un (frs outer) [] H H' s.heap s'.heap∧HOk P w H' s'.heap∧RelV v u∧Q v H'
def CR (CX:CXT) (outer:List Env) (P:Program) (w:World) (H:Hp) (s:Shared) (Q:VK) (E:XK) (r:Result) (s':Shared):Prop :=
  match r with
  | .ok (.ret u)=>CE outer P w H s Q u s'
  | .ok _=>False
  | .error e=>CX outer H s E e s'
structure cR (P:Program) (w:World) (K:PySem.W.Frag) (mg:Str→Option Value) (base:Heap) (CX:CXT) (k:Nat) (f:Addr) (fd:FuncData) (ps:List Str) (sp:Sp):Prop where
  len:∀ vs H Q E,sp vs H Q E→vs.length=ps.length
  run:∀ (A:Around) (outer:List Env) (s:Shared) (H:Hp) (args:Args) (us:List Value) (vs:List V) (Q:VK) (E:XK),j9 k A→Gm P w K mg base A outer s H→BindsTo s fd args (ps.zip us)→Vals vs us→sp vs H Q E →
    codeAny (model P w) A (.call (.ref f) args) (CR CX outer P w H s Q E) s
section
variable {X:Cx} {pins:List (Addr × Obj)} {σ:St} {H:Hp} {s s':Shared}
theorem Inv.env0 (I:Inv X pins σ H s):Gm X.prog X.w X.K X.mg X.base X.A X.stack s H :=
  ⟨I.ok.frames,I.ok.mod,I.bs,Nat.le_trans I.ok.bsz I.sz,I.stack,I.oV,I.hok,I.bare⟩
theorem Inv.after {Q:VK} {u:Value} (I:Inv X pins σ H s) (h:CE X.stack X.prog X.w H s Q u s'):EP X pins σ Q u s':=by
  obtain ⟨v,H',os,bare,un,hok,r,q⟩:=h
  obtain ⟨hh,g,d,t,os'⟩:=s'
  obtain rfl:os'=s.os:=os
  exact ⟨v,H',I.call (h':=hh) (g':=g) (d':=d) (t':=t) (ch:=[]) un hok bare (fun b z=>absurd z (by simp)),r,q⟩
end
def Gy (sp:Sp) (dvs:List V) (E:XK) (t:TA):TE:=fun σ H Q=>t σ H fun vs H1=>sp (vs++dvs) H1 Q E
def Binds (K:PySem.W.Frag) (fd:FuncData) (ps:List Str) (ds:List Value):Prop :=
  ∀ (s:Shared) (us:List Value),K.In s.heap→(us++ds).length=ps.length→BindsTo s fd ⟨us,[]⟩ (ps.zip (us++ds))
theorem Binds.all {K:PySem.W.Frag} {fd:FuncData} {ps:List Str} (h:∀ us:List Value,us.length=ps.length→bindArgs fd ⟨us,[]⟩=pure (ps.zip us)):Binds K fd ps []:=fun s us _ hl=>by
  rw [List.append_nil] at hl ⊢
  exact .of_eq (h us hl)
def Passes (CX:CXT) (X:Cx) (E:XK):Prop:=∀ (pins:List (Addr × Obj)) (σ:St) (H:Hp) (s:Shared) (e:Value) (s':Shared),Inv X pins σ H s→CX X.stack H s E e s'→X.xe e s'
section
variable {X:Cx} {CX:CXT} {k:Nat} {f C:Addr} {fd:FuncData} {ps:List Str} {sp:Sp} {dvs:List V} {ds:List Value} {E:XK} {x m:Str} {p pos apos:Pos} {e o:Expr} {es:List Expr} {ta:TE} {t:TA}
theorem Bw {pins:List (Addr × Obj)} {σ:St} {H:Hp} {s:Shared} {Q:VK} {us:List Value} {vs:List V} (F:cR X.prog X.w X.K X.mg X.base CX k f fd ps sp) (hr:j9 k X.A) (hb:Binds X.K fd ps ds) (hd:Vals dvs ds) (hx:Passes CX X E)
    (I:Inv X pins σ H s) (r:Vals vs us) (h:sp (vs++dvs) H Q E):wpAny (model X.prog X.w) X.A (call (.ref f) us) (EP X pins σ Q) X.xe s:=by
  have r2:Vals (vs++dvs) (us++ds):=r.append hd
  have hl:(us++ds).length=ps.length:=by rw [← r2.length];exact F.len _ _ _ _ h
  refine wpAny_call (codeAny_mono (F.run X.A X.stack s H ⟨us,[]⟩ (us++ds) (vs++dvs) Q E hr I.env0 (hb s us I.kIn hl) r2 h) fun r s' hq=>?_)
  cases r with
  | error e=>exact hx pins σ H s e s' I hq
  | ok fl =>
    cases fl with
    | ret u=>exact I.after hq
    | next=>exact False.elim hq
    | brk=>exact False.elim hq
    | cont=>exact False.elim hq
theorem aJ (F:cR X.prog X.w X.K X.mg X.base CX k f fd ps sp) (hr:j9 k X.A) (hg:Gl X x) (hm:X.mg x=some (.ref f)) (hk:PySem.W.keepIn X.K (.ref f)=true) (hb:Binds X.K fd ps ds) (hd:Vals dvs ds) (hx:Passes CX X E)
    (ha:PA X (e :: es) t) (hdb:(x == ("__debug__":Str))=false:=by decide) (he:starEach (e :: es) X.env=(false,eval e X.env) :: starEach es X.env:=by rfl) (hpl:(backTo pos (starEach es X.env)).any (·.1)=false:=by rfl) :
    PE X (.Call (.Name x p) (e :: es) [] pos) (Gy sp dvs E t):=by
  intro pins s σ H Q I h
  refine wpAny_Call_Name_kw (ux I hg hm ?_ hdb)
  refine PySem.W.callWith_K (h₀:=X.base) I.ok.mod.kin hk (thn (ha pos pins s σ H _ I h) fun us s1 ⟨vs,H1,I1,r,q⟩=>⟨I1.kIn,?_⟩) he hpl
  exact Bw F hr hb hd hx I1 r q
end
section
variable {X:Cx} {CX:CXT} {k:Nat} {f C:Addr} {fd:FuncData} {ps ks:List Str} {sp:Sp} {E:XK} {x m:Str} {p pos apos kpos:Pos} {e o:Expr} {es:List Expr} {kws:List Keyword} {te ta:TE} {t tk:TA} {nm:Option Str}
variable {g:List Value→List Value→List Value} {gV:List V→List V→List V}
end
structure aU (N P:List Str) (sc:Scope):Prop where
  kind:sc.kind=.function
  co:sc.isCoroutine=false
  gen:sc.isGenerator=false
  nd:N.Nodup
  pre:N.take P.length=P
  par:∀ x∈P,sc.names.lookup x=some .local∨sc.names.lookup x=some .cell
  nofree:∀ y∈sc.names,y.2≠.free
theorem nU {kindOf:Str→Option NameKind} {x:Str}:∀ {binds:List (Str × Value)} {m:Str→Option Value},(∀ v,(x,v) ∉ binds)→bindL kindOf binds m x=m x
  | [],_,_=>rfl
  | (n,v) :: r,m,h=>by
    unfold bindL
    rw [nU fun w hw=>h w (List.mem_cons_of_mem _ hw)]
    split
    · have:x≠n:=by rintro rfl;exact h v List.mem_cons_self
      simp [this]
    · rfl
theorem nZ {kindOf:Str→Option NameKind} {x:Str}:∀ {binds:List (Str × Value)} {m:Str→Option Value},(∀ v,(x,v) ∉ binds)→bindC kindOf binds m x=m x
  | [],_,_=>rfl
  | (n,v) :: r,m,h=>by
    unfold bindC
    rw [nZ fun w hw=>h w (List.mem_cons_of_mem _ hw)]
    split
    · rfl
    · have:x≠n:=by rintro rfl;exact h v List.mem_cons_self
      simp [this]
theorem nW {kindOf:Str→Option NameKind} {x:Str} {v:Value}:∀ {P:List Str} {vs:List Value} {i:Nat} {m:Str→Option Value},P.Nodup→P[i]?=some x→vs[i]?=some v→kindOf x=some .local →
    bindL kindOf (P.zip vs) m x=some v
  | [],_,_,_,_,h,_,_=>by simp at h
  | _ :: _,[],_,_,_,_,h,_=>by simp at h
  | p :: P,w :: vs,0,m,nd,h1,h2,hk=>by
    simp at h1 h2;subst h1;subst h2
    show bindL kindOf ((p,w) :: P.zip vs) m p=_
    unfold bindL
    rw [nU fun v hv=>(List.nodup_cons.mp nd).1 (List.of_mem_zip hv).1,if_pos hk]
    simp
  | p :: P,w :: vs,i + 1,m,nd,h1,h2,hk=>by
    show bindL kindOf ((p,w) :: P.zip vs) m x=_
    unfold bindL
    exact nW (i:=i) (List.nodup_cons.mp nd).2 (by simpa using h1) (by simpa using h2) hk
theorem n6 {kindOf:Str→Option NameKind} {x:Str} {v:Value}:∀ {P:List Str} {vs:List Value} {i:Nat} {m:Str→Option Value},P.Nodup→P[i]?=some x→vs[i]?=some v→kindOf x≠some .local →
    bindC kindOf (P.zip vs) m x=some v
  | [],_,_,_,_,h,_,_=>by simp at h
  | _ :: _,[],_,_,_,_,h,_=>by simp at h
  | p :: P,w :: vs,0,m,nd,h1,h2,hk=>by
    simp at h1 h2;subst h1;subst h2
    show bindC kindOf ((p,w) :: P.zip vs) m p=_
    unfold bindC
    rw [nZ fun v hv=>(List.nodup_cons.mp nd).1 (List.of_mem_zip hv).1,if_neg hk]
    simp
  | p :: P,w :: vs,i + 1,m,nd,h1,h2,hk=>by
    show bindC kindOf ((p,w) :: P.zip vs) m x=_
    unfold bindC
    exact n6 (i:=i) (List.nodup_cons.mp nd).2 (by simpa using h1) (by simpa using h2) hk
def start (N:List Str) (vs:List V):St:=vs.map some++List.replicate (N.length - vs.length) none
def Bj (CX:CXT) (P:Program) (w:World) (K:PySem.W.Frag) (mg:Str→Option Value) (base:Heap) (N:List Str) (qual:Str) (scope:Scope) (f:Addr) (cd:Value) (A:Around) (outer:List Env) (s:Shared) (H:Hp) (E:XK):Cx where
  prog:=P
  w:=w
  K:=K
  mg:=mg
  base:=base
  A:=A.deeper (envOfC qual scope s.heap.objs.size f cd)
  N:=N
  s₀:=s
  H₀:=H
  env:=envOfC qual scope s.heap.objs.size f cd
  outer:=outer
  stack:=envOfC qual scope s.heap.objs.size f cd :: outer
  ex:=[]
  calm:=true
  fn:=fun _=>true
  pn:=[]
  xe:=fun e s'=>wpAny (model P w) (A.deeper (envOfC qual scope s.heap.objs.size f cd)) (leaving (envOfC qual scope s.heap.objs.size f cd) e) (fun _ s''=>CX outer H s E e s'') (fun e' s''=>CX outer H s E e' s'') s'
theorem qJ {sc:Scope} {n:Nat} {x:Str} (h:sc.names.lookup x=some .cell):∃ c,(cellsFrom n sc.names []).lookup x=some c:=by
  have q:=PySem.W.cellsFrom_some sc.names n [] (.inl h)
  exact Option.isSome_iff_exists.mp q
theorem uE {CX:CXT} {P:Program} {w:World} {K:PySem.W.Frag} {mg:Str→Option Value} {base:Heap} {N ps:List Str} {qual:Str} {scope:Scope} {f:Addr} {cd:Value} {A:Around} {outer:List Env} {s s1:Shared} {H:Hp} {E:XK} {us:List Value} {vs:List V}
    (S:aU N ps scope) (hd:A.handled=none) (e0:Gm P w K mg base A outer s H) (hl:vs.length=ps.length) (r:Vals vs us)
    (x:InCallC s s.heap.objs.size (bindL (envOfC qual scope s.heap.objs.size f cd).kindOf (ps.zip us) fun _=>none) (cellsFrom (s.heap.objs.size + 1) scope.names []) (bindC (envOfC qual scope s.heap.objs.size f cd).kindOf (ps.zip us) fun _=>none) s1) :
    Inv (Bj CX P w K mg base N qual scope f cd A outer s H E) [] (start N vs) H s1:=by
  have hpl:ps.length≤N.length:=by have:=congrArg List.length S.pre;rw [List.length_take] at this;omega
  obtain ⟨h1,tk,rfl,hk⟩:=x.done
  have noA:∀ b:Addr,b ∉ (Bj CX P w K mg base N qual scope f cd A outer s H E).ex:=fun b z=>absurd (show b∈([]:List Addr) from z) (by simp)
  refine ⟨⟨e0.mod,S.kind,rfl,rfl,Nat.le_refl _,fun y z c h1 h2=>?_,fun y hy=>?_,fun y c _ h=>?_,fun _=>hd,Around.frames_deeper e0.frames,.inr ⟨rfl,rfl⟩,fun b z=>absurd z (noA b),e0.bs,e0.bsz,fun b _ _=>noA b,fun b z=>absurd z (noA b),e0.uH,e0.frf⟩,
    rfl,e0.bare,Un.kept hk,⟨_,x.toInCall.ns,fun i y v h1 h2 h3=>?_⟩,fun y c h=>⟨_,x.cell y c h⟩,e0.hok.fresh (Nat.le_refl _),fun y c h=>?_,fun p hp=>absurd (show p∈([]:List (Addr × Obj)) from hp) (by simp),e0.hok.kept hk,?_⟩
  · exact name_of_addr x.apart (PySem.mem_of_lookup h1) (PySem.mem_of_lookup h2)
  · have hy:scope.names.lookup y=some .cell∨scope.names.lookup y=some .free:=hy
    rcases hy with hy | hy
    · exact qJ hy
    · exact absurd rfl (S.nofree _ (PySem.mem_of_lookup hy))
  · exact Nat.le_of_lt (x.above y c (PySem.mem_of_lookup h))
  · have hi:i<vs.length:=by
      unfold start at h2
      by_cases hi:i<vs.length
      · exact hi
      · rw [List.getElem?_append_right (by simpa using hi)] at h2
        rw [List.getElem?_replicate] at h2
        split at h2 <;> cases h2
    have ha:vs[i]?=some v:=by
      unfold start at h2
      rw [List.getElem?_append_left (by simpa using hi),List.getElem?_map] at h2
      cases e:vs[i]? with
      | none=>rw [e] at h2;cases h2
      | some a=>rw [e] at h2;cases h2;rfl
    obtain ⟨u,hu,rv⟩:=r.get ha
    have hp:ps[i]?=some y:=by
      rw [← S.pre,List.getElem?_take_of_lt (by omega)];exact h1
    have ndP:ps.Nodup:=by rw [← S.pre];exact S.nd.sublist (List.take_sublist _ _)
    refine ⟨u,rv,?_⟩
    rcases S.par y (List.mem_of_getElem? hp) with k | k
    · exact .inl ⟨k,nW ndP hp hu k⟩
    · obtain ⟨c,e⟩:=qJ (n:=s.heap.objs.size + 1) k
      refine .inr ⟨.inl k,c,e,?_⟩
      have q:=x.cell y c e
      rw [n6 ndP hp hu (by show scope.names.lookup y≠_;rw [k];decide)] at q
      exact q
  · exact e0.hok.fresh (Nat.le_of_lt (x.above y c (PySem.mem_of_lookup h)))
  · unfold start
    show _=N.length
    rw [List.length_append,List.length_map,List.length_replicate]
    omega
theorem Ga {CX:CXT} {P:Program} {w:World} {K:PySem.W.Frag} {mg:Str→Option Value} {base:Heap} {k:Nat} {f:Addr} {name qual:Str} {params:Arguments} {body:List Stmt} {scope:Scope} {dV kV doc pm cdv ct oc:Value} {an od:Option Addr}
    {osl:Array (Option Value)} {N ps:List Str} {sp:Sp} (lk:K.lookup f=some ⟨oc,od,.func (PySem.W.fnOf name qual params body scope dV kV doc pm an cdv ct),osl⟩) (hcd:PySem.W.codeIn K cdv qual=true) (S:aU N ps scope)
    (len:∀ vs H Q E,sp vs H Q E→vs.length=ps.length)
    (hbody:∀ (A:Around) (outer:List Env) (s:Shared) (H:Hp) (vs:List V) (Q:VK) (E:XK),j9 k (A.deeper (envOfC qual scope s.heap.objs.size f cdv))→sp vs H Q E →
      ∃ t,PSs (Bj CX P w K mg base N qual scope f cdv A outer s H E) body t∧t { nx:=fun _ H'=>Q .non H',rt:=Q } (start N vs) H) :
    cR P w K mg base CX (k + 1) f (PySem.W.fnOf name qual params body scope dV kV doc pm an cdv ct) ps sp:=by
  refine ⟨len,fun A outer s H args us vs Q E hr e0 hb r hsp=>?_⟩
  have hl:=len _ _ _ _ hsp
  have KX:K.In s.heap:=e0.mod.kin.keeps fun b o e=>(e0.bs b o e).1
  have lim:s.heap.NoLimit:=e0.mod.nolimit.keeps fun b o e=>(e0.bs b o e).1
  have hkind:∀ y∈ps.zip us,scope.names.lookup y.1=some .local∨(scope.names.lookup y.1=some .cell∧((cellsFrom (s.heap.objs.size + 1) scope.names []).lookup y.1).isSome=true):=fun ⟨n,v⟩ hy=>by
    rcases S.par n (List.of_mem_zip hy).1 with q | q
    · exact .inl q
    · exact .inr ⟨q,PySem.W.cellsFrom_some _ _ _ (.inl q)⟩
  refine codeAny_call_function hr.depth (KX _ _ lk) rfl S.co S.gen rfl (PySem.W.codeRec_of KX hcd) (hb _ _ _ _ ?_)
  refine wpAny_newFunctionEnv_cells S.kind hkind fun env he s1 x=>?_
  subst he
  refine ⟨lim.keeps x.toInCall.keep,codeAny_func ?_⟩
  obtain ⟨t,ht,hq⟩:=hbody A outer s H vs Q E (hr.deeper _) hsp
  have I:Inv (Bj CX P w K mg base N qual scope f cdv A outer s H E) [] (start N vs) H s1:=uE S hr.hd e0 hl r x
  refine wpAny_mono (ht [] s1 (start N vs) H _ I hq) (fun fl s' hs=>?_) fun e s' hs=>hs
  have fin:∀ {σ':St} {H':Hp} {v:V} {u:Value},Inv (Bj CX P w K mg base N qual scope f cdv A outer s H E) [] σ' H' s'→RelV v u→Q v H'→CE outer P w H s Q u s' :=
    fun {σ' H' v u} J rv q=>⟨v,H',J.os,J.bare,J.base,J.hok,rv,q⟩
  cases fl with
  | ret u =>
    obtain ⟨v,σ',H',J,rv,q⟩:=hs
    exact fin J rv q
  | next =>
    obtain ⟨σ',H',J,q⟩:=hs
    exact fin (v:=V.non) (u:=Value.none) J rfl q
  | brk =>
    obtain ⟨_,_,_,q⟩:=hs
    exact False.elim q
  | cont =>
    obtain ⟨_,_,_,q⟩:=hs
    exact False.elim q
end L2
namespace L2
open PySem PySem.Spec PyProof.Rows
section
variable {X:Cx} {x:Str} {p pos:Pos} {e:Expr} {es:List Expr} {t:TA} {id T:String} {r:List V→Hp→VK→Prop}
def tCB (r:List V→Hp→VK→Prop) (t:TA):TE:=fun σ H Q=>t σ H fun vs H1=>r vs H1 Q
theorem aV (hc:oK X (.builtin id) r) (hg:Gl X x) (hm:X.mg x=none) (hv:bootBuiltins x=some (.builtin id)) (ha:PA X (e :: es) t) (hn:x≠"__name__":=by decide) (hdb:(x == ("__debug__":Str))=false:=by decide)
    (he:starEach (e :: es) X.env=(false,eval e X.env) :: starEach es X.env:=by rfl) (hpl:(backTo pos (starEach es X.env)).any (·.1)=false:=by rfl):PE X (.Call (.Name x p) (e :: es) [] pos) (tCB r t):=by
  intro pins s σ H Q I h
  refine wpAny_Call_Name_kw (fZ I hg hm hv ?_ hn hdb)
  exact PyProof.Rows.callWith_builtin1 (thn (ha pos pins s σ H _ I h) fun us s1 ⟨vs,H1,I1,r1,q1⟩=>hc pins s1 σ H1 vs us Q I1 r1 q1) he hpl
theorem eO (hc:oK X (.type T) r) (hg:Gl X x) (hm:X.mg x=none) (hv:bootBuiltins x=some (.type T)) (ha:PA X (e :: es) t) (hn:x≠"__name__":=by decide) (hdb:(x == ("__debug__":Str))=false:=by decide)
    (he:starEach (e :: es) X.env=(false,eval e X.env) :: starEach es X.env:=by rfl) (hpl:(backTo pos (starEach es X.env)).any (·.1)=false:=by rfl):PE X (.Call (.Name x p) (e :: es) [] pos) (tCB r t):=by
  intro pins s σ H Q I h
  refine wpAny_Call_Name_kw (fZ I hg hm hv ?_ hn hdb)
  exact PyProof.Rows.callWith_type1 (thn (ha pos pins s σ H _ I h) fun us s1 ⟨vs,H1,I1,r1,q1⟩=>hc pins s1 σ H1 vs us Q I1 r1 q1) he hpl
end
end L2
namespace HT
open PySem PyProof.Rows
def lexLt:List Int→List Int→Bool
  | [],[]=>false
  | [],_ :: _=>true
  | _ :: _,[]=>false
  | x :: xs,y :: ys=>if x=y then lexLt xs ys else decide (x<y)
theorem jd (x y:Int) (xs ys:List Int):lexLt (x :: xs) (y :: ys)=if x=y then lexLt xs ys else decide (x<y):=rfl
theorem mq:lexLt [] []=false:=rfl
section
open PySem.SeqAt
open PySem.AutoSeq1 (wpAny_loadPart')
open PySem.MeetsSeq PySem.MeetsSeq2 PySem.MeetsSeq3
end
section
variable {prog:Program} {w:World} {A:Around} {E:Value→Shared→Prop} {s:Shared}
def sIx (n d:Nat):Option Int→Nat
  | none=>d
  | some v=>if v<0 then (v + (n:Int)).toNat else min v.toNat n
theorem p7 (n d:Nat):sIx n d none=d:=rfl
theorem lY (n d k:Nat):sIx n d (some (k:Int))=min k n:=by
  show (if (k:Int)<0 then ((k:Int) + (n:Int)).toNat else min (k:Int).toNat n)=min k n
  rw [if_neg (by omega),Int.toNat_natCast]
end
end HT
namespace L2
open PySem PySem.Spec PyProof.Rows
abbrev TO:=St→Hp→(Option Int→Hp→Prop)→Prop
def PO (X:Cx) (e:Option Expr) (t:TO):Prop :=
  ∀ (pins:List (Addr × Obj)) (s:Shared) (σ:St) (H:Hp) (Q:Option Int→Hp→Prop),Inv X pins σ H s→t σ H Q →
    wpAny (model X.prog X.w) X.A (evalPart e X.env) (fun u s'=>∃ o H',Inv X pins σ H' s'∧IsPart u o∧Q o H') X.xe s
def Ab:TO:=fun _ H Q=>Q none H
def Gs (t:TE):TO:=fun σ H Q=>t σ H fun x H1=>∃ i,x=.int i∧Q (some i) H1
theorem intsAre_of {ns:List Int}:∀ {us:List Value},Vals (ns.map V.int) us→IntsAre us ns:=by
  induction ns with
  | nil=>intro us r;rw [List.map_nil] at r;cases r;exact .nil
  | cons n ns ih =>
    intro us r
    rw [List.map_cons] at r
    cases r with
    | cons r1 r2 =>
      obtain ⟨t,e⟩:=r1
      subst e
      exact .cons n t (ih r2)
section
variable {X:Cx} {e:Expr} {te:TE} {lo hi:Option Expr} {tl th:TO} {pos p2:Pos}
theorem jM:PO X none Ab:=by
  intro pins s σ H Q I h
  rw [evalPart_none]
  exact wpAny_pure ⟨none,H,I,.none,h⟩
theorem gM (h:PE X e te):PO X (some e) (Gs te):=by
  intro pins s σ H Q I hw
  rw [evalPart_some]
  refine thn (h pins s σ H _ I hw) fun u s1 ⟨x,H1,I1,r1,q1⟩=>?_
  obtain ⟨i,rfl,q⟩:=q1
  obtain ⟨t,rfl⟩:=r1
  exact ⟨some i,H1,I1,.int i t,q⟩
def SlR (X:Cx) (r:V→Option Int→Option Int→Hp→VK→Prop):Prop :=
  ∀ (pins:List (Addr × Obj)) (s:Shared) (σ:St) (H:Hp) (x:V) (v vl vu:Value) (lo hi:Option Int) (sl:Addr) (Q:VK),Inv X pins σ H s→RelV x v→s.heap.IsSliceOf sl vl vu .none→IsPart vl lo→IsPart vu hi→r x lo hi H Q →
    ∃ T id,typeLookup (.type T) "__getitem__"=pure (some (.builtin id))∧s.TypeIs v T∧wpAny (model X.prog X.w) X.A (getItem v (.ref sl)) (EP X pins σ Q) X.xe s
def tSl (r:V→Option Int→Option Int→Hp→VK→Prop) (te:TE) (tl th:TO):TE:=fun σ H Q=>te σ H fun x H1=>tl σ H1 fun l H2=>th σ H2 fun u H3=>r x l u H3 Q
theorem gC {r:V→Option Int→Option Int→Hp→VK→Prop} (hr:SlR X r) (he:PE X e te) (hl:PO X lo tl) (hu:PO X hi th):PE X (.Subscript e (.Slice lo hi none p2) pos) (tSl r te tl th):=by
  intro pins s σ H Q I h
  refine Subscript_ (thn (he pins s σ H _ I h) fun v s1 ⟨x,H1,I1,r1,q1⟩=>?_)
  refine wpAny_Slice (thn (hl pins s1 σ H1 _ I1 q1) fun vl s2 ⟨l,H2,I2,pl,q2⟩=>thn (hu pins s2 σ H2 _ I2 q2) fun vu s3 ⟨u,H3,I3,pu,q3⟩=>?_)
  rw [evalPart_none]
  refine wpAny_pure ?_
  have I4:Inv X pins σ H3 { s3 with heap:=s3.heap.push { cls:=.type "slice",data:=.fields #[vl,vu,.none] } }:=I3.kept (t':=s3.toks) fun b ob q=>Heap.get?_push_of_some _ q
  obtain ⟨T,id,hT,ht,hg⟩:=hr pins { s3 with heap:=s3.heap.push { cls:=.type "slice",data:=.fields #[vl,vu,.none] } } σ H3 x v vl vu l u s3.heap.objs.size Q I4 r1 (Heap.IsSliceOf.new ..) pl pu q3
  show wpAny (model X.prog X.w) X.A (subscriptTail e (.Slice lo hi none p2) v (.ref s3.heap.objs.size)) (EP X pins σ Q) X.xe { s3 with heap:=s3.heap.push { cls:=.type "slice",data:=.fields #[vl,vu,.none] } }
  exact tail_any (ops:=[.ref s3.heap.objs.size,v]) ht hT hg (by with_unfolding_all rfl)
def oM (xs:List V) (lo hi:Option Int):List V:=(xs.drop (HT.sIx xs.length 0 lo)).take (HT.sIx xs.length xs.length hi - HT.sIx xs.length 0 lo)
theorem pC (xs:List V) (lo hi:Option Int):(oM xs lo hi).length≤xs.length:=by
  unfold oM
  rw [List.length_take,List.length_drop]
  omega
end
end L2
namespace L2
open PySem PySem.Spec PyProof.Rows
def ixN (n:Nat) (i:Int):Option Nat:=if 0≤i then (if i<n then some i.toNat else none) else if -(n:Int)≤i then some (i + n).toNat else none
def atI {α:Type} (xs:List α) (i:Int):Option α:=(ixN xs.length i).bind fun j=>xs[j]?
theorem uz {n:Nat} {i:Int} {j:Nat} (h:ixN n i=some j):seqIndex? i n=some j∧j<n∧-(n:Int)≤i∧i<n:=by
  unfold ixN at h
  by_cases h0:0≤i
  · rw [if_pos h0] at h
    by_cases h1:i<n
    · rw [if_pos h1] at h
      have e:i.toNat=j:=Option.some.inj h
      exact ⟨by rw [seqIndex_of h0 h1,e],by omega,by omega,h1⟩
    · rw [if_neg h1] at h;cases h
  · rw [if_neg h0] at h
    by_cases h1:-(n:Int)≤i
    · rw [if_pos h1] at h
      have e:(i + n).toNat=j:=Option.some.inj h
      exact ⟨by rw [seqIndex_neg (by omega) h1,e],by omega,h1,by omega⟩
    · rw [if_neg h1] at h;cases h
theorem vh {α:Type} {xs:List α} {i:Int} {v:α} (h:atI xs i=some v):∃ j,seqIndex? i xs.length=some j∧xs[j]?=some v∧j<xs.length∧-(xs.length:Int)≤i∧i<xs.length:=by
  unfold atI at h
  cases e:ixN xs.length i with
  | none=>rw [e] at h;cases h
  | some j =>
    rw [e] at h
    obtain ⟨h1,h2,h3,h4⟩:=uz e
    exact ⟨j,h1,h,h2,h3,h4⟩
theorem vg {α:Type} {xs:List α} {j:Nat} {v:α} (h:xs[j]?=some v):atI xs (j:Int)=some v:=by
  have hj:j<xs.length:=(List.getElem?_eq_some_iff.mp h).1
  have e:ixN xs.length (j:Int)=some j:=by
    unfold ixN
    rw [if_pos (by omega),if_pos (by omega)];simp
  unfold atI;rw [e];exact h
theorem wW {α:Type} (xs:List α) (v:α):atI (xs++[v]) (-1)=some v:=by
  have hl:(xs++[v]).length=xs.length + 1:=by simp
  have e:ixN (xs++[v]).length (-1)=some xs.length:=by
    unfold ixN
    rw [hl,if_neg (by decide),if_pos (by omega)]
    congr 1
    omega
  unfold atI
  rw [e]
  show (xs++[v])[xs.length]?=some v
  simp
def Bp (b:Expr):Prop:=∀ o i,subscripted b false o i=operate [o,i] (getItem o i)
def IxR (X:Cx) (r:R2):Prop :=
  ∀ (value slice:Expr) (pins:List (Addr × Obj)) (s:Shared) (σ:St) (H:Hp) (x y:V) (v u:Value) (Q:VK),Inv X pins σ H s→RelV x v→RelV y u→r x y H Q →
    subscripted slice false v u=operate [v,u] (getItem v u)→wpAny (model X.prog X.w) X.A (subscriptTail value slice v u) (EP X pins σ Q) X.xe s
def MtR (X:Cx) (id:String) (r:V→List V→Hp→VK→Prop):Prop :=
  ∀ (pins:List (Addr × Obj)) (s:Shared) (σ:St) (H:Hp) (x:V) (xs:List V) (v:Value) (us:List Value) (Q:VK),Inv X pins σ H s→RelV x v→Vals xs us→r x xs H Q →
    wpAny (model X.prog X.w) X.A (call (.builtin id) (v :: us)) (EP X pins σ Q) X.xe s
section
variable {X:Cx} {a b:Expr} {ta tb:TE} {pos:Pos}
theorem bA {r:R2} (hr:IxR X r) (ha:PE X a ta) (hb:PE X b tb) (hs:Bp b):PE X (.Subscript a b pos) (tOp r ta tb):=by
  intro pins s σ H Q I h
  exact Subscript_ (Iz ha hb I h fun v u s2 x y H2 I2 rx ry q=>hr a b pins s2 σ H2 x y v u Q I2 rx ry q (hs _ _))
def Jl (K:PySem.W.Frag):R2:=fun x y H Q=>∃ p xs i v,x=.ref p∧y=.int i∧SqL K H p xs∧atI xs i=some v∧Q v H
def rIxT (K:PySem.W.Frag):R2:=fun x y H Q=>∃ p xs i v,x=.ref p∧y=.int i∧SqT K H p xs∧atI xs i=some v∧Q v H
theorem aG:IxR X (Jl X.K):=by
  intro value slice pins s σ H x y v u Q I rx ry h hs
  obtain ⟨p,xs,i,z,rfl,rfl,hq,he,q⟩:=h
  cases rx
  obtain ⟨t,rfl⟩:=ry
  obtain ⟨its,r,pl,hz⟩:=I.list hq
  obtain ⟨j,h1,h2,h3,h4,h5⟩:=vh he
  obtain ⟨w,ew,rw'⟩:=r.get h2
  have hl:=r.length
  have hn:=lA
  have fin:EP X pins σ Q w s:=⟨z,H,I,rw',q⟩
  by_cases h0:0≤i
  · have hj:i.toNat=j:=by
      rw [seqIndex_of h0 h5] at h1
      exact Option.some.inj h1
    exact item_listR pl.isList h0 (by omega) (by rw [hj];simpa using ew) fin hs
  · have hj:(i + (its.toArray.size:Int)).toNat=j:=by
      rw [seqIndex_neg (by omega) h4] at h1
      rw [List.size_toArray,← hl]
      exact Option.some.inj h1
    exact subscriptTail_builtinR (x:=w) pl.isList.typeIs slot_list_getitem.lookup
      (wpAny_getItem_list_neg (Q:=fun r s'=>r=w∧EP X pins σ Q r s') pl.isList (by omega) (by rw [List.size_toArray] <;> omega) (by omega) (by rw [hj];simpa using ew) ⟨rfl,fin⟩) hs
theorem nJ:IxR X (rIxT X.K):=by
  intro value slice pins s σ H x y v u Q I rx ry h hs
  obtain ⟨p,xs,i,z,rfl,rfl,hq,he,q⟩:=h
  cases rx
  obtain ⟨t,rfl⟩:=ry
  obtain ⟨its,r,pl,hz⟩:=I.tuple hq
  obtain ⟨j,h1,h2,h3,h4,h5⟩:=vh he
  obtain ⟨w,ew,rw'⟩:=r.get h2
  have hl:=r.length
  have hn:=lA
  have fin:EP X pins σ Q w s:=⟨z,H,I,rw',q⟩
  exact subscriptTail_builtinR (x:=w) pl.typeIs slot_tuple_getitem.lookup
    (getItem_tuple (j:=j) (Q:=fun r s'=>r=w∧EP X pins σ Q r s') pl (by omega) (by omega) (by rw [List.size_toArray,← hl];exact h1) (by simpa using ew) ⟨rfl,fin⟩) hs
theorem rD (its:List Value) (n j:Nat) (u:Value):Obj.mapSeq (·.setIfInBounds j u) { cls:=.type "list",data:=.seq its.toArray n }={ cls:=.type "list",data:=.seq (its.set j u).toArray n }:=by
  simp [Obj.mapSeq]
theorem Inv.lst {pins:List (Addr × Obj)} {σ:St} {H:Hp} {s:Shared} {p:Addr} {xs:List V} (I:Inv X pins σ H s) (h:H p=some (.lst xs)) :
    ∃ (its:List Value) (n:Nat),Vals xs its∧s.heap.get? p=some { cls:=.type "list",data:=.seq its.toArray n }∧xs.length≤sizeLine:=by
  obtain ⟨z,its,n,r,e⟩:=I.hok p _ h
  exact ⟨its,n,r,e,z⟩
theorem Inv.Cr {pins:List (Addr × Obj)} {σ:St} {H:Hp} {s:Shared} {p:Addr} {xs ys:List V} {its its':List Value} {n n':Nat} {f:Obj→Obj} (I:Inv X pins σ H s) (h:H p=some (.lst xs))
    (ho:s.heap.get? p=some { cls:=.type "list",data:=.seq its.toArray n }) (hf:f { cls:=.type "list",data:=.seq its.toArray n }={ cls:=.type "list",data:=.seq its'.toArray n' }) (r:Vals ys its') (hz:ys.length≤sizeLine) (t:Nat) :
    Inv X pins σ (upd H p (.lst ys)) { s with heap:=s.heap.update p f,toks:=t }:=by
  have e:(s.heap.update p f).get? p=some { cls:=.type "list",data:=.seq its'.toArray n' }:=by
    rw [Heap.get?_update_self f ho (by rw [hf] <;> rfl),hf]
  refine I.write (x:=p) (e:=p) (by rw [h];trivial) (.inl rfl) (fun b u hb q=>(Heap.get?_update_other _ _ (Ne.symm hb)).trans q) ⟨_,e⟩ ?_
  exact ⟨hz,its',n',r,e⟩
def Bx:V→V→V→Hp→(Hp→Prop)→Prop:=fun o i v H Q=>∃ p xs k j,o=.ref p∧i=.int k∧H p=some (.lst xs)∧ixN xs.length k=some j∧Q (upd H p (.lst (xs.set j v)))
theorem set_list:IW X Bx:=by
  intro pins s σ H o i v ov iv u Q I ro ri rv h
  obtain ⟨p,xs,k,j,rfl,rfl,hp,hj,q⟩:=h
  cases ro
  obtain ⟨t,rfl⟩:=ri
  obtain ⟨its,n,r,ho,hz⟩:=I.lst hp
  obtain ⟨h1,h2,h3,h4⟩:=uz hj
  have hl:=r.length
  have hn:=lA
  have I':Inv X pins σ (upd H p (.lst (xs.set j v))) { s with heap:=s.heap.update p (Obj.mapSeq (·.setIfInBounds j u)) } :=
    I.Cr hp ho (rD its n j u) (r.set rv j) (by rw [List.length_set];exact hz) s.toks
  by_cases h0:0≤k
  · have hk:k.toNat=j:=by
      rw [seqIndex_of h0 h4] at h1
      exact Option.some.inj h1
    exact PySem.W.ki_setAt ho h0 (by omega) (by rw [List.size_toArray,← hl];exact h4) (by rw [hk];exact ⟨_,I',q⟩)
  · have hk:(k + (its.toArray.size:Int)).toNat=j:=by
      rw [seqIndex_neg (by omega) h3] at h1
      rw [List.size_toArray,← hl]
      exact Option.some.inj h1
    exact PySem.W.ki_setBack ho (by omega) (by rw [List.size_toArray,← hl];exact h3) (by omega) (by rw [hk];exact ⟨_,I',q⟩)
theorem mZ (lo hi:Option Int) (n:Nat):(sliceBounds lo hi none n).1=((HT.sIx n 0 lo:Nat):Int)∧(sliceBounds lo hi none n).2.1=((HT.sIx n n hi:Nat):Int)∧(sliceBounds lo hi none n).2.2=1:=by
  refine ⟨?_,?_,rfl⟩
  · cases lo with
    | none=>simp [sliceBounds,HT.sIx]
    | some i =>
      simp only [sliceBounds,HT.sIx,Option.getD_none,show (1:Int) > 0 by decide,if_true]
      by_cases h:i<0
      · simp only [h,if_true] <;> omega
      · simp only [h,if_false] <;> omega
  · cases hi with
    | none=>simp [sliceBounds,HT.sIx]
    | some i =>
      simp only [sliceBounds,HT.sIx,Option.getD_none,show (1:Int) > 0 by decide,if_true]
      by_cases h:i<0
      · simp only [h,if_true] <;> omega
      · simp only [h,if_false] <;> omega
theorem lU (its:List Value) (lo hi:Option Int):slicePick its.toArray lo hi none=((its.drop (HT.sIx its.length 0 lo)).take (HT.sIx its.length its.length hi - HT.sIx its.length 0 lo)).toArray:=by
  obtain ⟨h1,h2,h3⟩:=mZ lo hi its.toArray.size
  unfold slicePick
  rw [h1,h2,h3]
  simp only [sliceRange_one,pick_run,List.size_toArray] <;> rfl
def Jk (K:PySem.W.Frag):V→Option Int→Option Int→Hp→VK→Prop:=fun x lo hi H Q=>∃ a xs,x=.ref a∧SqL K H a xs∧∀ p,H p=none→Q (.ref p) (upd H p (.lst (oM xs lo hi)))
theorem iW:SlR X (Jk X.K):=by
  intro pins s σ H x v vl vu lo hi sl Q I rx hs pl pu h
  obtain ⟨a,xs,rfl,hx,q⟩:=h
  cases rx
  obtain ⟨its,r,ht,hz⟩:=I.list hx
  have hlen:=r.length
  refine ⟨"list",_,slot_list_getitem.lookup,ht.isList.typeIs,?_⟩
  refine wpAny_getItem_list_slice ht.isList hs pl pu .none (by simp) ?_ (by rw [List.size_toArray] <;> omega)
  rw [lU,← hlen]
  refine ⟨.ref s.heap.objs.size,_,I.laid (t':=s.toks) (o:=.lst (oM xs lo hi)) (fun b ob q=>Heap.get?_push_of_some _ q) (Nat.le_refl _) ?_,rfl,q _ (I.hok.fresh (Nat.le_refl _))⟩
  exact ⟨Nat.le_trans (pC xs lo hi) hz,_,0,(r.drop (HT.sIx xs.length 0 lo)).take (HT.sIx xs.length xs.length hi - HT.sIx xs.length 0 lo),Heap.get?_push_size _ rfl⟩
def mG:V→Bool
  | .non=>true
  | .bl _=>true
  | .int _=>true
  | .str _=>true
  | _=>false
def eqV:V→V→Bool
  | .non,.non=>true
  | .bl a,.bl b=>a == b
  | .bl a,.int b=>(if a then 1 else 0) == b
  | .int a,.bl b=>a == (if b then 1 else 0)
  | .int a,.int b=>a == b
  | .str a,.str b=>a == b
  | _,_=>false
theorem Gb {A:Around} {s:Shared} {y x:V} {u v:Value} (ry:RelV y u) (rx:RelV x v) (fy:mG y=true) (fx:mG x=true):SeqAt.EqAt A s u v (eqV y x):=by
  cases y with
  | non =>
    cases ry
    cases x with
    | non=>cases rx;exact SeqAt.EqAt.same _
    | bl b=>cases rx;exact SeqAt.EqAt.none_bool b
    | int b=>obtain ⟨t,rfl⟩:=rx;exact SeqAt.EqAt.none_int b t
    | str b=>obtain ⟨t,rfl⟩:=rx;exact SeqAt.EqAt.none_str b t
    | _=>exact absurd (show false=true from fx) Bool.false_ne_true
  | bl a =>
    cases ry
    cases x with
    | non=>cases rx;exact SeqAt.EqAt.bool_none a
    | bl b=>cases rx;exact SeqAt.EqAt.bool_bool a b
    | int b=>obtain ⟨t,rfl⟩:=rx;exact SeqAt.EqAt.bool_int a b t
    | str b=>obtain ⟨t,rfl⟩:=rx;exact SeqAt.EqAt.bool_str a b t
    | _=>exact absurd (show false=true from fx) Bool.false_ne_true
  | int a =>
    obtain ⟨t',rfl⟩:=ry
    cases x with
    | non=>cases rx;exact SeqAt.EqAt.int_none a t'
    | bl b=>cases rx;exact SeqAt.EqAt.int_bool a t' b
    | int b=>obtain ⟨t,rfl⟩:=rx;exact SeqAt.EqAt.int_int a t' b t
    | str b=>obtain ⟨t,rfl⟩:=rx;exact SeqAt.EqAt.int_str a t' b t
    | _=>exact absurd (show false=true from fx) Bool.false_ne_true
  | str a =>
    obtain ⟨t',rfl⟩:=ry
    cases x with
    | non=>cases rx;exact SeqAt.EqAt.str_none a t'
    | bl b=>cases rx;exact SeqAt.EqAt.str_bool a t' b
    | int b=>obtain ⟨t,rfl⟩:=rx;exact SeqAt.EqAt.str_int a t' b t
    | str b=>obtain ⟨t,rfl⟩:=rx;exact SeqAt.EqAt.str_str a t' b t
    | _=>exact absurd (show false=true from fx) Bool.false_ne_true
  | _=>exact absurd (show false=true from fy) Bool.false_ne_true
def eqU (x:V) (u:Value):Bool:=match u with
  | .none=>eqV .non x
  | .bool b=>eqV (.bl b) x
  | .int i _=>eqV (.int i) x
  | .str z _=>eqV (.str z) x
  | _=>false
theorem zO {x y:V} {u:Value} (r:RelV y u) (f:mG y=true):eqU x u=eqV y x:=by
  cases y with
  | non=>cases r;rfl
  | bl b=>cases r;rfl
  | int i=>obtain ⟨t,rfl⟩:=r;rfl
  | str z=>obtain ⟨t,rfl⟩:=r;rfl
  | _=>exact absurd (show false=true from f) Bool.false_ne_true
theorem j6 {x:V}:∀ {xs:List V} {us:List Value},Vals xs us→xs.all mG=true→us.any (eqU x)=xs.any fun y=>eqV y x
  | _,_,.nil,_=>rfl
  | y :: xs,u :: us,.cons r t,f=>by
    rw [List.all_cons,Bool.and_eq_true] at f
    rw [List.any_cons,List.any_cons,zO r f.1,j6 t f.2]
theorem iy {A:Around} {s:Shared} {x:V} {v:Value} (rx:RelV x v) (fx:mG x=true):∀ {xs:List V} {us:List Value},Vals xs us→xs.all mG=true→∀ u∈us,SeqAt.EqAt A s u v (eqU x u)
  | _,_,.nil,_=>fun u hu=>by cases hu
  | y :: xs,u :: us,.cons r t,f=>fun u' hu=>by
    rw [List.all_cons,Bool.and_eq_true] at f
    rcases List.mem_cons.mp hu with rfl | hu
    · rw [zO r f.1];exact Gb r rx f.1 fx
    · exact iy rx fx t f.2 u' hu
def inV (x:V) (xs:List V):Bool:=xs.any fun y=>eqV y x
def rIn (K:PySem.W.Frag) (neg:Bool):R2:=fun x y H Q=>∃ p xs,y=.ref p∧(SqL K H p xs∨SqT K H p xs)∧mG x=true∧xs.all mG=true∧Q (.bl (if neg then !inV x xs else inV x xs)) H
theorem jP:OpR X (compareOp .In) (rIn X.K false):=by
  intro pins s σ H x y v u Q I rx ry h
  obtain ⟨p,xs,rfl,hq,fx,fs,q⟩:=h
  cases ry
  rcases hq with hq | hq
  · obtain ⟨its,r,pl,hz⟩:=I.list hq
    refine SeqAt.in_listAt (eqU x) pl.isList (fun w hw=>iy rx fx r fs w (by simpa using hw)) ⟨.bl _,H,I,rfl,?_⟩
    rw [show its.toArray.any (eqU x)=its.any (eqU x) by simp,j6 r fs]
    exact q
  · obtain ⟨its,r,pl,hz⟩:=I.tuple hq
    refine SeqAt.in_tupleAt (eqU x) pl (fun w hw=>iy rx fx r fs w (by simpa using hw)) ⟨.bl _,H,I,rfl,?_⟩
    rw [show its.toArray.any (eqU x)=its.any (eqU x) by simp,j6 r fs]
    exact q
theorem nF:OpR X (compareOp .NotIn) (rIn X.K true):=by
  intro pins s σ H x y v u Q I rx ry h
  obtain ⟨p,xs,rfl,hq,fx,fs,q⟩:=h
  cases ry
  rcases hq with hq | hq
  · obtain ⟨its,r,pl,hz⟩:=I.list hq
    refine SeqAt.notIn_listAt (eqU x) pl.isList (fun w hw=>iy rx fx r fs w (by simpa using hw)) ⟨.bl _,H,I,rfl,?_⟩
    rw [show its.toArray.any (eqU x)=its.any (eqU x) by simp,j6 r fs]
    exact q
  · obtain ⟨its,r,pl,hz⟩:=I.tuple hq
    refine SeqAt.notIn_tupleAt (eqU x) pl (fun w hw=>iy rx fx r fs w (by simpa using hw)) ⟨.bl _,H,I,rfl,?_⟩
    rw [show its.toArray.any (eqU x)=its.any (eqU x) by simp,j6 r fs]
    exact q
theorem aN:oK X (.builtin "len") (fun xs H Q=>∃ p ys,xs=[.ref p]∧(SqL X.K H p ys∨SqT X.K H p ys)∧Q (.int ys.length) H):=by
  intro pins s σ H xs us Q I r h
  obtain ⟨p,ys,rfl,hq,q⟩:=h
  obtain ⟨u,rfl,rx⟩:=vals1 r
  cases rx
  have hn:=lA
  rcases hq with hq | hq
  · obtain ⟨its,r',pl,hz⟩:=I.list hq
    have hlen:=r'.length
    exact Calls.call_len_list pl.isList (by simp only [List.size_toArray] <;> omega) ⟨.int ys.length,H,I.tok _,⟨s.toks + 1,by rw [List.size_toArray,hlen]⟩,q⟩
  · obtain ⟨its,r',pl,hz⟩:=I.tuple hq
    have hlen:=r'.length
    exact len_tuple pl (by simp only [List.size_toArray] <;> omega) ⟨.int ys.length,H,I.tok _,⟨s.toks + 1,by rw [List.size_toArray,hlen]⟩,q⟩
theorem cQ:oK X (.type "list") (fun xs H Q=>∃ p ys,xs=[.ref p]∧(SqL X.K H p ys∨SqT X.K H p ys)∧∀ l,H l=none→Q (.ref l) (upd H l (.lst ys))):=by
  intro pins s σ H xs us Q I r h
  obtain ⟨p,ys,rfl,hq,q⟩:=h
  obtain ⟨u,rfl,rx⟩:=vals1 r
  cases rx
  have fin:∀ (its:List Value),Vals ys its→ys.length≤sizeLine→∀ (h':Heap) (c':Nat),(∀ b o',s.heap.get? b=some o'→h'.get? b=some o') →
      h'.get? s.heap.objs.size=some { cls:=.type "list",dict:=none,data:=.seq its.toArray c',slots:=#[] }→EP X pins σ Q (.ref s.heap.objs.size) { s with heap:=h' }:=fun its r' hz h' c' kp e =>
    ⟨.ref s.heap.objs.size,_,I.laid (t':=s.toks) kp (Nat.le_refl _) (show d9 X.prog X.w _ h' _ (.lst ys) from ⟨hz,its,c',r',e⟩),rfl,q _ (I.hok.fresh (Nat.le_refl _))⟩
  rcases hq with hq | hq
  · obtain ⟨its,r',pl,hz⟩:=I.list hq
    have hlen:=r'.length
    obtain ⟨o,ho,hc,n,hd⟩:=pl.isList
    exact call_list_seq p (.inl rfl) ho hc hd (fun h' c' kp e=>fin its r' hz h' c' kp e) (by simp only [List.size_toArray] <;> omega)
  · obtain ⟨its,r',pl,hz⟩:=I.tuple hq
    have hlen:=r'.length
    obtain ⟨o,ho,hc,n,hd⟩:=pl
    exact call_list_seq p (.inr rfl) ho hc hd (fun h' c' kp e=>fin its r' hz h' c' kp e) (by simp only [List.size_toArray] <;> omega)
def tyV (K:PySem.W.Frag) (T:String) (x:V) (H:Hp):Prop:=match x with
  | .str _=>T="str"
  | .int _=>T="int"
  | .ref p=>(T="list"∧∃ xs,SqL K H p xs)∨(T="tuple"∧∃ o,K.lookup p=some o∧o.cls=.type "tuple"∧o.dict=none) ∨
      (T="dict"∧((∃ kvs,H p=some (.dK kvs))∨∃ kvs,H p=some (.dT kvs)))∨(T="set"∧∃ S n,H p=some (.set S n))
  | _=>False
theorem Bt {pins:List (Addr × Obj)} {σ:St} {H:Hp} {s:Shared} {T:String} {x:V} {v:Value} (I:Inv X pins σ H s) (r:RelV x v) (ty:tyV X.K T x H) :
    s.TypeIs v T∧∀ a,v=.ref a→∃ ob,s.heap.get? a=some ob∧ob.dict=none:=by
  cases x with
  | str z =>
    obtain ⟨t,rfl⟩:=r
    cases (show T="str" from ty)
    exact ⟨typeIs_str s z t,fun _ e=>nomatch e⟩
  | int i =>
    obtain ⟨t,rfl⟩:=r
    cases (show T="int" from ty)
    exact ⟨typeIs_int s i t,fun _ e=>nomatch e⟩
  | ref p =>
    cases r
    rcases ty with ⟨rfl,xs,hq⟩ | ⟨rfl,o,hk,hc,hd⟩ | ⟨rfl,hk⟩ | ⟨rfl,S,n,hk⟩
    · obtain ⟨its,_,pl,_⟩:=I.list hq
      refine ⟨pl.isList.typeIs,fun a e=>?_⟩
      cases e
      obtain ⟨o,n,e,c,hd,_⟩:=pl
      exact ⟨o,e,hd⟩
    · refine ⟨⟨o,I.kIn p o hk,hc⟩,fun a e=>?_⟩
      cases e
      exact ⟨o,I.kIn _ o hk,hd⟩
    · have z:∃ o,s.heap.get? p=some o∧o.ExactDict:=by
        rcases hk with ⟨kvs,hk⟩ | ⟨kvs,hk⟩
        · obtain ⟨_,_,_,_,o,_,_,e,ex,_⟩:=I.hok p _ hk
          exact ⟨o,e,ex⟩
        · obtain ⟨_,_,_,_,o,_,_,e,ex,_⟩:=I.hok p _ hk
          exact ⟨o,e,ex⟩
      obtain ⟨o,e,ex⟩:=z
      refine ⟨⟨o,e,ex.1⟩,fun a e2=>?_⟩
      cases e2
      exact ⟨o,e,ex.2.1⟩
    · obtain ⟨o,_,_,_,e,ex,_⟩:=I.hok p _ hk
      refine ⟨⟨o,e,ex.1⟩,fun a e2=>?_⟩
      cases e2
      exact ⟨o,e,ex.2.1⟩
  | _=>exact False.elim ty
def tBM (K:PySem.W.Frag) (T:String) (r:V→List V→Hp→VK→Prop) (to:TE) (t:TA):TE:=fun σ H Q=>to σ H fun x H1=>tyV K T x H1∧t σ H1 fun xs H2=>r x xs H2 Q
variable {o e:Expr} {es:List Expr} {to:TE} {t:TA} {name:Str} {apos cpos:Pos} {T id:String} {r:V→List V→Hp→VK→Prop}
theorem j8 (pa:PlainAttrs T) (slot:Slot T name id) (hty:typeOf (.builtin id)=pure (.type "method_descriptor")) (hm:MtR X id r) (ho:PE X o to) (ha:PA X (e :: es) t)
    (hbase:attributeBase o name X.env (eval o X.env)=eval o X.env:=by rfl)
    (hfew:((backTo cpos (starEach (e :: es) X.env)).all (fun x=>!x.1) && (backToKw cpos (keywordEach [] X.env)).all (fun x=>x.1.isSome)
      && decide ((e :: es).length + ([]:List Keyword).length + (if ([]:List Keyword).isEmpty then 0 else 1)<30))=true:=by rfl)
    (hline:(apos.endLine == cpos.line)=true:=by rfl) (hs:starEach (e :: es) X.env=(false,eval e X.env) :: starEach es X.env:=by rfl) (hplain:(backTo cpos (starEach es X.env)).any (·.1)=false:=by rfl) :
    PE X (.Call (.Attribute o name apos) (e :: es) [] cpos) (tBM X.K T r to t):=by
  intro pins s σ H Q I h
  refine wpAny_Call_method_late hbase hfew hline rfl (thn (ho pins s σ H _ I h) fun v s1 ⟨x,H1,I1,r1,ty,q1⟩=>?_)
  obtain ⟨h1,h2⟩:=Bt I1 r1 ty
  refine ⟨T,id,pa,slot,hty,h1,h2,?_⟩
  have hA:=ha cpos pins s1 σ H1 _ I1 q1
  rw [hs] at hA ⊢
  refine Calls.callWith_builtin (by show (false || (backTo cpos (starEach es X.env)).any (·.1))=false;rw [hplain] <;> rfl) (Calls.evalArgs_plain ?_)
  exact thn hA fun us s2 ⟨vs,H2,I2,r2,q2⟩=>hm pins s2 σ H2 x vs v us Q I2 r1 r2 q2
end
end L2
namespace L2
open PySem PySem.Spec PyProof.Rows
def MtM (X:Cx) (id:String) (r:V→List V→Hp→VK→Prop):Prop :=
  ∀ (pins:List (Addr × Obj)) (s:Shared) (σ:St) (H:Hp) (x:V) (xs:List V) (v:Value) (us:List Value) (Q:VK),Inv X pins σ H s→RelV x v→Vals xs us→r x xs H Q →
    wpAny (model X.prog X.w) X.A (call (.builtin id) (v :: us)) (EP X pins σ Q) X.xe s
theorem Vals.one:∀ {x:V} {us:List Value},Vals [x] us→∃ u,us=[u]∧RelV x u
  | _,_,.cons r .nil=>⟨_,rfl,r⟩
theorem Vals.rep {xs:List V} {us:List Value} (h:Vals xs us):∀ k:Nat,Vals (List.replicate k xs).flatten (List.replicate k us).flatten
  | 0=>.nil
  | k + 1=>by
    rw [List.replicate_succ,List.replicate_succ,List.flatten_cons,List.flatten_cons]
    exact Vals.append h (Vals.rep h k)
theorem foldl_rep (its:List Value):∀ (k:Nat) (acc:List Value),
    List.foldl (fun x1 x2=>x1++x2) acc.toArray (List.replicate k its.toArray)=(acc++(List.replicate k its).flatten).toArray
  | 0,acc=>by simp
  | k + 1,acc=>by
    have e:acc.toArray++its.toArray=(acc++its).toArray:=by simp
    have e2:(acc++its)++(List.replicate k its).flatten=acc++(List.replicate (k + 1) its).flatten:=by
      rw [List.replicate_succ,List.flatten_cons,List.append_assoc]
    rw [← e2,← foldl_rep its k (acc++its),← e,List.replicate_succ,List.foldl_cons]
section
variable {X:Cx} {pins:List (Addr × Obj)} {σ:St} {H:Hp} {s:Shared} {l b:Addr} {xs ys zs:List V}
theorem Inv.lset {its its':List Value} {n:Nat} {f:Array Value→Array Value} {t':Nat} (I:Inv X pins σ H s) (hH:H l=some (.lst xs))
    (e:s.heap.get? l=some { cls:=.type "list",data:=.seq its.toArray n }) (hf:f its.toArray=its'.toArray) (hv:Vals ys its') (hz:ys.length≤sizeLine) :
    Inv X pins σ (upd H l (.lst ys)) { s with heap:=s.heap.update l (Obj.mapSeq f),toks:=t' }:=by
  have q:=PySem.IsL.update e f
  rw [hf] at q
  refine I.write (x:=l) (e:=l) (by rw [hH];exact trivial) (.inl rfl) (fun b' u hb hu=>(Heap.get?_update_other s.heap (Obj.mapSeq f) (Ne.symm hb)).trans hu) ⟨_,q⟩ ?_
  exact ⟨hz,its',_,hv,q⟩
theorem Inv.Jt {its:List Value} {t':Nat} (I:Inv X pins σ H s) (hv:Vals ys its) (hz:ys.length≤sizeLine) :
    Inv X pins σ (upd H s.heap.objs.size (.lst ys)) { s with heap:=s.heap.push { cls:=.type "list",data:=.seq its.toArray },toks:=t' } :=
  I.laid (fun _ _ q=>Heap.get?_push_of_some _ q) (Nat.le_refl _) ⟨hz,its,0,hv,Heap.get?_push_size _ rfl⟩
theorem Inv.fresh (I:Inv X pins σ H s):H s.heap.objs.size=none:=I.hok.fresh (Nat.le_refl _)
theorem Inv.Gj (I:Inv X pins σ H s) (hH:H l=some (.lst xs)):xs.length≤sizeLine∧∃ (its:List Value) (n:Nat),Vals xs its∧xs.length=its.length∧s.heap.get? l=some { cls:=.type "list",data:=.seq its.toArray n }:=by
  obtain ⟨z,its,n,r,e⟩:=I.hok l _ hH
  exact ⟨z,its,n,r,r.length,e⟩
theorem vZ {n:Nat} (h:n≤sizeLine):Builtin.List.listTooLong n=false:=by
  unfold Builtin.List.listTooLong
  exact decide_eq_false (by omega)
end
section
variable {X:Cx}
def Ah:V→List V→Hp→VK→Prop:=fun x vs H Q=>∃ l xs y,x=.ref l∧vs=[y]∧H l=some (.lst xs)∧xs.length<sizeLine∧Q .non (upd H l (.lst (xs++[y])))
theorem dD:MtM X "list.append" Ah:=by
  intro pins s σ H x vs v us Q I rx rv h
  obtain ⟨l,xs,y,rfl,rfl,hH,hz,q⟩:=h
  cases rx
  obtain ⟨u,rfl,ru⟩:=rv.one
  obtain ⟨z,its,n,r,hl,e⟩:=I.Gj hH
  refine call_meets F.slot_list_append ⟨_,e,rfl⟩ F.entry_list_append (F.args_list_append_2 _ _) (PySem.list_append l its.toArray n u (by rw [List.size_toArray];omega)) ⟨e,?_⟩
  refine ⟨.non,_,I.lset (its':=its++[u]) hH e (by simp) (r.append (.cons ru .nil)) ?_,rfl,q⟩
  rw [List.length_append,List.length_singleton]
  omega
def rCat:R2:=fun x y H Q=>∃ l b xs zs,x=.ref l∧y=.ref b∧H l=some (.lst xs)∧H b=some (.lst zs)∧xs.length + zs.length≤sizeLine∧∀ p,H p=none→Q (.ref p) (upd H p (.lst (xs++zs)))
theorem BX:OpR X (binaryOp .Add) rCat:=by
  intro pins s σ H x y v u Q I rx ry h
  obtain ⟨l,b,xs,zs,rfl,rfl,hH,hB,hz,q⟩:=h
  cases rx
  cases ry
  obtain ⟨z,its,n,r,hl,e⟩:=I.Gj hH
  obtain ⟨z2,its2,n2,r2,hl2,e2⟩:=I.Gj hB
  refine PySem.P.add_list e e2 ?_ (by rw [List.size_toArray,List.size_toArray];omega)
  have ea:its.toArray++its2.toArray=(its++its2).toArray:=by simp
  rw [ea]
  exact ⟨.ref _,_,I.Jt (t':=s.toks) (r.append r2) (by rw [List.length_append];omega),rfl,q _ I.fresh⟩
def rRep:R2:=fun x y H Q=>∃ l k xs,x=.ref l∧y=.int k∧H l=some (.lst xs)∧-(2 ^ 63)≤k∧k<2 ^ 63∧xs.length * k.toNat≤sizeLine ∧
  ∀ p,H p=none→Q (.ref p) (upd H p (.lst (List.replicate k.toNat xs).flatten))
theorem len_rep {α:Type} (xs:List α) (k:Nat):(List.replicate k xs).flatten.length=k * xs.length:=by
  induction k with
  | zero=>simp
  | succ k ih=>rw [List.replicate_succ,List.flatten_cons,List.length_append,ih,Nat.succ_mul,Nat.add_comm]
theorem qg:OpR X (binaryOp .Mult) rRep:=by
  intro pins s σ H x y v u Q I rx ry h
  obtain ⟨l,k,xs,rfl,rfl,hH,h1,h2,hz,q⟩:=h
  cases rx
  obtain ⟨t,rfl⟩:=ry
  obtain ⟨z,its,n,r,hl,e⟩:=I.Gj hH
  have hlen:its.toArray.size * k.toNat≤sizeLine:=by rw [List.size_toArray,← hl];exact hz
  have hcap:¬ its.toArray.size * k.toNat > (2 ^ 63 - 1) / 8:=by
    have:(sizeLine:Nat)≤(2 ^ 63 - 1) / 8:=by decide
    omega
  have hfit:¬ (!Builtin.List.listFitsIndex k)=true:=by
    rw [fitsIndex_both h1 h2]
    exact Bool.false_ne_true
  have hlong:¬ Builtin.List.listTooLong (its.toArray.size * k.toNat)=true:=by
    rw [vZ hlen]
    exact Bool.false_ne_true
  have hnew:List.foldl (fun x1 x2=>x1++x2) #[] (List.replicate (if its.toArray.isEmpty=true then 0 else k.toNat) its.toArray)=(List.replicate k.toNat its).flatten.toArray:=by
    have f0:∀ m:Nat,List.foldl (fun x1 x2=>x1++x2) #[] (List.replicate m its.toArray)=(List.replicate m its).flatten.toArray:=fun m=>by
      have:=foldl_rep its m []
      rw [List.nil_append] at this
      exact this
    rw [f0]
    cases its with
    | nil=>simp
    | cons a r'=>rw [if_neg (by simp)]
  refine wpAny_binaryOp_repeat_ref (T:="list") (U:="int") (by decide) ⟨_,e,rfl⟩ (fun s'=>typeIs_int s' k t) noFill_list_mul F.fills_int_mul F.slot_int_rmul repeat_list F.slot_int_index.lookup
    (call_meets F.slot_int_rmul (typeIs_int s k t) F.entry_int_rmul (F.args_int_rmul_2 _ _) (int___rmul___int_list k t l its.toArray n)
      ⟨e,rfl,⟨_,e,rfl⟩,call_meets F.slot_list_mul ⟨_,e,rfl⟩ F.entry_list_mul (F.args_list_mul_2 _ _) (AutoListH.list___mul___list_int_3 l its.toArray n k t hfit hcap hlong) ⟨e,?_⟩⟩)
  rw [hnew]
  exact ⟨.ref _,_,I.Jt (t':=s.toks) (r.rep k.toNat) (by rw [len_rep,Nat.mul_comm];exact hz),rfl,q _ I.fresh⟩
end
section
variable {prog:Program} {w:World} {A:Around} {E:Value→Shared→Prop} {s:Shared}
end
section
variable {X:Cx}
end
end L2
namespace Att
open PySem PySem.W PySem.Calls PyProof.Rows
theorem jW {P:Params} {h:Heap}:∀ (ns:List Int) (vs:List Value),WellAll P h vs (ns.map WData.int)→IntsAre vs ns:=by
  intro ns
  induction ns with
  | nil =>
    intro vs w
    rw [List.map_nil] at w
    cases w
    exact .nil
  | cons n ns ih =>
    intro vs w
    rw [List.map_cons] at w
    cases w with
    | cons a b =>
      cases a
      exact .cons _ _ (ih _ b)
theorem tu {l:OpenLaw} {n:Nat} (hn:l.most=some n) {P:Params} {h:Heap} {args:List WData} {vals:List Value}
    (hpre:l.row.toRowW.claim.pre args=true) (hwl:WellAll P h vals args) :
    ∃ a vs ns,vals=[Value.ref a]∧args=[WData.list (ns.map WData.int)]∧h.get? a=some { cls:=.type "list",data:=.seq vs.toArray }∧IntsAre vs ns∧ns.length≤n:=by
  have hsh:WShape.hasAll [] args [.list .int]=true:=(pre_splitW hpre).1
  have hc:l.pre.holds [] { args:=args }=true:=(pre_splitW hpre).2
  obtain ⟨d,r,rfl,h1,h2⟩:=hasAllW_cons hsh
  obtain rfl:=hasAllW_nil h2
  obtain ⟨xs,rfl,h3⟩:=hasW_list h1
  obtain ⟨ns,rfl⟩:=items_int h3
  have hlen:ns.length≤n:=by
    unfold OpenLaw.pre at hc
    have h4:(WTm.not (.lt (.lit (.int (n:Int))) (.len (.arg 0)))).holds [] { args:=[.list (ns.map .int)] }=true:=by
      have h4:=(holds_andW hc).1
      rw [hn] at h4
      exact h4
    have h5:=condW_of h4 (w_not (w_lt w_lit (w_len_list (w_arg rfl))))
    rw [List.length_map] at h5
    refine Nat.le_of_not_lt fun q=>?_
    have q':(n:Int)<((ns.length:Nat):Int):=by omega
    first
      | (rw [decide_eq_true q'] at h5;exact absurd h5 (by decide))
      | (simp at h5;omega)
  cases hwl with
  | cons w1 w2 =>
    cases w2
    cases w1 with
    | list ho hall=>exact ⟨_,_,ns,rfl,rfl,ho,jW ns _ hall,hlen⟩
theorem tQ (l:OpenLaw) (args:List WData):l.row.toRowW.claim.post args (.bool true) args=true :=
  postW_of (r:=l.row.toRowW) (X:=(true == true))
    (show WShape.has [] (.bool true) .bool=true by first | rfl | decide | simp [WShape.has,WShape.arms,WShape.armsAll])
    (show (WTm.eq .res (.lit (.bool true))).value [] { args:=args,res:=some (.bool true),after:=args }=some (.bool (true == true)) from w_eq_bool (w_res rfl) w_lit) rfl
theorem pH {l:OpenLaw} {n:Nat} {q:Program} {loose:List Str} {XP:(Str→Option Value)→Heap→Prop} {YP:World→Heap→Prop} {d:DefRec}
    (hn:l.most=some n) (hdf:d.params.defaults=[])
    (call:∀ (w:World) (s₀ s₁:Shared) (mg mb:Str→Option Value) (fa:Addr) (o:Obj) (pm cd doc:Value) (a:Addr) (vs:List Value) (ns:List Int),
      Ground q loose [] XP w s₀ mg mb s₁.heap→YP w s₁.heap →
      s₁.heap.get? fa=some o→o.data=.func (docDef d.name d.params d.body d.scope pm cd doc)→s₁.heap.CodeRec cd d.name→mg d.name=some (.ref fa) →
      s₁.heap.get? a=some { cls:=.type "list",data:=.seq vs.toArray }→IntsAre vs ns→ns.length≤n→s₁.gens=#[] →
      codeAny (model l.prog w) callerA (.call (.ref fa) ⟨[.ref a],[]⟩) (fun r s'=>r=.ok (.ret (.bool true))∧OldK s₁.heap s'.heap∧s'.os=s₁.os∧AllBare s'.gens) s₁) :
    WalkO q loose XP YP l.row.toRowW d [] (fun f vs=>PySem.call f vs):=by
  intro w s₀ s₁ mg mb G Y fa o pm cd doc dV kV ho hd hcd hD hmg hg args vals as hpre hlay hrd hwl hlo
  obtain rfl:dV=.none:=Dflts.none hD hdf
  obtain rfl:kV=.none:=Dflts.noKw hD
  obtain ⟨a,vs,ns,rfl,rfl,hobj,hints,hlen⟩:=tu hn hpre hwl
  refine enter_call (codeAny_mono (call w s₀ s₁ mg mb fa o pm cd doc a vs ns G Y ho (fd_plain hd) hcd hmg hobj hints hlen hg) fun r s' hq=>?_)
  obtain ⟨rfl,h2,h3,h4⟩:=hq
  exact ⟨.inl ⟨.bool true,.bool true,[],rfl,fun _=>rfl,.bool true,tQ l _,fun _=>⟨List.Pairwise.nil,fun _ hm=>(nomatch hm)⟩⟩,h2,h3,h4⟩
section
variable {prog:Program} {w:World} {A:Around} {E:Value→Shared→Prop} {s:Shared} {K:Frag}
end
end Att
namespace L2
open PySem PySem.Spec PyProof.Rows
theorem jB:∀ {vs:List Value} {ns:List Int},IntsAre vs ns→Vals (ns.map V.int) vs
  | _,_,.nil=>.nil
  | _,_,.cons n t h=>.cons ⟨t,rfl⟩ (jB h)
end L2
namespace L2
open PySem PySem.Spec PyProof.Rows
abbrev KOf {K:PySem.W.Frag} {h:Heap} (_:K.In h):PySem.W.Frag:=K
end L2
namespace L2
open PySem PySem.Spec PyProof.Rows
abbrev CX0:CXT:=fun _ _ _ _ _ _=>False
abbrev E0:XK:=fun _ _ _=>False
theorem cA {X:Cx}:Passes CX0 X E0:=fun _ _ _ _ _ _ _ h=>h.elim
structure Fun (K:PySem.W.Frag) (x qual:Str) (st:Stmt) (f:Addr) (fd:FuncData):Prop where
  ex:∃ (oc:Value) (od:Option Addr) (kV doc pm:Value) (an:Option Addr) (cdv ct:Value) (osl:Array (Option Value)),
    fd=PySem.W.fnOf x qual (aC st) (aB st) (ao st) .none kV doc pm an cdv ct∧K.lookup f=some ⟨oc,od,.func fd,osl⟩∧PySem.W.codeIn K cdv qual=true
  kp:PySem.W.keepIn K (.ref f)=true
variable {P:Program} {w:World} {K:PySem.W.Frag} {mg:Str→Option Value} {base:Heap} {T:eH}
theorem Fun.ok {x qual:Str} {st:Stmt} {f:Addr} {fd:FuncData} {N ps:List Str} {k:Nat} {sp:Sp} (F:Fun K x qual st f fd) (S:aU N ps (ao st)) (len:∀ vs H Q E,sp vs H Q E→vs.length=ps.length)
    (hbody:∀ (cdv:Value) (A:Around) (outer:List Env) (s:Shared) (H:Hp) (vs:List V) (Q:VK) (E:XK),j9 k (A.deeper (envOfC qual (ao st) s.heap.objs.size f cdv))→sp vs H Q E →
      ∃ t,PSs (Bj CX0 P w K mg base N qual (ao st) f cdv A outer s H E).nox (aB st) t∧t { nx:=fun _ H'=>Q .non H',rt:=Q } (start N vs) H):cR P w K mg base CX0 (k + 1) f fd ps sp:=by
  obtain ⟨oc,od,kV,doc,pm,an,cdv,ct,osl,rfl,lk,hcd⟩:=F.ex
  refine Ga lk hcd S len fun A outer s H vs Q E hr hsp=>?_
  obtain ⟨t,h,q⟩:=hbody cdv A outer s H vs Q E hr hsp
  exact ⟨t,h.nox,q⟩
theorem Fun.binds {x qual:Str} {st:Stmt} {f:Addr} {fd:FuncData} {ps:List Str} (F:Fun K x qual st f fd)
    (h:∀ (kV doc pm:Value) (an:Option Addr) (cdv ct:Value) (us:List Value),us.length=ps.length→bindArgs (PySem.W.fnOf x qual (aC st) (aB st) (ao st) .none kV doc pm an cdv ct) ⟨us,[]⟩=pure (ps.zip us)):Binds K fd ps []:=by
  obtain ⟨oc,od,kV,doc,pm,an,cdv,ct,osl,rfl,lk,hcd⟩:=F.ex
  exact .all (h kV doc pm an cdv ct)
theorem cI {x qual:Str} {st:Stmt} {f:Addr} {oc:Value} {od an:Option Addr} {osl:Array (Option Value)} {kV doc pm cdv ct:Value} (l:K.lookup f=some ⟨oc,od,.func (PySem.W.fnOf x qual (aC st) (aB st) (ao st) .none kV doc pm an cdv ct),osl⟩)
    (c:PySem.W.codeIn K cdv qual=true) (k:PySem.W.keepIn K (.ref f)=true):Fun K x qual st f (PySem.W.fnOf x qual (aC st) (aB st) (ao st) .none kV doc pm an cdv ct):=⟨⟨oc,od,kV,doc,pm,an,cdv,ct,osl,rfl,l,c⟩,k⟩
section
variable {X:Cx}
theorem pv (i:Nat) {x:Str} {pos:Pos} (hN:X.N[i]?=some x:=by rfl) (hv:Vis X.env.scope x:=by first | exact Or.inl rfl | exact Or.inr (Or.inl rfl) | exact Or.inr (Or.inr rfl)) (hd:(x == ("__debug__":Str))=false:=by decide)
    (hcd:(x == ("__classdict__":Str))=false:=by decide):PE X (.Name x pos) (Je i):=BL hN hv hd hcd
end
theorem qw {A B:Prop} (h:B):if false=true then A else B:=by
  rw [if_neg Bool.false_ne_true]
  exact h
theorem xV {A B:Prop} (h:A):if true=true then A else B:=by
  rw [if_pos rfl]
  exact h
theorem Ju {c A B:Prop} [Decidable c] (h1:c→A) (h2:¬ c→B):if c then A else B:=by
  by_cases h:c
  · rw [if_pos h]
    exact h1 h
  · rw [if_neg h]
    exact h2 h
theorem Bc {c A B:Prop} [Decidable c] (hc:c) (h:B):if (!decide c)=true then A else B:=by
  rw [decide_eq_true hc]
  exact qw h
def Same (H H':Hp):Prop:=∀ b o,H b=some o→H' b=some o
theorem Same.refl (H:Hp):Same H H:=fun _ _ h=>h
theorem Same.free {H H':Hp} (e:Same H H') {l:Addr} (h:H' l=Option.none):H l=Option.none:=by
  cases q:H l with
  | none=>rfl
  | some o =>
    rw [e l o q] at h
    cases h
theorem Same.seq {K:PySem.W.Frag} {H H':Hp} {a:Addr} {xs:List V} (e:Same H H') (h:SqL K H a xs):SqL K H' a xs:=by
  rcases h with (h | ⟨o,h⟩) | h
  · exact .inl (.inl (e _ _ h))
  · exact .inl (.inr ⟨o,e _ _ h⟩)
  · exact .inr h
end L2
namespace L2
open PySem PySem.Spec PyProof.Rows
def clo (cells:List (Str × Addr)):List (Str × NameKind)→List (Str × Addr)→List (Str × Addr)
  | [],cs=>cs
  | (n,k) :: r,cs=>clo cells r (if k == .free then (n,(cells.lookup n).getD 0) :: cs else cs)
theorem uW {env:Env}:∀ (names:List (Str × NameKind)) (cs:List (Str × Addr)),(∀ y∈names,y.2=.free→∃ c,env.cells.lookup y.1=some c) →
    (forIn names cs fun (x:Str × NameKind) (r:List (Str × Addr))=>(do
      let cs:=r
      match x with
      | (name,kind) =>
        if kind == .free then do
          let c ← cellOf env name
          let cs:=(name,c) :: cs
          pure (ForInStep.yield cs)
        else pure (ForInStep.yield cs):Sem (ForInStep (List (Str × Addr)))))=pure (clo env.cells names cs)
  | [],cs,_=>rfl
  | (n,k) :: r,cs,h=>by
    rw [List.forIn_cons]
    by_cases hk:k=.free
    · subst hk
      obtain ⟨c,hc⟩:=h (n,.free) List.mem_cons_self rfl
      have e:cellOf env n=pure c:=by unfold cellOf;rw [hc]
      simp only [beq_self_eq_true,if_true,e,pure_bind]
      rw [uW r _ fun y hy=>h y (List.mem_cons_of_mem _ hy)]
      simp [clo,hc]
    · have hb:(k == NameKind.free)=false:=by simpa using hk
      simp only [hb,Bool.false_eq_true,if_false,pure_bind]
      rw [uW r _ fun y hy=>h y (List.mem_cons_of_mem _ hy)]
      simp [clo,hb]
theorem gJ {env:Env} {scope:Scope} (h:∀ y∈scope.names,y.2=.free→∃ c,env.cells.lookup y.1=some c):closureFor scope env=pure (clo env.cells scope.names []):=by
  unfold closureFor
  have e:=uW (env:=env) scope.names [] h
  first
    | (rw [← e];rfl)
    | (simp only [bind_pure];exact e)
    | exact e
theorem uV {cells:List (Str × Addr)}:∀ (names:List (Str × NameKind)) (cs:List (Str × Addr)) (p:Str × Addr),p∈clo cells names cs→p∈cs∨p.2=(cells.lookup p.1).getD 0
  | [],_,_,h=>.inl h
  | (n,k) :: r,cs,p,h=>by
    rcases uV r _ p h with h' | h'
    · by_cases hk:(k == NameKind.free)=true
      · rw [if_pos hk] at h'
        rcases List.mem_cons.mp h' with e | e
        · subst e;exact .inr rfl
        · exact .inl e
      · rw [if_neg hk] at h';exact .inl h'
    · exact .inr h'
theorem qI {cells:List (Str × Addr)}:∀ (names:List (Str × NameKind)) (cs:List (Str × Addr)) (x:Str),(cs.lookup x).isSome=true→((clo cells names cs).lookup x).isSome=true
  | [],_,_,h=>h
  | (n,k) :: r,cs,x,h=>by
    refine qI r _ x ?_
    by_cases hk:(k == NameKind.free)=true
    · rw [if_pos hk]
      rw [List.lookup_cons]
      cases x == n with
      | true=>rfl
      | false=>exact h
    · rw [if_neg hk];exact h
theorem j4 {cells:List (Str × Addr)}:∀ (names:List (Str × NameKind)) (cs:List (Str × Addr)) (x:Str),(x,NameKind.free)∈names→((clo cells names cs).lookup x).isSome=true
  | [],_,_,h=>nomatch h
  | (n,k) :: r,cs,x,h=>by
    show ((clo cells r _).lookup x).isSome=true
    rcases List.mem_cons.mp h with e | e
    · have e1:x=n:=congrArg Prod.fst e
      have e2:NameKind.free=k:=congrArg Prod.snd e
      subst e1
      subst e2
      refine qI r _ x ?_
      rw [if_pos (by decide),List.lookup_cons]
      simp
    · exact j4 r _ x e
theorem uU {cells:List (Str × Addr)} {names:List (Str × NameKind)} {x:Str} {c:Addr} (h:(clo cells names []).lookup x=some c):c=(cells.lookup x).getD 0:=by
  rcases uV names [] _ (PySem.mem_of_lookup h) with z | z
  · exact nomatch z
  · exact z
theorem mK {cells:List (Str × Addr)}:∀ {names:List (Str × NameKind)} (cs:List (Str × Addr)) {p:Str × Addr},p∈clo cells names cs→p∈cs∨(p.1,NameKind.free)∈names
  | [],_,_,h=>.inl h
  | (n,k) :: r,cs,p,h=>by
    rcases mK (names:=r) _ h with h' | h'
    · by_cases hk:(k == NameKind.free)=true
      · rw [if_pos hk] at h'
        rcases List.mem_cons.mp h' with e | e
        · subst e
          have:k=.free:=by simpa using hk
          subst this
          exact .inr List.mem_cons_self
        · exact .inl e
      · rw [if_neg hk] at h';exact .inl h'
    · exact .inr (List.mem_cons_of_mem _ h')
def gH (X:Cx) (scope:Scope) (N:List Str) (s:Shared) (H:Hp) (ex:List Addr):Cx :=
  { X with N:=N,s₀:=s,H₀:=H,env:=compEnvC scope (clo X.env.cells scope.names []) s.heap.objs.size X.env,outer:=X.stack,stack:=X.stack,ex:=ex,fn:=fun x=>((clo X.env.cells scope.names []).lookup x).isNone,pn:=[],xe:=fun _ _=>False }
def freeOk (sc scope:Scope):Bool:=scope.names.all fun y=>(y.2 != .free) || (sc.names.lookup y.1 == some .cell) || (sc.names.lookup y.1 == some .free)
def o8 (scope:Scope):Bool:=(scope.kind == .function) && (scope.names.all fun y=>y.2 != .cell) && (scope.names.all fun y=>y.2 != .local || scope.names.lookup y.1 == some .local)
def pG (scope:Scope) (N N':List Str) (cap:List (Option Nat)):Bool:=(cap.length == N'.length) && (N'.zip cap).all fun p=>match p.2 with
  | none=>true
  | some j=>N[j]? == some p.1 && scope.names.lookup p.1 == some .free
def uX (cap:List (Option Nat)) (σ:St):St:=cap.map fun o=>o.bind fun j=>(σ[j]?).bind id
theorem gP {f:Str × NameKind→Str × NameKind} (hf:∀ y,(f y).1=y.1) (x:Str):∀ names:List (Str × NameKind),(names.map f).lookup x=(names.lookup x).map fun k=>(f (x,k)).2
  | []=>rfl
  | (n,k) :: r=>by
    have ih:=gP hf x r
    have e1:(f (n,k)).1=n:=hf (n,k)
    have e2:f (n,k)=(n,(f (n,k)).2):=Prod.ext e1 rfl
    rw [List.map_cons,e2,List.lookup_cons,List.lookup_cons]
    cases hx:x == n with
    | true =>
      have:x=n:=by simpa using hx
      subst this
      rfl
    | false=>exact ih
def rlb (env:Env):Str × NameKind→Str × NameKind:=fun (n,k)=>if (k == NameKind.free && env.scope.kind == .function && env.kindOf n == some .cell) then (n,NameKind.cell) else (n,k)
theorem tG (env:Env) (y:Str × NameKind):(rlb env y).1=y.1:=by
  obtain ⟨n,k⟩:=y
  unfold rlb
  dsimp only
  split <;> rfl
theorem tE (env:Env) (n:Str) (k:NameKind):(rlb env (n,k)).2=k∨((rlb env (n,k)).2=.cell∧k=.free):=by
  unfold rlb
  dsimp only
  split
  · rename_i h
    rw [Bool.and_eq_true,Bool.and_eq_true] at h
    exact .inr ⟨rfl,by simpa using h.1.1⟩
  · exact .inl rfl
theorem ig (scope:Scope) (env:Env):(relabel scope env).names=scope.names.map (rlb env):=rfl
theorem m9 {scope:Scope} {env:Env} {x:Str} (h:scope.names.lookup x=some .free):(relabel scope env).names.lookup x=some .cell∨(relabel scope env).names.lookup x=some .free:=by
  rw [ig,gP (tG env),h]
  rcases tE env x .free with e | ⟨e,_⟩
  · exact .inr (congrArg some e)
  · exact .inl (congrArg some e)
theorem jl {scope:Scope} {env:Env} {x:Str} {k':NameKind} (hk:k'=.cell∨k'=.free) (hn:∀ y∈scope.names,y.2≠.cell) (h:(relabel scope env).names.lookup x=some k'):(x,NameKind.free)∈scope.names:=by
  rw [ig,gP (tG env)] at h
  cases e:scope.names.lookup x with
  | none=>rw [e] at h;cases h
  | some k =>
    rw [e] at h
    have h':(rlb env (x,k)).2=k':=Option.some.inj h
    have hm:=PySem.mem_of_lookup e
    rcases tE env x k with z | ⟨_,z⟩
    · rw [z] at h'
      subst h'
      rcases hk with z2 | z2
      · exact absurd z2 (hn _ hm)
      · rw [z2] at hm;exact hm
    · rw [z] at hm;exact hm
def PTs (X:Cx) (ifs:List Expr) (t:TT):Prop :=
  ∀ (pins:List (Addr × Obj)) (s:Shared) (σ:St) (H:Hp) (Q:Bool→Hp→Prop),Inv X pins σ H s→t σ H Q →
    wpAny (model X.prog X.w) X.A (forIn ifs true fun c r=>if r=true then do let ok ← isTrue c X.env (eval c X.env);pure (ForInStep.yield ok) else pure (ForInStep.yield r)) (TP X pins σ Q) X.xe s
def Gp:TT:=fun _ H Q=>Q true H
theorem Gn {i:Nat} {x:V} {τ:St} {H:Hp} {A B:St→Hp→Prop} (h:A (τ.set i (some x)) H):wK i x τ H fun τ4 H4=>Gp τ4 H4 fun b H5=>if b=true then A τ4 H5 else B τ4 H5:=by
  show if true=true then A (τ.set i (some x)) H else B (τ.set i (some x)) H
  rw [if_pos rfl];exact h
theorem lZ {X:Cx}:PTs X [] Gp:=fun _ _ _ H _ I h=>wpAny_tests_nil ⟨H,I,h⟩
theorem jJ {X:Cx} {c:Expr} {t:TT} (h:PT X c t):PTs X [c] t:=fun pins s σ H Q I hq=>wpAny_tests_one (h pins s σ H Q I hq)
def mW (J:It) (acc:Addr) (g:TG) (tc:TT) (te:TE) (τ:St) (H1:Hp) (Q:Hp→Prop):Prop :=
  ∃ W:Nat→Nat→St→Hp→Prop,(∃ m,W 0 m τ (upd H1 acc (.lst [])))∧∀ i m τ H2,W i m τ H2→(J.stop i H2∧Q H2)∨(J.go i H2∧∃ N:St→Hp→Prop,(∀ τ' H',N τ' H'→∃ m',m'<m∧W (i + 1) m' τ' H')∧∀ x H3,J.yld i H2 x H3→g x τ H3 fun τ4 H4 =>
    tc τ4 H4 fun b H5=>if b=true then te τ4 H5 fun y H6=>∃ ys,H6 acc=some (.lst ys)∧ys.length<sizeLine∧N τ4 (upd H6 acc (.lst (ys++[y]))) else N τ4 H5)
theorem jf {lo:Int} {n:Nat} {acc:Addr} {g:TG} {tc:TT} {te:TE} {τ:St} {H1:Hp} {Q:Hp→Prop} (Pv:Nat→St→Hp→Prop) (h0:Pv 0 τ (upd H1 acc (.lst [])))
    (hs:∀ i τ H,i<n→Pv i τ H→g (.int (lo + i)) τ H fun τ4 H4=>tc τ4 H4 fun b H5=>if b=true then te τ4 H5 fun y H6=>∃ ys,H6 acc=some (.lst ys)∧ys.length<sizeLine∧Pv (i + 1) τ4 (upd H6 acc (.lst (ys++[y]))) else Pv (i + 1) τ4 H5)
    (hd:∀ τ H,Pv n τ H→Q H):mW (Itr lo n) acc g tc te τ H1 Q:=by
  refine ⟨fun i m τ H=>m=n - i∧i≤n∧Pv i τ H,⟨n,by simp,Nat.zero_le _,h0⟩,?_⟩
  rintro i m τ H ⟨rfl,hi,p⟩
  by_cases hlt:i<n
  · refine .inr ⟨hlt,Pv (i + 1),fun τ' H' p'=>⟨n - (i + 1),by omega,rfl,hlt,p'⟩,fun x H' y=>?_⟩
    obtain ⟨e,y⟩:=y
    subst e y
    exact hs i τ _ hlt p
  · have e:i=n:=by omega
    subst e
    exact .inl ⟨Nat.le_refl _,hd τ H p⟩
theorem iK {K:PySem.W.Frag} {a:Addr} {xs:List V} {acc:Addr} {g:TG} {tc:TT} {te:TE} {τ:St} {H1:Hp} {Q:Hp→Prop} (Pv:Nat→St→Hp→Prop) (h0:Pv 0 τ (upd H1 acc (.lst []))) (hl:∀ i τ H,i≤xs.length→Pv i τ H→SqL K H a xs)
    (hs:∀ i x τ H,xs[i]?=some x→Pv i τ H→g x τ H fun τ4 H4=>tc τ4 H4 fun b H5=>if b=true then te τ4 H5 fun y H6=>∃ ys,H6 acc=some (.lst ys)∧ys.length<sizeLine∧Pv (i + 1) τ4 (upd H6 acc (.lst (ys++[y]))) else Pv (i + 1) τ4 H5)
    (hd:∀ τ H,Pv xs.length τ H→Q H):mW (Itl K a) acc g tc te τ H1 Q:=by
  refine ⟨fun i m τ H=>m=xs.length - i∧i≤xs.length∧Pv i τ H,⟨xs.length,by simp,Nat.zero_le _,h0⟩,?_⟩
  rintro i m τ H ⟨rfl,hi,p⟩
  have q:=hl i τ H hi p
  by_cases hlt:i<xs.length
  · refine .inr ⟨⟨xs,xs[i],q,by simp [hlt]⟩,Pv (i + 1),fun τ' H' p'=>⟨xs.length - (i + 1),by omega,rfl,hlt,p'⟩,fun x H' y=>?_⟩
    obtain ⟨e,y⟩:=y
    subst e
    exact hs i x τ _ (y xs q) p
  · have e:i=xs.length:=by omega
    subst e
    exact .inl ⟨⟨xs,q,Nat.le_refl _⟩,hd τ H p⟩
def Ac (wi:TI) (cap:List (Option Nat)) (g:TG) (tc:TT) (te:TE):TE:=fun σ H Q=>wi σ H fun J H1=>∀ acc,H1 acc=none→mW J acc g tc te (uX cap σ) H1 (fun H2=>Q (.ref acc) H2)
abbrev Gf (ifs:List Expr) (env:Env):Sem Bool:=forIn ifs true fun c r=>if r=true then do let ok ← isTrue c env (eval c env);pure (ForInStep.yield ok) else pure (ForInStep.yield r)
abbrev wpQ {α:Type} (prog:Program) (w:World) (A:Around) (m:Sem α) (Q:α→Shared→Prop) (s:Shared):Prop:=wpAny (model prog w) A m Q (fun _ _=>False) s
theorem uR {prog:Program} {w:World} {A:Around} {R:Result→Shared→Prop} {s:Shared} {elt target iter:Expr} {ifs:List Expr} {scope:Scope} {pos:Pos} {it acc:Value} {env:Env} (I:Nat→Shared→Prop)
    (turn:∀ k s0,I k s0→wpQ prog w A (pyNext it) (fun r s1=>(r=none∧R (.ok .next) s1)∨∃ v,r=some v ∧
      wpQ prog w A (letOwnedTupleGo target it v) (fun _ s2=>wpQ prog w A (assign target env v) (fun _ s3=>wpQ prog w A (Gf ifs env) (fun ok s4 =>
        (ok=false∧∃ m,m<k∧I m s4)∨(ok=true∧wpQ prog w A (eval elt env) (fun x s5=>wpQ prog w A (call (.builtin "list.append") [acc,x]) (fun _ s6=>∃ m,m<k∧I m s6) s5) s4)) s3) s2) s1) s0)
    (k:Nat) (h:I k s):codeAny (model prog w) A (.compLoop (.ListComp elt [⟨target,iter,ifs,0⟩] scope pos) 0 it acc env) R s:=by
  have quiet:∀ (e:Value) (s':Shared),False→notedBy (model prog w) A env (fun e s'=>R (.error e) s') e s':=fun _ _ z=>z.elim
  apply codeAny_loop rfl I _ k h
  intro k s0 start
  apply wpAny_noted
  rw [compTurn_list]
  apply wpAny_bind
  apply wpAny_standAt
  apply wpAny_bind
  apply wpAny_mono (turn k s0 start) _ quiet
  rintro r s1 (⟨rfl,stop⟩ | ⟨v,rfl,rest⟩)
  · exact wpAny_pure stop
  apply wpAny_bind
  apply wpAny_mono rest _ quiet
  intro _ s2 h2
  apply wpAny_bind
  apply wpAny_mono h2 _ quiet
  intro _ s3 h3
  apply wpAny_bind
  apply wpAny_mono h3 _ quiet
  rintro ok s4 (⟨rfl,skip⟩ | ⟨rfl,add⟩)
  · exact wpAny_pure ⟨rfl,skip⟩
  apply wpAny_bind
  apply wpAny_bind
  apply wpAny_mono add _ quiet
  intro x s5 h5
  apply wpAny_bind
  apply wpAny_mono h5 _ quiet
  intro _ s6 h6
  exact wpAny_pure (wpAny_pure ⟨rfl,h6⟩)
section
variable {X:Cx} {tg iter elt:Expr} {ifs:List Expr} {scope:Scope} {pos:Pos} {wi:TI} {N':List Str} {cap:List (Option Nat)} {g:TG} {tc:TT} {te:TE}
theorem lC {use:Option (Value→Sem Unit)} {R:Value→Shared→Prop} (sc:Scope) (hsc:X.env.scope=sc) (N₀:List Str) (hN₀:X.N=N₀) (f1:freeOk sc scope=true) (f2:o8 scope=true) (f3:pG scope N₀ N' cap=true) (hcalm:X.calm=true)
    (hi:PI X tg iter wi)
    (hg:∀ (s:Shared) (H:Hp) (ex:List Addr),PG (gH X scope N' s H ex) tg g)
    (hc:∀ (s:Shared) (H:Hp) (ex:List Addr),PTs (gH X scope N' s H ex) ifs tc)
    (he:∀ (s:Shared) (H:Hp) (ex:List Addr),PE (gH X scope N' s H ex) elt te)
    (hs:∀ x,foldedSetIterable iter X.env x=pure x)
    {pins:List (Addr × Obj)} {s:Shared} {σ:St} {H:Hp} {Q:V→Hp→Prop} (I:Inv X pins σ H s) (h:Ac wi cap g tc te σ H Q)
    (fin:∀ (acc C:Addr) (s':Shared) (H':Hp) (m:Str→Option Value),Inv X pins σ H' s'→s'.heap.Ns C m→H' C=none→C≠X.env.locals→X.s₀.heap.objs.size≤C→(∀ x c,X.env.cells.lookup x=some c→c≠C)→(∀ p∈X.pn++pins,p.1≠C)→Q (.ref acc) H' →
      compPost (model X.prog X.w) X.A X.xe use R (.ref acc) C (.ok .next) s') :
    wpAny (model X.prog X.w) X.A (comprehension (.ListComp elt [⟨tg,iter,ifs,0⟩] scope pos) scope X.env (firstIterPos [⟨tg,iter,ifs,0⟩] pos) (newList []) false (firstIter [⟨tg,iter,ifs,0⟩] X.env) use) R X.xe s:=by
  have ok:=I.ok
  have fr:∀ y∈scope.names,y.2=.free→X.env.kindOf y.1=some .cell∨X.env.kindOf y.1=some .free:=fun y hy e=>by
    have q:=List.all_eq_true.mp f1 y hy
    rw [e] at q
    have q':((sc.names.lookup y.1 == some NameKind.cell) || (sc.names.lookup y.1 == some NameKind.free))=true:=by simpa using q
    rw [Bool.or_eq_true] at q'
    unfold Env.kindOf
    rw [hsc]
    rcases q' with z | z
    · exact .inl (by simpa using z)
    · exact .inr (by simpa using z)
  obtain ⟨⟨k1,k2⟩,k3⟩:((scope.kind == .function)=true∧(scope.names.all fun y=>y.2 != .cell)=true)∧(scope.names.all fun y=>y.2 != .local || scope.names.lookup y.1 == some .local)=true:=by
    unfold o8 at f2
    rw [Bool.and_eq_true,Bool.and_eq_true] at f2
    exact f2
  have hkind:scope.kind=.function:=by simpa using k1
  have hcell:∀ y∈scope.names,y.2≠.cell:=fun y hy=>by
    have q:=List.all_eq_true.mp k2 y hy
    simpa using q
  have hnames:∀ y∈scope.names,y.2=.local→scope.names.lookup y.1=some .local:=fun y hy e=>by
    have q:=List.all_eq_true.mp k3 y hy
    rw [e] at q
    simpa using q
  have hclos:closureFor scope X.env=pure (clo X.env.cells scope.names []):=gJ fun y hy e=>ok.has y.1 (fr y hy e)
  have clX:∀ x c,(clo X.env.cells scope.names []).lookup x=some c→X.env.cells.lookup x=some c:=fun x c e=>by
    have e1:=uU e
    have hx:(x,NameKind.free)∈scope.names:=by
      rcases mK [] (PySem.mem_of_lookup e) with z | z
      · exact nomatch z
      · exact z
    obtain ⟨c',e2⟩:=ok.has x (fr (x,.free) hx rfl)
    rw [e2] at e1 ⊢
    rw [e1];rfl
  refine wpAny_comprehension_free (use:=use) rfl hs hclos hkind hnames ?_
  show wpAny (model X.prog X.w) X.A (eval iter X.env) _ X.xe s
  refine thn (hi pins s σ H _ I h) fun v s1 h1=>thn h1 fun itv s2 h2=>?_
  obtain ⟨it,fp,tn,J,H2,e,I2,T,st2,f2',h3⟩:=h2
  subst e
  refine wpAny_newObj_type ?_
  have fresh2:H2 s2.heap.objs.size=none:=I2.hok.fresh (Nat.le_refl _)
  have I3:Inv X pins σ (upd H2 s2.heap.objs.size (.lst [])) { s2 with heap:=s2.heap.push { cls:=.type "list",data:=.seq ([]:List Value).toArray } } :=
    I2.laid (t':=s2.toks) (fun b o e=>Heap.get?_push_of_some _ e) (Nat.le_refl _) ⟨Nat.zero_le _,[],0,.nil,Heap.get?_push_size _ rfl⟩
  have st3:tn 0 (s2.heap.push { cls:=.type "list",data:=.seq ([]:List Value).toArray }):=T.keep _ _ _ st2 fun b _ o e=>Heap.get?_push_of_some _ e
  have fpne:∀ b∈fp,b≠s2.heap.objs.size:=fun b hb z=>by
    obtain ⟨o,eo,_⟩:=T.obj 0 _ st2 b hb
    exact absurd (Heap.lt_size eo) (by rw [z];exact Nat.lt_irrefl _)
  have fp3:∀ b∈fp,oN X pins (upd H2 s2.heap.objs.size (.lst [])) b:=fun b hb=>by
    obtain ⟨a0,a1⟩:=f2' b hb
    exact ⟨by rw [aL (fpne b hb)];exact a0,a1⟩
  obtain ⟨W,⟨m0,w0⟩,turn⟩:=h3 s2.heap.objs.size fresh2
  generalize hacc:s2.heap.objs.size=acc at I3 fp3 w0 turn fpne ⊢
  generalize hs3:({ s2 with heap:=s2.heap.push { cls:=.type "list",data:=.seq ([]:List Value).toArray } }:Shared)=s3 at I3 ⊢
  have st3:tn 0 s3.heap:=by rw [← hs3];exact st3
  have accTr:(upd H2 acc (.lst [])) acc=some (.lst []):=bh
  refine wpAny_newFunctionEnv hcell (by intro y hy;cases hy) (fun h4 hns hsb=>?_) hkind
  have hCf:s3.heap.get? s3.heap.objs.size=none:=Heap.get?_none_of_le (Nat.le_refl _)
  have kp4:∀ b o,s3.heap.get? b=some o→h4.get? b=some o:=fun b o e=>hsb.extBut b o (Nat.ne_of_lt (Heap.lt_size e)) (Heap.get?_push_of_some _ e)
  let Y:Cx:=gH X scope N' s3 (upd H2 acc (.lst [])) fp
  have envY:Y.env=compEnvC scope (clo X.env.cells scope.names []) s3.heap.objs.size X.env:=rfl
  have okY:Y.Ok:=by
    refine ⟨ok.mod,?_,ok.glob,ok.blt,Nat.le_refl _,?_,?_,?_,ok.hd,ok.frames,.inl rfl,?_,?_,?_,?_,?_,?_,?_⟩
    · show (relabel scope X.env).kind=.function
      exact hkind
    · exact fun x y c h1 h2=>ok.inj x y c (clX x c h1) (clX y c h2)
    · intro x hx
      have hx':(relabel scope X.env).names.lookup x=some .cell∨(relabel scope X.env).names.lookup x=some .free:=hx
      have hm:(x,NameKind.free)∈scope.names:=by
        rcases hx' with z | z
        · exact jl (.inl rfl) hcell z
        · exact jl (.inr rfl) hcell z
      exact Option.isSome_iff_exists.mp (j4 scope.names [] x hm)
    · intro x c hx h1
      have hx':((clo X.env.cells scope.names []).lookup x).isNone=true:=hx
      have h1':(clo X.env.cells scope.names []).lookup x=some c:=h1
      rw [h1'] at hx';cases hx'
    · intro b hb
      obtain ⟨q0,q1,q2,q3,q4,q5⟩:=fp3 b hb
      refine ⟨?_,fun x c h1=>q4 x c (clX x c h1)⟩
      obtain ⟨o,eo,_⟩:=T.obj 0 _ st3 b hb
      exact Nat.ne_of_lt (Heap.lt_size eo)
    · exact fun b o e=>I3.bs b o e
    · exact Nat.le_trans ok.bsz I3.sz
    · intro b o e hb
      obtain ⟨q0,q1,q2,q3,q4,q5⟩:=fp3 b hb
      rcases q3 with z | z
      · exact ok.noex b o e z
      · exact absurd (Nat.lt_of_lt_of_le (Heap.lt_size e) (Nat.le_trans ok.bsz z)) (Nat.lt_irrefl _)
    · intro b hb hf
      obtain ⟨q0,q1,q2,q3,q4,q5⟩:=fp3 b hb
      rcases List.mem_cons.mp (I3.sH b hf) with z | z
      · exact q1 z
      · exact q2 z
    · exact I3.stack
    · exact I3.oV
  have capl:cap.length=N'.length∧∀ p∈N'.zip cap,(match p.2 with | none=>true | some j=>N₀[j]? == some p.1 && scope.names.lookup p.1 == some .free)=true:=by
    unfold pG at f3
    rw [Bool.and_eq_true] at f3
    exact ⟨by simpa using f3.1,fun p hp=>List.all_eq_true.mp f3.2 p hp⟩
  have IY:Inv Y [] (uX cap σ) (upd H2 acc (.lst [])) { s3 with heap:=h4,toks:=s3.toks + ([]:List (Str × Value)).length }:=by
    refine ⟨okY,rfl,I3.bare,Un.kept kp4,⟨_,hns,?_⟩,?_,?_,?_,fun p hp=>absurd (show p∈([]:List (Addr × Obj)) from hp) (by simp),I3.hok.kept kp4,?_⟩
    · intro i x v e1 e2 e3
      have e1':N'[i]?=some x:=e1
      unfold uX at e2
      rw [List.getElem?_map] at e2
      cases ec:cap[i]? with
      | none=>rw [ec] at e2;cases e2
      | some o =>
        rw [ec] at e2
        cases o with
        | none=>cases e2
        | some j =>
          have e2':(σ[j]?).bind id=some v:=by simpa using e2
          have hz:(x,some j)∈N'.zip cap:=by
            refine List.mem_of_getElem? (i:=i) ?_
            rw [List.getElem?_zip_eq_some]
            exact ⟨e1',ec⟩
          have q:=capl.2 _ hz
          have q':(N₀[j]? == some x)=true∧(scope.names.lookup x == some NameKind.free)=true:=by simpa [Bool.and_eq_true] using q
          have q1:X.N[j]?=some x:=by rw [hN₀];simpa using q'.1
          have q2:scope.names.lookup x=some .free:=by simpa using q'.2
          have eσ:σ[j]?=some (some v):=by
            cases z:σ[j]? with
            | none=>rw [z] at e2';cases e2'
            | some y =>
              rw [z] at e2'
              have:y=some v:=e2'
              rw [this]
          have hk:=fr (x,.free) (PySem.mem_of_lookup q2) rfl
          obtain ⟨m,hn,hl⟩:=I3.loc
          have vis:Vis X.env.scope x:=by
            rcases hk with z | z
            · exact .inr (.inl z)
            · exact .inr (.inr z)
          obtain ⟨u,r,l⟩:=hl j x v q1 eσ vis
          refine ⟨u,r,.inr ⟨?_,?_⟩⟩
          · rcases m9 (scope:=scope) (env:=X.env) q2 with z | z
            · exact .inl z
            · exact .inr z
          · rcases l with ⟨kl,_⟩ | ⟨_,c,ecx,hcx⟩
            · rcases hk with z | z
              · have z':X.env.kindOf x=some .cell:=z
                rw [kl] at z';cases z'
              · have z':X.env.kindOf x=some .free:=z
                rw [kl] at z';cases z'
            · have hh:=j4 (cells:=X.env.cells) scope.names [] x (PySem.mem_of_lookup q2)
              obtain ⟨c',ec'⟩:=Option.isSome_iff_exists.mp hh
              have ec2:=clX x c' ec'
              rw [ecx] at ec2
              cases ec2
              exact ⟨c,ec',hcx.keeps kp4⟩
    · intro x c e
      obtain ⟨v,z⟩:=I3.cell x c (clX x c e)
      exact ⟨v,z.keeps kp4⟩
    · exact I3.hok.fresh (Nat.le_refl _)
    · exact fun x c e=>I3.freeC x c (clX x c e)
    · show (uX cap σ).length=N'.length
      unfold uX
      rw [List.length_map];exact capl.1
  have fpY:∀ {H':Hp},(∀ b∈fp,H' b=none)→∀ b∈fp,oN Y [] H' b:=fun {H'} hn b hb=>by
    obtain ⟨q0,q1,q2,q3,q4,q5⟩:=fp3 b hb
    refine ⟨hn b hb,(okY.exf b hb).1,okY.exfs b hb,.inl hb,(okY.exf b hb).2,fun p hp=>absurd (show p∈([]:List (Addr × Obj)) from hp) (by simp)⟩
  have st4:tn 0 h4:=T.keep _ _ _ st3 fun b _ o e=>kp4 b o e
  have back:∀ {τ:St} {H':Hp} {s':Shared},Inv Y [] τ H' s'→Q (.ref acc) H'→compPost (model X.prog X.w) X.A X.xe use R (.ref acc) s3.heap.objs.size (.ok .next) s':=fun {τ H' s'} J q=>by
    have un:Un (frs X.stack) fp (upd H2 acc (.lst [])) H' s3.heap s'.heap:=J.base
    have IX:Inv X pins σ H' s':=I3.call' (J.os) un J.hok J.bare fun b hb=>by
      obtain ⟨q0,q1,q2,q3,q4,q5⟩:=fp3 b hb
      exact ⟨q3,q1,q4,q5⟩
    obtain ⟨m,hn,_⟩:=J.loc
    refine fin acc s3.heap.objs.size s' H' m IX hn J.free (Nat.ne_of_gt I3.lt) I3.sz (fun x c e z=>?_) (fun p hp z=>?_) q
    · obtain ⟨v,q⟩:=I3.cell x c e
      exact absurd q.lt (by rw [z];exact Nat.lt_irrefl _)
    · exact absurd (Heap.lt_size (I3.pin p hp).1) (by rw [z];exact Nat.lt_irrefl _)
  have loop:∀ s5:Shared,s5={ s3 with heap:=h4,toks:=s3.toks + ([]:List (Str × Value)).length } →
      codeAny (model X.prog X.w) X.A (.compLoop (.ListComp elt [⟨tg,iter,ifs,0⟩] scope pos) 0 (.ref it) (.ref acc) Y.env) (compPost (model X.prog X.w) X.A X.xe use R (.ref acc) s3.heap.objs.size) s5:=by
    rintro s5 rfl
    refine uR (fun n s'=>∃ i τ H',Inv Y [] τ H' s'∧tn i s'.heap∧(∀ b∈fp,H' b=none)∧W i n τ H') ?_ m0 ⟨0,_,_,IY,st4,fun b hb=>(fp3 b hb).1,w0⟩
    rintro n s6 ⟨i,τ,H6,I6,st6,fr6,w6⟩
    rcases turn i n τ H6 w6 with ⟨stop,q⟩ | ⟨go,N,hN,step⟩
    · refine wpAny_mono (T.done Y rfl rfl rfl hcalm i [] s6 τ H6 (fun _ _=>False) I6 (fpY fr6) st6 stop) (fun r s7 ⟨hr,I7⟩=>?_) fun _ _ z=>z.elim
      exact .inl ⟨hr,back I7 q⟩
    · refine wpAny_mono (T.item Y rfl rfl rfl hcalm i [] s6 τ H6 (fun _ _=>False) I6 (fpY fr6) st6 go) (fun r s6b ⟨u,hr,h7⟩=>?_) fun _ _ z=>z.elim
      refine .inr ⟨u,hr,?_⟩
      refine wpAny_mono h7 (fun _ s7 ⟨x,H7,I7,r7,y7,st7,fr7⟩=>?_) fun _ _ z=>z.elim
      have I7':=I7.pinned (fpY fr7) (T.obj _ _ st7)
      have again:∀ {τ8:St} {H8:Hp} {s8:Shared},Inv Y ([]++nq fp s7.heap) τ8 H8 s8→N τ8 H8→∃ m,m<n∧∃ i τ H',Inv Y [] τ H' s8∧tn i s8.heap∧(∀ b∈fp,H' b=none)∧W i m τ H':=fun {τ8 H8 s8} I8 n8=>by
        obtain ⟨m',hm,w8⟩:=hN τ8 H8 n8
        refine ⟨m',hm,i + 1,τ8,H8,I8.dR,T.keep _ _ _ st7 fun b hb o e=>(I8.pin (b,o) (List.mem_append_right _ (List.mem_append_right _ (gD hb e)))).1,fun b hb=>?_,w8⟩
        obtain ⟨o,e,d⟩:=T.obj _ _ st7 b hb
        exact (I8.pin (b,o) (List.mem_append_right _ (List.mem_append_right _ (gD hb e)))).2.1
      refine wpAny_mono (hg s3 (upd H2 acc (.lst [])) fp _ s7 τ H7 x u _ I7' r7 (step x H7 y7)) (fun _ s8 ⟨τ8,H8,I8,q8⟩=>?_) fun _ _ z=>z.elim
      refine wpAny_mono (hc s3 (upd H2 acc (.lst [])) fp _ s8 τ8 H8 _ I8 q8) (fun b s9 ⟨H9,I9,q9⟩=>?_) fun _ _ z=>z.elim
      cases b with
      | false =>
        rw [if_neg Bool.false_ne_true] at q9
        exact .inl ⟨rfl,again I9 q9⟩
      | true =>
        rw [if_pos rfl] at q9
        refine .inr ⟨rfl,?_⟩
        refine wpAny_mono (he s3 (upd H2 acc (.lst [])) fp _ s9 τ8 H9 _ I9 q9) (fun y s10 ⟨yv,H10,I10,r10,ys,hl,hz,q10⟩=>?_) fun _ _ z=>z.elim
        refine wpAny_mono (dD (X:=Y) _ s10 τ8 H10 (.ref acc) [yv] (.ref acc) [y] (fun v H'=>N τ8 H') I10 rfl (.cons r10 .nil) ⟨acc,ys,yv,rfl,rfl,hl,hz,q10⟩) (fun v s11 ⟨vv,H11,I11,r11,q11⟩=>?_) fun _ _ z=>z.elim
        exact again I11 q11
  exact codeAny_compStart_list (loop _ rfl) (T.self _ _ _ _ _ st4 (loop _ rfl))
theorem gO (sc:Scope) (hsc:X.env.scope=sc) (N₀:List Str) (hN₀:X.N=N₀) (N':List Str) (cap:List (Option Nat)) (f1:freeOk sc scope=true) (f2:o8 scope=true) (f3:pG scope N₀ N' cap=true) (hcalm:X.calm=true)
    (hi:PI X tg iter wi)
    (hg:∀ (s:Shared) (H:Hp) (ex:List Addr),PG (gH X scope N' s H ex) tg g)
    (hc:∀ (s:Shared) (H:Hp) (ex:List Addr),PTs (gH X scope N' s H ex) ifs tc)
    (he:∀ (s:Shared) (H:Hp) (ex:List Addr),PE (gH X scope N' s H ex) elt te)
    (hs:∀ x,foldedSetIterable iter X.env x=pure x:=by intro _;rfl) :
    PE X (.ListComp elt [⟨tg,iter,ifs,0⟩] scope pos) (Ac wi cap g tc te):=by
  intro pins s σ H Q I h
  rw [eval_ListComp]
  refine lC (use:=none) sc hsc N₀ hN₀ f1 f2 f3 hcalm hi hg hc he hs I h ?_
  intro acc C s' H' m IX hn hC h1 h2 h3 h4 q
  refine ⟨m,hn,fun h'' hs''=>?_⟩
  exact ⟨.ref acc,H',IX.turned (t':=s'.toks) (fun b o hb e=>(hs''.2 b hb).trans e) hC h1 (.inr h2) h3 h4,rfl,q⟩
theorem kY {i:Nat} {x:Str} {pos' spos:Pos} (sc:Scope) (hsc:X.env.scope=sc) (N₀:List Str) (hN₀:X.N=N₀) (N':List Str) (cap:List (Option Nat)) (f1:freeOk sc scope=true) (f2:o8 scope=true) (f3:pG scope N₀ N' cap=true) (hcalm:X.calm=true)
    (hnd:X.N.Nodup) (hix:X.N[i]?=some x) (hx:X.env.scope.names.lookup x=some .local)
    (hi:PI X tg iter wi)
    (hg:∀ (s:Shared) (H:Hp) (ex:List Addr),PG (gH X scope N' s H ex) tg g)
    (hc:∀ (s:Shared) (H:Hp) (ex:List Addr),PTs (gH X scope N' s H ex) ifs tc)
    (he:∀ (s:Shared) (H:Hp) (ex:List Addr),PE (gH X scope N' s H ex) elt te)
    (hsw:swapsWith (.ListComp elt [⟨tg,iter,ifs,0⟩] scope pos) (some (.Name x pos')) spos.line X.env=pure true)
    (hs:∀ x,foldedSetIterable iter X.env x=pure x:=by intro _;rfl) :
    PS X (.Assign [.Name x pos'] (.ListComp elt [⟨tg,iter,ifs,0⟩] scope pos) spos) (GC (Ac wi cap g tc te) (wK i)):=by
  intro pins s σ H D I h
  rw [exec_Assign_Name_used _ _ _ _ hsw]
  refine wpAny_bind (wpAny_standAt (wpAny_bind ?_))
  show wpAny _ X.A (do let _ ← comprehension (.ListComp elt [⟨tg,iter,ifs,0⟩] scope pos) scope X.env _ (newList []) false (firstIter [⟨tg,iter,ifs,0⟩] X.env) (some (assign (.Name x pos') X.env))) _ _ s
  refine wpAny_bind (wpAny_mono (lC (use:=some (assign (.Name x pos') X.env)) (R:=fun _ s'=>SP X pins D .next s') sc hsc N₀ hN₀ f1 f2 f3 hcalm hi hg hc he hs I h ?_) (fun _ s' hq=>wpAny_pure (wpAny_pure hq)) fun _ _ e=>e)
  intro acc C s' H' m IX hn hC h1 h2 h3 h4 q
  show wpAny _ X.A (assign (.Name x pos') X.env (.ref acc)) _ _ _
  refine wpAny_assign_Name (mX (v:=.ref acc) IX hnd hix (.inl hx) rfl (fun s2 I2 hsb=>?_) (.inr hx))
  obtain ⟨a,sb,ha⟩:=hsb
  have hCa:C≠a:=by
    rcases ha with z | z
    · rw [z];exact h1
    · exact fun w=>h3 x a z w.symm
  refine ⟨m,hn.sameBut sb hCa,fun h'' hs''=>?_⟩
  exact ⟨_,H',I2.turned (t':=s2.toks) (fun b o hb e=>(hs''.2 b hb).trans e) hC h1 (.inr h2) h3 h4,q⟩
end
end L2
namespace L2
open PySem PySem.Spec PyProof.Rows
section
variable {X:Cx}
def GZ (K:PySem.W.Frag):V→V→Hp→VK→Prop:=fun x y H Q=>∃ p xs j v,x=.ref p∧y=.int (j:Nat)∧SqL K H p xs∧xs[j]?=some v∧Q v H
theorem qy:JG X (GZ X.K):=by
  intro pins s σ H o i ov iv Q I ro ri h
  obtain ⟨p,xs,j,z,rfl,rfl,hq,he,q⟩:=h
  cases ro
  obtain ⟨t,rfl⟩:=ri
  obtain ⟨its,r,pl,hz⟩:=I.list hq
  obtain ⟨w,ew,rw'⟩:=r.get he
  have hl:=r.length
  have hn:=lA
  have hj:j<xs.length:=(List.getElem?_eq_some_iff.mp he).1
  exact wpAny_getItem_list pl.isList (by omega) (by omega) (by rw [Int.toNat_natCast];simpa using ew) ⟨z,H,I,rw',q⟩
def Jm (K:PySem.W.Frag) (neg:Bool):R2:=fun x y H Q=>∃ (a b:Addr) (ns ms:List Int),x=.ref a∧y=.ref b∧SqL K H a (ns.map V.int)∧SqL K H b (ms.map V.int)∧Q (.bl (if neg then !decide (ns=ms) else decide (ns=ms))) H
theorem gQ:oK X (.builtin "isinstance") (fun xs H Q=>∃ x t c b,xs=[x,.ty c]∧qM X.K H x t∧PySem.W.kitOne X.K t (.type c)=some b∧Q (.bl b) H):=by
  intro pins s σ H xs us Q I r h
  obtain ⟨x,t,c,b,rfl,ty,e,q⟩:=h
  obtain ⟨u,w,rfl,ru,rw'⟩:=vals2 r
  obtain rfl:w=Value.type c:=rw'
  exact uD I ru ty e fun tk=>⟨.bl b,H,I.tok tk,rfl,q⟩
end
end L2
namespace L2
open PySem PySem.Spec PyProof.Rows
section
variable {X:Cx} {st:Stmt} {rest:List Stmt} {t u:TS}
def sE (t u:TS):TS:=fun D σ H=>∃ M:St→Hp→Prop,t { D with nx:=M } σ H∧∀ σ' H',M σ' H'→u D σ' H'
theorem nj (h1:PS X st t) (h2:PSs X rest u):PSs X (st :: rest) (sE t u):=by
  intro pins s σ H D I h
  obtain ⟨M,ha,hb⟩:=h
  refine wpAny_execs_cons (thn (h1 pins s σ H { D with nx:=M } I ha) fun f s1 q=>?_)
  cases f with
  | next =>
    obtain ⟨σ',H',I',q⟩:=q
    exact h2 pins s1 σ' H' D I' (hb σ' H' q)
  | ret v=>exact q
  | brk=>exact q
  | cont=>exact q
end
end L2
namespace L2
open PySem PySem.Spec PyProof.Rows
def Gh (H:Hp) (P:List V→Prop) (Q:VK):Prop:=∀ (l:Addr) (H':Hp) (xs:List V),Same H H'→H l=none→H' l=some (.lst xs)→P xs→Q (.ref l) H'
structure Df (K:PySem.W.Frag) (mg:Str→Option Value) (x:Str) (st:Stmt) (ps:List Str) (a:Addr) (fd:FuncData):Prop where
  F:Fun K x x st a fd
  b:Binds K fd ps []
  m:mg x=some (.ref a)
theorem Same.upd {H H':Hp} {l:Addr} {o:HO} (s:Same H H') (h:H l=none):Same H (L2.upd H' l o):=fun b u e=>by
  rw [aL (aY e h)];exact s b u e
theorem ints_get {ns:List Int} {i:Nat} {y:V} (h:(ns.map V.int)[i]?=some y):∃ z,ns[i]?=some z∧y=V.int z:=by
  rw [List.getElem?_map] at h
  cases e:ns[i]? with
  | none=>rw [e] at h;cases h
  | some z=>rw [e] at h;exact ⟨z,rfl,(Option.some.inj h).symm⟩
theorem fC {ns:List Int} {i:Nat} {z:Int} (h:ns[i]?=some z):atI (ns.map V.int) (i:Int)=some (V.int z):=vg (by rw [List.getElem?_map,h];rfl)
theorem iC {ns:List Int} {i:Int} {z:Int} (h0:0≤i) (h:ns[i.toNat]?=some z):atI (ns.map V.int) i=some (V.int z):=by
  obtain ⟨k,rfl⟩:=Int.eq_ofNat_of_zero_le h0
  exact fC (by simpa using h)
theorem jU {n j:Nat} (h:j<n):ixN n (j:Int)=some j:=by
  unfold ixN
  rw [if_pos (by omega),if_pos (by omega)];simp
theorem Ag {α:Type} (n:Nat) (x:α):(List.replicate n [x]).flatten=List.replicate n x:=by
  induction n with
  | zero=>rfl
  | succ n ih=>rw [List.replicate_succ,List.flatten_cons,ih,List.replicate_succ];rfl
theorem gB {n:Nat} (h:n≤100000):n≤sizeLine:=Nat.le_trans h (by decide)
theorem bf {n:Nat} (h:n≤100000):n<sizeLine:=Nat.lt_of_le_of_lt h (by decide)
structure Blt (mg:Str→Option Value):Prop where
  len:mg "len"=none
  range:mg "range"=none
  list:mg "list"=none
  isinstance:mg "isinstance"=none
  bool:mg "bool"=none
  int:mg "int"=none
  all:mg "all"=none
  min:mg "min"=none
  max:mg "max"=none
  sum:mg "sum"=none
  sorted:mg "sorted"=none
  zip:mg "zip"=none
  tuple:mg "tuple"=none
  str:mg "str"=none
  any:mg "any"=none
  enumerate:mg "enumerate"=none
  reversed:mg "reversed"=none
  abs:mg "abs"=none
  ValueError:mg "ValueError"=none
  set:mg "set"=none
structure Mth (mg:Str→Option Value):Prop where
  MOUTH:∃ t,mg "MOUTH"=some (.int (-1) t)
section
variable {X:Cx} {K:PySem.W.Frag}
theorem qu (h:X.K=K):IxR X (Jl K):=h ▸ aG
theorem mL (h:X.K=K):oK X (.builtin "len") (fun xs H Q=>∃ p ys,xs=[.ref p]∧(SqL K H p ys∨SqT K H p ys)∧Q (.int ys.length) H):=h ▸ aN
theorem kZ (h:X.K=K):OpR X (compareOp .In) (rIn K false):=h ▸ jP
end
end L2
namespace L2
open PySem PySem.W PyProof.Rows
structure Arr (N:Nat) (p:Array Nat):Prop where
  size:p.size=N
  perm:p.toList.Perm (List.range N)
theorem Arr.start (N:Nat):Arr N (List.toArray (List.range N)):=⟨by simp,by simp⟩
theorem Arr.nd {N:Nat} {p:Array Nat} (h:Arr N p):p.toList.Nodup:=h.perm.nodup_iff.mpr List.nodup_range
theorem Arr.get {N:Nat} {p:Array Nat} (h:Arr N p) {i:Nat} (hi:i<N):p.toList[i]?=some (p.getD i 0):=by
  have hi':i<p.size:=by rw [h.size];exact hi
  simp [Array.getD,hi']
theorem Arr.lt {N:Nat} {p:Array Nat} (h:Arr N p) {i:Nat} (hi:i<N):p.getD i 0<N:=by
  have:=h.perm.mem_iff.mp (List.mem_of_getElem? (h.get hi))
  exact List.mem_range.mp this
theorem Arr.ne {N:Nat} {p:Array Nat} (h:Arr N p) {i j:Nat} (hi:i<N) (hj:j<N) (hij:i≠j):p.getD i 0≠p.getD j 0:=by
  intro e
  obtain ⟨a1,a2⟩:=List.getElem?_eq_some_iff.mp (h.get hi)
  obtain ⟨b1,b2⟩:=List.getElem?_eq_some_iff.mp (h.get hj)
  exact hij ((List.getElem_inj h.nd).mp (by rw [a2,b2,e]))
theorem Arr.uh {N:Nat} {p q:Array Nat} (h:Arr N p) (hs:q.size=p.size) (hp:q.Perm p):Arr N q:=⟨hs.trans h.size,(Array.perm_iff_toList_perm.mp hp).trans h.perm⟩
theorem Arr.rev {N:Nat} {p:Array Nat} (h:Arr N p) (i j:Nat):Arr N (kas_rev p i j):=h.uh (mirror_size _ _ _ _) (mirror_perm _ _ _ _)
theorem Arr.bub {N:Nat} {p:Array Nat} (h:Arr N p) (k d:Nat):Arr N (bubble p k d):=h.uh (bubble_size _ _ _) (bubble_perm _ _ _)
theorem mD {p q:Array Nat} {i j:Nat} (h:p[i]?=q[j]?):p.getD i 0=q.getD j 0:=by
  rw [Array.getD_eq_getD_getElem?,Array.getD_eq_getD_getElem?,h]
theorem tK {N:Nat} {p:Array Nat} (h:Arr N p) {n k:Nat} (hn:n≤N) (hk:k<n):(kas_rev p 0 n).getD k 0=p.getD (n - 1 - k) 0:=by
  refine mD ?_
  unfold kas_rev
  rw [getElem?_mirror (by rw [h.size];exact hn) ((n - 0) / 2) (by omega) k]
  split
  · congr 1;omega
  · congr 1;omega
theorem vd {N:Nat} {p:Array Nat} (h:Arr N p) {k l j:Nat} (hk:k<N) (hl:l≤k):(bubble p k (k - l)).getD j 0=if j=l then p.getD k 0 else if l<j∧j≤k then p.getD (j - 1) 0 else p.getD j 0:=by
  have e:=getElem?_bubble (xs:=p) (src:=k) (by rw [h.size];exact hk) (k - l) (by omega) j
  have e1:k - (k - l)=l:=by omega
  rw [e1] at e
  by_cases h1:j=l
  · rw [if_pos h1] at e ⊢;exact mD e
  · rw [if_neg h1] at e ⊢
    by_cases h2:l<j∧j≤k
    · rw [if_pos h2] at e ⊢;exact mD e
    · rw [if_neg h2] at e ⊢;exact mD e
section
variable {N:Nat} {κ:Nat→Int} {R:Shared→Prop} {cmp:Nat→Nat→(Bool→Shared→Prop)→Shared→Prop}
def Srt (κ:Nat→Int) (p:Array Nat) (n:Nat):Prop:=∀ i j,i<j→j<n→κ (p.getD i 0)<κ (p.getD j 0)
def Dsc (κ:Nat→Int) (p:Array Nat) (n:Nat):Prop:=∀ i j,i<j→j<n→κ (p.getD j 0)<κ (p.getD i 0)
def Cmp (N:Nat) (κ:Nat→Int) (R:Shared→Prop) (cmp:Nat→Nat→(Bool→Shared→Prop)→Shared→Prop):Prop :=
  ∀ i j C s,i<N→j<N→R s→(∀ s',R s'→C (decide (κ i<κ j)) s')→cmp i j C s
def Inj (N:Nat) (κ:Nat→Int):Prop:=∀ i j,i<N→j<N→i≠j→κ i≠κ j
theorem Srt.snoc {p:Array Nat} {n:Nat} (h:Srt κ p n) (hn:1≤n) (e:κ (p.getD (n - 1) 0)<κ (p.getD n 0)):Srt κ p (n + 1):=fun i j hij hj=>by
  by_cases hjn:j=n
  · subst hjn
    by_cases hi:i=j - 1
    · rw [hi];exact e
    · have:=h i (j - 1) (by omega) (by omega)
      omega
  · exact h i j hij (by omega)
theorem Dsc.snoc {p:Array Nat} {n:Nat} (h:Dsc κ p n) (hn:1≤n) (e:κ (p.getD n 0)<κ (p.getD (n - 1) 0)):Dsc κ p (n + 1):=fun i j hij hj=>by
  by_cases hjn:j=n
  · subst hjn
    by_cases hi:i=j - 1
    · rw [hi];exact e
    · have:=h i (j - 1) (by omega) (by omega)
      omega
  · exact h i j hij (by omega)
variable (hc:Cmp N κ R cmp) (hI:Inj N κ)
include hc hI
theorem lO {p:Array Nat} (A:Arr N p) {Q:Nat→Shared→Prop}:∀ (f n:Nat) (s:Shared),1≤n→n + f=N→Srt κ p n→R s →
    (∀ m s',n≤m→m≤N→Srt κ p m→(m<N→κ (p.getD m 0)<κ (p.getD (m - 1) 0))→R s'→Q m s')→(kas_asc p f n).kasWp cmp Q s
  | 0,n,s,h1,hf,hS,r,k=>k n s (Nat.le_refl _) (by omega) hS (fun z=>by omega) r
  | f + 1,n,s,h1,hf,hS,r,k=>by
    unfold kas_asc
    refine hc _ _ _ s (A.lt (by omega)) (A.lt (by omega)) r fun s' r'=>?_
    by_cases hlt:κ (p.getD n 0)<κ (p.getD (n - 1) 0)
    · rw [decide_eq_true hlt];dsimp only;rw [if_pos rfl]
      exact k n s' (Nat.le_refl _) (by omega) hS (fun _=>hlt) r'
    · rw [decide_eq_false hlt];dsimp only;rw [if_neg Bool.false_ne_true]
      have hne:=hI _ _ (A.lt (show n<N by omega)) (A.lt (show n - 1<N by omega)) (A.ne (show n<N by omega) (show n - 1<N by omega) (by omega))
      exact lO A f (n + 1) s' (by omega) (by omega) (hS.snoc h1 (by omega)) r' fun m s2 a b c d e=>k m s2 (by omega) b c d e
theorem mU {p:Array Nat} (A:Arr N p) {Q:Array Nat × Nat × Nat→Shared→Prop}:∀ (f n:Nat) (s:Shared),1≤n→n + f=N→Dsc κ p n→R s →
    (∀ m s',n≤m→m≤N→Dsc κ p m→R s'→Q (p,m,0) s')→(kas_desc f p n 0).kasWp cmp Q s
  | 0,n,s,h1,hf,hS,r,k=>k n s (Nat.le_refl _) (by omega) hS r
  | f + 1,n,s,h1,hf,hS,r,k=>by
    unfold kas_desc
    refine hc _ _ _ s (A.lt (by omega)) (A.lt (by omega)) r fun s' r'=>?_
    by_cases hlt:κ (p.getD n 0)<κ (p.getD (n - 1) 0)
    · rw [decide_eq_true hlt];dsimp only;rw [if_pos rfl,if_neg (by omega)]
      exact mU A f (n + 1) s' (by omega) (by omega) (hS.snoc h1 hlt) r' fun m s2 a b c d=>k m s2 (by omega) b c d
    · rw [decide_eq_false hlt];dsimp only;rw [if_neg Bool.false_ne_true]
      have hne:=hI _ _ (A.lt (show n<N by omega)) (A.lt (show n - 1<N by omega)) (A.ne (show n<N by omega) (show n - 1<N by omega) (by omega))
      refine hc _ _ _ s' (A.lt (by omega)) (A.lt (by omega)) r' fun s2 r2=>?_
      rw [decide_eq_true (by omega)];dsimp only;rw [if_pos rfl]
      exact k n s2 (Nat.le_refl _) (by omega) hS r2
theorem qU {p:Array Nat} (A:Arr N p) (h2:2≤N) {Q:Nat × Array Nat→Shared→Prop} {s:Shared} (r:R s)
    (k:∀ m p' s',1≤m→m≤N→Arr N p'→Srt κ p' m→R s'→Q (m,p') s'):(kas_count N p).kasWp cmp Q s:=by
  unfold kas_count
  rw [KasT.kasWp_bind]
  refine lO hc hI A (N - 1) 1 s (Nat.le_refl _) (by omega) (fun i j a b=>by omega) r fun n s' h1 hn hS hd r'=>?_
  by_cases hnN:n=N
  · rw [if_pos (by simp [hnN])]
    exact k n p s' h1 hn A hS r'
  · rw [if_neg (by simp [hnN])]
    have hd':=hd (by omega)
    by_cases h1n:n > 1
    · rw [if_pos h1n]
      refine hc _ _ _ s' (A.lt (by omega)) (A.lt (by omega)) r' fun s2 r2=>?_
      rw [decide_eq_true (hS 0 (n - 1) (by omega) (by omega))];dsimp only;rw [if_pos rfl]
      exact k n p s2 h1 hn A hS r2
    · rw [if_neg h1n]
      have hn1:n=1:=by omega
      subst hn1
      unfold kas_descPart
      rw [KasT.kasWp_bind]
      refine mU hc hI A (N - 2) 2 s' (by omega) (by omega) (fun i j a b=>?_) r' fun m s2 hm2 hm hD r2=>?_
      · have hi:i=0:=by omega
        have hj:j=1:=by omega
        subst hi;subst hj
        exact hd'
      · rw [if_neg (by show ¬ (0:Nat) > 0;omega)]
        show (kas_tail3 m N p).kasWp cmp Q s2
        unfold kas_tail3
        rw [KasT.kasWp_bind]
        refine lO hc hI (A.rev 0 m) (N - m) m s2 (by omega) (by omega) (fun i j a b=>?_) r2 fun m' s3 a b c d e=>?_
        · rw [tK A hm (by omega),tK A hm (by omega)]
          exact hD _ _ (by omega) (by omega)
        · exact k m' _ s3 (by omega) b (A.rev 0 m) c e
theorem iV {p:Array Nat} (A:Arr N p) {k:Nat} (hk:k<N) (hS:Srt κ p k) {Q:Nat→Shared→Prop}:∀ (f l r:Nat) (s:Shared),l≤r→r≤k→r - l≤f →
    (∀ i,i<l→κ (p.getD i 0)<κ (p.getD k 0))→(∀ i,r≤i→i<k→κ (p.getD k 0)<κ (p.getD i 0))→R s →
    (∀ l s',l≤k→(∀ i,i<l→κ (p.getD i 0)<κ (p.getD k 0))→(∀ i,l≤i→i<k→κ (p.getD k 0)<κ (p.getD i 0))→R s'→Q l s')→(kas_place p k f l r).kasWp cmp Q s
  | 0,l,r,s,h1,h2,hf,ha,hb,hr,q=>by
    have e:l=r:=by omega
    subst e
    exact q l s h2 ha hb hr
  | f + 1,l,r,s,h1,h2,hf,ha,hb,hr,q=>by
    unfold kas_place
    by_cases hlr:l ≥ r
    · rw [if_pos hlr]
      have e:l=r:=by omega
      subst e
      exact q l s h2 ha hb hr
    · rw [if_neg hlr]
      have m1:(l + r) / 2<r:=by omega
      have m0:l≤(l + r) / 2:=by omega
      refine hc _ _ _ s (A.lt hk) (A.lt (by omega)) hr fun s' r'=>?_
      by_cases hlt:κ (p.getD k 0)<κ (p.getD ((l + r) / 2) 0)
      · rw [decide_eq_true hlt];dsimp only;rw [if_pos rfl]
        refine iV A hk hS f l ((l + r) / 2) s' m0 (by omega) (by omega) ha (fun i hi hik=>?_) r' q
        by_cases he:i=(l + r) / 2
        · rw [he];exact hlt
        · have:=hS ((l + r) / 2) i (by omega) hik
          omega
      · rw [decide_eq_false hlt];dsimp only;rw [if_neg Bool.false_ne_true]
        have hne:=hI _ _ (A.lt hk) (A.lt (show (l + r) / 2<N by omega)) (A.ne hk (show (l + r) / 2<N by omega) (by omega))
        refine iV A hk hS f ((l + r) / 2 + 1) r s' (by omega) h2 (by omega) (fun i hi=>?_) hb r' q
        by_cases he:i=(l + r) / 2
        · rw [he];omega
        · have:=hS i ((l + r) / 2) (by omega) (by omega)
          omega
theorem pL {Q:Array Nat→Shared→Prop} (q:∀ p s',Arr N p→Srt κ p N→R s'→Q p s'):∀ (f:Nat) (p:Array Nat) (k:Nat) (s:Shared),Arr N p→k + f=N→Srt κ p k→R s→(kas_bin f p k).kasWp cmp Q s
  | 0,p,k,s,A,hf,hS,r=>by
    have e:k=N:=by omega
    subst e
    exact q p s A hS r
  | f + 1,p,k,s,A,hf,hS,r=>by
    unfold kas_bin
    rw [KasT.kasWp_bind]
    refine iV hc hI A (show k<N by omega) hS k 0 k s (Nat.zero_le _) (Nat.le_refl _) (by omega) (fun i hi=>by omega) (fun i a b=>by omega) r fun l s' hl ha hb r'=>?_
    refine pL q f _ (k + 1) s' (A.bub k (k - l)) (by omega) (fun i j hij hj=>?_) r'
    rw [vd A (by omega) hl,vd A (by omega) hl]
    by_cases h1:i=l
    · rw [if_pos h1,if_neg (by omega),if_pos (by omega)]
      exact hb _ (by omega) (by omega)
    · rw [if_neg h1]
      by_cases h2:j=l
      · rw [if_pos h2,if_neg (by omega)]
        exact ha _ (by omega)
      · rw [if_neg h2]
        by_cases h3:l<i∧i≤k
        · rw [if_pos h3,if_pos (by omega)]
          exact hS _ _ (by omega) (by omega)
        · rw [if_neg h3]
          by_cases h4:l<j∧j≤k
          · rw [if_pos h4]
            by_cases h5:i<j - 1
            · exact hS _ _ h5 (by omega)
            · omega
          · rw [if_neg h4]
            exact hS _ _ hij (by omega)
theorem su (h2:2≤N) {Q:Array Nat→Shared→Prop} {s:Shared} (r:R s) (q:∀ p s',Arr N p→Srt κ p N→R s'→Q p s'):(kas_sort N).kasWp cmp Q s:=by
  unfold kas_sort
  rw [KasT.kasWp_bind]
  refine qU hc hI (Arr.start N) h2 r fun m p' s' h1 hm A hS r'=>?_
  by_cases hlt:m<N
  · rw [if_pos hlt]
    have e:max m 1=m:=by omega
    rw [e]
    exact pL hc hI q _ p' m s' A (by omega) hS r'
  · rw [if_neg hlt]
    have e:m=N:=by omega
    subst e
    exact q p' s' A hS r'
end
end L2
namespace L2
open PySem PySem.Spec PyProof.Rows
section
variable {X:Cx} {pins:List (Addr × Obj)} {σ:St} {H:Hp} {s:Shared} {a:Addr} {o:HO}
theorem Inv.adopt (I:Inv X pins σ H s) (hn:H a=none) (hL:a≠X.env.locals) (h0:X.s₀.heap.objs.size≤a) (hc:∀ x c,X.env.cells.lookup x=some c→c≠a) (hp:∀ p∈X.pn++pins,p.1≠a)
    (new:d9 X.prog X.w (upd H a o) s.heap a o):Inv X pins σ (upd H a o) s:=by
  have ne:∀ b u,H b=some u→b≠a:=fun b u e=>aY e hn
  refine ⟨I.ok,I.os,I.bare,⟨I.base.keep,I.base.slot,fun b ob e n hx=>?_,I.base.there,fun b xs e=>?_,fun b ob xs e=>?_,fun b ps e=>?_⟩,I.loc,I.cell,?_,fun x c e=>?_,fun p hq=>?_,fun b u e=>?_,I.len⟩
  · rw [aL (Nat.ne_of_lt (Nat.lt_of_lt_of_le (Heap.lt_size e) h0))];exact I.base.free b ob e n hx
  · have:=I.base.tups b xs e;rw [aL (ne b _ this)];exact this
  · have:=I.base.frzs b ob xs e;rw [aL (ne b _ this)];exact this
  · obtain ⟨m,e1⟩:=I.base.tbls b ps e;exact ⟨m,by rw [aL (ne b _ e1)];exact e1⟩
  · rw [aL hL.symm];exact I.free
  · rw [aL (hc x c e)];exact I.freeC x c e
  · obtain ⟨e1,n,r⟩:=I.pin p hq;exact ⟨e1,by rw [aL (hp p hq)];exact n,r⟩
  · by_cases hb:b=a
    · subst hb;rw [bh] at e;cases e;exact new
    · rw [aL hb] at e
      exact (I.hok b u e).stay (fun _ _ _ q=>q) (fun c q=>by rw [aL (ne c _ q)];exact q) fun c xs q=>by rw [aL (ne c _ q)];exact q
end
section
variable {prog:Program} {w:World} {A:Around} {E:Value→Shared→Prop} {s:Shared}
theorem mJ {r:Addr} {b:Int} {t u v:Tok} {n:Nat} {Q:List Value→Shared→Prop} (hh:A.handled=none) (hr:IsRange s.heap r 0 b 1 t u v) (hsmall:Builtin.Range.small 0 b 1=true)
    (hn:Builtin.Range.rangeSize 0 b 1=n) (hlen:n≤2 ^ 24)
    (h:∀ h' tk vs,(∀ b o,s.heap.get? b=some o→h'.get? b=some o)→Vals ((List.range n).map fun (i:Nat)=>V.int (i:Int)) vs→Q vs { s with heap:=h',toks:=tk }) :
    wpAny (model prog w) A (collect (.ref r)) Q E s:=by
  unfold collect
  refine wpAny_bind (wpAny_runValue (codeAny_builtin entry_proto_collect' ?_))
  show wpAny _ _ (do again (.builtin "list.__iadd__" ⟨[← newList [],.ref r],[]⟩)) _ _ s
  refine wpAny_bind (wpAny_newList (wpAny_pure ⟨Code.quiet_builtin _ (by decide +kernel),codeAny_builtin entry_list_iadd' ?_⟩))
  have e1:A.under (.builtin "proto.collect" ⟨[.ref r],[]⟩)=A.in1:=Around.under_plainId F.plain_proto_collect _
  have e2:A.under (.builtin "list.__iadd__" ⟨[.ref s.heap.objs.size,.ref r],[]⟩)=A.in1:=Around.under_plainId F.plain_list_iadd _
  rw [e2]
  show wpAny _ A.in1 (Builtin.List.listExtendWith (.ref s.heap.objs.size) (.ref r) (.ref s.heap.objs.size)) _ _ { s with heap:=s.heap.push (seqObj "list" #[] 0) }
  have hS:(s.heap.push (seqObj "list" #[] 0)).get? s.heap.objs.size=some { cls:=.type "list",data:=.seq #[] 0 }:=Heap.get?_push_size _ rfl
  have hr':IsRange (s.heap.push (seqObj "list" #[] 0)) r 0 b 1 t u v:=Heap.get?_push_of_some _ hr
  refine wpAny_mono (wpAny_extend_range (A:=A) (R:=fun r s'=>match r with
      | .ok (.ret v)=>wpAny (model prog w) A (match v with
          | .ref a=>do
            let o ← load a
            match o.data with
            | .seq xs _=>pure xs.toList
            | _=>unsupported "internal:collect"
          | _=>unsupported "internal:collect") Q E s'
      | .ok _=>False
      | .error e=>E e s') (s:={ s with heap:=s.heap.push (seqObj "list" #[] 0) }) hh hr' hsmall hn hlen s.heap.objs.size (.ref s.heap.objs.size) 0 hS fun h' tk acc c hk hS' hacc=>?_) (fun fin s' q=>?_) (fun e s' q=>q)
  case refine_2 =>
    cases fin with
    | done f=>exact q
    | again c'=>exact q
  show wpAny (model prog w) A (do
      let o ← load s.heap.objs.size
      match o.data with
      | .seq xs _=>pure xs.toList
      | _=>unsupported "internal:collect") Q E { s with heap:=h',toks:=tk }
  refine wpAny_bind (wpAny_load hS' ?_)
  refine wpAny_pure (h h' tk acc.toList (fun b o e=>hk b o (Nat.ne_of_lt (Heap.lt_size e)) (Heap.get?_push_of_some _ e)) ?_)
  have hsz:acc.toList.length=n:=by rw [Array.length_toList];exact hacc.1
  have key:∀ (k:Nat) (l:List Value),l.length=k→(∀ (j:Nat) (v:Value),l[j]?=some v→∃ t,v=.int ((n - k + j:Nat):Int) t)→k≤n→Vals ((List.range' (n - k) k).map fun (i:Nat)=>V.int (i:Int)) l:=by
    intro k
    induction k with
    | zero =>
      intro l hl _ _
      have:l=[]:=List.length_eq_zero_iff.mp hl
      subst this
      exact .nil
    | succ k ih =>
      intro l hl hP hk
      match l,hl with
      | v :: l,hl =>
        have hl':l.length=k:=by simpa using hl
        rw [List.range'_succ,List.map_cons]
        obtain ⟨t,ht⟩:=hP 0 v rfl
        refine .cons ⟨t,?_⟩ ?_
        · rw [ht];rfl
        · have e:n - (k + 1) + 1=n - k:=by omega
          rw [e]
          refine ih l hl' (fun j v' e'=>?_) (by omega)
          obtain ⟨t',ht'⟩:=hP (j + 1) v' (by simpa using e')
          exact ⟨t',by rw [ht'];congr 2;omega⟩
  have:=key n acc.toList hsz (fun j v e=>by
    obtain ⟨t,ht⟩:=hacc.2 j v (by simpa using e)
    refine ⟨t,?_⟩
    rw [ht]
    congr 1
    omega) (Nat.le_refl _)
  rw [Nat.sub_self,← List.range_eq_range'] at this
  exact this
end
end L2
namespace L2
open PySem PySem.W PySem.Spec PyProof.Rows
section
variable {prog:Program} {w:World} {A:Around} {E:Value→Shared→Prop} {s:Shared}
theorem jT {Q:Bool→Shared→Prop}:∀ {xs ys:List Value} {ns ms:List Int},IntsAre xs ns→IntsAre ys ms→ns.length=ms.length→∀ i:Nat,Q (HT.lexLt ns ms) s→KatLex prog w A true false Q (xs.zip ys) i s
  | _,_,_,_,.nil,.nil,_,i,q=>by rw [List.zip_nil_left];exact kat_nil q
  | _,_,_,_,.nil,.cons _ _ _,hl,_,_=>by simp at hl
  | _,_,_,_,.cons _ _ _,.nil,hl,_,_=>by simp at hl
  | _,_,_,_,.cons a t hx,.cons c u hy,hl,i,q=>by
    rw [List.zip_cons_cons]
    refine kat_cons (wpAny_eqBool_int ?_)
    rw [HT.jd] at q
    by_cases h:a=c
    · rw [if_pos h] at q
      have e:(a == c)=true:=by simp [h]
      rw [e]
      exact kat_yes (jT hx hy (by simpa using hl) (i + 1) q)
    · rw [if_neg h] at q
      have e:(a == c)=false:=by simp [h]
      rw [e]
      refine kat_no ?_
      by_cases hi:i=0
      · have ei:(true && i == 0)=true:=by simp [hi]
        rw [ei]
        exact oneLt_int q
      · have ei:(true && i == 0)=false:=by simp [hi]
        rw [ei]
        exact kat_one _ _ (lt_int q)
structure Keys (h:Heap) (ks:List Value) (key:Nat→List Int) (N len:Nat):Prop where
  size:ks.length=N
  at_:∀ i,i<N→∃ t its,ks[i]?=some (.ref t)∧IsTup h t its.toArray∧IntsAre its (key i)
  long:∀ i,i<N→(key i).length=len + 1
theorem Keys.cmp {ks:List Value} {key:Nat→List Int} {N len:Nat} {κ:Nat→Int} (K:Keys s.heap ks key N len) (hκ:∀ i j,i<N→j<N→HT.lexLt (key i) (key j)=decide (κ i<κ j)) :
    Cmp N κ (fun s'=>s'=s) (kas_ask prog w A (tuples' true) ks):=by
  intro i j C s1 hi hj e h
  subst e
  obtain ⟨t,its,e1,⟨o,ho,hc,n,hd⟩,i1⟩:=K.at_ i hi
  obtain ⟨t2,its2,e2,⟨o2,ho2,hc2,n2,hd2⟩,i2⟩:=K.at_ j hj
  unfold kas_ask
  rw [List.getD_eq_getElem?_getD,List.getD_eq_getElem?_getD,e1,e2]
  have l1:its.length=(key i).length:=i1.length
  have l2:its2.length=(key j).length:=i2.length
  have hl:(key i).length=(key j).length:=by rw [K.long i hi,K.long j hj]
  refine kat_lt ho hd ho2 hd2 ?_
  have ef:decide (its.toArray.size<its2.toArray.size)=false:=decide_eq_false (by simp only [List.size_toArray];omega)
  rw [ef]
  refine jT i1 i2 hl 0 ?_
  rw [hκ i j hi hj]
  exact h s1 rfl
theorem Keys.tups {key:Nat→List Int} {len:Nat}:∀ {ks:List Value} {N:Nat},Keys s.heap ks key N len→∃ fs:List Value,KatTups s.heap ks fs∧fs.length=N∧∀ v∈fs,∃ a t,v=.int a t:=by
  have go:∀ (ks:List Value),(∀ i,i<ks.length→∃ t its a u r,ks[i]?=some (.ref t)∧IsTup s.heap t its.toArray∧its=Value.int a u :: r)→∃ fs:List Value,KatTups s.heap ks fs∧fs.length=ks.length∧∀ v∈fs,∃ a t,v=Value.int a t:=by
    intro ks
    induction ks with
    | nil=>intro _;exact ⟨[],trivial,rfl,fun v hv=>nomatch hv⟩
    | cons k ks ih =>
      intro h
      obtain ⟨fs,h1,h2,h3⟩:=ih fun i hi=>by
        obtain ⟨t,its,a,u,r,e,p⟩:=h (i + 1) (by simpa using hi)
        exact ⟨t,its,a,u,r,by simpa using e,p⟩
      obtain ⟨t,its,a,u,r,e,⟨o,ho,hc,n,hd⟩,rfl⟩:=h 0 (by simp)
      have e':k=.ref t:=by simpa using e
      subst e'
      refine ⟨.int a u :: fs,KatTups.cons ho hc hd rfl h1,by simp [h2],fun v hv=>?_⟩
      rcases List.mem_cons.mp hv with e | e
      · exact ⟨a,u,e⟩
      · exact h3 v e
  intro ks N K
  obtain ⟨fs,h1,h2,h3⟩:=go ks fun i hi=>by
    obtain ⟨t,its,e1,p,i1⟩:=K.at_ i (by rw [← K.size];exact hi)
    have hl:=K.long i (by rw [← K.size];exact hi)
    generalize key i=kl at i1 hl
    cases i1 with
    | nil=>simp at hl
    | cons a u hx=>exact ⟨t,_,a,u,_,e1,p,rfl⟩
  exact ⟨fs,h1,by rw [h2,K.size],h3⟩
end
end L2
namespace L2
open PySem PySem.W PySem.Spec PyProof.Rows
def iM (κ:Nat→Int) (xs ys:List V):Prop:=∃ p:List Nat,p.Perm (List.range xs.length)∧ys=p.map (fun i=>xs.getD i .non)∧p.Pairwise fun i j=>κ i<κ j
theorem sX {κ:Nat→Int} {xs:List V} {p:Array Nat} (A:Arr xs.length p) (hS:Srt κ p xs.length):iM κ xs (p.toList.map fun i=>xs.getD i .non):=by
  refine ⟨p.toList,A.perm,rfl,?_⟩
  rw [List.pairwise_iff_getElem]
  intro i j hi hj hij
  have hj':j<xs.length:=by rw [Array.length_toList,A.size] at hj;exact hj
  have e1:p.toList[i]=p.getD i 0:=by
    have:=A.get (show i<xs.length by omega)
    rw [List.getElem?_eq_getElem hi] at this
    exact Option.some.inj this
  have e2:p.toList[j]=p.getD j 0:=by
    have:=A.get hj'
    rw [List.getElem?_eq_getElem hj] at this
    exact Option.some.inj this
  rw [e1,e2]
  exact hS i j hij hj'
theorem mR {xs:List V} {vs:List Value} (r:Vals xs vs):∀ (p:List Nat),(∀ i∈p,i<xs.length)→Vals (p.map fun i=>xs.getD i .non) (p.map fun i=>vs.getD i .none)
  | [],_=>.nil
  | i :: p,h=>by
    have hi:i<xs.length:=h i List.mem_cons_self
    obtain ⟨u,e,ru⟩:=r.get (List.getElem?_eq_getElem hi)
    refine .cons ?_ (mR r p fun j hj=>h j (List.mem_cons_of_mem _ hj))
    show RelV (xs.getD i .non) (vs.getD i .none)
    rw [List.getD_eq_getElem?_getD,List.getD_eq_getElem?_getD,e,List.getElem?_eq_getElem hi]
    exact ru
section
variable {X:Cx} {pins:List (Addr × Obj)} {σ:St} {H:Hp} {s:Shared} {A:Around} {E:Value→Shared→Prop}
theorem Inv.iY (I:Inv X pins σ H s) {b:Addr} {o:Obj} (f:oN X pins H b) (e:s.heap.get? b=some o) (d:∀ v,o.data≠.cell v):Inv X (pins++[(b,o)]) σ H s :=
  I.oX fun p hp=>(List.mem_append.mp hp).elim (fun z=>I.pin p (List.mem_append_right _ z)) fun z=>by
    have e':p=(b,o):=by simpa using z
    subst e'
    obtain ⟨f0,f1,f2,_⟩:=f
    exact ⟨e,f0,f1,f2,d⟩
theorem sort_keys {f:Value} {D kS:Addr} {e1:Nat} {xs:List V} {vs:List Value} (rv:Vals xs vs) (h64:xs.length<64) (Pv:Nat→List Addr→Hp→Prop)
    (fpD:∀ H',H' D=none→oN X pins H' D) (fpK:∀ H',H' kS=none→oN X pins H' kS) (hDK:D≠kS)
    (hcall:∀ i x u ts pins' s' H',xs[i]?=some x→RelV x u→Inv X pins' σ H' s'→(∀ p∈pins,p∈pins')→Pv i ts H'→wpAny (model X.prog X.w) A (call f [u]) (fun k s2=>∃ t H2,k=.ref t∧Inv X pins' σ H2 s2∧Pv (i + 1) (ts++[t]) H2) (fun _ _=>False) s')
    {body:Value→PUnit→Sem (ForInStep PUnit)}
    (hb:∀ x (s:Shared) (R:Value→Shared→Prop) (Q:ForInStep PUnit→Shared→Prop),wpAny (model X.prog X.w) A (call f [x]) R (fun _ _=>False) s→(∀ k s',R k s'→wpAny (model X.prog X.w) A (Builtin.List.listUpdate (.ref kS) (·.push k)) (fun _ s''=>Q (.yield ⟨⟩) s'') E s') →
      wpAny (model X.prog X.w) A (body x ⟨⟩) Q E s) :
    ∀ (r:List Value) (i:Nat) (ts:List Addr) (e:Nat) (s:Shared) (H:Hp),vs.drop i=r→ts.length=i→i≤vs.length→Inv X (pins++[(D,seqObj "list" #[] e1)]++[(kS,seqObj "list" (ts.map Value.ref).toArray e)]) σ H s→Pv i ts H →
      wpAny (model X.prog X.w) A (forIn r PUnit.unit body) (fun _ s'=>∃ ts' e' H',ts'.length=vs.length∧Inv X (pins++[(D,seqObj "list" #[] e1)]++[(kS,seqObj "list" (ts'.map Value.ref).toArray e')]) σ H' s'∧Pv vs.length ts' H') E s
  | [],i,ts,e,s,H,hr,hl,hi,I,p=>by
    rw [List.forIn_nil]
    have hn:i=vs.length:=by
      have:=congrArg List.length hr
      rw [List.length_drop] at this
      simp at this
      omega
    subst hn
    exact wpAny_pure ⟨ts,e,H,hl,I,p⟩
  | u :: r,i,ts,e,s,H,hr,hl,hi,I,p=>by
    rw [List.forIn_cons]
    have hlen:=rv.length
    have hiv:i<vs.length:=by
      have:=congrArg List.length hr
      rw [List.length_drop] at this
      simp at this
      omega
    have eu:vs[i]?=some u:=by
      have:(vs.drop i)[0]?=some u:=by rw [hr];rfl
      rw [List.getElem?_drop] at this
      simpa using this
    have hix:i<xs.length:=by omega
    obtain ⟨u',e',ru⟩:=rv.get (List.getElem?_eq_getElem hix)
    rw [eu] at e'
    cases e'
    refine wpAny_bind (hb u s _ _ (hcall i _ u ts _ s H (List.getElem?_eq_getElem hix) ru I (fun p hp=>List.mem_append_left _ (List.mem_append_left _ hp)) p) fun k s2 ⟨t,H2,ek,I2,p2⟩=>?_)
    subst ek
    have pk:=I2.pin (kS,seqObj "list" (ts.map Value.ref).toArray e) (List.mem_append_right _ (List.mem_append_right _ (by simp)))
    have pD:=I2.pin (D,seqObj "list" #[] e1) (List.mem_append_right _ (List.mem_append_left _ (List.mem_append_right _ (by simp))))
    refine listUpdate_at pk.1 rfl ?_ (by rw [List.size_toArray,List.length_map,sizeLine_eq];omega) (by rw [Array.size_push,List.size_toArray,List.length_map,sizeLine_eq];omega)
    have I2':Inv X (pins++[(D,seqObj "list" #[] e1)]) σ H2 s2:=I2.dR
    have fK:oN X (pins++[(D,seqObj "list" #[] e1)]) H2 kS:=by
      obtain ⟨a0,a1,a2,a3,a4,a5⟩:=fpK H2 pk.2.1
      refine ⟨a0,a1,a2,a3,a4,fun p hp=>?_⟩
      rcases List.mem_append.mp hp with z | z
      · exact a5 p (List.mem_append_left _ z)
      · rcases List.mem_append.mp z with z | z
        · exact a5 p (List.mem_append_right _ z)
        · have:p=(D,seqObj "list" #[] e1):=by simpa using z
          rw [this];exact hDK
    obtain ⟨a0,a1,a2,a3,a4,a5⟩:=fK
    have I3:Inv X (pins++[(D,seqObj "list" #[] e1)]) σ H2 { s2 with heap:=s2.heap.update kS (Obj.mapSeq (·.push (Value.ref t))) } :=
      I2'.turned (t':=s2.toks) (fun b o hb e=>(Heap.get?_update_other _ _ (Ne.symm hb)).trans e) a0 a1 a3 a4 a5
    have ea:((ts.map Value.ref).toArray).push (Value.ref t)=((ts++[t]).map Value.ref).toArray:=by simp
    obtain ⟨c2,hc2⟩:∃ c2,(s2.heap.update kS (Obj.mapSeq (·.push (Value.ref t)))).get? kS=some (seqObj "list" ((ts++[t]).map Value.ref).toArray c2):=⟨_,by rw [← ea];exact get?_update_seq pk.1 (·.push (Value.ref t))⟩
    have I4:=I3.iY ⟨a0,a1,a2,a3,a4,a5⟩ hc2 (fun v z=>by cases z)
    show wpAny (model X.prog X.w) A (forIn r PUnit.unit body) _ E _
    refine sort_keys rv h64 Pv fpD fpK hDK hcall hb r (i + 1) (ts++[t]) c2 _ H2 ?_ (by rw [List.length_append,hl];rfl) (by omega) I4 p2
    have:(vs.drop i).drop 1=r:=by rw [hr];rfl
    rw [List.drop_drop] at this
    exact this
end
end L2
namespace L2
open PySem PySem.W PySem.Spec PyProof.Rows
section
variable {X:Cx} {pins:List (Addr × Obj)} {σ:St} {H:Hp} {s:Shared} {A:Around} {E:Value→Shared→Prop}
theorem sY {f:Value} {D:Addr} {n0 m:Nat} {xs:List V} {vs:List Value} {key:Nat→List Int} {κ:Nat→Int} (rv:Vals xs vs) (h64:xs.length<64) (Pv:Nat→List Addr→Hp→Prop) (I:Inv X pins σ H s)
    (hD:s.heap.get? D=some (seqObj "list" vs.toArray n0)) (fpD:∀ H',H' D=none→oN X pins H' D) (nD:H D=none) (hfresh:X.s₀.heap.objs.size≤D) (p0:Pv 0 [] H)
    (hcall:∀ i x u ts pins' s' H',xs[i]?=some x→RelV x u→Inv X pins' σ H' s'→(∀ p∈pins,p∈pins')→Pv i ts H'→wpAny (model X.prog X.w) A (call f [u]) (fun k s2=>∃ t H2,k=.ref t∧Inv X pins' σ H2 s2∧Pv (i + 1) (ts++[t]) H2) (fun _ _=>False) s')
    (htup:∀ ts H',Pv xs.length ts H'→∀ i t,ts[i]?=some t→H' t=some (.tup ((key i).map V.int))) (hlong:∀ i,i<xs.length→(key i).length=m + 1)
    (hκ:∀ i j,i<xs.length→j<xs.length→HT.lexLt (key i) (key j)=decide (κ i<κ j)) (hinj:Inj xs.length κ) :
    wpAny (model X.prog X.w) A (ksk_tree D f false) (fun fin s'=>fin=.done (.ret .none)∧∃ ts H' ys,Pv xs.length ts H'∧H' D=none∧iM κ xs ys∧Inv X pins σ (upd H' D (.lst ys)) s') E s:=by
  have hlen:=rv.length
  unfold ksk_tree
  refine wpAny_bind (listItems_at hD rfl ?_)
  refine wpAny_bind (listUpdate_at hD rfl ?_ (by rw [List.size_toArray,sizeLine_eq];omega) (Nat.zero_le _))
  obtain ⟨e1,ho1⟩:∃ e1,(s.heap.update D (Obj.mapSeq fun _=>(#[]:Array Value))).get? D=some (seqObj "list" #[] e1):=⟨_,get?_update_seq hD fun _=>#[]⟩
  obtain ⟨a0,a1,a2,a3,a4,a5⟩:=fpD H nD
  have I1:Inv X pins σ H { s with heap:=s.heap.update D (Obj.mapSeq fun _=>(#[]:Array Value)) }:=I.turned (t':=s.toks) (fun b o hb e=>(Heap.get?_update_other _ _ (Ne.symm hb)).trans e) a0 a1 a3 a4 a5
  refine wpAny_bind (seqEpoch_at ho1 rfl ?_)
  refine wpAny_bind (wpAny_newTuple ?_ (by show vs.length≤_;rw [sizeLine_eq];omega))
  refine wpAny_bind (wpAny_newList ?_ (Nat.zero_le _))
  refine wpAny_holding ?_
  have I2:Inv X pins σ H { s with heap:=(s.heap.update D (Obj.mapSeq fun _=>(#[]:Array Value))).push (seqObj "tuple" vs.toArray 0) }:=I1.kept (t':=s.toks) fun b o e=>Heap.get?_push_of_some _ e
  have I3:Inv X pins σ H { s with heap:=((s.heap.update D (Obj.mapSeq fun _=>(#[]:Array Value))).push (seqObj "tuple" vs.toArray 0)).push (seqObj "list" #[] 0) }:=I2.kept (t':=s.toks) fun b o e=>Heap.get?_push_of_some _ e
  have fpK:∀ H',H' (((s.heap.update D (Obj.mapSeq fun _=>(#[]:Array Value))).push (seqObj "tuple" vs.toArray 0)).objs.size)=none→oN X pins H' _:=fun H' hn=>I2.rP (Nat.le_refl _) hn
  have nK:H (((s.heap.update D (Obj.mapSeq fun _=>(#[]:Array Value))).push (seqObj "tuple" vs.toArray 0)).objs.size)=none:=I2.hok.fresh (Nat.le_refl _)
  have hDK:D≠((s.heap.update D (Obj.mapSeq fun _=>(#[]:Array Value))).push (seqObj "tuple" vs.toArray 0)).objs.size:=Nat.ne_of_lt (Heap.lt_size (Heap.get?_push_of_some (seqObj "tuple" vs.toArray 0) ho1))
  have hD3:(((s.heap.update D (Obj.mapSeq fun _=>(#[]:Array Value))).push (seqObj "tuple" vs.toArray 0)).push (seqObj "list" #[] 0)).get? D=some (seqObj "list" #[] e1):=Heap.get?_push_of_some _ (Heap.get?_push_of_some _ ho1)
  have hK3:(((s.heap.update D (Obj.mapSeq fun _=>(#[]:Array Value))).push (seqObj "tuple" vs.toArray 0)).push (seqObj "list" #[] 0)).get? (((s.heap.update D (Obj.mapSeq fun _=>(#[]:Array Value))).push (seqObj "tuple" vs.toArray 0)).objs.size)=some (seqObj "list" #[] 0):=Heap.get?_push_size _ rfl
  generalize ((s.heap.update D (Obj.mapSeq fun _=>(#[]:Array Value))).push (seqObj "tuple" vs.toArray 0)).objs.size=kS at fpK nK hDK hK3 ⊢
  generalize hs3:({ s with heap:=((s.heap.update D (Obj.mapSeq fun _=>(#[]:Array Value))).push (seqObj "tuple" vs.toArray 0)).push (seqObj "list" #[] 0) }:Shared)=s3 at I3 ⊢
  have hD3':s3.heap.get? D=some (seqObj "list" #[] e1):=by rw [← hs3];exact hD3
  have hK3':s3.heap.get? kS=some (seqObj "list" #[] 0):=by rw [← hs3];exact hK3
  have I4:Inv X (pins++[(D,seqObj "list" #[] e1)]) σ H s3:=I3.iY (fpD H nD) hD3' (fun v z=>by cases z)
  have fK:∀ H',H' kS=none→oN X (pins++[(D,seqObj "list" #[] e1)]) H' kS:=fun H' hn=>by
    obtain ⟨b0,b1,b2,b3,b4,b5⟩:=fpK H' hn
    refine ⟨b0,b1,b2,b3,b4,fun p hp=>?_⟩
    rcases List.mem_append.mp hp with z | z
    · exact b5 p (List.mem_append_left _ z)
    · rcases List.mem_append.mp z with z | z
      · exact b5 p (List.mem_append_right _ z)
      · have:p=(D,seqObj "list" #[] e1):=by simpa using z
        rw [this];exact hDK
  have I5:=I4.iY (fK H nK) hK3' (fun v z=>by cases z)
  unfold ksk_rest
  refine wpAny_bind (wpAny_rule ?_)
  first
    | rw [List.forIn_toArray]
    | (rw [← Array.forIn_toList];simp only [List.toList_toArray])
    | rw [← Array.forIn_toList]
  refine wpAny_bind (wpAny_mono (sort_keys (E:=E) rv h64 Pv fpD fpK hDK hcall (fun x s' R Q' hx hk=>?_) vs 0 [] 0 s3 H rfl rfl (Nat.zero_le _) I5 p0) (fun _ s4 hd=>?_) fun _ _ x=>x)
  · refine wpAny_bind (wpAny_attempt (wpAny_mono hx (fun k s'' hq=>?_) fun _ _ hF=>hF.elim))
    dsimp only
    refine wpAny_bind (wpAny_mono (hk k s'' hq) (fun _ s5 hq5=>wpAny_pure hq5) fun _ _ x=>x)
  obtain ⟨ts,e',H4,htl,I6,p4⟩:=hd
  have pk:=I6.pin (kS,seqObj "list" (ts.map Value.ref).toArray e') (List.mem_append_right _ (List.mem_append_right _ (by simp)))
  have pD:=I6.pin (D,seqObj "list" #[] e1) (List.mem_append_right _ (List.mem_append_left _ (List.mem_append_right _ (by simp))))
  refine wpAny_bind (listItems_at pk.1 rfl ?_)
  have p4':Pv xs.length ts H4:=by rw [hlen];exact p4
  have I7:Inv X pins σ H4 s4:=I6.dR.dR
  have fin:∀ (st:SortSt) (q:List Nat),(arrOf st).map (·.2)=List.toArray (q.map fun i=>vs.getD i Value.none)→failedOf st=none→(∀ i∈q,i<xs.length)→q.length=xs.length→iM κ xs (q.map fun i=>xs.getD i .non) →
      wpAny (model X.prog X.w) A (ksk_tail D false e1 (.ref kS) st) (fun fin s'=>fin=.done (.ret .none)∧∃ ts H' ys,Pv xs.length ts H'∧H' D=none∧iM κ xs ys∧Inv X pins σ (upd H' D (.lst ys)) s') E s4:=by
    intro st q hout hf hq hql hsb
    unfold ksk_tail
    dsimp only
    refine wpAny_bind (listUpdate_at pk.1 rfl ?_ (by rw [List.size_toArray,List.length_map,sizeLine_eq];omega) (Nat.zero_le _))
    obtain ⟨b0,b1,b2,b3,b4,b5⟩:=fpK H4 pk.2.1
    have I8:Inv X pins σ H4 { s4 with heap:=s4.heap.update kS (Obj.mapSeq fun _=>(#[]:Array Value)) }:=I7.turned (t':=s4.toks) (fun b o hb e=>(Heap.get?_update_other _ _ (Ne.symm hb)).trans e) b0 b1 b3 b4 b5
    have hD8:(s4.heap.update kS (Obj.mapSeq fun _=>(#[]:Array Value))).get? D=some (seqObj "list" #[] e1):=(Heap.get?_update_other _ _ (Ne.symm hDK)).trans pD.1
    refine wpAny_bind (wpAny_letGo ?_)
    refine wpAny_bind (seqEpoch_at hD8 rfl ?_)
    have hsz:(if false=true then ((arrOf st).map (·.2)).reverse else (arrOf st).map (·.2))=List.toArray (q.map fun i=>vs.getD i Value.none):=by rw [if_neg Bool.false_ne_true];exact hout
    refine wpAny_bind (listUpdate_at hD8 rfl ?_ (Nat.zero_le _) (by show (if false=true then ((arrOf st).map (·.2)).reverse else (arrOf st).map (·.2)).size≤_;rw [hsz,List.size_toArray,List.length_map,sizeLine_eq];omega))
    rw [hf]
    simp only [bne_self_eq_false,Bool.false_eq_true,if_false]
    refine wpAny_pure ⟨rfl,ts,H4,_,p4',pD.2.1,hsb,?_⟩
    obtain ⟨c0,c1,c2,c3,c4,c5⟩:=fpD H4 pD.2.1
    have I9:=I8.turned (h':=(s4.heap.update kS (Obj.mapSeq fun _=>(#[]:Array Value))).update D (Obj.mapSeq fun _=>(arrOf st).map (·.2))) (t':=s4.toks) (fun b o hb e=>(Heap.get?_update_other _ _ (Ne.symm hb)).trans e) c0 c1 c3 c4 c5
    obtain ⟨cc,hcc⟩:∃ cc,((s4.heap.update kS (Obj.mapSeq fun _=>(#[]:Array Value))).update D (Obj.mapSeq fun _=>(arrOf st).map (·.2))).get? D=some (seqObj "list" (q.map fun i=>vs.getD i Value.none).toArray cc):=⟨_,by rw [← hout];exact get?_update_seq hD8 fun _=>(arrOf st).map (·.2)⟩
    exact I9.adopt pD.2.1 c1 hfresh c4 c5 ⟨by rw [List.length_map,sizeLine_eq];omega,_,cc,mR rv q hq,hcc⟩
  have eks:ts.length=xs.length:=by omega
  unfold ksk_end
  dsimp only
  rw [if_neg Bool.false_ne_true]
  by_cases h2:xs.length<2
  · have hs2:vs.toArray.size<2:=by rw [List.size_toArray];omega
    rw [if_pos hs2,if_pos hs2]
    refine wpAny_bind (wpAny_pure ?_)
    refine wpAny_bind ?_
    rw [StateT.run_pure]
    refine wpAny_pure ?_
    dsimp only
    have hr:∀ i∈List.range xs.length,i<xs.length:=fun i hi=>List.mem_range.mp hi
    refine fin _ (List.range xs.length) ?_ rfl hr (List.length_range) ⟨List.range xs.length,List.Perm.refl _,rfl,?_⟩
    · show ((if false=true then ((ts.map Value.ref).toArray.zip vs.toArray).reverse else (ts.map Value.ref).toArray.zip vs.toArray)).map (·.2)=_
      rw [if_neg Bool.false_ne_true]
      apply Array.toList_inj.mp
      rw [Array.toList_map,Array.toList_zip,List.map_snd_zip (by rw [List.toList_toArray,List.toList_toArray,List.length_map];omega)]
      rw [List.toList_toArray]
      apply List.ext_getElem?
      intro j
      rw [List.toList_toArray,List.getElem?_map]
      by_cases hj:j<xs.length
      · rw [List.getElem?_range hj]
        show _=some (vs.getD j Value.none)
        rw [List.getD_eq_getElem?_getD,List.getElem?_eq_getElem (by omega)];rfl
      · rw [List.getElem?_eq_none (by omega),List.getElem?_eq_none (by rw [List.length_range];omega)];rfl
    · match hx:xs.length,h2 with
      | 0,_=>exact List.Pairwise.nil
      | 1,_=>exact List.pairwise_singleton _ _
  · have hs2:¬ vs.toArray.size<2:=by rw [List.size_toArray];omega
    rw [if_neg hs2,if_neg hs2]
    have KK:Keys s4.heap (ts.map Value.ref) key xs.length m:=by
      refine ⟨by rw [List.length_map];exact eks,fun i hi=>?_,hlong⟩
      have hit:i<ts.length:=by omega
      have et:=htup ts H4 p4' i ts[i] (List.getElem?_eq_getElem hit)
      obtain ⟨_,its,r,hT⟩:=I7.hok _ _ et
      exact ⟨ts[i],its,by rw [List.getElem?_map,List.getElem?_eq_getElem hit];rfl,hT,intsAre_of r⟩
    obtain ⟨fs,kt,kl,kv⟩:=KK.tups
    refine wpAny_bind (kat_kind kt (by omega) (fun v hv=>by obtain ⟨a,t,rfl⟩:=kv v hv;exact Looks.of_pure rfl) (T:=.type "int") (by decide) ?_)
    have ett:(Value.type "int" != Value.type "tuple")=true:=by decide
    rw [ett]
    have ez:(if false=true then ((ts.map Value.ref).toArray.zip vs.toArray).reverse else (ts.map Value.ref).toArray.zip vs.toArray)=(ts.map Value.ref).toArray.zip vs.toArray:=by rw [if_neg Bool.false_ne_true]
    rw [ez]
    have hkl:(ts.map Value.ref).length=vs.length:=by rw [List.length_map];omega
    have run:=kat_run (prog:=X.prog) (w:=X.w) (A:=A) (E:=E) (s:=s4) (κ:=tuples' true) (ks:=ts.map Value.ref) (vs:=vs)
      (Q:=fun st' s'=>s'=s4∧∃ p:Array Nat,arrOf st'=p.map (kas_item ((ts.map Value.ref).toArray.zip vs.toArray))∧failedOf st'=none∧Arr xs.length p∧Srt κ p xs.length)
      (G:=fun p s'=>s'=s4∧Arr xs.length p∧Srt κ p xs.length) hkl (by omega) (by omega) (fun p st' s' _ b c ⟨d,a1,a2⟩=>⟨d,p,b,c,a1,a2⟩) (by
        have:=su (N:=xs.length) (KK.cmp (prog:=X.prog) (w:=X.w) (A:=A) hκ) hinj (by omega) (Q:=fun p s'=>s'=s4∧Arr xs.length p∧Srt κ p xs.length) (s:=s4) rfl fun p s' a b c=>⟨c,a,b⟩
        rw [← hlen]
        exact this)
    refine wpAny_bind (wpAny_mono run ?_ fun _ _ x=>x)
    rintro ⟨⟨⟩,st'⟩ s5 ⟨rfl,p,har,hf,AR,SR⟩
    dsimp only
    refine fin st' p.toList (kat_snds hkl har) hf (fun i hi=>?_) (by rw [Array.length_toList,AR.size]) (sX AR SR)
    exact List.mem_range.mp (AR.perm.mem_iff.mp hi)
end
end L2
namespace L2
open PySem PySem.W PySem.Spec PyProof.Rows
def Bb (X:Cx) (scope:Scope) (qual:Str) (c:Value) (N:List Str) (A:Around) (f:Addr) (s:Shared) (H:Hp):Cx :=
  let env:Env:=envX qual scope s.heap.objs.size f c (clo X.env.cells scope.names [])
  { prog:=X.prog,w:=X.w,K:=X.K,mg:=X.mg,base:=X.base,A:=A.deeper env,N:=N,s₀:=s,H₀:=H,env:=env,outer:=X.stack,stack:=env :: X.stack,ex:=[],fn:=fun x=>((clo X.env.cells scope.names []).lookup x).isNone,calm:=true,pn:=[],xe:=fun _ _=>False }
def mz (x:V) (cap:List (Option Nat)) (σ:St):St:=some x :: (cap.map fun o=>o.bind fun j=>(σ[j]?).bind id)
def Az (scope:Scope) (p:Str) (N N':List Str) (cap:List (Option Nat)):Bool:=(scope.names.lookup p == some .local) && !scope.isCoroutine && !scope.isGenerator && (!N'.contains p) && pG scope N N' cap
section
variable {X:Cx} {pins:List (Addr × Obj)} {σ:St} {H:Hp} {s:Shared} {body:Expr} {scope:Scope} {params:Arguments} {te:TE}
theorem wF (sc:Scope) (hsc:X.env.scope=sc) (N₀:List Str) (hN₀:X.N=N₀) {N':List Str} {cap:List (Option Nat)} {p:Str} (f1:freeOk sc scope=true) (f2:o8 scope=true) (f3:Az scope p N₀ N' cap=true)
    {A:Around} {f:Addr} {name qual:Str} {c pm ctv:Value} {x:V} {u:Value} {Q:VK} (I:Inv X pins σ H s) (hA:A.frames=some X.stack) (hd:A.handled=none) (hroom:A.depth<recursionLimit)
    (hf:(f,({ cls:=.type "function",data:=.func (kla_fn name qual params body scope (clo X.env.cells scope.names []) pm c ctv) }:Obj))∈pins) (hcd:s.heap.CodeRec c qual)
    (hbind:bindArgs (kla_fn name qual params body scope (clo X.env.cells scope.names []) pm c ctv) ⟨[u],[]⟩=pure [(p,u)])
    (hb:PE (Bb X scope qual c (p :: N') A f s H) body te) (rx:RelV x u) (h:te (mz x cap σ) H Q) :
    wpAny (model X.prog X.w) A (call (.ref f) [u]) (fun k s2=>∃ v H2,RelV v k∧Inv X pins σ H2 s2∧Q v H2) (fun _ _=>False) s:=by
  have ok:=I.ok
  have fr:∀ y∈scope.names,y.2=.free→X.env.kindOf y.1=some .cell∨X.env.kindOf y.1=some .free:=fun y hy e=>by
    have q:=List.all_eq_true.mp f1 y hy
    rw [e] at q
    have q':((sc.names.lookup y.1 == some NameKind.cell) || (sc.names.lookup y.1 == some NameKind.free))=true:=by simpa using q
    rw [Bool.or_eq_true] at q'
    unfold Env.kindOf
    rw [hsc]
    rcases q' with z | z
    · exact .inl (by simpa using z)
    · exact .inr (by simpa using z)
  obtain ⟨⟨k1,k2⟩,k3⟩:((scope.kind == .function)=true∧(scope.names.all fun y=>y.2 != .cell)=true)∧(scope.names.all fun y=>y.2 != .local || scope.names.lookup y.1 == some .local)=true:=by
    unfold o8 at f2
    rw [Bool.and_eq_true,Bool.and_eq_true] at f2
    exact f2
  have hkind:scope.kind=.function:=by simpa using k1
  have hcell:∀ y∈scope.names,y.2≠.cell:=fun y hy=>by
    have q:=List.all_eq_true.mp k2 y hy
    simpa using q
  obtain ⟨⟨⟨⟨g1,g2⟩,g3⟩,g4⟩,g5⟩:((((scope.names.lookup p == some .local)=true∧(!scope.isCoroutine)=true)∧(!scope.isGenerator)=true)∧(!N'.contains p)=true)∧pG scope N₀ N' cap=true:=by
    unfold Az at f3
    rw [Bool.and_eq_true,Bool.and_eq_true,Bool.and_eq_true,Bool.and_eq_true] at f3
    exact f3
  have hploc:scope.names.lookup p=some .local:=by simpa using g1
  have clX:∀ x c,(clo X.env.cells scope.names []).lookup x=some c→X.env.cells.lookup x=some c:=fun x c e=>by
    have e1:=uU e
    have hx:(x,NameKind.free)∈scope.names:=by
      rcases mK [] (PySem.mem_of_lookup e) with z | z
      · exact nomatch z
      · exact z
    obtain ⟨c',e2⟩:=ok.has x (fr (x,.free) hx rfl)
    rw [e2] at e1 ⊢
    rw [e1];rfl
  have pf:=I.pin _ (List.mem_append_right _ hf)
  refine wpAny_call (kla_callFunE hroom pf.1 rfl (by simpa using g2) (by simpa using g3) rfl hcd ?_)
  rw [hbind]
  refine wpAny_pure ?_
  refine wpAny_newFunctionEnv hcell (fun y hy=>?_) (fun h4 hns hsb=>?_) hkind
  · have:y=(p,u):=by simpa using hy
    rw [this];exact hploc
  have kp4:∀ b o,s.heap.get? b=some o→h4.get? b=some o:=fun b o e=>hsb.extBut b o (Nat.ne_of_lt (Heap.lt_size e)) (Heap.get?_push_of_some _ e)
  refine ⟨I.nolimit.keeps kp4,kla_codeExpr ?_⟩
  let Z:Cx:=Bb X scope qual c (p :: N') A f s H
  have okZ:Z.Ok:=by
    refine ⟨ok.mod,hkind,rfl,rfl,Nat.le_refl _,?_,?_,?_,fun _=>hd,Around.frames_deeper hA,.inr ⟨rfl,rfl⟩,?_,?_,?_,?_,?_,?_,?_⟩
    · exact fun x y c h1 h2=>ok.inj x y c (clX x c h1) (clX y c h2)
    · intro x hx
      have hx':scope.names.lookup x=some .cell∨scope.names.lookup x=some .free:=hx
      rcases hx' with z | z
      · exact absurd rfl (hcell _ (PySem.mem_of_lookup z))
      · exact Option.isSome_iff_exists.mp (j4 scope.names [] x (PySem.mem_of_lookup z))
    · intro x c hx h1
      have hx':((clo X.env.cells scope.names []).lookup x).isNone=true:=hx
      have h1':(clo X.env.cells scope.names []).lookup x=some c:=h1
      rw [h1'] at hx';cases hx'
    · exact fun b hb=>absurd (show b∈([]:List Addr) from hb) (by simp)
    · exact fun b o e=>I.bs b o e
    · exact Nat.le_trans ok.bsz I.sz
    · exact fun b o e hb=>absurd (show b∈([]:List Addr) from hb) (by simp)
    · exact fun b hb=>absurd (show b∈([]:List Addr) from hb) (by simp)
    · exact I.stack
    · exact I.oV
  have capl:cap.length=N'.length∧∀ p∈N'.zip cap,(match p.2 with | none=>true | some j=>N₀[j]? == some p.1 && scope.names.lookup p.1 == some .free)=true:=by
    unfold pG at g5
    rw [Bool.and_eq_true] at g5
    exact ⟨by simpa using g5.1,fun p hp=>List.all_eq_true.mp g5.2 p hp⟩
  have IZ:Inv Z [] (mz x cap σ) H { s with heap:=h4,toks:=s.toks + [(p,u)].length }:=by
    refine ⟨okZ,rfl,I.bare,Un.kept kp4,⟨_,hns,?_⟩,?_,?_,?_,fun p hp=>absurd (show p∈([]:List (Addr × Obj)) from hp) (by simp),I.hok.kept kp4,?_⟩
    · intro i y v e1 e2 e3
      cases i with
      | zero =>
        have e1':p=y:=by
          have e1'':(p :: N')[0]?=some y:=e1
          simpa using e1''
        have e2':x=v:=by
          have e2'':(mz x cap σ)[0]?=some (some v):=e2
          simpa [mz] using e2''
        subst e1' e2'
        exact ⟨u,rx,.inl ⟨hploc,by simp [List.lookup]⟩⟩
      | succ i =>
        have e1':N'[i]?=some y:=by
          have e1'':(p :: N')[i + 1]?=some y:=e1
          simpa using e1''
        have e2':(cap.map fun o=>o.bind fun j=>(σ[j]?).bind id)[i]?=some (some v):=by
          have e2'':(mz x cap σ)[i + 1]?=some (some v):=e2
          simpa [mz] using e2''
        rw [List.getElem?_map] at e2'
        cases ec:cap[i]? with
        | none=>rw [ec] at e2';cases e2'
        | some o =>
          rw [ec] at e2'
          cases o with
          | none=>cases e2'
          | some j =>
            have e3':(σ[j]?).bind id=some v:=by simpa using e2'
            have hz:(y,some j)∈N'.zip cap:=by
              refine List.mem_of_getElem? (i:=i) ?_
              rw [List.getElem?_zip_eq_some]
              exact ⟨e1',ec⟩
            have q:=capl.2 _ hz
            have q':(N₀[j]? == some y)=true∧(scope.names.lookup y == some NameKind.free)=true:=by simpa [Bool.and_eq_true] using q
            have q1:X.N[j]?=some y:=by rw [hN₀];simpa using q'.1
            have q2:scope.names.lookup y=some .free:=by simpa using q'.2
            have eσ:σ[j]?=some (some v):=by
              cases z:σ[j]? with
              | none=>rw [z] at e3';cases e3'
              | some y' =>
                rw [z] at e3'
                have:y'=some v:=e3'
                rw [this]
            have hk:=fr (y,.free) (PySem.mem_of_lookup q2) rfl
            obtain ⟨m,hn,hl⟩:=I.loc
            have vis:Vis X.env.scope y:=by
              rcases hk with z | z
              · exact .inr (.inl z)
              · exact .inr (.inr z)
            obtain ⟨u',r,l⟩:=hl j y v q1 eσ vis
            refine ⟨u',r,.inr ⟨.inr q2,?_⟩⟩
            rcases l with ⟨kl,_⟩ | ⟨_,c,ecx,hcx⟩
            · rcases hk with z | z
              · have z':X.env.kindOf y=some .cell:=z
                rw [kl] at z';cases z'
              · have z':X.env.kindOf y=some .free:=z
                rw [kl] at z';cases z'
            · have hh:=j4 (cells:=X.env.cells) scope.names [] y (PySem.mem_of_lookup q2)
              obtain ⟨c',ec'⟩:=Option.isSome_iff_exists.mp hh
              have ec2:=clX y c' ec'
              rw [ecx] at ec2
              cases ec2
              exact ⟨c,ec',hcx.keeps kp4⟩
    · intro y c e
      obtain ⟨v,z⟩:=I.cell y c (clX y c e)
      exact ⟨v,z.keeps kp4⟩
    · exact I.hok.fresh (Nat.le_refl _)
    · exact fun y c e=>I.freeC y c (clX y c e)
    · show (mz x cap σ).length=(p :: N').length
      unfold mz
      rw [List.length_cons,List.length_cons,List.length_map,capl.1]
  refine wpAny_mono (hb [] _ _ H Q IZ h) (fun v s2 ⟨vv,H2,J,rv,q⟩=>?_) fun _ _ z=>z.elim
  refine ⟨vv,H2,rv,?_,q⟩
  have un:Un (frs X.stack) [] H H2 s.heap s2.heap:=J.base
  exact I.call' J.os un J.hok J.bare fun b hb=>absurd hb (by simp)
end
end L2
namespace L2
open PySem PySem.W PySem.Spec PyProof.Rows
section
variable {X:Cx} {pins:List (Addr × Obj)} {σ:St} {H:Hp} {s:Shared}
theorem Inv.grow {P:Addr} {ps more:Array Value} {h':Heap} {t':Nat} (I:Inv X pins σ H s) (hP:H P=some (.tbl ps)) (hx:Heap.ExtBut P s.heap h') (hP':h'.get? P=some { cls:=.none,data:=.fields (ps++more) }) :
    Inv X pins σ (upd H P (.tbl (ps++more))) { s with heap:=h',toks:=t' }:=by
  have ne:∀ b,H b=none→b≠P:=fun b n z=>by rw [z,hP] at n;cases n
  have hL:X.env.locals≠P:=ne _ I.free
  refine I.step (g':=s.gens) (d':=s.drawn) (ch:=[]) (fun _ z=>nomatch z) (fun b o _ _ _ e n=>hx b o (ne b n) e) (fun b o _ _ _ e n=>⟨o.slots,hx b o (ne b n) e⟩) (fun b o _ _ n=>by rw [aL (ne b n)];exact n) (fun b o _ e=>?_) (fun b xs e=>?_) (fun b ob u e=>?_) (fun b qs e=>?_) (fun m hm=>?_) (fun b u e=>?_) I.bare
  · by_cases hb:b=P
    · subst hb;exact ⟨_,hP'⟩
    · exact ⟨o,hx b o hb e⟩
  · rw [aL (fun z=>by rw [z,hP] at e;cases e)];exact e
  · rw [aL (fun z=>by rw [z,hP] at e;cases e)];exact e
  · by_cases hb:b=P
    · subst hb
      rw [hP] at e;cases e
      exact ⟨more,by rw [bh]⟩
    · exact ⟨#[],by rw [aL hb,e];simp⟩
  · exact hm.extBut hx hL
  · by_cases hb:b=P
    · subst hb;rw [bh] at e;cases e;exact hP'
    · rw [aL hb] at e
      refine (I.hok b u e).stay (fun c v hc q=>hx c v ?_ q) (fun c q=>by rw [aL (fun z=>by rw [z,hP] at q;cases q)];exact q) fun c xs q=>by rw [aL (fun z=>by rw [z,hP] at q;cases q)];exact q
      rcases hc with z | z
      · rw [z];exact hb
      · intro w;rw [w,hP] at z;cases z
def TabOk (P:Addr) (pos:Pos) (qual:Str) (H:Hp):Prop:=H P=some (.tbl #[])∨∃ c':Addr,H P=some (.tbl #[rawInt pos.line,rawInt pos.col,.ref c'])∧H c'=some (.ext fun h=>h.CodeRec (.ref c') qual)
def BM (mg:Str→Option Value) (base:Heap):Prop:=∃ bm ob,mg "__builtins__"=some (.ref bm)∧bm≠builtinsNs∧bm≠mainGlobals∧base.get? bm=some ob∧ob.cls=.type "module"∧ob.dict=some builtinsNs∧ob.data=.plain
theorem wC {P c:Addr} {params:Arguments} {body:Expr} {scope:Scope} {pos:Pos} {Q:Value→Shared→Prop} {E:Value→Shared→Prop} {A:Around} (sc:Scope) (hsc:X.env.scope=sc) (f1:freeOk sc scope=true) (I:Inv X pins σ H s) (hbm:BM X.mg X.base) (hcode:X.env.code=.ref c)
    (hhd:codeHdIn X.K c P=true) (hT:TabOk P pos (X.env.qual++"<lambda>") H) (hdef:defaultsOf params X.env=([],[]))
    (h:∀ (f:Addr) (H':Hp) (s':Shared) (c':Addr) (pm ctv:Value),(∀ b o,H b=some o→b≠P→H' b=some o)→(∀ b,H' b=none→H b=none)→TabOk P pos (X.env.qual++"<lambda>") H'→H' c'=some (.ext fun h=>h.CodeRec (.ref c') (X.env.qual++"<lambda>")) →
      Inv X (pins++[(f,({ cls:=.type "function",data:=.func (kla_fn "<lambda>" (X.env.qual++"<lambda>") params body scope (clo X.env.cells scope.names []) pm (.ref c') ctv) }:Obj))]) σ H' s'→Q (.ref f) s') :
    wpAny (model X.prog X.w) A (eval (.Lambda params body scope pos) X.env) Q E s:=by
  have ok:=I.ok
  have fr:∀ y∈scope.names,y.2=.free→X.env.kindOf y.1=some .cell∨X.env.kindOf y.1=some .free:=fun y hy e=>by
    have q:=List.all_eq_true.mp f1 y hy
    rw [e] at q
    have q':((sc.names.lookup y.1 == some NameKind.cell) || (sc.names.lookup y.1 == some NameKind.free))=true:=by simpa using q
    rw [Bool.or_eq_true] at q'
    unfold Env.kindOf
    rw [hsc]
    rcases q' with z | z
    · exact .inl (by simpa using z)
    · exact .inr (by simpa using z)
  have hclos:closureFor scope X.env=pure (clo X.env.cells scope.names []):=gJ fun y hy e=>ok.has y.1 (fr y hy e)
  have hg:s.heap.Ns mainGlobals X.mg:=I.mod.glob.keeps I.bk
  have C:CodeHd s.heap c P:=codeHd_of_K I.kIn hhd
  obtain ⟨bm,ob,b1,b2,b3,b4,b5,b6,b7⟩:=hbm
  have hbmP:∀ ps,H P=some (.tbl ps)→bm≠P:=fun ps e z=>by
    have:=(I.bs bm ob b4).2
    rw [z,e] at this;cases this
  have hB:∀ ps,H P=some (.tbl ps)→s.heap.BuiltinsAt X.mg P:=fun ps e=>⟨bm,ob,b1,b2,b3,hbmP ps e,I.bk bm ob b4,b5,b6,b7⟩
  refine kla_eval hdef ?_
  rcases hT with hT | ⟨c',hT,hc'⟩
  · have hPo:s.heap.get? P=some (tabObj #[]):=I.hok P _ hT
    have hgP:mainGlobals≠P:=fun q=>by
      obtain ⟨o,es,ep,e,hd,_⟩:=id hg
      rw [q,hPo] at e;cases e;cases hd
    refine kla_makeFunction (mg:=X.mg) hclos ok.glob hg hcode C hPo trivial rfl hgP (hB _ hT) fun c' ctv h' tk hx hge hlt hrec htb=>?_
    have hPlt:P<s.heap.objs.size:=Heap.lt_size hPo
    have I1:Inv X pins σ (upd H P (.tbl (#[]++#[rawInt pos.line,rawInt pos.col,.ref c']))) { s with heap:=h',toks:=tk }:=I.grow hT hx htb
    have nc':H c'=none:=I.hok.fresh hge
    have hcP:c'≠P:=fun z=>by rw [z] at hge;exact absurd hPlt (Nat.not_lt.mpr hge)
    have nc1:(upd H P (.tbl (#[]++#[rawInt pos.line,rawInt pos.col,.ref c']))) c'=none:=by rw [aL hcP];exact nc'
    obtain ⟨q0,q1,q2,q3,q4,q5⟩:=I.rP (H':=H) hge nc'
    have hs0:X.s₀.heap.objs.size≤c':=Nat.le_trans I.sz hge
    have I2:=I1.adopt (a:=c') (o:=.ext fun h=>h.CodeRec (.ref c') (X.env.qual++"<lambda>")) nc1 q1 hs0 q4 q5
      ⟨hrec,by obtain ⟨cc,o,vs,t,e1,e2,_⟩:=hrec;cases e1;exact ⟨o,e2⟩,fun h1 h2 x k=>x.at k⟩
    have I3:=I2.kept (h':=h'.push (kla_obj "<lambda>" (X.env.qual++"<lambda>") params body scope (clo X.env.cells scope.names []) ((X.mg "__name__").getD .none) c' ctv)) (t':=tk) fun b o e=>Heap.get?_push_of_some _ e
    have nf:(upd (upd H P (.tbl (#[]++#[rawInt pos.line,rawInt pos.col,.ref c']))) c' (.ext fun h=>h.CodeRec (.ref c') (X.env.qual++"<lambda>"))) h'.objs.size=none:=I2.hok.fresh (Nat.le_refl _)
    have I4:=I3.iY (I2.rP (Nat.le_refl _) nf) (Heap.get?_push_size _ rfl) (fun v z=>by cases z)
    refine h _ _ _ c' _ ctv (fun b o e hb=>?_) (fun b e=>?_) (.inr ⟨c',?_,bh⟩) bh I4
    · rw [aL (aY e nc'),aL hb];exact e
    · cases z:H b with
      | none=>rfl
      | some o =>
        by_cases hb:b=P
        · rw [hb,aL hcP.symm,bh] at e;cases e
        · rw [aL (aY z nc'),aL hb,z] at e;cases e
    · rw [aL hcP.symm,bh];simp
  · have hPo:s.heap.get? P=some (tabObj #[rawInt pos.line,rawInt pos.col,.ref c']):=I.hok P _ hT
    have hfnd:codeAmong pos (#[rawInt pos.line,rawInt pos.col,.ref c']:Array Value).toList=some (.ref c'):=by simp [codeAmong,rawInt]
    refine kla_makeFunctionHit (mg:=X.mg) hclos ok.glob hg hcode C hPo trivial hfnd (hB _ hT) fun ctv h' tk hk hsz=>?_
    have I1:Inv X pins σ H { s with heap:=h',toks:=tk }:=I.kept hk
    have I3:=I1.kept (h':=h'.push ({ cls:=.type "function",data:=.func (kla_fn "<lambda>" (X.env.qual++"<lambda>") params body scope (clo X.env.cells scope.names []) ((X.mg "__name__").getD .none) (.ref c') ctv) }:Obj)) (t':=tk) fun b o e=>Heap.get?_push_of_some _ e
    have nf:H h'.objs.size=none:=I1.hok.fresh (Nat.le_refl _)
    have I4:=I3.iY (I1.rP (Nat.le_refl _) nf) (Heap.get?_push_size _ rfl) (fun v z=>by cases z)
    exact h _ _ _ c' _ ctv (fun b o e _=>e) (fun b e=>e) (.inr ⟨c',hT,hc'⟩) hc' I4
end
end L2
namespace L2
open PySem PySem.W PySem.Spec PyProof.Rows
def jr (n:Nat):List V:=(List.range n).map fun (i:Nat)=>V.int (i:Int)
def vI (P:Addr) (lpos:Pos) (qual:Str) (cap:List (Option Nat)) (ta:TA) (te:TE):TE:=fun σ H Q=>ta σ H fun vs H1=>∃ n:Nat,vs=[.int (n:Int)]∧n<64∧TabOk P lpos qual H1 ∧
  ∀ H2,(∀ b o,H1 b=some o→b≠P→H2 b=some o)→(∀ b,H2 b=none→H1 b=none)→TabOk P lpos qual H2 →
    ∃ (Pv:Nat→List Addr→Hp→Prop) (key:Nat→List Int) (κ:Nat→Int) (m:Nat),Pv 0 [] H2∧(∀ i ts H3,i<n→Pv i ts H3→(∀ c',H2 c'=some (.ext fun h=>h.CodeRec (.ref c') qual)→H3 c'=some (.ext fun h=>h.CodeRec (.ref c') qual))∧te (mz (.int (i:Int)) cap σ) H3 fun v H4=>∃ t,v=.ref t∧Pv (i + 1) (ts++[t]) H4) ∧
      (∀ ts H3,Pv n ts H3→∀ i t,ts[i]?=some t→H3 t=some (.tup ((key i).map V.int)))∧(∀ i,i<n→(key i).length=m + 1)∧(∀ i j,i<n→j<n→HT.lexLt (key i) (key j)=decide (κ i<κ j))∧Inj n κ ∧
      ∀ ts H3 D ys,Pv n ts H3→H3 D=none→iM κ (jr n) ys→Q (.ref D) (upd H3 D (.lst ys))
section
variable {X:Cx} {e body:Expr} {ta:TA} {te:TE} {params:Arguments} {scope:Scope} {p1 p2 p3 lpos kp pos:Pos}
theorem nA {P c:Addr} {p:Str} (sc:Scope) (hsc:X.env.scope=sc) (N₀:List Str) (hN₀:X.N=N₀) (N':List Str) (cap:List (Option Nat)) (f1:freeOk sc scope=true) (f2:o8 scope=true) (f3:Az scope p N₀ N' cap=true)
    (hcalm:X.calm=true) (hbm:BM X.mg X.base) (hcode:X.env.code=.ref c) (hhd:codeHdIn X.K c P=true) (hroom:X.A.depth + 4<recursionLimit)
    (hgs:Gl X "sorted") (hms:X.mg "sorted"=none) (hgr:Gl X "range") (hmr:X.mg "range"=none) (ha:PA X [e] ta)
    (hb:∀ (A:Around) (f:Addr) (cv:Value) (s:Shared) (H:Hp),A.handled=none→A.depth≤X.A.depth + 2→A.units≤X.A.units + 2→PE (Bb X scope (X.env.qual++"<lambda>") cv (p :: N') A f s H) body te)
    (hbind:∀ (pm cv ctv u:Value),bindArgs (kla_fn "<lambda>" (X.env.qual++"<lambda>") params body scope (clo X.env.cells scope.names []) pm cv ctv) ⟨[u],[]⟩=pure [(p,u)])
    (hdef:defaultsOf params X.env=([],[]):=by rfl) (hs:starEach [e] X.env=[(false,eval e X.env)]:=by rfl) :
    PE X (.Call (.Name "sorted" p1) [.Call (.Name "range" p2) [e] [] p3] [⟨some "key",.Lambda params body scope lpos,kp⟩] pos) (vI P lpos (X.env.qual++"<lambda>") cap ta te):=by
  intro pins s σ H Q I h
  refine wpAny_Call_Name_kw (fZ I hgs hms boot_sorted ?_)
  refine callWith_kw ?_
  show wpAny _ _ (spliced ((false,eval (.Call (.Name "range" p2) [e] [] p3) X.env) :: [])) _ _ s
  refine Calls.spliced_cons (Call_ (fZ I hgr hmr boot_range (PyProof.Rows.callWith_type1 (thn (ha p3 pins s σ H _ I h) fun us s1 ⟨vs,H1,I1,r1,q1⟩=>?_) hs rfl)))
  obtain ⟨n,e1,hn,hT,q⟩:=q1
  subst e1
  obtain ⟨u,rfl,t,rfl⟩:=vals1 r1
  refine call_range_1 ?_
  refine Calls.spliced_nil ?_
  generalize hro:({ cls:=.type "range",data:=.fields #[.int 0 s1.toks,.int (n:Int) t,.int 1 (s1.toks + 1)] }:Obj)=ro
  have hrd:∀ v,ro.data≠.cell v:=fun v z=>by rw [← hro] at z;cases z
  have I2:Inv X pins σ H1 { s1 with heap:=s1.heap.push ro,toks:=s1.toks + 1 + 1 }:=I1.kept fun b o e=>Heap.get?_push_of_some _ e
  have nr:H1 s1.heap.objs.size=none:=I1.hok.fresh (Nat.le_refl _)
  have I3:=I2.iY (I1.rP (Nat.le_refl _) nr) (Heap.get?_push_size _ (by rw [← hro];rfl)) hrd
  generalize ({ s1 with heap:=s1.heap.push ro,toks:=s1.toks + 1 + 1 }:Shared)=s2 at I3 ⊢
  generalize s1.heap.objs.size=r at I3 ⊢
  refine kws_cons (wC (P:=P) (c:=c) sc hsc f1 I3 hbm hcode hhd hT hdef fun f H2 s3 c' pm ctv k1 k2 hT2 hc' I4=>?_)
  refine kws_nil ?_
  show wpAny _ _ (call (.builtin "sorted") [.ref r] [(Str.ofString "key",.ref f)]) _ _ s3
  obtain ⟨Pv,key,κ,m,p0,step,htup,hlong,hκ,hinj,fin⟩:=q H2 k1 k2 hT2
  refine call_function_entry_kw kind_sorted plain_sorted entry_sorted (ksk_s1 _ _) ?_
  unfold Builtin.«sorted»
  refine wpAny_bind (m:=checkCount "sorted" 1 1 _) (wpAny_pure ?_)
  have pr:=I4.pin (r,ro) (List.mem_append_right _ (List.mem_append_left _ (List.mem_append_right _ (by simp))))
  have hR:IsRange s3.heap r 0 (n:Int) 1 s1.toks t (s1.toks + 1):=by
    show s3.heap.get? r=_
    rw [pr.1,← hro]
  have hrs:Builtin.Range.rangeSize 0 (n:Int) 1=(n:Nat):=by rw [rangeSize_one];split <;> omega
  refine wpAny_bind (mJ (A:=X.A.in1) (I.ok.hd hcalm) hR (small_one (by omega) (by omega) (by omega) (by omega)) hrs (by omega) fun h' tk vs hk rv=>?_)
  have I5:Inv X _ σ H2 { s3 with heap:=h',toks:=tk }:=I4.kept hk
  have hlen:=rv.length
  rw [List.length_map,List.length_range] at hlen
  refine wpAny_bind (wpAny_newList ?_ (by rw [sizeLine_eq];omega))
  have nD:H2 h'.objs.size=none:=I5.hok.fresh (Nat.le_refl _)
  have I6:Inv X _ σ H2 { s3 with heap:=h'.push (seqObj "list" vs.toArray 0),toks:=tk }:=I5.kept (t':=tk) fun b o e=>Heap.get?_push_of_some _ e
  have hD6:(h'.push (seqObj "list" vs.toArray 0)).get? h'.objs.size=some (seqObj "list" vs.toArray 0):=Heap.get?_push_size _ rfl
  have hxl:((List.range n).map fun (i:Nat)=>V.int (i:Int)).length=n:=by simp
  refine wpAny_bind (wpAny_holding (wpAny_call_entry_kw slot_list_sort ⟨_,hD6,rfl⟩ entry_list_sort ?body (ksk_l1 _ _)))
  show wpAny (model X.prog X.w) X.A.in1.in1 (Builtin.«list.sort» ⟨[.ref h'.objs.size],[(Str.ofString "key",.ref f)]⟩) _ _ _
  rw [ksk_t1]
  refine wpAny_mono (sY (X:=X) (A:=X.A.in1.in1) (s:={ s3 with heap:=h'.push (seqObj "list" vs.toArray 0),toks:=tk }) (xs:=jr n) (key:=key) (κ:=κ) (m:=m) (n0:=0) rv (by show ((List.range n).map _).length<64;rw [hxl];exact hn) Pv I6 hD6
    (fun H' hn'=>I5.rP (Nat.le_refl _) hn') nD (Nat.le_trans I5.sz (Nat.le_refl _)) p0 ?call ?tup ?long ?kap ?inj) ?_ fun _ _ x=>x
  case call =>
    intro i x u ts pins' s' H' hx rx I' hsub pv
    obtain ⟨hi,ex⟩:i<n∧x=V.int (i:Int):=by
      have hx':((List.range n).map fun (i:Nat)=>V.int (i:Int))[i]?=some x:=hx
      rw [List.getElem?_map] at hx'
      by_cases hi:i<n
      · rw [List.getElem?_range hi] at hx'
        exact ⟨hi,(Option.some.inj hx').symm⟩
      · rw [List.getElem?_eq_none (by rw [List.length_range];omega)] at hx';cases hx'
    subst ex
    obtain ⟨hkc,ht⟩:=step i ts H' hi pv
    have hcr:s'.heap.CodeRec (.ref c') (X.env.qual++"<lambda>"):=(I'.hok c' _ (hkc c' hc')).1
    refine wpAny_mono (wF (X:=X) (A:=X.A.in1.in1) sc hsc N₀ hN₀ f1 f2 f3 I' I.ok.frames (I.ok.hd hcalm) (by show X.A.depth<recursionLimit;omega) (hsub _ (List.mem_append_right _ List.mem_cons_self)) hcr (hbind _ _ _ _)
      (hb _ f _ s' H' (I.ok.hd hcalm) (by show X.A.depth≤X.A.depth + 2;omega) (by show X.A.units + 1 + 1≤X.A.units + 2;omega)) rx ht) (fun k s2 ⟨v,H3,rv',I7,t',ev,pv'⟩=>?_) fun _ _ x=>x
    subst ev
    have ek:k=.ref t':=rv'
    exact ⟨t',H3,ek,I7,pv'⟩
  case tup =>
    intro ts H' pv
    have pv':Pv n ts H':=by
      have:Pv ((List.range n).map fun (i:Nat)=>V.int (i:Int)).length ts H':=pv
      rw [hxl] at this;exact this
    exact htup ts H' pv'
  case long =>
    intro i hi
    have hi':i<((List.range n).map fun (i:Nat)=>V.int (i:Int)).length:=hi
    rw [hxl] at hi'
    exact hlong i hi'
  case kap =>
    intro i j hi hj
    have hi':i<((List.range n).map fun (i:Nat)=>V.int (i:Int)).length:=hi
    have hj':j<((List.range n).map fun (i:Nat)=>V.int (i:Int)).length:=hj
    rw [hxl] at hi' hj'
    exact hκ i j hi' hj'
  case inj =>
    have:(jr n).length=n:=hxl
    rw [this];exact hinj
  rintro fin' s8 ⟨rfl,ts,H8,ys,pv,nD8,hsb,I8⟩
  refine ⟨_,rfl,wpAny_pure ⟨_,rfl,?_⟩⟩
  have pv':Pv n ts H8:=by
    have e':(jr n).length=n:=hxl
    rw [e'] at pv;exact pv
  exact ⟨.ref h'.objs.size,_,I8.dR.dR,rfl,fin ts H8 _ ys pv' nD8 hsb⟩
end
end L2
namespace L2
open PySem PySem.W PySem.Spec PyProof.Rows
def Bq (ts:List Addr) (H:Hp):Prop:=∀ b,H b=none∨(∃ o xs,H b=some (.frz o (.lst xs)))∨(b∈ts∧H b=some (.tbl #[]))
theorem uy {P:Program} {w:World} {K:PySem.W.Frag} {mg mb:Str→Option Value} {CX:CXT} {k:Nat} {fa a:Addr} {fd:FuncData} {x:Str} {sp:Sp} {s₁:Shared} {vs:List Value} {ns:List Int} {ts:List Addr}
    (KX:K.In s₁.heap) (hns:s₁.heap.Ns mainGlobals mg) (hb:s₁.heap.Ns builtinsNs mb) (hbb:∀ x:Str,x≠"__name__"→mb x=bootBuiltins x) (hlim:s₁.heap.NoLimit) (hg:s₁.gens=#[])
    (ha:s₁.heap.get? a=some { cls:=.type "list",data:=.seq vs.toArray }) (hi:IntsAre vs ns) (hl:ns.length≤sizeLine) (hr:j9 k callerA)
    (hts:∀ P∈ts,s₁.heap.get? P=some (tabObj #[])) (htk:∀ P∈ts,K.lookup P=none) (htc:∀ P∈ts,isCodeTable s₁.heap P)
    (hbm:∃ bm ob,mg "__builtins__"=some (.ref bm)∧bm≠builtinsNs∧s₁.heap.get? bm=some ob∧ob.cls=.type "module"∧ob.dict=some builtinsNs∧ob.data=.plain)
    (F:∀ base:Heap,K.In base→base.Ns mainGlobals mg→BM mg base→cR P w K mg base CX k fa fd [x] sp) (hbind:∀ (s:Shared) (u:Value),BindsTo s fd ⟨[u],[]⟩ [(x,u)])
    (hsp:∀ H:Hp,Bq ts H→(∀ P∈ts,H P=some (.tbl #[]))→SqL K H a (ns.map V.int)→sp [.ref a] H (fun v _=>v=.bl true) fun _ _ _=>False)
    (hCX:∀ H e s',CX [] H s₁ (fun _ _ _=>False) e s'→False) :
    codeAny (model P w) callerA (.call (.ref fa) ⟨[.ref a],[]⟩) (fun r s'=>r=.ok (.ret (.bool true))∧OldK s₁.heap s'.heap∧s'.os=s₁.os∧AllBare s'.gens) s₁:=by
  have rv:=jB hi
  have lenV:=hi.length
  have haT:a ∉ ts:=fun z=>by have:=hts a z;rw [ha] at this;cases this
  have core:∀ H:Hp,Bq ts H→(∀ P∈ts,H P=some (.tbl #[]))→SqL K H a (ns.map V.int)→HOk P w H s₁.heap→(∀ b,H b≠none→b=a∨b∈ts)→(H a≠none→K.lookup a=none) →
      codeAny (model P w) callerA (.call (.ref fa) ⟨[.ref a],[]⟩) (fun r s'=>r=.ok (.ret (.bool true))∧OldK s₁.heap s'.heap∧s'.os=s₁.os∧AllBare s'.gens) s₁:=by
    intro H hO hTb hS hok hA hK
    have base_of:∀ {b:Addr} {o:Obj},s₁.heap.get? b=some o→H b=none→(vp s₁.heap H).get? b=some o:=fun e n=>wI e n
    have noA:∀ {b:Addr} {o:Obj},s₁.heap.get? b=some o→(∀ xs n,o.data≠.seq xs n)→(∀ ps,o.data≠.fields ps)→H b=none:=fun {b o} e d1 d2=>by
      cases q:H b with
      | none=>rfl
      | some u =>
        rcases hA b (by rw [q];simp) with e' | e'
        · subst e'
          rw [ha] at e;cases e
          exact absurd rfl (d1 _ _)
        · have:=hts b e'
          rw [e] at this;cases this
          exact absurd rfl (d2 _)
    have nsK:∀ {b:Addr} {m:Str→Option Value},s₁.heap.Ns b m→(vp s₁.heap H).Ns b m:=fun {b m} ⟨o,es,ep,e,d,r⟩=>⟨o,es,ep,base_of e (noA e (fun _ _ z=>by rw [d] at z;cases z) fun _ z=>by rw [d] at z;cases z),d,r⟩
    have hKb:K.In (vp s₁.heap H):=fun b o e=>base_of (KX b o e) (by
      cases q:H b with
      | none=>rfl
      | some u =>
        rcases hA b (by rw [q];simp) with e' | e'
        · subst e'
          rw [hK (by rw [q];simp)] at e;cases e
        · rw [htk b e'] at e;cases e)
    have hM:Mod K mg (vp s₁.heap H):=⟨hKb,nsK hns,⟨mb,nsK hb,hbb⟩,let ⟨mc,h1,h2⟩:=hlim;⟨mc,nsK h1,h2⟩⟩
    have hBM:BM mg (vp s₁.heap H):=by
      obtain ⟨bm,ob,c1,c2,c3,c4,c5,c6⟩:=hbm
      refine ⟨bm,ob,c1,c2,fun q=>?_,base_of c3 (noA c3 (fun _ _ z=>by rw [c6] at z;cases z) fun _ z=>by rw [c6] at z;cases z),c4,c5,c6⟩
      obtain ⟨o,es,ep,e,hd,_⟩:=id hns
      rw [q,e] at c3;cases c3;rw [hd] at c6;cases c6
    have e0:Gm P w K mg (vp s₁.heap H) callerA [] s₁ H:=⟨rfl,hM,fun b o e=>Av e,Nat.le_of_eq (uG _ _),trivial,fun b hb=>absurd (show b∈([]:List Addr) from hb) (by simp),hok,.of_eq hg⟩
    refine codeAny_mono ((F _ hKb (nsK hns) hBM).run callerA [] s₁ H ⟨[.ref a],[]⟩ [.ref a] [.ref a] _ _ hr e0 (hbind s₁ (.ref a)) (.cons rfl .nil) (hsp H hO hTb hS)) fun r s' h=>?_
    cases r with
    | error e=>exact (hCX H e s' h).elim
    | ok fl =>
      cases fl with
      | next=>exact False.elim h
      | brk=>exact False.elim h
      | cont=>exact False.elim h
      | ret u =>
        obtain ⟨v,H',os,bare,un,hok',r',q⟩:=h
        have q':v=.bl true:=q
        subst q'
        obtain rfl:u=Value.bool true:=r'
        have old:∀ b o,s₁.heap.get? b=some o→asItWas s₁.heap s'.heap b o:=fun b o e=>by
          rcases hO b with z | ⟨ob,xs,z⟩ | ⟨hbt,z⟩
          · exact .inl (un.keep b o e z (by intro z;exact absurd (show b∈([]:List Addr) from z) (by simp)) (by simp))
          · have z2:=un.frzs b ob _ z
            obtain ⟨e1,_⟩:=hok b _ z
            obtain ⟨e2,_⟩:=hok' b _ z2
            rw [e] at e1;cases e1
            exact .inl e2
          · obtain ⟨more,z2⟩:=un.tbls b #[] z
            have e2:s'.heap.get? b=some { cls:=.none,data:=.fields (#[]++more) }:=hok' b _ z2
            have e3:=hts b hbt
            rw [e] at e3;cases e3
            exact .inr (.inl ⟨htc b hbt,rfl,#[],more,rfl,e2⟩)
        refine ⟨rfl,⟨old,fun b o e=>?_⟩,os,bare⟩
        exact un.there b o e (by simp)
  have tb:∀ b,(if b∈ts then some (HO.tbl #[]) else none)=none∨b∈ts:=fun b=>by
    by_cases h:b∈ts
    · exact .inr h
    · exact .inl (if_neg h)
  cases hk:K.lookup a with
  | some o =>
    have e:=KX a o hk
    rw [ha] at e
    cases e
    refine core (fun b=>if b∈ts then some (.tbl #[]) else none) (fun b=>?_) (fun P hP=>if_pos hP) (.inr ⟨_,vs.toArray,_,hk,rfl,rfl,rfl,by rw [List.size_toArray,lenV];exact hl,by simpa using rv⟩) (fun b u z=>?_) (fun b z=>?_) (fun z=>absurd (if_neg haT) z)
    · by_cases h:b∈ts
      · exact .inr (.inr ⟨h,if_pos h⟩)
      · exact .inl (if_neg h)
    · by_cases h:b∈ts
      · have z':=(if_pos h).symm.trans z
        cases z'
        exact hts b h
      · have z':=(if_neg h).symm.trans z
        cases z'
    · by_cases h:b∈ts
      · exact .inr h
      · exact absurd (if_neg h) z
  | none =>
    refine core (fun b=>if b=a then some (.frz { cls:=.type "list",data:=.seq vs.toArray } (.lst (ns.map V.int))) else if b∈ts then some (.tbl #[]) else none) (fun b=>?_) (fun P hP=>?_) (.inl (.inr ⟨{ cls:=.type "list",data:=.seq vs.toArray },if_pos rfl⟩)) (fun b u z=>?_) (fun b z=>?_) fun _=>hk
    · by_cases hb:b=a
      · exact .inr (.inl ⟨_,_,if_pos hb⟩)
      · by_cases h:b∈ts
        · exact .inr (.inr ⟨h,(if_neg hb).trans (if_pos h)⟩)
        · exact .inl ((if_neg hb).trans (if_neg h))
    · have hb:P≠a:=fun z=>haT (z ▸ hP)
      exact (if_neg hb).trans (if_pos hP)
    · by_cases hb:b=a
      · have z':=(if_pos hb).symm.trans z
        cases z'
        subst hb
        exact ⟨ha,by rw [List.length_map];exact hl,vs,_,rv,ha⟩
      · have z1:=(if_neg hb).symm.trans z
        by_cases h:b∈ts
        · have z':=(if_pos h).symm.trans z1
          cases z'
          exact hts b h
        · have z':=(if_neg h).symm.trans z1
          cases z'
    · by_cases hb:b=a
      · exact .inl hb
      · by_cases h:b∈ts
        · exact .inr h
        · exact absurd ((if_neg hb).trans (if_neg h)) z
theorem vC {l:PySem.W.OpenLaw} {n k:Nat} {q:Program} {loose:List Str} {XP:(Str→Option Value)→Heap→Prop} {YP:World→Heap→Prop} {d:DefRec} {K:Params→PySem.W.Frag} {CX:World→CXT} {sp:World→Sp} {x:Str} {ts:List Addr}
    (hn:l.most=some n) (hn2:n≤sizeLine) (hdf:d.params.defaults=[]) (hr:j9 k callerA)
    (hY:∀ (w:World) (h:Heap),YP w h→(K w.params).In h) (hYt:∀ (w:World) (h:Heap),YP w h→∀ P∈ts,h.get? P=some (tabObj #[]))
    (hts:∀ (w:World),∀ P∈ts,(K w.params).lookup P=none∧∃ c,codeHdIn (K w.params) c P=true)
    (F:∀ (w:World) (mg:Str→Option Value) (fa:Addr) (h:Heap),(K w.params).In h→h.Ns mainGlobals mg→mg d.name=some (.ref fa) →
      ∃ fd:FuncData,(∀ (s:Shared) (u:Value),BindsTo s fd ⟨[u],[]⟩ [(x,u)]) ∧
        ∀ base:Heap,(K w.params).In base→base.Ns mainGlobals mg→BM mg base→cR l.prog w (K w.params) mg base (CX w) k fa fd [x] (sp w))
    (hsp:∀ (w:World) (H:Hp) (a:Addr) (ns:List Int),ns.length≤n→Bq ts H→(∀ P∈ts,H P=some (.tbl #[]))→SqL (K w.params) H a (ns.map V.int)→sp w [.ref a] H (fun v _=>v=.bl true) fun _ _ _=>False)
    (hCX:∀ (w:World) (H:Hp) (s:Shared) (e:Value) (s':Shared),CX w [] H s (fun _ _ _=>False) e s'→False) :
    PySem.W.WalkO q loose XP YP l.row.toRowW d [] (fun f vs=>PySem.call f vs):=by
  refine Att.pH hn hdf fun w s₀ s₁ mg mb fa o pm cd doc a vs ns G Y ho hd hcd hmg hobj hints hlen hg=>?_
  have KX:=hY w _ Y
  obtain ⟨fd,hb,hF⟩:=F w mg fa _ KX G.T.g hmg
  refine uy KX G.T.g G.T.b G.T.builtins G.T.nolimit hg hobj hints (Nat.le_trans hlen hn2) hr (hYt w _ Y) (fun P hP=>(hts w P hP).1) (fun P hP=>?_) G.T.bmain hF hb (fun H hO hT hS=>hsp w H a ns hlen hO hT hS) fun H e s'=>hCX w H s₁ e s'
  obtain ⟨c,hc⟩:=(hts w P hP).2
  obtain ⟨o,vs,file,tf,flags,tg,inF,text,tt,e1,e2,e3,e4,_⟩:=codeHd_of_K KX hc
  exact ⟨c,o,vs,e1,e2,e3,e4⟩
end L2
namespace L2
open PySem PySem.Spec PyProof.Rows
mutual
inductive Den (K:PySem.W.Frag) (H:Hp):V→PyData→Prop
  | non:Den K H .non .none
  | bl (b:Bool):Den K H (.bl b) (.bool b)
  | int (i:Int):Den K H (.int i) (.int i)
  | str (x:Str):Den K H (.str x) (.str x)
  | list {a:Addr} {xs:List V} {ds:List PyData}:SqL K H a xs→eF K H xs ds→Den K H (.ref a) (.list ds)
  | tuple {a:Addr} {xs:List V} {ds:List PyData}:SqT K H a xs→eF K H xs ds→Den K H (.ref a) (.tuple ds)
inductive eF (K:PySem.W.Frag) (H:Hp):List V→List PyData→Prop
  | nil:eF K H [] []
  | cons {v:V} {vs:List V} {d:PyData} {ds:List PyData}:Den K H v d→eF K H vs ds→eF K H (v :: vs) (d :: ds)
end
theorem eF.length {K:PySem.W.Frag} {H:Hp}:∀ {vs:List V} {ds:List PyData},eF K H vs ds→vs.length=ds.length
  | _,_,.nil=>rfl
  | _,_,.cons _ hs=>by rw [List.length_cons,List.length_cons,eF.length hs]
theorem eF.append {K:PySem.W.Frag} {H:Hp}:∀ {vs ws:List V} {ds es:List PyData},eF K H vs ds→eF K H ws es→eF K H (vs++ws) (ds++es)
  | _,_,_,_,.nil,h=>h
  | _,_,_,_,.cons h hs,h'=>.cons h (eF.append hs h')
theorem eF.get' {K:PySem.W.Frag} {H:Hp}:∀ {vs:List V} {ds:List PyData} {i:Nat} {v:V},eF K H vs ds→vs[i]?=some v→∃ d,ds[i]?=some d∧Den K H v d
  | _,_,_,_,.nil,e=>by simp at e
  | _,_,0,_,.cons h _,e=>by simp at e;subst e;exact ⟨_,rfl,h⟩
  | _,_,i + 1,v,.cons _ hs,e=>by
    obtain ⟨d,h1,h2⟩:=eF.get' (i:=i) (v:=v) hs (by simpa using e)
    exact ⟨d,by simpa using h1,h2⟩
theorem eF.ints {K:PySem.W.Frag} {H:Hp}:∀ (ns:List Int),eF K H (ns.map V.int) (ns.map PyData.int)
  | []=>.nil
  | n :: ns=>.cons (.int n) (eF.ints ns)
def je (ns:List Int):PyData:=.list (ns.map PyData.int)
theorem Den.ints {K:PySem.W.Frag} {H:Hp} {a:Addr} {ns:List Int} (h:SqL K H a (ns.map V.int)):Den K H (.ref a) (je ns):=.list h (eF.ints ns)
theorem eF.int_inv {K:PySem.W.Frag} {H:Hp}:∀ {vs:List V} {ns:List Int},eF K H vs (ns.map PyData.int)→vs=ns.map V.int
  | _,[],.nil=>rfl
  | _,n :: ns,.cons h hs=>by
    cases h
    rw [eF.int_inv hs];rfl
section
variable {X:Cx} {pins:List (Addr × Obj)} {σ:St} {H:Hp} {s:Shared}
mutual
theorem Den.reads (I:Inv X pins σ H s):∀ {v:V} {d:PyData} {u:Value},Den X.K H v d→RelV v u→∃ as,Reads s.heap u d as
  | _,_,_,.non,r=>by cases r;exact ⟨_,.none⟩
  | _,_,_,.bl b,r=>by cases r;exact ⟨_,.bool b⟩
  | _,_,_,.int i,r=>by obtain ⟨t,rfl⟩:=r;exact ⟨_,.int i t⟩
  | _,_,_,.str x,r=>by obtain ⟨t,rfl⟩:=r;exact ⟨_,.str x t⟩
  | _,_,_,.list h hs,r=>by
    cases r
    obtain ⟨its,r1,⟨o,n,e,c,_,d⟩,_⟩:=I.list h
    obtain ⟨as,q⟩:=eF.reads I hs r1
    exact ⟨_,.list e c d (by simpa using q)⟩
  | _,_,_,.tuple h hs,r=>by
    cases r
    obtain ⟨its,r1,⟨o,e,c,n,d⟩,_⟩:=I.tuple h
    obtain ⟨as,q⟩:=eF.reads I hs r1
    exact ⟨_,.tuple e c d (by simpa using q)⟩
theorem eF.reads (I:Inv X pins σ H s):∀ {vs:List V} {ds:List PyData} {us:List Value},eF X.K H vs ds→Vals vs us→∃ as,ReadsAll s.heap us ds as
  | _,_,_,.nil,r=>by cases r;exact ⟨_,.nil⟩
  | _,_,_,.cons h hs,r=>by
    cases r with
    | cons r1 r2 =>
      obtain ⟨as,q⟩:=Den.reads I h r1
      obtain ⟨bs,q'⟩:=eF.reads I hs r2
      exact ⟨_,.cons q q'⟩
end
def Jo (K:PySem.W.Frag) (neg:Bool):R2:=fun x y H Q=>∃ d e,Den K H x d∧Den K H y e∧SeqAt.shaped d=true∧SeqAt.shaped e=true∧Q (.bl (if neg then !PyData.eqv d e else PyData.eqv d e)) H
theorem BW (hu:X.A.units + 64<cLine):OpR X (compareOp .Eq) (Jo X.K false):=by
  intro pins s σ H x y v u Q I rx ry h
  obtain ⟨d,e,hd,he,sd,se,q⟩:=h
  obtain ⟨as,ra⟩:=hd.reads I rx
  obtain ⟨bs,rb⟩:=he.reads I ry
  exact SeqAt.compareEq_shaped ra rb sd se hu ⟨.bl _,H,I,rfl,q⟩
theorem xP (hu:X.A.units + 64<cLine):OpR X (compareOp .NotEq) (Jo X.K true):=by
  intro pins s σ H x y v u Q I rx ry h
  obtain ⟨d,e,hd,he,sd,se,q⟩:=h
  obtain ⟨as,ra⟩:=hd.reads I rx
  obtain ⟨bs,rb⟩:=he.reads I ry
  exact SeqAt.compareNe_shaped ra rb sd se hu ⟨.bl _,H,I,rfl,q⟩
end
def Sh (n:Nat) (d:PyData):Prop:=d.canLay0=true∧d.depth≤n
theorem uY:∀ {ds:List PyData},(∀ d∈ds,d.canLay0=true)→PyData.canLayAll0 ds=true
  | [],_=>rfl
  | d :: ds,h=>by rw [PyData.canLayAll0,h d List.mem_cons_self,uY fun x hx=>h x (List.mem_cons_of_mem _ hx)];rfl
theorem uN {n:Nat}:∀ {ds:List PyData},(∀ d∈ds,d.depth≤n)→PyData.depthAll ds≤n
  | [],_=>by simp [PyData.depthAll]
  | d :: ds,h=>by
    have h1:=h d List.mem_cons_self
    have h2:=uN fun x hx=>h x (List.mem_cons_of_mem _ hx)
    simp only [PyData.depthAll]
    omega
theorem Sh.int (n:Nat) (i:Int):Sh n (.int i):=⟨rfl,by simp [PyData.depth]⟩
theorem Sh.list {n:Nat} {ds:List PyData} (h:∀ d∈ds,Sh n d):Sh (n + 1) (.list ds):=⟨by rw [PyData.canLay0];exact uY fun d hd=>(h d hd).1,by
  have:=uN fun d hd=>(h d hd).2
  simp only [PyData.depth];omega⟩
theorem Sh.tuple {n:Nat} {ds:List PyData} (h:∀ d∈ds,Sh n d):Sh (n + 1) (.tuple ds):=⟨by rw [PyData.canLay0];exact uY fun d hd=>(h d hd).1,by
  have:=uN fun d hd=>(h d hd).2
  simp only [PyData.depth];omega⟩
theorem Sh.ints (n:Nat) (ns:List Int):Sh (n + 1) (je ns):=.list fun d hd=>by
  obtain ⟨i,_,rfl⟩:=List.mem_map.mp hd
  exact .int n i
theorem Sh.ok {n:Nat} {d:PyData} (h:Sh n d) (hn:n≤64):SeqAt.shaped d=true:=by
  unfold SeqAt.shaped
  rw [h.1,decide_eq_true (by have:=h.2;omega)];rfl
theorem wN {n:Nat} {d:PyData} (h:Sh n d):PyData.eqv d d=true:=SeqAt.eqv_refl d h.1
abbrev eH:=List (Addr × Pos × Str)
def TabsOk (T:eH) (H:Hp):Prop:=∀ t∈T,TabOk t.1 t.2.1 t.2.2 H
structure bI (T:eH) (H H':Hp):Prop where
  t0:TabsOk T H
  t1:TabsOk T H'
  keep:∀ b o,H b=some o→(∀ ps,o≠.tbl ps)→H' b=some o
  tb:∀ b ps,H b=some (.tbl ps)→∃ ps',H' b=some (.tbl ps')
theorem TabsOk.mono {T:eH} {H H':Hp} (t:TabsOk T H) (s:Same H H'):TabsOk T H':=fun q hq=>by
  rcases t q hq with e | ⟨c,e1,e2⟩
  · exact .inl (s _ _ e)
  · exact .inr ⟨c,s _ _ e1,s _ _ e2⟩
theorem bI.refl {T:eH} {H:Hp} (t:TabsOk T H):bI T H H:=⟨t,t,fun _ _ h _=>h,fun _ ps h=>⟨ps,h⟩⟩
theorem bI.of {T:eH} {H H':Hp} (t:TabsOk T H) (s:Same H H'):bI T H H':=⟨t,t.mono s,fun b o h _=>s b o h,fun b ps h=>⟨ps,s _ _ h⟩⟩
theorem bI.trans {T:eH} {H H1 H2:Hp} (a:bI T H H1) (b:bI T H1 H2):bI T H H2:=⟨a.t0,b.t1,fun c o h n=>b.keep c o (a.keep c o h n) n,fun c ps h=>by
  obtain ⟨ps',e⟩:=a.tb c ps h
  exact b.tb c ps' e⟩
theorem bI.free {T:eH} {H H':Hp} (a:bI T H H') {l:Addr} (h:H' l=none):H l=none:=by
  cases q:H l with
  | none=>rfl
  | some o =>
    have key:(∃ ps,o=.tbl ps)∨∀ ps,o≠.tbl ps:=by
      cases o with
      | tbl ps=>exact .inl ⟨ps,rfl⟩
      | _=>exact .inr fun _ z=>by cases z
    rcases key with ⟨ps,rfl⟩ | n
    · obtain ⟨ps',e⟩:=a.tb l ps q
      rw [h] at e;cases e
    · have:=a.keep l o q n
      rw [h] at this;cases this
theorem bI.seq {T:eH} {K:PySem.W.Frag} {H H':Hp} {a:Addr} {xs:List V} (e:bI T H H') (h:SqL K H a xs):SqL K H' a xs:=by
  rcases h with (h | ⟨o,h⟩) | h
  · exact .inl (.inl (e.keep _ _ h fun _ z=>by cases z))
  · exact .inl (.inr ⟨o,e.keep _ _ h fun _ z=>by cases z⟩)
  · exact .inr h
theorem bI.Ji {T:eH} {K:PySem.W.Frag} {H H':Hp} {a:Addr} {xs:List V} (e:bI T H H') (h:SqT K H a xs):SqT K H' a xs:=by
  rcases h with (h | ⟨o,h⟩) | h
  · exact .inl (.inl (e.keep _ _ h fun _ z=>by cases z))
  · exact .inl (.inr ⟨o,e.keep _ _ h fun _ z=>by cases z⟩)
  · exact .inr h
mutual
theorem Den.pq {T:eH} {K:PySem.W.Frag} {H H':Hp} (e:bI T H H'):∀ {v:V} {d:PyData},Den K H v d→Den K H' v d
  | _,_,.non=>.non
  | _,_,.bl b=>.bl b
  | _,_,.int i=>.int i
  | _,_,.str x=>.str x
  | _,_,.list h hs=>.list (e.seq h) (eF.pq e hs)
  | _,_,.tuple h hs=>.tuple (e.Ji h) (eF.pq e hs)
theorem eF.pq {T:eH} {K:PySem.W.Frag} {H H':Hp} (e:bI T H H'):∀ {vs:List V} {ds:List PyData},eF K H vs ds→eF K H' vs ds
  | _,_,.nil=>.nil
  | _,_,.cons h hs=>.cons (Den.pq e h) (eF.pq e hs)
end
def iQ (T:eH) (H:Hp) (P:List V→Prop) (Q:VK):Prop:=∀ (l:Addr) (H':Hp) (xs:List V),bI T H H'→H l=none→H' l=some (.lst xs)→P xs→Q (.ref l) H'
def fJ:HO→Bool
  | .tbl _=>false
  | .ext _=>false
  | _=>true
structure Ow (T:eH) (H0 H:Hp) (L:List (Addr × HO)):Prop where
  same:bI T H0 H
  new:∀ p∈L,H0 p.1=none
  at_:∀ p∈L,H p.1=some p.2
  pl:∀ p∈L,fJ p.2=true
  nd:(L.map (·.1)).Nodup
section
variable {T:eH} {H0 H1 H H':Hp} {L L':List (Addr × HO)} {a l:Addr} {o o':HO} {xs:List V}
theorem Ow.refl (t:TabsOk T H):Ow T H H []:=⟨bI.refl t,(fun p hp=>nomatch hp),(fun p hp=>nomatch hp),(fun p hp=>nomatch hp),List.nodup_nil⟩
theorem Ow.get (O:Ow T H0 H L) (k:Nat) (h:L[k]?=some (a,o):=by rfl):H a=some o:=O.at_ _ (List.mem_of_getElem? h)
theorem Ow.fr (O:Ow T H0 H L) (k:Nat) (h:L[k]?=some (a,o):=by rfl):H0 a=none:=O.new _ (List.mem_of_getElem? h)
theorem Ow.sq {K:PySem.W.Frag} (O:Ow T H0 H L) (k:Nat) (h:L[k]?=some (a,.lst xs):=by rfl):SqL K H a xs:=SqL.of (O.get k h)
theorem Ow.sqT {K:PySem.W.Frag} (O:Ow T H0 H L) (k:Nat) (h:L[k]?=some (a,.tup xs):=by rfl):SqT K H a xs:=SqT.of (O.get k h)
theorem TabOk.upd {P:Addr} {pos:Pos} {q:Str} (t:TabOk P pos q H) (h:H a=none∨∃ o,H a=some o∧fJ o=true):TabOk P pos q (L2.upd H a o'):=by
  have ne:∀ b u,H b=some u→fJ u=false→b≠a:=fun b u e p z=>by
    subst z
    rcases h with h | ⟨o,h,ho⟩
    · rw [h] at e;cases e
    · rw [h] at e;cases e;rw [ho] at p;cases p
  rcases t with e | ⟨c,e1,e2⟩
  · exact .inl (by rw [aL (ne _ _ e rfl)];exact e)
  · exact .inr ⟨c,by rw [aL (ne _ _ e1 rfl)];exact e1,by rw [aL (ne _ _ e2 rfl)];exact e2⟩
theorem bI.upd (s:bI T H0 H) (h:H0 a=none) (h':H a=none∨∃ o,H a=some o∧fJ o=true):bI T H0 (L2.upd H a o') :=
  ⟨s.t0,fun t ht=>(s.t1 t ht).upd h',fun b u e n=>by rw [aL (aY e h)];exact s.keep b u e n,fun b ps e=>by rw [aL (aY e h)];exact s.tb b ps e⟩
theorem Ow.mk' (O:Ow T H0 H L) (h:H a=none) (ho:fJ o=true):Ow T H0 (upd H a o) ((a,o) :: L):=by
  have ne:∀ p∈L,p.1≠a:=fun p hp=>aY (O.at_ p hp) h
  have n0:H0 a=none:=O.same.free h
  refine ⟨O.same.upd n0 (.inl h),fun p hp=>?_,fun p hp=>?_,fun p hp=>?_,?_⟩
  · rcases List.mem_cons.mp hp with e | e
    · rw [e];exact n0
    · exact O.new p e
  · rcases List.mem_cons.mp hp with e | e
    · rw [e];exact bh
    · rw [aL (ne p e)];exact O.at_ p e
  · rcases List.mem_cons.mp hp with e | e
    · rw [e];exact ho
    · exact O.pl p e
  · rw [List.map_cons,List.nodup_cons]
    refine ⟨fun hm=>?_,O.nd⟩
    obtain ⟨p,hp,e⟩:=List.mem_map.mp hm
    exact ne p hp e
theorem sZ:∀ {L:List (Addr × HO)} {k:Nat} {a:Addr} {o o':HO},L[k]?=some (a,o)→(L.set k (a,o')).map (·.1)=L.map (·.1)
  | [],_,_,_,_,h=>by simp at h
  | p :: L,0,a,o,o',h=>by
    have:p=(a,o):=by simpa using h
    rw [this];rfl
  | p :: L,k + 1,a,o,o',h=>by
    rw [List.set_cons_succ,List.map_cons,List.map_cons,sZ (L:=L) (k:=k) (o:=o) (by simpa using h)]
theorem Ow.Jp (O:Ow T H0 H L) (k:Nat) (h:L[k]?=some (a,o)) (ho:fJ o'=true):Ow T H0 (upd H a o') (L.set k (a,o')):=by
  have hm0:=List.mem_of_getElem? h
  have n0:H0 a=none:=O.new _ hm0
  have hk:k<L.length:=(List.getElem?_eq_some_iff.mp h).1
  refine ⟨O.same.upd n0 (.inr ⟨o,O.at_ _ hm0,O.pl _ hm0⟩),fun p hp=>?_,fun p hp=>?_,fun p hp=>?_,by rw [sZ h];exact O.nd⟩
  · rcases List.mem_or_eq_of_mem_set hp with e | e
    · exact O.new p e
    · rw [e];exact n0
  · obtain ⟨j,hj,e⟩:=List.getElem_of_mem hp
    by_cases hjk:j=k
    · subst hjk
      rw [List.getElem_set_self] at e
      rw [← e];exact bh
    · rw [List.getElem_set_ne (Ne.symm hjk)] at e
      have hj':j<L.length:=by rw [List.length_set] at hj;exact hj
      have hm:p∈L:=by rw [← e];exact List.getElem_mem hj'
      rw [aL]
      · exact O.at_ p hm
      · intro z
        have e1:(L.map (·.1))[j]?=some p.1:=by rw [List.getElem?_map,List.getElem?_eq_getElem hj',e];rfl
        have e2:(L.map (·.1))[k]?=some a:=by rw [List.getElem?_map,h];rfl
        rw [z] at e1
        obtain ⟨a1,a2⟩:=List.getElem?_eq_some_iff.mp e1
        obtain ⟨b1,b2⟩:=List.getElem?_eq_some_iff.mp e2
        exact hjk ((List.getElem_inj O.nd).mp (a2.trans b2.symm))
  · rcases List.mem_or_eq_of_mem_set hp with e | e
    · exact O.pl p e
    · rw [e];exact ho
theorem tR {o:HO} (h:fJ o=true):∀ ps,o≠.tbl ps:=fun ps z=>by rw [z] at h;cases h
theorem Ow.rJ (O:Ow T H0 H L) (s:bI T H H'):Ow T H0 H' L:=⟨O.same.trans s,O.new,fun p hp=>s.keep _ _ (O.at_ p hp) (tR (O.pl p hp)),O.pl,O.nd⟩
theorem Ow.Cq (O:Ow T H0 H L) (s:bI T H H') (n:H l=none) (h:H' l=some o) (ho:fJ o=true):Ow T H0 H' ((l,o) :: L):=by
  have O2:=O.rJ s
  refine ⟨O2.same,fun p hp=>?_,fun p hp=>?_,fun p hp=>?_,?_⟩
  · rcases List.mem_cons.mp hp with e | e
    · rw [e];exact O.same.free n
    · exact O.new p e
  · rcases List.mem_cons.mp hp with e | e
    · rw [e];exact h
    · exact O2.at_ p e
  · rcases List.mem_cons.mp hp with e | e
    · rw [e];exact ho
    · exact O.pl p e
  · rw [List.map_cons,List.nodup_cons]
    refine ⟨fun hm=>?_,O.nd⟩
    obtain ⟨p,hp,e⟩:=List.mem_map.mp hm
    exact aY (O.at_ p hp) n e
theorem Ow.more (O:Ow T H0 H L) (s:Same H H') (n:H l=none) (h:H' l=some o) (ho:fJ o=true):Ow T H0 H' ((l,o) :: L):=O.Cq (bI.of O.same.t1 s) n h ho
theorem Ow.sub (O:Ow T H0 H L) (h:L'.Sublist L):Ow T H0 H L':=⟨O.same,fun p hp=>O.new p (h.subset hp),fun p hp=>O.at_ p (h.subset hp),fun p hp=>O.pl p (h.subset hp),O.nd.sublist (h.map _)⟩
theorem Ow.perm (O:Ow T H0 H L) (h:L'.Perm L):Ow T H0 H L':=⟨O.same,fun p hp=>O.new p (h.mem_iff.mp hp),fun p hp=>O.at_ p (h.mem_iff.mp hp),fun p hp=>O.pl p (h.mem_iff.mp hp),(h.map _).nodup_iff.mpr O.nd⟩
theorem Ow.tail {p:Addr × HO} (O:Ow T H0 H (p :: L)):Ow T H0 H L:=O.sub (List.sublist_cons_self _ _)
theorem Ow.two {p q:Addr × HO} (O:Ow T H0 H (p :: q :: L)):Ow T H0 H (p :: L):=O.sub ((List.sublist_cons_self _ _).cons₂ _)
theorem Ow.reb (O:Ow T H0 H L):∃ H1,Ow T H1 H L∧bI T H0 H1∧∀ b o,H b=some o→(∀ p∈L,p.1≠b)→H1 b=some o:=by
  have keep:∀ b u,H b=some u→(∀ p∈L,p.1≠b)→(fun b=>if b∈L.map (·.1) then none else H b:Hp) b=some u:=fun b u e h=>by
    show (if b∈L.map (·.1) then none else H b)=some u
    rw [if_neg fun hm=>?_];· exact e
    obtain ⟨p,hp,z⟩:=List.mem_map.mp hm
    exact h p hp z
  have back:∀ b u,(fun b=>if b∈L.map (·.1) then none else H b:Hp) b=some u→H b=some u:=fun b u e=>by
    dsimp only at e
    split at e
    · cases e
    · exact e
  have npl:∀ b u,H b=some u→fJ u=false→∀ p∈L,p.1≠b:=fun b u e h p hp z=>by
    have:=O.at_ p hp
    rw [z,e] at this
    have e':u=p.2:=Option.some.inj this
    rw [e',O.pl p hp] at h;cases h
  have tk:TabsOk T (fun b=>if b∈L.map (·.1) then none else H b):=fun t ht=>by
    rcases O.same.t1 t ht with e | ⟨c,e1,e2⟩
    · exact .inl (keep _ _ e (npl _ _ e rfl))
    · exact .inr ⟨c,keep _ _ e1 (npl _ _ e1 rfl),keep _ _ e2 (npl _ _ e2 rfl)⟩
  refine ⟨fun b=>if b∈L.map (·.1) then none else H b,⟨⟨tk,O.same.t1,fun b u e _=>back b u e,fun b ps e=>⟨ps,back _ _ e⟩⟩,fun p hp=>?_,O.at_,O.pl,O.nd⟩,⟨O.same.t0,tk,fun b u e n=>?_,fun b ps e=>?_⟩,keep⟩
  · exact if_pos (List.mem_map.mpr ⟨p,hp,rfl⟩)
  · refine keep b u (O.same.keep b u e n) fun p hp z=>?_
    rw [← z,O.new p hp] at e;cases e
  · obtain ⟨ps',e'⟩:=O.same.tb b ps e
    exact ⟨ps',keep _ _ e' (npl _ _ e' rfl)⟩
theorem nC {i:Int} {j:Nat} {v:V} {Q:Hp→Prop} (O:Ow T H0 H L) (k:Nat) (h:L[k]?=some (l,.lst xs)) (hi:ixN xs.length i=some j) (q:∀ H',Ow T H0 H' (L.set k (l,.lst (xs.set j v)))→Q H'):Bx (.ref l) (.int i) v H Q :=
  ⟨l,xs,i,j,rfl,rfl,O.get k h,hi,q _ (O.Jp k h rfl)⟩
theorem Ow.ret {P:List V→Prop} {Q:VK} (O:Ow T H0 H L) (k:Nat) (h:L[k]?=some (l,.lst xs)) (q:iQ T H0 P Q) (p:P xs):Q (.ref l) H:=q l H xs O.same (O.fr k h) (O.get k h) p
theorem Ow.got {P:List V→Prop} {Q:VK} (O:Ow T H0 H L) (k:∀ l H' xs,Ow T H0 H' ((l,.lst xs) :: L)→P xs→Q (.ref l) H'):Gh H P Q:=fun l H' xs s n h p=>k l H' xs (O.more s n h rfl) p
theorem Ow.mC {P:List V→Prop} {Q:VK} (O:Ow T H0 H L) (k:∀ l H' xs,Ow T H0 H' ((l,.lst xs) :: L)→P xs→Q (.ref l) H'):iQ T H P Q:=fun l H' xs s n h p=>k l H' xs (O.Cq s n h rfl) p
end
end L2
namespace L2
open PySem PySem.W PySem.Spec PyProof.Rows
theorem szl {n:Nat} (h:Nat.ble n 100000=true:=by rfl):n≤sizeLine:=gB (Nat.le_of_ble_eq_true h)
theorem jX (p:Int) (ns:List Int):inV (.int p) (ns.map V.int)=decide (p∈ns):=by
  unfold inV
  rw [List.any_map,Bool.eq_iff_iff]
  simp only [List.any_eq_true,decide_eq_true_eq]
  constructor
  · rintro ⟨x,hx,e⟩
    have e':(x == p)=true:=e
    have:x=p:=by simpa using e'
    rw [← this];exact hx
  · intro h
    exact ⟨p,h,show (p == p)=true by simp⟩
theorem gn (ns:List Int):(ns.map V.int).all mG=true:=by
  rw [List.all_map,List.all_eq_true];intro _ _;rfl
theorem Fun.okC {P:Program} {w:World} {K:PySem.W.Frag} {mg:Str→Option Value} {base:Heap} {x qual:Str} {st:Stmt} {f:Addr} {fd:FuncData} {N ps:List Str} {k:Nat} {sp:Sp} {c:Value} (F:Fun K x qual st f fd) (hc:fd.code=c) (S:aU N ps (ao st)) (len:∀ vs H Q E,sp vs H Q E→vs.length=ps.length)
    (hbody:∀ (A:Around) (outer:List Env) (s:Shared) (H:Hp) (vs:List V) (Q:VK) (E:XK),j9 k (A.deeper (envOfC qual (ao st) s.heap.objs.size f c))→sp vs H Q E →
      ∃ t,PSs (Bj CX0 P w K mg base N qual (ao st) f c A outer s H E).nox (aB st) t∧t { nx:=fun _ H'=>Q .non H',rt:=Q } (start N vs) H):cR P w K mg base CX0 (k + 1) f fd ps sp:=by
  obtain ⟨oc,od,kV,doc,pm,an,cdv,ct,osl,rfl,lk,hcd⟩:=F.ex
  have e:cdv=c:=hc
  subst e
  refine Ga lk hcd S len fun A outer s H vs Q E hr hsp=>?_
  obtain ⟨t,h,q⟩:=hbody A outer s H vs Q E hr hsp
  exact ⟨t,h.nox,q⟩
theorem wB {k:Nat} {A XA:Around} {env:Env} (r:j9 (k + 2) XA) (hh:A.handled=none) (hd:A.depth≤XA.depth + 2) (hu:A.units≤XA.units + 2):j9 k (A.deeper env) :=
  ⟨hh,by have:=r.dp;show A.depth + 1 + 3 * k + 5<_;omega,by have:=r.un;show A.units + 3 + 16 * k + 200<_;omega⟩
theorem wD {A:Around} (r:j9 1 A):A.depth + 4<recursionLimit:=by have:=r.dp;omega
theorem bI.tab {T:eH} {H H2:Hp} {P:Addr} {pos:Pos} {q:Str} (t:TabsOk T H) (hm:(P,pos,q)∈T) (nd:(T.map (·.1)).Nodup) (k1:∀ b o,H b=some o→b≠P→H2 b=some o) (t2:TabOk P pos q H2):bI T H H2:=by
  have hP:∃ ps,H P=some (.tbl ps):=by
    rcases t _ hm with e | ⟨c,e,_⟩
    · exact ⟨_,e⟩
    · exact ⟨_,e⟩
  obtain ⟨ps0,hP⟩:=hP
  have hP2:∃ ps,H2 P=some (.tbl ps):=by
    rcases t2 with e | ⟨c,e,_⟩
    · exact ⟨_,e⟩
    · exact ⟨_,e⟩
  refine ⟨t,fun u hu=>?_,fun b o e n=>k1 b o e fun z=>?_,fun b ps e=>?_⟩
  · by_cases hb:u.1=P
    · have:u=(P,pos,q):=by
        obtain ⟨i,hi,ei⟩:=List.getElem_of_mem hu
        obtain ⟨j,hj,ej⟩:=List.getElem_of_mem hm
        have e1:(T.map (·.1))[i]?=some P:=by rw [List.getElem?_map,List.getElem?_eq_getElem hi,ei,← hb];rfl
        have e2:(T.map (·.1))[j]?=some P:=by rw [List.getElem?_map,List.getElem?_eq_getElem hj,ej];rfl
        obtain ⟨a1,a2⟩:=List.getElem?_eq_some_iff.mp e1
        obtain ⟨b1,b2⟩:=List.getElem?_eq_some_iff.mp e2
        have hij:i=j:=(List.getElem_inj nd).mp (a2.trans b2.symm)
        subst hij
        rw [← ei,← ej]
      rw [this];exact t2
    · rcases t u hu with e | ⟨c,e1,e2⟩
      · exact .inl (k1 _ _ e hb)
      · exact .inr ⟨c,k1 _ _ e1 hb,k1 _ _ e2 fun z=>by rw [z,hP] at e2;cases e2⟩
  · subst z
    rw [hP] at e;cases e
    exact n ps0 rfl
  · by_cases hb:b=P
    · rw [hb];exact hP2
    · exact ⟨ps,k1 _ _ e hb⟩
section
variable {X:Cx}
theorem jZ:∀ ns ms:List Int,PyData.eqvAll (ns.map PyData.int) (ms.map PyData.int)=decide (ns=ms)
  | [],[]=>by simp [PyData.eqvAll]
  | [],_ :: _=>by simp [PyData.eqvAll]
  | _ :: _,[]=>by simp [PyData.eqvAll]
  | n :: ns,m :: ms=>by
    rw [List.map_cons,List.map_cons,PyData.eqvAll,jZ ns ms]
    have e:PyData.eqv (.int n) (.int m)=decide (n=m):=by
      rw [PyData.eqv];rfl
    rw [e,Bool.eq_iff_iff]
    simp
theorem qC (ns ms:List Int):PyData.eqv (je ns) (je ms)=decide (ns=ms):=by
  unfold je
  rw [PyData.eqv];exact jZ ns ms
theorem ud (hu:X.A.units + 64<cLine):OpR X (compareOp .Eq) (Jm X.K false):=by
  intro pins s σ H x y v u Q I rx ry h
  obtain ⟨a,b,ns,ms,rfl,rfl,ha,hb,q⟩:=h
  refine BW hu pins s σ H _ _ v u Q I rx ry ⟨_,_,Den.ints ha,Den.ints hb,(Sh.ints 0 ns).ok (by decide),(Sh.ints 0 ms).ok (by decide),?_⟩
  rw [qC];exact q
theorem uc (hu:X.A.units + 64<cLine):OpR X (compareOp .NotEq) (Jm X.K true):=by
  intro pins s σ H x y v u Q I rx ry h
  obtain ⟨a,b,ns,ms,rfl,rfl,ha,hb,q⟩:=h
  refine xP hu pins s σ H _ _ v u Q I rx ry ⟨_,_,Den.ints ha,Den.ints hb,(Sh.ints 0 ns).ok (by decide),(Sh.ints 0 ms).ok (by decide),?_⟩
  rw [qC];exact q
def BJ (K:PySem.W.Frag):V→List V→Hp→VK→Prop:=fun x vs H Q=>∃ (l:Addr) (ns:List Int) (k:Int),x=.ref l∧vs=[.int k]∧SqL K H l (ns.map V.int)∧k∈ns∧Q (.int (ns.idxOf k:Nat)) H
theorem qp:MtR X "list.index" (BJ X.K):=by
  intro pins s σ H x vs v us Q I rx rv h
  obtain ⟨l,ns,k,rfl,rfl,hq,hk,q⟩:=h
  cases rx
  obtain ⟨u,rfl,t,rfl⟩:=vals1 rv
  obtain ⟨its,r1,p1,hz⟩:=I.list hq
  have hi:IntsAre its ns:=intsAre_of r1
  obtain ⟨⟨cls,dd,data,sl⟩,ho,hc,n,hd⟩:=id p1.isList
  simp only at hc hd
  subst hc hd
  have hlen:=hi.length
  have hj:ns.idxOf k<ns.length:=List.idxOf_lt_length_iff.mpr hk
  have hn:=lA
  rw [List.length_map] at hz
  refine call_meets PySem.F.slot_list_index ⟨_,ho,rfl⟩ PySem.F.entry_list_index (PySem.F.args_list_index_2 _ _)
    (SeqAt.list_indexAt l its.toArray n dd sl (.int k t) (isInt k) (ns.idxOf k) (by simpa [hlen] using hj) (by omega) ?_ ?_) ⟨ho,fun y hy=>(eq_isInt k t hi y (by simpa using hy)).at _ _,?_⟩
  · show isInt k its[ns.idxOf k]=true
    rw [isInt_at k hi _ (by omega) hj]
    simpa using List.getElem_idxOf hj
  · intro j hjs hlt
    show isInt k its[j]=false
    rw [isInt_at k hi j (by simpa using hjs) (by omega)]
    exact ne_of_lt_idxOf hlt _
  · exact ⟨.int (ns.idxOf k:Nat),H,I.tok _,⟨_,rfl⟩,q⟩
end
section
variable {T:eH} {H0 H:Hp} {L:List (Addr × HO)} {l:Addr} {xs:List V}
theorem Ow.mkE {a:Addr} {o:HO} {H':Hp} (O:Ow T H0 H L) (h:H a=none) (e:upd H a o=H') (ho:fJ o=true):Ow T H0 H' ((a,o) :: L):=e ▸ O.mk' h ho
theorem Ow.qb {a:Addr} {o o':HO} {H':Hp} (O:Ow T H0 H L) (k:Nat) (h:L[k]?=some (a,o)) (e:upd H a o'=H') (ho:fJ o'=true):Ow T H0 H' (L.set k (a,o')):=e ▸ O.Jp k h ho
end
end L2
namespace L2
open PySem PySem.W PySem.Spec PySem.Calls PyProof.Rows PySem.Builtin PySem.Builtin.ObjectAttr PySem.Builtin.Getset_descriptor
section
variable {prog:Program} {w:World} {A:Around} {E:Value→Shared→Prop} {K:Frag} {e D:Addr} {hh:Heap} {g:Array GenState} {d:Drawn} {t:Nat} {os:OsState}
end
end L2
namespace L2
open PySem PySem.W PySem.Spec PySem.Calls PyProof.Rows
section
variable {P:Program} {w:World} {B h0 h h2:Heap} {fs:List Addr} {H H':Hp}
end
section
variable {X:Cx} {pins:List (Addr × Obj)} {σ:St} {H:Hp} {s:Shared} {E:XK}
end
section
variable {P:Program} {w:World} {K:PySem.W.Frag} {mg:Str→Option Value} {base:Heap} {N:List Str} {qual:Str} {scope:Scope} {f:Addr} {cd:Value} {A:Around} {outer:List Env} {s:Shared} {H:Hp} {E:XK}
end
end L2
namespace L2
open PySem PySem.W PySem.Spec PySem.Calls PyProof.Rows
abbrev bmVE:List Value:=[.type "ValueError",.type "Exception",.type "BaseException",.type "object"]
section
variable {X:Cx} {E:XK} {x:Str} {C:Addr} {np cpos pos:Pos} {e0:Expr} {ta:TA}
end
end L2
namespace L2
open PySem PySem.W PySem.Spec PySem.Calls PyProof.Rows
abbrev TX:=Ends→(St→XK)→St→Hp→Prop
section
variable {X:Cx} {k:Nat} {f:Addr} {fd:FuncData} {ps:List Str} {sp:Sp} {dvs:List V} {ds:List Value} {x:Str} {p pos:Pos} {e:Expr} {es:List Expr} {t:TA}
end
section
variable {X:Cx} {pins:List (Addr × Obj)} {σ:St} {H:Hp} {s:Shared}
end
end L2
namespace L2
open PySem PySem.W PySem.Spec PySem.Calls PyProof.Rows
section
variable {X:Cx} {body suite:List Stmt} {b0:Stmt} {x n:Str} {Ba:Addr} {i:Nat} {tb:TX} {th:TS} {np hpos pos:Pos}
end
end L2
namespace L2
open PySem PySem.Spec PyProof.Rows
section
variable {X:Cx}
theorem Inv.lN {pins:List (Addr × Obj)} {σ:St} {H:Hp} {s:Shared} {h':Heap} {t':Nat} {ch:List Addr} (I:Inv X pins σ H s) (k:∀ b o,b ∉ ch→s.heap.get? b=some o→h'.get? b=some o) (f:∀ b∈ch,oN X pins H b):Inv X pins σ H { s with heap:=h',toks:=t' }:=by
  have nit:∀ b u,H b=some u→b ∉ ch:=fun b u e z=>by rw [(f b z).1] at e;cases e
  refine I.step (g':=s.gens) (d':=s.drawn) (ch:=ch) (fun b hb=>?_) (fun b o _ _ hc e _=>k b o hc e) (fun b o _ _ hc e _=>⟨o.slots,k b o hc e⟩) (fun _ _ _ _ n=>n)
    (fun b o hc e=>⟨o,k b o hc e⟩) (fun _ _ e=>e) (fun _ _ _ e=>e) (fun b ps e=>⟨#[],by rw [e];simp⟩) (fun m hm=>?_) (fun b u e=>?_) I.bare
  · obtain ⟨f0,f1,f2,f3,f4,f5⟩:=f b hb
    exact ⟨f3,f1,f4,f5⟩
  · obtain ⟨o,es,ep,ho,r⟩:=hm
    exact ⟨o,es,ep,k _ o (fun z=>(f _ z).2.1 rfl) ho,r⟩
  · refine (I.hok b u e).stay (fun c v hc q=>k c v ?_ q) (fun _ q=>q) fun _ _ q=>q
    rcases hc with z | z
    · rw [z];exact nit b u e
    · exact nit c _ z
def Itz (K:PySem.W.Frag) (l1 l2:Addr) (xs ys:List V):It :=
  ⟨fun i H=>SqL K H l1 xs∧SqL K H l2 ys∧i<xs.length∧i<ys.length,fun i H x H'=>∃ T a b,x=.ref T∧H T=none∧xs[i]?=some a∧ys[i]?=some b∧H'=upd H T (.tup [a,b]),
   fun i H=>SqL K H l1 xs∧SqL K H l2 ys∧(xs.length≤i∨ys.length≤i)⟩
def IK (z TI TO i1 i2 l1 l2:Addr) (i:Nat) (h:Heap):Prop:=IsZip h z TI TO .none∧IsPair h TI (.ref i1) (.ref i2)∧(∃ a b,IsPair h TO a b)∧h.IsListIter i1 l1 i∧h.IsListIter i2 l2 i
theorem vD {P:Program} {w:World} {K:PySem.W.Frag} {elts:List Expr} {kk:Nat} {tpos:Pos} {z TI TO i1 i2 l1 l2:Addr} {xs ys:List V} (D:ZipApart z TI TO i1 i2 l1 l2) :
    Turn P w K (.Tuple elts kk tpos) (Itz K l1 l2 xs ys) [z,TI,TO,i1,i2] z (IK z TI TO i1 i2 l1 l2) where
  mem:=by simp
  obj:=fun i h st b hb=>by
    obtain ⟨hz,hTI,⟨a,b',hTO⟩,⟨o1,e1,c1,d1⟩,⟨o2,e2,c2,d2⟩⟩:=st
    simp at hb
    rcases hb with rfl | rfl | rfl | rfl | rfl
    · exact ⟨_,hz,fun v z=>by cases (show Data.fields _=Data.cell v from z)⟩
    · exact ⟨_,hTI,fun v z=>by cases (show Data.seq _ _=Data.cell v from z)⟩
    · exact ⟨_,hTO,fun v z=>by cases (show Data.seq _ _=Data.cell v from z)⟩
    · exact ⟨o1,e1,fun v z=>by rw [d1] at z;cases z⟩
    · exact ⟨o2,e2,fun v z=>by rw [d2] at z;cases z⟩
  keep:=fun i h h' st k=>by
    obtain ⟨hz,hTI,⟨a,b,hTO⟩,h1,h2⟩:=st
    exact ⟨k z (by simp) _ hz,k TI (by simp) _ hTI,⟨a,b,k TO (by simp) _ hTO⟩,h1.at fun o e=>k i1 (by simp) o e,h2.at fun o e=>k i2 (by simp) o e⟩
  item:=by
    intro X hP hw hK hc i pins s σ H E I hf st hg
    subst hP hw hK
    obtain ⟨hz,hTI,⟨p,p',hTO⟩,h1,h2⟩:=st
    obtain ⟨hq1,hq2,hi1,hi2⟩:=hg
    obtain ⟨its1,rv1,pl1,hz1⟩:=I.list hq1
    obtain ⟨its2,rv2,pl2,hz2⟩:=I.list hq2
    obtain ⟨u1,hu1,ru1⟩:=rv1.get (List.getElem?_eq_getElem hi1)
    obtain ⟨u2,hu2,ru2⟩:=rv2.get (List.getElem?_eq_getElem hi2)
    refine wpAny_pyNext_zip_item D hz hTI hTO h1 h2 pl1.isList pl2.isList (x:=u1) (y:=u2) (by simpa using hu1) (by simpa using hu2) fun h' a1 a2 a3 a4 a5 a6 hk=>?_
    have lt:∀ {c o},s.heap.get? c=some o→s.heap.objs.size≠c:=fun e=>Nat.ne_of_gt (Heap.lt_size e)
    refine ⟨.ref s.heap.objs.size,rfl,wpAny_letOwnedTupleGo_zip (s:={ s with heap:=h' }) a1 fun h'' hz' hs'=>?_⟩
    have Tz:s.heap.objs.size≠z:=lt hz
    have sub:∀ b∈([z,TO,i1,i2]:List Addr),b∈([z,TI,TO,i1,i2]:List Addr):=fun b hb=>by
      simp at hb ⊢
      rcases hb with rfl | rfl | rfl | rfl <;> simp
    have I1:Inv X pins σ H { s with heap:=h'' }:=I.lN (t':=s.toks) (ch:=[z,TO,i1,i2])
      (fun b o hb e=>hs'.extBut b o (fun x=>hb (by simp [x])) (hk b o (fun x=>hb (by simp [x])) (fun x=>hb (by simp [x])) (fun x=>hb (by simp [x])) (fun x=>hb (by simp [x])) e)) fun b hb=>hf b (sub b hb)
    have F:=I.rP (H':=H) (Nat.le_refl _) (I.hok.fresh (Nat.le_refl _))
    obtain ⟨F0,F1,F2,F3,F4,F5⟩:=F
    have hT:IsTup h'' s.heap.objs.size #[u1,u2]:=⟨_,hs'.extBut _ _ Tz a5,rfl,_,rfl⟩
    have I2:Inv X pins σ (upd H s.heap.objs.size (.tup [xs[i],ys[i]])) { s with heap:=h'' }:=I1.adopt F0 F1 I.sz F4 F5 (show d9 X.prog X.w _ h'' _ (.tup [xs[i],ys[i]]) from ⟨by rw [sizeLine_eq];simp,[u1,u2],.cons ru1 (.cons ru2 .nil),hT⟩)
    refine ⟨.ref s.heap.objs.size,_,I2,rfl,⟨_,_,_,rfl,F0,List.getElem?_eq_getElem hi1,List.getElem?_eq_getElem hi2,rfl⟩,?_,fun b hb=>?_⟩
    · exact ⟨hz',hs'.extBut _ _ D.TIz (hk _ _ D.TIz D.TITO D.TIi1 D.TIi2 hTI),⟨_,_,hs'.extBut _ _ D.TOz a2⟩,a3.extBut hs'.extBut D.i1z,a4.extBut hs'.extBut D.i2z⟩
    · rw [aL]
      · exact (hf b hb).1
      · simp at hb
        obtain ⟨o1,e1,_⟩:=h1
        obtain ⟨o2,e2,_⟩:=h2
        rcases hb with rfl | rfl | rfl | rfl | rfl
        · exact (lt hz).symm
        · exact (lt hTI).symm
        · exact (lt hTO).symm
        · exact (lt e1).symm
        · exact (lt e2).symm
  done:=by
    intro X hP hw hK hc i pins s σ H E I hf st hg
    subst hP hw hK
    obtain ⟨hz,hTI,⟨p,p',hTO⟩,h1,h2⟩:=st
    obtain ⟨hq1,hq2,hend⟩:=hg
    obtain ⟨its1,rv1,pl1,hz1⟩:=I.list hq1
    obtain ⟨its2,rv2,pl2,hz2⟩:=I.list hq2
    have e1:=rv1.length
    have e2:=rv2.length
    have sub:∀ b∈([z,TO,i1,i2]:List Addr),b∈([z,TI,TO,i1,i2]:List Addr):=fun b hb=>by
      simp at hb ⊢
      rcases hb with rfl | rfl | rfl | rfl <;> simp
    refine wpAny_pyNext_zip_end (I.ok.hd hc) D hz hTI hTO h1 h2 pl1.isList pl2.isList ?_ fun h' hk=>⟨rfl,I.lN (t':=s.toks) (ch:=[z,TO,i1,i2])
      (fun b o hb e=>hk b o (fun x=>hb (by simp [x])) (fun x=>hb (by simp [x])) (fun x=>hb (by simp [x])) (fun x=>hb (by simp [x])) e) fun b hb=>hf b (sub b hb)⟩
    rcases hend with h | h
    · exact .inl (by simp;omega)
    · exact .inr (by simp;omega)
  self:=fun _ _ _ _ _ st h=>wpAny_pyIter_zip st.1 h
def iZip (K:PySem.W.Frag) (ta:TA):TI:=fun σ H R=>ta σ H fun vs H1=>∃ l1 l2 xs ys,vs=[.ref l1,.ref l2]∧SqL K H1 l1 xs∧SqL K H1 l2 ys∧R (Itz K l1 l2 xs ys) H1
theorem qe {elts:List Expr} {kk:Nat} {tpos:Pos} {a b:Expr} {ta:TA} {p pos:Pos} (hg:Gl X "zip") (hm:X.mg "zip"=none) (ha:PA X [a,b] ta) (hs:starEach [a,b] X.env=[(false,eval a X.env),(false,eval b X.env)]:=by rfl) (hs2:starEach [b] X.env=[(false,eval b X.env)]:=by rfl) :
    PI X (.Tuple elts kk tpos) (.Call (.Name "zip" p) [a,b] [] pos) (iZip X.K ta):=by
  intro pins s σ H R I h
  refine Call_ (fZ I hg hm boot_zip (PyProof.Rows.callWith_type1 (thn (ha pos pins s σ H _ I h) fun us s1 ⟨vs,H1,I1,r1,q1⟩=>?_) (by rw [hs,hs2]) (by rw [hs2];rfl)))
  obtain ⟨l1,l2,xs,ys,e,hq1,hq2,q⟩:=q1
  subst e
  cases r1 with
  | cons r rr =>
    cases rr with
    | cons r' rr =>
      cases rr
      cases r
      cases r'
      obtain ⟨its1,rv1,pl1,hz1⟩:=I1.list hq1
      obtain ⟨its2,rv2,pl2,hz2⟩:=I1.list hq2
      refine call_zip_2 pl1.isList pl2.isList fun h' a1 a2 a3 a4 a5 a6 hk=>?_
      refine wpAny_pyIter_zip a1 ?_
      have b1:l1<s1.heap.objs.size:=by obtain ⟨o,e,_⟩:=pl1.isList;exact Heap.lt_size e
      have b2:l2<s1.heap.objs.size:=by obtain ⟨o,e,_⟩:=pl2.isList;exact Heap.lt_size e
      refine ⟨_,_,_,_,H1,rfl,I1.kept (t':=s1.toks) hk,vD (l1:=l1) (l2:=l2) (xs:=xs) (ys:=ys) (TI:=s1.heap.objs.size + 2) (TO:=s1.heap.objs.size + 3) (i1:=s1.heap.objs.size) (i2:=s1.heap.objs.size + 1) ?_,⟨a1,a2,⟨_,_,a3⟩,a4,a5⟩,fun b hb=>?_,q⟩
      · constructor <;> exact fun z=>by simp only [Addr] at z b1 b2;omega
      · have hb':s1.heap.objs.size≤b:=by
          simp at hb
          rcases hb with rfl | rfl | rfl | rfl | rfl <;> simp
        exact I1.rP hb' (I1.hok.fresh hb')
theorem pB {K:PySem.W.Frag} {l1 l2:Addr} {xs ys:List V} {g:TG} {tb:TS} {D:Ends} {σ:St} {H:Hp} (Pv:Nat→St→Hp→Prop) (hxy:xs.length=ys.length) (h0:Pv 0 σ H) (hl:∀ i σ H,i≤xs.length→Pv i σ H→SqL K H l1 xs∧SqL K H l2 ys)
    (hs:∀ i a b T σ H,xs[i]?=some a→ys[i]?=some b→Pv i σ H→H T=none→g (.ref T) σ (upd H T (.tup [a,b])) fun σ2 H2=>tb { D with nx:=Pv (i + 1),ct:=Pv (i + 1),bk:=D.nx } σ2 H2) (hd:∀ σ H,Pv xs.length σ H→D.nx σ H) :
    ∃ W:Nat→Nat→St→Hp→Prop,(∃ m,W 0 m σ H)∧∀ i m σ H,W i m σ H →
      ((Itz K l1 l2 xs ys).stop i H∧D.nx σ H)∨((Itz K l1 l2 xs ys).go i H∧∃ N:St→Hp→Prop,(∀ σ' H',N σ' H'→∃ m',m'<m∧W (i + 1) m' σ' H')∧∀ x H',(Itz K l1 l2 xs ys).yld i H x H'→g x σ H' fun σ2 H2=>tb { D with nx:=N,ct:=N,bk:=D.nx } σ2 H2):=by
  refine ⟨fun i m σ H=>m=xs.length - i∧i≤xs.length∧Pv i σ H,⟨xs.length,by simp,Nat.zero_le _,h0⟩,?_⟩
  rintro i m σ H ⟨rfl,hi,p⟩
  obtain ⟨q1,q2⟩:=hl i σ H hi p
  by_cases hlt:i<xs.length
  · refine .inr ⟨⟨q1,q2,hlt,by omega⟩,Pv (i + 1),fun σ' H' p'=>⟨xs.length - (i + 1),by omega,rfl,hlt,p'⟩,fun x H' y=>?_⟩
    obtain ⟨T,a,b,rfl,hT,ha,hb,rfl⟩:=y
    exact hs i a b T σ _ ha hb p hT
  · have e:i=xs.length:=by omega
    subst e
    exact .inl ⟨⟨q1,q2,.inl (Nat.le_refl _)⟩,hd σ H p⟩
end
end L2
namespace L2
open PySem PySem.Spec PyProof.Rows
section
variable {X:Cx}
def Ite (K:PySem.W.Frag) (l:Addr) (xs:List V):It :=
  ⟨fun i H=>SqL K H l xs∧i<xs.length,fun i H x H'=>∃ T a,x=.ref T∧H T=none∧xs[i]?=some a∧H'=upd H T (.tup [.int (i:Int),a]),fun i H=>SqL K H l xs∧xs.length≤i⟩
def Gi (e it l:Addr) (i:Nat) (h:Heap):Prop:=(∃ old,IsEnum h e it i old)∧h.IsListIter it l i
theorem rZ {P:Program} {w:World} {K:PySem.W.Frag} {elts:List Expr} {kk:Nat} {tpos:Pos} {e it l:Addr} {xs:List V} (hei:e≠it) :
    Turn P w K (.Tuple elts kk tpos) (Ite K l xs) [e,it] e (Gi e it l) where
  mem:=by simp
  obj:=fun i h st b hb=>by
    obtain ⟨⟨old,he⟩,⟨o1,e1,c1,d1⟩⟩:=st
    simp at hb
    rcases hb with rfl | rfl
    · exact ⟨_,he,fun v z=>by cases (show Data.fields _=Data.cell v from z)⟩
    · exact ⟨o1,e1,fun v z=>by rw [d1] at z;cases z⟩
  keep:=fun i h h' st k=>by
    obtain ⟨⟨old,he⟩,h1⟩:=st
    exact ⟨⟨old,k e (by simp) _ he⟩,h1.at fun o x=>k it (by simp) o x⟩
  item:=by
    intro X hP hw hK hc i pins s σ H E I hf st hg
    subst hP hw hK
    obtain ⟨⟨old,he⟩,h1⟩:=st
    obtain ⟨hq1,hi1⟩:=hg
    obtain ⟨its1,rv1,pl1,hz1⟩:=I.list hq1
    obtain ⟨u1,hu1,ru1⟩:=rv1.get (List.getElem?_eq_getElem hi1)
    refine wpAny_pyNext_enum_item he h1 pl1.isList (x:=u1) (by simpa using hu1) hei fun h' a1 a2 a3 a4 hk=>?_
    have lt:∀ {c o},s.heap.get? c=some o→s.heap.objs.size≠c:=fun e=>Nat.ne_of_gt (Heap.lt_size e)
    refine ⟨.ref s.heap.objs.size,rfl,wpAny_letOwnedTupleGo_enum (s:={ s with heap:=h',toks:=s.toks + 1 }) a1 fun h'' hz' hs'=>?_⟩
    have Tz:s.heap.objs.size≠e:=lt he
    have I1:Inv X pins σ H { s with heap:=h'',toks:=s.toks + 1 }:=I.lN (ch:=[e,it])
      (fun b o hb x=>hs'.extBut b o (fun z=>hb (by simp [z])) (hk b o (fun z=>hb (by simp [z])) (fun z=>hb (by simp [z])) x)) fun b hb=>hf b hb
    obtain ⟨F0,F1,F2,F3,F4,F5⟩:=I.rP (H':=H) (Nat.le_refl _) (I.hok.fresh (Nat.le_refl _))
    have hT:IsTup h'' s.heap.objs.size #[.int (i:Int) s.toks,u1]:=⟨_,hs'.extBut _ _ Tz a3,rfl,_,rfl⟩
    have I2:Inv X pins σ (upd H s.heap.objs.size (.tup [.int (i:Int),xs[i]])) { s with heap:=h'',toks:=s.toks + 1 }:=I1.adopt F0 F1 I.sz F4 F5 (show d9 X.prog X.w _ h'' _ (.tup [.int (i:Int),xs[i]]) from ⟨by rw [sizeLine_eq];simp,[.int (i:Int) s.toks,u1],.cons ⟨_,rfl⟩ (.cons ru1 .nil),hT⟩)
    refine ⟨.ref s.heap.objs.size,_,I2,rfl,⟨_,_,rfl,F0,List.getElem?_eq_getElem hi1,rfl⟩,?_,fun b hb=>?_⟩
    · exact ⟨⟨_,by simpa using hz'⟩,a2.extBut hs'.extBut hei.symm⟩
    · rw [aL]
      · exact (hf b hb).1
      · simp at hb
        obtain ⟨o1,e1,_⟩:=h1
        rcases hb with rfl | rfl
        · exact (lt he).symm
        · exact (lt e1).symm
  done:=by
    intro X hP hw hK hc i pins s σ H E I hf st hg
    subst hP hw hK
    obtain ⟨⟨old,he⟩,h1⟩:=st
    obtain ⟨hq1,hend⟩:=hg
    obtain ⟨its1,rv1,pl1,hz1⟩:=I.list hq1
    have e1:=rv1.length
    exact wpAny_pyNext_enum_end (I.ok.hd hc) he h1 pl1.isList (by simp;omega) fun h' hk=>⟨rfl,I.lN (t':=s.toks) (ch:=[e,it])
      (fun b o hb x=>hk b o (fun z=>hb (by simp [z])) x) fun b hb=>hf b hb⟩
  self:=fun _ _ _ _ _ st h=>by
    obtain ⟨⟨old,he⟩,_⟩:=st
    exact wpAny_pyIter_enum he h
def G9 (K:PySem.W.Frag) (ta:TA):TI:=fun σ H R=>ta σ H fun vs H1=>∃ l xs,vs=[.ref l]∧SqL K H1 l xs∧R (Ite K l xs) H1
theorem oY {elts:List Expr} {kk:Nat} {tpos:Pos} {a:Expr} {ta:TA} {p pos:Pos} (hg:Gl X "enumerate") (hm:X.mg "enumerate"=none) (ha:PA X [a] ta) (hs:starEach [a] X.env=[(false,eval a X.env)]:=by rfl) :
    PI X (.Tuple elts kk tpos) (.Call (.Name "enumerate" p) [a] [] pos) (G9 X.K ta):=by
  intro pins s σ H R I h
  refine Call_ (fZ I hg hm boot_enumerate (PyProof.Rows.callWith_type1 (thn (ha pos pins s σ H _ I h) fun us s1 ⟨vs,H1,I1,r1,q1⟩=>?_) hs rfl))
  obtain ⟨l1,xs,e,hq1,q⟩:=q1
  subst e
  obtain ⟨u,rfl,ru⟩:=vals1 r1
  cases ru
  obtain ⟨its1,rv1,pl1,hz1⟩:=I1.list hq1
  refine call_enumerate_list pl1.isList fun h' a1 a2 a3 hk=>?_
  refine wpAny_pyIter_enum a1 ?_
  refine ⟨_,_,_,_,H1,rfl,I1.kept (t':=s1.toks) hk,rZ (l:=l1) (xs:=xs) (it:=s1.heap.objs.size) (Nat.succ_ne_self _),⟨⟨_,a1⟩,a2⟩,fun b hb=>?_,q⟩
  have hb':s1.heap.objs.size≤b:=by
    simp at hb
    rcases hb with rfl | rfl <;> simp
  exact I1.rP hb' (I1.hok.fresh hb')
theorem qz {K:PySem.W.Frag} {l:Addr} {xs:List V} {g:TG} {tb:TS} {D:Ends} {σ:St} {H:Hp} (Pv:Nat→St→Hp→Prop) (h0:Pv 0 σ H) (hl:∀ i σ H,i≤xs.length→Pv i σ H→SqL K H l xs)
    (hs:∀ i a T σ H,xs[i]?=some a→Pv i σ H→H T=none→g (.ref T) σ (upd H T (.tup [.int (i:Int),a])) fun σ2 H2=>tb { D with nx:=Pv (i + 1),ct:=Pv (i + 1),bk:=D.nx } σ2 H2) (hd:∀ σ H,Pv xs.length σ H→D.nx σ H) :
    ∃ W:Nat→Nat→St→Hp→Prop,(∃ m,W 0 m σ H)∧∀ i m σ H,W i m σ H →
      ((Ite K l xs).stop i H∧D.nx σ H)∨((Ite K l xs).go i H∧∃ N:St→Hp→Prop,(∀ σ' H',N σ' H'→∃ m',m'<m∧W (i + 1) m' σ' H')∧∀ x H',(Ite K l xs).yld i H x H'→g x σ H' fun σ2 H2=>tb { D with nx:=N,ct:=N,bk:=D.nx } σ2 H2):=by
  refine ⟨fun i m σ H=>m=xs.length - i∧i≤xs.length∧Pv i σ H,⟨xs.length,by simp,Nat.zero_le _,h0⟩,?_⟩
  rintro i m σ H ⟨rfl,hi,p⟩
  have q1:=hl i σ H hi p
  by_cases hlt:i<xs.length
  · refine .inr ⟨⟨q1,hlt⟩,Pv (i + 1),fun σ' H' p'=>⟨xs.length - (i + 1),by omega,rfl,hlt,p'⟩,fun x H' y=>?_⟩
    obtain ⟨T,a,rfl,hT,ha,rfl⟩:=y
    exact hs i a T σ _ ha p hT
  · have e:i=xs.length:=by omega
    subst e
    exact .inl ⟨⟨q1,Nat.le_refl _⟩,hd σ H p⟩
theorem uT {K:PySem.W.Frag} {a:Addr} {xs:List V} {acc:Addr} {g:TG} {tc:TT} {te:TE} {τ:St} {H1:Hp} {Q:Hp→Prop} (Pv:Nat→St→Hp→Prop) (h0:Pv 0 τ (upd H1 acc (.lst []))) (hl:∀ i τ H,i≤xs.length→Pv i τ H→SqL K H a xs)
    (hs:∀ i x T τ H,xs[i]?=some x→Pv i τ H→H T=none→g (.ref T) τ (upd H T (.tup [.int (i:Int),x])) fun τ4 H4=>tc τ4 H4 fun b H5=>if b=true then te τ4 H5 fun y H6=>∃ ys,H6 acc=some (.lst ys)∧ys.length<sizeLine∧Pv (i + 1) τ4 (upd H6 acc (.lst (ys++[y]))) else Pv (i + 1) τ4 H5)
    (hd:∀ τ H,Pv xs.length τ H→Q H):mW (Ite K a xs) acc g tc te τ H1 Q:=by
  refine ⟨fun i m τ H=>m=xs.length - i∧i≤xs.length∧Pv i τ H,⟨xs.length,by simp,Nat.zero_le _,h0⟩,?_⟩
  rintro i m τ H ⟨rfl,hi,p⟩
  have q:=hl i τ H hi p
  by_cases hlt:i<xs.length
  · refine .inr ⟨⟨q,hlt⟩,Pv (i + 1),fun τ' H' p'=>⟨xs.length - (i + 1),by omega,rfl,hlt,p'⟩,fun x H' y=>?_⟩
    obtain ⟨T,b,rfl,hT,hb,rfl⟩:=y
    exact hs i b T τ _ hb p hT
  · have e:i=xs.length:=by omega
    subst e
    exact .inl ⟨⟨q,Nat.le_refl _⟩,hd τ H p⟩
theorem wQ {K:PySem.W.Frag} {l1 l2:Addr} {xs ys:List V} {acc:Addr} {g:TG} {tc:TT} {te:TE} {τ:St} {H1:Hp} {Q:Hp→Prop} (Pv:Nat→St→Hp→Prop) (hxy:xs.length=ys.length) (h0:Pv 0 τ (upd H1 acc (.lst []))) (hl:∀ i τ H,i≤xs.length→Pv i τ H→SqL K H l1 xs∧SqL K H l2 ys)
    (hs:∀ i x y T τ H,xs[i]?=some x→ys[i]?=some y→Pv i τ H→H T=none→g (.ref T) τ (upd H T (.tup [x,y])) fun τ4 H4=>tc τ4 H4 fun b H5=>if b=true then te τ4 H5 fun y H6=>∃ ys,H6 acc=some (.lst ys)∧ys.length<sizeLine∧Pv (i + 1) τ4 (upd H6 acc (.lst (ys++[y]))) else Pv (i + 1) τ4 H5)
    (hd:∀ τ H,Pv xs.length τ H→Q H):mW (Itz K l1 l2 xs ys) acc g tc te τ H1 Q:=by
  refine ⟨fun i m τ H=>m=xs.length - i∧i≤xs.length∧Pv i τ H,⟨xs.length,by simp,Nat.zero_le _,h0⟩,?_⟩
  rintro i m τ H ⟨rfl,hi,p⟩
  obtain ⟨q1,q2⟩:=hl i τ H hi p
  by_cases hlt:i<xs.length
  · refine .inr ⟨⟨q1,q2,hlt,by omega⟩,Pv (i + 1),fun τ' H' p'=>⟨xs.length - (i + 1),by omega,rfl,hlt,p'⟩,fun x H' y=>?_⟩
    obtain ⟨T,b,c,rfl,hT,hb,hc,rfl⟩:=y
    exact hs i b c T τ _ hb hc p hT
  · have e:i=xs.length:=by omega
    subst e
    exact .inl ⟨⟨q1,q2,.inl (Nat.le_refl _)⟩,hd τ H p⟩
end
end L2
namespace L2
open PySem PySem.Spec PyProof.Rows
structure Iv (P:Prop):Prop where
  t:True
  p:P
theorem ifT {c:Bool} {A B:Prop} (h:c=true) (a:A):if c=true then A else B:=by rw [if_pos h];exact a
theorem ifF {c:Bool} {A B:Prop} (h:c=false) (b:B):if c=true then A else B:=by rw [if_neg (by rw [h];exact Bool.false_ne_true)];exact b
theorem ifB {c:Bool} {A B:Prop} (h1:c=true→A) (h2:c=false→B):if c=true then A else B:=by
  cases c with
  | true=>exact ifT rfl (h1 rfl)
  | false=>exact ifF rfl (h2 rfl)
theorem Bh (x y:Int):decide (V.int x=V.int y)=decide (x=y):=by
  by_cases h:x=y
  · simp [h]
  · have:¬ V.int x=V.int y:=fun e=>h (by cases e;rfl)
    simp [h,this]
theorem bH {ns:List Int} {i:Int} (h0:0≤i) (h1:i<(ns.length:Int)):atI (ns.map V.int) i=some (V.int (ns.getD i.toNat 0)):=by
  refine iC h0 ?_
  rw [List.getD_eq_getElem?_getD,List.getElem?_eq_getElem (by omega)];rfl
theorem getD_mem' {ns:List Int} {k:Nat} (h:k<ns.length):ns.getD k 0∈ns:=by
  rw [List.getD_eq_getElem?_getD,List.getElem?_eq_getElem h];exact List.getElem_mem h
theorem iH {ns:List Int} {k:Nat} (h:k<ns.length):ns[k]?=some (ns.getD k 0):=by
  rw [List.getD_eq_getElem?_getD,List.getElem?_eq_getElem h];rfl
theorem CK {n:Nat} {i:Int} (h0:0≤i) (h1:i<(n:Int)):ixN n i=some i.toNat:=by
  unfold ixN;rw [if_pos h0,if_pos h1]
theorem eF.mo {T:eH} {K:PySem.W.Frag} {H H':Hp} {vs:List V} {ds:List PyData} (h:eF K H vs ds) (e:bI T H H'):eF K H' vs ds:=eF.pq e h
theorem SqT.mo {T:eH} {K:PySem.W.Frag} {H H':Hp} {a:Addr} {xs:List V} (h:SqT K H a xs) (e:bI T H H'):SqT K H' a xs:=e.Ji h
theorem bI.mo {T:eH} {H H1 H2:Hp} (a:bI T H H1) (b:bI T H1 H2):bI T H H2:=a.trans b
section
variable {T:eH} {H0 H1 H H':Hp} {L L':List (Addr × HO)} {a l p:Addr} {o o':HO} {xs:List V} {K:PySem.W.Frag}
theorem Ow.frz (O:Ow T H0 H ((p,o) :: L)):∃ Hn,Ow T Hn H L∧bI T H0 Hn∧Hn p=some o:=by
  obtain ⟨Hn,On,sn,kn⟩:=O.tail.reb
  refine ⟨Hn,On,sn,kn p o (O.get 0) fun q hq z=>?_⟩
  have nd:=O.nd
  rw [List.map_cons,List.nodup_cons] at nd
  exact nd.1 (List.mem_map.mpr ⟨q,hq,z⟩)
theorem Ow.join (O:Ow T H0 H L) (O':Ow T H H' L'):Ow T H0 H' (L'++L):=by
  have keep:∀ q∈L,H' q.1=some q.2:=fun q hq=>(O.rJ O'.same).at_ q hq
  refine ⟨O.same.trans O'.same,fun q hq=>?_,fun q hq=>?_,fun q hq=>?_,?_⟩
  · rcases List.mem_append.mp hq with h | h
    · exact O.same.free (O'.new q h)
    · exact O.new q h
  · rcases List.mem_append.mp hq with h | h
    · exact O'.at_ q h
    · exact keep q h
  · rcases List.mem_append.mp hq with h | h
    · exact O'.pl q h
    · exact O.pl q h
  · rw [List.map_append,List.nodup_append]
    refine ⟨O'.nd,O.nd,fun x hx y hy z=>?_⟩
    obtain ⟨q,hq,rfl⟩:=List.mem_map.mp hx
    obtain ⟨r,hr,rfl⟩:=List.mem_map.mp hy
    have:=O'.new q hq
    rw [z,O.at_ r hr] at this
    cases this
end
def dTup (ns:List Int):PyData:=.tuple (ns.map PyData.int)
section
variable {K:PySem.W.Frag} {H:Hp} {v:V} {a:Addr} {ns:List Int} {rs:List (List Int)}
theorem Den.tup (h:SqT K H a (ns.map V.int)):Den K H (.ref a) (dTup ns):=.tuple h (eF.ints ns)
theorem Den.zX (h:Den K H v (dTup ns)):∃ a,v=.ref a∧SqT K H a (ns.map V.int):=by
  cases h with
  | tuple h hs=>exact ⟨_,rfl,by rw [← eF.int_inv hs];exact h⟩
theorem Den.wz {ds:List PyData} (h:Den K H v (.list ds)):∃ a xs,v=.ref a∧SqL K H a xs∧eF K H xs ds:=by
  cases h with
  | list h hs=>exact ⟨_,_,rfl,h,hs⟩
theorem Sh.tup (n:Nat) (ns:List Int):Sh (n + 1) (dTup ns):=.tuple fun d hd=>by
  obtain ⟨i,_,rfl⟩:=List.mem_map.mp hd
  exact .int n i
end
end L2
namespace L2
open PySem PySem.Spec PyProof.Rows
section
variable {A B:Prop}
theorem ifD {p:Prop} [Decidable p] (h1:p→A) (h2:¬ p→B):if decide p=true then A else B:=ifB (fun h=>h1 (of_decide_eq_true h)) fun h=>h2 (of_decide_eq_false h)
theorem ifI {x y:Int} (h1:x=y→A) (h2:¬ x=y→B):if decide (V.int x=V.int y)=true then A else B:=by rw [Bh];exact ifD h1 h2
end
structure Lic where
  day:Int
  start:Int
  back:Int
  most:Int
def zQ (l:Lic):PyData:=dTup [l.day,l.start,l.back,l.most]
def rH (ls:List Lic):PyData:=.list (ls.map zQ)
abbrev zW (l:Lic):List V:=[.int l.day,.int l.start,.int l.back,.int l.most]
section
variable {K:PySem.W.Frag} {H:Hp} {v:V} {a:Addr} {ls:List Lic} {l:Lic} {xs:List V} {k:Nat}
theorem Den.lic (h:SqT K H a (zW l)):Den K H (.ref a) (zQ l):=Den.tup (ns:=[l.day,l.start,l.back,l.most]) h
theorem Den.Ax (h:Den K H v (zQ l)):∃ a,v=.ref a∧SqT K H a (zW l):=h.zX
theorem eF.pA (h:eF K H xs (ls.map zQ)) (hx:xs[k]?=some v):∃ a l,v=.ref a∧ls[k]?=some l∧SqT K H a (zW l):=by
  obtain ⟨d,h1,h2⟩:=h.get' hx
  rw [List.getElem?_map] at h1
  cases e:ls[k]? with
  | none=>rw [e] at h1;cases h1
  | some l =>
    rw [e] at h1
    cases h1
    obtain ⟨a,rfl,hT⟩:=h2.Ax
    exact ⟨a,l,rfl,rfl,hT⟩
theorem Sh.lic (n:Nat) (l:Lic):Sh (n + 1) (zQ l):=Sh.tup n _
theorem Sh.roll (n:Nat) (ls:List Lic):Sh (n + 2) (rH ls):=.list fun d hd=>by
  obtain ⟨i,_,rfl⟩:=List.mem_map.mp hd
  exact .lic n i
end
theorem Bk (xs:List V) (i j:Nat):oM xs (some (i:Int)) (some (j:Int))=(xs.drop i).take (j - i):=by
  unfold oM
  rw [HT.lY,HT.lY]
  refine List.ext_getElem? fun k=>?_
  simp only [List.getElem?_take,List.getElem?_drop]
  by_cases h1:k<j - i
  · rw [if_pos h1]
    by_cases h2:i + k<xs.length
    · rw [if_pos (by omega),show min i xs.length=i by omega]
    · rw [List.getElem?_eq_none (l:=xs) (i:=i + k) (by omega)]
      split
      · exact List.getElem?_eq_none (by omega)
      · rfl
  · rw [if_neg h1]
    split
    · rename_i h3
      omega
    · rfl
theorem Ge (ns:List Int) (i j:Nat):oM (ns.map V.int) (some (i:Int)) (some (j:Int))=((ns.drop i).take (j - i)).map V.int:=by
  rw [Bk,List.map_take,List.map_drop]
theorem qH (ns:List Int) (i:Nat):oM (ns.map V.int) (some (i:Int)) none=(ns.drop i).map V.int:=by
  unfold oM
  rw [HT.lY,List.length_map,show HT.sIx ns.length ns.length none=ns.length from rfl,List.map_drop]
  by_cases h:i≤ns.length
  · rw [Nat.min_eq_left h,List.take_of_length_le (by rw [List.length_drop,List.length_map];omega)]
  · rw [Nat.min_eq_right (by omega),List.drop_of_length_le (l:=ns.map V.int) (i:=i) (by rw [List.length_map];omega),Nat.sub_self,List.take_zero]
end L2
namespace L2
open PySem PySem.Spec PyProof.Rows
end L2
namespace L2
open PySem PySem.Spec PyProof.Rows
theorem tW {X:Cx} {K:PySem.W.Frag} {pos:Pos} {es:List Expr} {k:Nat} {t:TGs} {n:Nat} (hK:X.K=K) (hc:X.calm=true) (h:PGs X es t) (hn:(assignEach es X.env).length=n:=by rfl) (hst:(assignEach es X.env).findIdx? (·.1)=none:=by rfl):PG X (.Tuple es k pos) (JD K n t):=hK ▸ jm hc h hn hst
end L2
namespace L2
open PySem PySem.Spec PyProof.Rows
theorem Jd {τ:St} {H:Hp} {A B:Hp→Prop} (h:A H):Gp τ H fun b H5=>if b=true then A H5 else B H5:=by
  show if true=true then A H else B H
  rw [if_pos rfl];exact h
end L2
namespace L2
open PySem PySem.Spec PyProof.Rows
theorem lB {α:Type}:∀ {L:List α} {k:Nat} {p:α},L[k]?=some p→(p :: L.eraseIdx k).Perm L
  | [],_,_,h=>by simp at h
  | a :: L,0,p,h=>by
    have e:a=p:=by simpa using h
    subst e;exact List.Perm.refl _
  | a :: L,k + 1,p,h=>by
    have h':L[k]?=some p:=by simpa using h
    rw [List.eraseIdx_cons_succ]
    exact (List.Perm.swap a p _).trans ((lB h').cons a)
section
variable {T:eH} {H0 H:Hp} {L:List (Addr × HO)} {p:Addr} {o:HO}
theorem Ow.pull (O:Ow T H0 H L) (k:Nat) (h:L[k]?=some (p,o):=by rfl):Ow T H0 H ((p,o) :: L.eraseIdx k):=O.perm (lB h)
theorem Ow.Iw (O:Ow T H0 H L) (k:Nat) (h:L[k]?=some (p,o):=by rfl):∃ Hn,Ow T Hn H (L.eraseIdx k)∧bI T H0 Hn∧Hn p=some o:=(O.pull k h).frz
theorem Ow.del (O:Ow T H0 H L) (k:Nat):Ow T H0 H (L.eraseIdx k):=O.sub (List.eraseIdx_sublist L k)
end
theorem iB (ns:List Int) (z:Int):ns.map V.int++[V.int z]=(ns++[z]).map V.int:=by rw [List.map_append];rfl
end L2
namespace L2
open PySem PySem.Spec PyProof.Rows
end L2
namespace L2
open PySem PySem.Spec PyProof.Rows
end L2
namespace L2
open PySem PySem.W PySem.Spec PyProof.Rows
section
variable {prog:Program} {w:World} {A:Around} {E:Value→Shared→Prop} {s:Shared}
end
section
variable {X:Cx}
end
section
variable {prog:Program} {w:World} {A:Around} {R:Result→Shared→Prop} {I:Addr} {fp wr:List Addr} {n:Nat} {P:Nat→Value→Prop} {St:Nat→Heap→Prop}
end
section
variable {X:Cx}
end
end L2
namespace L2
open PySem PySem.Spec PyProof.Rows
section
variable {κ:Type} [DecidableEq κ]
end
abbrev KT (H:Hp):List (List Key × V)→List (List Key × Addr × Value)→Prop:=Paired fun p q=>p.1=q.1∧H q.2.1=some (.tup (p.1.map kV))∧RelV p.2 q.2.2
section
variable {P:Program} {w:World} {H:Hp} {h:Heap} {a:Addr}
end
section
variable {X:Cx} {pins:List (Addr × Obj)} {σ:St} {H:Hp} {s:Shared} {a:Addr} {y v:V} {u r:Value} {o:Option V} {A:Around} {E:Value→Shared→Prop}
end
section
variable {X:Cx} {pins:List (Addr × Obj)} {σ:St} {H:Hp} {s:Shared} {a:Addr} {kvs:List (Key × V)} {k:Key} {u:Value} {A:Around} {E:Value→Shared→Prop}
end
section
variable {X:Cx} {o i e value:Expr} {pos pos' tpos:Pos} {td ty tv:TE}
end
section
variable {X:Cx} {pos:Pos}
end
abbrev VV:List (V × V)→List (Value × Value)→Prop:=Paired fun p q=>RelV p.1 q.1∧RelV p.2 q.2
section
variable {X:Cx} {pins:List (Addr × Obj)} {σ:St} {H:Hp} {s:Shared} {a:Addr} {y d:V} {u r:Value} {o:Option V} {A:Around} {E:Value→Shared→Prop}
end
section
variable {X:Cx} {o e f:Expr} {apos cpos:Pos} {td ty tx:TE}
end
end L2
namespace L2
open PySem PySem.W PySem.Spec PyProof.Rows
section
variable {X:Cx} {o e f:Expr} {apos cpos:Pos} {td ty tx:TE}
end
section
variable {X:Cx} {o:Expr} {td:TE} {p1 apos cpos pos:Pos}
end
end L2
namespace L2
open PySem PySem.W PySem.Spec PyProof.Rows
section
variable {prog:Program} {w:World} {A:Around} {E:Value→Shared→Prop} {s:Shared}
end
section
variable {X:Cx}
abbrev oLic (l:Lic):HO:=.tup (zW l)
abbrev oInts (w:List Int):HO:=.lst (w.map V.int)
end
end L2
namespace L2
open PySem PySem.W PySem.Spec PyProof.Rows
section
variable {X:Cx}
end
end L2
namespace L2
open PySem PySem.W PySem.Spec PyProof.Rows
end L2
namespace HT
open PySem PyProof.Rows
end HT
namespace L2
open PySem PySem.W PySem.Spec PyProof.Rows
end L2
namespace L2
open PySem
def Ris (l:List Nat):Prop:=l.Pairwise (·<·)
theorem m8 {l:List Nat} (R:Ris l) {i j a b:Nat} (h:i<j) (ha:l[i]?=some a) (hb:l[j]?=some b):a<b:=by
  obtain ⟨hi,rfl⟩:=List.getElem?_eq_some_iff.mp ha
  obtain ⟨hj,rfl⟩:=List.getElem?_eq_some_iff.mp hb
  exact List.pairwise_iff_getElem.mp R i j hi hj h
theorem wV (xs:Array Nat) (j:Nat) (R:Ris xs.toList):∀ (fuel lo hi:Nat),hi≤xs.size→hi - lo≤fuel→lo≤hi →
    (∀ i a,i<lo→xs[i]?=some a→a<j)→(∀ i a,hi≤i→xs[i]?=some a→j≤a) →
    (∀ i a,i<SetTable.below.go xs j fuel lo hi→xs[i]?=some a→a<j)∧(∀ i a,SetTable.below.go xs j fuel lo hi≤i→xs[i]?=some a→j≤a)∧SetTable.below.go xs j fuel lo hi≤xs.size:=by
  intro fuel
  induction fuel with
  | zero =>
    intro lo hi h1 h2 h3 h4 h5
    unfold SetTable.below.go
    have:lo=hi:=by omega
    subst this
    exact ⟨h4,h5,h1⟩
  | succ f ih =>
    intro lo hi h1 h2 h3 h4 h5
    unfold SetTable.below.go
    by_cases hl:lo<hi
    · rw [if_pos hl]
      dsimp only
      have hm:(lo + hi) / 2<xs.size:=by omega
      have hx:xs[(lo + hi) / 2]?=some xs[(lo + hi) / 2]:=by simp [hm]
      have hg:xs.getD ((lo + hi) / 2) j=xs[(lo + hi) / 2]:=by rw [Array.getD_eq_getD_getElem?,hx];rfl
      rw [hg]
      split
      · rename_i hlt
        refine ih _ _ h1 (by omega) (by omega) (fun i a hi' ha=>?_) h5
        rcases Nat.lt_or_ge i ((lo + hi) / 2) with h | h
        · exact Nat.lt_trans (m8 R h (by simpa using ha) (by simpa using hx)) hlt
        · have:i=(lo + hi) / 2:=by omega
          subst this
          rw [hx] at ha;cases ha;exact hlt
      · rename_i hge
        refine ih _ _ (by omega) (by omega) (by omega) h4 (fun i a hi' ha=>?_)
        rcases Nat.lt_or_ge ((lo + hi) / 2) i with h | h
        · have:=m8 R h (by rw [Array.getElem?_toList];exact hx) (by rw [Array.getElem?_toList];exact ha)
          omega
        · have:i=(lo + hi) / 2:=by omega
          subst this
          rw [hx] at ha;cases ha;omega
    · rw [if_neg hl]
      have:lo=hi:=by omega
      subst this
      exact ⟨h4,h5,h1⟩
theorem lH (xs:Array Nat) (j:Nat) (R:Ris xs.toList) :
    (∀ i a,i<SetTable.below xs j→xs[i]?=some a→a<j)∧(∀ i a,SetTable.below xs j≤i→xs[i]?=some a→j≤a)∧SetTable.below xs j≤xs.size :=
  wV xs j R xs.size 0 xs.size (Nat.le_refl _) (by omega) (Nat.zero_le _) (fun i a h=>absurd h (Nat.not_lt_zero _)) (fun i a h e=>by simp [Array.getElem?_eq_none h] at e)
theorem lG {xs:Array Nat} {j k:Nat} (R:Ris xs.toList) (hk:k≤xs.size) (h1:∀ i a,i<k→xs[i]?=some a→a<j) (h2:∀ i a,k≤i→xs[i]?=some a→j≤a):SetTable.below xs j=k:=by
  obtain ⟨b1,b2,b3⟩:=lH xs j R
  rcases Nat.lt_trichotomy (SetTable.below xs j) k with h | h | h
  · have hx:xs[SetTable.below xs j]?=some xs[SetTable.below xs j]:=by simp
    have:=h1 _ _ h hx
    have:=b2 _ _ (Nat.le_refl _) hx
    omega
  · exact h
  · have hk':k<xs.size:=by omega
    have hx:xs[k]?=some xs[k]:=by simp [hk']
    have:=b1 _ _ h hx
    have:=h2 _ _ (Nat.le_refl _) hx
    omega
theorem rM (xs:Array Nat) (R:Ris xs.toList):SetTable.below xs 0=0:=lG R (Nat.zero_le _) (fun i a h=>absurd h (Nat.not_lt_zero _)) fun i a _ _=>Nat.zero_le _
theorem rN {xs:Array Nat} {i a:Nat} (R:Ris xs.toList) (h:xs[i]?=some a):SetTable.below xs (a + 1)=i + 1:=by
  have hi:i<xs.size:=by
    rcases Nat.lt_or_ge i xs.size with h' | h'
    · exact h'
    · simp [Array.getElem?_eq_none h'] at h
  refine lG R hi (fun k b hk hb=>?_) fun k b hk hb=>?_
  · rcases Nat.lt_or_ge k i with h' | h'
    · have:=m8 R h' (by simpa using hb) (by simpa using h);omega
    · have:k=i:=by omega
      subst this;rw [h] at hb;cases hb;omega
  · exact m8 R (show i<k by omega) (by simpa using h) (by simpa using hb)
theorem Af {xs:Array Nat} {j:Nat} (R:Ris xs.toList) (h:xs[SetTable.below xs j]?≠some j):Ris (SetTable.insertAt xs (SetTable.below xs j) j).toList:=by
  obtain ⟨b1,b2,b3⟩:=lH xs j R
  have e:(SetTable.insertAt xs (SetTable.below xs j) j).toList=xs.toList.take (SetTable.below xs j)++j :: xs.toList.drop (SetTable.below xs j):=by
    simp [SetTable.insertAt,List.extract_eq_take_drop,List.take_of_length_le]
  have ha:∀ a∈xs.toList.take (SetTable.below xs j),a<j:=by
    intro a ha
    obtain ⟨i,hi,rfl⟩:=List.getElem_of_mem ha
    rw [List.length_take] at hi
    refine b1 i _ (by omega) ?_
    rw [List.getElem_take,← Array.getElem?_toList]
    exact List.getElem?_eq_getElem _
  have hd:∀ a∈xs.toList.drop (SetTable.below xs j),j<a:=by
    intro a ha'
    obtain ⟨i,hi,rfl⟩:=List.getElem_of_mem ha'
    rw [List.length_drop] at hi
    have hx:xs[SetTable.below xs j + i]?=some (xs.toList.drop (SetTable.below xs j))[i]:=by
      rw [List.getElem_drop,← Array.getElem?_toList]
      exact List.getElem?_eq_getElem _
    have h2:=b2 _ _ (Nat.le_add_right _ i) hx
    rcases Nat.lt_or_ge j (xs.toList.drop (SetTable.below xs j))[i] with h' | h'
    · exact h'
    · exfalso
      have ej:(xs.toList.drop (SetTable.below xs j))[i]=j:=by omega
      rw [ej] at hx
      cases i with
      | zero=>exact h hx
      | succ i =>
        have hlt:SetTable.below xs j<xs.size:=by simp at hi;omega
        have hz:xs[SetTable.below xs j]?=some xs[SetTable.below xs j]:=by simp
        have h3:=b2 _ _ (Nat.le_refl _) hz
        have h4:=m8 R (show SetTable.below xs j<SetTable.below xs j + (i + 1) by omega) (by rw [Array.getElem?_toList];exact hz) (by rw [Array.getElem?_toList];exact hx)
        omega
  rw [e]
  refine List.pairwise_append.mpr ⟨R.sublist (List.take_sublist _ _),List.pairwise_cons.mpr ⟨hd,R.sublist (List.drop_sublist _ _)⟩,fun a h1 b h2=>?_⟩
  rcases List.mem_cons.mp h2 with rfl | h2
  · exact ha a h1
  · exact Nat.lt_trans (ha a h1) (hd b h2)
structure TOk (ld:Bool) (t:SetTable):Prop where
  led:t.led=ld
  dum:t.dummies=#[]
  ris:Ris t.place.toList
theorem TOk.fresh (ld:Bool):TOk ld (.fresh 0 0 ld):=⟨rfl,rfl,List.Pairwise.nil⟩
theorem TOk.standIn {ld:Bool} {t:SetTable} (T:TOk ld t) (n:Nat):TOk ld (t.standIn n) :=
  ⟨T.led,rfl,by show Ris (Array.range n).toList;rw [Array.toList_range];exact List.pairwise_lt_range⟩
theorem TOk.orStandIn {ld:Bool} {t:SetTable} (T:TOk ld t) (n:Nat):TOk ld (t.orStandIn n):=by
  unfold SetTable.orStandIn;split
  · exact T
  · exact T.standIn n
theorem kO {t:SetTable} {j:Nat} (hd:t.dummies=#[]):t.slot j≠.dummy∧(t.slot j=.empty→t.place[SetTable.below t.place j]?≠some j):=by
  unfold SetTable.slot SetTable.has
  rw [hd]
  dsimp only
  split
  · exact ⟨by simp,by simp⟩
  · rename_i hn
    exact ⟨by simp,fun _ e=>hn (by simp [e])⟩
theorem vR {t:SetTable} (hd:t.dummies=#[]) (h:Int):∀ (fuel:Nat) (p:SetTable.Probe) (j:Nat) (d:Option Nat),p.dummy=none→SetTable.probe.go t (fun _=>h + 1) h fuel p=some (.empty j d)→t.slot j=.empty∧d=none:=by
  intro fuel
  induction fuel with
  | zero=>intro p j d _ e;simp [SetTable.probe.go] at e
  | succ f ih =>
    intro p j d hp e
    unfold SetTable.probe.go at e
    cases hs:t.slot p.j with
    | empty=>rw [hs] at e;simp at e;obtain ⟨rfl,rfl⟩:=e;exact ⟨hs,hp⟩
    | dummy=>exact absurd hs (kO hd).1
    | live i =>
      rw [hs] at e
      have hne:(h + 1 == h)=false:=by simp;omega
      simp only [hne,Bool.false_eq_true,if_false] at e
      refine ih _ j d ?_ e
      unfold SetTable.advance
      split <;> exact hp
theorem TOk.put {ld:Bool} {t:SetTable} (T:TOk ld t) {j:Nat} (h:t.slot j=.empty):TOk ld (t.put j).1:=by
  refine ⟨T.led,?_,Af T.ris ((kO T.dum).2 h)⟩
  show (if SetTable.has t.dummies j then SetTable.eraseAt t.dummies (SetTable.below t.dummies j) else t.dummies)=#[]
  rw [T.dum];simp [SetTable.has]
theorem TOk.layNew {ld:Bool} {t:SetTable} (T:TOk ld t) (es:Array (Int × Value)) (h:Int) (x:Value):TOk ld (PySem.layNew t es h x).2.1:=by
  unfold PySem.layNew
  split
  · rename_i sl wd hf
    unfold SetTable.freeSlot SetTable.probe at hf
    split at hf
    · rename_i j d hg
      obtain ⟨h1,rfl⟩:=vR T.dum h _ _ _ _ rfl hg
      simp at hf
      obtain ⟨rfl,rfl⟩:=hf
      exact (T.put h1).orStandIn _
    · cases hf
  · exact T.standIn _
theorem TOk.GX {ld:Bool} {t:SetTable} (T:TOk ld t) (es:Array (Int × Value)) (k:Nat):TOk ld (relayAll t es k).2.1:=by
  unfold relayAll
  split
  · rename_i t' od hr
    dsimp only
    split
    · unfold SetTable.relaid SetTable.laid at hr
      cases hc:SetTable.layClean (SetTable.sizeAbove k - 1) (es.map (·.1)) with
      | none=>rw [hc] at hr;simp at hr
      | some ow =>
        rw [hc] at hr
        simp at hr
        obtain ⟨rfl,rfl⟩:=hr
        refine ⟨T.led,rfl,?_⟩
        show List.Pairwise _ _
        simp only [List.map_filterMap]
        refine List.Pairwise.filterMap _ (R:=(·<·)) (fun a a' hlt b hb b' hb'=>?_) List.pairwise_lt_range
        simp at hb hb'
        obtain ⟨_,_,rfl⟩:=hb
        obtain ⟨_,_,rfl⟩:=hb'
        exact hlt
    · exact T.standIn _
  · exact T.standIn _
theorem jY {α:Type} {l:List α} {i:Nat} (h:i<l.length):([l[i]]++l.eraseIdx i).Perm l:=by
  rw [List.eraseIdx_eq_take_drop_succ]
  conv=>rhs;rw [← List.take_append_drop i l,List.drop_eq_getElem_cons h]
  show (l[i] :: (List.take i l++List.drop (i + 1) l)).Perm _
  exact List.perm_middle.symm
theorem Ai {α:Type} (f:Nat→Nat):∀ (n k:Nat) (l:List α) (out:Array α),l.length=n→(pickOrder.go f n k l out).toList.Perm (out.toList++l):=by
  intro n
  induction n with
  | zero=>intro k l out hl;have:l=[]:=List.length_eq_zero_iff.mp hl;subst this;unfold pickOrder.go;simp
  | succ n ih =>
    intro k l out hl
    unfold pickOrder.go
    have hi:f k % l.length<l.length:=Nat.mod_lt _ (by omega)
    rw [List.getElem?_eq_getElem hi]
    dsimp only
    refine (ih _ _ _ (by rw [List.length_eraseIdx_of_lt hi];omega)).trans ?_
    rw [Array.toList_push,List.append_assoc]
    refine List.Perm.append_left _ ?_
    exact jY hi
theorem tU {α:Type} (f:Nat→Nat) (xs:Array α):(pickOrder f xs).toList.Perm xs.toList:=by
  have:=Ai f xs.size 0 xs.toList #[] (by simp)
  rw [show (#[]:Array α).toList++xs.toList=xs.toList by simp] at this
  exact this
end L2
namespace L2
open PySem
abbrev Gk (w:World):Bool:=!w.params.followText "set-order"
structure mO (w:World) (h:Heap) (a:Addr) (es:Array (Int × Value)) (ep:Nat) (t:SetTable):Prop where
  ob:∃ o,h.get? a=some o∧o.cls=.type "set"∧o.data=.set es ep t
  fit:t.place.size=es.size∧t.fill≤t.mask
  tab:TOk (Gk w) t
theorem mO.at {w:World} {h h':Heap} {a:Addr} {es:Array (Int × Value)} {ep:Nat} {t:SetTable} (S:mO w h a es ep t) (k:∀ o,h.get? a=some o→h'.get? a=some o):mO w h' a es ep t :=
  ⟨let ⟨o,x,r⟩:=S.ob;⟨o,k o x,r⟩,S.fit,S.tab⟩
def eE (h:Heap) (I a:Addr) (fst:Value) (i n ep:Nat):Prop :=
  ∃ o,h.get? I=some o∧o.cls=.type "set_iterator"∧o.data=.fields #[fst,rawInt i,.ref a,rawInt n,rawInt ep]
theorem bK:Slot "set_iterator" "__next__" "set_iterator.__next__" :=
  .of (owner:="set_iterator") (n:="__next__") (by rw [typeLookup_type,builtinLookup_eq_fast];kernel_rfl) (by decide +kernel)
    (by decide +kernel) (by decide +kernel) (.inl (by decide +kernel)) (by rw [isSubtype_type];kernel_rfl)
theorem jk:Slot "set_iterator" "__iter__" "set_iterator.__iter__" :=
  .of (owner:="set_iterator") (n:="__iter__") (by rw [typeLookup_type,builtinLookup_eq_fast];kernel_rfl) (by decide +kernel)
    (by decide +kernel) (by decide +kernel) (.inl (by decide +kernel)) (by rw [isSubtype_type];kernel_rfl)
theorem fD:entryFor table "set_iterator.__next__"=some Builtin.«set_iterator.__next__»:=entryFor_of_fast (by kernel_rfl)
theorem mH:entryFor table "set_iterator.__iter__"=some Builtin.«dict_keyiterator.__iter__» :=
  entryFor_alias (id':="dict_keyiterator.__iter__") (by kernel_rfl) rfl
    (by decide +kernel) (by kernel_rfl)
theorem nO:entryFor table "set.__iter__"=some Builtin.«frozenset.__iter__» :=
  entryFor_alias (id':="frozenset.__iter__") (by kernel_rfl) rfl
    (by decide +kernel) (by kernel_rfl)
theorem gq (v:Value):argsOk "set_iterator.__next__" ⟨[v],[]⟩:=by
  unfold argsOk
  kernel_rfl
theorem oh (v:Value):argsOk "set_iterator.__iter__" ⟨[v],[]⟩:=by
  unfold argsOk
  kernel_rfl
section
variable {prog:Program} {w:World} {A:Around} {E:Value→Shared→Prop} {s:Shared} {a I:Addr} {es:Array (Int × Value)} {ep:Nat} {t:SetTable}
theorem eE.ty {fst:Value} {i n:Nat} (h:eE s.heap I a fst i n ep):s.TypeIs (.ref I) "set_iterator":=let ⟨o,x,y,_⟩:=h;⟨o,x,y⟩
theorem cF {Q:(Array (Int × Value) × Nat × SetTable)→Shared→Prop} (S:mO w s.heap a es ep t) (h:Q (es,ep,t) s):wpAny (model prog w) A (setState a) Q E s:=by
  obtain ⟨o,ho,_,hd⟩:=S.ob
  unfold setState
  refine wpAny_bind (wpAny_load ho ?_)
  rw [hd]
  dsimp only
  have hc:(t.place.size != es.size || decide (t.fill > t.mask))=false:=by simp [S.fit.1,Nat.not_lt.mpr S.fit.2]
  rw [hc]
  simp only [Bool.false_eq_true,↓reduceIte]
  exact wpAny_pure h
theorem rR {α:Type} {Q:α→Shared→Prop} (hh:A.handled=none) (h:∀ x h',(∃ o,h'.get? x=some o∧o.cls=.type "StopIteration")→(∀ b o,s.heap.get? b=some o→h'.get? b=some o)→E (.ref x) { s with heap:=h' }) :
    wpAny (model prog w) A (do raiseNew (← newExc (.type "StopIteration") []):Sem α) Q E s:=by
  refine wpAny_bind ?_
  simp only [newExc,newTuple]
  refine wpAny_bind (wpAny_newObj_type ?_ (by size_fits))
  refine wpAny_bind (m:=firstArgMember _ _) (wpAny_of_eq (a:=Value.none) (by first | rfl | (simp only [firstArgMember];rfl)) ?_)
  refine wpAny_newObj_type ?_ (by size_fits)
  simp only [raiseNew]
  refine wpAny_bind (wpAny_handled ?_)
  rw [hh]
  refine wpAny_bind (wpAny_pure (wpAny_throw (h _ _ ⟨_,Heap.get?_push_size _ rfl,rfl⟩ fun b o e=>?_)))
  exact Heap.get?_push_of_some _ (Heap.get?_push_of_some _ e)
end
end L2
namespace L2
open PySem
section
variable {prog:Program} {w:World} {A:Around} {E:Value→Shared→Prop} {s:Shared} {a I:Addr} {es:Array (Int × Value)} {ep:Nat} {t:SetTable}
theorem gA {Q:Array (Int × Value)→Shared→Prop} (S:mO w s.heap a es ep t) (h:Q es s):wpAny (model prog w) A (setEntries a) Q E s:=by
  unfold setEntries
  exact wpAny_bind (cF S (wpAny_pure h))
theorem jh {sl i:Nat} {Q:Option (Value × Nat)→Shared→Prop} (ht:w.params.followText "set-order"=true) (S:mO w s.heap a es ep t)
    (h:Q (((pickOrder (w.params.setOrder a ep) es)[i]?).map fun e=>(e.2,sl)) s):wpAny (model prog w) A (setNext a sl i ep) Q E s:=by
  unfold setNext setsByText
  refine wpAny_bind (cF S ?_)
  dsimp only
  refine wpAny_bind (wpAny_bind (wpAny_askSetting (wpAny_pure ?_)))
  show wpAny _ _ (if w.params.followText "set-order"=true then _ else _) _ _ _
  rw [if_pos ht]
  rw [if_neg (by simp)]
  unfold setWalk setsByText
  refine wpAny_bind (wpAny_bind (cF S ?_))
  dsimp only
  refine wpAny_bind (wpAny_bind (wpAny_askSetting (wpAny_pure ?_)))
  show wpAny _ _ (if w.params.followText "set-order"=true then _ else _) _ _ _
  rw [if_pos ht]
  exact wpAny_bind (wpAny_askSetting (wpAny_pure (wpAny_pure h)))
theorem gU {sl i:Nat} {Q:Option (Value × Nat)→Shared→Prop} (ht:w.params.followText "set-order"=false) (hp:(!t.plain && decide (es.size > 1))=false) (S:mO w s.heap a es ep t)
    (h:Q (match es[SetTable.below t.place sl]?,t.place[SetTable.below t.place sl]? with | some (_,x),some j=>some (x,j + 1) | _,_=>none) s):wpAny (model prog w) A (setNext a sl i ep) Q E s:=by
  unfold setNext setsByText
  refine wpAny_bind (cF S ?_)
  dsimp only
  refine wpAny_bind (wpAny_bind (wpAny_askSetting (wpAny_pure ?_)))
  show wpAny _ _ (if w.params.followText "set-order"=true then _ else _) _ _ _
  rw [if_neg (by rw [ht];decide)]
  refine wpAny_bind (wpAny_pure ?_)
  show wpAny _ _ (if (!t.plain && decide (es.size > 1))=true then _ else _) _ _ _
  rw [if_neg (by rw [hp];decide)]
  have hl:t.led=true:=by rw [S.tab.led];show (!w.params.followText "set-order")=true;rw [ht];rfl
  refine wpAny_bind ?_
  show wpAny _ _ (if (!t.led && !es.isEmpty)=true then _ else _) _ _ _
  rw [if_neg (by rw [hl];simp)]
  exact wpAny_pure (wpAny_pure h)
theorem jx {fst i n:Nat} {Q:Option Value→Shared→Prop} (hh:A.handled=none) (S:mO w s.heap a es ep t) (hn:n=es.size) (It:eE s.heap I a (rawInt fst) i n ep) (r:Option (Value × Nat))
    (hr:∀ (A':Around) (E':Value→Shared→Prop) (Q':Option (Value × Nat)→Shared→Prop),Q' r s→wpAny (model prog w) A' (setNext a fst i ep) Q' E' s)
    (h:∀ h',(∀ b o,b≠I→s.heap.get? b=some o→h'.get? b=some o)→(∀ x k,r=some (x,k)→eE h' I a (rawInt k) (i + 1) n ep)→Q (r.map (·.1)) { s with heap:=h' }) :
    wpAny (model prog w) A (pyNext (.ref I)) Q E s:=by
  obtain ⟨o,ho,hc,hd⟩:=id It
  unfold pyNext
  refine wpAny_bind (wpAny_attempt (wpAny_callSpecial?_slot (name:=Str.ofString "__next__") It.ty bK (wpAny_call_entry bK It.ty fD ?_ (gq _))))
  show wpAny _ _ (fieldsOf (.ref I) >>= _) _ _ s
  refine wpAny_bind (wpAny_fieldsOf ho hd ?_)
  show wpAny _ _ (setEntries a >>= _) _ _ s
  refine wpAny_bind (gA S ?_)
  rw [if_neg (by subst hn;simp)]
  show wpAny _ _ (setNext a (Int.toNat (fst:Int)) (Int.toNat (i:Int)) (Int.toNat (ep:Int)) >>= _) _ _ s
  simp only [Int.toNat_natCast]
  refine wpAny_bind (hr _ _ _ ?_)
  cases r with
  | none =>
    dsimp only
    refine wpAny_bind (wpAny_setField ho hd (by simp) ?_)
    refine rR hh fun x h' hx hk=>?_
    refine wpAny_bind (wpAny_isInstance (T:="StopIteration") (b:=true) hx isSubtype_stop ?_)
    exact wpAny_pure (h h' (fun b o hb e=>hk b o ((Heap.get?_update_other _ _ (Ne.symm hb)).trans e)) (fun _ _ z=>nomatch z))
  | some p =>
    obtain ⟨x,k⟩:=p
    dsimp only
    refine wpAny_bind (wpAny_setField ho hd (by simp) ?_)
    have ho1:=Heap.get?_update_self (Obj.mapFields (·.setIfInBounds 0 (rawInt k))) ho (Obj.isFreed_of_fields (Obj.data_mapFields hd _))
    have hd1:=Obj.data_mapFields hd (·.setIfInBounds 0 (rawInt k))
    refine wpAny_bind (wpAny_setField ho1 hd1 (by simp) ?_)
    refine wpAny_pure ⟨x,rfl,wpAny_pure (h _ (fun b o hb e=>?_) fun x' k' e=>?_)⟩
    · exact (Heap.get?_update_other _ _ (Ne.symm hb)).trans ((Heap.get?_update_other _ _ (Ne.symm hb)).trans e)
    · cases e
      exact ⟨_,Heap.get?_update_self _ ho1 (Obj.isFreed_of_fields (Obj.data_mapFields hd1 _)),(Obj.cls_mapFields ..).trans ((Obj.cls_mapFields ..).trans hc),by
        rw [Obj.data_mapFields hd1];simp [rawInt]⟩
theorem jV {fst:Value} {i n:Nat} {Q:Value→Shared→Prop} (It:eE s.heap I a fst i n ep) (h:Q (.ref I) s):wpAny (model prog w) A (pyIter (.ref I)) Q E s:=by
  refine wpAny_pyIter_slot It.ty jk (wpAny_call_entry jk It.ty mH ?_ (oh _))
  show wpAny _ _ (ret (.ref I)) _ _ s
  exact wpAny_pure ⟨_,rfl,"set_iterator",_,It.ty,bK.lookup,h⟩
theorem eE.at {h h':Heap} {fst:Value} {i n:Nat} (x:eE h I a fst i n ep) (k:∀ o,h.get? I=some o→h'.get? I=some o):eE h' I a fst i n ep:=let ⟨o,y,r⟩:=x;⟨o,k o y,r⟩
theorem qQ (hh:A.handled=none) (ht:w.params.followText "set-order"=true) (hne:a≠I) (vs:List Value) (hv:vs=((pickOrder (w.params.setOrder a ep) es).toList.map (·.2))) (hl:vs.length=es.size) :
    Walks prog w A I [I,a] [I] vs.length (fun i v=>vs[i]?=some v) (fun i h=>eE h I a (rawInt (0:Nat)) i es.size ep∧mO w h a es ep t) where
  sub:=fun b hb=>by simp at hb;simp [hb]
  frame:=fun _ _ _ st hk=>⟨st.1.at fun o e=>hk I (by simp) o e,st.2.at fun o e=>hk a (by simp) o e⟩
  item:=fun i s Q E hi st hQ=>by
    obtain ⟨e,he⟩:∃ e,(pickOrder (w.params.setOrder a ep) es)[i]?=some e:=by
      have:i<(pickOrder (w.params.setOrder a ep) es).size:=by rw [hv] at hi;simpa using hi
      exact ⟨_,by simp [this];rfl⟩
    have hx:vs[i]?=some e.2:=by rw [hv,List.getElem?_map,Array.getElem?_toList,he];rfl
    refine jx hh st.2 rfl st.1 (some (e.2,0)) (fun A' E' Q' q=>jh ht st.2 (by rw [he];exact q)) fun h' k it=>?_
    exact hQ e.2 h' s.toks hx ⟨it _ _ rfl,st.2.at fun o z=>k a o hne z⟩ fun b o hb z=>k b o (fun q=>hb (by simp [q])) z
  done:=fun s Q E st hQ=>by
    have he:(pickOrder (w.params.setOrder a ep) es)[vs.length]?=none:=by
      rw [hv];simp
    refine jx hh st.2 rfl st.1 none (fun A' E' Q' q=>jh ht st.2 (by rw [he];exact q)) fun h' k it=>?_
    exact hQ h' s.toks fun b o hb z=>k b o (fun q=>hb (by simp [q])) z
  self:=fun _ _ _ _ st hQ=>jV st.1 hQ
theorem oO (hh:A.handled=none) (ht:w.params.followText "set-order"=false) (hp:(!t.plain && decide (es.size > 1))=false) (hne:a≠I) (vs:List Value) (hv:vs=(es.toList.map (·.2))) :
    Walks prog w A I [I,a] [I] vs.length (fun i v=>vs[i]?=some v) (fun i h=>(∃ k:Nat,eE h I a (rawInt k) i es.size ep∧SetTable.below t.place k=i)∧mO w h a es ep t) where
  sub:=fun b hb=>by simp at hb;simp [hb]
  frame:=fun _ _ _ st hk=>⟨let ⟨k,x,y⟩:=st.1;⟨k,x.at fun o e=>hk I (by simp) o e,y⟩,st.2.at fun o e=>hk a (by simp) o e⟩
  item:=fun i s Q E hi st hQ=>by
    obtain ⟨⟨k,it,hb⟩,S⟩:=st
    have hi':i<es.size:=by rw [hv] at hi;simpa using hi
    have hip:i<t.place.size:=by rw [S.fit.1];exact hi'
    have he:es[i]?=some (es[i].1,es[i].2):=by rw [Array.getElem?_eq_getElem hi']
    have hq:t.place[i]?=some t.place[i]:=by rw [Array.getElem?_eq_getElem hip]
    have hx:vs[i]?=some es[i].2:=by rw [hv,List.getElem?_map,Array.getElem?_toList,he];rfl
    refine jx hh S rfl it (some (es[i].2,t.place[i] + 1)) (fun A' E' Q' q=>gU ht hp S (by rw [hb,he,hq];exact q)) fun h' kk it'=>?_
    exact hQ es[i].2 h' s.toks hx ⟨⟨_,it' _ _ rfl,rN S.tab.ris hq⟩,S.at fun o z=>kk a o hne z⟩ fun b o hb z=>kk b o (fun q=>hb (by simp [q])) z
  done:=fun s Q E st hQ=>by
    obtain ⟨⟨k,it,hb⟩,S⟩:=st
    have he:es[vs.length]?=none:=by rw [hv];simp
    refine jx hh S rfl it none (fun A' E' Q' q=>gU ht hp S (by rw [hb,he];exact q)) fun h' kk it'=>?_
    exact hQ h' s.toks fun b o hb z=>kk b o (fun q=>hb (by simp [q])) z
  self:=fun _ _ _ _ st hQ=>let ⟨k,x,y⟩:=st.1;jV x hQ
end
end L2
namespace L2
open PySem
section
variable {prog:Program} {w:World} {A:Around} {E:Value→Shared→Prop} {s:Shared} {a I:Addr} {es:Array (Int × Value)} {ep:Nat} {t:SetTable}
theorem wp_choose {src:Source} {n:Nat} {Q:Nat→Shared→Prop} (hn:n≠0) (h:∀ k d',k<n→Q k { s with drawn:=d' }):wpAny (model prog w) A (choose src n) Q E s :=
  fun _ _ _=>⟨hn,h _ _ (Nat.mod_lt _ (Nat.pos_of_ne_zero hn))⟩
theorem zV:∀ (n:Nat) (xs:List Nat) {s:Shared} {Q:List Nat→Shared→Prop},xs.length=n→(∀ ys d',ys.Perm xs→Q ys { s with drawn:=d' })→wpAny (model prog w) A (drawOrder n xs) Q E s:=by
  intro n
  induction n with
  | zero =>
    intro xs s Q hl h
    have:xs=[]:=List.length_eq_zero_iff.mp hl
    subst this
    exact wpAny_pure (h [] s.drawn List.Perm.nil)
  | succ n ih =>
    intro xs s Q hl h
    match xs,hl with
    | x :: xs,hl =>
      unfold drawOrder
      refine wpAny_bind (wp_choose (by simp) fun k d' hk=>?_)
      rw [List.getElem?_eq_getElem hk]
      dsimp only
      refine wpAny_bind (ih _ (by rw [List.length_eraseIdx_of_lt hk];simp at hl ⊢;exact hl) fun ys d'' hp=>wpAny_pure (h _ d'' ?_))
      exact ((List.Perm.cons _ hp).trans (jY hk))
theorem lJ {k:Nat} {e:Int × Value} {Q:Value→Shared→Prop} (S:mO w s.heap a es ep t) (he:es[k]?=some e) (h:Q e.2 s):wpAny (model prog w) A (setNextDrawn a k ep) Q E s:=by
  unfold setNextDrawn
  refine wpAny_bind (cF S ?_)
  dsimp only
  rw [if_neg (by simp),he]
  exact wpAny_pure h
def IsTup (h:Heap) (T:Addr) (l:List Nat):Prop:=∃ o,h.get? T=some o∧o.data=.seq (l.map fun (i:Nat)=>rawInt i).toArray 0
theorem oR {T:Addr} (hh:A.handled=none) (hne:a≠I) (hT:T≠I) (od:List Nat) (hod:od.length=es.size) (hlt:∀ k∈od,k<es.size) (vs:List Value) (hv:vs=od.map fun k=>(es.getD k (0,.none)).2) :
    Walks prog w A I [I,a,T] [I] vs.length (fun i v=>vs[i]?=some v) (fun i h=>eE h I a (.ref T) i es.size ep∧mO w h a es ep t∧IsTup h T od) where
  sub:=fun b hb=>by simp at hb;simp [hb]
  frame:=fun _ _ _ st hk=>⟨st.1.at fun o e=>hk I (by simp) o e,st.2.1.at fun o e=>hk a (by simp) o e,let ⟨o,x,y⟩:=st.2.2;⟨o,hk T (by simp) o x,y⟩⟩
  item:=fun i s Q E hi st hQ=>by
    obtain ⟨It,S,To⟩:=st
    obtain ⟨o,ho,hc,hd⟩:=id It
    obtain ⟨oT,hoT,hdT⟩:=id To
    have hi':i<od.length:=by rw [hv] at hi;simpa using hi
    have hk:od[i]<es.size:=hlt _ (List.getElem_mem hi')
    have he:es[od[i]]?=some es[od[i]]:=by rw [Array.getElem?_eq_getElem hk]
    have hx:vs[i]?=some es[od[i]].2:=by
      rw [hv,List.getElem?_map,List.getElem?_eq_getElem hi']
      show some (es.getD od[i] (0,.none)).2=_
      rw [Array.getD_eq_getD_getElem?,he];rfl
    have hpl:((od.map fun (i:Nat)=>rawInt i).toArray)[i]?=some (rawInt (od[i]:Nat)):=by
      rw [List.getElem?_toArray,List.getElem?_map,List.getElem?_eq_getElem hi'];rfl
    unfold pyNext
    refine wpAny_bind (wpAny_attempt (wpAny_callSpecial?_slot (name:=Str.ofString "__next__") It.ty bK (wpAny_call_entry bK It.ty fD ?_ (gq _))))
    show wpAny _ _ (fieldsOf (.ref I) >>= _) _ _ s
    refine wpAny_bind (wpAny_fieldsOf ho hd ?_)
    show wpAny _ _ (setEntries a >>= _) _ _ s
    refine wpAny_bind (gA S ?_)
    rw [if_neg (by simp)]
    show wpAny _ _ (seqItems? (.ref T) >>= _) _ _ s
    refine wpAny_bind (wpAny_seqItems hoT hdT ?_)
    show wpAny _ _ (match ((od.map fun (i:Nat)=>rawInt i).toArray)[Int.toNat (i:Int)]? with | some (.int place _)=>_ | some _=>_ | none=>_) _ _ s
    simp only [Int.toNat_natCast,hpl]
    show wpAny _ _ (setNextDrawn a (Int.toNat (od[i]:Nat)) (Int.toNat (ep:Nat)) >>= _) _ _ s
    simp only [Int.toNat_natCast]
    refine wpAny_bind (lJ S he ?_)
    refine wpAny_bind (wpAny_setField ho hd (by simp) ?_)
    have kk:∀ b o,b≠I→s.heap.get? b=some o→(s.heap.update I (Obj.mapFields (·.setIfInBounds 1 (rawInt ((i:Int) + 1))))).get? b=some o:=fun b o hb e=>(Heap.get?_update_other _ _ (Ne.symm hb)).trans e
    refine wpAny_pure ⟨_,rfl,wpAny_pure (hQ _ _ s.toks hx ⟨?_,S.at fun o z=>kk a o hne z,oT,kk T oT hT hoT,hdT⟩ fun b o hb z=>kk b o (fun q=>hb (by simp [q])) z)⟩
    exact ⟨_,Heap.get?_update_self _ ho (Obj.isFreed_of_fields (Obj.data_mapFields hd _)),(Obj.cls_mapFields ..).trans hc,by rw [Obj.data_mapFields hd];simp [rawInt]⟩
  done:=fun s Q E st hQ=>by
    obtain ⟨It,S,To⟩:=st
    obtain ⟨o,ho,hc,hd⟩:=id It
    obtain ⟨oT,hoT,hdT⟩:=id To
    have hl:vs.length=od.length:=by rw [hv];simp
    have hpl:((od.map fun (i:Nat)=>rawInt i).toArray)[vs.length]?=none:=by rw [List.getElem?_toArray,List.getElem?_map,hl];simp
    unfold pyNext
    refine wpAny_bind (wpAny_attempt (wpAny_callSpecial?_slot (name:=Str.ofString "__next__") It.ty bK (wpAny_call_entry bK It.ty fD ?_ (gq _))))
    show wpAny _ _ (fieldsOf (.ref I) >>= _) _ _ s
    refine wpAny_bind (wpAny_fieldsOf ho hd ?_)
    show wpAny _ _ (setEntries a >>= _) _ _ s
    refine wpAny_bind (gA S ?_)
    rw [if_neg (by simp)]
    show wpAny _ _ (seqItems? (.ref T) >>= _) _ _ s
    refine wpAny_bind (wpAny_seqItems hoT hdT ?_)
    show wpAny _ _ (match ((od.map fun (i:Nat)=>rawInt i).toArray)[Int.toNat (vs.length:Int)]? with | some (.int place _)=>_ | some _=>_ | none=>_) _ _ s
    simp only [Int.toNat_natCast,hpl]
    refine wpAny_bind (wpAny_setField ho hd (by simp) ?_)
    have ho1:=Heap.get?_update_self (Obj.mapFields (·.setIfInBounds 0 (rawInt 0))) ho (Obj.isFreed_of_fields (Obj.data_mapFields hd _))
    have hd1:=Obj.data_mapFields hd (·.setIfInBounds 0 (rawInt 0))
    refine wpAny_bind (wpAny_setField ho1 hd1 (by simp) ?_)
    refine rR hh fun x h' hx hk=>?_
    refine wpAny_bind (wpAny_isInstance (T:="StopIteration") (b:=true) hx isSubtype_stop ?_)
    exact wpAny_pure (hQ h' s.toks fun b o hb e=>hk b o ((Heap.get?_update_other _ _ (fun q:I=b=>hb (by simp [q]))).trans ((Heap.get?_update_other _ _ (fun q:I=b=>hb (by simp [q]))).trans e)))
  self:=fun _ _ _ _ st hQ=>jV st.1 hQ
theorem rz {α:Type} (xs:List α) (d:α) {od:List Nat} (h:od.Perm (List.range xs.length)):(od.map fun k=>xs.getD k d).Perm xs:=by
  refine (h.map _).trans (List.Perm.of_eq ?_)
  refine List.ext_getElem (by simp) fun i h1 h2=>?_
  simp at h1 ⊢
  rw [List.getElem?_eq_getElem h1]
  rfl
theorem pI (v:Value):argsOk "set.__iter__" ⟨[v],[]⟩:=by
  unfold argsOk
  kernel_rfl
theorem jF:Slot "set" "__iter__" "set.__iter__" :=
  .of (owner:="set") (n:="__iter__") (by rw [typeLookup_type,builtinLookup_eq_fast];kernel_rfl) (by decide +kernel)
    (by decide +kernel) (by decide +kernel) (.inl (by decide +kernel)) (by rw [isSubtype_type];kernel_rfl)
theorem wG {Q:Value→Shared→Prop} (S:mO w s.heap a es ep t) (hb:es.size<scanBound) (hh:A.handled=none)
    (h:∀ (I:Addr) (fp:List Addr) (vs:List Value) (St:Nat→Heap→Prop) (h':Heap) d',s.heap.objs.size≤I→(∀ b o,s.heap.get? b=some o→h'.get? b=some o)→(∃ o,h'.get? I=some o∧o.cls=.type "set_iterator") →
      (∀ b∈fp,b=a∨s.heap.objs.size≤b)→Walks prog w A I fp [I] vs.length (fun i v=>vs[i]?=some v) St→St 0 h'→vs.Perm (es.toList.map (·.2))→Q (.ref I) { s with heap:=h',drawn:=d' }) :
    wpAny (model prog w) A (pyIter (.ref a)) Q E s:=by
  obtain ⟨oa,hoa,hca,hda⟩:=S.ob
  have hta:s.TypeIs (.ref a) "set":=⟨oa,hoa,hca⟩
  have hlt:a<s.heap.objs.size:=Heap.lt_size hoa
  refine wpAny_pyIter_slot hta jF (wpAny_call_entry jF hta nO ?_ (pI _))
  show wpAny _ _ (Builtin.Frozenset.sizeOf a >>= _) _ _ s
  unfold Builtin.Frozenset.sizeOf
  refine wpAny_bind (wpAny_bind (gA S (wpAny_pure ?_)))
  unfold setDrawn setsByText
  refine wpAny_bind (wpAny_bind (cF S (wpAny_bind (wpAny_bind (wpAny_askSetting (wpAny_pure ?_))))))
  show wpAny _ _ (pure (!w.params.followText "set-order" && (!t.plain && decide (es.size > 1)))) _ _ s
  refine wpAny_pure ?_
  by_cases hd:(!w.params.followText "set-order" && (!t.plain && decide (es.size > 1)))=true
  · rw [if_pos hd]
    refine wpAny_bind (zV es.size (List.range es.size) (by simp) fun od d' hp=>?_)
    have hodl:od.length=es.size:=by rw [hp.length_eq];simp
    refine wpAny_bind (wpAny_newTuple ?_ (by rw [List.length_map,hodl,sizeLine_eq];unfold scanBound at hb;omega))
    have hto:(s.heap.push { cls:=.type "tuple",data:=.seq (od.map fun (i:Nat)=>rawInt i).toArray }).get? s.heap.objs.size=some { cls:=.type "tuple",data:=.seq (od.map fun (i:Nat)=>rawInt i).toArray }:=Heap.get?_push_size _ rfl
    refine wpAny_bind ?_
    unfold setEpoch
    have S1:mO w (s.heap.push { cls:=.type "tuple",data:=.seq (od.map fun (i:Nat)=>rawInt i).toArray }) a es ep t:=S.at fun o e=>Heap.get?_push_of_some _ e
    refine wpAny_bind (cF S1 (wpAny_pure ?_))
    unfold newFields
    refine wpAny_bind (wpAny_newObj_type ?_ (by size_fits))
    refine wpAny_pure ⟨_,rfl,"set_iterator",_,⟨_,Heap.get?_push_size _ rfl,rfl⟩,bK.lookup,?_⟩
    have hsz:(s.heap.push { cls:=.type "tuple",data:=.seq (od.map fun (i:Nat)=>rawInt i).toArray }).objs.size=s.heap.objs.size + 1:=Heap.size_push _ _
    have hvs:=rz (es.toList) ((0:Int),Value.none) (od:=od) (by simpa using hp)
    refine h _ [_,a,s.heap.objs.size] ((od.map fun k=>(es.getD k (0,.none)).2)) _ _ d' (by rw [hsz];omega) (fun b o e=>Heap.get?_push_of_some _ (Heap.get?_push_of_some _ e)) ⟨_,Heap.get?_push_size _ rfl,rfl⟩ (fun b hb=>?_)
      (oR (T:=s.heap.objs.size) (es:=es) (ep:=ep) (t:=t) hh (Nat.ne_of_lt (by rw [hsz];exact Nat.lt_succ_of_lt hlt)) (Nat.ne_of_lt (by rw [hsz];exact Nat.lt_succ_self _)) od hodl (fun k hk=>by simpa using hp.mem_iff.mp hk) _ rfl) ⟨⟨_,Heap.get?_push_size _ rfl,rfl,rfl⟩,S1.at fun o e=>Heap.get?_push_of_some _ e,_,Heap.get?_push_of_some _ hto,rfl⟩ ?_
    · rcases List.mem_cons.mp hb with rfl | hb
      · exact .inr (by rw [hsz];exact Nat.le_succ _)
      · rcases List.mem_cons.mp hb with rfl | hb
        · exact .inl rfl
        · exact .inr (by rw [List.mem_singleton.mp hb];exact Nat.le_refl _)
    · have:=hvs.map (·.2)
      rw [List.map_map] at this
      refine List.Perm.trans (List.Perm.of_eq ?_) this
      refine List.map_congr_left fun k _=>?_
      show _=(es.toList.getD k _).2
      rw [Array.getD_eq_getD_getElem?,List.getD_eq_getElem?_getD,Array.getElem?_toList]
  · rw [if_neg hd]
    refine wpAny_bind (wpAny_pure ?_)
    refine wpAny_bind ?_
    unfold setEpoch
    refine wpAny_bind (cF S (wpAny_pure ?_))
    unfold newFields
    refine wpAny_bind (wpAny_newObj_type ?_ (by size_fits))
    refine wpAny_pure ⟨_,rfl,"set_iterator",_,⟨_,Heap.get?_push_size _ rfl,rfl⟩,bK.lookup,?_⟩
    have hfp:∀ b∈[s.heap.objs.size,a],b=a∨s.heap.objs.size≤b:=by
      intro b hb
      rcases List.mem_cons.mp hb with rfl | hb
      · exact .inr (Nat.le_refl _)
      · exact .inl (List.mem_singleton.mp hb)
    have hS:=S.at (h':=s.heap.push { cls:=.type "set_iterator",data:=.fields [rawInt 0,rawInt 0,Value.ref a,rawInt es.size,rawInt ep].toArray }) fun o e=>Heap.get?_push_of_some _ e
    cases hx:w.params.followText "set-order" with
    | true =>
      have hpp:=tU (w.params.setOrder a ep) es
      refine h _ [_,a] ((pickOrder (w.params.setOrder a ep) es).toList.map (·.2)) _ _ s.drawn (Nat.le_refl _) (fun b o e=>Heap.get?_push_of_some _ e) ⟨_,Heap.get?_push_size _ rfl,rfl⟩ hfp
        (qQ (es:=es) (ep:=ep) (t:=t) hh hx (Nat.ne_of_lt hlt) _ rfl (by rw [List.length_map,hpp.length_eq];simp)) ⟨⟨_,Heap.get?_push_size _ rfl,rfl,rfl⟩,hS⟩ (hpp.map _)
    | false =>
      refine h _ [_,a] (es.toList.map (·.2)) _ _ s.drawn (Nat.le_refl _) (fun b o e=>Heap.get?_push_of_some _ e) ⟨_,Heap.get?_push_size _ rfl,rfl⟩ hfp
        (oO (es:=es) (ep:=ep) (t:=t) hh hx (by rw [hx] at hd;simpa using hd) (Nat.ne_of_lt hlt) _ rfl) ⟨⟨0,⟨_,Heap.get?_push_size _ rfl,rfl,rfl⟩,rM _ S.tab.ris⟩,hS⟩ (List.Perm.refl _)
end
end L2
namespace L2
open PySem
section
variable {prog:Program} {w:World} {A:Around} {E:Value→Shared→Prop} {s:Shared} {a I:Addr} {es:Array (Int × Value)} {ep:Nat} {t:SetTable}
theorem qZ:Slot "set" "__len__" "set.__len__" :=
  .of (owner:="set") (n:="__len__") (by rw [typeLookup_type,builtinLookup_eq_fast];kernel_rfl) (by decide +kernel)
    (by decide +kernel) (by decide +kernel) (.inl (by decide +kernel)) (by rw [isSubtype_type];kernel_rfl)
theorem wH {Q:Bool→Shared→Prop} (hT:s.TypeIs (.ref a) "set") (h:Q false s):wpAny (model prog w) A (Builtin.List.listLengthHint (.ref a)) Q E s:=by
  unfold Builtin.List.listLengthHint
  refine wpAny_bind (wpAny_specialOf hT qZ.lookup ?_)
  generalize hid:("set.__len__":String)=id0
  wp_delta
  rw [show splitId id0=some ("set","__len__") from by subst hid;decide +kernel]
  subst hid
  refine wpAny_bind (wpAny_isInstance (T:="set") (b:=true) hT (by rw [isSubtype_type];kernel_rfl) ?_)
  refine wpAny_ite_split (fun hab=>absurd hab (by decide)) (fun _=>?_)
  refine wpAny_ite_split (fun _=>?_) (fun hab=>absurd (by decide +kernel) hab)
  refine wpAny_bind (wpAny_typeOf hT ?_)
  exact wpAny_pure h
theorem pF {Q:List Value→Shared→Prop} (S:mO w s.heap a es ep t) (hb:es.size<scanBound) (hh:A.handled=none)
    (h:∀ (vs:List Value) (h':Heap) d' tk,s.heap.objs.size<h'.objs.size→(∀ b o,s.heap.get? b=some o→h'.get? b=some o)→vs.Perm (es.toList.map (·.2))→Q vs { s with heap:=h',drawn:=d',toks:=tk }) :
    wpAny (model prog w) A (collect (.ref a)) Q E s:=by
  obtain ⟨oa,hoa,hca,hda⟩:=S.ob
  have hlt:a<s.heap.objs.size:=Heap.lt_size hoa
  unfold collect
  refine wpAny_bind (wpAny_runValue (codeAny_builtin F.entry_proto_collect ?_))
  rw [Around.under_plainId F.plain_proto_collect _]
  show wpAny _ A.in1 (newList [] >>= fun l=>again (.builtin "list.__iadd__" ⟨[l,.ref a],[]⟩)) _ _ s
  refine wpAny_bind (wpAny_newObj_type ?_)
  refine wpAny_pure ⟨plainId_quiet F.plain_list_iadd _,codeAny_builtin F.entry_list_iadd ?_⟩
  rw [Around.under_plainId F.plain_list_iadd _]
  generalize hL:({ cls:=.type "list",data:=.seq ([]:List Value).toArray }:Obj)=L0
  have hS0:(s.heap.push L0).get? s.heap.objs.size=some L0:=Heap.get?_push_size _ (by rw [← hL];rfl)
  have S1:mO w (s.heap.push L0) a es ep t:=S.at fun o e=>Heap.get?_push_of_some _ e
  have hT1:Shared.TypeIs { s with heap:=s.heap.push L0 } (.ref a) "set":=⟨oa,Heap.get?_push_of_some _ hoa,hca⟩
  show wpAny _ A.in1 (Builtin.List.listExtendWith (.ref s.heap.objs.size) (.ref a) (.ref s.heap.objs.size)) _ _ { s with heap:=s.heap.push L0 }
  unfold Builtin.List.listExtendWith
  refine wpAny_bind (wpAny_typeOf hT1 ?_)
  have hne:s.heap.objs.size≠a:=Nat.ne_of_gt hlt
  have h1:Builtin.List.listSameRef (.ref s.heap.objs.size) (.ref a)=false:=by simp [Builtin.List.listSameRef,hne]
  have h2:(Value.type "set" == Value.type "list" || Value.type "set" == Value.type "tuple")=false:=by decide
  rw [if_neg (by rw [h1,Bool.false_or,h2];decide)]
  refine wpAny_bind (wG S1 hb (show A.in1.handled=none from hh) fun I fp vs St h' d' hI hk hIo hfp W hst hp=>?_)
  have hIs:I≠s.heap.objs.size:=by rw [Heap.size_push] at hI;exact Nat.ne_of_gt (Nat.lt_of_lt_of_le (Nat.lt_succ_self _) hI)
  have hL':(s.heap.push L0).get? s.heap.objs.size=some { cls:=.type "list",data:=.seq #[] }:=by rw [hS0,← hL]
  have hS1:h'.get? s.heap.objs.size=some { cls:=.type "list",data:=.seq #[] }:=hk _ _ hL'
  have hT2:Shared.TypeIs { s with heap:=h',drawn:=d' } (.ref a) "set":=⟨oa,hk _ _ (Heap.get?_push_of_some _ hoa),hca⟩
  refine wpAny_bind (wpAny_holding (wH hT2 ?_))
  refine wpAny_ite_split (fun _=>?_) (fun hab=>absurd (by decide +kernel) hab)
  refine wpAny_bind (wpAny_rule ?_)
  refine wpAny_bind ?_
  show wpAny _ _ (updateSeq s.heap.objs.size (·.push .none) >>= fun _=>updateSeq s.heap.objs.size (·.pop)) _ _ _
  refine wpAny_bind (wpAny_updateSeq hS1 rfl ?_)
  have hS2:=Heap.get?_update_self (Obj.mapSeq (·.push Value.none)) hS1 rfl
  refine wpAny_updateSeq (hz:=by seq_fits) hS2 rfl ?_
  have hS3:=Heap.get?_update_self (Obj.mapSeq (·.pop)) hS2 rfl
  have hSf:s.heap.objs.size ∉ fp:=fun hm=>by
    rcases hfp _ hm with e | e
    · exact hne e
    · rw [Heap.size_push] at e;exact Nat.not_succ_le_self _ e
  have oth:∀ b o,b≠s.heap.objs.size→h'.get? b=some o→((h'.update s.heap.objs.size (Obj.mapSeq (·.push Value.none))).update s.heap.objs.size (Obj.mapSeq (·.pop))).get? b=some o :=
    fun b o hb e=>(Heap.get?_update_other _ _ (Ne.symm hb)).trans ((Heap.get?_update_other _ _ (Ne.symm hb)).trans e)
  have hvl:vs.length≤sizeLine:=by rw [hp.length_eq,List.length_map,sizeLine_eq];unfold scanBound at hb;simp;omega
  refine wpAny_pure ⟨plainId_quiet F.plain_extend_loop _,codeAny_extend_loopS W.toS hvl _ hSf _ vs.length 0 _ _ _ rfl (Nat.zero_le _)
    (W.frame 0 h' _ hst fun b hb o e=>oth b o (fun q=>hSf (q ▸ hb)) e) hS3 (ItemsOf.nil _) fun s' acc c' hm hS' hacc=>?_⟩
  show wpAny _ A (load s.heap.objs.size >>= _) _ _ s'
  refine wpAny_bind (wpAny_load hS' ?_)
  have hv:acc.toList=vs:=by
    refine List.ext_getElem? fun i=>?_
    rw [Array.getElem?_toList]
    cases he:acc[i]? with
    | some v=>exact (hacc.2 i v he).symm
    | none =>
      have:acc.size≤i:=by
        rcases Nat.lt_or_ge i acc.size with q | q
        · rw [Array.getElem?_eq_getElem q] at he;cases he
        · exact q
      rw [hacc.1] at this
      exact (List.getElem?_eq_none this).symm
  obtain ⟨hp',g',d2,tk',os'⟩:=s'
  have e1:g'=s.gens:=hm.gens
  have e2:d2=d':=hm.drawn
  have e3:os'=s.os:=hm.os
  subst e1 e2 e3
  refine wpAny_pure ?_
  show Q acc.toList _
  rw [hv]
  refine h vs hp' d2 tk' (Heap.lt_size hS') (fun b o e=>hm.heap b o (fun q=>?_) (oth b o (Nat.ne_of_lt (Heap.lt_size e)) (hk b o (Heap.get?_push_of_some _ e)))) hp
  rcases List.mem_cons.mp q with q | q
  · exact Nat.ne_of_lt (Heap.lt_size e) q
  · rw [List.mem_singleton.mp q] at e
    rw [Heap.size_push] at hI
    exact Nat.lt_irrefl _ (Nat.lt_of_lt_of_le (Heap.lt_size e) (Nat.le_trans (Nat.le_succ _) hI))
end
end L2
namespace L2
open PySem
section
variable {prog:Program} {w:World} {A:Around} {E:Value→Shared→Prop} {s:Shared} {a I:Addr} {es:Array (Int × Value)} {ep:Nat} {t:SetTable}
def vInt:Value→Int | .int n _=>n | _=>0
def jz (ks:List Int) (k:Int):List Int:=if k∈ks then ks else ks++[k]
structure vm (prog:Program) (w:World) (h:Heap) (a:Addr) (ks:List Int):Prop where
  ex:∃ o es ep t,h.get? a=some o∧o.ExactSet∧o.data=.set es ep t∧ElemsOf (intKind prog w) es.toList∧(es.toList.map fun e=>vInt e.2).Perm ks∧es.size<scanBound∧t.fits es.size=true∧TOk (Gk w) t
theorem qx (k:Int) (tk:Tok):(intKind prog w).is k (.int k tk)=true:=by simp [intKind,Value.isInt]
theorem qF {l:List (Int × Value)} (h:ElemsOf (intKind prog w) l) {e:Int × Value} (he:e∈l):∃ tk,e.2=.int (vInt e.2) tk:=by
  obtain ⟨⟨k,hk,_⟩,_⟩:=h e he
  obtain ⟨tk,hx⟩:=Value.isInt_shape hk
  exact ⟨tk,by rw [hx];rfl⟩
theorem uq {l:List (Int × Value)} (h:ElemsOf (intKind prog w) l) {ks:List Int} (hp:(l.map fun e=>vInt e.2).Perm ks) (k:Int):k∈ks↔∃ e∈l,(intKind prog w).is k e.2=true:=by
  rw [← hp.mem_iff,List.mem_map]
  constructor
  · rintro ⟨e,he,rfl⟩
    obtain ⟨tk,hx⟩:=qF h he
    exact ⟨e,he,by rw [hx];exact qx _ _⟩
  · rintro ⟨e,he,hk⟩
    obtain ⟨tk,hx⟩:=Value.isInt_shape hk
    exact ⟨e,he,by rw [hx];rfl⟩
theorem tL {h:Heap} {o:Obj} (es':Array (Int × Value)) (t':SetTable) (ho:h.get? a=some o) (hd:o.data=.set es ep t) :
    (h.update a (Obj.putSet es' t')).get? a=some { o with data:=.set es' (ep + 1) t' }:=by
  have q:=Heap.get?_update_self (Obj.putSet es' t') ho (by rw [putSet_of es' t' hd];rfl)
  rwa [putSet_of es' t' hd] at q
theorem Ae {ks:List Int} {k:Int} {tk:Tok} {Q:Bool→Shared→Prop} (S:vm prog w s.heap a ks) (hr:ks.length + 1<scanBound)
    (h:∀ h' t' b,s.toks≤t'→Heap.SameBut a s.heap h'→vm prog w h' a (jz ks k)→Q b { s with heap:=h',toks:=t' }):wpAny (model prog w) A (setAdd a (.int k tk)) Q E s:=by
  obtain ⟨o,es,ep,t,ho,hx,hd,he,hp,hb,hf,T⟩:=S.ex
  have hsc:(Value.int k tk).scannable=true:=rfl
  have hlen:es.size=ks.length:=by rw [← hp.length_eq];simp
  unfold setAdd
  refine wpAny_holding (wpAny_bind ((intKind prog w).pyHash (k:=k) (qx k tk) ?_))
  unfold setAddHashed setAddHashedIn
  refine wpAny_holding (wpAny_bind (wpAny_setState_of (s:={ s with toks:=s.toks + 1 }) ho hd hf ?_))
  dsimp only
  rw [byScan_of hsc hb he]
  simp only [↓reduceIte]
  unfold setAddByScan
  refine wpAny_bind (wpAny_bind (wpAny_rule (wpAny_bind (wpAny_setScan_of (qx k tk) ho hd hf he ?_))))
  cases hfi:List.findIdx? (fun e=>(intKind prog w).is k e.2) es.toList with
  | some j =>
    dsimp only
    obtain ⟨hj,hpj,_⟩:=List.findIdx?_eq_some_iff_getElem.mp hfi
    have hmem:k∈ks:=(uq he hp k).mpr ⟨_,List.getElem_mem hj,hpj⟩
    refine wpAny_pure (wpAny_pure (h s.heap (s.toks + 1) _ (Nat.le_succ _) (Heap.SameBut.refl a s.heap) ?_))
    unfold jz
    rw [if_pos hmem]
    exact S
  | none =>
    dsimp only
    have hnot:k ∉ ks:=fun hm=>by
      obtain ⟨e,h1,h2⟩:=(uq he hp k).mp hm
      rw [List.findIdx?_eq_none_iff.mp hfi e h1] at h2
      cases h2
    have q1:=layNew_perm t es ((intKind prog w).hash k) (.int k tk)
    have q2:=layNew_fits t es ((intKind prog w).hash k) (.int k tk)
    have q3:=T.layNew es ((intKind prog w).hash k) (.int k tk)
    generalize layNew t es ((intKind prog w).hash k) (.int k tk)=L at q1 q2 q3 ⊢
    obtain ⟨es1,t1,wd,gv⟩:=L
    dsimp only at q1 q2 q3 ⊢
    rw [Array.toList_push] at q1
    have he1:ElemsOf (intKind prog w) es1.toList:=(he.push (qx k tk) hsc).perm q1
    have hp1:(es1.toList.map fun e=>vInt e.2).Perm (ks++[k]):=by
      refine (q1.map _).trans ?_
      rw [List.map_append]
      exact hp.append (List.Perm.refl _)
    have hs1:es1.size=es.size + 1:=by rw [← Array.length_toList,q1.length_eq];simp
    have hb1:es1.size<scanBound:=by omega
    have gw:∀ (b:Bool) {s1:Shared} {Q':Unit→Shared→Prop},Q' () s1→wpAny (model prog w) A (match b with | true=>rule "set.scan.the-table-gave-way" | false=>pure ()) Q' E s1 :=
      fun b s1 Q' hq=>by cases b with | true=>exact wpAny_rule hq | false=>exact wpAny_pure hq
    refine wpAny_bind (gw _ ?_)
    have hbv:hashByValue 8 (.int k tk)=pure true:=rfl
    have fin:∀ h' es2 t2 ep2,h'.get? a=some { o with data:=.set es2 ep2 t2 }→Heap.SameBut a s.heap h'→es2.toList.Perm es1.toList→t2.fits es2.size=true→TOk (Gk w) t2→Q true { s with heap:=h',toks:=s.toks + 1 }:=by
      intro h' es2 t2 ep2 g1 g2 g3 g4 g5
      refine h h' (s.toks + 1) true (Nat.le_succ _) g2 ⟨_,es2,ep2,t2,g1,hx,rfl,he1.perm g3,?_,?_,g4,g5⟩
      · unfold jz;rw [if_neg hnot];exact (g3.map _).trans hp1
      · rw [← Array.length_toList,g3.length_eq,Array.length_toList];exact hb1
    have tail:wpAny (model prog w) A (do
        storeSet a es1 t1
        if (!wd && t1.tooFull)=true then do
            (match (relayAll t1 es1 (SetTable.grown es1.size)).2.2 with | true=>rule "set.scan.the-table-gave-way" | false=>pure ())
            storeSet a (relayAll t1 es1 (SetTable.grown es1.size)).1 (relayAll t1 es1 (SetTable.grown es1.size)).2.1
            pure (some true)
          else pure (some true)) (fun r s'=>wpAny (model prog w) A (match r with | some added=>pure added | none=>do return ← setAddHashedIn a (.int k tk) ((intKind prog w).hash k) 99999) Q E s') E { s with toks:=s.toks + 1 }:=by
      refine wpAny_bind (wpAny_storeSet_of ho hd ?_ (fits_of_scanBound hb1))
      have g1:=tL es1 t1 ho hd
      have sb1:=Heap.SameBut.update s.heap a (Obj.putSet es1 t1)
      split
      · have r1:=relayAll_perm t1 es1 (SetTable.grown es1.size)
        have r2:=relayAll_fits t1 es1 (SetTable.grown es1.size)
        have r3:=q3.GX es1 (SetTable.grown es1.size)
        generalize relayAll t1 es1 (SetTable.grown es1.size)=Rl at r1 r2 r3 ⊢
        obtain ⟨es2,t3,gv2⟩:=Rl
        dsimp only at r1 r2 r3 ⊢
        refine wpAny_bind (gw _ ?_)
        refine wpAny_bind (wpAny_storeSet_of g1 rfl ?_ (fits_of_scanBound (by rw [← Array.length_toList,r1.length_eq,Array.length_toList];exact hb1)))
        have g2:=tL es2 t3 g1 rfl
        exact wpAny_pure (wpAny_pure (fin _ es2 t3 _ g2 (sb1.trans (Heap.SameBut.update _ a _)) r1 r2 r3))
      · exact wpAny_pure (wpAny_pure (fin _ es1 t1 _ g1 sb1 (List.Perm.refl _) q2 q3))
    split
    · rw [hbv]
      exact wpAny_bind (wpAny_pure tail)
    · exact wpAny_bind (wpAny_pure tail)
theorem vm.setO {h:Heap} {ks:List Int} (S:vm prog w h a ks):∃ es ep t,mO w h a es ep t∧es.size<scanBound∧(∀ v∈es.toList.map (·.2),∃ tk,v=.int (vInt v) tk)∧((es.toList.map (·.2)).map vInt).Perm ks:=by
  obtain ⟨o,es,ep,t,ho,hx,hd,he,hp,hb,hf,T⟩:=S.ex
  refine ⟨es,ep,t,⟨⟨o,ho,hx.1,hd⟩,?_,T⟩,hb,fun v hv=>?_,by rw [List.map_map];exact hp⟩
  · simp only [SetTable.fits,Bool.and_eq_true,beq_iff_eq,decide_eq_true_eq] at hf;exact hf
  · obtain ⟨e,h1,rfl⟩:=List.mem_map.mp hv
    exact qF he h1
end
end L2
namespace L2
open PySem PyProof.Rows
section
variable {prog:Program} {w:World} {A:Around} {E:Value→Shared→Prop} {R:Result→Shared→Prop} {s:Shared}
theorem vN {vs:List Value} {ns:List Int} (h:IntsAre vs ns) (i:Nat) {v:Value} (e:vs[i]?=some v):∃ tk,v=.int (ns.getD i 0) tk:=h.int_at i v e
theorem vM {vs:List Value} {ns:List Int} (h:IntsAre vs ns):vs.length=ns.length:=h.length
theorem vO {l I S:Addr} {items:Array Value} {ns:List Int} (hh:A.in1.handled=none) (hli:l≠I) (hSI:S≠I) (hSl:S≠l) (hi:IntsAre items.toList ns) (hb:ns.length + 1<scanBound) :
    ∀ (k i:Nat) (s:Shared),ns.length - i=k→i≤ns.length→s.heap.IsListIter I l i→s.heap.IsList l items→vm prog w s.heap S ((ns.take i).foldl jz []) →
      (∀ h' tk,vm prog w h' S (ns.foldl jz [])→(∀ b o,b≠S→b≠I→s.heap.get? b=some o→h'.get? b=some o)→R (.ok (.ret .none)) { s with heap:=h',toks:=tk }) →
      codeAny (model prog w) A (.builtin "set.update.loop" ⟨[.ref S,.ref I],[]⟩) R s:=by
  have hsz:items.size=ns.length:=by rw [← vM hi];simp
  have fl:∀ (l:List Int) (b:List Int),(l.foldl jz b).length≤b.length + l.length:=by
    intro l
    induction l with
    | nil=>intro b;simp
    | cons x l ih =>
      intro b
      have h1:=ih (jz b x)
      have h2:(jz b x).length≤b.length + 1:=by unfold jz;split <;> simp
      simp only [List.foldl_cons,List.length_cons]
      omega
  intro k
  induction k with
  | zero =>
    intro i s hk hle It hl hS hR
    have hin:i=ns.length:=by omega
    subst hin
    refine codeAny_builtin PyProof.Rows.F.entry_set_update_loop ?_
    rw [Around.under_plainId PyProof.Rows.F.plain_set_update_loop _]
    show wpAny _ A.in1 (pyNext (.ref I) >>= fun _=>_) _ _ s
    refine wpAny_bind (wpAny_pyNext_list_end hh It hl (by rw [← hsz];simp) fun h' he=>?_)
    have q:vm prog w h' S (ns.foldl jz []):=by
      obtain ⟨o,es,ep,t,ho,r⟩:=hS.ex
      rw [List.take_length] at r
      exact ⟨o,es,ep,t,he S o hSI ho,r⟩
    exact wpAny_pure (hR h' s.toks q fun b o _ hbI e=>he b o hbI e)
  | succ k ih =>
    intro i s hk hle It hl hS hR
    have hlt:i<ns.length:=by omega
    have hlt':i<items.size:=by omega
    refine codeAny_builtin PyProof.Rows.F.entry_set_update_loop ?_
    rw [Around.under_plainId PyProof.Rows.F.plain_set_update_loop _]
    show wpAny _ A.in1 (pyNext (.ref I) >>= fun _=>_) _ _ s
    refine wpAny_bind (wpAny_pyNext_list_item It hl (x:=items[i]) (by rw [Array.getElem?_eq_getElem hlt']) fun h' It' hs'=>?_)
    obtain ⟨tk,hx⟩:=vN hi i (v:=items[i]) (by rw [Array.getElem?_toList,Array.getElem?_eq_getElem hlt'])
    rw [hx]
    have hS1:vm prog w h' S ((ns.take i).foldl jz []):=by
      obtain ⟨o,es,ep,t,ho,r⟩:=hS.ex
      exact ⟨o,es,ep,t,hs'.extBut S o hSI ho,r⟩
    show wpAny _ A.in1 (holding [Value.int (ns.getD i 0) tk] (setAdd S (.int (ns.getD i 0) tk)) >>= fun _=>_) _ _ { s with heap:=h' }
    have hlen:((ns.take i).foldl jz []).length + 1<scanBound:=by
      have:=fl (ns.take i) []
      rw [List.length_take] at this
      simp only [List.length_nil] at this
      omega
    refine wpAny_bind (wpAny_holding (Ae hS1 hlen fun h2 t2 b hle2 sb hS2=>?_))
    have e1:ns.take (i + 1)=ns.take i++[ns.getD i 0]:=by
      rw [List.take_succ,List.getElem?_eq_getElem hlt,List.getD_eq_getElem?_getD,List.getElem?_eq_getElem hlt];rfl
    refine wpAny_pure ⟨plainId_quiet PyProof.Rows.F.plain_set_update_loop _,ih (i + 1) _ (by omega) hlt ?_ ?_ ?_ fun h3 t3 hS3 k3=>?_⟩
    · obtain ⟨o,ho,r⟩:=It'
      exact ⟨o,sb.extBut I o (Ne.symm hSI) ho,r⟩
    · exact (hl.extBut hs'.extBut hli).extBut sb.extBut (Ne.symm hSl)
    · rw [e1,List.foldl_append]
      exact hS2
    · exact hR h3 t3 hS3 fun b o hbS hbI e=>k3 b o hbS hbI (sb.extBut b o hbS (hs'.extBut b o hbI e))
abbrev dF (w:World):Obj:={ cls:=.type "set",dict:=none,data:=.set #[] 0 (.fresh 0 0 (Gk w)) }
theorem oW (v:Value) {Q:Value→Shared→Prop} (h:Q (.ref s.heap.objs.size) { s with heap:=s.heap.push (dF w) }) :
    codeAny (model prog w) A (.call (.builtin "set.__new__") ⟨[.type "set",v],[]⟩) (wants Q E) s:=by
  refine codeAny_of_tree ?_
  show wpAny _ A.in1 (checkBuiltinCall "set.__new__" ⟨[.type "set",v],[]⟩ >>= fun _=>again (.builtin "set.__new__" ⟨[.type "set",v],[]⟩)) _ _ s
  refine wpAny_bind (wpAny_of_eq (F.newCall_set_1 v) (wpAny_pure ⟨plainId_quiet F.plain_set_new _,codeAny_builtin F.entry_set_new ?_⟩))
  rw [Around.under_plainId F.plain_set_new _]
  unfold Builtin.«set.__new__» Builtin.Frozenset.newClass
  have hsub:=sub_set_self
  obtain ⟨hp,g,d,tk,os⟩:=s
  dsimp only
  wp_walk
  refine wpAny_askSetting (wpAny_pure ?_)
  dsimp only
  simp only [newObj]
  exact wpAny_bind (wpAny_alloc (wpAny_pure (wpAny_pure h)))
abbrev zU (prog:Program) (w:World) (s:Shared) (ns:List Int) (s2:Shared):Prop :=
  ∃ h' tk,s2={ s with heap:=h',toks:=tk }∧vm prog w h' s.heap.objs.size (ns.foldl jz [])∧∀ b o,s.heap.get? b=some o→h'.get? b=some o
set_option maxHeartbeats 8000000 in
theorem uF {l:Addr} {items:Array Value} {ns:List Int} (hh:A.handled=none) (hl:s.heap.IsList l items) (hi:IntsAre items.toList ns) (hb:ns.length + 1<scanBound) :
    wpAny (model prog w) A.in1 (Builtin.«set.__init__» ⟨[.ref s.heap.objs.size,.ref l],[]⟩) (fun fin s'=>fin=.done (.ret .none)∧zU prog w s ns s') E { s with heap:=s.heap.push (dF w) }:=by
  have hS:(s.heap.push (dF w)).get? s.heap.objs.size=some (dF w):=Heap.get?_push_size _ rfl
  have hT:Shared.TypeIs { s with heap:=s.heap.push (dF w) } (.ref s.heap.objs.size) "set":=⟨_,hS,rfl⟩
  have hl0:=hl
  obtain ⟨⟨oc,od,oda,osl⟩,hol,hcl,nl,hdl⟩:=hl0
  dsimp only at hcl hdl
  subst hcl hdl
  have hol':=Heap.get?_push_of_some (dF w) hol
  have z1:=F.sub_list_set
  have z2:=F.sub_list_frozenset
  have z3:(Value.type "list" == Value.type "dict")=false:=by decide
  unfold Builtin.«set.__init__» noKeywords Builtin.Frozenset.updateFrom
  generalize hPI:pyIter=PI
  wp_walk
  subst hPI
  have hlS:l<s.heap.objs.size:=Heap.lt_size hol
  have hszp:(s.heap.push (dF w)).objs.size=s.heap.objs.size + 1:=Heap.size_push _ _
  refine wpAny_pyIter_list (hl.push (dF w)) (wpAny_bind (wpAny_runValue ?_))
  refine vO (A:=A.in1) (l:=l) (I:=(s.heap.push (dF w)).objs.size) (S:=s.heap.objs.size) (items:=items) (by simp [hh]) (Nat.ne_of_lt (by rw [hszp];exact Nat.lt_succ_of_lt hlS)) (Nat.ne_of_lt (by rw [hszp];exact Nat.lt_succ_self _)) (Nat.ne_of_gt hlS) hi hb ns.length 0 _ (by omega) (Nat.zero_le _)
    ⟨_,Heap.get?_push_size _ rfl,rfl,rfl⟩ ((hl.push _).push _) ?_ fun h' tk hS' hk=>?_
  · exact ⟨_,#[],0,_,Heap.get?_push_of_some _ hS,⟨rfl,rfl,rfl⟩,rfl,fun e he=>by simp at he,by simp,by decide,by rfl,TOk.fresh _⟩
  · show wpAny _ _ _ _ _ _
    refine wpAny_pure (show wpAny _ _ (ret Value.none) _ _ _ from wpAny_pure ⟨rfl,h',tk,rfl,hS',fun b o e=>?_⟩)
    have hbl:=Heap.lt_size e
    exact hk b o (Nat.ne_of_lt hbl) (by rw [hszp];exact Nat.ne_of_lt (Nat.lt_succ_of_lt hbl)) (Heap.get?_push_of_some _ (Heap.get?_push_of_some _ e))
set_option maxHeartbeats 8000000 in
theorem uZ {l:Addr} {items:Array Value} {ns:List Int} {Q:Value→Shared→Prop} (hh:A.handled=none) (hl:s.heap.IsList l items) (hi:IntsAre items.toList ns) (hb:ns.length + 1<scanBound)
    (h:∀ h' tk,vm prog w h' s.heap.objs.size (ns.foldl jz [])→(∀ b o,s.heap.get? b=some o→h'.get? b=some o)→Q (.ref s.heap.objs.size) { s with heap:=h',toks:=tk }) :
    wpAny (model prog w) A (call (.type "set") [.ref l]) Q E s:=by
  have y0:=F.called_set
  obtain ⟨c,tl,y1⟩:=y0.mro
  have y2:=y0.made
  have y3:=y0.sub
  have y4:=y0.notType
  have y5:=y0.canCreate
  have y6:=F.typeCall_set_1 (.ref l)
  refine wpAny_call (codeAny_of_tree (show wpAny _ _ (callAny (.type "set") _) _ _ _ from wpAny_pure ⟨Code.quiet_builtin _ (by decide +kernel),codeAny_builtin F.entry_type_call ?_⟩))
  rw [Around.under_plain (weight_type_call_type "set" [.ref l] []) rfl]
  repeat any_goals first | assumption | wp_step
  refine codeAny_mono (oW (.ref l) (E:=E) (Q:=fun ob s1=>ob=.ref s.heap.objs.size∧s1={ s with heap:=s.heap.push (dF w) }) ⟨rfl,rfl⟩) fun r s1 hr=>?_
  match r,hr with
  | .error e,hr=>exact hr
  | .ok .next,hr=>exact hr.elim
  | .ok .brk,hr=>exact hr.elim
  | .ok .cont,hr=>exact hr.elim
  | .ok (.ret ob),hr =>
    obtain ⟨rfl,rfl⟩:=hr
    have hT:Shared.TypeIs { s with heap:=s.heap.push (dF w) } (.ref s.heap.objs.size) "set":=⟨_,Heap.get?_push_size _ rfl,rfl⟩
    have y7:=y0.init.lookup
    have y8:=y0.init.bind (.ref s.heap.objs.size)
    repeat any_goals first | assumption | wp_step
    refine codeAny_mono (codeAny_call_builtin (R:=wants (fun r s2=>r=.none∧zU prog w s ns s2) E) y0.init.plain F.entry_set_init (check_set_init_1 hT (wpAny_mono (uF hh hl hi hb) (fun fin s' q=>?_) fun _ _ q=>q))) fun r2 s2 hr2=>?_
    · obtain ⟨rfl,q⟩:=q
      exact ⟨rfl,q⟩
    · match r2,hr2 with
      | .error e,hr2=>exact hr2
      | .ok .next,hr2=>exact hr2.elim
      | .ok .brk,hr2=>exact hr2.elim
      | .ok .cont,hr2=>exact hr2.elim
      | .ok (.ret r),hr2 =>
        obtain ⟨rfl,h',tk,rfl,hS',hk'⟩:=hr2
        repeat any_goals first | assumption | wp_step
        exact h _ _ hS' hk'
theorem qY {a:Addr} {ks:List Int} {Q:Value→Shared→Prop} (hh:A.handled=none) (S:vm prog w s.heap a ks) (h64:ks.length<64)
    (h:∀ (x:Addr) (vs:List Value) (ms:List Int) (h':Heap) d' tk c,s.heap.objs.size≤x→(∀ b o,s.heap.get? b=some o→h'.get? b=some o)→h'.get? x=some (seqObj "list" vs.toArray c)→IntsAre vs ms→ms.Perm ks→ms.Pairwise (·≤·)→Q (.ref x) { s with heap:=h',drawn:=d',toks:=tk }) :
    wpAny (model prog w) A (call (.builtin "sorted") [.ref a]) Q E s:=by
  obtain ⟨es,ep,t,So,hb,hv,hp⟩:=S.setO
  refine Calls.call_function_entry kind_sorted plain_sorted entry_sorted (args_sorted1 _) ?_
  unfold Builtin.«sorted»
  refine wpAny_bind (m:=checkCount "sorted" 1 1 _) (wpAny_pure ?_)
  refine wpAny_bind (pF So hb (show A.in1.handled=none from hh) fun vs h' d' tk hsz hk pv=>?_)
  have hI:∀ l:List Value,(∀ v∈l,∃ tk,v=.int (vInt v) tk)→IntsAre l (l.map vInt):=by
    intro l
    induction l with
    | nil=>intro _;exact .nil
    | cons v l ih =>
      intro q
      obtain ⟨tk,e⟩:=q v List.mem_cons_self
      rw [List.map_cons,e]
      exact .cons _ tk (ih fun u hu=>q u (List.mem_cons_of_mem _ hu))
  have hvi:=hI vs fun v hm=>hv v (pv.mem_iff.mp hm)
  have hpk:(vs.map vInt).Perm ks:=(pv.map vInt).trans hp
  have h64':vs.length<64:=by rw [← hpk.length_eq] at h64;simpa using h64
  refine wpAny_bind (wpAny_newList ?_ (by rw [sizeLine_eq];omega))
  have hoL:(h'.push (seqObj "list" vs.toArray 0)).get? h'.objs.size=some (seqObj "list" vs.toArray 0):=Heap.get?_push_size _ rfl
  refine wpAny_bind (wpAny_holding (wpAny_call_entry slot_list_sort ⟨_,hoL,rfl⟩ entry_list_sort (list_sort_tree hoL hvi h64' fun out ms a1 a2 a3=>⟨_,rfl,?_⟩) (args_list_sort _)))
  obtain ⟨c,hc⟩:=sortedHeap_at (out:=out) hoL
  refine wpAny_pure ⟨_,rfl,h _ out.toList ms _ d' tk c (Nat.le_of_lt hsz) (fun b o e=>?_) (by simpa using hc) a1 (a2.trans hpk) a3⟩
  have hbl:b<h'.objs.size:=Heap.lt_size (hk b o e)
  rw [sortedHeap_old (Nat.ne_of_lt hbl) (by rw [size_push'];exact Nat.lt_succ_of_lt hbl)]
  exact Heap.get?_push_of_some _ (hk b o e)
end
end L2
namespace L2
open PySem PySem.Spec PyProof.Rows
theorem wZ (ks:List Int) (k x:Int):x∈jz ks k↔x∈ks∨x=k:=by
  unfold jz
  split
  · rename_i h
    exact ⟨.inl,fun q=>q.elim id fun e=>e ▸ h⟩
  · rw [List.mem_append,List.mem_singleton]
theorem Bo {ks:List Int} (h:ks.Nodup) (k:Int):(jz ks k).Nodup:=by
  unfold jz
  split
  · exact h
  · rename_i hn
    refine List.nodup_append.mpr ⟨h,by simp,fun a ha b hb=>?_⟩
    rw [List.mem_singleton.mp hb]
    exact fun e=>hn (e ▸ ha)
theorem uI:∀ (ns ks:List Int),ks.Nodup→(ns.foldl jz ks).Nodup∧(ns.foldl jz ks).length≤ks.length + ns.length∧∀ x,x∈ns.foldl jz ks↔x∈ks∨x∈ns:=by
  intro ns
  induction ns with
  | nil=>intro ks h;exact ⟨h,Nat.le_refl _,fun x=>by simp⟩
  | cons n ns ih =>
    intro ks h
    obtain ⟨a1,a2,a3⟩:=ih (jz ks n) (Bo h n)
    have a4:(jz ks n).length≤ks.length + 1:=by unfold jz;split <;> simp
    refine ⟨a1,by simp only [List.foldl_cons,List.length_cons];omega,fun x=>?_⟩
    rw [List.foldl_cons,a3,wZ,List.mem_cons,or_assoc]
theorem m7:∀ {ms:List Int},ms.Pairwise (·≤·)→ms.Nodup→ms.Pairwise (·<·)
  | [],_,_=>.nil
  | a :: l,h,nd=>by
    obtain ⟨h1,h2⟩:=List.pairwise_cons.mp h
    obtain ⟨n1,n2⟩:=List.nodup_cons.mp nd
    refine List.pairwise_cons.mpr ⟨fun b hb=>?_,m7 h2 n2⟩
    have:=h1 b hb
    rcases Int.lt_or_lt_of_ne (fun e:a=b=>n1 (e ▸ hb)) with q | q
    · exact q
    · omega
def vH (K:PySem.W.Frag) (ta:TA):TE:=fun σ H Q=>ta σ H fun vs H1=>∃ (p:Addr) (ns:List Int),vs=[.ref p]∧SqL K H1 p (ns.map V.int)∧ns.length<64∧∀ (l:Addr) (ms:List Int),H1 l=none→ms.Pairwise (·<·)→(∀ x,x∈ms↔x∈ns)→ms.length≤ns.length→Q (.ref l) (upd H1 l (.lst (ms.map V.int)))
section
variable {X:Cx}
theorem Inv.Bg {pins:List (Addr × Obj)} {σ:St} {H:Hp} {s:Shared} (I:Inv X pins σ H s) (d':PySem.Drawn):Inv X pins σ H { s with drawn:=d' } :=
  ⟨I.ok,I.os,I.bare,I.base,I.loc,I.cell,I.free,I.freeC,I.pin,I.hok,I.len⟩
theorem rA {e:Expr} {ta:TA} {p1 p2 p3 pos:Pos} (hcalm:X.calm=true) (hgs:Gl X "sorted") (hms:X.mg "sorted"=none) (hgr:Gl X "set") (hmr:X.mg "set"=none) (ha:PA X [e] ta) (hs:starEach [e] X.env=[(false,eval e X.env)]:=by rfl) :
    PE X (.Call (.Name "sorted" p1) [.Call (.Name "set" p2) [e] [] p3] [] pos) (vH X.K ta):=by
  intro pins s σ H Q I h
  refine Call_ (fZ I hgs hms boot_sorted ?_)
  refine Calls.callWith_builtin rfl (Calls.evalArgs_plain ?_)
  refine Calls.spliced_cons (Call_ (fZ I hgr hmr PyProof.Rows.boot_set (PyProof.Rows.callWith_type1 (thn (ha p3 pins s σ H _ I h) fun us s1 ⟨vs,H1,I1,r1,q1⟩=>?_) hs rfl)))
  obtain ⟨p,ns,e1,hq,hn,q⟩:=q1
  subst e1
  obtain ⟨u,rfl,ru⟩:=vals1 r1
  cases ru
  obtain ⟨its,r2,p2',hz⟩:=I1.list hq
  have hi:IntsAre its ns:=intsAre_of r2
  have hhd:=I.ok.hd hcalm
  refine uZ hhd p2'.isList (by simpa using hi) (by unfold scanBound;omega) fun h' tk S hk=>?_
  refine Calls.spliced_nil ?_
  obtain ⟨f1,f2,f3⟩:=uI ns [] List.nodup_nil
  refine qY hhd S (by simp at f2;omega) fun x vs ms h2 d2 tk2 c hx hk2 hox hi2 hp hle=>?_
  have I2:Inv X pins σ H1 { s1 with heap:=h',toks:=tk }:=I1.kept fun b o e=>hk b o e
  have hml:ms.length≤ns.length:=by rw [hp.length_eq];simp at f2;exact f2
  refine ⟨.ref x,_,Inv.Bg (I2.laid (t':=tk2) hk2 hx (show d9 X.prog X.w _ h2 _ (.lst (ms.map V.int)) from ⟨by rw [List.length_map,sizeLine_eq];omega,vs,c,jB hi2,hox⟩)) d2,rfl,q _ _ (I2.hok.fresh hx) (m7 hle (hp.nodup_iff.mpr f1)) (fun y=>by rw [hp.mem_iff,f3];simp) hml⟩
theorem rm (bs:List Bool):((List.range bs.length).any fun i=>(bs[i]?).getD false)=bs.any id:=by
  rw [Bool.eq_iff_iff,List.any_eq_true,List.any_eq_true]
  constructor
  · rintro ⟨i,hi,h⟩
    rw [List.mem_range] at hi
    rw [List.getElem?_eq_getElem hi] at h
    exact ⟨_,List.getElem_mem hi,h⟩
  · rintro ⟨b,hb,h⟩
    obtain ⟨i,hi,rfl⟩:=List.getElem_of_mem hb
    exact ⟨i,List.mem_range.mpr hi,by rw [List.getElem?_eq_getElem hi];exact h⟩
theorem wR (hc:X.calm=true):oK X (.builtin "any") (fun xs H Q=>∃ (p:Addr) (bs:List Bool),xs=[.ref p]∧SqL X.K H p (bs.map V.bl)∧Q (.bl (bs.any id)) H):=by
  intro pins s σ H xs us Q I r h
  obtain ⟨p,bs,rfl,hq,q⟩:=h
  obtain ⟨u,rfl,ru⟩:=vals1 r
  cases ru
  obtain ⟨its,r1,p1,hz⟩:=I.list hq
  have hl:=p1.isList
  have hlt:p<s.heap.objs.size:=p1.lt
  have hlen:=r1.length
  rw [List.length_map] at hlen
  refine call_any_walk (wpAny_pyIter_list hl ?_)
  refine ⟨s.heap.objs.size,[s.heap.objs.size,p],[s.heap.objs.size],its.toArray.size,_,_,fun i=>(bs[i]?).getD false,rfl,Walks.list (A:=X.A.in1) (I.ok.hd hc) _ p (Nat.ne_of_lt hlt) its.toArray,
    ⟨⟨_,Heap.get?_push_size _ rfl,rfl,rfl⟩,hl.push _⟩,fun i v s' Q' E' hP hQ=>?_,fun h' tk hk=>?_⟩
  · have hP':its[i]?=some v:=by simpa using hP
    have hi:i<bs.length:=by
      have:=(List.getElem?_eq_some_iff.mp hP').1
      omega
    obtain ⟨u,eu,ru⟩:=r1.get (x:=.bl bs[i]) (by rw [List.getElem?_map,List.getElem?_eq_getElem hi];rfl)
    rw [hP'] at eu
    cases eu
    cases ru
    dsimp only at hQ
    rw [List.getElem?_eq_getElem hi] at hQ
    exact wpAny_truthy_bool hQ
  · have e:((List.range its.toArray.size).any fun i=>(bs[i]?).getD false)=bs.any id:=by
      rw [List.size_toArray,← hlen];exact rm bs
    rw [e]
    refine ⟨.bl _,H,I.kept fun b o eo=>hk b o (fun hm=>?_) (Heap.get?_push_of_some _ eo),rfl,q⟩
    rw [List.mem_singleton.mp hm] at eo
    exact Nat.lt_irrefl _ (Heap.lt_size eo)
end
end L2
namespace Rv
def cN (r:List Int):Prop:=∃ rk:Nat→Nat,(∀ i,i<r.length→rk i<r.length) ∧
  ∀ (i:Nat) (x:Int),r[i]?=some x→x=-1∨(0≤x∧x<r.length∧rk x.toNat<rk i)
def nxt (r:List Int) (p:Int):Int:=r.getD p.toNat (-1)
theorem gb {r:List Int} {p:Int} (h0:0≤p) (h1:p<r.length):r[p.toNat]?=some (nxt r p):=by
  have h:p.toNat<r.length:=by omega
  unfold nxt
  rw [List.getD_eq_getElem?_getD,List.getElem?_eq_getElem h];rfl
theorem cN.step {r:List Int} (h:cN r) {p:Int} (h0:0≤p) (h1:p<r.length):nxt r p=-1∨(0≤nxt r p∧nxt r p<r.length):=by
  obtain ⟨rk,_,h3⟩:=h
  rcases h3 _ _ (gb h0 h1) with e | ⟨a,b,_⟩
  · exact .inl e
  · exact .inr ⟨a,b⟩
def jA (r:List Int):Nat→Int→List Int
  | 0,_=>[]
  | f + 1,p=>if p=-1 then [] else p :: jA r f (nxt r p)
def walk (r:List Int) (p:Int):List Int:=jA r (r.length + 1) p
theorem gW (r:List Int) (f:Nat):jA r f (-1)=[]:=by
  cases f with
  | zero=>rfl
  | succ f=>unfold jA;rw [if_pos rfl]
theorem eY (r:List Int):walk r (-1)=[]:=gW r _
theorem ji {r:List Int} {rk:Nat→Nat} (h:∀ (i:Nat) (x:Int),r[i]?=some x→x=-1∨(0≤x∧x<r.length∧rk x.toNat<rk i)) :
    ∀ (f g:Nat) (p:Int),0≤p→p<r.length→rk p.toNat<f→rk p.toNat<g→jA r f p=jA r g p
  | 0,_,_,_,_,hf,_=>by omega
  | _ + 1,0,_,_,_,_,hg=>by omega
  | f + 1,g + 1,p,h0,h1,hf,hg=>by
    unfold jA
    rw [if_neg (by omega),if_neg (by omega)]
    rcases h _ _ (gb h0 h1) with e | ⟨a,b,c⟩
    · rw [e,gW,gW]
    · rw [ji h f g _ a b (by omega) (by omega)]
theorem cL {r:List Int} (h:cN r) {p:Int} (h0:0≤p) (h1:p<r.length):walk r p=p :: walk r (nxt r p):=by
  obtain ⟨rk,h2,h3⟩:=h
  show jA r (r.length + 1) p=_
  unfold jA
  rw [if_neg (by omega)]
  rcases h3 _ _ (gb h0 h1) with e | ⟨a,b,c⟩
  · rw [e,gW,eY]
  · have:=h2 p.toNat (by omega)
    unfold walk
    rw [ji h3 r.length (r.length + 1) _ a b (by omega) (by omega)]
theorem mQ (r:List Int):∀ (f:Nat) (p:Int),(jA r f p).length≤f
  | 0,_=>Nat.le_refl _
  | f + 1,p=>by
    unfold jA
    split
    · exact Nat.zero_le _
    · exact Nat.succ_le_succ (mQ r f _)
theorem ju (r:List Int) (p:Int):(walk r p).length≤r.length + 1:=mQ r _ _
theorem cN.ind {r:List Int} (h:cN r) {P:Int→Prop} (hm:P (-1)) (hs:∀ p:Int,0≤p→p<r.length→P (nxt r p)→P p):∀ p:Int,0≤p→p<r.length→P p:=by
  obtain ⟨rk,_,h3⟩:=h
  have key:∀ (n:Nat) (p:Int),0≤p→p<r.length→rk p.toNat<n→P p:=by
    intro n
    induction n with
    | zero=>intro p _ _ h;omega
    | succ n ih =>
      intro p h0 h1 h2
      refine hs p h0 h1 ?_
      rcases h3 _ _ (gb h0 h1) with e | ⟨a,b,c⟩
      · rw [e];exact hm
      · exact ih _ a b (by omega)
  exact fun p h0 h1=>key _ p h0 h1 (Nat.lt_succ_self _)
theorem lM {r:List Int} (h:cN r):∀ p:Int,0≤p→p<r.length→∀ q∈walk r p,0≤q∧q<r.length:=by
  refine h.ind (P:=fun p=>∀ q∈walk r p,0≤q∧q<r.length) ?_ ?_
  · intro q hq;rw [eY] at hq;cases hq
  · intro p h0 h1 ih q hq
    rw [cL h h0 h1] at hq
    rcases List.mem_cons.mp hq with e | e
    · rw [e];exact ⟨h0,h1⟩
    · exact ih q e
noncomputable def mea (r:List Int) (p:Int):Nat:=(walk r p).length
theorem xQ {r:List Int} (h:cN r) {p:Int} (h0:0≤p) (h1:p<r.length):mea r (nxt r p)<mea r p:=by
  unfold mea;rw [cL h h0 h1];exact Nat.lt_succ_self _
theorem qR {r:List Int} (h:cN r):∃ rk:Nat→Nat,∀ p:Int,0≤p→p<r.length→(walk r p).Nodup∧∀ q∈walk r p,rk q.toNat≤rk p.toNat:=by
  obtain ⟨rk,h2,h3⟩:=id h
  refine ⟨rk,?_⟩
  have key:=h.ind (P:=fun p=>(walk r p).Nodup∧(0≤p→∀ q∈walk r p,rk q.toNat≤rk p.toNat)) ?_ ?_
  · exact fun p h0 h1=>⟨(key p h0 h1).1,(key p h0 h1).2 h0⟩
  · rw [eY];exact ⟨List.nodup_nil,fun h=>by omega⟩
  · intro p h0 h1 ⟨nd,ih⟩
    rw [cL h h0 h1]
    rcases h3 _ _ (gb h0 h1) with e | ⟨a,b,c⟩
    · rw [e,eY]
      refine ⟨by simp,fun _ q hq=>?_⟩
      have:q=p:=by simpa using hq
      rw [this];exact Nat.le_refl _
    · have ih':=ih a
      refine ⟨List.nodup_cons.mpr ⟨fun hm=>?_,nd⟩,fun _ q hq=>?_⟩
      · have:=ih' p hm
        omega
      · rcases List.mem_cons.mp hq with e | e
        · rw [e];exact Nat.le_refl _
        · have:=ih' q e;omega
theorem lK {r:List Int} (h:cN r) {p:Int} (h0:0≤p) (h1:p<r.length):(walk r p).Nodup:=by
  obtain ⟨rk,k⟩:=qR h
  exact (k p h0 h1).1
end Rv
namespace Rv
def tot:Nat→(Nat→Int)→Int
  | 0,_=>0
  | n + 1,f=>tot n f + f n
theorem fQ {n:Nat} {f g:Nat→Int} (h:∀ i,i<n→f i=g i):tot n f=tot n g:=by
  induction n with
  | zero=>rfl
  | succ n ih=>unfold tot;rw [ih fun i hi=>h i (by omega),h n (by omega)]
theorem oU (n:Nat) (f g:Nat→Int):tot n (fun i=>f i + g i)=tot n f + tot n g:=by
  induction n with
  | zero=>rfl
  | succ n ih=>unfold tot;rw [ih];dsimp only;omega
theorem jw {n:Nat} {f:Nat→Int} (h:∀ i,i<n→f i=0):tot n f=0:=by
  induction n with
  | zero=>rfl
  | succ n ih=>unfold tot;rw [ih fun i hi=>h i (by omega),h n (by omega)];rfl
theorem vG (n m:Nat) (f:Nat→Nat→Int):tot n (fun i=>tot m (fun j=>f i j))=tot m (fun j=>tot n (fun i=>f i j)):=by
  induction n with
  | zero=>exact (jw fun _ _=>rfl).symm
  | succ n ih=>show tot n _ + tot m _=_;rw [ih,← oU];rfl
theorem sy {n k:Nat} (f:Nat→Int) (hk:k<n):tot n (fun i=>if i=k then f i else 0)=f k:=by
  induction n with
  | zero=>omega
  | succ n ih =>
    unfold tot
    dsimp only
    by_cases h:k=n
    · subst h
      rw [if_pos rfl,jw fun i hi=>if_neg (by omega)];omega
    · rw [ih (by omega),if_neg (fun (z:n=k)=>h z.symm)];omega
theorem zZ (n:Nat) (c:Int) (f:Nat→Int):tot n (fun i=>c * f i)=c * tot n f:=by
  induction n with
  | zero=>simp [tot]
  | succ n ih=>unfold tot;rw [ih,Int.mul_add]
theorem Aa (n:Nat) (f:Nat→Int) (p:Prop) [Decidable p]:tot n (fun i=>if p then f i else 0)=if p then tot n f else 0:=by
  by_cases h:p
  · rw [if_pos h];exact fQ fun i _=>if_pos h
  · rw [if_neg h];exact jw fun i _=>if_neg h
def lsum:List Nat→(Nat→Int)→Int
  | [],_=>0
  | k :: l,f=>f k + lsum l f
theorem gF (f:Nat→Int):∀ (l m:List Nat),lsum (l++m) f=lsum l f + lsum m f
  | [],m=>by show _=0 + _;rw [Int.zero_add];rfl
  | k :: l,m=>by show f k + lsum (l++m) f=f k + lsum l f + lsum m f;rw [gF f l m];omega
theorem nH {f:Nat→Int} {l m:List Nat} (h:l.Perm m):lsum l f=lsum m f:=by
  induction h with
  | nil=>rfl
  | cons k _ ih=>show f k + _=f k + _;rw [ih]
  | swap a b l=>show f b + (f a + _)=f a + (f b + _);omega
  | trans _ _ h1 h2=>exact h1.trans h2
theorem jc (f:Nat→Int):∀ n,lsum (List.range n) f=tot n f
  | 0=>rfl
  | n + 1=>by rw [List.range_succ,gF,jc f n];show _ + (f n + 0)=_ + f n;omega
theorem nG {f:Nat→Int}:∀ {l:List Nat},(∀ k∈l,f k=0)→lsum l f=0
  | [],_=>rfl
  | k :: l,h=>by show f k + lsum l f=0;rw [h k List.mem_cons_self,nG fun j hj=>h j (List.mem_cons_of_mem _ hj)];rfl
def one (p:Prop) [Decidable p]:Int:=if p then 1 else 0
def jq (r s:List Int) (i:Int):Int:=tot r.length fun j=>if i∈walk r (j:Int) then s.getD j 0 else 0
theorem met {r:List Int} (h:cN r) {i:Int} (hi:0≤i):∀ p:Int,0≤p→p<r.length→one (i∈walk r p)=one (p=i) + tot r.length fun k=>if nxt r (k:Int)=i then one ((k:Int)∈walk r p) else 0:=by
  have key:=h.ind (P:=fun p=>(p=-1∨(0≤p∧p<r.length))→one (i∈walk r p)=one (p=i) + tot r.length fun k=>if nxt r (k:Int)=i then one ((k:Int)∈walk r p) else 0) ?_ ?_
  · exact fun p h0 h1=>key p h0 h1 (.inr ⟨h0,h1⟩)
  · intro _
    rw [eY,jw fun k _=>?_]
    · unfold one;rw [if_neg (by simp),if_neg (by omega)];rfl
    · unfold one;rw [if_neg (show ¬ (k:Int)∈([]:List Int) by simp)];split <;> rfl
  · intro p h0 h1 ih _
    have ih':=ih (h.step h0 h1)
    have nd:=lK h h0 h1
    rw [cL h h0 h1] at nd ⊢
    obtain ⟨np,_⟩:=List.nodup_cons.mp nd
    have e1:one (i∈p :: walk r (nxt r p))=one (p=i) + one (i∈walk r (nxt r p)):=by
      unfold one
      by_cases hpi:p=i
      · subst hpi
        rw [if_pos List.mem_cons_self,if_pos rfl,if_neg np];rfl
      · rw [if_neg hpi]
        by_cases hm:i∈walk r (nxt r p)
        · rw [if_pos (List.mem_cons_of_mem _ hm),if_pos hm];rfl
        · rw [if_neg hm,if_neg fun z=>?_];· rfl
          rcases List.mem_cons.mp z with z | z
          · exact hpi z.symm
          · exact hm z
    have e2:(tot r.length fun k=>if nxt r (k:Int)=i then one ((k:Int)∈p :: walk r (nxt r p)) else 0) =
        one (nxt r p=i) + tot r.length fun k=>if nxt r (k:Int)=i then one ((k:Int)∈walk r (nxt r p)) else 0:=by
      have:(tot r.length fun k=>if nxt r (k:Int)=i then one ((k:Int)∈p :: walk r (nxt r p)) else 0) =
          tot r.length fun k=>(if k=p.toNat then (fun k=>if nxt r (k:Int)=i then (1:Int) else 0) k else 0) + if nxt r (k:Int)=i then one ((k:Int)∈walk r (nxt r p)) else 0:=by
        refine fQ fun k hk=>?_
        by_cases hn:nxt r (k:Int)=i
        · simp only [if_pos hn]
          by_cases hkp:k=p.toNat
          · have hkp':(k:Int)=p:=by omega
            rw [if_pos hkp,hkp']
            unfold one
            rw [if_pos List.mem_cons_self,if_neg np];rfl
          · have hkp':¬ (k:Int)=p:=by omega
            rw [if_neg hkp]
            unfold one
            by_cases hm:(k:Int)∈walk r (nxt r p)
            · rw [if_pos (List.mem_cons_of_mem _ hm),if_pos hm];rfl
            · rw [if_neg hm,if_neg fun z=>?_];· rfl
              rcases List.mem_cons.mp z with z | z
              · exact hkp' z
              · exact hm z
        · simp only [if_neg hn];split <;> rfl
      rw [this,oU,sy _ (by omega)]
      have e:((p.toNat:Nat):Int)=p:=by omega
      show (if nxt r ((p.toNat:Nat):Int)=i then (1:Int) else 0) + _=_
      rw [e];rfl
    rw [e1,e2,ih']
theorem qm {r:List Int} (h:cN r) (s:List Int) {i:Nat} (hi:i<r.length):jq r s (i:Int)=s.getD i 0 + tot r.length fun k=>if nxt r (k:Int)=(i:Int) then jq r s (k:Int) else 0:=by
  have e:jq r s (i:Int)=tot r.length fun j=>(if j=i then s.getD j 0 else 0) + tot r.length fun k=>if nxt r (k:Int)=(i:Int) then (if (k:Int)∈walk r (j:Int) then s.getD j 0 else 0) else 0:=by
    refine fQ fun j hj=>?_
    have m:=met h (i:=(i:Int)) (by omega) (j:Int) (by omega) (by omega)
    have e1:(if (i:Int)∈walk r (j:Int) then s.getD j 0 else 0)=s.getD j 0 * one ((i:Int)∈walk r (j:Int)):=by unfold one;split <;> simp
    rw [e1,m,Int.mul_add,← zZ]
    congr 1
    · unfold one
      by_cases hji:j=i
      · rw [if_pos (by omega),if_pos hji];simp
      · rw [if_neg (by omega),if_neg hji];simp
    · refine fQ fun k hk=>?_
      split
      · unfold one;split <;> simp
      · simp
  rw [e,oU,sy (fun j=>s.getD j 0) hi,vG]
  congr 1
  refine fQ fun k hk=>?_
  rw [Aa]
  rfl
def eN (r:List Int) (a b:Int):List Int:=if b=-1 then walk r a else (walk r a).takeWhile (fun x=>!decide (x=b))
def Stop (r:List Int) (a b:Int):Prop:=b=-1∨b∈walk r a
theorem sG {r:List Int} {a b x:Int} (h:x∈eN r a b):x∈walk r a:=by
  unfold eN at h
  split at h
  · exact h
  · exact (List.takeWhile_prefix _).subset h
theorem vJ {r:List Int} (h:cN r) {a b:Int} (h0:0≤a) (h1:a<r.length):(eN r a b).Nodup:=by
  unfold eN
  split
  · exact lK h h0 h1
  · exact (lK h h0 h1).sublist (List.takeWhile_sublist _)
end Rv
namespace Rv
structure Fl (n:Nat) (fl:List Int) (g:Nat→Int):Prop where
  len:fl.length=n
  at_:∀ i,i<n→fl[i]?=some (g i)
theorem Fl.of (fl:List Int):Fl fl.length fl (fun i=>fl.getD i 0):=⟨rfl,fun i hi=>by rw [List.getElem?_eq_getElem hi,List.getD_eq_getElem?_getD,List.getElem?_eq_getElem hi];rfl⟩
theorem Fl.zR {n:Nat} {fl:List Int} {g g':Nat→Int} (h:Fl n fl g) (e:∀ i,i<n→g i=g' i):Fl n fl g':=⟨h.len,fun i hi=>by rw [h.at_ i hi,e i hi]⟩
theorem Fl.set {n:Nat} {fl:List Int} {g g':Nat→Int} {j:Nat} {y:Int} (h:Fl n fl g) (hj:j<n) (e:∀ i,i<n→i≠j→g' i=g i) (ey:y=g' j):Fl n (fl.set j y) g' :=
  ⟨by rw [List.length_set];exact h.len,fun i hi=>by
    by_cases hij:i=j
    · subst hij;rw [List.getElem?_set_self (by rw [h.len];exact hj),ey]
    · rw [List.getElem?_set_ne (Ne.symm hij),h.at_ i hi,e i hi hij]⟩
theorem Fl.ext {n:Nat} {fl fl':List Int} {g:Nat→Int} (h:Fl n fl g) (h':Fl n fl' g):fl=fl':=by
  apply List.ext_getElem?
  intro i
  by_cases hi:i<n
  · rw [h.at_ i hi,h'.at_ i hi]
  · rw [List.getElem?_eq_none (by rw [h.len];omega),List.getElem?_eq_none (by rw [h'.len];omega)]
theorem Fl.getD {n:Nat} {fl:List Int} {g:Nat→Int} (h:Fl n fl g) {i:Nat} (hi:i<n):fl.getD i 0=g i:=by
  rw [List.getD_eq_getElem?_getD,h.at_ i hi];rfl
theorem Fl.map (n:Nat) (g:Nat→Int):Fl n ((List.range n).map g) g:=⟨by simp,fun i hi=>by rw [List.getElem?_map,List.getElem?_range hi];rfl⟩
theorem Fl.rep (n:Nat) (x:Int):Fl n (List.replicate n x) fun _=>x:=⟨by simp,fun i hi=>by rw [List.getElem?_replicate,if_pos hi]⟩
def kap (r:List Int) (i:Nat):Int:=(i:Int) - 64 * ((walk r (i:Int)).length:Int)
structure vq (r:List Int) (p:List Nat):Prop where
  perm:p.Perm (List.range r.length)
  ord:p.Pairwise fun i j=>kap r i<kap r j
theorem vq.len {r:List Int} {p:List Nat} (h:vq r p):p.length=r.length:=by rw [h.perm.length_eq,List.length_range]
theorem vq.lt {r:List Int} {p:List Nat} (h:vq r p) {j:Nat} (hj:j∈p):j<r.length:=List.mem_range.mp (h.perm.mem_iff.mp hj)
theorem vq.first {r:List Int} {p p1 p2:List Nat} {j k:Nat} (h:vq r p) (hR:cN r) (h64:r.length<64) (e:p=p1++j :: p2) (hk:k<r.length) (hn:nxt r (k:Int)=(j:Int)):k∈p1:=by
  have hjm:j∈p:=by rw [e];simp
  have hj:=h.lt hjm
  have hkm:k∈p:=h.perm.mem_iff.mpr (List.mem_range.mpr hk)
  have hw:(walk r (k:Int)).length=(walk r (j:Int)).length + 1:=by rw [cL hR (p:=(k:Int)) (by omega) (by omega),hn,List.length_cons]
  have hlt:kap r k<kap r j:=by unfold kap;omega
  rw [e] at hkm
  rcases List.mem_append.mp hkm with z | z
  · exact z
  · have ord:=h.ord
    rw [e,List.pairwise_append] at ord
    rcases List.mem_cons.mp z with z | z
    · subst z;omega
    · have:=(List.pairwise_cons.mp ord.2.1).1 k z
      omega
def nats (r s:List Int):List Int:=(List.range r.length).map fun (i:Nat)=>jq r s (i:Int)
theorem o9 (r s:List Int):Fl r.length (nats r s) fun i=>jq r s (i:Int):=Fl.map _ _
def qN (r s:List Int) (p:List Nat) (t:Nat) (fl:List Int):Prop:=Fl r.length fl fun i=>s.getD i 0 + lsum (p.take t) fun k=>if nxt r (k:Int)=(i:Int) then jq r s (k:Int) else 0
theorem qN.start (r s:List Int) (p:List Nat) (hs:s.length=r.length):qN r s p 0 s:=by
  have:=Fl.of s
  rw [hs] at this
  exact this.zR fun i _=>by rw [List.take_zero];show _=_ + 0;omega
theorem take_cons {p:List Nat} {t j:Nat} (h:p[t]?=some j):p.take (t + 1)=p.take t++[j]:=by rw [List.take_add_one,h];rfl
theorem qN.here {r s:List Int} {p:List Nat} {t j:Nat} {fl:List Int} (T:vq r p) (hR:cN r) (h64:r.length<64) (h:qN r s p t fl) (hj:p[t]?=some j):fl[j]?=some (jq r s (j:Int)):=by
  have hjl:=T.lt (List.mem_of_getElem? hj)
  rw [h.at_ j hjl,qm hR s hjl]
  congr 2
  rw [← jc,← nH T.perm]
  obtain ⟨ht,et⟩:=List.getElem?_eq_some_iff.mp hj
  have e:p=p.take t++j :: p.drop (t + 1):=by
    rw [← et,List.getElem_cons_drop,List.take_append_drop]
  conv=>rhs;rw [e]
  rw [gF]
  have z:lsum (j :: p.drop (t + 1)) (fun k=>if nxt r (k:Int)=(j:Int) then jq r s (k:Int) else 0)=0:=by
    refine nG fun k hk=>if_neg fun hn=>?_
    have hkp:k∈p:=by rw [e];exact List.mem_append_right _ hk
    have h1:=T.first hR h64 e (T.lt hkp) hn
    have nd:p.Nodup:=T.perm.nodup_iff.mpr List.nodup_range
    rw [e,List.nodup_append] at nd
    exact nd.2.2 k h1 k hk rfl
  rw [z];omega
theorem qN.G5 {r s:List Int} {p:List Nat} {t j:Nat} {fl:List Int} (h:qN r s p t fl) (hj:p[t]?=some j) (hm:nxt r (j:Int)=-1):qN r s p (t + 1) fl :=
  Fl.zR h fun i _=>by
    rw [take_cons hj,gF]
    show _=_ + (_ + ((if nxt r (j:Int)=(i:Int) then jq r s (j:Int) else 0) + 0))
    rw [if_neg (by omega)];omega
theorem qN.turn {r s:List Int} {p:List Nat} {t j b:Nat} {fl:List Int} (T:vq r p) (hR:cN r) (h64:r.length<64) (h:qN r s p t fl) (hj:p[t]?=some j) (hb:nxt r (j:Int)=(b:Int)) (hbl:b<r.length) {x:Int} (hx:fl[b]?=some x) :
    qN r s p (t + 1) (fl.set b (x + jq r s (j:Int))):=by
  refine Fl.set h hbl (fun i _ hib=>?_) ?_
  · rw [take_cons hj,gF]
    show _ + (_ + ((if nxt r (j:Int)=(i:Int) then jq r s (j:Int) else 0) + 0))=_
    rw [if_neg (by omega)];omega
  · rw [h.at_ b hbl] at hx
    rw [← Option.some.inj hx,take_cons hj,gF]
    show _=_ + (_ + ((if nxt r (j:Int)=(b:Int) then jq r s (j:Int) else 0) + 0))
    rw [if_pos hb];omega
theorem qN.done {r s:List Int} {p:List Nat} {fl:List Int} (T:vq r p) (hR:cN r) (h:qN r s p r.length fl):fl=nats r s:=by
  refine Fl.ext (g:=fun i=>jq r s (i:Int)) (Fl.zR h fun i hi=>?_) (o9 r s)
  rw [← T.len,List.take_length,qm hR s hi,← jc,nH T.perm]
abbrev Mv:=Int × Int × Int
def Aw (r:List Int) (ms:List Mv) (i:Int):Int:=(ms.map fun m=>if i∈eN r m.1 m.2.1 then m.2.2 else 0).sum
def JF (r s:List Int) (ms:List Mv):List Int:=(List.range r.length).map fun (i:Nat)=>jq r s (i:Int) - Aw r ms (i:Int)
theorem uJ (r s:List Int) (ms:List Mv):Fl r.length (JF r s ms) fun i=>jq r s (i:Int) - Aw r ms (i:Int):=Fl.map _ _
def MvI (r:List Int) (g:Nat→Int) (am:Int) (pre:List Int) (fl:List Int):Prop:=Fl r.length fl fun i=>g i - if (i:Int)∈pre then am else 0
theorem MvI.start {r:List Int} {g:Nat→Int} {fl:List Int} (am:Int) (h:Fl r.length fl g):MvI r g am [] fl:=Fl.zR h fun i _=>by rw [if_neg (by simp)];omega
theorem MvI.turn {r:List Int} {g:Nat→Int} {am:Int} {pre:List Int} {fl:List Int} (h:MvI r g am pre fl) {j:Nat} (hj:j<r.length) (hn:¬ (j:Int)∈pre) {x:Int} (hx:fl[j]?=some x):MvI r g am (pre++[(j:Int)]) (fl.set j (x - am)):=by
  refine Fl.set h hj (fun i _ hij=>?_) ?_
  · have:((i:Int)∈pre++[(j:Int)])=((i:Int)∈pre):=by
      apply propext;simp;omega
    simp only [this]
  · rw [h.at_ j hj,if_neg hn] at hx
    rw [← Option.some.inj hx,if_pos (by simp)];omega
end Rv
namespace Rv
end Rv
namespace Rv
end Rv
namespace Rv
theorem zY:∀ (s:List Int),(tot s.length fun i=>s.getD i 0)=s.sum:=by
  intro s
  have key:∀ (n:Nat),n≤s.length→(tot n fun i=>s.getD i 0)=(s.take n).sum:=by
    intro n
    induction n with
    | zero=>intro _;rfl
    | succ n ih =>
      intro h
      show tot n _ + s.getD n 0=_
      rw [ih (by omega),List.take_add_one,List.sum_append,List.getD_eq_getElem?_getD,List.getElem?_eq_getElem (by omega)]
      simp
  rw [key s.length (Nat.le_refl _),List.take_length]
end Rv
namespace Rv
def wsum (r s:List Int) (t:Nat) (i:Nat):Int:=tot t fun j=>if (i:Int)∈walk r (j:Int) then s.getD j 0 else 0
theorem vB (r s:List Int) (i:Nat):wsum r s r.length i=jq r s (i:Int):=rfl
theorem rQ {r s:List Int} {t:Nat} {fl:List Int} (h:MvI r (wsum r s t) (-(s.getD t 0)) (walk r (t:Int)) fl):Fl r.length fl (wsum r s (t + 1)) :=
  Fl.zR h fun i _=>by
    show wsum r s t i - (if (i:Int)∈walk r (t:Int) then -(s.getD t 0) else 0)=wsum r s t i + if (i:Int)∈walk r (t:Int) then s.getD t 0 else 0
    split <;> omega
end Rv
namespace Rv
end Rv
namespace Tn
def w5:Nat→(Nat→Int)→Int
  | 0,_=>0
  | n + 1,f=>w5 n f + f n
theorem kI {f g:Nat→Int}:∀ {n:Nat},(∀ k,k<n→f k=g k)→w5 n f=w5 n g
  | 0,_=>rfl
  | n + 1,h=>by
    show w5 n f + f n=w5 n g + g n
    rw [kI fun k hk=>h k (by omega),h n (by omega)]
def hold (n:Nat) (W:Nat→List Int) (x:Nat→Int) (r:Int):Int:=w5 n fun k=>if r∈W k then x k else 0
end Tn
namespace Tn
end Tn
namespace Tn
def bump (xs w:List Int) (c:Int):List Int:=w.foldl (fun xs r=>xs.set r.toNat (xs.getD r.toNat 0 + c)) xs
theorem wU (xs:List Int) (c:Int):bump xs [] c=xs:=rfl
theorem nT (xs w:List Int) (r c:Int):bump xs (r :: w) c=bump (xs.set r.toNat (xs.getD r.toNat 0 + c)) w c:=rfl
theorem u6 (xs w:List Int) (r c:Int):bump xs (w++[r]) c=(bump xs w c).set r.toNat ((bump xs w c).getD r.toNat 0 + c):=by
  unfold bump;rw [List.foldl_append];rfl
theorem jy:∀ (w xs:List Int) (c:Int),(bump xs w c).length=xs.length
  | [],_,_=>rfl
  | r :: w,xs,c=>by rw [nT,jy w,List.length_set]
theorem wJ {xs:List Int} {i k:Nat} {v:Int} (hi:i<xs.length):(xs.set i v).getD k 0=if k=i then v else xs.getD k 0:=by
  rw [List.getD_eq_getElem?_getD,List.getElem?_set,List.getD_eq_getElem?_getD]
  by_cases h:i=k
  · subst h;simp [hi]
  · have h':¬ k=i:=fun e=>h e.symm
    simp [h,h']
theorem qK:∀ {w xs:List Int} {c:Int},w.Nodup→(∀ r∈w,0≤r∧r<xs.length)→∀ k:Nat,(bump xs w c).getD k 0=xs.getD k 0 + (if (k:Int)∈w then c else 0)
  | [],xs,c,_,_,k=>by simp [wU]
  | r :: w,xs,c,hw,hin,k=>by
    rw [List.nodup_cons] at hw
    obtain ⟨r0,r1⟩:=hin r List.mem_cons_self
    have hl:r.toNat<xs.length:=by omega
    rw [nT,qK hw.2 (fun q hq=>by rw [List.length_set];exact hin q (List.mem_cons_of_mem _ hq)) k,wJ hl]
    by_cases e:k=r.toNat
    · have ek:(k:Int)=r:=by omega
      have hn:¬ (k:Int)∈w:=by rw [ek];exact hw.1
      rw [if_pos e,if_neg hn,if_pos (by rw [ek];exact List.mem_cons_self),e];omega
    · have ek:¬ (k:Int)=r:=by omega
      rw [if_neg e]
      by_cases h:(k:Int)∈w
      · rw [if_pos h,if_pos (List.mem_cons_of_mem _ h)]
      · rw [if_neg h,if_neg (fun z=>by rcases List.mem_cons.mp z with q | q;exact ek q;exact h q)]
def bumps (xs:List Int) (ps:List (List Int × Int)):List Int:=ps.foldl (fun xs p=>bump xs p.1 p.2) xs
theorem u5 (xs:List Int):bumps xs []=xs:=rfl
theorem lE (xs:List Int) (p:List Int × Int) (ps:List (List Int × Int)):bumps xs (p :: ps)=bumps (bump xs p.1 p.2) ps:=rfl
theorem rK (xs:List Int) (ps:List (List Int × Int)) (p:List Int × Int):bumps xs (ps++[p])=bump (bumps xs ps) p.1 p.2:=by
  unfold bumps;rw [List.foldl_append];rfl
theorem nQ:∀ (ps:List (List Int × Int)) (xs:List Int),(bumps xs ps).length=xs.length
  | [],_=>rfl
  | p :: ps,xs=>by rw [lE,nQ ps,jy]
def WOk (n:Nat) (w:List Int):Prop:=w.Nodup∧∀ r∈w,0≤r∧r<(n:Int)
theorem nR:∀ {ps:List (List Int × Int)} {xs:List Int},(∀ p∈ps,WOk xs.length p.1)→∀ k:Nat,(bumps xs ps).getD k 0=xs.getD k 0 + (ps.map fun p=>if (k:Int)∈p.1 then p.2 else 0).sum
  | [],xs,_,k=>by simp [u5]
  | p :: ps,xs,h,k=>by
    have hp:=h p List.mem_cons_self
    rw [lE,nR (fun q hq=>by rw [jy];exact h q (List.mem_cons_of_mem _ hq)) k,qK hp.1 hp.2 k,List.map_cons,List.sum_cons]
    omega
end Tn
namespace Tn
end Tn
namespace Tn
end Tn
namespace Tn
end Tn
namespace Tn
end Tn
namespace Tn
def fW (ws:List (List Int)):Nat→List Int:=fun k=>ws.getD k []
def fX (xs:List Int):Nat→Int:=fun k=>xs.getD k 0
def fF (fs:List Int):Int→Int:=fun r=>fs.getD r.toNat 0
def asI (gs:List Nat):List Int:=gs.map fun k:Nat=>(k:Int)
end Tn
namespace Tn
end Tn
namespace Tn
theorem gG (gs:List Nat):(asI gs).length=gs.length:=by unfold asI;rw [List.length_map]
theorem dY {α:Type} {gs:List α} {i:Nat} {k:α} (h:gs[i]?=some k):gs.take (i + 1)=gs.take i++[k]:=by
  rw [List.take_add_one,h];rfl
end Tn
namespace Tn
end Tn
namespace Tn
end Tn
namespace Tn
end Tn
namespace Tn
end Tn
namespace Rv
theorem lR {r:List Int} (h:cN r) {p b:Int} (h0:0≤p) (h1:p<r.length):Tn.WOk r.length (eN r p b):=⟨vJ h h0 h1,fun q hq=>lM h p h0 h1 q (sG hq)⟩
end Rv
namespace Rv
def spot (n x s:Int) (k:Nat):Int:=(x + s * (k:Int)) % n
theorem qD {n a b:Int} (hn:0<n) (h:a % n=b % n) (h1:a - b<n) (h2:b - a<n):a=b:=by
  have ea:=Int.emod_add_mul_ediv a n
  have eb:=Int.emod_add_mul_ediv b n
  have e:a - b=n * (a / n - b / n):=by rw [Int.mul_sub];omega
  generalize a / n - b / n=q at e
  by_cases h0:q=0
  · rw [h0,Int.mul_zero] at e;omega
  · by_cases hp:1≤q
    · have:=Int.mul_le_mul_of_nonneg_left hp (Int.le_of_lt hn)
      rw [Int.mul_one] at this;omega
    · have:q≤-1:=by omega
      have:=Int.mul_le_mul_of_nonneg_left this (Int.le_of_lt hn)
      rw [Int.mul_neg,Int.mul_one] at this;omega
theorem vK {n x s:Int} (hn:0<n) (hs:s=1∨s=n - 1) {j k:Nat} (hj:(j:Int)<n) (hk:(k:Int)<n) (h:spot n x s j=spot n x s k):j=k:=by
  unfold spot at h
  rcases hs with rfl | rfl
  · rw [Int.one_mul,Int.one_mul] at h
    have:=qD hn h (by omega) (by omega)
    omega
  · have e:∀ m:Nat,(x + (n - 1) * (m:Int)) % n=(x - (m:Int)) % n:=fun m=>by
      have:x + (n - 1) * (m:Int)=(x - (m:Int)) + n * (m:Int):=by rw [Int.sub_mul];omega
      rw [this,Int.add_mul_emod_self_left]
    rw [e j,e k] at h
    have:=qD hn h (by omega) (by omega)
    omega
theorem sJ {n x s:Int} (hn:0<n) (k:Nat):0≤spot n x s k:=Int.emod_nonneg _ (by omega)
theorem sO {n x s:Int} (hn:0<n) (k:Nat):spot n x s k<n:=Int.emod_lt_of_pos _ hn
def spots (n x s:Int) (m:Nat):List Int:=(List.range m).map (spot n x s)
theorem sI (n x s:Int) (m:Nat):(spots n x s m).length=m:=by simp [spots]
theorem qX (n x s:Int) (m:Nat):spots n x s (m + 1)=spots n x s m++[spot n x s m]:=by
  unfold spots;rw [List.range_succ,List.map_append];rfl
theorem pP {n x s:Int} {m k:Nat} (h:k<m):(spots n x s m)[k]?=some (spot n x s k):=by
  unfold spots;rw [List.getElem?_map,List.getElem?_range h];rfl
structure Lnk (n:Nat) (sp:Nat→Int) (k:Nat) (b:List Int):Prop where
  len:b.length=n
  at_:∀ (i:Nat) (x:Int),b[i]?=some x→x=-1∨∃ j m,j<m∧m<k∧m<n∧sp m=(i:Int)∧x=sp j
theorem Lnk.start (n:Nat) (sp:Nat→Int):Lnk n sp 1 (List.replicate n (-1)) :=
  ⟨by simp,fun i x h=>.inl (by
    rw [List.getElem?_replicate] at h
    split at h
    · exact (Option.some.inj h).symm
    · cases h)⟩
theorem Lnk.skip {n:Nat} {sp:Nat→Int} {k:Nat} {b:List Int} (h:Lnk n sp k b):Lnk n sp (k + 1) b :=
  ⟨h.len,fun i x hx=>(h.at_ i x hx).imp id fun ⟨j,m,h1,h2,h3⟩=>⟨j,m,h1,by omega,h3⟩⟩
theorem Lnk.turn {n:Nat} {sp:Nat→Int} {k j:Nat} {b:List Int} (h:Lnk n sp k b) (hk:k<n) (hj:j<k) (h0:0≤sp k):Lnk n sp (k + 1) (b.set (sp k).toNat (sp j)):=by
  refine ⟨by rw [List.length_set];exact h.len,fun i x hx=>?_⟩
  rw [List.getElem?_set] at hx
  split at hx
  · rename_i e
    split at hx
    · exact .inr ⟨j,k,hj,by omega,hk,by omega,(Option.some.inj hx).symm⟩
    · cases hx
  · exact h.skip.at_ i x hx
theorem Lnk.GR {n:Nat} {sp:Nat→Int} {k:Nat} {b:List Int} (h:Lnk n sp k b) (h0:∀ k,0≤sp k) (h1:∀ k,sp k<n) (inj:∀ j k,j<n→k<n→sp j=sp k→j=k) (hn:0<n):cN b:=by
  classical
  let rk:Nat→Nat:=fun i=>if h:∃ k,k<n∧sp k=(i:Int) then h.choose else 0
  have rk_at:∀ k,k<n→rk (sp k).toNat=k:=fun k hk=>by
    have hex:∃ m,m<n∧sp m=((sp k).toNat:Int):=⟨k,hk,by have:=h0 k;omega⟩
    show (if h:∃ m,m<n∧sp m=((sp k).toNat:Int) then h.choose else 0)=k
    rw [dif_pos hex]
    obtain ⟨a1,a2⟩:=hex.choose_spec
    exact inj _ _ a1 hk (by have:=h0 k;omega)
  refine ⟨rk,fun i _=>?_,fun i x hx=>?_⟩
  · rw [h.len]
    show (if h:∃ k,k<n∧sp k=(i:Int) then h.choose else 0)<n
    split
    · rename_i hex;exact hex.choose_spec.1
    · exact hn
  · rcases h.at_ i x hx with e | ⟨j,m,hjm,_,hm,e,rfl⟩
    · exact .inl e
    · refine .inr ⟨h0 j,by rw [h.len];exact h1 j,?_⟩
      have ei:i=(sp m).toNat:=by have:=h0 m;omega
      rw [ei,rk_at m hm,rk_at j (by omega)]
      exact hjm
end Rv
namespace Tn
end Tn
namespace Rv
theorem pN (f:Nat→Int):∀ n,tot n f=Tn.w5 n f
  | 0=>rfl
  | n + 1=>by show tot n f + f n=Tn.w5 n f + f n;rw [pN f n]
theorem uK {r s:List Int} {t:Int} (h0:0≤t) (h1:t<r.length):Tn.fF (nats r s) t=jq r s t:=by
  unfold Tn.fF nats
  rw [List.getD_eq_getElem?_getD,List.getElem?_map,List.getElem?_range (by omega)]
  show jq r s (t.toNat:Int)=_
  rw [Int.toNat_of_nonneg h0]
end Rv
namespace Tn
end Tn
namespace Tn
end Tn
namespace Rv
end Rv
namespace Tn
end Tn
namespace Rv
end Rv
namespace Tn
end Tn
namespace Rv
end Rv
namespace Rv
theorem tH:∀ {l m:List Int},l.Pairwise (·<·)→m.Pairwise (·<·)→(∀ x,x∈l↔x∈m)→l=m
  | [],[],_,_,_=>rfl
  | [],b :: m,_,_,h=>absurd ((h b).mpr List.mem_cons_self) (by simp)
  | a :: l,[],_,_,h=>absurd ((h a).mp List.mem_cons_self) (by simp)
  | a :: l,b :: m,hl,hm,h=>by
    obtain ⟨l1,l2⟩:=List.pairwise_cons.mp hl
    obtain ⟨m1,m2⟩:=List.pairwise_cons.mp hm
    have e:a=b:=by
      rcases List.mem_cons.mp ((h a).mp List.mem_cons_self) with e | e
      · exact e
      · rcases List.mem_cons.mp ((h b).mpr List.mem_cons_self) with e2 | e2
        · exact e2.symm
        · have:=m1 a e
          have:=l1 b e2
          omega
    subst e
    congr 1
    refine tH l2 m2 fun x=>⟨fun hx=>?_,fun hx=>?_⟩
    · rcases List.mem_cons.mp ((h x).mp (List.mem_cons_of_mem _ hx)) with e | e
      · have:=l1 x hx;omega
      · exact e
    · rcases List.mem_cons.mp ((h x).mpr (List.mem_cons_of_mem _ hx)) with e | e
      · have:=m1 x hx;omega
      · exact e
def iz (xs ys:List Int):Bool:=xs.any fun x=>decide (x∈ys)
def ur (r xs:List Int) (x:Int):Bool:=decide (x∈xs) && !iz ((walk r x).drop 1) xs
def rE (r xs:List Int) (n:Nat):List Nat:=(List.range n).filter fun i=>ur r xs (i:Int)
theorem jR (r xs:List Int) (n:Nat):rE r xs (n + 1)=rE r xs n++(if ur r xs (n:Int)=true then [n] else []):=by
  unfold rE;rw [List.range_succ,List.filter_append]
  congr 1
  by_cases h:ur r xs (n:Int)=true
  · rw [if_pos h,List.filter_cons,List.filter_nil,if_pos h]
  · rw [if_neg h,List.filter_cons,List.filter_nil,if_neg h]
theorem mj (r xs:List Int) (n:Nat):(rE r xs n).length≤n:=by
  unfold rE;refine Nat.le_trans (List.length_filter_le _ _) (by rw [List.length_range];exact Nat.le_refl _)
theorem wX {l:List Nat} (h:l.Pairwise (·<·)):(Tn.asI l).Pairwise (·<·):=by
  unfold Tn.asI
  refine List.Pairwise.map _ (fun a b hab=>?_) h
  exact Int.ofNat_lt.mpr hab
theorem Cv {r xs ms:List Int} (h0:∀ x∈xs,0≤x∧x<(r.length:Int)) (hm:ms.Pairwise (·<·)) (he:∀ x,x∈ms↔x∈xs):(ms.filter fun x=>!iz ((walk r x).drop 1) xs)=Tn.asI (rE r xs r.length):=by
  refine tH (hm.sublist List.filter_sublist) (wX (List.Pairwise.sublist List.filter_sublist List.pairwise_lt_range)) fun x=>?_
  unfold Tn.asI rE
  rw [List.mem_filter,List.mem_map,he]
  constructor
  · rintro ⟨h1,h2⟩
    obtain ⟨a0,a1⟩:=h0 x h1
    refine ⟨x.toNat,List.mem_filter.mpr ⟨List.mem_range.mpr (by omega),?_⟩,by omega⟩
    rw [show ((x.toNat:Nat):Int)=x by omega]
    unfold ur
    rw [decide_eq_true h1,h2];rfl
  · rintro ⟨k,hk,rfl⟩
    obtain ⟨_,h2⟩:=List.mem_filter.mp hk
    unfold ur at h2
    rw [Bool.and_eq_true] at h2
    exact ⟨of_decide_eq_true h2.1,h2.2⟩
theorem Cu {r D:List Int} {z:Int} (h:ur r D z=true):z∈D:=by
  unfold ur at h
  rw [Bool.and_eq_true] at h
  exact of_decide_eq_true h.1
section
variable {r D:List Int} {n:Nat} {st:Nat→Int} {nat:Int→Int} {x want:Nat→Int}
end
end Rv
namespace My
open PySem L2
local macro_rules | `(tactic| walk_at "new") => `(tactic| (generalize hE : upd _ _ _ = Hn; have On := Ow.mkE (by assumption) (by assumption) hE rfl; clear hE; revert On; revert Hn))
local macro_rules | `(tactic| walk_at "put") => `(tactic| (generalize hE : upd _ _ _ = Hn; (first | have On := Ow.qb (by assumption) 0 rfl hE rfl | have On := Ow.qb (by assumption) 1 rfl hE rfl | have On := Ow.qb (by assumption) 2 rfl hE rfl | have On := Ow.qb (by assumption) 3 rfl hE rfl | have On := Ow.qb (by assumption) 4 rfl hE rfl | have On := Ow.qb (by assumption) 5 rfl hE rfl); clear hE; (try simp only [List.set_cons_zero, List.set_cons_succ] at On); revert On; revert Hn))
set_option hygiene false
local macro_rules | `(tactic| walk_at "get") => `(tactic| first | assumption | exact O.get 0 | exact O.get 1 | exact O.get 2 | exact O.get 3 | exact O.get 4 | exact O.get 5 | exact O.get 6 | exact O.get 7 | exact O.get 8 | exact O.get 9 | exact O.get 10 | exact O.get 11 | exact O.get 12 | fail)
local macro_rules | `(tactic| walk_at "sq") => `(tactic| first | assumption | exact O.sq 0 | exact O.sq 1 | exact O.sq 2 | exact O.sq 3 | exact O.sq 4 | exact O.sq 5 | exact O.sq 6 | exact O.sq 7 | exact O.sq 8 | exact O.sq 9 | exact O.sq 10 | exact O.sq 11 | exact O.sq 12 | exact SqL.mo (by assumption) O.same | exact SqL.mo (by assumption) (s0.trans O.same) | fail)
local macro_rules | `(tactic| walk_at "sqT") => `(tactic| first | assumption | exact O.sqT 0 | exact O.sqT 1 | exact O.sqT 2 | exact O.sqT 3 | exact O.sqT 4 | exact O.sqT 5 | exact O.sqT 6 | exact O.sqT 7 | exact SqT.mo (by assumption) O.same | exact SqT.mo (by assumption) (s0.trans O.same) | fail)
local macro_rules | `(tactic| walk_at "at") => `(tactic| first | rfl | exact fC (by assumption) | exact vg (by assumption) | exact bH (by omega) (by omega) | exact lastV _ _ | exact ints_last (by omega) | exact bH (ns := [_, _]) (by omega) (by simp only [List.length_cons, List.length_nil]; omega) | exact bH (ns := [_, _, _]) (by omega) (by simp only [List.length_cons, List.length_nil]; omega) | exact bH (ns := [_, _, _, _]) (by omega) (by simp only [List.length_cons, List.length_nil]; omega) | exact bH (ns := [_, _, _, _, _]) (by omega) (by simp only [List.length_cons, List.length_nil]; omega) | exact bH (ns := [_, _, _, _, _, _]) (by omega) (by simp only [List.length_cons, List.length_nil]; omega) | exact bH (ns := [_, _, _, _, _, _, _]) (by omega) (by simp only [List.length_cons, List.length_nil]; omega) | exact bH (ns := [_, _, _, _, _, _, _, _]) (by omega) (by simp only [List.length_cons, List.length_nil]; omega) | fail)
local macro_rules | `(tactic| walk_at "c") => `(tactic| first | omega | (simp only [List.length_map]; omega) | exact szl | (show (0 : Int) < _; decide) | (show (0 : Int) < _; omega) | exact ⟨by decide, by decide⟩ | exact .inl ⟨by decide, by decide⟩ | exact .inr ⟨by decide, by decide⟩ | exact ⟨by decide, by decide, by decide⟩ | exact .inl ⟨by omega, by omega⟩ | exact .inr ⟨by omega, by omega⟩ | exact ⟨by omega, by omega⟩ | (split <;> omega) | fail)
local macro_rules | `(tactic| walk_at "ty") => `(tactic| first | exact .int _ | exact .bl _ | exact .lst (by walk_at "get") | exact .tup (by walk_at "get") | exact .non | fail)
local macro_rules | `(tactic| walk_at "kit") => `(tactic| first | exact xT K | exact xU K | exact xR K | exact kit_bb K | exact kit_bi K | exact kit_tt K | fail)
local macro_rules | `(tactic| walk_at "sz") => `(tactic| exact bf (by (try simp only [List.length_map, List.length_append, List.length_cons, List.length_nil]); omega))
local macro_rules | `(tactic| walk_at "s") => `(tactic| first | refine Jd ?_ | refine ⟨_, rfl, ?_⟩ | refine ⟨_, _, rfl, rfl, ?_⟩ | refine And.intro rfl ?_ | refine And.intro (by walk_at "c") ?_ | refine ⟨_, _, _, _, rfl, rfl, (show SqL _ _ _ _ by walk_at "sq"), (show atI _ _ = some _ by walk_at "at"), ?_⟩ | refine ⟨_, _, _, _, rfl, rfl, (show SqT _ _ _ _ by walk_at "sqT"), (show atI _ _ = some _ by walk_at "at"), ?_⟩ | refine ⟨_, _, rfl, .inl (show SqL _ _ _ _ by walk_at "sq"), ?_⟩ | refine ⟨_, _, rfl, .inr (show SqT _ _ _ _ by walk_at "sqT"), ?_⟩ | refine ⟨_, _, rfl, (show SqL _ _ _ _ by walk_at "sq"), ?_⟩ | refine And.intro ⟨_, (show SqL _ _ _ _ by walk_at "sq")⟩ ?_ | refine And.intro (.inl ⟨rfl, _, (show SqL _ _ _ _ by walk_at "sq")⟩) ?_ | refine ⟨_, _, _, _, rfl, (show qM _ _ _ _ by walk_at "ty"), (show PySem.W.kitOne _ _ _ = some _ by walk_at "kit"), ?_⟩ | refine ⟨_, _, rfl, ?_⟩ | fail)
local macro_rules | `(tactic| walk_at "w") => `(tactic| repeat walk_at "s")
local macro_rules | `(tactic| walk_at "if") => `(tactic| first | refine xV ?_ | refine qw ?_ | refine ifN ?_ | refine ifI (fun hc => ?_) (fun hc => ?_) | refine ifD (fun hc => ?_) (fun hc => ?_) | refine ifB (fun hc => ?_) (fun hc => ?_) | fail)
local macro_rules | `(tactic| walk_at "go") => `(tactic| repeat' (first | walk_at "if" | walk_at "s" | fail))
local macro_rules | `(tactic| walk_at "nw") => `(tactic| (generalize hE : upd _ _ _ = Hn; replace O := Ow.mkE O (by assumption) hE rfl; clear hE))
local macro_rules | `(tactic| walk_at "pt") => `(tactic| (generalize hE : upd _ _ _ = Hn; (first | replace O := Ow.qb O 0 rfl hE rfl | replace O := Ow.qb O 1 rfl hE rfl | replace O := Ow.qb O 2 rfl hE rfl | replace O := Ow.qb O 3 rfl hE rfl | replace O := Ow.qb O 4 rfl hE rfl | replace O := Ow.qb O 5 rfl hE rfl | replace O := Ow.qb O 6 rfl hE rfl | replace O := Ow.qb O 7 rfl hE rfl); clear hE; (try simp only [List.set_cons_zero, List.set_cons_succ] at O)))
local macro_rules | `(tactic| walk_at "app") => `(tactic| (refine ⟨_, _, _, rfl, rfl, (by walk_at "get"), (by walk_at "sz"), ?_⟩; walk_at "pt"))
local macro_rules | `(tactic| walk_at "elt") => `(tactic| (refine ⟨_, (by walk_at "get"), (by walk_at "sz"), ?_⟩; walk_at "pt"))
local macro_rules | `(tactic| walk_at "frz") => `(tactic| (obtain ⟨Hn, On, sn, en⟩ := O.frz; clear O; have O := On; clear On; (try replace s0 := s0.mo sn); (try replace d0 := d0.mo sn); (try replace d1 := d1.mo sn); (try replace d2 := d2.mo sn); (try replace d3 := d3.mo sn); (try replace d4 := d4.mo sn); (try replace d5 := d5.mo sn); (try replace d6 := d6.mo sn); (try replace d7 := d7.mo sn)))
local macro_rules | `(tactic| walk_at "mo") => `(tactic| ((try simp only [List.eraseIdx_cons_zero, List.eraseIdx_cons_succ] at O); (try replace s0 := s0.mo sn); (try replace d0 := d0.mo sn); (try replace d1 := d1.mo sn); (try replace d2 := d2.mo sn); (try replace d3 := d3.mo sn); (try replace d4 := d4.mo sn); (try replace d5 := d5.mo sn); (try replace d6 := d6.mo sn); (try replace d7 := d7.mo sn)))
local macro_rules | `(tactic| walk_at "er") => `(tactic| simp only [List.eraseIdx_cons_zero, List.eraseIdx_cons_succ] at O)
local macro_rules | `(tactic| walk_at "jn") => `(tactic| simp only [List.cons_append, List.nil_append] at O)
def top (i:Nat):Stmt:=PySem.Challenge.pw_sluice_k31_dry_and_lowest.main.body.getD i (.Pass ⟨0,0,0,0⟩)
abbrev bF:Stmt:=top 20
theorem jG:aU ["script","k"] ["script","k"] (ao bF):=⟨rfl,rfl,rfl,by decide +kernel,rfl,by decide +kernel,by decide +kernel⟩
def sW (K:PySem.W.Frag):Sp:=fun vs H Q _=>∃ (a:Addr) (ns:List Int) (k:Nat),vs=[.ref a,.int (k:Int)]∧SqL K H a (ns.map V.int)∧Q (.int (ns.getD k 0)) H
theorem Jh {a1:TT} {a2:TS} {a4:TS} {a5:TS} {D:Ends} {σ:St} {H:Hp} (h:let z3:TS:=a2;let z6:TS:=a5;(aR (jt a1 z3 a4) z6) D σ H):(aR (jt a1 a2 a4) a5) D σ H:=h
theorem sl_2 {a1:TS} {a2:TS} {a3:TS} {D:Ends} {σ:St} {H:Hp} (h:let z4:TS:=a3;let z5:TS:=aR a2 z4;(aR a1 z5) D σ H):(aR a1 (aR a2 a3)) D σ H:=h
theorem sl_3 {a1:TS} {a2:TT} {a3:TS} {a5:TS} {D:Ends} {σ:St} {H:Hp} (h:let z4:TS:=a3;let z6:TS:=a5;let z7:TS:=aR (mV a2 z4) z6;(aR a1 z7) D σ H):(aR a1 (aR (mV a2 a3) a5)) D σ H:=h
theorem Jg {a1:TS} {a2:TI} {a3:TG} {a4:TT} {a5:TS} {a7:TS} {a9:TS} {D:Ends} {σ:St} {H:Hp} (h:let z6:TS:=a5;let z8:TS:=jt a4 z6 a7;let z10:TS:=a9;let z11:TS:=aR (jC a2 a3 z8) z10;(aR a1 z11) D σ H):(aR a1 (aR (jC a2 a3 (jt a4 a5 a7)) a9)) D σ H:=h
theorem sl_5 {a1:TS} {a2:TT} {a3:TS} {a5:TS} {a6:TT} {a7:TS} {a9:TS} {a10:TS} {D:Ends} {σ:St} {H:Hp} (h:let z4:TS:=a3;let z8:TS:=a7;let z11:TS:=a10;let z12:TS:=aR (jt a6 z8 a9) z11;let z13:TS:=aR (jt a2 z4 a5) z12;(aR a1 z13) D σ H):(aR a1 (aR (jt a2 a3 a5) (aR (jt a6 a7 a9) a10))) D σ H:=h
theorem Jf {a1:TS} {a2:TS} {D:Ends} {σ:St} {H:Hp} (h:let z3:TS:=a2;(aR a1 z3) D σ H):(aR a1 a2) D σ H:=h
theorem sl_7 {a1:TS} {a2:TS} {a3:TS} {a4:TS} {a5:TS} {a6:TI} {a7:TG} {a8:TS} {a9:TT} {a10:TS} {a12:TS} {a15:TS} {D:Ends} {σ:St} {H:Hp} (h:let z11:TS:=a10;let z13:TS:=jt a9 z11 a12;let z14:TS:=aR a8 z13;let z16:TS:=a15;let z17:TS:=aR (jC a6 a7 z14) z16;let z18:TS:=aR a5 z17;let z19:TS:=aR a4 z18;let z20:TS:=aR a3 z19;let z21:TS:=aR a2 z20;(aR a1 z21) D σ H):(aR a1 (aR a2 (aR a3 (aR a4 (aR a5 (aR (jC a6 a7 (aR a8 (jt a9 a10 a12))) a15)))))) D σ H:=h
theorem sl_8 {a1:TS} {a2:TT} {a3:TS} {a4:TS} {a7:TS} {D:Ends} {σ:St} {H:Hp} (h:let z5:TS:=a4;let z6:TS:=aR a3 z5;let z8:TS:=a7;let z9:TS:=aR (mV a2 z6) z8;(aR a1 z9) D σ H):(aR a1 (aR (mV a2 (aR a3 a4)) a7)) D σ H:=h
theorem sl_9 {a1:TS} {a2:TT} {a3:TS} {a5:TS} {a6:TS} {D:Ends} {σ:St} {H:Hp} (h:let z4:TS:=a3;let z7:TS:=a6;let z8:TS:=aR (jt a2 z4 a5) z7;(aR a1 z8) D σ H):(aR a1 (aR (jt a2 a3 a5) a6)) D σ H:=h
theorem GQ {a1:TS} {a2:TI} {a3:TG} {a4:TI} {a5:TG} {a6:TS} {a9:TI} {a10:TG} {a11:TI} {a12:TG} {a13:TS} {a16:TS} {D:Ends} {σ:St} {H:Hp} (h:let z7:TS:=a6;let z8:TS:=jC a4 a5 z7;let z14:TS:=a13;let z15:TS:=jC a11 a12 z14;let z17:TS:=a16;let z18:TS:=aR (jC a9 a10 z15) z17;let z19:TS:=aR (jC a2 a3 z8) z18;(aR a1 z19) D σ H):(aR a1 (aR (jC a2 a3 (jC a4 a5 a6)) (aR (jC a9 a10 (jC a11 a12 a13)) a16))) D σ H:=h
theorem GP {a1:TS} {a2:TI} {a3:TG} {a4:TI} {a5:TG} {a6:TS} {a9:TS} {D:Ends} {σ:St} {H:Hp} (h:let z7:TS:=a6;let z8:TS:=jC a4 a5 z7;let z10:TS:=a9;let z11:TS:=aR (jC a2 a3 z8) z10;(aR a1 z11) D σ H):(aR a1 (aR (jC a2 a3 (jC a4 a5 a6)) a9)) D σ H:=h
theorem GK {a1:TS} {a2:TS} {a3:TS} {a4:TT} {a5:TS} {a7:TS} {a8:TS} {a9:TT} {a10:TS} {a12:TS} {a13:TS} {D:Ends} {σ:St} {H:Hp} (h:let z6:TS:=a5;let z11:TS:=a10;let z14:TS:=a13;let z15:TS:=sE (jt a9 z11 a12) z14;let z16:TS:=aR a8 z15;let z17:TS:=sE (jt a4 z6 a7) z16;let z18:TS:=aR a3 z17;let z19:TS:=aR a2 z18;(aR a1 z19) D σ H):(aR a1 (aR a2 (aR a3 (sE (jt a4 a5 a7) (aR a8 (sE (jt a9 a10 a12) a13)))))) D σ H:=h
theorem GJ {a1:TS} {a2:TI} {a3:TG} {a4:TS} {a6:TI} {a7:TG} {a8:TS} {a10:TS} {D:Ends} {σ:St} {H:Hp} (h:let z5:TS:=a4;let z9:TS:=a8;let z11:TS:=a10;let z12:TS:=aR (jC a6 a7 z9) z11;let z13:TS:=aR (jC a2 a3 z5) z12;(aR a1 z13) D σ H):(aR a1 (aR (jC a2 a3 a4) (aR (jC a6 a7 a8) a10))) D σ H:=h
theorem GF {a1:TS} {a2:TS} {a3:TS} {a4:TS} {a5:TS} {a6:TI} {a7:TG} {a8:TS} {a9:TS} {a10:TS} {a11:TS} {a16:TS} {a17:TS} {a18:TS} {a19:TS} {a20:TS} {a21:TT} {a22:TS} {a24:TS} {a25:TT} {a26:TS} {a28:TS} {a29:TS} {a30:TT} {a31:TS} {a33:TS} {a34:TS} {a35:TS} {a36:TT} {a37:TS} {a39:TS} {a40:TS} {D:Ends} {σ:St} {H:Hp} (h:let z12:TS:=a11;let z13:TS:=aR a10 z12;let z14:TS:=aR a9 z13;let z15:TS:=aR a8 z14;let z23:TS:=a22;let z27:TS:=a26;let z32:TS:=a31;let z38:TS:=a37;let z41:TS:=a40;let z42:TS:=aR (jt a36 z38 a39) z41;let z43:TS:=aR a35 z42;let z44:TS:=aR a34 z43;let z45:TS:=aR (jt a30 z32 a33) z44;let z46:TS:=aR a29 z45;let z47:TS:=aR (jt a25 z27 a28) z46;let z48:TS:=aR (jt a21 z23 a24) z47;let z49:TS:=aR a20 z48;let z50:TS:=aR a19 z49;let z51:TS:=aR a18 z50;let z52:TS:=aR a17 z51;let z53:TS:=aR a16 z52;let z54:TS:=aR (jC a6 a7 z15) z53;let z55:TS:=aR a5 z54;let z56:TS:=aR a4 z55;let z57:TS:=aR a3 z56;let z58:TS:=aR a2 z57;(aR a1 z58) D σ H):(aR a1 (aR a2 (aR a3 (aR a4 (aR a5 (aR (jC a6 a7 (aR a8 (aR a9 (aR a10 a11)))) (aR a16 (aR a17 (aR a18 (aR a19 (aR a20 (aR (jt a21 a22 a24) (aR (jt a25 a26 a28) (aR a29 (aR (jt a30 a31 a33) (aR a34 (aR a35 (aR (jt a36 a37 a39) a40)))))))))))))))))) D σ H:=h
theorem Ar {f:Addr} {fd:FuncData} (D:Df K mg "_law_cell_at" bF ["script","k"] f fd) (B:Blt mg):cR P w K mg base CX0 1 f fd ["script","k"] (sW K):=by
  refine D.F.ok jG (fun vs H Q E h=>?_) (fun cdv A outer s H vs Q E hr h=>?_)
  · obtain ⟨a,ns,k,rfl,_⟩:=h;rfl
  · obtain ⟨a,ns,k,rfl,hS,q⟩:=h
    refine ⟨_,(aA (iu (cu G4 (pv 1) (aV aN rfl B.len PySem.boot_len (ak (pv 0) au)) (dB _))
        (aD (bG (bA aG (pv 0) (pv 1) (fun _ _=>rfl))))
        dz)
      (aD (bG aq))),?_⟩
    refine Jh ?_
    intro zu0 zu1
    refine ⟨_,rfl,_,rfl,a,_,rfl,.inl hS,_,_,rfl,rfl,_,rfl,?_⟩
    refine Ju (fun h=>?_) (fun h=>?_)
    · have hk:k<ns.length:=by
        have:=of_decide_eq_true h
        rw [List.length_map] at this;omega
      have e:ns[k]?=some (ns.getD k 0):=by rw [List.getD_eq_getElem?_getD,List.getElem?_eq_getElem hk];rfl
      exact ⟨_,rfl,_,rfl,a,_,_,_,rfl,rfl,hS,fC e,q⟩
    · have hk:¬ k<ns.length:=fun z=>h (decide_eq_true (by rw [List.length_map];omega))
      have e:ns.getD k 0=0:=by rw [List.getD_eq_getElem?_getD,List.getElem?_eq_none (by omega)];rfl
      rw [e] at q
      exact q
abbrev cH:Stmt:=top 22
theorem fV:aU ["cell","k","seed","turned"] ["cell","k"] (ao cH):=⟨rfl,rfl,rfl,by decide +kernel,rfl,by decide +kernel,by decide +kernel⟩
def drw (c k:Int):Int:=((c % 1000000007 * 6007 + 613 * k + 104729) * (c % 1000000007 * 6007 + 613 * k + 104729) % 1000000007 * (c % 1000000007 * 6007 + 613 * k + 104729 + 5 * k + 1) % 998244353) * ((c % 1000000007 * 6007 + 613 * k + 104729) * (c % 1000000007 * 6007 + 613 * k + 104729) % 1000000007 * (c % 1000000007 * 6007 + 613 * k + 104729 + 5 * k + 1) % 998244353 + 2 * k + 3) % 4294967291
theorem Gd (c k:Int):0≤drw c k:=Int.emod_nonneg _ (by decide)
def xK:Sp:=fun vs H Q _=>∃ (c k:Int),vs=[.int c,.int k]∧0≤k∧k≤1000∧Q (.int (drw c k)) H
theorem Cp {f:Addr} {fd:FuncData} (D:Df K mg "_law_draw" cH ["cell","k"] f fd):cR P w K mg base CX0 1 f fd ["cell","k"] xK:=by
  refine D.F.ok fV (fun vs H Q E h=>?_) (fun cdv A outer s H vs Q E hr h=>?_)
  · obtain ⟨c,k,rfl,_⟩:=h;rfl
  · obtain ⟨c,k,rfl,h0,h1,q⟩:=h
    have a0:=Int.emod_nonneg c (show (1000000007:Int)≠0 by decide)
    have a1:=Int.emod_lt_of_pos c (show (0:Int)<1000000007 by decide)
    refine ⟨_,(aA (aW (i:=2) fV.nd rfl (Or.inl rfl) (aM dG (aM dG (aM eU (aM cM (pv 0) aq) aq) (aM eU aq (pv 1))) aq))
      (aA (aW (i:=3) fV.nd rfl (Or.inl rfl) (aM cM (aM eU (aM cM (aM eU (pv 2) (pv 2)) aq) (aM dG (aM dG (pv 2) (aM eU aq (pv 1))) aq)) aq))
      (aD (bG (aM cM (aM eU (pv 3) (aM dG (aM dG (pv 3) (aM eU aq (pv 1))) aq)) aq))))),?_⟩
    refine sl_2 ?_
    intro zu0 zu1
    refine ⟨_,rfl,_,_,rfl,rfl,(by show (0:Int)<1000000007;decide),_,_,rfl,rfl,.inr ⟨by decide,by decide⟩,_,rfl,_,_,rfl,rfl,.inl ⟨by decide,by decide⟩,_,_,rfl,rfl,_,_,rfl,rfl,?_⟩
    refine ⟨_,rfl,_,rfl,_,_,rfl,rfl,.inl ⟨by omega,by omega⟩,_,_,rfl,rfl,(by show (0:Int)<1000000007;decide),_,rfl,_,rfl,_,_,rfl,rfl,.inl ⟨by decide,by decide⟩,_,_,rfl,rfl,_,_,rfl,rfl,_,_,rfl,rfl,.inr ⟨by omega,by omega⟩,_,_,rfl,rfl,(by show (0:Int)<998244353;decide),?_⟩
    have b0:=Int.emod_nonneg ((c % 1000000007 * 6007 + 613 * k + 104729) * (c % 1000000007 * 6007 + 613 * k + 104729) % 1000000007 * (c % 1000000007 * 6007 + 613 * k + 104729 + 5 * k + 1)) (show (998244353:Int)≠0 by decide)
    have b1:=Int.emod_lt_of_pos ((c % 1000000007 * 6007 + 613 * k + 104729) * (c % 1000000007 * 6007 + 613 * k + 104729) % 1000000007 * (c % 1000000007 * 6007 + 613 * k + 104729 + 5 * k + 1)) (show (0:Int)<998244353 by decide)
    exact ⟨_,rfl,_,rfl,_,rfl,_,_,rfl,rfl,.inl ⟨by decide,by decide⟩,_,_,rfl,rfl,_,_,rfl,rfl,_,_,rfl,rfl,.inl ⟨by omega,by omega⟩,_,_,rfl,rfl,(by show (0:Int)<4294967291;decide),q⟩
abbrev aQ:Stmt:=top 23
theorem lX:aU ["cell","many"] ["cell","many"] (ao aQ):=⟨rfl,rfl,rfl,by decide +kernel,rfl,by decide +kernel,by decide +kernel⟩
def wO (c:Int) (n:Nat):List Int:=(List.range n).map fun (i:Nat)=>drw c (i:Int)
theorem uL (c:Int) (n:Nat):wO c (n + 1)=wO c n++[drw c (n:Int)]:=by
  unfold wO;rw [List.range_succ,List.map_append];rfl
theorem iJ (c:Int) (n:Nat):(wO c n).length=n:=by unfold wO;simp
theorem uM {c:Int} {n:Nat} {k:Nat}:0≤(wO c n).getD k 0:=by
  rw [List.getD_eq_getElem?_getD]
  unfold wO
  rw [List.getElem?_map]
  cases (List.range n)[k]? with
  | none=>exact Int.le_refl _
  | some i=>exact Gd _ _
def jE:Sp:=fun vs H Q _=>∃ (c m:Int),vs=[.int c,.int m]∧-1000≤m∧m≤1000∧Gh H (fun xs=>∃ ys,xs=ys.map V.int∧ys=wO c m.toNat) Q
theorem Ao {f fP:Addr} {fd fdP:FuncData} (D:Df K mg "_law_mixed" aQ ["cell","many"] f fd) (B:Blt mg) (dJ:Df K mg "_law_draw" cH ["cell","k"] fP fdP)
    (pK:cR P w K mg base CX0 1 fP fdP ["cell","k"] xK):cR P w K mg base CX0 2 f fd ["cell","many"] jE:=by
  refine D.F.ok lX (fun vs H Q E h=>?_) (fun cdv A outer s H vs Q E hr h=>?_)
  · obtain ⟨c,k,rfl,_⟩:=h;rfl
  · obtain ⟨c,m,rfl,h0,h1,q⟩:=h
    refine ⟨_,(aD (bG (gO (ao aQ) rfl ["cell","many"] rfl ["k","cell"] [none,some 0] (by decide +kernel) (by decide +kernel) (by decide +kernel) rfl (iw rfl B.range (ak (pv 1) au)) (fun _ _ _=>(aO (i:=0) (show (["k","cell"]:List Str).Nodup by decide +kernel) rfl (Or.inl rfl))) (fun _ _ _=>lZ) (fun _ _ _=>(aJ pK (hr.mono (by decide)) rfl dJ.m dJ.F.kp dJ.b .nil cA (ak (pv 1) (ak (pv 0) au))))))),?_⟩
    refine ⟨_,rfl,m,rfl,by omega,by omega,fun acc hacc=>?_⟩
    refine jf (fun i τ H2=>∃ v,τ=[v,some (.int c)]∧Same H H2∧H2 acc=some (.lst ((wO c i).map V.int))) ⟨none,rfl,(Same.refl H).upd hacc,bh⟩ ?_ ?_
    · rintro i τ H2 hi ⟨v,rfl,s2,h2⟩
      refine Gn ?_
      refine ⟨_,rfl,_,rfl,c,_,rfl,by omega,by omega,?_⟩
      refine ⟨_,h2,bf (by rw [List.length_map,iJ];omega),_,rfl,s2.upd hacc,?_⟩
      rw [bh,uL,List.map_append,show (0:Int) + (i:Int)=(i:Int) by omega];rfl
    · rintro τ H2 ⟨v,rfl,s2,h2⟩
      exact q acc H2 _ s2 hacc h2 ⟨_,rfl,rfl⟩
abbrev bY:Stmt:=top 21
theorem lW:aU ["found"] ["found"] (ao bY):=⟨rfl,rfl,rfl,by decide +kernel,rfl,by decide +kernel,by decide +kernel⟩
def pQ:Sp:=fun vs H Q _=>∃ (z:Int),vs=[.int z]∧Q (.bl true) H
theorem xT (K:PySem.W.Frag):PySem.W.kitOne K (.type "int") (.type "int")=some true:=by rfl
theorem xU (K:PySem.W.Frag):PySem.W.kitOne K (.type "int") (.type "bool")=some false:=by rfl
theorem xR (K:PySem.W.Frag):PySem.W.kitOne K (.type "list") (.type "list")=some true:=by rfl
theorem vU {f:Addr} {fd:FuncData} (D:Df K mg "_law_whole" bY ["found"] f fd) (B:Blt mg):cR P w K mg base CX0 1 f fd ["found"] pQ:=by
  refine D.F.ok lW (fun vs H Q E h=>?_) (fun cdv A outer s H vs Q E hr h=>?_)
  · obtain ⟨z,rfl,_⟩:=h;rfl
  · obtain ⟨z,rfl,q⟩:=h
    refine ⟨_,(aD (bG (xO (aV gQ rfl B.isinstance PyProof.Rows.boot_isinstance (ak (pv 0) (ak (o7 (v:=.ty "int") rfl B.int PyProof.Rows.boot_int rfl) au))) (xM (BP (aV gQ rfl B.isinstance PyProof.Rows.boot_isinstance (ak (pv 0) (ak (o7 (v:=.ty "bool") rfl B.bool PyProof.Rows.boot_bool rfl) au)))))))),?_⟩
    refine ⟨_,rfl,_,_,_,true,rfl,.int _,xT K,_,rfl,xV ?_⟩
    exact ⟨_,rfl,_,_,_,false,rfl,.int _,xU K,_,rfl,q⟩
abbrev dM:Stmt:=top 5
theorem m5:aU ["below","reach","way"] ["below","reach"] (ao dM):=⟨rfl,rfl,rfl,by decide +kernel,rfl,by decide +kernel,by decide +kernel⟩
def pR (K:PySem.W.Frag):Sp:=fun vs H Q _=>∃ (a:Addr) (r:List Int) (p:Int),vs=[.ref a,.int p]∧SqL K H a (r.map V.int)∧Rv.cN r∧0≤p∧p<r.length∧r.length≤900 ∧
  Gh H (fun xs=>xs=(Rv.walk r p).map V.int) Q
theorem vf (pre:List Int) (z:Int):atI ((pre++[z]).map V.int) (-1)=some (V.int z):=by
  rw [List.map_append];exact wW _ _
theorem BZ {f:Addr} {fd:FuncData} (D:Df K mg "way_of" dM ["below","reach"] f fd) (C:Mth mg):cR P w K mg base CX0 1 f fd ["below","reach"] (pR K):=by
  obtain ⟨tM,hMOUTH⟩:=C.MOUTH
  refine D.F.ok m5 (fun vs H Q E h=>?_) (fun cdv A outer s H vs Q E hr h=>?_)
  · obtain ⟨a,r,p,rfl,_⟩:=h;rfl
  · obtain ⟨a,r,p,rfl,hS,hR,p0,p1,hn,q⟩:=h
    refine ⟨_,(aA (aW (i:=2) m5.nd rfl (Or.inl rfl) (dO (ak (pv 1) au)))
      (aA (qd PassesOwn.never (cu Aj (bA aG (pv 0) (bA aG (pv 2) (jN fO aq) (fun _ _=>rfl)) (fun _ _=>rfl)) (oZ (v:=.int (-1)) rfl hMOUTH ⟨_,rfl⟩) (dB _))
        (aD (fY (j8 PySem.F.plainAttrs_list PySem.F.slot_list_append PySem.F.type_list_append dD (pv 2) (ak (bA aG (pv 0) (bA aG (pv 2) (jN fO aq) (fun _ _=>rfl)) (fun _ _=>rfl)) au)))))
      (aD (bG (pv 2))))),?_⟩
    refine sl_3 ?_
    intro zu0 zu1 zu2
    refine ⟨_,rfl,(by show 1≤sizeLine;decide),fun lw hlw=>?_⟩
    refine ⟨fun m σ H'=>∃ (pre:List Int) (z:Int),σ=[some (.ref a),some (.int p),some (.ref lw)]∧Same H H'∧H' lw=some (.lst ((pre++[z]).map V.int))∧0≤z∧z<r.length∧pre++Rv.walk r z=Rv.walk r p∧m=Rv.mea r z,
      ⟨_,[],p,rfl,(Same.refl H).upd hlw,bh,p0,p1,rfl,rfl⟩,?_⟩
    rintro m σ H2 ⟨pre,z,rfl,s2,h2,z0,z1,e,rfl⟩
    have g:=Rv.gb z0 z1
    have hlen:pre.length + (Rv.walk r z).length≤r.length + 1:=by
      have:=Rv.ju r p
      rw [← e,List.length_append] at this;exact this
    refine ⟨_,rfl,_,rfl,_,rfl,lw,_,_,_,rfl,rfl,SqL.of h2,vf pre z,a,_,_,_,rfl,rfl,s2.seq hS,iC z0 g,rfl,_,rfl,?_⟩
    rcases hR.step z0 z1 with hm | ⟨n0,n1⟩
    · rw [hm]
      refine Bc rfl ?_
      refine ⟨_,rfl,q lw H2 _ s2 hlw h2 ?_⟩
      have ew:Rv.walk r z=[z]:=by rw [Rv.cL hR z0 z1,hm,Rv.eY]
      rw [← e,ew]
    · have hd:(!decide (V.int (Rv.nxt r z)=V.int (-1)))=true:=by
        have:¬ Rv.nxt r z=-1:=by omega
        simp [this]
      rw [hd]
      refine xV ?_
      refine ⟨fun σ' H'=>∃ m',m'<Rv.mea r z∧∃ (pre:List Int) (z:Int),σ'=[some (.ref a),some (.int p),some (.ref lw)]∧Same H H'∧H' lw=some (.lst ((pre++[z]).map V.int))∧0≤z∧z<r.length∧pre++Rv.walk r z=Rv.walk r p∧m'=Rv.mea r z,fun _ _ x=>x,?_⟩
      refine ⟨_,rfl,.inl ⟨rfl,_,SqL.of h2⟩,_,rfl,_,rfl,_,rfl,lw,_,_,_,rfl,rfl,SqL.of h2,vf pre z,a,_,_,_,rfl,rfl,s2.seq hS,iC z0 g,lw,_,_,rfl,rfl,h2,bf ?_,?_⟩
      · rw [List.length_map,List.length_append]
        have:1≤(Rv.walk r z).length:=by rw [Rv.cL hR z0 z1];exact Nat.succ_le_succ (Nat.zero_le _)
        show pre.length + 1≤_
        omega
      · refine ⟨_,Rv.xQ hR z0 z1,pre++[z],Rv.nxt r z,rfl,s2.upd hlw,?_,n0,n1,?_,rfl⟩
        · rw [bh,List.map_append (l₁:=pre++[z])];rfl
        · rw [List.append_assoc]
          show pre++(z :: Rv.walk r (Rv.nxt r z))=_
          rw [← Rv.cL hR z0 z1];exact e
abbrev bM:Stmt:=top 6
theorem lV:aU ["below"] ["below"] (ao bM):=⟨rfl,rfl,rfl,by decide +kernel,rfl,by decide +kernel,by decide +kernel⟩
def Bv (K:PySem.W.Frag) (H:Hp) (a:Addr) (r:List Int):Prop:=SqL K H a (r.map V.int)∧Rv.cN r∧r.length<64
def cO:Pos × Str:=(⟨14,41,14,90⟩,"tops_first.<locals>.<lambda>")
def TT1 (P:Addr) (T:eH):Prop:=(P,cO.1,cO.2)∈T∧(T.map (·.1)).Nodup
def sS (K:PySem.W.Frag) (T:eH):Sp:=fun vs H Q _=>∃ (a:Addr) (r:List Int),vs=[.ref a]∧Bv K H a r∧TabsOk T H ∧
  iQ T H (fun xs=>∃ p,xs=p.map (fun (i:Nat)=>V.int (i:Int))∧Rv.vq r p) Q
theorem Ay {r:List Int} {i j:Nat} (hi:i<64) (hj:j<64):HT.lexLt [-((Rv.walk r (i:Int)).length:Int),(i:Int)] [-((Rv.walk r (j:Int)).length:Int),(j:Int)]=decide (Rv.kap r i<Rv.kap r j):=by
  unfold Rv.kap
  rw [HT.jd,HT.jd,HT.mq]
  rw [Bool.eq_iff_iff]
  split
  · split
    · simp only [Bool.false_eq_true,decide_eq_true_eq,false_iff];omega
    · simp only [decide_eq_true_eq];omega
  · simp only [decide_eq_true_eq];omega
theorem Ak {f fW:Addr} {fd fdW:FuncData} {pT cT:Addr} {T:eH} (D:Df K mg "tops_first" bM ["below"] f fd) (hcd:fd.code=.ref cT) (hhd:PySem.W.codeHdIn K cT pT=true) (hT:TT1 pT T) (hbm:BM mg base) (B:Blt mg)
    (bO:Df K mg "way_of" dM ["below","reach"] fW fdW) (iR:cR P w K mg base CX0 1 fW fdW ["below","reach"] (pR K)):cR P w K mg base CX0 5 f fd ["below"] (sS K T):=by
  refine D.F.okC hcd lV (fun vs H Q E h=>?_) (fun A outer s H vs Q E hr h=>?_)
  · obtain ⟨a,r,rfl,_⟩:=h;rfl
  · obtain ⟨a,r,rfl,⟨hS,hR,h64⟩,tk,q⟩:=h
    refine ⟨_,(aD (bG (nA (P:=pT) (c:=cT) (p:="reach") (ao bM) rfl ["below"] rfl ["below"] [some 0] (by decide +kernel) (by decide +kernel) (by decide +kernel) rfl hbm rfl hhd (wD (hr.mono (by decide))) rfl B.sorted rfl B.range (ak (aV aN rfl B.len PySem.boot_len (ak (pv 0) au)) au) (fun A f cv s H hh hd hu=>(tX (ak (jN fO (aV (mL (K:=K) rfl) rfl B.len PySem.boot_len (ak (aJ iR (wB (hr.mono (by decide)) hh hd hu) rfl bO.m bO.F.kp bO.b .nil cA (ak (pv 1) (ak (pv 0) au))) au))) (ak (pv 0) au)))) (fun _ _ _ _=>rfl)))),?_⟩
    have hl:(r.map V.int).length=r.length:=List.length_map _
    refine ⟨_,rfl,a,_,rfl,.inl hS,r.length,by rw [hl],h64,tk _ hT.1,fun H2 k1 k2 t2=>?_⟩
    have sT:bI T H H2:=bI.tab tk hT.1 hT.2 k1 t2
    refine ⟨fun i ts H3=>bI T H2 H3∧ts.length=i∧∀ (j:Nat) (t:Addr),ts[j]?=some t→H3 t=some (.tup ([-((Rv.walk r (j:Int)).length:Int),(j:Int)].map V.int)),fun i=>[-((Rv.walk r (i:Int)).length:Int),(i:Int)],Rv.kap r,1,⟨bI.refl sT.t1,rfl,fun j t e=>by simp at e⟩,?_,?_,fun _ _=>rfl,fun i j hi hj=>Ay (by omega) (by omega),?_,?_⟩
    · rintro i ts H3 hi ⟨s3,htl,h3⟩
      refine ⟨fun c' e=>s3.keep c' _ e fun ps z=>(by cases z),?_⟩
      refine ⟨_,rfl,_,rfl,a,r,(i:Int),rfl,(sT.trans s3).seq hS,hR,by omega,by omega,by omega,fun l H4 xs s4 n4 h4 e4=>?_⟩
      subst e4
      refine ⟨l,_,rfl,.inl (SqL.of h4),_,rfl,_,rfl,(by show 2≤sizeLine;decide),fun t ht=>⟨t,rfl,?_⟩⟩
      have sT4:bI T H2 H4:=s3.trans (bI.of s3.t1 s4)
      have nt:H2 t=none:=sT4.free ht
      refine ⟨sT4.upd nt (.inl ht),by rw [List.length_append,htl];rfl,fun j t' e=>?_⟩
      by_cases hj:j<ts.length
      · rw [List.getElem?_append_left hj] at e
        have h4':=s4 _ _ (h3 j t' e)
        rw [aL (aY h4' ht)];exact h4'
      · rw [List.getElem?_append_right (by omega)] at e
        have hj0:j - ts.length=0:=by
          have:=(List.getElem?_eq_some_iff.mp e).1
          simp at this;omega
        have hji:j=i:=by omega
        rw [hj0] at e
        simp at e
        subst e
        subst hji
        rw [bh,List.length_map];rfl
    · rintro ts H3 ⟨_,_,h3⟩
      exact h3
    · intro i j hi hj hij e
      unfold Rv.kap at e
      omega
    · rintro ts H3 D' ys ⟨s3,_,_⟩ hD ⟨p,hp,rfl,ho⟩
      have hbl:(jr r.length).length=r.length:=by unfold jr;simp
      rw [hbl] at hp
      refine q D' _ _ ((sT.trans s3).upd ((sT.trans s3).free hD) (.inl hD)) ((sT.trans s3).free hD) bh ⟨p,?_,hp,ho⟩
      refine List.map_congr_left fun i hi=>?_
      have hi':i<r.length:=List.mem_range.mp (hp.mem_iff.mp hi)
      show (jr r.length).getD i .non=_
      unfold jr
      rw [List.getD_eq_getElem?_getD,List.getElem?_map,List.getElem?_range hi'];rfl
abbrev bW:Stmt:=top 9
theorem eZ:aU ["below","springs","flows","reach"] ["below","springs"] (ao bW):=⟨rfl,rfl,rfl,by decide +kernel,rfl,by decide +kernel,by decide +kernel⟩
def xr (K:PySem.W.Frag) (T:eH):Sp:=fun vs H Q _=>∃ (a b:Addr) (r s:List Int),vs=[.ref a,.ref b]∧Bv K H a r∧SqL K H b (s.map V.int)∧s.length=r.length∧TabsOk T H ∧
  iQ T H (fun xs=>xs=(Rv.nats r s).map V.int) Q
theorem Ce {f fT:Addr} {fd fdT:FuncData} {T:eH} (D:Df K mg "natural_of" bW ["below","springs"] f fd) (B:Blt mg) (C:Mth mg)
    (cU:Df K mg "tops_first" bM ["below"] fT fdT) (ou:cR P w K mg base CX0 5 fT fdT ["below"] (sS K T)):cR P w K mg base CX0 6 f fd ["below","springs"] (xr K T):=by
  obtain ⟨tM,hMOUTH⟩:=C.MOUTH
  refine D.F.ok eZ (fun vs H Q E h=>?_) (fun cdv A outer s H vs Q E hr h=>?_)
  · obtain ⟨a,b,r,s,rfl,_⟩:=h;rfl
  · obtain ⟨a,b,r,sp,rfl,⟨hS,hR,h64⟩,hB,hl,tk,q⟩:=h
    refine ⟨_,(aA (aW (i:=2) eZ.nd rfl (Or.inl rfl) (eO cQ rfl B.list PyProof.Rows.boot_list (ak (pv 1) au)))
      (aA (fH PassesOwn.never rfl (fu (aJ ou (hr.mono (by decide)) rfl cU.m cU.F.kp cU.b .nil cA (ak (pv 0) au))) (aO (i:=3) eZ.nd rfl (Or.inl rfl))
        (aD (iu (cu Aj (bA aG (pv 0) (pv 3) (fun _ _=>rfl)) (oZ (v:=.int (-1)) rfl hMOUTH ⟨_,rfl⟩) (dB _))
          (aD (tO (pv 2) (bA aG (pv 0) (pv 3) (fun _ _=>rfl)) qy (bA aG (pv 2) (pv 3) (fun _ _=>rfl)) xW set_list))
          dz)))
      (aD (bG (pv 2))))),?_⟩
    refine Jg ?_
    intro zu0 zu1 zu2 zu3
    have O:=Ow.refl tk
    refine ⟨_,rfl,b,_,rfl,.inl hB,fun lf hlf=>?_⟩
    walk_at "new";intro H1 O
    refine ⟨_,rfl,a,r,rfl,⟨O.same.seq hS,hR,h64⟩,O.same.t1,O.mC fun lt H2 xs O ⟨p,ep,hp⟩=>?_⟩
    subst ep
    refine ⟨lt,rfl,⟨_,O.sq 0⟩,?_⟩
    refine iI (K:=K) (a:=lt) (xs:=p.map fun (i:Nat)=>V.int (i:Int)) (fun t σ H3=>∃ (v3:Option V) (fl:List Int),σ=[some (.ref a),some (.ref b),some (.ref lf),v3]∧Ow T H H3 [(lt,.lst (p.map fun (i:Nat)=>V.int (i:Int))),(lf,.lst (fl.map V.int))]∧Rv.qN r sp p t fl)
      ⟨none,sp,rfl,O,Rv.qN.start r sp p hl⟩ (fun _ _ _ _ ⟨_,_,_,O,_⟩=>O.sq 0) ?_ ?_
    · rintro t y σ H3 hy ⟨v3,fl,rfl,O,N⟩
      rw [List.getElem?_map] at hy
      obtain ⟨j,hj,rfl⟩:∃ j,p[t]?=some j∧y=V.int (j:Int):=by
        cases e:p[t]? with
        | none=>rw [e] at hy;cases hy
        | some j=>rw [e] at hy;exact ⟨j,rfl,(Option.some.inj hy).symm⟩
      have hjr:=hp.lt (List.mem_of_getElem? hj)
      have gj:=Rv.gb (r:=r) (p:=(j:Int)) (by omega) (by omega)
      have aj:=iC (ns:=r) (i:=(j:Int)) (by omega) gj
      have here:=N.here hp hR h64 hj
      refine ⟨_,rfl,_,rfl,a,_,_,_,rfl,rfl,O.same.seq hS,aj,rfl,_,rfl,?_⟩
      rcases hR.step (p:=(j:Int)) (by omega) (by omega) with hm | ⟨n0,n1⟩
      · rw [hm]
        refine Bc rfl ?_
        exact ⟨_,fl,rfl,O,N.G5 hj hm⟩
      · have hd:(!decide (V.int (Rv.nxt r (j:Int))=V.int (-1)))=true:=by
          have:¬ Rv.nxt r (j:Int)=-1:=by omega
          simp [this]
        rw [hd]
        refine xV ?_
        obtain ⟨bn,ebn⟩:=Int.eq_ofNat_of_zero_le n0
        have hbl:bn<r.length:=by omega
        rw [ebn] at aj
        obtain ⟨x,hx⟩:∃ x,fl[bn]?=some x:=⟨_,N.at_ bn hbl⟩
        refine ⟨_,rfl,_,rfl,_,rfl,a,_,_,_,rfl,rfl,O.same.seq hS,aj,lf,_,bn,V.int x,rfl,rfl,O.sq 1,by rw [List.getElem?_map,hx];rfl,_,rfl,_,rfl,lf,_,_,_,rfl,rfl,O.sq 1,fC here,_,_,rfl,rfl,?_⟩
        refine nC O 1 rfl (jU (by rw [List.length_map,N.len];exact hbl)) fun H4 O=>?_
        refine ⟨_,fl.set bn (x + Rv.jq r sp (j:Int)),rfl,?_,N.turn hp hR h64 hj ebn hbl hx⟩
        rw [List.map_set];exact O
    · rintro σ H3 ⟨v3,fl,rfl,O,N⟩
      rw [List.length_map,hp.len] at N
      exact ⟨_,rfl,O.ret 1 rfl q (by rw [N.done hp hR])⟩
theorem gZ (n:Nat) (x:Int):(List.replicate n [V.int x]).flatten=(List.replicate n x).map V.int:=by rw [List.map_replicate];exact Ag _ _
theorem u9 {w cur:List Int} {c z:Int} {j:Nat} (hz:w[j]?=some z):Tn.bump cur (w.take (j + 1)) c=(Tn.bump cur (w.take j) c).set z.toNat ((Tn.bump cur (w.take j) c).getD z.toNat 0 + c):=by
  rw [List.take_add_one,hz];exact Tn.u6 _ _ _ _
abbrev bU:Stmt:=top 7
theorem gY:aU ["below","start","stop","way"] ["below","start","stop"] (ao bU):=⟨rfl,rfl,rfl,by decide +kernel,rfl,by decide +kernel,by decide +kernel⟩
theorem lQ (b:Int):∀ l:List Int,l.take (l.idxOf b)=l.takeWhile (fun x=>!decide (x=b))
  | []=>rfl
  | x :: l=>by
    rw [List.idxOf_cons,List.takeWhile_cons]
    by_cases h:x=b
    · simp [h]
    · have e:(x == b)=false:=by simp [h]
      rw [e,cond_false,List.take_succ_cons,lQ b l]
      simp [h]
theorem qG (ns:List Int) (k:Nat):oM (ns.map V.int) none (some (k:Int))=(ns.take k).map V.int:=by
  unfold oM
  rw [HT.p7,HT.lY,List.drop_zero,List.length_map,Nat.sub_zero,← List.map_take]
  congr 1
  rw [List.take_eq_take_iff];omega
def pU (K:PySem.W.Frag):Sp:=fun vs H Q _=>∃ (a:Addr) (r:List Int) (p b:Int),vs=[.ref a,.int p,.int b]∧SqL K H a (r.map V.int)∧Rv.cN r∧0≤p∧p<r.length∧r.length≤900∧Rv.Stop r p b ∧
  Gh H (fun xs=>xs=(Rv.eN r p b).map V.int) Q
theorem vV {f fW:Addr} {fd fdW:FuncData} (D:Df K mg "stretch_of" bU ["below","start","stop"] f fd) (C:Mth mg) (bO:Df K mg "way_of" dM ["below","reach"] fW fdW)
    (iR:cR P w K mg base CX0 1 fW fdW ["below","reach"] (pR K)):cR P w K mg base CX0 2 f fd ["below","start","stop"] (pU K):=by
  obtain ⟨tM,hMOUTH⟩:=C.MOUTH
  refine D.F.ok gY (fun vs H Q E h=>?_) (fun cdv A outer s H vs Q E hr h=>?_)
  · obtain ⟨a,r,p,b,rfl,_⟩:=h;rfl
  · obtain ⟨a,r,p,b,rfl,hS,hR,p0,p1,hn,st,q⟩:=h
    refine ⟨_,(aA (aW (i:=3) gY.nd rfl (Or.inl rfl) (aJ iR (hr.mono (by decide)) rfl bO.m bO.F.kp bO.b .nil cA (ak (pv 0) (ak (pv 1) au))))
      (aA (iu (cu rB (pv 2) (oZ (v:=.int (-1)) rfl hMOUTH ⟨_,rfl⟩) (dB _))
        (aD (bG (pv 3)))
        dz)
      (aA (iu (cu nF (pv 2) (pv 3) (by rfl))
        (aD vQ)
        dz)
      (aD (bG (gC iW (pv 3) jM (gM (j8 PySem.F.plainAttrs_list PySem.F.slot_list_index PySem.F.type_list_index qp (pv 3) (ak (pv 2) au))))))))),?_⟩
    refine sl_5 ?_
    intro zu0 zu1 zu2 zu3 zu4
    refine ⟨_,rfl,_,rfl,a,r,p,rfl,hS,hR,p0,p1,hn,fun lw H1 xs s1 n1 h1 e1=>?_⟩
    subst e1
    refine ⟨_,rfl,rfl,_,rfl,Ju (fun h=>?_) fun h=>?_⟩
    · have hb:b=-1:=V.int.inj (of_decide_eq_true h)
      refine ⟨_,rfl,q lw H1 _ s1 n1 h1 ?_⟩
      unfold Rv.eN;rw [if_pos hb]
    · have hb:¬ b=-1:=fun z=>h (decide_eq_true (by rw [z]))
      have hm:b∈Rv.walk r p:=st.resolve_left hb
      refine ⟨_,rfl,_,rfl,lw,_,rfl,.inl (SqL.of h1),rfl,gn _,_,rfl,?_⟩
      rw [if_pos rfl,jX,decide_eq_true hm]
      refine qw ?_
      refine ⟨_,rfl,_,rfl,.inl ⟨rfl,_,SqL.of h1⟩,_,rfl,lw,_,b,rfl,rfl,SqL.of h1,hm,_,rfl,lw,_,rfl,SqL.of h1,fun l hl=>?_⟩
      refine q l _ _ (s1.upd (s1.free hl)) (s1.free hl) bh ?_
      rw [qG,lQ]
      unfold Rv.eN;rw [if_neg hb]
abbrev bV:Stmt:=top 11
theorem dj:aU ["below","one","day","start","back","most"] ["below","one"] (ao bV):=⟨rfl,rfl,rfl,by decide +kernel,rfl,by decide +kernel,by decide +kernel⟩
def kh (r:List Int) (l:Lic):Prop:=0≤l.start∧l.start<r.length∧Rv.Stop r l.start l.back
def kJ (K:PySem.W.Frag):Sp:=fun vs H Q _=>∃ (a t:Addr) (r:List Int) (l:Lic),vs=[.ref a,.ref t]∧SqL K H a (r.map V.int)∧Rv.cN r∧r.length≤900∧SqT K H t (zW l)∧kh r l∧Gh H (fun xs=>xs=(Rv.eN r l.start l.back).map V.int) Q
theorem rC {f f1:Addr} {fd fd1:FuncData} (D:Df K mg "reaches_of" bV ["below","one"] f fd) (cV:Df K mg "stretch_of" bU ["below","start","stop"] f1 fd1) (oA:cR P w K mg base CX0 2 f1 fd1 ["below","start","stop"] (pU K)) :
    cR P w K mg base CX0 3 f fd ["below","one"] (kJ K):=by
  refine D.F.ok dj (fun vs H Q E h=>?_) (fun cdv A outer s H vs Q E hr h=>?_)
  · obtain ⟨_,_,_,_,rfl,_⟩:=h;rfl
  · obtain ⟨a,t,r,l,rfl,hA,hR,hn,hT,ok,q⟩:=h
    refine ⟨_,(aA (jL (pv 1) (jm rfl (aX (aO (i:=2) dj.nd rfl (Or.inl rfl)) (aX (aO (i:=3) dj.nd rfl (Or.inl rfl)) (aX (aO (i:=4) dj.nd rfl (Or.inl rfl)) (aX (aO (i:=5) dj.nd rfl (Or.inl rfl)) fB))))))
      (aD (bG (aJ oA (hr.mono (by decide)) rfl cV.m cV.F.kp cV.b .nil cA (ak (pv 0) (ak (pv 3) (ak (pv 4) au))))))),?_⟩
    refine Jf ?_
    intro zu0
    refine ⟨_,rfl,t,_,rfl,hT,rfl,_,_,rfl,_,_,rfl,_,_,rfl,_,_,rfl,rfl,?_⟩
    exact ⟨_,rfl,_,rfl,_,rfl,a,r,l.start,l.back,rfl,hA,hR,ok.1,ok.2.1,hn,ok.2.2,q⟩
def rW (r:List Int) (ls:List Lic):Nat→List Int:=Tn.fW (ls.map fun l=>Rv.eN r l.start l.back)
theorem rT {r:List Int} {ls:List Lic} {k:Nat} {l:Lic} (h:ls[k]?=some l):rW r ls k=Rv.eN r l.start l.back:=by
  unfold rW Tn.fW;rw [List.getD_eq_getElem?_getD,List.getElem?_map,h];rfl
def qO (r:List Int) (l:Lic):Prop:=kh r l∧0≤l.most
theorem j5 (g:List Nat) (k:Nat):(Tn.asI (g++[k])).map V.int=(Tn.asI g).map V.int++[V.int (k:Int)]:=by
  unfold Tn.asI;rw [List.map_append,List.map_append];rfl
theorem G3 {x w:Int} (hx:1≤x) (hx2:x≤40) (h0:0≤w) (h1:w<8):∃ n:Nat,atI [V.int 1,V.int 2,V.int 3,V.int 5,V.int 8,V.int 12,V.int 7,V.int x] w=some (V.int (n:Int))∧1≤n∧n≤40:=by
  rcases (by omega:w=0∨w=1∨w=2∨w=3∨w=4∨w=5∨w=6∨w=7) with e | e | e | e | e | e | e | e <;> subst e
  · exact ⟨1,rfl,by omega,by omega⟩
  · exact ⟨2,rfl,by omega,by omega⟩
  · exact ⟨3,rfl,by omega,by omega⟩
  · exact ⟨5,rfl,by omega,by omega⟩
  · exact ⟨8,rfl,by omega,by omega⟩
  · exact ⟨12,rfl,by omega,by omega⟩
  · exact ⟨7,rfl,by omega,by omega⟩
  · exact ⟨x.toNat,by rw [Int.toNat_of_nonneg (by omega)];rfl,by omega,by omega⟩
theorem BK {x y:Int} {w:Int} (h0:0≤w) (h1:w<2) (hx:0≤x) (hy:0≤y) {k:Nat} (hxk:x<k) (hyk:y<k):∃ j:Nat,atI [V.int x,V.int y] w=some (V.int (j:Int))∧j<k:=by
  rcases (by omega:w=0∨w=1) with e | e <;> subst e
  · exact ⟨x.toNat,by rw [Int.toNat_of_nonneg hx];rfl,by omega⟩
  · exact ⟨y.toNat,by rw [Int.toNat_of_nonneg hy];rfl,by omega⟩
theorem Ad (a:Int) (n:Nat):(1 + a % 2 * (if ((n:Int) - 2) > 0 then ((n:Int) - 2) else 0))=1∨(1 + a % 2 * (if ((n:Int) - 2) > 0 then ((n:Int) - 2) else 0))=(n:Int) - 1:=by
  rcases Int.emod_two_eq a with e | e
  · rw [e,Int.zero_mul];exact .inl rfl
  · rw [e,Int.one_mul]
    split
    · right;omega
    · left;omega
abbrev bN:Stmt:=top 24
theorem bL:aU ["cell","size","xs","step","spots","below","k","number"] ["cell"] (ao bN):=⟨rfl,rfl,rfl,by decide +kernel,rfl,by decide +kernel,by decide +kernel⟩
def pW (T:eH):Sp:=fun vs H Q _=>∃ (c:Int),vs=[.int c]∧TabsOk T H∧iQ T H (fun xs=>∃ r,xs=r.map V.int∧Rv.cN r∧1≤r.length∧r.length≤40) Q
theorem vW {f f1:Addr} {fd fd1:FuncData} (D:Df K mg "_law_river" bN ["cell"] f fd) (B:Blt mg)
    (aF:Df K mg "_law_mixed" aQ ["cell","many"] f1 fd1) (cJ:cR P w K mg base CX0 2 f1 fd1 ["cell","many"] jE):cR P w K mg base CX0 3 f fd ["cell"] (pW T):=by
  refine D.F.ok bL (fun vs H Q E h=>?_) (fun cdv A outer s H vs Q E hr h=>?_)
  · obtain ⟨_,rfl,_⟩:=h;rfl
  · obtain ⟨c,rfl,tk,q⟩:=h
    change ∃ t,PSs _ (_ :: _) t∧_
    generalize hc0:Expr.Constant (Const.int 1) 0 ⟨64,12,64,13⟩=a0
    have hA0:∀ X:Cx,PE X a0 (tC (.int 1)):=fun X=>by rw [← hc0];exact aq
    have hN0:∀ (es:List Expr) (env:Env),starEach (a0 :: es) env=(false,eval a0 env) :: starEach es env:=fun es env=>by rw [← hc0];rfl
    generalize hc1:Expr.Constant (Const.int 2) 0 ⟨64,15,64,16⟩=a1
    have hA1:∀ X:Cx,PE X a1 (tC (.int 2)):=fun X=>by rw [← hc1];exact aq
    have hN1:∀ (es:List Expr) (env:Env),starEach (a1 :: es) env=(false,eval a1 env) :: starEach es env:=fun es env=>by rw [← hc1];rfl
    generalize hc2:Expr.Constant (Const.int 3) 0 ⟨64,18,64,19⟩=a2
    have hA2:∀ X:Cx,PE X a2 (tC (.int 3)):=fun X=>by rw [← hc2];exact aq
    have hN2:∀ (es:List Expr) (env:Env),starEach (a2 :: es) env=(false,eval a2 env) :: starEach es env:=fun es env=>by rw [← hc2];rfl
    generalize hc3:Expr.Constant (Const.int 5) 0 ⟨64,21,64,22⟩=a3
    have hA3:∀ X:Cx,PE X a3 (tC (.int 5)):=fun X=>by rw [← hc3];exact aq
    have hN3:∀ (es:List Expr) (env:Env),starEach (a3 :: es) env=(false,eval a3 env) :: starEach es env:=fun es env=>by rw [← hc3];rfl
    generalize hc4:Expr.Constant (Const.int 8) 0 ⟨64,24,64,25⟩=a4
    have hA4:∀ X:Cx,PE X a4 (tC (.int 8)):=fun X=>by rw [← hc4];exact aq
    have hN4:∀ (es:List Expr) (env:Env),starEach (a4 :: es) env=(false,eval a4 env) :: starEach es env:=fun es env=>by rw [← hc4];rfl
    generalize hc5:Expr.Constant (Const.int 12) 0 ⟨64,27,64,29⟩=a5
    have hA5:∀ X:Cx,PE X a5 (tC (.int 12)):=fun X=>by rw [← hc5];exact aq
    have hN5:∀ (es:List Expr) (env:Env),starEach (a5 :: es) env=(false,eval a5 env) :: starEach es env:=fun es env=>by rw [← hc5];rfl
    generalize hc6:Expr.Constant (Const.int 7) 0 ⟨64,31,64,32⟩=a6
    have hA6:∀ X:Cx,PE X a6 (tC (.int 7)):=fun X=>by rw [← hc6];exact aq
    have hN6:∀ (es:List Expr) (env:Env),starEach (a6 :: es) env=(false,eval a6 env) :: starEach es env:=fun es env=>by rw [← hc6];rfl
    refine ⟨_,(aA (aW (i:=1) bL.nd rfl (Or.inr rfl) (bA aG (dO (ak (hA0 _) (ak (hA1 _) (ak (hA2 _) (ak (hA3 _) (ak (hA4 _) (ak (hA5 _) (ak (hA6 _) (ak (aM jo aq (aM cM (aM iZ (pv 0) aq) aq)) au) (hN6 _ _)) (hN5 _ _)) (hN4 _ _)) (hN3 _ _)) (hN2 _ _)) (hN1 _ _)) (hN0 _ _))) (aM cM (pv 0) aq) (fun _ _=>rfl)))
      (aA (aW (i:=2) bL.nd rfl (Or.inr rfl) (aJ cJ (hr.mono (by decide)) rfl aF.m aF.F.kp aF.b .nil cA (ak (aM iZ (pv 0) aq) (ak (aM dG (pv 1) aq) au))))
      (aA (aW (i:=3) bL.nd rfl (Or.inr rfl) (aM dG aq (aM eU (aM cM (bA aG (pv 2) aq (fun _ _=>rfl)) aq) (aV (nP rfl) rfl B.max PyProof.Rows.boot_max (ak aq (ak (aM jo (pv 1) aq) au))))))
      (aA (kY (i:=4) (ao bN) rfl ["cell","size","xs","step","spots","below","k","number"] rfl ["k","size","xs","step"] [none,some 1,some 2,some 3] (by decide +kernel) (by decide +kernel) (by decide +kernel) rfl bL.nd rfl rfl (iw rfl B.range (ak (pv 1) au)) (fun _ _ _=>(aO (i:=0) (show (["k","size","xs","step"]:List Str).Nodup by decide +kernel) rfl (Or.inl rfl))) (fun _ _ _=>lZ) (fun _ _ _=>(aM cM (aM dG (bA (qu (K:=K) rfl) (pv 2) aq (fun _ _=>rfl)) (aM eU (pv 3) (pv 0))) (pv 1))) rfl)
      (aA (aW (i:=5) bL.nd rfl (Or.inl rfl) (aM qg (dO (ak (jN fO aq) au)) (pv 1)))
      (aA (fH PassesOwn.never rfl (tV rfl B.range (ak aq (ak (pv 1) au))) (aO (i:=6) bL.nd rfl (Or.inl rfl))
        (aA (aW (i:=7) bL.nd rfl (Or.inl rfl) (bA aG (pv 2) (aM dG (pv 6) aq) (fun _ _=>rfl)))
        (aD (iu (cu BR (aM cM (pv 7) aq) aq (dB _))
          (aD (jL (bA aG (pv 4) (bA aG (dO (ak (aM jo (pv 6) aq) (ak (aM cM (aM iZ (pv 7) aq) (pv 6)) au))) (aM cM (aM iZ (pv 7) aq) aq) (fun _ _=>rfl)) (fun _ _=>rfl)) (nu (pv 5) (bA aG (pv 4) (pv 6) (fun _ _=>rfl)) set_list)))
          dz))))
      (aD (bG (pv 5))))))))),?_⟩
    refine sl_7 ?_
    intro zu0 zu1 zu2 zu3 zu4 zu5 zu6 zu7 zu8
    have O:=Ow.refl tk
    have c0:=Int.emod_nonneg c (show (8:Int)≠0 by decide)
    have c1:=Int.emod_lt_of_pos c (show (0:Int)<8 by decide)
    have e0:=Int.emod_nonneg (c / 8) (show (40:Int)≠0 by decide)
    have e1:=Int.emod_lt_of_pos (c / 8) (show (0:Int)<40 by decide)
    refine ⟨_,rfl,_,_,rfl,rfl,⟨by decide,by decide⟩,_,_,rfl,rfl,(by show (0:Int)<40;decide),_,_,rfl,rfl,szl,fun l1 h1=>?_⟩
    walk_at "nw"
    obtain ⟨n,hv,n1,n40⟩:=G3 (x:=40 - c / 8 % 40) (by omega) (by omega) c0 c1
    refine ⟨_,rfl,_,_,rfl,rfl,(by show (0:Int)<8;decide),l1,_,_,_,rfl,rfl,O.sq 0,hv,?_⟩
    have O:=O.tail
    refine ⟨_,rfl,_,_,rfl,rfl,⟨by decide,by decide⟩,_,rfl,_,_,rfl,rfl,_,_,rfl,by omega,by omega,O.got fun lx H2 xs O e=>?_⟩
    obtain ⟨ys,rfl,hy⟩:=e
    have hyl:ys.length=n + 2:=by rw [hy,iJ];omega
    have hyn:∀ k,0≤ys.getD k 0:=fun k=>by rw [hy];exact uM
    have hst:=Ad (ys.getD (0:Int).toNat 0) n
    refine ⟨_,rfl,lx,_,0,_,rfl,rfl,O.sq 0,bH (by omega) (by omega),_,_,rfl,rfl,(by show (0:Int)<2;decide),_,rfl,_,_,rfl,rfl,_,_,rfl,_,_,rfl,rfl,.inl ⟨by omega,by omega⟩,_,_,rfl,rfl,?_⟩
    dsimp only
    generalize (1 + ys.getD (0:Int).toNat 0 % 2 * (if ((n:Int) - 2) > 0 then ((n:Int) - 2) else 0))=st at hst
    have nn:(0:Int)<(n:Int):=by omega
    refine ⟨_,rfl,(n:Int),rfl,by omega,by omega,fun acc hacc=>?_⟩
    refine jf (fun i τ H'=>Iv (∃ (v0:Option V),τ=[v0,some (.int (n:Int)),some (.ref lx),some (.int st)]∧Ow T H H' [(acc,.lst ((Rv.spots n (ys.getD (1:Int).toNat 0) st i).map V.int)),(lx,.lst (ys.map V.int))])) ⟨trivial,none,rfl,O.mk' hacc rfl⟩ ?_ ?_
    · rintro i τ H3 hi ⟨-,v0,rfl,O⟩
      rw [show (0:Int) + (i:Int)=(i:Int) by omega]
      refine Gn ?_
      refine ⟨_,rfl,lx,_,1,_,rfl,rfl,O.sq 1,bH (by omega) (by omega),_,rfl,_,rfl,_,_,rfl,rfl,.inl ⟨by omega,by omega⟩,_,_,rfl,rfl,_,rfl,_,_,rfl,rfl,nn,?_⟩
      refine ⟨_,O.get 0,bf (by rw [List.length_map,Rv.sI];omega),?_⟩
      walk_at "pt"
      refine ⟨trivial,_,rfl,?_⟩
      rw [Rv.qX,List.map_append];exact O
    rintro τ H3 ⟨-,v0,rfl,O⟩
    rw [Int.toNat_natCast] at O
    generalize ys.getD (1:Int).toNat 0=x1 at O
    refine ⟨_,rfl,szl,fun l2 h2=>?_⟩
    walk_at "nw"
    refine ⟨_,rfl,l2,_,_,rfl,rfl,O.get 0,by omega,by omega,gB (by rw [Int.toNat_natCast];simp;omega),fun lb hlb=>?_⟩
    walk_at "nw"
    rw [Int.toNat_natCast,gZ] at O
    have O:=O.two
    refine ⟨_,rfl,1,(n:Int),rfl,⟨by omega,by omega,by omega,by omega⟩,?_⟩
    rw [show ((n:Int) - 1).toNat=n - 1 by omega]
    refine nM (n:=n - 1) (fun i σ H'=>Iv (∃ (v6 v7:Option V) (b:List Int),σ=[some (.int c),some (.int (n:Int)),some (.ref lx),some (.int st),some (.ref acc),some (.ref lb),v6,v7]∧Rv.Lnk n (Rv.spot n x1 st) (i + 1) b ∧
      Ow T H H' [(lb,.lst (b.map V.int)),(acc,.lst ((Rv.spots n x1 st n).map V.int)),(lx,.lst (ys.map V.int))])) ⟨trivial,none,none,_,rfl,Rv.Lnk.start _ _,O⟩ ?_ ?_
    · rintro i σ H3 hi ⟨-,v6,v7,b,rfl,L,O⟩
      rw [show (1:Int) + (i:Int)=((i + 1:Nat):Int) by omega]
      have hz:0≤ys.getD (((i + 1:Nat):Int) + 1).toNat 0:=hyn _
      refine ⟨_,rfl,_,rfl,_,_,rfl,rfl,lx,_,_,_,rfl,rfl,O.sq 2,bH (by omega) (by omega),?_⟩
      generalize ys.getD (((i + 1:Nat):Int) + 1).toNat 0=z at hz
      refine ⟨_,rfl,_,_,rfl,rfl,(by show (0:Int)<7;decide),_,_,rfl,rfl,_,rfl,ifD (fun hc=>?_) fun hc=>?_⟩
      · have m0:=Int.emod_nonneg (z / 14) (show ((i + 1:Nat):Int)≠0 by omega)
        have m1:=Int.emod_lt_of_pos (z / 14) (show (0:Int)<((i + 1:Nat):Int) by omega)
        obtain ⟨j,hj,hjk⟩:=BK (x:=((i + 1:Nat):Int) - 1) (y:=z / 14 % ((i + 1:Nat):Int)) (w:=z / 7 % 2) (by omega) (by omega) (by omega) m0 (k:=i + 1) (by omega) m1
        refine ⟨_,rfl,_,rfl,_,_,rfl,rfl,_,rfl,_,_,rfl,rfl,⟨by decide,by decide⟩,_,rfl,_,_,rfl,rfl,(by show (0:Int)<((i + 1:Nat):Int);omega),szl,fun l3 h3=>?_⟩
        walk_at "nw"
        refine ⟨_,rfl,_,_,rfl,rfl,⟨by decide,by decide⟩,_,_,rfl,rfl,(by show (0:Int)<2;decide),l3,_,_,_,rfl,rfl,O.sq 0,hj,acc,_,_,_,rfl,rfl,O.sq 2,fC (Rv.pP (by omega)),?_⟩
        have O:=O.tail
        have s0:=Rv.sJ (x:=x1) (s:=st) nn (i + 1)
        have s1:=Rv.sO (x:=x1) (s:=st) nn (i + 1)
        refine ⟨_,rfl,_,rfl,_,rfl,acc,_,_,_,rfl,rfl,O.sq 1,fC (Rv.pP (by omega)),lb,_,_,_,rfl,rfl,O.get 0,CK s0 (by rw [List.length_map,L.len];exact s1),?_⟩
        walk_at "pt"
        refine ⟨trivial,_,_,_,rfl,L.turn (by omega) hjk s0,?_⟩
        rw [List.map_set];exact O
      · exact ⟨trivial,_,_,b,rfl,L.skip,O⟩
    · rintro σ H3 ⟨-,v6,v7,b,rfl,L,O⟩
      refine ⟨_,rfl,O.ret 0 rfl q ⟨b,rfl,L.GR (Rv.sJ nn) (Rv.sO nn) (fun j k hj hk h=>Rv.vK nn hst (by omega) (by omega) h) n1,by rw [L.len];exact n1,by rw [L.len];exact n40⟩⟩
abbrev bR:Stmt:=top 25
theorem gK:aU ["below","reach","way"] ["below","reach"] (ao bR):=⟨rfl,rfl,rfl,by decide +kernel,rfl,by decide +kernel,by decide +kernel⟩
def jD (K:PySem.W.Frag) (T:eH):Sp:=fun vs H Q _=>∃ (a:Addr) (r:List Int) (p:Int),vs=[.ref a,.int p]∧SqL K H a (r.map V.int)∧Rv.cN r∧0≤p∧p<r.length∧r.length≤900∧TabsOk T H∧iQ T H (fun xs=>xs=(Rv.walk r p).map V.int) Q
theorem Al {f:Addr} {fd:FuncData} {T:eH} (D:Df K mg "_law_way" bR ["below","reach"] f fd):cR P w K mg base CX0 1 f fd ["below","reach"] (jD K T):=by
  refine D.F.ok gK (fun vs H Q E h=>?_) (fun cdv A outer s H vs Q E hr h=>?_)
  · obtain ⟨a,r,p,rfl,_⟩:=h;rfl
  · obtain ⟨a,r,p,rfl,hS,hR,p0,p1,hn,tk,q⟩:=h
    refine ⟨_,(aA (aW (i:=2) gK.nd rfl (Or.inl rfl) (dO au))
      (aA (qd PassesOwn.never (cu Aj (pv 1) (jN fO aq) (dB _))
        (aA (fY (j8 PySem.F.plainAttrs_list PySem.F.slot_list_append PySem.F.type_list_append dD (pv 2) (ak (pv 1) au)))
        (aD (aW (i:=1) gK.nd rfl (Or.inl rfl) (bA aG (pv 0) (pv 1) (fun _ _=>rfl))))))
      (aD (bG (pv 2))))),?_⟩
    refine sl_8 ?_
    intro zu0 zu1 zu2 zu3
    have O:=Ow.refl tk
    refine ⟨szl,fun lw hlw=>?_⟩
    walk_at "nw"
    refine ⟨fun m σ H2=>∃ (pre:List Int) (z:Int),σ=[some (.ref a),some (.int z),some (.ref lw)]∧Ow T H H2 [(lw,.lst (pre.map V.int))]∧(z=-1∨(0≤z∧z<r.length))∧pre++Rv.walk r z=Rv.walk r p∧m=Rv.mea r z,
      ⟨_,[],p,rfl,O,.inr ⟨p0,p1⟩,rfl,rfl⟩,?_⟩
    rintro m σ H2 ⟨pre,z,rfl,O,hz,e,rfl⟩
    refine ⟨_,rfl,_,rfl,rfl,_,rfl,?_⟩
    rcases hz with rfl | ⟨z0,z1⟩
    · refine Bc rfl ?_
      rw [Rv.eY,List.append_nil] at e
      exact ⟨_,rfl,O.ret 0 rfl q (by rw [e])⟩
    · have hd:(!decide (V.int z=V.int (-1)))=true:=by
        have:¬ z=-1:=by omega
        simp [this]
      rw [hd]
      refine xV ?_
      have hlen:pre.length + (Rv.walk r z).length≤r.length + 1:=by
        have:=Rv.ju r p
        rw [← e,List.length_append] at this;exact this
      refine ⟨fun σ' H'=>∃ m',m'<Rv.mea r z∧∃ (pre:List Int) (z:Int),σ'=[some (.ref a),some (.int z),some (.ref lw)]∧Ow T H H' [(lw,.lst (pre.map V.int))]∧(z=-1∨(0≤z∧z<r.length))∧pre++Rv.walk r z=Rv.walk r p∧m'=Rv.mea r z,fun _ _ x=>x,?_⟩
      have g:=Rv.gb z0 z1
      refine ⟨_,rfl,.inl ⟨rfl,_,O.sq 0⟩,_,rfl,lw,_,_,rfl,rfl,O.get 0,bf (by rw [List.length_map];omega),?_⟩
      walk_at "pt"
      refine ⟨_,rfl,_,rfl,a,_,_,_,rfl,rfl,O.same.seq hS,iC z0 g,?_⟩
      refine ⟨_,Rv.xQ hR z0 z1,pre++[z],Rv.nxt r z,rfl,?_,hR.step z0 z1,?_,rfl⟩
      · rw [List.map_append];exact O
      · rw [List.append_assoc]
        show pre++(z :: Rv.walk r (Rv.nxt r z))=_
        rw [← Rv.cL hR z0 z1];exact e
abbrev bC:Stmt:=top 26
theorem fU:aU ["below","one","way"] ["below","one"] (ao bC):=⟨rfl,rfl,rfl,by decide +kernel,rfl,by decide +kernel,by decide +kernel⟩
def xu (K:PySem.W.Frag) (T:eH):Sp:=fun vs H Q _=>∃ (a t:Addr) (r:List Int) (l:Lic),vs=[.ref a,.ref t]∧SqL K H a (r.map V.int)∧Rv.cN r∧r.length≤900∧SqT K H t (zW l)∧kh r l∧TabsOk T H∧iQ T H (fun xs=>xs=(Rv.eN r l.start l.back).map V.int) Q
theorem Cg {f fW:Addr} {fd fdW:FuncData} (D:Df K mg "_law_stretch" bC ["below","one"] f fd) (aK:Df K mg "_law_way" bR ["below","reach"] fW fdW) (dH:cR P w K mg base CX0 1 fW fdW ["below","reach"] (jD K T)) :
    cR P w K mg base CX0 2 f fd ["below","one"] (xu K T):=by
  refine D.F.ok fU (fun vs H Q E h=>?_) (fun cdv A outer s H vs Q E hr h=>?_)
  · obtain ⟨_,_,_,_,rfl,_⟩:=h;rfl
  · obtain ⟨a,t,r,l,rfl,hS,hR,hn,hT,⟨p0,p1,hst⟩,tk,q⟩:=h
    refine ⟨_,(aA (aW (i:=2) fU.nd rfl (Or.inl rfl) (aJ dH (hr.mono (by decide)) rfl aK.m aK.F.kp aK.b .nil cA (ak (pv 0) (ak (bA nJ (pv 1) aq (fun _ _=>rfl)) au))))
      (aA (iu (cu jP (bA nJ (pv 1) aq (fun _ _=>rfl)) (pv 2) (by rfl))
        (aD (bG (gC iW (pv 2) jM (gM (j8 PySem.F.plainAttrs_list PySem.F.slot_list_index PySem.F.type_list_index qp (pv 2) (ak (bA nJ (pv 1) aq (fun _ _=>rfl)) au))))))
        dz)
      (aD (bG (pv 2))))),?_⟩
    refine sl_9 ?_
    intro zu0 zu1 zu2
    have O:=Ow.refl tk
    refine ⟨_,rfl,_,rfl,t,_,1,_,rfl,rfl,hT,rfl,a,r,l.start,rfl,hS,hR,p0,p1,hn,tk,O.mC fun lw H1 xs O e=>?_⟩
    subst e
    refine ⟨_,rfl,t,_,2,_,rfl,rfl,hT.mo O.same,rfl,_,rfl,lw,_,rfl,.inl (O.sq 0),rfl,gn _,_,rfl,?_⟩
    rw [if_neg Bool.false_ne_true,jX]
    refine ifD (fun hm=>?_) fun hm=>?_
    · have hb:¬ l.back=-1:=fun z=>by
        have:=(Rv.lM hR _ p0 p1 _ hm).1
        omega
      refine ⟨_,rfl,_,rfl,.inl ⟨rfl,_,O.sq 0⟩,_,rfl,t,_,2,_,rfl,rfl,hT.mo O.same,rfl,lw,_,l.back,rfl,rfl,O.sq 0,hm,_,rfl,lw,_,rfl,O.sq 0,fun l2 hl2=>?_⟩
      walk_at "nw"
      refine O.ret 0 rfl q ?_
      rw [My.qG,lQ]
      unfold Rv.eN;rw [if_neg hb]
    · have hb:l.back=-1:=hst.resolve_right hm
      refine ⟨_,rfl,O.ret 0 rfl q ?_⟩
      unfold Rv.eN;rw [if_pos hb]
theorem jQ {l:List Int} (nd:l.Nodup) {i:Nat} {z:Int} (hz:l[i]?=some z):¬ z∈l.take i:=fun hmm=>by
  obtain ⟨h1,h2⟩:=List.getElem?_eq_some_iff.mp hz
  obtain ⟨j,hj,ej⟩:=List.getElem_of_mem hmm
  rw [List.getElem_take] at ej
  rw [List.length_take] at hj
  have:=(List.getElem_inj nd).mp (ej.trans h2.symm)
  omega
abbrev cG:Stmt:=top 27
theorem bT:aU ["below","springs","roll","takes","free","reach","rises","low","one","take"] ["below","springs","roll","takes"] (ao cG):=⟨rfl,rfl,rfl,by decide +kernel,rfl,by decide +kernel,by decide +kernel⟩
def xH (K:PySem.W.Frag) (T:eH):Sp:=fun vs H Q _=>∃ (a b c d:Addr) (r s xs:List Int) (us:List V) (ls:List Lic),vs=[.ref a,.ref b,.ref c,.ref d]∧SqL K H a (r.map V.int)∧Rv.cN r∧r.length<64∧SqL K H b (s.map V.int)∧s.length=r.length∧SqL K H c us∧eF K H us (ls.map zQ)∧SqL K H d (xs.map V.int)∧xs.length=ls.length∧(∀ l∈ls,qO r l)∧TabsOk T H ∧
  iQ T H (fun ys=>∃ fl,ys=fl.map V.int∧Rv.Fl r.length fl fun i=>Rv.jq r s (i:Int) - Tn.hold ls.length (rW r ls) (Tn.fX xs) (i:Int)) Q
theorem Ck {f fW f2:Addr} {fd fdW fd2:FuncData} (D:Df K mg "_law_free" cG ["below","springs","roll","takes"] f fd) (B:Blt mg) (cC:Df K mg "_law_stretch" bC ["below","one"] f2 fd2) (kj:cR P w K mg base CX0 2 f2 fd2 ["below","one"] (xu K T)) (aK:Df K mg "_law_way" bR ["below","reach"] fW fdW) (dH:cR P w K mg base CX0 1 fW fdW ["below","reach"] (jD K T)) :
    cR P w K mg base CX0 3 f fd ["below","springs","roll","takes"] (xH K T):=by
  refine D.F.ok bT (fun vs H Q E h=>?_) (fun cdv A outer s H vs Q E hr h=>?_)
  · obtain ⟨_,_,_,_,_,_,_,_,_,rfl,_⟩:=h;rfl
  · obtain ⟨a,b,c,d,r,sp,xs,us,ls,rfl,hS,hR,h64,hB,hl,hC,dws,hD,hxw,hok,tk,q⟩:=h
    refine ⟨_,(aA (aW (i:=4) bT.nd rfl (Or.inl rfl) (aM qg (dO (ak aq au)) (aV aN rfl B.len PySem.boot_len (ak (pv 0) au))))
      (aA (fH PassesOwn.never rfl (oY rfl B.enumerate (ak (pv 1) au)) (jm rfl (aX (aO (i:=5) bT.nd rfl (Or.inl rfl)) (aX (aO (i:=6) bT.nd rfl (Or.inl rfl)) fB)))
        (aD (fH PassesOwn.never rfl (fu (aJ dH (hr.mono (by decide)) rfl aK.m aK.F.kp aK.b .nil cA (ak (pv 0) (ak (pv 5) au)))) (aO (i:=7) bT.nd rfl (Or.inl rfl))
          (aD (jL (aM dG (bA aG (pv 4) (pv 7) (fun _ _=>rfl)) (pv 6)) (nu (pv 4) (pv 7) set_list))))))
      (aA (fH PassesOwn.never rfl (qe rfl B.zip (ak (pv 2) (ak (pv 3) au))) (jm rfl (aX (aO (i:=8) bT.nd rfl (Or.inl rfl)) (aX (aO (i:=9) bT.nd rfl (Or.inl rfl)) fB)))
        (aD (fH PassesOwn.never rfl (fu (aJ kj (hr.mono (by decide)) rfl cC.m cC.F.kp cC.b .nil cA (ak (pv 0) (ak (pv 8) au)))) (aO (i:=5) bT.nd rfl (Or.inl rfl))
          (aD (jL (aM jo (bA aG (pv 4) (pv 5) (fun _ _=>rfl)) (pv 9)) (nu (pv 4) (pv 5) set_list))))))
      (aD (bG (pv 4)))))),?_⟩
    refine GQ ?_
    intro zu0 zu1 zu2 zu3 zu4 zu5 zu6
    have hml:(r.map V.int).length=r.length:=List.length_map _
    have O:=Ow.refl tk
    refine ⟨szl,fun l0 hl0=>?_⟩
    walk_at "nw"
    refine ⟨_,rfl,a,_,rfl,.inl (O.same.seq hS),l0,_,_,rfl,rfl,O.get 0,by rw [hml];omega,by rw [hml];omega,gB (by rw [hml,Int.toNat_natCast];simp;omega),fun ld hld=>?_⟩
    walk_at "nw"
    rw [hml,Int.toNat_natCast,gZ] at O
    have O:=O.two
    refine ⟨_,rfl,b,_,rfl,O.same.seq hB,?_⟩
    refine qz (K:=K) (xs:=sp.map V.int) (fun t σ H3=>Iv (∃ (v3 v4 v5:Option V) (fl:List Int),σ=[some (.ref a),some (.ref b),some (.ref c),some (.ref d),some (.ref ld),v3,v4,v5,none,none]∧Ow T H H3 [(ld,.lst (fl.map V.int))]∧Rv.Fl r.length fl (Rv.wsum r sp t)))
      ⟨trivial,none,none,none,_,rfl,O,(Rv.Fl.rep r.length 0).zR fun i _=>rfl⟩ (fun _ _ _ _ ⟨_,_,_,_,_,_,O,_⟩=>O.same.seq hB) ?_ ?_
    · rintro t y t' σ H3 hy ⟨-,v3,v4,v5,fl,rfl,O,FL⟩ ht'
      obtain ⟨u,hu,rfl⟩:=ints_get hy
      have ht:=(List.getElem?_eq_some_iff.mp hu).1
      have eu:u=sp.getD t 0:=by rw [List.getD_eq_getElem?_getD,hu];rfl
      walk_at "nw"
      refine ⟨t',_,rfl,O.sqT 0,rfl,_,_,rfl,_,_,rfl,rfl,?_⟩
      have O:=O.tail
      refine ⟨_,rfl,_,rfl,a,r,(t:Int),rfl,O.same.seq hS,hR,by omega,by omega,by omega,O.same.t1,O.mC fun lw H4 ws O ew=>?_⟩
      subst ew
      refine ⟨lw,rfl,⟨_,O.sq 0⟩,?_⟩
      refine iI (K:=K) (a:=lw) (xs:=(Rv.walk r (t:Int)).map V.int) (fun i σ H5=>Iv (∃ (v5:Option V) (fl:List Int),σ=[some (.ref a),some (.ref b),some (.ref c),some (.ref d),some (.ref ld),some (.int (t:Int)),some (.int u),v5,none,none] ∧
        Ow T H H5 [(lw,.lst ((Rv.walk r (t:Int)).map V.int)),(ld,.lst (fl.map V.int))]∧Rv.MvI r (Rv.wsum r sp t) (-(sp.getD t 0)) ((Rv.walk r (t:Int)).take i) fl))
        ⟨trivial,v5,fl,rfl,O,Rv.MvI.start _ FL⟩ (fun _ _ _ _ ⟨_,_,_,_,O,_⟩=>O.sq 0) ?_ ?_
      · rintro i y σ H5 hy ⟨-,v5,fl,rfl,O,MI⟩
        obtain ⟨z,hz,rfl⟩:=ints_get hy
        obtain ⟨z0,z1⟩:=Rv.lM hR (t:Int) (by omega) (by omega) z (List.mem_of_getElem? hz)
        obtain ⟨zn,rfl⟩:=Int.eq_ofNat_of_zero_le z0
        have hzl:zn<r.length:=by omega
        obtain ⟨x,hx⟩:∃ x,fl[zn]?=some x:=⟨_,MI.at_ zn hzl⟩
        refine ⟨_,rfl,_,rfl,ld,_,_,_,rfl,rfl,O.sq 1,fC hx,_,rfl,_,_,rfl,rfl,_,rfl,_,rfl,?_⟩
        refine nC O 1 rfl (jU (by rw [List.length_map,MI.len];exact hzl)) fun H6 O=>?_
        refine ⟨trivial,_,fl.set zn (x + u),rfl,?_,?_⟩
        · rw [List.map_set];exact O
        · rw [List.take_add_one,hz,eu,show x + sp.getD t 0=x - -(sp.getD t 0) by omega]
          exact MI.turn hzl (jQ (Rv.lK hR (by omega) (by omega)) hz) hx
      · rintro σ H5 ⟨-,v5,fl,rfl,O,MI⟩
        rw [List.length_map,List.take_length] at MI
        exact ⟨trivial,_,_,_,fl,rfl,O.tail,Rv.rQ MI⟩
    rintro σ H3 ⟨-,v3,v4,v5,fl,rfl,O,FL⟩
    rw [List.length_map,hl] at FL
    have FL:Rv.Fl r.length fl fun i=>Rv.jq r sp (i:Int) - Tn.hold 0 (rW r ls) (Tn.fX xs) (i:Int):=FL.zR fun i _=>by
      show Rv.wsum r sp r.length i=Rv.jq r sp (i:Int) - 0
      rw [Rv.vB];omega
    have hul:us.length=ls.length:=by rw [dws.length,List.length_map]
    refine ⟨_,rfl,_,rfl,c,d,_,_,rfl,O.same.seq hC,O.same.seq hD,?_⟩
    refine pB (K:=K) (fun t σ H4=>Iv (∃ (v5 v6 v7 v8 v9:Option V) (fl:List Int),σ=[some (.ref a),some (.ref b),some (.ref c),some (.ref d),some (.ref ld),v5,v6,v7,v8,v9]∧Ow T H H4 [(ld,.lst (fl.map V.int))]∧Rv.Fl r.length fl fun i=>Rv.jq r sp (i:Int) - Tn.hold t (rW r ls) (Tn.fX xs) (i:Int)))
      (by rw [List.length_map];omega) ⟨trivial,_,_,_,_,_,fl,rfl,O,FL⟩ (fun _ _ _ _ ⟨_,_,_,_,_,_,_,_,O,_⟩=>⟨O.same.seq hC,O.same.seq hD⟩) ?_ ?_
    · rintro t x y t' σ H4 hx hy ⟨-,v5,v6,v7,v8,v9,fl,rfl,O,FL⟩ ht'
      obtain ⟨al,l,rfl,hl9,hT⟩:=dws.pA hx
      obtain ⟨u,hu,rfl⟩:=ints_get hy
      have hlo:=hok l (List.mem_of_getElem? hl9)
      have eu:Tn.fX xs t=u:=by unfold Tn.fX;rw [List.getD_eq_getElem?_getD,hu];rfl
      have ew:rW r ls t=Rv.eN r l.start l.back:=rT hl9
      obtain ⟨wnd,wrn⟩:=Rv.lR hR hlo.1.1 hlo.1.2.1
      walk_at "nw"
      refine ⟨t',_,rfl,O.sqT 0,rfl,_,_,rfl,_,_,rfl,rfl,?_⟩
      have O:=O.tail
      refine ⟨_,rfl,_,rfl,a,al,r,l,rfl,O.same.seq hS,hR,by omega,hT.mo O.same,hlo.1,O.same.t1,O.mC fun wa H9 ws9 O ew9=>?_⟩
      subst ew9
      generalize hwj:Rv.eN r l.start l.back=wj at O ew wnd wrn
      refine ⟨wa,rfl,⟨_,O.sq 0⟩,?_⟩
      refine iI (K:=K) (a:=wa) (xs:=wj.map V.int) (fun i σ H5=>Iv (∃ (v5:Option V) (fl:List Int),σ=[some (.ref a),some (.ref b),some (.ref c),some (.ref d),some (.ref ld),v5,v6,v7,some (.ref al),some (.int u)] ∧
        Ow T H H5 [(wa,.lst (wj.map V.int)),(ld,.lst (fl.map V.int))]∧Rv.MvI r (fun i=>Rv.jq r sp (i:Int) - Tn.hold t (rW r ls) (Tn.fX xs) (i:Int)) u (wj.take i) fl))
        ⟨trivial,v5,fl,rfl,O,Rv.MvI.start _ FL⟩ (fun _ _ _ _ ⟨_,_,_,_,O,_⟩=>O.sq 0) ?_ ?_
      · rintro i y σ H5 hy ⟨-,v5,fl,rfl,O,MI⟩
        obtain ⟨z,hz,rfl⟩:=ints_get hy
        obtain ⟨z0,z1⟩:=wrn z (List.mem_of_getElem? hz)
        obtain ⟨zn,rfl⟩:=Int.eq_ofNat_of_zero_le z0
        have hzl:zn<r.length:=by omega
        obtain ⟨x,hx⟩:∃ x,fl[zn]?=some x:=⟨_,MI.at_ zn hzl⟩
        refine ⟨_,rfl,_,rfl,ld,_,_,_,rfl,rfl,O.sq 1,fC hx,_,rfl,_,_,rfl,rfl,_,rfl,_,rfl,?_⟩
        refine nC O 1 rfl (jU (by rw [List.length_map,MI.len];exact hzl)) fun H6 O=>?_
        refine ⟨trivial,_,fl.set zn (x - u),rfl,?_,?_⟩
        · rw [List.map_set];exact O
        · rw [List.take_add_one,hz]
          exact MI.turn hzl (jQ wnd hz) hx
      · rintro σ H5 ⟨-,v5,fl,rfl,O,MI⟩
        rw [List.length_map,List.take_length] at MI
        refine ⟨trivial,_,_,_,_,_,fl,rfl,O.tail,Rv.Fl.zR MI fun i _=>?_⟩
        show _=Rv.jq r sp (i:Int) - (Tn.hold t (rW r ls) (Tn.fX xs) (i:Int) + if (i:Int)∈rW r ls t then Tn.fX xs t else 0)
        rw [ew,eu];exact Int.sub_sub _ _ _
    rintro σ H4 ⟨-,v5,v6,v7,v8,v9,fl,rfl,O,FL⟩
    rw [hul] at FL
    exact ⟨_,rfl,O.ret 0 rfl q ⟨fl,rfl,FL⟩⟩
abbrev cP:Stmt:=top 13
theorem d8:aU ["below","roll","takes","holds","one","take","reach"] ["below","roll","takes"] (ao cP):=⟨rfl,rfl,rfl,by decide +kernel,rfl,by decide +kernel,by decide +kernel⟩
def iG (r:List Int) (ls:List Lic) (xs:List Int):List Int:=Tn.bumps (List.replicate r.length 0) ((ls.zip xs).map fun p=>(Rv.eN r p.1.start p.1.back,p.2))
def pZ (K:PySem.W.Frag) (T:eH):Sp:=fun vs H Q _=>∃ (a b:Addr) (v:V) (r:List Int) (ls:List Lic) (xs:List Int),vs=[.ref a,v,.ref b]∧SqL K H a (r.map V.int)∧Rv.cN r∧r.length≤900∧Den K H v (rH ls)∧SqL K H b (xs.map V.int)∧ls.length=xs.length∧(∀ l∈ls,kh r l)∧TabsOk T H ∧
  iQ T H (fun ys=>ys=(iG r ls xs).map V.int) Q
theorem vA {ls:List Lic} {xs:List Int} {i:Nat} {l:Lic} {x:Int} (hl:ls[i]?=some l) (hx:xs[i]?=some x):(ls.take (i + 1)).zip (xs.take (i + 1))=(ls.take i).zip (xs.take i)++[(l,x)]:=by
  have h1:=(List.getElem?_eq_some_iff.mp hl).1
  have h2:=(List.getElem?_eq_some_iff.mp hx).1
  rw [Tn.dY hl,Tn.dY hx,List.zip_append (by rw [List.length_take,List.length_take];omega)];rfl
theorem rF {r:List Int} {ls:List Lic} {xs:List Int} {i:Nat} {l:Lic} {x:Int} (hl:ls[i]?=some l) (hx:xs[i]?=some x):iG r (ls.take (i + 1)) (xs.take (i + 1))=Tn.bump (iG r (ls.take i) (xs.take i)) (Rv.eN r l.start l.back) x:=by
  unfold iG
  rw [vA hl hx,List.map_append];exact Tn.rK _ _ _
theorem iD (r:List Int) (ls:List Lic) (xs:List Int):(iG r ls xs).length=r.length:=by unfold iG;rw [Tn.nQ,List.length_replicate]
theorem vY {f f1:Addr} {fd fd1:FuncData} (D:Df K mg "holds_of" cP ["below","roll","takes"] f fd) (B:Blt mg) (cW:Df K mg "reaches_of" bV ["below","one"] f1 fd1) (oE:cR P w K mg base CX0 3 f1 fd1 ["below","one"] (kJ K)) :
    cR P w K mg base CX0 4 f fd ["below","roll","takes"] (pZ K T):=by
  refine D.F.ok d8 (fun vs H Q E h=>?_) (fun cdv A outer s H vs Q E hr h=>?_)
  · obtain ⟨_,_,_,_,_,_,rfl,_⟩:=h;rfl
  · obtain ⟨a,b,v,r,ls,xs,rfl,hA,hR,hn,hd,hB,hlx,ok,tk,q⟩:=h
    obtain ⟨va,vs,rfl,hV,hds⟩:=hd.wz
    have hvl:vs.length=ls.length:=by rw [hds.length,List.length_map]
    refine ⟨_,(aA (aW (i:=3) d8.nd rfl (Or.inl rfl) (aM qg (dO (ak aq au)) (aV aN rfl B.len PySem.boot_len (ak (pv 0) au))))
      (aA (fH PassesOwn.never rfl (qe rfl B.zip (ak (pv 1) (ak (pv 2) au))) (jm rfl (aX (aO (i:=4) d8.nd rfl (Or.inl rfl)) (aX (aO (i:=5) d8.nd rfl (Or.inl rfl)) fB)))
        (aD (fH PassesOwn.never rfl (fu (aJ oE (hr.mono (by decide)) rfl cW.m cW.F.kp cW.b .nil cA (ak (pv 0) (ak (pv 4) au)))) (aO (i:=6) d8.nd rfl (Or.inl rfl))
          (aD (tO (pv 3) (pv 6) qy (pv 5) xW set_list)))))
      (aD (bG (pv 3))))),?_⟩
    refine GP ?_
    intro zu0 zu1 zu2 zu3
    have O:=Ow.refl tk
    refine ⟨szl,fun l1 h1=>?_⟩
    walk_at "nw"
    refine ⟨_,rfl,a,_,rfl,.inl (O.same.seq hA),l1,_,_,rfl,rfl,O.get 0,by rw [List.length_map];omega,by rw [List.length_map];omega,gB (by rw [List.length_map,Int.toNat_natCast];simp;omega),fun lh hlh=>?_⟩
    walk_at "nw"
    rw [List.length_map,Int.toNat_natCast,gZ] at O
    have O:=O.two
    refine ⟨_,rfl,_,rfl,va,b,_,_,rfl,O.same.seq hV,O.same.seq hB,?_⟩
    refine pB (K:=K) (fun i σ H'=>Iv (∃ v4 v5 v6:Option V,σ=[some (.ref a),some (.ref va),some (.ref b),some (.ref lh),v4,v5,v6]∧Ow T H H' [(lh,.lst ((iG r (ls.take i) (xs.take i)).map V.int))])) (by rw [List.length_map];omega)
      ⟨trivial,none,none,none,rfl,O⟩ (fun i σ H' _ ⟨_,_,_,_,_,O⟩=>⟨O.same.seq hV,O.same.seq hB⟩) ?_ ?_
    · rintro i x y t σ H2 hx hy ⟨-,v4,v5,v6,rfl,O⟩ ht
      obtain ⟨z,hz,rfl⟩:=ints_get hy
      obtain ⟨al,l,rfl,hl,hT⟩:=hds.pA hx
      have okl:=ok l (List.mem_of_getElem? hl)
      have wok:=Rv.lR hR (b:=l.back) okl.1 okl.2.1
      have hnext:=rF (r:=r) hl hz
      have hcl:=iD r (ls.take i) (xs.take i)
      generalize iG r (ls.take i) (xs.take i)=cur at O hnext hcl
      walk_at "nw"
      refine ⟨t,_,rfl,O.sqT 0,rfl,_,_,rfl,_,_,rfl,rfl,?_⟩
      refine ⟨_,rfl,_,rfl,a,al,r,l,rfl,O.same.seq hA,hR,hn,hT.mo O.same,okl,O.got fun lw H3 ws O e=>?_⟩
      subst e
      have O:=O.two
      generalize Rv.eN r l.start l.back=w at O wok hnext
      refine ⟨lw,rfl,⟨_,O.sq 0⟩,?_⟩
      refine iI (K:=K) (xs:=w.map V.int) (fun j σ H'=>Iv (∃ v6:Option V,σ=[some (.ref a),some (.ref va),some (.ref b),some (.ref lh),some (.ref al),some (.int z),v6]∧Ow T H H' [(lw,.lst (w.map V.int)),(lh,.lst ((Tn.bump cur (w.take j) z).map V.int))]))
        ⟨trivial,v6,rfl,O⟩ (fun i σ H' _ ⟨_,_,_,O⟩=>O.sq 0) ?_ ?_
      · rintro j y σ H4 hy ⟨-,v6,rfl,O⟩
        obtain ⟨u,hu,rfl⟩:=ints_get hy
        obtain ⟨u0,u1⟩:=wok.2 u (List.mem_of_getElem? hu)
        obtain ⟨un,rfl⟩:=Int.eq_ofNat_of_zero_le u0
        have hbl:(Tn.bump cur (w.take j) z).length=r.length:=by rw [Tn.jy,hcl]
        refine ⟨_,rfl,_,rfl,lh,_,un,_,rfl,rfl,O.sq 1,by rw [List.getElem?_map,iH (by omega)];rfl,?_⟩
        refine ⟨_,rfl,_,_,rfl,rfl,lh,_,_,un,rfl,rfl,O.get 1,jU (by rw [List.length_map];omega),?_⟩
        walk_at "pt"
        refine ⟨trivial,_,rfl,?_⟩
        rw [u9 hu,Int.toNat_natCast,List.map_set];exact O
      · rintro σ H4 ⟨-,v6,rfl,O⟩
        rw [List.length_map,List.take_of_length_le (Nat.le_refl _)] at O
        refine ⟨trivial,_,_,_,rfl,?_⟩
        rw [hnext];exact O.tail
    rintro σ H2 ⟨-,v4,v5,v6,rfl,O⟩
    refine ⟨_,rfl,O.ret 0 rfl q ?_⟩
    rw [hvl,List.take_of_length_le (Nat.le_refl _),List.take_of_length_le (by omega)]
abbrev dw:Stmt:=top 14
theorem kW:aU ["below","springs","roll","takes","natural"] ["below","springs","roll","takes"] (ao dw):=⟨rfl,rfl,rfl,by decide +kernel,rfl,by decide +kernel,by decide +kernel⟩
def mF (r s:List Int) (ls:List Lic) (xs:List Int):List Int:=List.zipWith (fun x y=>x - y) (Rv.nats r s) (iG r ls xs)
def wu (ls:List Lic) (xs:List Int):List Rv.Mv:=(ls.zip xs).map fun p=>(p.1.start,p.1.back,p.2)
theorem wg {ls:List Lic} {xs:List Int} (h:ls.length=xs.length):(wu ls xs).length=ls.length:=by
  unfold wu;rw [List.length_map,List.length_zip];omega
theorem wk {ls:List Lic} {xs:List Int} {i:Nat} {l:Lic} {x:Int} (hl:ls[i]?=some l) (hx:xs[i]?=some x):(wu ls xs)[i]?=some (l.start,l.back,x):=by
  unfold wu
  have e:(ls.zip xs)[i]?=some (l,x):=List.getElem?_zip_eq_some.mpr ⟨hl,hx⟩
  rw [List.getElem?_map,e];rfl
theorem ql (r s:List Int):(Rv.nats r s).length=r.length:=(Rv.o9 r s).len
theorem gk (r s:List Int) (ls:List Lic) (xs:List Int):(mF r s ls xs).length=r.length:=by
  unfold mF;rw [List.length_zipWith,ql,iD,Nat.min_self]
theorem Bf {r:List Int} {ls:List Lic} {xs:List Int} (hR:Rv.cN r) (h:∀ l∈ls,kh r l) (i:Nat):(iG r ls xs).getD i 0=Rv.Aw r (wu ls xs) (i:Int):=by
  unfold iG wu Rv.Aw
  rw [Tn.nR (fun p hp=>?_) i,List.map_map,List.map_map]
  · have:(List.replicate r.length (0:Int)).getD i 0=0:=by
      rw [List.getD_eq_getElem?_getD,List.getElem?_replicate];split <;> rfl
    rw [this,Int.zero_add];rfl
  · obtain ⟨q,hq,rfl⟩:=List.mem_map.mp hp
    obtain ⟨h0,h1,_⟩:=h _ (List.of_mem_zip hq).1
    rw [List.length_replicate]
    exact Rv.lR hR h0 h1
theorem wM {r:List Int} (s:List Int) {ls:List Lic} {xs:List Int} (hR:Rv.cN r) (h:∀ l∈ls,kh r l):mF r s ls xs=Rv.JF r s (wu ls xs):=by
  refine Rv.Fl.ext (n:=r.length) (g:=fun i=>Rv.jq r s (i:Int) - Rv.Aw r (wu ls xs) (i:Int)) ⟨gk ..,fun i hi=>?_⟩ (Rv.uJ r s _)
  unfold mF
  rw [List.getElem?_zipWith,(Rv.o9 r s).at_ i hi,iH (ns:=iG r ls xs) (by rw [iD];exact hi),Bf hR h]
def sU (K:PySem.W.Frag) (T:eH):Sp:=fun vs H Q _=>∃ (a b c:Addr) (v:V) (r s:List Int) (ls:List Lic) (xs:List Int),vs=[.ref a,.ref b,v,.ref c]∧Bv K H a r∧SqL K H b (s.map V.int)∧s.length=r.length∧Den K H v (rH ls)∧SqL K H c (xs.map V.int)∧ls.length=xs.length∧(∀ l∈ls,kh r l)∧TabsOk T H ∧
  iQ T H (fun ys=>ys=(mF r s ls xs).map V.int) Q
theorem rG {ys zs:List Int} {i:Nat} {a b:Int} (ha:ys[i]?=some a) (hb:zs[i]?=some b):List.zipWith (fun x y=>x - y) (ys.take (i + 1)) (zs.take (i + 1))=List.zipWith (fun x y:Int=>x - y) (ys.take i) (zs.take i)++[a - b]:=by
  have h1:=(List.getElem?_eq_some_iff.mp ha).1
  have h2:=(List.getElem?_eq_some_iff.mp hb).1
  rw [Tn.dY ha,Tn.dY hb,List.zipWith_append (by rw [List.length_take,List.length_take];omega)];rfl
theorem Am {f f1 f2:Addr} {fd fd1 fd2:FuncData} (D:Df K mg "free_of" dw ["below","springs","roll","takes"] f fd) (B:Blt mg)
    (cX:Df K mg "natural_of" bW ["below","springs"] f1 fd1) (oF:cR P w K mg base CX0 6 f1 fd1 ["below","springs"] (xr K T))
    (dX:Df K mg "holds_of" cP ["below","roll","takes"] f2 fd2) (rO:cR P w K mg base CX0 4 f2 fd2 ["below","roll","takes"] (pZ K T)) :
    cR P w K mg base CX0 7 f fd ["below","springs","roll","takes"] (sU K T):=by
  refine D.F.ok kW (fun vs H Q E h=>?_) (fun cdv A outer s H vs Q E hr h=>?_)
  · obtain ⟨_,_,_,_,_,_,_,_,rfl,_⟩:=h;rfl
  · obtain ⟨a,b,c,v,r,sp,ls,xs,rfl,⟨hA,hR,h64⟩,hB,hsl,hd,hC,hlx,ok,tk,q⟩:=h
    refine ⟨_,(aA (aW (i:=4) kW.nd rfl (Or.inl rfl) (aJ oF (hr.mono (by decide)) rfl cX.m cX.F.kp cX.b .nil cA (ak (pv 0) (ak (pv 1) au))))
      (aD (bG (gO (ao dw) rfl ["below","springs","roll","takes","natural"] rfl ["flow","held"] [none,none] (by decide +kernel) (by decide +kernel) (by decide +kernel) rfl (qe rfl B.zip (ak (pv 4) (ak (aJ rO (hr.mono (by decide)) rfl dX.m dX.F.kp dX.b .nil cA (ak (pv 0) (ak (pv 2) (ak (pv 3) au)))) au))) (fun _ _ _=>(tW (K:=K) (n:=2) rfl rfl (aX (aO (i:=0) (show (["flow","held"]:List Str).Nodup by decide +kernel) rfl (Or.inl rfl)) (aX (aO (i:=1) (show (["flow","held"]:List Str).Nodup by decide +kernel) rfl (Or.inl rfl)) fB)))) (fun _ _ _=>lZ) (fun _ _ _=>(aM jo (pv 0) (pv 1))))))),?_⟩
    refine Jf ?_
    intro zu0
    have O:=Ow.refl tk
    refine ⟨_,rfl,_,rfl,a,b,r,sp,rfl,⟨hA,hR,h64⟩,hB,hsl,tk,O.mC fun ln H1 ys O e=>?_⟩
    subst e
    refine ⟨_,rfl,_,rfl,_,rfl,_,rfl,a,c,v,r,ls,xs,rfl,O.same.seq hA,hR,by omega,hd.pq O.same,O.same.seq hC,hlx,ok,O.same.t1,O.mC fun lh H2 zs O e=>?_⟩
    subst e
    refine ⟨ln,lh,_,_,rfl,O.sq 1,O.sq 0,fun acc hacc=>?_⟩
    have hnl:=ql r sp
    have hhl:=iD r ls xs
    refine wQ (K:=K) (fun i τ H'=>Iv (∃ (v0 v1:Option V),τ=[v0,v1]∧Ow T H H' [(acc,.lst ((List.zipWith (fun x y:Int=>x - y) ((Rv.nats r sp).take i) ((iG r ls xs).take i)).map V.int)),(lh,.lst ((iG r ls xs).map V.int)),(ln,.lst ((Rv.nats r sp).map V.int))])) (by rw [List.length_map,List.length_map];omega)
      ⟨trivial,none,none,rfl,O.mk' hacc rfl⟩ (fun i τ H' _ ⟨_,_,_,_,O⟩=>⟨O.sq 2,O.sq 1⟩) ?_ ?_
    · rintro i x y t τ H' hx hy ⟨-,v0,v1,rfl,O⟩ ht
      obtain ⟨z,hz,rfl⟩:=ints_get hy
      obtain ⟨u,hu,rfl⟩:=ints_get hx
      have hi:=(List.getElem?_eq_some_iff.mp hz).1
      walk_at "nw"
      refine ⟨t,_,rfl,O.sqT 0,rfl,_,_,rfl,_,_,rfl,rfl,?_⟩
      refine Jd ?_
      refine ⟨_,rfl,_,rfl,_,_,rfl,rfl,?_⟩
      refine ⟨_,O.get 1,bf (by rw [List.length_map,List.length_zipWith,List.length_take];omega),?_⟩
      walk_at "pt"
      refine ⟨trivial,_,_,rfl,?_⟩
      rw [rG hu hz,List.map_append]
      exact O.tail
    · rintro τ H' ⟨-,v0,v1,rfl,O⟩
      refine O.ret 0 rfl q ?_
      rw [List.length_map,List.take_of_length_le (Nat.le_refl _),List.take_of_length_le (by omega)];rfl
theorem um {r:List Int} {ls:List Lic} {xs:List Int} (h:ls.length=xs.length) (i:Int):Rv.Aw r (wu ls xs) i=Tn.hold ls.length (rW r ls) (Tn.fX xs) i:=by
  unfold Rv.Aw Tn.hold
  rw [← Rv.zY,Rv.pN,List.length_map,wg h]
  refine Tn.kI fun k hk=>?_
  have e:=List.getElem?_eq_getElem hk
  rw [List.getD_eq_getElem?_getD,List.getElem?_map,wk e (iH (ns:=xs) (by omega)),rT e];rfl
theorem wL {r s:List Int} {ls:List Lic} {xs:List Int} (hR:Rv.cN r) (ok:∀ l∈ls,kh r l) (h:ls.length=xs.length) {i:Nat} (hi:i<r.length):(mF r s ls xs).getD i 0=Tn.fF (Rv.nats r s) (i:Int) - Tn.hold ls.length (rW r ls) (Tn.fX xs) (i:Int):=by
  rw [wM s hR ok,(Rv.uJ r s _).getD hi,um h,Rv.uK (by omega) (by omega)]
def fM (fl:List Int) (n:Nat):List Nat:=(List.range n).filter fun i=>decide (fl.getD i 0=0)
theorem eX (fl:List Int) (n:Nat):fM fl (n + 1)=fM fl n++(if fl.getD n 0=0 then [n] else []):=by
  unfold fM;rw [List.range_succ,List.filter_append]
  congr 1
  by_cases h:fl.getD n 0=0
  · rw [if_pos h,List.filter_cons,List.filter_nil,if_pos (decide_eq_true h)]
  · rw [if_neg h,List.filter_cons,List.filter_nil,if_neg (by rw [decide_eq_true_iff];exact h)]
theorem iU (fl:List Int) (n:Nat):(fM fl n).length≤n:=by
  unfold fM;refine Nat.le_trans (List.length_filter_le _ _) (by rw [List.length_range];exact Nat.le_refl _)
abbrev dU:Stmt:=top 16
theorem tD:aU ["below","springs","roll","takes"] ["below","springs","roll","takes"] (ao dU):=⟨rfl,rfl,rfl,by decide +kernel,rfl,by decide +kernel,by decide +kernel⟩
def xJ (K:PySem.W.Frag) (T:eH):Sp:=fun vs H Q _=>∃ (a b c:Addr) (v:V) (r s:List Int) (ls:List Lic) (xs:List Int),vs=[.ref a,.ref b,v,.ref c]∧Bv K H a r∧SqL K H b (s.map V.int)∧s.length=r.length∧Den K H v (rH ls)∧SqL K H c (xs.map V.int)∧ls.length=xs.length∧(∀ l∈ls,kh r l)∧TabsOk T H ∧
  iQ T H (fun ys=>ys=(Tn.asI (fM (mF r s ls xs) r.length)).map V.int) Q
theorem Cm {f f1:Addr} {fd fd1:FuncData} (D:Df K mg "dry_of" dU ["below","springs","roll","takes"] f fd) (B:Blt mg)
    (eV:Df K mg "free_of" dw ["below","springs","roll","takes"] f1 fd1) (vo:cR P w K mg base CX0 7 f1 fd1 ["below","springs","roll","takes"] (sU K T)):cR P w K mg base CX0 8 f fd ["below","springs","roll","takes"] (xJ K T):=by
  refine D.F.ok tD (fun vs H Q E h=>?_) (fun cdv A outer s H vs Q E hr h=>?_)
  · obtain ⟨_,_,_,_,_,_,_,_,rfl,_⟩:=h;rfl
  · obtain ⟨a,b,c,v,r,sp,ls,xs,rfl,⟨hA,hR,h64⟩,hB,hsl,hd,hC,hlx,ok,tk,q⟩:=h
    refine ⟨_,(aD (bG (gO (ao dU) rfl ["below","springs","roll","takes"] rfl ["reach","drops"] [none,none] (by decide +kernel) (by decide +kernel) (by decide +kernel) rfl (oY rfl B.enumerate (ak (aJ vo (hr.mono (by decide)) rfl eV.m eV.F.kp eV.b .nil cA (ak (pv 0) (ak (pv 1) (ak (pv 2) (ak (pv 3) au))))) au)) (fun _ _ _=>(tW (K:=K) (n:=2) rfl rfl (aX (aO (i:=0) (show (["reach","drops"]:List Str).Nodup by decide +kernel) rfl (Or.inl rfl)) (aX (aO (i:=1) (show (["reach","drops"]:List Str).Nodup by decide +kernel) rfl (Or.inl rfl)) fB)))) (fun _ _ _=>(jJ (cu rB (pv 1) aq (dB _)))) (fun _ _ _=>(pv 0))))),?_⟩
    have O:=Ow.refl tk
    refine ⟨_,rfl,_,rfl,_,rfl,_,rfl,a,b,c,v,r,sp,ls,xs,rfl,⟨hA,hR,h64⟩,hB,hsl,hd,hC,hlx,ok,tk,O.mC fun lf H1 ys O e=>?_⟩
    subst e
    have hfl:=gk r sp ls xs
    generalize mF r sp ls xs=fl at O hfl q
    refine ⟨lf,_,rfl,O.sq 0,fun acc hacc=>?_⟩
    refine uT (K:=K) (xs:=fl.map V.int) (fun i τ H'=>Iv (∃ (v0 v1:Option V),τ=[v0,v1]∧Ow T H H' [(acc,.lst ((Tn.asI (fM fl i)).map V.int)),(lf,.lst (fl.map V.int))]))
      ⟨trivial,none,none,rfl,O.mk' hacc rfl⟩ (fun i τ H' _ ⟨_,_,_,_,O⟩=>O.sq 1) ?_ ?_
    · rintro i y t' τ H3 hy ⟨-,v0,v1,rfl,O⟩ ht'
      obtain ⟨u,hu,rfl⟩:=ints_get hy
      have hi:=(List.getElem?_eq_some_iff.mp hu).1
      have eu:fl.getD i 0=u:=by rw [List.getD_eq_getElem?_getD,hu];rfl
      have hzl:=iU fl i
      walk_at "nw"
      refine ⟨t',_,rfl,O.sqT 0,rfl,_,_,rfl,_,_,rfl,rfl,?_⟩
      have O:=O.tail
      refine ⟨_,rfl,rfl,_,rfl,ifI (fun h1=>?_) fun h1=>⟨trivial,_,_,rfl,by rw [eX,eu,if_neg h1,List.append_nil];exact O⟩⟩
      refine ⟨_,rfl,_,O.get 0,bf (by rw [List.length_map,Tn.gG];omega),?_⟩
      walk_at "pt"
      refine ⟨trivial,_,_,rfl,?_⟩
      rw [eX,eu,if_pos h1,j5];exact O
    · rintro τ H3 ⟨-,v0,v1,rfl,O⟩
      rw [List.length_map,hfl] at O
      exact O.ret 0 rfl q rfl
theorem vL {X:Cx} {K:PySem.W.Frag} (h:X.K=K):SlR X (Jk K):=h ▸ iW
abbrev fj:Stmt:=top 17
theorem vP:aU ["reaches","others"] ["reaches","others"] (ao fj):=⟨rfl,rfl,rfl,by decide +kernel,rfl,by decide +kernel,by decide +kernel⟩
def pX (K:PySem.W.Frag) (T:eH):Sp:=fun vs H Q _=>∃ (a b:Addr) (xs ys:List Int),vs=[.ref a,.ref b]∧SqL K H a (xs.map V.int)∧SqL K H b (ys.map V.int)∧xs.length≤900∧TabsOk T H∧∀ H',bI T H H'→Q (.bl (Rv.iz xs ys)) H'
abbrev cj:Stmt:=top 18
theorem m6:aU ["below","reaches"] ["below","reaches"] (ao cj):=⟨rfl,rfl,rfl,by decide +kernel,rfl,by decide +kernel,by decide +kernel⟩
def mY (K:PySem.W.Frag) (T:eH):Sp:=fun vs H Q _=>∃ (a b:Addr) (r xs:List Int),vs=[.ref a,.ref b]∧Bv K H a r∧SqL K H b (xs.map V.int)∧xs.length<64∧(∀ x∈xs,0≤x∧x<(r.length:Int))∧TabsOk T H ∧
  iQ T H (fun ys=>ys=(Tn.asI (Rv.rE r xs r.length)).map V.int) Q
theorem vX {f:Addr} {fd:FuncData} (D:Df K mg "meets" fj ["reaches","others"] f fd) (B:Blt mg):cR P w K mg base CX0 1 f fd ["reaches","others"] (pX K T):=by
  refine D.F.ok vP (fun vs H Q E h=>?_) (fun cdv A outer s H vs Q E hr h=>?_)
  · obtain ⟨_,_,_,_,rfl,_⟩:=h;rfl
  · obtain ⟨a,b,xs,ys,rfl,hA,hB,hn,tk,q⟩:=h
    refine ⟨_,(aD (bG (aV (wR rfl) rfl B.any PyProof.Rows.boot_any (ak (gO (ao fj) rfl ["reaches","others"] rfl ["reach","others"] [none,some 1] (by decide +kernel) (by decide +kernel) (by decide +kernel) rfl (fu (pv 0)) (fun _ _ _=>(aO (i:=0) (show (["reach","others"]:List Str).Nodup by decide +kernel) rfl (Or.inl rfl))) (fun _ _ _=>lZ) (fun _ _ _=>(jO (kZ (K:=K) rfl) (pv 0) (pv 1) (by rfl)))) au)))),?_⟩
    have O:=Ow.refl tk
    refine ⟨_,rfl,a,rfl,⟨_,hA⟩,fun acc hacc=>?_⟩
    refine iK (K:=K) (xs:=xs.map V.int) (fun i τ H'=>Iv (∃ (v0:Option V),τ=[v0,some (.ref b)]∧Ow T H H' [(acc,.lst (((xs.take i).map fun x=>decide (x∈ys)).map V.bl))])) ⟨trivial,none,rfl,O.mk' hacc rfl⟩ (fun i τ H' _ ⟨_,_,_,O⟩=>O.same.seq hA) ?_ ?_
    · rintro i y τ H3 hy ⟨-,v0,rfl,O⟩
      obtain ⟨z,hz,rfl⟩:=ints_get hy
      refine Gn ?_
      refine ⟨_,rfl,_,rfl,b,_,rfl,.inl (O.same.seq hB),rfl,gn _,?_⟩
      rw [if_neg Bool.false_ne_true,jX]
      refine ⟨_,O.get 0,bf (by rw [List.length_map,List.length_map,List.length_take];omega),?_⟩
      walk_at "pt"
      refine ⟨trivial,_,rfl,?_⟩
      rw [Tn.dY hz,List.map_append,List.map_append];exact O
    rintro τ H3 ⟨-,v0,rfl,O⟩
    rw [List.length_map,List.take_of_length_le (Nat.le_refl _)] at O
    refine ⟨acc,_,rfl,O.sq 0,?_⟩
    rw [List.any_map]
    exact q _ O.same
theorem uf {f f1 f2:Addr} {fd fd1 fd2:FuncData} (D:Df K mg "lowest_of" cj ["below","reaches"] f fd) (B:Blt mg)
    (bO:Df K mg "way_of" dM ["below","reach"] f1 fd1) (iR:cR P w K mg base CX0 1 f1 fd1 ["below","reach"] (pR K))
    (jg:Df K mg "meets" fj ["reaches","others"] f2 fd2) (Br:cR P w K mg base CX0 1 f2 fd2 ["reaches","others"] (pX K T)):cR P w K mg base CX0 2 f fd ["below","reaches"] (mY K T):=by
  refine D.F.ok m6 (fun vs H Q E h=>?_) (fun cdv A outer s H vs Q E hr h=>?_)
  · obtain ⟨_,_,_,_,rfl,_⟩:=h;rfl
  · obtain ⟨a,b,r,xs,rfl,⟨hA,hR,h64⟩,hB,hx64,hx,tk,q⟩:=h
    refine ⟨_,(aD (bG (gO (ao cj) rfl ["below","reaches"] rfl ["reach","reaches","below"] [none,some 1,some 0] (by decide +kernel) (by decide +kernel) (by decide +kernel) rfl (fu (rA rfl rfl B.sorted rfl B.set (ak (pv 1) au))) (fun _ _ _=>(aO (i:=0) (show (["reach","reaches","below"]:List Str).Nodup by decide +kernel) rfl (Or.inl rfl))) (fun _ _ _=>(jJ (ni (jK (aJ Br (hr.mono (by decide)) rfl jg.m jg.F.kp jg.b .nil cA (ak (gC (vL (K:=K) rfl) (aJ iR (hr.mono (by decide)) rfl bO.m bO.F.kp bO.b .nil cA (ak (pv 2) (ak (pv 0) au))) (gM aq) jM) (ak (pv 1) au))))))) (fun _ _ _=>(pv 0))))),?_⟩
    have O:=Ow.refl tk
    refine ⟨_,rfl,b,xs,rfl,hB,hx64,fun lm ms hlm hrise hmem hml=>?_⟩
    walk_at "nw"
    refine ⟨lm,rfl,⟨_,O.sq 0⟩,fun acc hacc=>?_⟩
    refine iK (K:=K) (xs:=ms.map V.int) (fun i τ H'=>Iv (∃ (v0:Option V),τ=[v0,some (.ref b),some (.ref a)]∧Ow T H H' [(acc,.lst (((ms.take i).filter fun x=>!Rv.iz ((Rv.walk r x).drop 1) xs).map V.int)),(lm,.lst (ms.map V.int))])) ⟨trivial,none,rfl,O.mk' hacc rfl⟩ (fun i τ H' _ ⟨_,_,_,O⟩=>O.sq 1) ?_ ?_
    · rintro i y τ H3 hy ⟨-,v0,rfl,O⟩
      obtain ⟨z,hz,rfl⟩:=ints_get hy
      obtain ⟨z0,z1⟩:=hx z ((hmem z).mp (List.mem_of_getElem? hz))
      have hi:=(List.getElem?_eq_some_iff.mp hz).1
      refine ⟨_,rfl,_,rfl,a,r,z,rfl,O.same.seq hA,hR,z0,z1,by omega,O.got fun lw H4 ws O e=>?_⟩
      subst e
      refine ⟨1,rfl,lw,_,rfl,O.sq 0,fun l2 hl2=>?_⟩
      walk_at "nw"
      rw [show oM ((Rv.walk r z).map V.int) (some 1) none=((Rv.walk r z).drop 1).map V.int from qH _ 1] at O
      refine ⟨_,rfl,l2,b,_,xs,rfl,O.sq 0,O.same.seq hB,by have:=Rv.ju r z;rw [List.length_drop];omega,O.same.t1,fun H5 sm=>?_⟩
      have O:=((O.rJ sm).tail).tail
      refine ⟨_,rfl,?_⟩
      have hfil:(ms.take (i + 1)).filter (fun x=>!Rv.iz ((Rv.walk r x).drop 1) xs)=(ms.take i).filter (fun x=>!Rv.iz ((Rv.walk r x).drop 1) xs)++(if Rv.iz ((Rv.walk r z).drop 1) xs=true then [] else [z]):=by
        rw [Tn.dY hz,List.filter_append]
        congr 1
        rw [List.filter_cons,List.filter_nil]
        cases Rv.iz ((Rv.walk r z).drop 1) xs <;> rfl
      cases hm:Rv.iz ((Rv.walk r z).drop 1) xs with
      | true =>
        rw [hm,if_pos rfl,List.append_nil] at hfil
        exact ⟨trivial,_,rfl,by rw [hfil];exact O⟩
      | false =>
        rw [hm,if_neg Bool.false_ne_true] at hfil
        refine ⟨_,rfl,_,O.get 0,bf (by rw [List.length_map];have h1:=List.length_filter_le (fun x=>!Rv.iz ((Rv.walk r x).drop 1) xs) (ms.take i);rw [List.length_take] at h1;omega),?_⟩
        walk_at "pt"
        refine ⟨trivial,_,rfl,?_⟩
        rw [hfil,List.map_append];exact O
    rintro τ H3 ⟨-,v0,rfl,O⟩
    rw [List.length_map,List.take_of_length_le (Nat.le_refl _),Rv.Cv hx hrise hmem] at O
    exact O.ret 0 rfl q rfl
abbrev bZ:Stmt:=top 28
theorem cg:aU ["cell","below","far","great","xs","way","back","take"] ["cell","below","far","great"] (ao bZ):=⟨rfl,rfl,rfl,by decide +kernel,rfl,by decide +kernel,by decide +kernel⟩
def sV (K:PySem.W.Frag) (T:eH):Sp:=fun vs H Q _=>∃ (a:Addr) (r:List Int) (c far:Int) (g:Bool),vs=[.int c,.ref a,.int far,.bl g]∧SqL K H a (r.map V.int)∧Rv.cN r∧1≤r.length∧r.length≤900∧TabsOk T H ∧
  ∀ (t t2:Addr) (H':Hp) (l:Lic) (ta:Int),Ow T H H' [(t,.tup [.ref t2,.int ta]),(t2,.tup (zW l))]→qO r l→Q (.ref t) H'
theorem Aq {f f1 f2:Addr} {fd fd1 fd2:FuncData} (D:Df K mg "_law_drawn" bZ ["cell","below","far","great"] f fd) (B:Blt mg)
    (aF:Df K mg "_law_mixed" aQ ["cell","many"] f1 fd1) (cJ:cR P w K mg base CX0 2 f1 fd1 ["cell","many"] jE)
    (aK:Df K mg "_law_way" bR ["below","reach"] f2 fd2) (dH:cR P w K mg base CX0 1 f2 fd2 ["below","reach"] (jD K T)):cR P w K mg base CX0 3 f fd ["cell","below","far","great"] (sV K T):=by
  refine D.F.ok cg (fun vs H Q E h=>?_) (fun cdv A outer s H vs Q E hr h=>?_)
  · obtain ⟨_,_,_,_,_,rfl,_⟩:=h;rfl
  · obtain ⟨a,r,c,far,g,rfl,hA,hR,r1,r9,tk,q⟩:=h
    refine ⟨_,(aA (aW (i:=4) cg.nd rfl (Or.inl rfl) (aJ cJ (hr.mono (by decide)) rfl aF.m aF.F.kp aF.b .nil cA (ak (pv 0) (ak aq au))))
      (aA (aW (i:=5) cg.nd rfl (Or.inl rfl) (aJ dH (hr.mono (by decide)) rfl aK.m aK.F.kp aK.b .nil cA (ak (pv 1) (ak (aM cM (bA aG (pv 4) aq (fun _ _=>rfl)) (aV aN rfl B.len PySem.boot_len (ak (pv 1) au))) au))))
      (aA (aW (i:=6) cg.nd rfl (Or.inl rfl) (jN fO aq))
      (nj (iu (PW.pt (pw_and (cu rB (aM cM (bA aG (pv 4) aq (fun _ _=>rfl)) aq) aq (dB _)) (pw_and1 (cu BR (aV aN rfl B.len PySem.boot_len (ak (pv 5) au)) aq (dB _)))))
        (aD (aW (i:=6) cg.nd rfl (Or.inl rfl) (bA aG (pv 5) (aM dG aq (aM cM (aM iZ (bA aG (pv 4) aq (fun _ _=>rfl)) aq) (aM jo (aV aN rfl B.len PySem.boot_len (ak (pv 5) au)) aq))) (fun _ _=>rfl))))
        dz)
      (aA (aW (i:=7) cg.nd rfl (Or.inl rfl) (aM jo (aM cM (bA aG (pv 4) aq (fun _ _=>rfl)) aq) aq))
      (nj (iu (jK (pv 3))
        (aD (aW (i:=7) cg.nd rfl (Or.inl rfl) (aM jo (aM cM (aM dG (aM eU (pv 0) aq) (aM eU (bA aG (pv 4) aq (fun _ _=>rfl)) aq)) (aM dG (aM eU aq (aM tZ aq aq)) aq)) (aM tZ aq aq))))
        dz)
      (aD (bG (tX (ak (tX (ak (aM eU (aM cM (bA aG (pv 4) aq (fun _ _=>rfl)) aq) (pv 2)) (ak (bA aG (pv 5) aq (fun _ _=>rfl)) (ak (pv 6) (ak (aM tZ aq aq) au))))) (ak (pv 7) au))))))))))),?_⟩
    refine GK ?_
    intro zu0 zu1 zu2 zu3 zu4 zu5 zu6 zu7
    have O:=Ow.refl tk
    have s0:=O.same
    have hml:((r.map V.int).length:Int)=(r.length:Int):=by rw [List.length_map]
    refine ⟨_,rfl,c,5,rfl,by omega,by omega,O.got fun lx H2 xs O e=>?_⟩
    obtain ⟨ys,rfl,hy⟩:=e
    have hyl:ys.length=5:=by rw [hy,iJ];rfl
    have hyn:∀ k,0≤ys.getD k 0:=fun k=>by rw [hy];exact uM
    clear hy
    have p0:=Int.emod_nonneg (ys.getD (1:Int).toNat 0) (show (r.length:Int)≠0 by omega)
    have p1:=Int.emod_lt_of_pos (ys.getD (1:Int).toNat 0) (show (0:Int)<(r.length:Int) by omega)
    refine ⟨_,rfl,_,rfl,lx,_,1,_,rfl,rfl,O.sq 0,bH (by omega) (by omega),_,rfl,a,_,rfl,.inl (O.same.seq hA),_,_,rfl,rfl,(by rw [hml];omega),?_⟩
    dsimp only
    rw [hml]
    generalize ys.getD (1:Int).toNat 0 % (r.length:Int)=st at p0 p1
    refine ⟨a,r,st,rfl,O.same.seq hA,hR,p0,p1,r9,O.same.t1,O.mC fun lw H3 xs O e=>?_⟩
    subst e
    have hw0:(Rv.walk r st)[0]?=some st:=by rw [Rv.cL hR p0 p1];rfl
    have hwm:(((Rv.walk r st).map V.int).length:Int)=((Rv.walk r st).length:Int):=by rw [List.length_map]
    have hw1:0<(Rv.walk r st).length:=(List.getElem?_eq_some_iff.mp hw0).1
    refine ⟨_,rfl,?_⟩
    refine ⟨fun σ H'=>Iv (∃ (bk:Int),σ=[some (.int c),some (.ref a),some (.int far),some (.bl g),some (.ref lx),some (.ref lw),some (.int bk),none]∧Rv.Stop r st bk∧H'=H3),?_,?_⟩
    · refine ⟨_,rfl,lx,_,2,_,rfl,rfl,O.sq 1,bH (by omega) (by omega),_,_,rfl,rfl,(by show (0:Int)<3;decide),rfl,_,rfl,ifI (fun hc=>?_) fun hc=>?_⟩
      · refine ⟨_,rfl,lw,_,rfl,.inl (O.sq 0),_,_,rfl,rfl,_,rfl,ifD (fun hc2=>?_) fun hc2=>?_⟩
        · rw [hwm] at hc2
          have j0:=Int.emod_nonneg (ys.getD (2:Int).toNat 0 / 3) (show ((Rv.walk r st).length:Int) - 1≠0 by omega)
          have j1:=Int.emod_lt_of_pos (ys.getD (2:Int).toNat 0 / 3) (show (0:Int)<((Rv.walk r st).length:Int) - 1 by omega)
          refine ⟨_,rfl,_,rfl,lx,_,2,_,rfl,rfl,O.sq 1,bH (by omega) (by omega),_,_,rfl,rfl,⟨by decide,by decide⟩,_,rfl,lw,_,rfl,.inl (O.sq 0),_,_,rfl,rfl,_,_,rfl,rfl,(by rw [hwm];omega),_,_,rfl,rfl,?_⟩
          dsimp only
          rw [hwm]
          refine ⟨lw,_,_,_,rfl,rfl,O.sq 0,bH (by omega) (by omega),trivial,_,rfl,.inr (getD_mem' (by omega)),rfl⟩
        · exact ⟨trivial,_,rfl,.inl rfl,rfl⟩
      · exact qw ⟨trivial,_,rfl,.inl rfl,rfl⟩
    rintro σ H4 ⟨-,bk,rfl,hst,rfl⟩
    walk_at "w"
    dsimp only
    generalize ys.getD (3:Int).toNat 0 % 6 - 2=ta0
    refine ⟨fun σ H'=>Iv (∃ (ta:Int),σ=[some (.int c),some (.ref a),some (.int far),some (.bl g),some (.ref lx),some (.ref lw),some (.int bk),some (.int ta)]∧H'=H4),?_,?_⟩
    · refine ⟨_,rfl,_,rfl,?_⟩
      cases g with
      | false=>exact qw ⟨trivial,_,rfl,rfl⟩
      | true =>
        refine xV ?_
        walk_at "w"
        exact ⟨trivial,_,rfl,rfl⟩
    rintro σ H5 ⟨-,ta,rfl,rfl⟩
    walk_at "w"
    intro t2 h2
    walk_at "nw"
    walk_at "w"
    intro t ht
    walk_at "nw"
    have O:=(O.del 2).del 2
    walk_at "er"
    exact q t t2 _ ⟨_,_,_,_⟩ ta O ⟨⟨p0,p1,hst⟩,by show (0:Int)≤10 ^ (12:Int).toNat;decide⟩
abbrev bD:Stmt:=top 29
theorem bQ:aU ["cell","below","roll","takes","springs","one","take","reach","x"] ["cell","below","roll","takes"] (ao bD):=⟨rfl,rfl,rfl,by decide +kernel,rfl,by decide +kernel,by decide +kernel⟩
def xg (K:PySem.W.Frag) (T:eH):Sp:=fun vs H Q _=>∃ (a b d:Addr) (c:Int) (r xs:List Int) (us:List V) (ls:List Lic),vs=[.int c,.ref a,.ref b,.ref d]∧SqL K H a (r.map V.int)∧r.length<64∧SqL K H b us∧eF K H us (ls.map zQ)∧SqL K H d (xs.map V.int)∧xs.length=ls.length∧(∀ l∈ls,qO r l)∧TabsOk T H∧iQ T H (fun ys=>∃ s:List Int,ys=s.map V.int∧s.length=r.length) Q
theorem Ca {f f1:Addr} {fd fd1:FuncData} (D:Df K mg "_law_springs" bD ["cell","below","roll","takes"] f fd) (B:Blt mg)
    (aF:Df K mg "_law_mixed" aQ ["cell","many"] f1 fd1) (cJ:cR P w K mg base CX0 2 f1 fd1 ["cell","many"] jE):cR P w K mg base CX0 3 f fd ["cell","below","roll","takes"] (xg K T):=by
  refine D.F.ok bQ (fun vs H Q E h=>?_) (fun cdv A outer s H vs Q E hr h=>?_)
  · obtain ⟨_,_,_,_,_,_,_,_,rfl,_⟩:=h;rfl
  · obtain ⟨a,b,d,c,r,xs,us,ls,rfl,hA,h64,hB,d0,hD,hxl,hok,tk,q⟩:=h
    refine ⟨_,(aA (aW (i:=4) bQ.nd rfl (Or.inl rfl) (aM qg (dO (ak aq au)) (aV aN rfl B.len PySem.boot_len (ak (pv 1) au))))
      (aA (fH PassesOwn.never rfl (qe rfl B.zip (ak (pv 2) (ak (pv 3) au))) (jm rfl (aX (aO (i:=5) bQ.nd rfl (Or.inl rfl)) (aX (aO (i:=6) bQ.nd rfl (Or.inl rfl)) fB)))
        (aD (jL (aM dG (bA aG (pv 4) (bA nJ (pv 5) aq (fun _ _=>rfl)) (fun _ _=>rfl)) (pv 6)) (nu (pv 4) (bA nJ (pv 5) aq (fun _ _=>rfl)) set_list))))
      (aA (fH PassesOwn.never rfl (oY rfl B.enumerate (ak (aJ cJ (hr.mono (by decide)) rfl aF.m aF.F.kp aF.b .nil cA (ak (pv 0) (ak (aV aN rfl B.len PySem.boot_len (ak (pv 1) au)) au))) au)) (jm rfl (aX (aO (i:=7) bQ.nd rfl (Or.inl rfl)) (aX (aO (i:=8) bQ.nd rfl (Or.inl rfl)) fB)))
        (aD (jL (aV (nP rfl) rfl B.max PyProof.Rows.boot_max (ak aq (ak (aM dG (bA aG (pv 4) (pv 7) (fun _ _=>rfl)) (bA aG (dO (ak aq (ak (jN fO aq) (ak aq (ak aq (ak aq au)))))) (aM cM (pv 8) aq) (fun _ _=>rfl))) au))) (nu (pv 4) (pv 7) set_list))))
      (aD (bG (pv 4)))))),?_⟩
    refine GJ ?_
    intro zu0 zu1 zu2 zu3 zu4
    have hml:(r.map V.int).length=r.length:=List.length_map _
    have hul:us.length=ls.length:=by rw [d0.length,List.length_map]
    have O:=Ow.refl tk
    refine ⟨szl,fun l0 hl0=>?_⟩
    walk_at "nw"
    refine ⟨_,rfl,a,_,rfl,.inl (O.same.seq hA),l0,_,_,rfl,rfl,O.get 0,by rw [hml];omega,by rw [hml];omega,gB (by rw [hml,Int.toNat_natCast];simp;omega),fun ld hld=>?_⟩
    walk_at "nw"
    rw [hml,Int.toNat_natCast,gZ] at O
    have O:=O.two
    refine ⟨_,rfl,_,rfl,b,d,_,_,rfl,O.same.seq hB,O.same.seq hD,?_⟩
    refine pB (K:=K) (fun t σ H4=>Iv (∃ (v5 v6:Option V) (fl:List Int),σ=[some (.int c),some (.ref a),some (.ref b),some (.ref d),some (.ref ld),v5,v6,none,none]∧fl.length=r.length∧Ow T H H4 [(ld,.lst (fl.map V.int))]))
      (by rw [List.length_map];omega) ⟨trivial,none,none,_,rfl,List.length_replicate,O⟩ (fun _ _ _ _ ⟨_,_,_,_,_,_,O⟩=>⟨O.same.seq hB,O.same.seq hD⟩) ?_ ?_
    · rintro t x y t' σ H4 hx hy ⟨-,v5,v6,fl,rfl,hfl,O⟩ ht'
      obtain ⟨al,l,rfl,hl,hT⟩:=d0.pA hx
      obtain ⟨u,hu,rfl⟩:=ints_get hy
      have hlo:=(hok l (List.mem_of_getElem? hl)).1
      walk_at "nw"
      refine ⟨t',_,rfl,O.sqT 0,rfl,_,_,rfl,_,_,rfl,rfl,?_⟩
      have O:=O.tail
      refine ⟨_,rfl,_,rfl,al,_,1,_,rfl,rfl,hT.mo O.same,rfl,ld,_,_,_,rfl,rfl,O.sq 0,bH hlo.1 (by have:=hlo.2.1;omega),_,rfl,_,_,rfl,rfl,_,rfl,_,rfl,al,_,1,_,rfl,rfl,hT.mo O.same,rfl,?_⟩
      refine nC O 0 rfl (CK hlo.1 (by have:=hlo.2.1;rw [List.length_map];omega)) fun H6 O=>?_
      rw [← List.map_set] at O
      exact ⟨trivial,_,_,_,rfl,by rw [List.length_set];exact hfl,O⟩
    rintro σ H4 ⟨-,v5,v6,fl,rfl,hfl,O⟩
    refine ⟨_,rfl,_,rfl,a,_,rfl,.inl (O.same.seq hA),c,_,rfl,by rw [hml];omega,by rw [hml];omega,O.got fun lx H5 ys O e=>?_⟩
    obtain ⟨ws,rfl,hy⟩:=e
    have hyl:ws.length=r.length:=by rw [hy,iJ,hml,Int.toNat_natCast]
    clear hy
    refine ⟨lx,_,rfl,O.sq 0,?_⟩
    refine qz (K:=K) (xs:=ws.map V.int) (fun t σ H6=>Iv (∃ (v7 v8:Option V) (fl:List Int),σ=[some (.int c),some (.ref a),some (.ref b),some (.ref d),some (.ref ld),v5,v6,v7,v8]∧fl.length=r.length∧Ow T H H6 [(lx,.lst (ws.map V.int)),(ld,.lst (fl.map V.int))]))
      ⟨trivial,none,none,fl,rfl,hfl,O⟩ (fun _ _ _ _ ⟨_,_,_,_,_,_,O⟩=>O.sq 0) ?_ ?_
    · rintro t y t' σ H6 hy ⟨-,v7,v8,fl,rfl,hfl,O⟩ ht'
      obtain ⟨u,hu,rfl⟩:=ints_get hy
      have ht:=(List.getElem?_eq_some_iff.mp hu).1
      walk_at "nw"
      refine ⟨t',_,rfl,O.sqT 0,rfl,_,_,rfl,_,_,rfl,rfl,?_⟩
      have O:=O.tail
      refine ⟨_,rfl,_,rfl,?_⟩
      walk_at "w"
      intro l5 h5
      walk_at "nw"
      have u0:=Int.emod_nonneg u (show (5:Int)≠0 by decide)
      have u1:=Int.emod_lt_of_pos u (show (0:Int)<5 by decide)
      refine ⟨_,rfl,_,_,rfl,rfl,(by show (0:Int)<5;decide),?_⟩
      refine ⟨l5,_,_,_,rfl,rfl,(show SqL K _ l5 (([1,-1,0,0,0]:List Int).map V.int) from O.sq 0),bH u0 (by show u % 5<5;exact u1),_,_,rfl,rfl,_,_,rfl,_,rfl,_,rfl,?_⟩
      refine nC O 2 rfl (jU (by rw [List.length_map];omega)) fun H8 O=>?_
      have O:=O.tail
      rw [← List.map_set] at O
      exact ⟨trivial,_,_,_,rfl,by rw [List.length_set];exact hfl,O⟩
    rintro σ H6 ⟨-,v7,v8,fl,rfl,hfl,O⟩
    exact ⟨_,rfl,O.ret 1 rfl q ⟨fl,rfl,hfl⟩⟩
theorem qW {α:Type} {xs:List α} {i:Nat} {z:α} (h:xs[i]?=some z):xs.take (i + 1)=xs.take i++[z]:=by rw [List.take_succ,h];rfl
abbrev bw:Stmt:=top 30
theorem j7:aU ["found","due"] ["found","due"] (ao bw):=⟨rfl,rfl,rfl,by decide +kernel,rfl,by decide +kernel,by decide +kernel⟩
def xq (K:PySem.W.Frag) (T:eH):Sp:=fun vs H Q _=>∃ (a b:Addr) (xs:List Int),vs=[.ref a,.ref b]∧H a=some (.lst (xs.map V.int))∧SqL K H b (xs.map V.int)∧xs.length≤900∧TabsOk T H∧∀ H',bI T H H'→Q (.bl true) H'
theorem Cd {f f1:Addr} {fd fd1:FuncData} (D:Df K mg "_law_rising" bw ["found","due"] f fd) (B:Blt mg) (cY:Df K mg "_law_whole" bY ["found"] f1 fd1) (oG:cR P w K mg base CX0 1 f1 fd1 ["found"] pQ) :
    cR P w K mg base CX0 2 f fd ["found","due"] (xq K T):=by
  refine D.F.ok j7 (fun vs H Q E h=>?_) (fun cdv A outer s H vs Q E hr h=>?_)
  · obtain ⟨_,_,_,rfl,_⟩:=h;rfl
  · obtain ⟨a,b,xs,rfl,ha,hB,hn,tk,q⟩:=h
    have hu:=hr.units
    have hA:SqL K H a (xs.map V.int):=SqL.of ha
    have O:=Ow.refl tk
    refine ⟨_,(aA (iu (PW.pt (pw_or (ni (jK (aV gQ rfl B.isinstance PyProof.Rows.boot_isinstance (ak (pv 0) (ak (o7 (v:=.ty "list") rfl B.list PyProof.Rows.boot_list rfl) au))))) (pw_or1 (cu (uc hu) (pv 0) (pv 1) (dB _)))))
        (aD (bG tY))
        dz)
      (aD (bG (jO rB (aV aN rfl B.len PySem.boot_len (ak (gO (ao bw) rfl ["found","due"] rfl ["reach"] [none] (by decide +kernel) (by decide +kernel) (by decide +kernel) rfl (fu (pv 0)) (fun _ _ _=>(aO (i:=0) (show (["reach"]:List Str).Nodup by decide +kernel) rfl (Or.inl rfl))) (fun _ _ _=>(jJ (jK (aJ oG (hr.mono (by decide)) rfl cY.m cY.F.kp cY.b .nil cA (ak (pv 0) au))))) (fun _ _ _=>(pv 0))) au)) (aV aN rfl B.len PySem.boot_len (ak (pv 1) au)) (dB _))))),?_⟩
    refine Jh ?_
    intro zu0 zu1
    refine ⟨_,rfl,_,_,_,true,rfl,.lst ha,xR K,_,rfl,qw ?_⟩
    refine ⟨_,rfl,_,rfl,a,b,xs,xs,rfl,rfl,hA,hB,_,rfl,?_⟩
    rw [if_pos rfl,decide_eq_true rfl]
    refine qw ?_
    refine ⟨_,rfl,a,rfl,⟨_,hA⟩,fun acc hacc=>?_⟩
    refine iK (K:=K) (xs:=xs.map V.int) (fun i τ H'=>Iv (∃ (v0:Option V),τ=[v0]∧Ow T H H' [(acc,.lst ((xs.take i).map V.int))])) ⟨trivial,none,rfl,O.mk' hacc rfl⟩ (fun i τ H' _ ⟨_,_,_,O⟩=>O.same.seq hA) ?_ ?_
    · rintro i y τ H3 hy ⟨-,v0,rfl,O⟩
      obtain ⟨z,hz,rfl⟩:=ints_get hy
      refine ⟨_,rfl,z,rfl,_,rfl,xV ?_⟩
      refine ⟨_,rfl,_,O.get 0,bf (by rw [List.length_map,List.length_take];omega),?_⟩
      walk_at "pt"
      refine ⟨trivial,_,rfl,?_⟩
      rw [qW hz,List.map_append];exact O
    rintro τ H3 ⟨-,v0,rfl,O⟩
    rw [List.length_map,List.take_of_length_le (Nat.le_refl _)] at O
    refine ⟨acc,_,rfl,.inl (O.sq 0),_,rfl,b,_,rfl,.inl (O.same.seq hB),rfl,?_⟩
    rw [decide_eq_true rfl]
    exact q _ O.same
abbrev bx:Stmt:=top 31
theorem eG:aU ["below","reaches","lowest","reach"] ["below","reaches"] (ao bx):=⟨rfl,rfl,rfl,by decide +kernel,rfl,by decide +kernel,by decide +kernel⟩
def xG (K:PySem.W.Frag) (T:eH):Sp:=fun vs H Q _=>∃ (a b:Addr) (r xs:List Int),vs=[.ref a,.ref b]∧SqL K H a (r.map V.int)∧Rv.cN r∧r.length<64∧SqL K H b (xs.map V.int)∧TabsOk T H ∧
  iQ T H (fun ys=>ys=(Tn.asI (Rv.rE r xs r.length)).map V.int) Q
theorem Ci {f f1:Addr} {fd fd1:FuncData} (D:Df K mg "_law_lowest" bx ["below","reaches"] f fd) (B:Blt mg)
    (aK:Df K mg "_law_way" bR ["below","reach"] f1 fd1) (dH:cR P w K mg base CX0 1 f1 fd1 ["below","reach"] (jD K T)):cR P w K mg base CX0 2 f fd ["below","reaches"] (xG K T):=by
  refine D.F.ok eG (fun vs H Q E h=>?_) (fun cdv A outer s H vs Q E hr h=>?_)
  · obtain ⟨_,_,_,_,rfl,_⟩:=h;rfl
  · obtain ⟨a,b,r,xs,rfl,hA,hR,h64,hB,tk,q⟩:=h
    have hu:=hr.units
    refine ⟨_,(aA (aW (i:=2) eG.nd rfl (Or.inl rfl) (dO au))
      (aA (fH PassesOwn.never rfl (iw rfl B.range (ak (aV aN rfl B.len PySem.boot_len (ak (pv 0) au)) au)) (aO (i:=3) eG.nd rfl (Or.inl rfl))
        (aD (iu (PW.pt (pw_and (cu jP (pv 3) (pv 1) (by rfl)) (pw_and1 (cu (ud hu) (gO (ao bx) rfl ["below","reaches","lowest","reach"] rfl ["low","reaches"] [none,some 1] (by decide +kernel) (by decide +kernel) (by decide +kernel) rfl (fu (gC iW (aJ dH (hr.mono (by decide)) rfl aK.m aK.F.kp aK.b .nil cA (ak (pv 0) (ak (pv 3) au))) (gM aq) jM)) (fun _ _ _=>(aO (i:=0) (show (["low","reaches"]:List Str).Nodup by decide +kernel) rfl (Or.inl rfl))) (fun _ _ _=>(jJ (cu (kZ (K:=K) rfl) (pv 0) (pv 1) (by rfl)))) (fun _ _ _=>(pv 0))) (dO au) (dB _)))))
          (aD (fY (j8 PySem.F.plainAttrs_list PySem.F.slot_list_append PySem.F.type_list_append dD (pv 2) (ak (pv 3) au))))
          dz)))
      (aD (bG (pv 2))))),?_⟩
    refine Jg ?_
    intro zu0 zu1 zu2 zu3
    have O:=Ow.refl tk
    refine ⟨szl,fun ll hll=>?_⟩
    walk_at "nw"
    refine ⟨_,rfl,a,_,rfl,.inl (O.same.seq hA),_,rfl,by rw [List.length_map];omega,by rw [List.length_map];omega,?_⟩
    rw [List.length_map,Int.toNat_natCast]
    refine nM (n:=r.length) (fun i σ H2=>Iv (∃ (v:Option V),σ=[some (.ref a),some (.ref b),some (.ref ll),v]∧Ow T H H2 [(ll,.lst ((Tn.asI (Rv.rE r xs i)).map V.int))])) ⟨trivial,none,rfl,O⟩ ?_ ?_
    · rintro i σ H2 hi ⟨-,v,rfl,O⟩
      have hll2:=Rv.mj r xs i
      refine ⟨_,rfl,_,rfl,b,_,rfl,.inl (O.same.seq hB),rfl,gn _,_,rfl,?_⟩
      rw [show (0:Int) + (i:Int)=(i:Int) by omega,if_neg Bool.false_ne_true,jX]
      refine ifD (fun h1=>?_) fun h1=>qw ⟨trivial,_,rfl,by rw [Rv.jR,if_neg (show ¬ Rv.ur r xs (i:Int)=true from fun z=>h1 (Rv.Cu z)),List.append_nil];exact O⟩
      refine ⟨_,rfl,_,rfl,a,r,(i:Int),rfl,O.same.seq hA,hR,by omega,by omega,by omega,O.same.t1,O.mC fun lw H4 ws O e=>?_⟩
      subst e
      refine ⟨1,rfl,lw,_,rfl,O.sq 0,fun l2 hl2=>?_⟩
      walk_at "nw"
      rw [show oM ((Rv.walk r (i:Int)).map V.int) (some 1) none=((Rv.walk r (i:Int)).drop 1).map V.int from L2.qH _ 1] at O
      generalize hwd:(Rv.walk r (i:Int)).drop 1=wd at O
      have hwl:wd.length≤64:=by rw [← hwd,List.length_drop];have:=Rv.ju r (i:Int);omega
      refine ⟨l2,rfl,⟨_,O.sq 0⟩,fun acc hacc=>?_⟩
      refine iK (K:=K) (xs:=wd.map V.int) (fun j τ H'=>Iv (∃ (v0:Option V),τ=[v0,some (.ref b)]∧Ow T H H' [(acc,.lst (((wd.take j).filter fun x=>decide (x∈xs)).map V.int)),(l2,.lst (wd.map V.int)),(lw,.lst ((Rv.walk r (i:Int)).map V.int)),(ll,.lst ((Tn.asI (Rv.rE r xs i)).map V.int))])) ⟨trivial,none,rfl,O.mk' hacc rfl⟩ (fun j τ H' _ ⟨_,_,_,O⟩=>O.sq 1) ?_ ?_
      · rintro j y τ H5 hy ⟨-,v0,rfl,O⟩
        obtain ⟨z,hz,rfl⟩:=ints_get hy
        have hj:=(List.getElem?_eq_some_iff.mp hz).1
        have hfl:=List.length_filter_le (fun x=>decide (x∈xs)) (wd.take j)
        rw [List.length_take] at hfl
        have hfil:(wd.take (j + 1)).filter (fun x=>decide (x∈xs))=(wd.take j).filter (fun x=>decide (x∈xs))++(if z∈xs then [z] else []):=by
          rw [Tn.dY hz,List.filter_append]
          congr 1
          rw [List.filter_cons,List.filter_nil]
          by_cases c:z∈xs
          · rw [if_pos c,if_pos (decide_eq_true c)]
          · rw [if_neg c,if_neg (by rw [decide_eq_true_iff];exact c)]
        refine ⟨_,rfl,_,rfl,b,_,rfl,.inl (O.same.seq hB),rfl,gn _,_,rfl,?_⟩
        rw [if_neg Bool.false_ne_true,jX]
        refine ifD (fun c=>?_) fun c=>⟨trivial,_,rfl,by rw [hfil,if_neg c,List.append_nil];exact O⟩
        refine ⟨_,rfl,_,O.get 0,bf (by rw [List.length_map];omega),?_⟩
        walk_at "pt"
        refine ⟨trivial,_,rfl,?_⟩
        rw [hfil,if_pos c,List.map_append];exact O
      rintro τ H5 ⟨-,v0,rfl,O⟩
      rw [List.length_map,List.take_of_length_le (Nat.le_refl _)] at O
      refine ⟨szl,fun l3 hl3=>?_⟩
      walk_at "nw"
      refine ⟨acc,l3,wd.filter (fun x=>decide (x∈xs)),[],rfl,rfl,O.sq 1,O.sq 0,_,rfl,?_⟩
      rw [if_neg Bool.false_ne_true]
      have O:=(((O.tail).tail).tail).tail
      have em:Rv.iz ((Rv.walk r (i:Int)).drop 1) xs=true↔¬ wd.filter (fun x=>decide (x∈xs))=[]:=by
        rw [hwd]
        unfold Rv.iz
        rw [List.filter_eq_nil_iff,List.any_eq_true]
        exact ⟨fun ⟨x,hx,hp⟩ h=>h x hx hp,fun h=>Classical.byContradiction fun n=>h fun x hx hp=>n ⟨x,hx,hp⟩⟩
      have eb:Rv.ur r xs (i:Int)=!Rv.iz ((Rv.walk r (i:Int)).drop 1) xs:=by unfold Rv.ur;rw [decide_eq_true h1,Bool.true_and]
      refine ifD (fun h2=>?_) fun h2=>?_
      · have e:Rv.ur r xs (i:Int)=true:=by
          rw [eb]
          cases hm:Rv.iz ((Rv.walk r (i:Int)).drop 1) xs with
          | true=>exact absurd h2 (em.mp hm)
          | false=>rfl
        refine ⟨_,rfl,.inl ⟨rfl,_,O.sq 0⟩,_,rfl,ll,_,_,rfl,rfl,O.get 0,bf (by rw [List.length_map,Tn.gG];omega),?_⟩
        walk_at "pt"
        refine ⟨trivial,_,rfl,?_⟩
        rw [Rv.jR,if_pos e,j5];exact O
      · refine ⟨trivial,_,rfl,?_⟩
        rw [Rv.jR,if_neg (by rw [eb,em.mpr h2];decide),List.append_nil];exact O
    rintro σ H2 ⟨-,v,rfl,O⟩
    exact ⟨_,rfl,O.ret 0 rfl q rfl⟩
abbrev jH:Stmt:=top 32
theorem dZ:aU ["script","below","far","roll","takes","drawn","cell","one","take","springs","free","due","handed","found","lowest"] ["script"] (ao jH):=⟨rfl,rfl,rfl,by decide +kernel,rfl,by decide +kernel,by decide +kernel⟩
def pY (K:PySem.W.Frag) (T:eH):Sp:=fun vs H Q _=>∃ (a:Addr) (ns:List Int),vs=[.ref a]∧SqL K H a (ns.map V.int)∧ns.length≤63∧TabsOk T H∧∀ H',Q (.bl true) H'
theorem wY {P:Lic→Prop} {ls:List Lic} {l:Lic} (h:∀ l∈ls,P l) (hl:P l):∀ x∈ls++[l],P x:=fun x hx=>by
  rcases List.mem_append.mp hx with e | e
  · exact h x e
  · have:x=l:=by simpa using e
    rw [this];exact hl
theorem Sh.five {n:Nat} {a b c d e:PyData} (h1:Sh n a) (h2:Sh n b) (h3:Sh n c) (h4:Sh n d) (h5:Sh n e):Sh (n + 1) (.list [a,b,c,d,e]):=.list fun x hx=>by
  simp only [List.mem_cons,List.not_mem_nil,or_false] at hx
  rcases hx with rfl | rfl | rfl | rfl | rfl
  · exact h1
  · exact h2
  · exact h3
  · exact h4
  · exact h5
theorem Bl (xs:List Int) (z:Int):oM ((xs++[z]).map V.int) none (some (-1))=xs.map V.int:=by
  unfold oM
  rw [HT.p7,List.drop_zero,Nat.sub_zero]
  have e:HT.sIx ((xs++[z]).map V.int).length ((xs++[z]).map V.int).length (some (-1))=(xs.map V.int).length:=by
    show (if (-1:Int)<0 then ((-1:Int) + (((xs++[z]).map V.int).length:Int)).toNat else min (-1:Int).toNat ((xs++[z]).map V.int).length)=_
    rw [if_pos (by decide),List.length_map,List.length_map,List.length_append]
    simp
    omega
  rw [e,List.map_append,List.take_left']
  rfl
theorem Cj {f f1 f2 f3 f4 f5 f6 f7 f8 f9 f10:Addr} {fd fd1 fd2 fd3 fd4 fd5 fd6 fd7 fd8 fd9 fd10:FuncData} (D:Df K mg "law" jH ["script"] f fd) (B:Blt mg)
    (aH:Df K mg "_law_cell_at" bF ["script","k"] f1 fd1) (dN:cR P w K mg base CX0 1 f1 fd1 ["script","k"] (sW K))
    (cZ:Df K mg "_law_river" bN ["cell"] f2 fd2) (oH:cR P w K mg base CX0 3 f2 fd2 ["cell"] (pW T))
    (cD:Df K mg "_law_springs" bD ["cell","below","roll","takes"] f3 fd3) (kE:cR P w K mg base CX0 3 f3 fd3 ["cell","below","roll","takes"] (xg K T))
    (dg:Df K mg "_law_drawn" bZ ["cell","below","far","great"] f4 fd4) (oJ:cR P w K mg base CX0 3 f4 fd4 ["cell","below","far","great"] (sV K T))
    (dI:Df K mg "_law_free" cG ["below","springs","roll","takes"] f5 fd5) (pJ:cR P w K mg base CX0 3 f5 fd5 ["below","springs","roll","takes"] (xH K T))
    (aF:Df K mg "_law_mixed" aQ ["cell","many"] f6 fd6) (cJ:cR P w K mg base CX0 2 f6 fd6 ["cell","many"] jE)
    (dW:Df K mg "dry_of" dU ["below","springs","roll","takes"] f7 fd7) (qP:cR P w K mg base CX0 8 f7 fd7 ["below","springs","roll","takes"] (xJ K T))
    (aP:Df K mg "_law_rising" bw ["found","due"] f8 fd8) (fG:cR P w K mg base CX0 2 f8 fd8 ["found","due"] (xq K T))
    (aZ:Df K mg "lowest_of" cj ["below","reaches"] f9 fd9) (gR:cR P w K mg base CX0 2 f9 fd9 ["below","reaches"] (mY K T))
    (bB:Df K mg "_law_lowest" bx ["below","reaches"] f10 fd10) (iT:cR P w K mg base CX0 2 f10 fd10 ["below","reaches"] (xG K T)):cR P w K mg base CX0 9 f fd ["script"] (pY K T):=by
  refine D.F.ok dZ (fun vs H Q E h=>?_) (fun cdv A outer s H vs Q E hr h=>?_)
  · obtain ⟨_,_,rfl,_⟩:=h;rfl
  · obtain ⟨a,ns,rfl,hS,hlen,tk,k⟩:=h
    have hu:=hr.units
    refine ⟨_,(aA (aW (i:=1) dZ.nd rfl (Or.inl rfl) (aJ oH (hr.mono (by decide)) rfl cZ.m cZ.F.kp cZ.b .nil cA (ak (aJ dN (hr.mono (by decide)) rfl aH.m aH.F.kp aH.b .nil cA (ak (pv 0) (ak aq au))) au)))
      (aA (aW (i:=2) dZ.nd rfl (Or.inl rfl) (aM dG aq (aM cM (aJ dN (hr.mono (by decide)) rfl aH.m aH.F.kp aH.b .nil cA (ak (pv 0) (ak aq au))) aq)))
      (aA (aW (i:=3) dZ.nd rfl (Or.inl rfl) (dO au))
      (aA (aW (i:=4) dZ.nd rfl (Or.inl rfl) (dO au))
      (aA (aW (i:=5) dZ.nd rfl (Or.inl rfl) (dO au))
      (aA (fH PassesOwn.never rfl (fu (gC iW (pv 0) (gM aq) (gM aq))) (aO (i:=6) dZ.nd rfl (Or.inl rfl))
        (aA (jL (aJ oJ (hr.mono (by decide)) rfl dg.m dg.F.kp dg.b .nil cA (ak (pv 6) (ak (pv 1) (ak (pv 2) (ak (jO rB (aM cM (aM iZ (aJ dN (hr.mono (by decide)) rfl aH.m aH.F.kp aH.b .nil cA (ak (pv 0) (ak aq au))) aq) aq) aq (dB _)) au))))) (jm rfl (aX (aO (i:=7) dZ.nd rfl (Or.inl rfl)) (aX (aO (i:=8) dZ.nd rfl (Or.inl rfl)) fB))))
        (aA (fY (j8 PySem.F.plainAttrs_list PySem.F.slot_list_append PySem.F.type_list_append dD (pv 3) (ak (pv 7) au)))
        (aA (fY (j8 PySem.F.plainAttrs_list PySem.F.slot_list_append PySem.F.type_list_append dD (pv 4) (ak (pv 8) au)))
        (aD (fY (j8 PySem.F.plainAttrs_list PySem.F.slot_list_append PySem.F.type_list_append dD (pv 5) (ak (aM cM (bA aG (aJ cJ (hr.mono (by decide)) rfl aF.m aF.F.kp aF.b .nil cA (ak (aM dG (pv 6) aq) (ak aq au))) aq (fun _ _=>rfl)) (aV aN rfl B.len PySem.boot_len (ak (pv 1) au))) au))))))))
      (aA (aW (i:=9) dZ.nd rfl (Or.inl rfl) (aJ kE (hr.mono (by decide)) rfl cD.m cD.F.kp cD.b .nil cA (ak (aJ dN (hr.mono (by decide)) rfl aH.m aH.F.kp aH.b .nil cA (ak (pv 0) (ak aq au))) (ak (pv 1) (ak (pv 3) (ak (pv 4) au))))))
      (aA (aW (i:=10) dZ.nd rfl (Or.inr rfl) (aJ pJ (hr.mono (by decide)) rfl dI.m dI.F.kp dI.b .nil cA (ak (pv 1) (ak (pv 9) (ak (pv 3) (ak (pv 4) au))))))
      (aA (kY (i:=11) (ao jH) rfl ["script","below","far","roll","takes","drawn","cell","one","take","springs","free","due","handed","found","lowest"] rfl ["reach","free"] [none,some 10] (by decide +kernel) (by decide +kernel) (by decide +kernel) rfl dZ.nd rfl rfl (iw rfl B.range (ak (aV aN rfl B.len PySem.boot_len (ak (pv 1) au)) au)) (fun _ _ _=>(aO (i:=0) (show (["reach","free"]:List Str).Nodup by decide +kernel) rfl (Or.inl rfl))) (fun _ _ _=>(jJ (cu rB (bA (qu (K:=K) rfl) (pv 1) (pv 0) (fun _ _=>rfl)) aq (dB _)))) (fun _ _ _=>(pv 0)) rfl)
      (aA (aW (i:=12) dZ.nd rfl (Or.inl rfl) (dO (ak (eO cQ rfl B.list PyProof.Rows.boot_list (ak (pv 1) au)) (ak (eO cQ rfl B.list PyProof.Rows.boot_list (ak (pv 9) au)) (ak (eO cQ rfl B.list PyProof.Rows.boot_list (ak (pv 3) au)) (ak (eO cQ rfl B.list PyProof.Rows.boot_list (ak (pv 4) au)) (ak (eO cQ rfl B.list PyProof.Rows.boot_list (ak (pv 5) au)) au)))))))
      (aA (aW (i:=13) dZ.nd rfl (Or.inl rfl) (aJ qP (hr.mono (by decide)) rfl dW.m dW.F.kp dW.b .nil cA (ak (bA aG (pv 12) aq (fun _ _=>rfl)) (ak (bA aG (pv 12) aq (fun _ _=>rfl)) (ak (bA aG (pv 12) aq (fun _ _=>rfl)) (ak (bA aG (pv 12) aq (fun _ _=>rfl)) au))))))
      (aA (iu (ni (jK (aJ fG (hr.mono (by decide)) rfl aP.m aP.F.kp aP.b .nil cA (ak (pv 13) (ak (pv 11) au)))))
        (aD (bG tY))
        dz)
      (aA (iu (PW.pt (pw_or (ni (jK (aJ fG (hr.mono (by decide)) rfl aP.m aP.F.kp aP.b .nil cA (ak (aJ gR (hr.mono (by decide)) rfl aZ.m aZ.F.kp aZ.b .nil cA (ak (bA aG (pv 12) aq (fun _ _=>rfl)) (ak (pv 13) au))) (ak (aJ iT (hr.mono (by decide)) rfl bB.m bB.F.kp bB.b .nil cA (ak (pv 1) (ak (pv 11) au))) au))))) (pw_or1 (cu (uc hu) (pv 13) (pv 11) (dB _)))))
        (aD (bG tY))
        dz)
      (aA (aW (i:=14) dZ.nd rfl (Or.inl rfl) (aJ gR (hr.mono (by decide)) rfl aZ.m aZ.F.kp aZ.b .nil cA (ak (bA aG (pv 12) aq (fun _ _=>rfl)) (ak (bA aG (pv 12) aq (fun _ _=>rfl)) au))))
      (aA (iu (ni (jK (aJ fG (hr.mono (by decide)) rfl aP.m aP.F.kp aP.b .nil cA (ak (pv 14) (ak (aJ iT (hr.mono (by decide)) rfl bB.m bB.F.kp bB.b .nil cA (ak (pv 1) (ak (pv 5) au))) au)))))
        (aD (bG tY))
        dz)
      (aA (fY (j8 PySem.F.plainAttrs_list PySem.F.slot_list_append PySem.F.type_list_append dD (pv 13) (ak (jN fO aq) au)))
      (aA (fY (j8 PySem.F.plainAttrs_list PySem.F.slot_list_append PySem.F.type_list_append dD (pv 14) (ak (jN fO aq) au)))
      (aA (iu (PW.pt (pw_or (cu (xP hu) (pv 12) (dO (ak (pv 1) (ak (pv 9) (ak (pv 3) (ak (pv 4) (ak (pv 5) au)))))) (dB _)) (pw_or1 (cu (uc hu) (aJ gR (hr.mono (by decide)) rfl aZ.m aZ.F.kp aZ.b .nil cA (ak (bA aG (pv 12) aq (fun _ _=>rfl)) (ak (bA aG (pv 12) aq (fun _ _=>rfl)) au))) (gC iW (pv 14) jM (gM (jN fO aq))) (dB _)))))
        (aD (bG tY))
        dz)
      (aD (bG (xO (jO (ud hu) (aJ qP (hr.mono (by decide)) rfl dW.m dW.F.kp dW.b .nil cA (ak (bA aG (pv 12) aq (fun _ _=>rfl)) (ak (bA aG (pv 12) aq (fun _ _=>rfl)) (ak (bA aG (pv 12) aq (fun _ _=>rfl)) (ak (bA aG (pv 12) aq (fun _ _=>rfl)) au))))) (pv 11) (dB _)) (xM (jO (ud hu) (pv 13) (aM BX (pv 11) (dO (ak (jN fO aq) au))) (dB _)))))))))))))))))))))))),?_⟩
    refine GF ?_
    intro zu0 zu1 zu2 zu3 zu4 zu5 zu6 zu7 zu8 zu9 zu10 zu11 zu12 zu13 zu14 zu15 zu16 zu17 zu18 zu19 zu20 zu21 zu22 zu23 zu24 zu25
    have O:=Ow.refl tk
    have s0:=O.same
    refine ⟨_,rfl,a,ns,0,rfl,hS,_,rfl,tk,O.mC fun lv H1 rs O e=>?_⟩
    obtain ⟨r,rfl,hR,r1,r40⟩:=e
    have hml:(r.map V.int).length=r.length:=List.length_map _
    refine ⟨_,rfl,a,ns,1,rfl,O.same.seq hS,_,_,rfl,rfl,(by show (0:Int)<333333;decide),_,_,rfl,rfl,?_⟩
    dsimp only
    generalize 1 + ns.getD 1 0 % 333333=far
    refine ⟨szl,fun lr hlr=>?_⟩
    walk_at "nw"
    refine ⟨szl,fun lc hlc=>?_⟩
    walk_at "nw"
    refine ⟨szl,fun ld hld=>?_⟩
    walk_at "nw"
    refine ⟨_,rfl,3,rfl,61,rfl,a,_,rfl,O.same.seq hS,fun lq hlq=>?_⟩
    walk_at "nw"
    rw [show oM (ns.map V.int) (some 3) (some 61)=((ns.drop 3).take 58).map V.int from Ge ns 3 61] at O
    have hql:((ns.drop 3).take 58).length≤58:=by rw [List.length_take];omega
    generalize (ns.drop 3).take 58=qs at O hql
    refine ⟨lq,rfl,⟨_,O.sq 0⟩,?_⟩
    refine iI (K:=K) (xs:=qs.map V.int) (fun i σ H'=>Iv (∃ (Hb:Hp) (vs:List V) (ls:List Lic) (cs ds:List Int) (v6 v7 v8:Option V),σ=[some (.ref a),some (.ref lv),some (.int far),some (.ref lr),some (.ref lc),some (.ref ld),v6,v7,v8,none,none,none,none,none,none] ∧
      Ow T Hb H' [(lq,.lst (qs.map V.int)),(ld,.lst (ds.map V.int)),(lc,.lst (cs.map V.int)),(lr,.lst vs),(lv,.lst (r.map V.int))]∧bI T H Hb∧eF K Hb vs (ls.map zQ)∧ls.length=i∧cs.length=i∧ds.length=i∧(∀ x∈ds,0≤x∧x<(r.length:Int))∧∀ l∈ls,qO r l))
      ⟨trivial,H,[],[],[],[],none,none,none,rfl,O,s0,.nil,rfl,rfl,rfl,(fun x hx=>nomatch hx),fun l hl=>nomatch hl⟩ (fun i σ H' _ ⟨_,_,_,_,_,_,_,_,_,_,O,_⟩=>O.sq 0) ?_ ?_
    · rintro i y σ H4 hy ⟨-,Hb,vs,ls,cs,ds,v6,v7,v8,rfl,O,s0,d0,hli,hci,hdi,hds,hok⟩
      obtain ⟨z,hz,rfl⟩:=ints_get hy
      have hi:=(List.getElem?_eq_some_iff.mp hz).1
      have hvl:vs.length=ls.length:=by rw [d0.length,List.length_map]
      refine ⟨_,rfl,_,rfl,_,rfl,_,rfl,a,ns,1,rfl,(s0.trans O.same).seq hS,_,_,rfl,rfl,⟨by decide,by decide⟩,_,_,rfl,rfl,(by show (0:Int)<2;decide),rfl,lv,r,z,far,_,rfl,O.sq 4,hR,r1,by omega,O.same.t1,fun t t2 H5 l ca OD l0=>?_⟩
      have O:=O.join OD
      walk_at "jn"
      refine ⟨t,_,rfl,O.sqT 0,rfl,_,_,rfl,_,_,rfl,rfl,?_⟩
      have O:=O.tail
      walk_at "w"
      walk_at "app"
      walk_at "w"
      walk_at "app"
      rw [iB] at O
      obtain ⟨Hn2,O,sn,en⟩:=O.Iw 0
      walk_at "mo"
      refine ⟨_,rfl,.inl ⟨rfl,_,O.sq 1⟩,_,rfl,_,_,rfl,rfl,_,1,rfl,by omega,by omega,O.got fun lx H6 xs O e=>?_⟩
      obtain ⟨ys,rfl,hy⟩:=e
      have hyl:ys.length=1:=by rw [hy,iJ];rfl
      clear hy
      have p0:=Int.emod_nonneg (ys.getD (0:Int).toNat 0) (show (r.length:Int)≠0 by omega)
      have p1:=Int.emod_lt_of_pos (ys.getD (0:Int).toNat 0) (show (0:Int)<(r.length:Int) by omega)
      refine ⟨lx,_,0,_,rfl,rfl,O.sq 0,bH (by omega) (by omega),_,rfl,lv,_,rfl,.inl (O.sq 5),_,_,rfl,rfl,(by rw [hml];omega),?_⟩
      dsimp only
      rw [hml]
      generalize ys.getD (0:Int).toNat 0 % (r.length:Int)=nd at p0 p1
      refine ⟨ld,_,_,rfl,rfl,O.get 2,bf (by rw [List.length_map];omega),?_⟩
      walk_at "pt"
      rw [iB] at O
      refine ⟨trivial,Hn2,vs++[.ref t2],ls++[l],cs++[ca],ds++[nd],_,_,_,rfl,O.tail,s0,?_,by rw [List.length_append,hli];rfl,by rw [List.length_append,hci];rfl,by rw [List.length_append,hdi];rfl,fun x hx=>?_,wY hok l0⟩
      · rw [List.map_append]
        exact d0.append (.cons (Den.lic (SqT.of en)) .nil)
      · rcases List.mem_append.mp hx with e | e
        · exact hds x e
        · have:x=nd:=by simpa using e
          rw [this];exact ⟨p0,p1⟩
    rintro σ H4 ⟨-,Hb,vs,ls,cs,ds,v6,v7,v8,rfl,O,s0,d0,hli,hci,hdi,hds,hok⟩
    rw [List.length_map] at hli hci hdi
    have hvl:vs.length=ls.length:=by rw [d0.length,List.length_map]
    have O:=O.tail
    have hlc:ls.length=cs.length:=by omega
    have hok1:∀ l∈ls,kh r l:=fun l hl=>(hok l hl).1
    refine ⟨_,rfl,a,ns,2,rfl,(s0.trans O.same).seq hS,_,rfl,_,rfl,_,rfl,lv,lr,lc,_,r,cs,vs,ls,rfl,O.sq 3,by omega,O.sq 2,d0.mo O.same,O.sq 1,by omega,hok,O.same.t1,O.mC fun lg H5 ys O e=>?_⟩
    obtain ⟨sp,rfl,hsl⟩:=e
    refine ⟨_,rfl,_,rfl,_,rfl,_,rfl,lv,lg,lr,lc,r,sp,cs,vs,ls,rfl,O.sq 4,hR,by omega,O.sq 0,hsl,O.sq 3,d0.mo O.same,O.sq 2,by omega,hok,O.same.t1,O.mC fun lf H6 ys O e=>?_⟩
    obtain ⟨fl,rfl,FL⟩:=e
    have hfl:=FL.len
    have efl:mF r sp ls cs=fl:=by
      refine List.ext_getElem (by rw [gk,hfl]) fun i h1 h2=>?_
      rw [gk] at h1
      have e1:=wL (s:=sp) hR hok1 hlc h1
      have e2:=FL.getD h1
      rw [Rv.uK (by omega) (by omega)] at e1
      rw [List.getD_eq_getElem?_getD,List.getElem?_eq_getElem (by rw [gk];exact h1)] at e1
      rw [List.getD_eq_getElem?_getD,List.getElem?_eq_getElem h2] at e2
      exact e1.trans e2.symm
    /- due -/
    refine ⟨_,rfl,lv,_,rfl,.inl (O.sq 5),_,rfl,by rw [hml];omega,by rw [hml];omega,fun lu hlu=>?_⟩
    rw [hml,Int.toNat_natCast]
    refine jf (fun i τ H'=>Iv (∃ (v0:Option V),τ=[v0,some (.ref lf)]∧Ow T Hb H' [(lu,.lst ((Tn.asI (fM fl i)).map V.int)),(lf,.lst (fl.map V.int)),(lg,.lst (sp.map V.int)),(ld,.lst (ds.map V.int)),(lc,.lst (cs.map V.int)),(lr,.lst vs),(lv,.lst (r.map V.int))]))
      ⟨trivial,none,rfl,O.mk' hlu rfl⟩ ?_ ?_
    · rintro i τ H7 hi ⟨-,v0,rfl,O⟩
      rw [show (0:Int) + (i:Int)=(i:Int) by omega]
      have hzl:=iU fl i
      refine ⟨_,rfl,_,rfl,lf,_,_,_,rfl,rfl,O.sq 1,fC (iH (ns:=fl) (k:=i) (by omega)),rfl,_,rfl,ifI (fun h1=>?_) fun h1=>⟨trivial,_,rfl,by rw [eX,if_neg h1,List.append_nil];exact O⟩⟩
      refine ⟨_,rfl,_,O.get 0,bf (by rw [List.length_map,Tn.gG];omega),?_⟩
      walk_at "pt"
      refine ⟨trivial,_,rfl,?_⟩
      rw [eX,if_pos h1,j5];exact O
    rintro τ H7 ⟨-,v0,rfl,O⟩
    have hzr:∀ x∈Tn.asI (fM fl r.length),0≤x∧x<(r.length:Int):=fun x hx=>by
      obtain ⟨j,hj,rfl⟩:=List.mem_map.mp hx
      have:=List.mem_range.mp (List.mem_filter.mp hj).1
      omega
    have hzn:(Tn.asI (fM fl r.length)).length≤40:=by have:=iU fl r.length;rw [Tn.gG];omega
    /- handed -/
    refine ⟨_,rfl,lv,_,rfl,.inl (O.sq 6),fun la hla=>?_⟩
    walk_at "nw"
    refine ⟨_,rfl,lg,_,rfl,.inl (O.sq 3),fun lj hlj=>?_⟩
    walk_at "nw"
    refine ⟨_,rfl,lr,_,rfl,.inl (O.sq 7),fun lb hlb=>?_⟩
    walk_at "nw"
    refine ⟨_,rfl,lc,_,rfl,.inl (O.sq 7),fun le hle=>?_⟩
    walk_at "nw"
    refine ⟨_,rfl,ld,_,rfl,.inl (O.sq 7),fun lw hlw=>?_⟩
    walk_at "nw"
    refine ⟨szl,fun lh hlh=>?_⟩
    walk_at "nw"
    /- found -/
    refine ⟨_,rfl,lh,_,0,_,rfl,rfl,O.sq 0,rfl,_,rfl,lh,_,1,_,rfl,rfl,O.sq 0,rfl,_,rfl,lh,_,2,_,rfl,rfl,O.sq 0,rfl,_,rfl,lh,_,3,_,rfl,rfl,O.sq 0,rfl,?_⟩
    refine ⟨la,lj,le,.ref lb,r,sp,ls,cs,rfl,⟨O.sq 5,hR,by omega⟩,O.sq 4,hsl,.list (O.sq 3) (d0.mo O.same),O.sq 2,hlc,hok1,O.same.t1,O.mC fun lF H8 ys O e=>?_⟩
    rw [efl] at e
    subst e
    generalize hF:Tn.asI (fM fl r.length)=F at O hzr hzn
    refine ⟨_,rfl,_,rfl,lF,lu,F,rfl,O.get 0,O.sq 7,by omega,O.same.t1,fun H9 sm=>?_⟩
    have O:=O.rJ sm
    refine ⟨_,rfl,qw ?_⟩
    refine ⟨_,rfl,lh,_,0,_,rfl,rfl,O.sq 1,rfl,_,rfl,la,lF,r,F,rfl,⟨O.sq 6,hR,by omega⟩,O.sq 0,by omega,hzr,O.same.t1,O.mC fun l1 H10 ys O e=>?_⟩
    subst e
    refine ⟨_,rfl,_,rfl,lv,lu,r,F,rfl,O.sq 14,hR,by omega,O.sq 8,O.same.t1,O.mC fun l2 H11 ys O e=>?_⟩
    subst e
    have hl1:=Rv.mj r F r.length
    refine ⟨l1,l2,_,rfl,O.get 1,O.sq 0,by rw [Tn.gG];omega,O.same.t1,fun H12 sm=>?_⟩
    have O:=(O.rJ sm).two.tail
    refine ⟨_,rfl,qw ?_⟩
    refine ⟨_,rfl,_,rfl,lF,lu,F,F,rfl,rfl,O.sq 0,O.sq 7,_,rfl,?_⟩
    rw [if_pos rfl,decide_eq_true rfl]
    refine qw ?_
    /- lowest of the drawn ones -/
    refine ⟨_,rfl,lh,_,0,_,rfl,rfl,O.sq 1,rfl,_,rfl,lh,_,4,_,rfl,rfl,O.sq 1,rfl,la,lw,r,ds,rfl,⟨O.sq 6,hR,by omega⟩,O.sq 2,by omega,hds,O.same.t1,O.mC fun lL H13 ys O e=>?_⟩
    subst e
    refine ⟨_,rfl,_,rfl,_,rfl,lv,ld,r,ds,rfl,O.sq 14,hR,by omega,O.sq 11,O.same.t1,O.mC fun l3 H14 ys O e=>?_⟩
    subst e
    have hl2:=Rv.mj r ds r.length
    have hlL:(Tn.asI (Rv.rE r ds r.length)).length≤40:=by rw [Tn.gG];omega
    generalize hG:Tn.asI (Rv.rE r ds r.length)=G at O hlL
    refine ⟨lL,l3,G,rfl,O.get 1,O.sq 0,by omega,O.same.t1,fun H15 sm=>?_⟩
    have O:=(O.rJ sm).tail
    refine ⟨_,rfl,qw ?_⟩
    refine ⟨_,rfl,.inl ⟨rfl,_,O.sq 1⟩,1,rfl,lF,_,_,rfl,rfl,O.get 1,bf (by rw [List.length_map];omega),?_⟩
    walk_at "pt"
    rw [iB] at O
    refine ⟨_,rfl,.inl ⟨rfl,_,O.sq 0⟩,1,rfl,lL,_,_,rfl,rfl,O.get 0,bf (by rw [List.length_map];omega),?_⟩
    walk_at "pt"
    rw [iB] at O
    have hsh:Sh 3 (.list [je r,je sp,rH ls,je cs,je ds]):=Sh.five (Sh.ints 1 r) (Sh.ints 1 sp) (Sh.roll 0 ls) (Sh.ints 1 cs) (Sh.ints 1 ds)
    have dh:∀ (H':Hp) (x u t v w y:Addr),bI T Hb H'→SqL K H' x [.ref u,.ref t,.ref v,.ref w,.ref y]→SqL K H' u (r.map V.int)→SqL K H' t (sp.map V.int)→SqL K H' v vs→SqL K H' w (cs.map V.int)→SqL K H' y (ds.map V.int)→Den K H' (.ref x) (.list [je r,je sp,rH ls,je cs,je ds]) :=
      fun H' x u t v w y sm h1 h2 h5 h3 h4 h6=>.list h1 (.cons (Den.ints h2) (.cons (Den.ints h5) (.cons (.list h3 (d0.mo sm)) (.cons (Den.ints h4) (.cons (Den.ints h6) .nil)))))
    refine ⟨_,rfl,_,rfl,_,rfl,_,rfl,_,rfl,_,rfl,szl,fun l9 h9=>?_⟩
    walk_at "nw"
    refine ⟨_,_,dh _ lh la lj lb le lw O.same (O.sq 3) (O.sq 8) (O.sq 7) (O.sq 6) (O.sq 5) (O.sq 4),dh _ l9 lv lg lr lc ld O.same (O.sq 0) (O.sq 15) (O.sq 11) (O.sq 14) (O.sq 13) (O.sq 12),hsh.ok (by decide),hsh.ok (by decide),?_⟩
    have O:=O.tail
    refine ⟨_,rfl,?_⟩
    rw [if_pos rfl,wN hsh]
    refine qw ?_
    refine ⟨_,rfl,lh,_,0,_,rfl,rfl,O.sq 2,rfl,_,rfl,lh,_,4,_,rfl,rfl,O.sq 2,rfl,la,lw,r,ds,rfl,⟨O.sq 7,hR,by omega⟩,O.sq 3,by omega,hds,O.same.t1,O.mC fun l5 H16 ys O e=>?_⟩
    rw [hG] at e
    subst e
    refine ⟨_,rfl,1,rfl,-1,rfl,lL,_,rfl,O.sq 1,fun l6 h6=>?_⟩
    walk_at "nw"
    rw [Bl] at O
    refine ⟨l5,l6,G,G,rfl,rfl,O.sq 1,O.sq 0,_,rfl,?_⟩
    rw [if_pos rfl,decide_eq_true rfl]
    refine qw ?_
    have O:=O.tail.tail
    refine ⟨_,rfl,lh,_,0,_,rfl,rfl,O.sq 2,rfl,_,rfl,lh,_,1,_,rfl,rfl,O.sq 2,rfl,_,rfl,lh,_,2,_,rfl,rfl,O.sq 2,rfl,_,rfl,lh,_,3,_,rfl,rfl,O.sq 2,rfl,la,lj,le,.ref lb,r,sp,ls,cs,rfl,⟨O.sq 7,hR,by omega⟩,O.sq 6,hsl,.list (O.sq 5) (d0.mo O.same),O.sq 4,hlc,hok1,O.same.t1,O.mC fun lD H17 ys O e=>?_⟩
    rw [efl,hF] at e
    subst e
    refine ⟨_,rfl,lD,lu,F,F,rfl,rfl,O.sq 0,O.sq 9,?_⟩
    refine ⟨_,rfl,?_⟩
    rw [if_neg Bool.false_ne_true,decide_eq_true rfl]
    refine xV ?_
    refine ⟨_,rfl,_,rfl,1,rfl,szl,fun l7 h7=>?_⟩
    walk_at "nw"
    refine ⟨lu,l7,_,_,rfl,rfl,O.get 10,O.get 0,gB (by simp only [List.length_map,List.length_cons,List.length_nil];omega),fun l8 h8=>?_⟩
    walk_at "nw"
    rw [iB] at O
    refine ⟨lF,l8,F++[-1],F++[-1],rfl,rfl,O.sq 4,O.sq 0,?_⟩
    rw [if_neg Bool.false_ne_true,decide_eq_true rfl]
    exact k _
theorem qL {K:PySem.W.Frag} {x qual:Str} {st:Stmt} {f:Addr} {fd:FuncData} {n0:Str} (F:Fun K x qual st f fd) (h:∀ (kV doc pm:Value) (an:Option Addr) (cdv ct u0:Value),bindArgs (PySem.W.fnOf x qual (aC st) (aB st) (ao st) .none kV doc pm an cdv ct) ⟨[u0],[]⟩=pure (([n0]:List Str).zip [u0])):Binds K fd [n0] [] :=
  F.binds (ps:=[n0]) fun kV doc pm an cdv ct us hl=>match us,hl with | [u0],_=>h kV doc pm an cdv ct u0
theorem fL {K:PySem.W.Frag} {x qual:Str} {st:Stmt} {f:Addr} {fd:FuncData} {n0 n1:Str} (F:Fun K x qual st f fd) (h:∀ (kV doc pm:Value) (an:Option Addr) (cdv ct u0 u1:Value),bindArgs (PySem.W.fnOf x qual (aC st) (aB st) (ao st) .none kV doc pm an cdv ct) ⟨[u0,u1],[]⟩=pure (([n0,n1]:List Str).zip [u0,u1])):Binds K fd [n0,n1] [] :=
  F.binds (ps:=[n0,n1]) fun kV doc pm an cdv ct us hl=>match us,hl with | [u0,u1],_=>h kV doc pm an cdv ct u0 u1
theorem zT {K:PySem.W.Frag} {x qual:Str} {st:Stmt} {f:Addr} {fd:FuncData} {n0 n1 n2:Str} (F:Fun K x qual st f fd) (h:∀ (kV doc pm:Value) (an:Option Addr) (cdv ct u0 u1 u2:Value),bindArgs (PySem.W.fnOf x qual (aC st) (aB st) (ao st) .none kV doc pm an cdv ct) ⟨[u0,u1,u2],[]⟩=pure (([n0,n1,n2]:List Str).zip [u0,u1,u2])):Binds K fd [n0,n1,n2] [] :=
  F.binds (ps:=[n0,n1,n2]) fun kV doc pm an cdv ct us hl=>match us,hl with | [u0,u1,u2],_=>h kV doc pm an cdv ct u0 u1 u2
theorem nY {K:PySem.W.Frag} {x qual:Str} {st:Stmt} {f:Addr} {fd:FuncData} {n0 n1 n2 n3:Str} (F:Fun K x qual st f fd) (h:∀ (kV doc pm:Value) (an:Option Addr) (cdv ct u0 u1 u2 u3:Value),bindArgs (PySem.W.fnOf x qual (aC st) (aB st) (ao st) .none kV doc pm an cdv ct) ⟨[u0,u1,u2,u3],[]⟩=pure (([n0,n1,n2,n3]:List Str).zip [u0,u1,u2,u3])):Binds K fd [n0,n1,n2,n3] [] :=
  F.binds (ps:=[n0,n1,n2,n3]) fun kV doc pm an cdv ct us hl=>match us,hl with | [u0,u1,u2,u3],_=>h kV doc pm an cdv ct u0 u1 u2 u3
theorem all_mk {l:PySem.W.OpenLaw} {w:World} {K:PySem.W.Frag} {h:Heap} {mg:Str→Option Value} {fa f0 f1 f2 f3 f4 f5 f6 f7 f8 f9 f10 f11 f12 f13 f14 f15 f16 f17 f18 f19 f20 f21 f22 pT0 cT0:Addr} (X:K.In h) (G:h.Ns mainGlobals mg) (hfa:mg "law"=some (.ref fa))
    {od0 an0 od1 an1 od2 an2 od3 an3 od4 an4 od5 an5 od6 an6 od7 an7 od8 an8 od9 an9 od10 an10 od11 an11 od12 an12 od13 an13 od14 an14 od15 an15 od16 an16 od17 an17 od18 an18 od19 an19 od20 an20 od21 an21 od22 an22:Option Addr} {sl0 sl1 sl2 sl3 sl4 sl5 sl6 sl7 sl8 sl9 sl10 sl11 sl12 sl13 sl14 sl15 sl16 sl17 sl18 sl19 sl20 sl21 sl22:Array (Option Value)} {oc0 kV0 dc0 pm0 cd0 ct0 oc1 kV1 dc1 pm1 ct1 oc2 kV2 dc2 pm2 cd2 ct2 oc3 kV3 dc3 pm3 cd3 ct3 oc4 kV4 dc4 pm4 cd4 ct4 oc5 kV5 dc5 pm5 cd5 ct5 oc6 kV6 dc6 pm6 cd6 ct6 oc7 kV7 dc7 pm7 cd7 ct7 oc8 kV8 dc8 pm8 cd8 ct8 oc9 kV9 dc9 pm9 cd9 ct9 oc10 kV10 dc10 pm10 cd10 ct10 oc11 kV11 dc11 pm11 cd11 ct11 oc12 kV12 dc12 pm12 cd12 ct12 oc13 kV13 dc13 pm13 cd13 ct13 oc14 kV14 dc14 pm14 cd14 ct14 oc15 kV15 dc15 pm15 cd15 ct15 oc16 kV16 dc16 pm16 cd16 ct16 oc17 kV17 dc17 pm17 cd17 ct17 oc18 kV18 dc18 pm18 cd18 ct18 oc19 kV19 dc19 pm19 cd19 ct19 oc20 kV20 dc20 pm20 cd20 ct20 oc21 kV21 dc21 pm21 cd21 ct21 oc22 kV22 dc22 pm22 cd22 ct22:Value} {t0:Tok}
    (a0:PySem.W.nsIn K mainGlobals "way_of"=some (some (.ref f0))) (l0:K.lookup f0=some ⟨oc0,od0,.func (PySem.W.fnOf "way_of" "way_of" (aC dM) (aB dM) (ao dM) .none kV0 dc0 pm0 an0 cd0 ct0),sl0⟩) (c0:PySem.W.codeIn K cd0 "way_of"=true) (k0:PySem.W.keepIn K (.ref f0)=true)
    (a1:PySem.W.nsIn K mainGlobals "tops_first"=some (some (.ref f1))) (l1:K.lookup f1=some ⟨oc1,od1,.func (PySem.W.fnOf "tops_first" "tops_first" (aC bM) (aB bM) (ao bM) .none kV1 dc1 pm1 an1 (.ref cT0) ct1),sl1⟩) (c1:PySem.W.codeIn K (.ref cT0) "tops_first"=true) (k1:PySem.W.keepIn K (.ref f1)=true)
    (a2:PySem.W.nsIn K mainGlobals "stretch_of"=some (some (.ref f2))) (l2:K.lookup f2=some ⟨oc2,od2,.func (PySem.W.fnOf "stretch_of" "stretch_of" (aC bU) (aB bU) (ao bU) .none kV2 dc2 pm2 an2 cd2 ct2),sl2⟩) (c2:PySem.W.codeIn K cd2 "stretch_of"=true) (k2:PySem.W.keepIn K (.ref f2)=true)
    (a3:PySem.W.nsIn K mainGlobals "natural_of"=some (some (.ref f3))) (l3:K.lookup f3=some ⟨oc3,od3,.func (PySem.W.fnOf "natural_of" "natural_of" (aC bW) (aB bW) (ao bW) .none kV3 dc3 pm3 an3 cd3 ct3),sl3⟩) (c3:PySem.W.codeIn K cd3 "natural_of"=true) (k3:PySem.W.keepIn K (.ref f3)=true)
    (a4:PySem.W.nsIn K mainGlobals "reaches_of"=some (some (.ref f4))) (l4:K.lookup f4=some ⟨oc4,od4,.func (PySem.W.fnOf "reaches_of" "reaches_of" (aC bV) (aB bV) (ao bV) .none kV4 dc4 pm4 an4 cd4 ct4),sl4⟩) (c4:PySem.W.codeIn K cd4 "reaches_of"=true) (k4:PySem.W.keepIn K (.ref f4)=true)
    (a5:PySem.W.nsIn K mainGlobals "holds_of"=some (some (.ref f5))) (l5:K.lookup f5=some ⟨oc5,od5,.func (PySem.W.fnOf "holds_of" "holds_of" (aC cP) (aB cP) (ao cP) .none kV5 dc5 pm5 an5 cd5 ct5),sl5⟩) (c5:PySem.W.codeIn K cd5 "holds_of"=true) (k5:PySem.W.keepIn K (.ref f5)=true)
    (a6:PySem.W.nsIn K mainGlobals "free_of"=some (some (.ref f6))) (l6:K.lookup f6=some ⟨oc6,od6,.func (PySem.W.fnOf "free_of" "free_of" (aC dw) (aB dw) (ao dw) .none kV6 dc6 pm6 an6 cd6 ct6),sl6⟩) (c6:PySem.W.codeIn K cd6 "free_of"=true) (k6:PySem.W.keepIn K (.ref f6)=true)
    (a7:PySem.W.nsIn K mainGlobals "dry_of"=some (some (.ref f7))) (l7:K.lookup f7=some ⟨oc7,od7,.func (PySem.W.fnOf "dry_of" "dry_of" (aC dU) (aB dU) (ao dU) .none kV7 dc7 pm7 an7 cd7 ct7),sl7⟩) (c7:PySem.W.codeIn K cd7 "dry_of"=true) (k7:PySem.W.keepIn K (.ref f7)=true)
    (a8:PySem.W.nsIn K mainGlobals "meets"=some (some (.ref f8))) (l8:K.lookup f8=some ⟨oc8,od8,.func (PySem.W.fnOf "meets" "meets" (aC fj) (aB fj) (ao fj) .none kV8 dc8 pm8 an8 cd8 ct8),sl8⟩) (c8:PySem.W.codeIn K cd8 "meets"=true) (k8:PySem.W.keepIn K (.ref f8)=true)
    (a9:PySem.W.nsIn K mainGlobals "lowest_of"=some (some (.ref f9))) (l9:K.lookup f9=some ⟨oc9,od9,.func (PySem.W.fnOf "lowest_of" "lowest_of" (aC cj) (aB cj) (ao cj) .none kV9 dc9 pm9 an9 cd9 ct9),sl9⟩) (c9:PySem.W.codeIn K cd9 "lowest_of"=true) (k9:PySem.W.keepIn K (.ref f9)=true)
    (a10:PySem.W.nsIn K mainGlobals "_law_cell_at"=some (some (.ref f10))) (l10:K.lookup f10=some ⟨oc10,od10,.func (PySem.W.fnOf "_law_cell_at" "_law_cell_at" (aC bF) (aB bF) (ao bF) .none kV10 dc10 pm10 an10 cd10 ct10),sl10⟩) (c10:PySem.W.codeIn K cd10 "_law_cell_at"=true) (k10:PySem.W.keepIn K (.ref f10)=true)
    (a11:PySem.W.nsIn K mainGlobals "_law_whole"=some (some (.ref f11))) (l11:K.lookup f11=some ⟨oc11,od11,.func (PySem.W.fnOf "_law_whole" "_law_whole" (aC bY) (aB bY) (ao bY) .none kV11 dc11 pm11 an11 cd11 ct11),sl11⟩) (c11:PySem.W.codeIn K cd11 "_law_whole"=true) (k11:PySem.W.keepIn K (.ref f11)=true)
    (a12:PySem.W.nsIn K mainGlobals "_law_draw"=some (some (.ref f12))) (l12:K.lookup f12=some ⟨oc12,od12,.func (PySem.W.fnOf "_law_draw" "_law_draw" (aC cH) (aB cH) (ao cH) .none kV12 dc12 pm12 an12 cd12 ct12),sl12⟩) (c12:PySem.W.codeIn K cd12 "_law_draw"=true) (k12:PySem.W.keepIn K (.ref f12)=true)
    (a13:PySem.W.nsIn K mainGlobals "_law_mixed"=some (some (.ref f13))) (l13:K.lookup f13=some ⟨oc13,od13,.func (PySem.W.fnOf "_law_mixed" "_law_mixed" (aC aQ) (aB aQ) (ao aQ) .none kV13 dc13 pm13 an13 cd13 ct13),sl13⟩) (c13:PySem.W.codeIn K cd13 "_law_mixed"=true) (k13:PySem.W.keepIn K (.ref f13)=true)
    (a14:PySem.W.nsIn K mainGlobals "_law_river"=some (some (.ref f14))) (l14:K.lookup f14=some ⟨oc14,od14,.func (PySem.W.fnOf "_law_river" "_law_river" (aC bN) (aB bN) (ao bN) .none kV14 dc14 pm14 an14 cd14 ct14),sl14⟩) (c14:PySem.W.codeIn K cd14 "_law_river"=true) (k14:PySem.W.keepIn K (.ref f14)=true)
    (a15:PySem.W.nsIn K mainGlobals "_law_way"=some (some (.ref f15))) (l15:K.lookup f15=some ⟨oc15,od15,.func (PySem.W.fnOf "_law_way" "_law_way" (aC bR) (aB bR) (ao bR) .none kV15 dc15 pm15 an15 cd15 ct15),sl15⟩) (c15:PySem.W.codeIn K cd15 "_law_way"=true) (k15:PySem.W.keepIn K (.ref f15)=true)
    (a16:PySem.W.nsIn K mainGlobals "_law_stretch"=some (some (.ref f16))) (l16:K.lookup f16=some ⟨oc16,od16,.func (PySem.W.fnOf "_law_stretch" "_law_stretch" (aC bC) (aB bC) (ao bC) .none kV16 dc16 pm16 an16 cd16 ct16),sl16⟩) (c16:PySem.W.codeIn K cd16 "_law_stretch"=true) (k16:PySem.W.keepIn K (.ref f16)=true)
    (a17:PySem.W.nsIn K mainGlobals "_law_free"=some (some (.ref f17))) (l17:K.lookup f17=some ⟨oc17,od17,.func (PySem.W.fnOf "_law_free" "_law_free" (aC cG) (aB cG) (ao cG) .none kV17 dc17 pm17 an17 cd17 ct17),sl17⟩) (c17:PySem.W.codeIn K cd17 "_law_free"=true) (k17:PySem.W.keepIn K (.ref f17)=true)
    (a18:PySem.W.nsIn K mainGlobals "_law_drawn"=some (some (.ref f18))) (l18:K.lookup f18=some ⟨oc18,od18,.func (PySem.W.fnOf "_law_drawn" "_law_drawn" (aC bZ) (aB bZ) (ao bZ) .none kV18 dc18 pm18 an18 cd18 ct18),sl18⟩) (c18:PySem.W.codeIn K cd18 "_law_drawn"=true) (k18:PySem.W.keepIn K (.ref f18)=true)
    (a19:PySem.W.nsIn K mainGlobals "_law_springs"=some (some (.ref f19))) (l19:K.lookup f19=some ⟨oc19,od19,.func (PySem.W.fnOf "_law_springs" "_law_springs" (aC bD) (aB bD) (ao bD) .none kV19 dc19 pm19 an19 cd19 ct19),sl19⟩) (c19:PySem.W.codeIn K cd19 "_law_springs"=true) (k19:PySem.W.keepIn K (.ref f19)=true)
    (a20:PySem.W.nsIn K mainGlobals "_law_rising"=some (some (.ref f20))) (l20:K.lookup f20=some ⟨oc20,od20,.func (PySem.W.fnOf "_law_rising" "_law_rising" (aC bw) (aB bw) (ao bw) .none kV20 dc20 pm20 an20 cd20 ct20),sl20⟩) (c20:PySem.W.codeIn K cd20 "_law_rising"=true) (k20:PySem.W.keepIn K (.ref f20)=true)
    (a21:PySem.W.nsIn K mainGlobals "_law_lowest"=some (some (.ref f21))) (l21:K.lookup f21=some ⟨oc21,od21,.func (PySem.W.fnOf "_law_lowest" "_law_lowest" (aC bx) (aB bx) (ao bx) .none kV21 dc21 pm21 an21 cd21 ct21),sl21⟩) (c21:PySem.W.codeIn K cd21 "_law_lowest"=true) (k21:PySem.W.keepIn K (.ref f21)=true)
    (a22:PySem.W.nsIn K mainGlobals "law"=some (some (.ref f22))) (l22:K.lookup f22=some ⟨oc22,od22,.func (PySem.W.fnOf "law" "law" (aC jH) (aB jH) (ao jH) .none kV22 dc22 pm22 an22 cd22 ct22),sl22⟩) (c22:PySem.W.codeIn K cd22 "law"=true) (k22:PySem.W.keepIn K (.ref f22)=true)
    (e0:PySem.W.nsIn K mainGlobals "MOUTH"=some (some (.int (-1) t0)))
    (z_len:PySem.W.nsIn K mainGlobals "len"=some none)
    (z_range:PySem.W.nsIn K mainGlobals "range"=some none)
    (z_list:PySem.W.nsIn K mainGlobals "list"=some none)
    (z_isinstance:PySem.W.nsIn K mainGlobals "isinstance"=some none)
    (z_bool:PySem.W.nsIn K mainGlobals "bool"=some none)
    (z_int:PySem.W.nsIn K mainGlobals "int"=some none)
    (z_all:PySem.W.nsIn K mainGlobals "all"=some none)
    (z_min:PySem.W.nsIn K mainGlobals "min"=some none)
    (z_max:PySem.W.nsIn K mainGlobals "max"=some none)
    (z_sum:PySem.W.nsIn K mainGlobals "sum"=some none)
    (z_sorted:PySem.W.nsIn K mainGlobals "sorted"=some none)
    (z_zip:PySem.W.nsIn K mainGlobals "zip"=some none)
    (z_tuple:PySem.W.nsIn K mainGlobals "tuple"=some none)
    (z_str:PySem.W.nsIn K mainGlobals "str"=some none)
    (z_any:PySem.W.nsIn K mainGlobals "any"=some none)
    (z_enumerate:PySem.W.nsIn K mainGlobals "enumerate"=some none)
    (z_reversed:PySem.W.nsIn K mainGlobals "reversed"=some none)
    (z_abs:PySem.W.nsIn K mainGlobals "abs"=some none)
    (z_ValueError:PySem.W.nsIn K mainGlobals "ValueError"=some none)
    (z_set:PySem.W.nsIn K mainGlobals "set"=some none)
    (y0:PySem.W.codeHdIn K cT0 pT0=true)
    : ∃ fd:FuncData,(∀ (s:Shared) (v:Value),BindsTo s fd ⟨[v],[]⟩ [("script",v)])∧∀ base:Heap,K.In base→base.Ns mainGlobals mg→BM mg base→cR l.prog w K mg base CX0 9 fa fd ["script"] (pY K [(pT0,cO.1,cO.2)]):=by
  have e:=hfa.symm.trans (PySem.W.mg_of X G a22)
  cases e
  have B:Blt mg:=⟨PySem.W.mg_none_of X G z_len,PySem.W.mg_none_of X G z_range,PySem.W.mg_none_of X G z_list,PySem.W.mg_none_of X G z_isinstance,PySem.W.mg_none_of X G z_bool,PySem.W.mg_none_of X G z_int,PySem.W.mg_none_of X G z_all,PySem.W.mg_none_of X G z_min,PySem.W.mg_none_of X G z_max,PySem.W.mg_none_of X G z_sum,PySem.W.mg_none_of X G z_sorted,PySem.W.mg_none_of X G z_zip,PySem.W.mg_none_of X G z_tuple,PySem.W.mg_none_of X G z_str,PySem.W.mg_none_of X G z_any,PySem.W.mg_none_of X G z_enumerate,PySem.W.mg_none_of X G z_reversed,PySem.W.mg_none_of X G z_abs,PySem.W.mg_none_of X G z_ValueError,PySem.W.mg_none_of X G z_set⟩
  have h_MOUTH:∃ t,mg "MOUTH"=some (.int (-1) t):=⟨_,PySem.W.mg_of X G e0⟩
  have F0:=cI (st:=dM) l0 c0 k0
  have bO:Df K mg "way_of" dM ["below","reach"] _ _:=⟨F0,fL F0 (fun _ _ _ _ _ _ _ _=>rfl),PySem.W.mg_of X G a0⟩
  have F1:=cI (st:=bM) l1 c1 k1
  have cU:Df K mg "tops_first" bM ["below"] _ _:=⟨F1,qL F1 (fun _ _ _ _ _ _ _=>rfl),PySem.W.mg_of X G a1⟩
  have F2:=cI (st:=bU) l2 c2 k2
  have cV:Df K mg "stretch_of" bU ["below","start","stop"] _ _:=⟨F2,zT F2 (fun _ _ _ _ _ _ _ _ _=>rfl),PySem.W.mg_of X G a2⟩
  have F3:=cI (st:=bW) l3 c3 k3
  have cX:Df K mg "natural_of" bW ["below","springs"] _ _:=⟨F3,fL F3 (fun _ _ _ _ _ _ _ _=>rfl),PySem.W.mg_of X G a3⟩
  have F4:=cI (st:=bV) l4 c4 k4
  have cW:Df K mg "reaches_of" bV ["below","one"] _ _:=⟨F4,fL F4 (fun _ _ _ _ _ _ _ _=>rfl),PySem.W.mg_of X G a4⟩
  have F5:=cI (st:=cP) l5 c5 k5
  have dX:Df K mg "holds_of" cP ["below","roll","takes"] _ _:=⟨F5,zT F5 (fun _ _ _ _ _ _ _ _ _=>rfl),PySem.W.mg_of X G a5⟩
  have F6:=cI (st:=dw) l6 c6 k6
  have eV:Df K mg "free_of" dw ["below","springs","roll","takes"] _ _:=⟨F6,nY F6 (fun _ _ _ _ _ _ _ _ _ _=>rfl),PySem.W.mg_of X G a6⟩
  have F7:=cI (st:=dU) l7 c7 k7
  have dW:Df K mg "dry_of" dU ["below","springs","roll","takes"] _ _:=⟨F7,nY F7 (fun _ _ _ _ _ _ _ _ _ _=>rfl),PySem.W.mg_of X G a7⟩
  have F8:=cI (st:=fj) l8 c8 k8
  have jg:Df K mg "meets" fj ["reaches","others"] _ _:=⟨F8,fL F8 (fun _ _ _ _ _ _ _ _=>rfl),PySem.W.mg_of X G a8⟩
  have F9:=cI (st:=cj) l9 c9 k9
  have aZ:Df K mg "lowest_of" cj ["below","reaches"] _ _:=⟨F9,fL F9 (fun _ _ _ _ _ _ _ _=>rfl),PySem.W.mg_of X G a9⟩
  have F10:=cI (st:=bF) l10 c10 k10
  have aH:Df K mg "_law_cell_at" bF ["script","k"] _ _:=⟨F10,fL F10 (fun _ _ _ _ _ _ _ _=>rfl),PySem.W.mg_of X G a10⟩
  have F11:=cI (st:=bY) l11 c11 k11
  have cY:Df K mg "_law_whole" bY ["found"] _ _:=⟨F11,qL F11 (fun _ _ _ _ _ _ _=>rfl),PySem.W.mg_of X G a11⟩
  have F12:=cI (st:=cH) l12 c12 k12
  have dJ:Df K mg "_law_draw" cH ["cell","k"] _ _:=⟨F12,fL F12 (fun _ _ _ _ _ _ _ _=>rfl),PySem.W.mg_of X G a12⟩
  have F13:=cI (st:=aQ) l13 c13 k13
  have aF:Df K mg "_law_mixed" aQ ["cell","many"] _ _:=⟨F13,fL F13 (fun _ _ _ _ _ _ _ _=>rfl),PySem.W.mg_of X G a13⟩
  have F14:=cI (st:=bN) l14 c14 k14
  have cZ:Df K mg "_law_river" bN ["cell"] _ _:=⟨F14,qL F14 (fun _ _ _ _ _ _ _=>rfl),PySem.W.mg_of X G a14⟩
  have F15:=cI (st:=bR) l15 c15 k15
  have aK:Df K mg "_law_way" bR ["below","reach"] _ _:=⟨F15,fL F15 (fun _ _ _ _ _ _ _ _=>rfl),PySem.W.mg_of X G a15⟩
  have F16:=cI (st:=bC) l16 c16 k16
  have cC:Df K mg "_law_stretch" bC ["below","one"] _ _:=⟨F16,fL F16 (fun _ _ _ _ _ _ _ _=>rfl),PySem.W.mg_of X G a16⟩
  have F17:=cI (st:=cG) l17 c17 k17
  have dI:Df K mg "_law_free" cG ["below","springs","roll","takes"] _ _:=⟨F17,nY F17 (fun _ _ _ _ _ _ _ _ _ _=>rfl),PySem.W.mg_of X G a17⟩
  have F18:=cI (st:=bZ) l18 c18 k18
  have dg:Df K mg "_law_drawn" bZ ["cell","below","far","great"] _ _:=⟨F18,nY F18 (fun _ _ _ _ _ _ _ _ _ _=>rfl),PySem.W.mg_of X G a18⟩
  have F19:=cI (st:=bD) l19 c19 k19
  have cD:Df K mg "_law_springs" bD ["cell","below","roll","takes"] _ _:=⟨F19,nY F19 (fun _ _ _ _ _ _ _ _ _ _=>rfl),PySem.W.mg_of X G a19⟩
  have F20:=cI (st:=bw) l20 c20 k20
  have aP:Df K mg "_law_rising" bw ["found","due"] _ _:=⟨F20,fL F20 (fun _ _ _ _ _ _ _ _=>rfl),PySem.W.mg_of X G a20⟩
  have F21:=cI (st:=bx) l21 c21 k21
  have bB:Df K mg "_law_lowest" bx ["below","reaches"] _ _:=⟨F21,fL F21 (fun _ _ _ _ _ _ _ _=>rfl),PySem.W.mg_of X G a21⟩
  have F22:=cI (st:=jH) l22 c22 k22
  have Jb:Df K mg "law" jH ["script"] _ _:=⟨F22,qL F22 (fun _ _ _ _ _ _ _=>rfl),PySem.W.mg_of X G a22⟩
  refine ⟨PySem.W.fnOf "law" "law" (aC jH) (aB jH) (ao jH) .none kV22 dc22 pm22 an22 cd22 ct22,fun s v=>.of_eq rfl,fun base _ _ hbm=>?_⟩
  have C:Mth mg:=⟨h_MOUTH⟩
  have hT:TT1 pT0 [(pT0,cO.1,cO.2)]:=⟨List.mem_cons_self,by simp⟩
  generalize ([(pT0,cO.1,cO.2)]:eH)=T at hT ⊢
  have g1:=Ar (P:=l.prog) (w:=w) (base:=base) aH B
  have g2:=Cp (P:=l.prog) (w:=w) (K:=K) (base:=base) dJ
  have g3:=Ao aF B dJ g2
  have g4:=vU (P:=l.prog) (w:=w) (base:=base) cY B
  have g5:=BZ (P:=l.prog) (w:=w) (base:=base) bO C
  have g6:=vV cV C bO g5
  have g7:=rC cW cV g6
  have g8:=Ak (T:=T) cU rfl y0 hT hbm B bO g5
  have g9:=Ce cX B C cU g8
  have g22:=vW (T:=T) cZ B aF g3
  have g24:=Al (P:=l.prog) (w:=w) (base:=base) (T:=T) aK
  have g23:=Ca (T:=T) cD B aF g3
  have g25:=Aq (T:=T) dg B aF g3 aK g24
  have g26:=Cg cC aK g24
  have g28:=Ck dI B cC g26 aK g24
  have g31:=vY (T:=T) dX B cW g7
  have g32:=Am eV B cX g9 dX g31
  have g33:=Cm dW B eV g32
  have g34:=vX (P:=l.prog) (w:=w) (base:=base) (T:=T) jg B
  have g35:=uf aZ B bO g5 jg g34
  have g36:=Cd (T:=T) aP B cY g4
  have g37:=Ci bB B aK g24
  exact Cj Jb B aH g1 cZ g22 cD g23 dg g25 dI g28 aF g3 dW g33 aP g36 aZ g35 bB g37
def codeOf (K:PySem.W.Frag) (x:Str):Addr:=match PySem.W.nsIn K mainGlobals x with
  | some (some (.ref f))=>match K.lookup f with
    | some ⟨_,_,.func fd,_⟩=>match fd.code with
      | .ref c=>c
      | _=>0
    | _=>0
  | _=>0
theorem Bm {K:PySem.W.Frag} {P:Addr} (x:Str) (h:PySem.W.codeHdIn K (codeOf K x) P=true):∃ c,PySem.W.codeHdIn K c P=true:=⟨_,h⟩
theorem walk {l:PySem.W.OpenLaw} {q:Program} {loose:List Str} {XP:(Str→Option Value)→Heap→Prop} {YP:World→Heap→Prop} {d:DefRec} {K:Params→PySem.W.Frag} {P0:Addr} (hn:l.most=some 63) (hdf:d.params.defaults=[])
    (hY:∀ (w:World) (h:Heap),YP w h→(K w.params).In h) (hYt:∀ (w:World) (h:Heap),YP w h→∀ P∈([P0]:List Addr),h.get? P=some (PySem.W.tabObj #[])) (hts:∀ (w:World),∀ P∈([P0]:List Addr),(K w.params).lookup P=none∧∃ c,PySem.W.codeHdIn (K w.params) c P=true)
    (F:∀ (w:World) (mg:Str→Option Value) (fa:Addr) (h:Heap),(K w.params).In h→h.Ns mainGlobals mg→mg d.name=some (.ref fa) →
      ∃ fd:FuncData,(∀ (s:Shared) (u:Value),BindsTo s fd ⟨[u],[]⟩ [("script",u)])∧∀ base:Heap,(K w.params).In base→base.Ns mainGlobals mg→BM mg base→cR l.prog w (K w.params) mg base CX0 9 fa fd ["script"] (pY (K w.params) [(P0,cO.1,cO.2)])) :
    PySem.W.WalkO q loose XP YP l.row.toRowW d [] (fun f vs=>PySem.call f vs) :=
  L2.vC (n:=63) (k:=9) (x:="script") (CX:=fun _=>CX0) (sp:=fun w=>pY (K w.params) [(P0,cO.1,cO.2)]) (ts:=([P0]:List Addr)) hn (by decide) hdf ⟨rfl,by decide,by decide⟩ hY hYt hts F (fun _ H a ns hl _ hT hS=>⟨a,ns,rfl,hS,hl,fun t ht=>.inl (hT t.1 (by simp only [List.mem_cons,List.not_mem_nil,or_false] at ht ⊢;(try rcases ht with rfl | ht) <;> (try subst ht) <;> simp)),fun _=>rfl⟩) fun _ _ _ _ _ z=>z
end My
open PySem PySem.W PyProof.Rows
set_option maxRecDepth 100000 in
set_option maxHeartbeats 0 in
theorem PySem.Challenge.cw_sluice_k31_dry_and_lowest_holds : PySem.Challenge.rw_sluice_k31_dry_and_lowest.Holds := by
  w_on;o_law
  refine PySem.W.holds_open (q:=My.qv) (loose:=My.qt) (Xt:=(fun s=>PySem.W.xlAt My.qv [] s && PySem.W.recOk (PySem.W.RowW.records PySem.Challenge.rw_sluice_k31_dry_and_lowest.row.toRowW) s)) (XP:=PySem.W.XL My.qv []) (Yf:=PySem.W.Hook.obs (PySem.W.kmHook My.Kf My.asK My.hkE My.tsK)) (Ya:=PySem.W.Hook.val (PySem.W.kmHook My.Kf My.asK My.hkE My.tsK)) (YP:=PySem.W.Hook.says (PySem.W.kmHook My.Kf My.asK My.hkE My.tsK)) (N:=2462) My.hlE (PySem.W.Hook.of (PySem.W.kmHook My.Kf My.asK My.hkE My.tsK)) (PySem.W.Hook.keeps (PySem.W.kmHook My.Kf My.asK My.hkE My.tsK)) (fun s e=>PySem.W.xl_of s (Bool.and_eq_true_iff.mp e).1) PySem.W.XL.keeps (by rfl) (by rfl) (by rfl) (fun s e=>PySem.W.recFacts_of (Bool.and_eq_true_iff.mp e).2) (by rfl) (by first | assumption | decide +kernel) (by decide +kernel) ⟨rfl,rfl,rfl,rfl,rfl,by decide +kernel⟩ ?hw ?hc
  case hw=>w_witness2
  k_fill
  refine' My.walk (l:=PySem.Challenge.rw_sluice_k31_dry_and_lowest) rfl rfl (fun w h Y=>PySem.W.km_in_of Y) (fun w h Y=>PySem.W.km_tabs_of Y) ?hts ?F
  case F =>
    intro w mg fa h KX G hmg
    refine' My.all_mk KX G hmg ?a0 ?l0 ?c0 ?k0 ?a1 ?l1 ?c1 ?k1 ?a2 ?l2 ?c2 ?k2 ?a3 ?l3 ?c3 ?k3 ?a4 ?l4 ?c4 ?k4 ?a5 ?l5 ?c5 ?k5 ?a6 ?l6 ?c6 ?k6 ?a7 ?l7 ?c7 ?k7 ?a8 ?l8 ?c8 ?k8 ?a9 ?l9 ?c9 ?k9 ?a10 ?l10 ?c10 ?k10 ?a11 ?l11 ?c11 ?k11 ?a12 ?l12 ?c12 ?k12 ?a13 ?l13 ?c13 ?k13 ?a14 ?l14 ?c14 ?k14 ?a15 ?l15 ?c15 ?k15 ?a16 ?l16 ?c16 ?k16 ?a17 ?l17 ?c17 ?k17 ?a18 ?l18 ?c18 ?k18 ?a19 ?l19 ?c19 ?k19 ?a20 ?l20 ?c20 ?k20 ?a21 ?l21 ?c21 ?k21 ?a22 ?l22 ?c22 ?k22 ?e0 ?z_len ?z_range ?z_list ?z_isinstance ?z_bool ?z_int ?z_all ?z_min ?z_max ?z_sum ?z_sorted ?z_zip ?z_tuple ?z_str ?z_any ?z_enumerate ?z_reversed ?z_abs ?z_ValueError ?z_set ?y0
    (case a0=>k_is)
    (case l0=>k_is)
    (case c0=>k_is)
    (case k0=>k_is)
    (case a1=>k_is)
    (case l1=>k_is)
    (case c1=>k_is)
    (case k1=>k_is)
    (case a2=>k_is)
    (case l2=>k_is)
    (case c2=>k_is)
    (case k2=>k_is)
    (case a3=>k_is)
    (case l3=>k_is)
    (case c3=>k_is)
    (case k3=>k_is)
    (case a4=>k_is)
    (case l4=>k_is)
    (case c4=>k_is)
    (case k4=>k_is)
    (case a5=>k_is)
    (case l5=>k_is)
    (case c5=>k_is)
    (case k5=>k_is)
    (case a6=>k_is)
    (case l6=>k_is)
    (case c6=>k_is)
    (case k6=>k_is)
    (case a7=>k_is)
    (case l7=>k_is)
    (case c7=>k_is)
    (case k7=>k_is)
    (case a8=>k_is)
    (case l8=>k_is)
    (case c8=>k_is)
    (case k8=>k_is)
    (case a9=>k_is)
    (case l9=>k_is)
    (case c9=>k_is)
    (case k9=>k_is)
    (case a10=>k_is)
    (case l10=>k_is)
    (case c10=>k_is)
    (case k10=>k_is)
    (case a11=>k_is)
    (case l11=>k_is)
    (case c11=>k_is)
    (case k11=>k_is)
    (case a12=>k_is)
    (case l12=>k_is)
    (case c12=>k_is)
    (case k12=>k_is)
    (case a13=>k_is)
    (case l13=>k_is)
    (case c13=>k_is)
    (case k13=>k_is)
    (case a14=>k_is)
    (case l14=>k_is)
    (case c14=>k_is)
    (case k14=>k_is)
    (case a15=>k_is)
    (case l15=>k_is)
    (case c15=>k_is)
    (case k15=>k_is)
    (case a16=>k_is)
    (case l16=>k_is)
    (case c16=>k_is)
    (case k16=>k_is)
    (case a17=>k_is)
    (case l17=>k_is)
    (case c17=>k_is)
    (case k17=>k_is)
    (case a18=>k_is)
    (case l18=>k_is)
    (case c18=>k_is)
    (case k18=>k_is)
    (case a19=>k_is)
    (case l19=>k_is)
    (case c19=>k_is)
    (case k19=>k_is)
    (case a20=>k_is)
    (case l20=>k_is)
    (case c20=>k_is)
    (case k20=>k_is)
    (case a21=>k_is)
    (case l21=>k_is)
    (case c21=>k_is)
    (case k21=>k_is)
    (case a22=>k_is)
    (case l22=>k_is)
    (case c22=>k_is)
    (case k22=>k_is)
    (case e0=>k_is)
    (case z_len=>k_is)
    (case z_range=>k_is)
    (case z_list=>k_is)
    (case z_isinstance=>k_is)
    (case z_bool=>k_is)
    (case z_int=>k_is)
    (case z_all=>k_is)
    (case z_min=>k_is)
    (case z_max=>k_is)
    (case z_sum=>k_is)
    (case z_sorted=>k_is)
    (case z_zip=>k_is)
    (case z_tuple=>k_is)
    (case z_str=>k_is)
    (case z_any=>k_is)
    (case z_enumerate=>k_is)
    (case z_reversed=>k_is)
    (case z_abs=>k_is)
    (case z_ValueError=>k_is)
    (case z_set=>k_is)
    (case y0=>kernel_rfl)
  case hts =>
    intro w P hP
    simp only [List.mem_cons,List.not_mem_nil,or_false] at hP
    subst hP
    exact ⟨by kernel_rfl,My.Bm "tops_first" (by kernel_rfl)⟩
