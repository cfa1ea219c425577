import PyProof.Rows.All
import Wide.All
import OpenK.AllK
import Wide.FinOn
import Lean
import PyProof.EqAt
import PyProof.EqKinds
import PyProof.TupleCall
import KE.KSortTup
import PySem.Challenge.RW_sluice_k33_cut_refused
set_option Elab.async false
set_option linter.all false
set_option maxRecDepth 100000
set_option maxHeartbeats 4000000
local macro_rules | `(tactic| omega) => `(tactic| first | lia | omega (splitDisjunctions := true))
namespace L2
open PySem
def aC (s:Stmt):Arguments:=match s with
  | .FunctionDef _ a _ _ _ _ _ _ _ _=>a
  | _=>{ posonlyargs:=[],args:=[],vararg:=none,kwonlyargs:=[],kw_defaults:=[],kwarg:=none,defaults:=[] }
def aB (s:Stmt):List Stmt:=match s with
  | .FunctionDef _ _ b _ _ _ _ _ _ _=>b
  | _=>[]
def ao (s:Stmt):Scope:=match s with
  | .FunctionDef _ _ _ _ _ _ sc _ _ _=>sc
  | _=>{ kind:=.function,names:=[],isGenerator:=false,isCoroutine:=false }
end L2
namespace My
open PySem L2
noncomputable def top0 (i:Nat):Stmt:=PySem.Challenge.pw_sluice_k33_cut_refused.main.body.getD i (.Pass ⟨0,0,0,0⟩)
noncomputable def en (P:Params) (x:Str) (t:Tok) (v:Value):DictEntry:=⟨PyData.keyHash P x,.str x t,v⟩
noncomputable section
def tq (a:Array Value):Obj:={ cls:=.type "tuple",data:=.seq a }
def fc (a:Array Value):Obj:={ cls:=.type "code",data:=.fields a }
def cp (n:Nat):Value:=.str "/claim/cut.py" n
def pr0 (x:Str) (i:Nat):Obj:={ cls:=.none,data:=.func { name:=x,qualname:=x,params:=aC (top0 i),body:=.stmts (aB (top0 i)),scope:=ao (top0 i),globals:=0,closure:=[],defaults:=.none,kwdefaults:=.none } }
def Yx (P:Params):Obj:={ cls:=.type "dict",data:=Data.dict #[en P "__name__" 1 (.str "builtins" 160),en P "__doc__" 2 (.builtin "builtins.__doc__:str#opaque"),en P "__package__" 3 (.builtin "builtins.__package__:str#opaque"),en P "__loader__" 4 (.builtin "builtins.__loader__:shared#opaque"),en P "__spec__" 5 (.builtin "builtins.__spec__#opaque"),en P "__build_class__" 6 (.builtin "__build_class__"),en P "__import__" 7 (.builtin "__import__"),en P "abs" 8 (.builtin "abs"),en P "all" 9 (.builtin "all"),en P "any" 10 (.builtin "any"),en P "ascii" 11 (.builtin "ascii"),en P "bin" 12 (.builtin "bin"),en P "breakpoint" 13 (.builtin "breakpoint"),en P "callable" 14 (.builtin "callable"),en P "chr" 15 (.builtin "chr"),en P "compile" 16 (.builtin "compile"),en P "delattr" 17 (.builtin "delattr"),en P "dir" 18 (.builtin "dir"),en P "divmod" 19 (.builtin "divmod"),en P "eval" 20 (.builtin "eval"),en P "exec" 21 (.builtin "exec"),en P "format" 22 (.builtin "format"),en P "getattr" 23 (.builtin "getattr"),en P "globals" 24 (.builtin "globals"),en P "hasattr" 25 (.builtin "hasattr"),en P "hash" 26 (.builtin "hash"),en P "hex" 27 (.builtin "hex"),en P "id" 28 (.builtin "id"),en P "input" 29 (.builtin "input"),en P "isinstance" 30 (.builtin "isinstance"),en P "issubclass" 31 (.builtin "issubclass"),en P "iter" 32 (.builtin "iter"),en P "aiter" 33 (.builtin "aiter"),en P "len" 34 (.builtin "len"),en P "locals" 35 (.builtin "locals"),en P "max" 36 (.builtin "max"),en P "min" 37 (.builtin "min"),en P "next" 38 (.builtin "next"),en P "anext" 39 (.builtin "anext"),en P "oct" 40 (.builtin "oct"),en P "ord" 41 (.builtin "ord"),en P "pow" 42 (.builtin "pow"),en P "print" 43 (.builtin "print"),en P "repr" 44 (.builtin "repr"),en P "round" 45 (.builtin "round"),en P "setattr" 46 (.builtin "setattr"),en P "sorted" 47 (.builtin "sorted"),en P "sum" 48 (.builtin "sum"),en P "vars" 49 (.builtin "vars"),en P "None" 50 .none,en P "Ellipsis" 51 .ellipsis,en P "NotImplemented" 52 .notImplemented,en P "False" 53 (.bool false),en P "True" 54 (.bool true),en P "bool" 55 (.type "bool"),en P "memoryview" 56 (.type "memoryview"),en P "bytearray" 57 (.type "bytearray"),en P "bytes" 58 (.type "bytes"),en P "classmethod" 59 (.type "classmethod"),en P "complex" 60 (.type "complex"),en P "dict" 61 (.type "dict"),en P "enumerate" 62 (.type "enumerate"),en P "filter" 63 (.type "filter"),en P "float" 64 (.type "float"),en P "frozenset" 65 (.type "frozenset"),en P "property" 66 (.type "property"),en P "int" 67 (.type "int"),en P "list" 68 (.type "list"),en P "map" 69 (.type "map"),en P "object" 70 (.type "object"),en P "range" 71 (.type "range"),en P "reversed" 72 (.type "reversed"),en P "set" 73 (.type "set"),en P "slice" 74 (.type "slice"),en P "staticmethod" 75 (.type "staticmethod"),en P "str" 76 (.type "str"),en P "super" 77 (.type "super"),en P "tuple" 78 (.type "tuple"),en P "type" 79 (.type "type"),en P "zip" 80 (.type "zip"),en P "__debug__" 81 (.bool true),en P "BaseException" 82 (.type "BaseException"),en P "BaseExceptionGroup" 83 (.type "BaseExceptionGroup"),en P "Exception" 84 (.type "Exception"),en P "GeneratorExit" 85 (.type "GeneratorExit"),en P "KeyboardInterrupt" 86 (.type "KeyboardInterrupt"),en P "SystemExit" 87 (.type "SystemExit"),en P "ArithmeticError" 88 (.type "ArithmeticError"),en P "AssertionError" 89 (.type "AssertionError"),en P "AttributeError" 90 (.type "AttributeError"),en P "BufferError" 91 (.type "BufferError"),en P "EOFError" 92 (.type "EOFError"),en P "ImportError" 93 (.type "ImportError"),en P "LookupError" 94 (.type "LookupError"),en P "MemoryError" 95 (.type "MemoryError"),en P "NameError" 96 (.type "NameError"),en P "OSError" 97 (.type "OSError"),en P "ReferenceError" 98 (.type "ReferenceError"),en P "RuntimeError" 99 (.type "RuntimeError"),en P "StopAsyncIteration" 100 (.type "StopAsyncIteration"),en P "StopIteration" 101 (.type "StopIteration"),en P "SyntaxError" 102 (.type "SyntaxError"),en P "SystemError" 103 (.type "SystemError"),en P "TypeError" 104 (.type "TypeError"),en P "ValueError" 105 (.type "ValueError"),en P "Warning" 106 (.type "Warning"),en P "FloatingPointError" 107 (.type "FloatingPointError"),en P "OverflowError" 108 (.type "OverflowError"),en P "ZeroDivisionError" 109 (.type "ZeroDivisionError"),en P "BytesWarning" 110 (.type "BytesWarning"),en P "DeprecationWarning" 111 (.type "DeprecationWarning"),en P "EncodingWarning" 112 (.type "EncodingWarning"),en P "FutureWarning" 113 (.type "FutureWarning"),en P "ImportWarning" 114 (.type "ImportWarning"),en P "PendingDeprecationWarning" 115 (.type "PendingDeprecationWarning"),en P "ResourceWarning" 116 (.type "ResourceWarning"),en P "RuntimeWarning" 117 (.type "RuntimeWarning"),en P "SyntaxWarning" 118 (.type "SyntaxWarning"),en P "UnicodeWarning" 119 (.type "UnicodeWarning"),en P "UserWarning" 120 (.type "UserWarning"),en P "BlockingIOError" 121 (.type "BlockingIOError"),en P "ChildProcessError" 122 (.type "ChildProcessError"),en P "ConnectionError" 123 (.type "ConnectionError"),en P "FileExistsError" 124 (.type "FileExistsError"),en P "FileNotFoundError" 125 (.type "FileNotFoundError"),en P "InterruptedError" 126 (.type "InterruptedError"),en P "IsADirectoryError" 127 (.type "IsADirectoryError"),en P "NotADirectoryError" 128 (.type "NotADirectoryError"),en P "PermissionError" 129 (.type "PermissionError"),en P "ProcessLookupError" 130 (.type "ProcessLookupError"),en P "TimeoutError" 131 (.type "TimeoutError"),en P "IndentationError" 132 (.type "IndentationError"),en P "_IncompleteInputError" 133 (.type "_IncompleteInputError"),en P "IndexError" 134 (.type "IndexError"),en P "KeyError" 135 (.type "KeyError"),en P "ModuleNotFoundError" 136 (.type "ModuleNotFoundError"),en P "NotImplementedError" 137 (.type "NotImplementedError"),en P "PythonFinalizationError" 138 (.type "PythonFinalizationError"),en P "RecursionError" 139 (.type "RecursionError"),en P "UnboundLocalError" 140 (.type "UnboundLocalError"),en P "UnicodeError" 141 (.type "UnicodeError"),en P "BrokenPipeError" 142 (.type "BrokenPipeError"),en P "ConnectionAbortedError" 143 (.type "ConnectionAbortedError"),en P "ConnectionRefusedError" 144 (.type "ConnectionRefusedError"),en P "ConnectionResetError" 145 (.type "ConnectionResetError"),en P "TabError" 146 (.type "TabError"),en P "UnicodeDecodeError" 147 (.type "UnicodeDecodeError"),en P "UnicodeEncodeError" 148 (.type "UnicodeEncodeError"),en P "UnicodeTranslateError" 149 (.type "UnicodeTranslateError"),en P "ExceptionGroup" 150 (.type "ExceptionGroup"),en P "EnvironmentError" 151 (.type "OSError"),en P "IOError" 152 (.type "OSError"),en P "open" 153 (.builtin "open"),en P "quit" 154 (.builtin "builtins.quit#opaque"),en P "exit" 155 (.builtin "builtins.exit#opaque"),en P "copyright" 156 (.builtin "builtins.copyright#opaque"),en P "credits" 157 (.builtin "builtins.credits#opaque"),en P "license" 158 (.builtin "builtins.license#opaque"),en P "help" 159 (.builtin "builtins.help#opaque")] 159 }
def Yv (P:Params):Obj:={ cls:=.type "dict",data:=Data.dict #[en P "builtins" 162 (.ref 4),en P "__main__" 163 (.ref 5)] 2 }
def Ua (P:Params):Obj:={ cls:=.none,data:=Data.dict #[] }
def Z0 (P:Params):Obj:={ cls:=.type "dict",data:=Data.dict #[en P "__name__" 165 (.str "__main__" 164),en P "__doc__" 166 .none,en P "__package__" 167 .none,en P "__loader__" 168 (.builtin "__main__.__loader__#opaque"),en P "__spec__" 169 .none,en P "__annotations__" 170 (.ref 6),en P "__builtins__" 171 (.ref 4),en P "__file__" 173 (cp 172),en P "__cached__" 174 .none] 9 }
def Wd (P:Params):Obj:={ cls:=.type "module",dict:=some 0 }
def V6 (P:Params):Obj:={ cls:=.type "module",dict:=some 3 }
def VP (P:Params):Obj:={ cls:=.type "dict",data:=Data.dict #[] }
def VD (P:Params):Obj:=(tq #[])
def Vs (P:Params):Obj:={ cls:=.none,data:=Data.fields #[] }
def Ds (P:Params):Obj:=(fc #[.str "<module>" 176,.str "<module>" 177,cp 178,.int 1 0,.int 0 0,.int 0 0,.int 0 0,.int 0 0,.ref 7,.bool false,.int 175 0,.ref 8,.none,.none,.none,.none,.int 179 0,.int 1 0,cp 180])
def Dm (P:Params):Obj:={ cls:=.type "frame",slots:=#[some (.ref 9),some (.ref 3),some (.ref 3),none,some (.str "__main__" 164),none,some (.ref 0)] }
def G8 (P:Params):Obj:=(tq #[])
def Yw (P:Params):Obj:={ cls:=.none,data:=Data.fields #[] }
def G7 (P:Params):Obj:=(fc #[.str "<module>" 182,.str "<module>" 183,cp 184,.int 1 0,.int 0 0,.int 0 0,.int 0 0,.int 0 0,.ref 11,.bool false,.int 181 0,.ref 12,.none,.none,.none,.none,.int 185 0,.int 1 0,cp 186])
def G6 (P:Params):Obj:={ cls:=.type "frame",slots:=#[some (.ref 13),some (.ref 3),some (.ref 3),none,some (.str "__main__" 164),none,some (.ref 0)] }
def Z2 (P:Params):Obj:={ cls:=.type "dict",data:=Data.dict #[en P "__name__" 165 (.str "sluice.errors" 187),en P "__doc__" 166 .none,en P "__package__" 167 .none,en P "__loader__" 168 (.builtin "__main__.__loader__#opaque"),en P "__spec__" 169 .none,en P "__annotations__" 170 (.ref 6),en P "__builtins__" 171 (.ref 4),en P "__file__" 173 (cp 172),en P "__cached__" 174 .none,en P "SluiceError" 206 (.ref 24),en P "NoRiver" 222 (.ref 37),en P "NoReach" 238 (.ref 49),en P "NoLicence" 254 (.ref 61),en P "NoNumber" 270 (.ref 73),en P "NoHolder" 286 (.ref 85),en P "NotYours" 302 (.ref 97),en P "NotAlone" 318 (.ref 109),en P "TooMuch" 334 (.ref 121),en P "Full" 350 (.ref 133),en P "NoPaper" 366 (.ref 145),en P "NoCut" 382 (.ref 157),en P "NoPond" 398 (.ref 169),en P "NoDay" 414 (.ref 181),en P "Fixed" 430 (.ref 193),en P "Harms" 446 (.ref 205),en P "NoRow" 462 (.ref 217)] 26 }
def Z1 (P:Params):Obj:={ cls:=.none,data:=Data.fields #[.int 2 0,.int 0 0,.ref 20,.int 4 0,.int 0 0,.ref 33,.int 6 0,.int 0 0,.ref 45,.int 8 0,.int 0 0,.ref 57,.int 10 0,.int 0 0,.ref 69,.int 12 0,.int 0 0,.ref 81,.int 14 0,.int 0 0,.ref 93,.int 16 0,.int 0 0,.ref 105,.int 18 0,.int 0 0,.ref 117,.int 20 0,.int 0 0,.ref 129,.int 22 0,.int 0 0,.ref 141,.int 24 0,.int 0 0,.ref 153,.int 26 0,.int 0 0,.ref 165,.int 28 0,.int 0 0,.ref 177,.int 30 0,.int 0 0,.ref 189,.int 32 0,.int 0 0,.ref 201,.int 34 0,.int 0 0,.ref 213] }
def Tf (P:Params):Obj:=(tq #[.type "ValueError"])
def Yu (P:Params):Obj:={ cls:=.type "builtin_function_or_method",data:=Data.fields #[.builtin "type.__prepare__",.type "type"] }
def Ys (P:Params):Obj:={ cls:=.type "dict",data:=Data.dict #[en P "__module__" 196 (.str "sluice.errors" 187),en P "__qualname__" 198 (.str "SluiceError" 197),en P "__firstlineno__" 200 (.int 2 199),en P "__static_attributes__" 201 (.ref 22)] 4 }
def Yo (P:Params):Obj:=(tq #[])
def Yk (P:Params):Obj:={ cls:=.none,data:=Data.fields #[] }
def Yg (P:Params):Obj:=(fc #[.str "SluiceError" 191,.str "SluiceError" 192,cp 193,.int 2 0,.int 0 0,.int 0 0,.int 0 0,.int 0 0,.ref 18,.bool false,.int 181 0,.ref 19,.none,.none,.none,.none,.int 194 0,.int 2 0,cp 195])
def Yb (P:Params):Obj:={ cls:=.type "frame",slots:=#[some (.ref 20),some (.ref 3),some (.ref 17),none,some (.str "sluice.errors" 187),none,some (.ref 0)] }
def Te (P:Params):Obj:=(tq #[])
def Td (P:Params):Obj:={ cls:=.type "dict",data:=Data.dict #[en P "__module__" 196 (.str "sluice.errors" 187),en P "__firstlineno__" 200 (.int 2 199),en P "__static_attributes__" 201 (.ref 22),en P "__weakref__" 203 (.ref 25),en P "__doc__" 204 .none] 3 }
def Tc (P:Params):Obj:={ cls:=.type "type",data:=Data.cls { name:="SluiceError",bases:=[.type "ValueError"],mro:=[.ref 24,.type "ValueError",.type "Exception",.type "BaseException",.type "object"],ns:=23,qualname:="SluiceError",subclasses:=[.ref 37,.ref 49,.ref 61,.ref 73,.ref 85,.ref 97,.ref 109,.ref 121,.ref 133,.ref 145,.ref 157,.ref 169,.ref 181,.ref 193,.ref 205,.ref 217] },slots:=#[some (.ref 15),none,some (.str "SluiceError" 189),some (.str "SluiceError" 197),some (.builtin "ValueError.__new__"),some (.bool true)] }
def S9 (P:Params):Obj:={ cls:=.type "getset_descriptor",data:=Data.fields #[.str "__weakref__" 202,.ref 24,.builtin "ExceptionGroup.__weakref__",.none] }
def Xy (P:Params):Obj:={ cls:=.type "super",data:=Data.fields #[.ref 24,.ref 24,.ref 24] }
def Xr (P:Params):Obj:={ cls:=.type "builtin_function_or_method",data:=Data.fields #[.builtin "object.__init_subclass__",.ref 24] }
def S8 (P:Params):Obj:=(tq #[.ref 24])
def Xj (P:Params):Obj:={ cls:=.type "builtin_function_or_method",data:=Data.fields #[.builtin "type.__prepare__",.type "type"] }
def Xe (P:Params):Obj:={ cls:=.type "dict",data:=Data.dict #[en P "__module__" 214 (.str "sluice.errors" 187),en P "__qualname__" 216 (.str "NoRiver" 215),en P "__firstlineno__" 218 (.int 4 217),en P "__static_attributes__" 219 (.ref 35)] 4 }
def W9 (P:Params):Obj:=(tq #[])
def W5 (P:Params):Obj:={ cls:=.none,data:=Data.fields #[] }
def W0 (P:Params):Obj:=(fc #[.str "NoRiver" 209,.str "NoRiver" 210,cp 211,.int 4 0,.int 0 0,.int 0 0,.int 0 0,.int 0 0,.ref 31,.bool false,.int 181 0,.ref 32,.none,.none,.none,.none,.int 212 0,.int 4 0,cp 213])
def WR (P:Params):Obj:={ cls:=.type "frame",slots:=#[some (.ref 33),some (.ref 3),some (.ref 30),none,some (.str "sluice.errors" 187),none,some (.ref 0)] }
def S7 (P:Params):Obj:=(tq #[])
def S6 (P:Params):Obj:={ cls:=.type "dict",data:=Data.dict #[en P "__module__" 214 (.str "sluice.errors" 187),en P "__firstlineno__" 218 (.int 4 217),en P "__static_attributes__" 219 (.ref 35),en P "__doc__" 220 .none] 2 }
def S5 (P:Params):Obj:={ cls:=.type "type",data:=Data.cls { name:="NoRiver",bases:=[.ref 24],mro:=[.ref 37,.ref 24,.type "ValueError",.type "Exception",.type "BaseException",.type "object"],ns:=36,qualname:="NoRiver" },slots:=#[some (.ref 28),none,some (.str "NoRiver" 207),some (.str "NoRiver" 215),some (.builtin "ValueError.__new__"),some (.bool true)] }
def Wr (P:Params):Obj:={ cls:=.type "super",data:=Data.fields #[.ref 37,.ref 37,.ref 37] }
def Wm (P:Params):Obj:={ cls:=.type "builtin_function_or_method",data:=Data.fields #[.builtin "object.__init_subclass__",.ref 37] }
def SX (P:Params):Obj:=(tq #[.ref 24])
def Wh (P:Params):Obj:={ cls:=.type "builtin_function_or_method",data:=Data.fields #[.builtin "type.__prepare__",.type "type"] }
def Wg (P:Params):Obj:={ cls:=.type "dict",data:=Data.dict #[en P "__module__" 230 (.str "sluice.errors" 187),en P "__qualname__" 232 (.str "NoReach" 231),en P "__firstlineno__" 234 (.int 6 233),en P "__static_attributes__" 235 (.ref 47)] 4 }
def Wf (P:Params):Obj:=(tq #[])
def Wc (P:Params):Obj:={ cls:=.none,data:=Data.fields #[] }
def Wb (P:Params):Obj:=(fc #[.str "NoReach" 225,.str "NoReach" 226,cp 227,.int 6 0,.int 0 0,.int 0 0,.int 0 0,.int 0 0,.ref 43,.bool false,.int 181 0,.ref 44,.none,.none,.none,.none,.int 228 0,.int 6 0,cp 229])
def Wa (P:Params):Obj:={ cls:=.type "frame",slots:=#[some (.ref 45),some (.ref 3),some (.ref 42),none,some (.str "sluice.errors" 187),none,some (.ref 0)] }
def SQ (P:Params):Obj:=(tq #[])
def SN (P:Params):Obj:={ cls:=.type "dict",data:=Data.dict #[en P "__module__" 230 (.str "sluice.errors" 187),en P "__firstlineno__" 234 (.int 6 233),en P "__static_attributes__" 235 (.ref 47),en P "__doc__" 236 .none] 2 }
def SM (P:Params):Obj:={ cls:=.type "type",data:=Data.cls { name:="NoReach",bases:=[.ref 24],mro:=[.ref 49,.ref 24,.type "ValueError",.type "Exception",.type "BaseException",.type "object"],ns:=48,qualname:="NoReach" },slots:=#[some (.ref 40),none,some (.str "NoReach" 223),some (.str "NoReach" 231),some (.builtin "ValueError.__new__"),some (.bool true)] }
def V9 (P:Params):Obj:={ cls:=.type "super",data:=Data.fields #[.ref 49,.ref 49,.ref 49] }
def V8 (P:Params):Obj:={ cls:=.type "builtin_function_or_method",data:=Data.fields #[.builtin "object.__init_subclass__",.ref 49] }
def SJ (P:Params):Obj:=(tq #[.ref 24])
def V7 (P:Params):Obj:={ cls:=.type "builtin_function_or_method",data:=Data.fields #[.builtin "type.__prepare__",.type "type"] }
def V5 (P:Params):Obj:={ cls:=.type "dict",data:=Data.dict #[en P "__module__" 246 (.str "sluice.errors" 187),en P "__qualname__" 248 (.str "NoLicence" 247),en P "__firstlineno__" 250 (.int 8 249),en P "__static_attributes__" 251 (.ref 59)] 4 }
def V4 (P:Params):Obj:=(tq #[])
def V3 (P:Params):Obj:={ cls:=.none,data:=Data.fields #[] }
def V2 (P:Params):Obj:=(fc #[.str "NoLicence" 241,.str "NoLicence" 242,cp 243,.int 8 0,.int 0 0,.int 0 0,.int 0 0,.int 0 0,.ref 55,.bool false,.int 181 0,.ref 56,.none,.none,.none,.none,.int 244 0,.int 8 0,cp 245])
def V1 (P:Params):Obj:={ cls:=.type "frame",slots:=#[some (.ref 57),some (.ref 3),some (.ref 54),none,some (.str "sluice.errors" 187),none,some (.ref 0)] }
def Sy (P:Params):Obj:=(tq #[])
def Sx (P:Params):Obj:={ cls:=.type "dict",data:=Data.dict #[en P "__module__" 246 (.str "sluice.errors" 187),en P "__firstlineno__" 250 (.int 8 249),en P "__static_attributes__" 251 (.ref 59),en P "__doc__" 252 .none] 2 }
def Sw (P:Params):Obj:={ cls:=.type "type",data:=Data.cls { name:="NoLicence",bases:=[.ref 24],mro:=[.ref 61,.ref 24,.type "ValueError",.type "Exception",.type "BaseException",.type "object"],ns:=60,qualname:="NoLicence" },slots:=#[some (.ref 52),none,some (.str "NoLicence" 239),some (.str "NoLicence" 247),some (.builtin "ValueError.__new__"),some (.bool true)] }
def V0 (P:Params):Obj:={ cls:=.type "super",data:=Data.fields #[.ref 61,.ref 61,.ref 61] }
def VR (P:Params):Obj:={ cls:=.type "builtin_function_or_method",data:=Data.fields #[.builtin "object.__init_subclass__",.ref 61] }
def Sv (P:Params):Obj:=(tq #[.ref 24])
def VN (P:Params):Obj:={ cls:=.type "builtin_function_or_method",data:=Data.fields #[.builtin "type.__prepare__",.type "type"] }
def VL (P:Params):Obj:={ cls:=.type "dict",data:=Data.dict #[en P "__module__" 262 (.str "sluice.errors" 187),en P "__qualname__" 264 (.str "NoNumber" 263),en P "__firstlineno__" 266 (.int 10 265),en P "__static_attributes__" 267 (.ref 71)] 4 }
def VJ (P:Params):Obj:=(tq #[])
def VH (P:Params):Obj:={ cls:=.none,data:=Data.fields #[] }
def VG (P:Params):Obj:=(fc #[.str "NoNumber" 257,.str "NoNumber" 258,cp 259,.int 10 0,.int 0 0,.int 0 0,.int 0 0,.int 0 0,.ref 67,.bool false,.int 181 0,.ref 68,.none,.none,.none,.none,.int 260 0,.int 10 0,cp 261])
def VF (P:Params):Obj:={ cls:=.type "frame",slots:=#[some (.ref 69),some (.ref 3),some (.ref 66),none,some (.str "sluice.errors" 187),none,some (.ref 0)] }
def Ss (P:Params):Obj:=(tq #[])
def Sq (P:Params):Obj:={ cls:=.type "dict",data:=Data.dict #[en P "__module__" 262 (.str "sluice.errors" 187),en P "__firstlineno__" 266 (.int 10 265),en P "__static_attributes__" 267 (.ref 71),en P "__doc__" 268 .none] 2 }
def Sg (P:Params):Obj:={ cls:=.type "type",data:=Data.cls { name:="NoNumber",bases:=[.ref 24],mro:=[.ref 73,.ref 24,.type "ValueError",.type "Exception",.type "BaseException",.type "object"],ns:=72,qualname:="NoNumber" },slots:=#[some (.ref 64),none,some (.str "NoNumber" 255),some (.str "NoNumber" 263),some (.builtin "ValueError.__new__"),some (.bool true)] }
def VB (P:Params):Obj:={ cls:=.type "super",data:=Data.fields #[.ref 73,.ref 73,.ref 73] }
def Vz (P:Params):Obj:={ cls:=.type "builtin_function_or_method",data:=Data.fields #[.builtin "object.__init_subclass__",.ref 73] }
def Sd (P:Params):Obj:=(tq #[.ref 24])
def Vy (P:Params):Obj:={ cls:=.type "builtin_function_or_method",data:=Data.fields #[.builtin "type.__prepare__",.type "type"] }
def Vx (P:Params):Obj:={ cls:=.type "dict",data:=Data.dict #[en P "__module__" 278 (.str "sluice.errors" 187),en P "__qualname__" 280 (.str "NoHolder" 279),en P "__firstlineno__" 282 (.int 12 281),en P "__static_attributes__" 283 (.ref 83)] 4 }
def Vw (P:Params):Obj:=(tq #[])
def Vv (P:Params):Obj:={ cls:=.none,data:=Data.fields #[] }
def Vu (P:Params):Obj:=(fc #[.str "NoHolder" 273,.str "NoHolder" 274,cp 275,.int 12 0,.int 0 0,.int 0 0,.int 0 0,.int 0 0,.ref 79,.bool false,.int 181 0,.ref 80,.none,.none,.none,.none,.int 276 0,.int 12 0,cp 277])
def Vt (P:Params):Obj:={ cls:=.type "frame",slots:=#[some (.ref 81),some (.ref 3),some (.ref 78),none,some (.str "sluice.errors" 187),none,some (.ref 0)] }
def R9 (P:Params):Obj:=(tq #[])
def R8 (P:Params):Obj:={ cls:=.type "dict",data:=Data.dict #[en P "__module__" 278 (.str "sluice.errors" 187),en P "__firstlineno__" 282 (.int 12 281),en P "__static_attributes__" 283 (.ref 83),en P "__doc__" 284 .none] 2 }
def R7 (P:Params):Obj:={ cls:=.type "type",data:=Data.cls { name:="NoHolder",bases:=[.ref 24],mro:=[.ref 85,.ref 24,.type "ValueError",.type "Exception",.type "BaseException",.type "object"],ns:=84,qualname:="NoHolder" },slots:=#[some (.ref 76),none,some (.str "NoHolder" 271),some (.str "NoHolder" 279),some (.builtin "ValueError.__new__"),some (.bool true)] }
def Vr (P:Params):Obj:={ cls:=.type "super",data:=Data.fields #[.ref 85,.ref 85,.ref 85] }
def Vq (P:Params):Obj:={ cls:=.type "builtin_function_or_method",data:=Data.fields #[.builtin "object.__init_subclass__",.ref 85] }
def R6 (P:Params):Obj:=(tq #[.ref 24])
def Vp (P:Params):Obj:={ cls:=.type "builtin_function_or_method",data:=Data.fields #[.builtin "type.__prepare__",.type "type"] }
def Vo (P:Params):Obj:={ cls:=.type "dict",data:=Data.dict #[en P "__module__" 294 (.str "sluice.errors" 187),en P "__qualname__" 296 (.str "NotYours" 295),en P "__firstlineno__" 298 (.int 14 297),en P "__static_attributes__" 299 (.ref 95)] 4 }
def Vn (P:Params):Obj:=(tq #[])
def Vm (P:Params):Obj:={ cls:=.none,data:=Data.fields #[] }
def Vl (P:Params):Obj:=(fc #[.str "NotYours" 289,.str "NotYours" 290,cp 291,.int 14 0,.int 0 0,.int 0 0,.int 0 0,.int 0 0,.ref 91,.bool false,.int 181 0,.ref 92,.none,.none,.none,.none,.int 292 0,.int 14 0,cp 293])
def QL (P:Params):Obj:={ cls:=.type "frame",slots:=#[some (.ref 93),some (.ref 3),some (.ref 90),none,some (.str "sluice.errors" 187),none,some (.ref 0)] }
def Dr (P:Params):Obj:=(tq #[])
def Dq (P:Params):Obj:={ cls:=.type "dict",data:=Data.dict #[en P "__module__" 294 (.str "sluice.errors" 187),en P "__firstlineno__" 298 (.int 14 297),en P "__static_attributes__" 299 (.ref 95),en P "__doc__" 300 .none] 2 }
def Dp (P:Params):Obj:={ cls:=.type "type",data:=Data.cls { name:="NotYours",bases:=[.ref 24],mro:=[.ref 97,.ref 24,.type "ValueError",.type "Exception",.type "BaseException",.type "object"],ns:=96,qualname:="NotYours" },slots:=#[some (.ref 88),none,some (.str "NotYours" 287),some (.str "NotYours" 295),some (.builtin "ValueError.__new__"),some (.bool true)] }
def QK (P:Params):Obj:={ cls:=.type "super",data:=Data.fields #[.ref 97,.ref 97,.ref 97] }
def QJ (P:Params):Obj:={ cls:=.type "builtin_function_or_method",data:=Data.fields #[.builtin "object.__init_subclass__",.ref 97] }
def Dn (P:Params):Obj:=(tq #[.ref 24])
def QH (P:Params):Obj:={ cls:=.type "builtin_function_or_method",data:=Data.fields #[.builtin "type.__prepare__",.type "type"] }
def QG (P:Params):Obj:={ cls:=.type "dict",data:=Data.dict #[en P "__module__" 310 (.str "sluice.errors" 187),en P "__qualname__" 312 (.str "NotAlone" 311),en P "__firstlineno__" 314 (.int 16 313),en P "__static_attributes__" 315 (.ref 107)] 4 }
def QF (P:Params):Obj:=(tq #[])
def QD (P:Params):Obj:={ cls:=.none,data:=Data.fields #[] }
def QC (P:Params):Obj:=(fc #[.str "NotAlone" 305,.str "NotAlone" 306,cp 307,.int 16 0,.int 0 0,.int 0 0,.int 0 0,.int 0 0,.ref 103,.bool false,.int 181 0,.ref 104,.none,.none,.none,.none,.int 308 0,.int 16 0,cp 309])
def QB (P:Params):Obj:={ cls:=.type "frame",slots:=#[some (.ref 105),some (.ref 3),some (.ref 102),none,some (.str "sluice.errors" 187),none,some (.ref 0)] }
def Dl (P:Params):Obj:=(tq #[])
def Dk (P:Params):Obj:={ cls:=.type "dict",data:=Data.dict #[en P "__module__" 310 (.str "sluice.errors" 187),en P "__firstlineno__" 314 (.int 16 313),en P "__static_attributes__" 315 (.ref 107),en P "__doc__" 316 .none] 2 }
def Dj (P:Params):Obj:={ cls:=.type "type",data:=Data.cls { name:="NotAlone",bases:=[.ref 24],mro:=[.ref 109,.ref 24,.type "ValueError",.type "Exception",.type "BaseException",.type "object"],ns:=108,qualname:="NotAlone" },slots:=#[some (.ref 100),none,some (.str "NotAlone" 303),some (.str "NotAlone" 311),some (.builtin "ValueError.__new__"),some (.bool true)] }
def Qz (P:Params):Obj:={ cls:=.type "super",data:=Data.fields #[.ref 109,.ref 109,.ref 109] }
def Qy (P:Params):Obj:={ cls:=.type "builtin_function_or_method",data:=Data.fields #[.builtin "object.__init_subclass__",.ref 109] }
def Di (P:Params):Obj:=(tq #[.ref 24])
def Qx (P:Params):Obj:={ cls:=.type "builtin_function_or_method",data:=Data.fields #[.builtin "type.__prepare__",.type "type"] }
def Qw (P:Params):Obj:={ cls:=.type "dict",data:=Data.dict #[en P "__module__" 326 (.str "sluice.errors" 187),en P "__qualname__" 328 (.str "TooMuch" 327),en P "__firstlineno__" 330 (.int 18 329),en P "__static_attributes__" 331 (.ref 119)] 4 }
def Qv (P:Params):Obj:=(tq #[])
def Qu (P:Params):Obj:={ cls:=.none,data:=Data.fields #[] }
def Qt (P:Params):Obj:=(fc #[.str "TooMuch" 321,.str "TooMuch" 322,cp 323,.int 18 0,.int 0 0,.int 0 0,.int 0 0,.int 0 0,.ref 115,.bool false,.int 181 0,.ref 116,.none,.none,.none,.none,.int 324 0,.int 18 0,cp 325])
def Qs (P:Params):Obj:={ cls:=.type "frame",slots:=#[some (.ref 117),some (.ref 3),some (.ref 114),none,some (.str "sluice.errors" 187),none,some (.ref 0)] }
def Dh (P:Params):Obj:=(tq #[])
def Dg (P:Params):Obj:={ cls:=.type "dict",data:=Data.dict #[en P "__module__" 326 (.str "sluice.errors" 187),en P "__firstlineno__" 330 (.int 18 329),en P "__static_attributes__" 331 (.ref 119),en P "__doc__" 332 .none] 2 }
def Dd (P:Params):Obj:={ cls:=.type "type",data:=Data.cls { name:="TooMuch",bases:=[.ref 24],mro:=[.ref 121,.ref 24,.type "ValueError",.type "Exception",.type "BaseException",.type "object"],ns:=120,qualname:="TooMuch" },slots:=#[some (.ref 112),none,some (.str "TooMuch" 319),some (.str "TooMuch" 327),some (.builtin "ValueError.__new__"),some (.bool true)] }
def Qq (P:Params):Obj:={ cls:=.type "super",data:=Data.fields #[.ref 121,.ref 121,.ref 121] }
def Qp (P:Params):Obj:={ cls:=.type "builtin_function_or_method",data:=Data.fields #[.builtin "object.__init_subclass__",.ref 121] }
def Dc (P:Params):Obj:=(tq #[.ref 24])
def Qo (P:Params):Obj:={ cls:=.type "builtin_function_or_method",data:=Data.fields #[.builtin "type.__prepare__",.type "type"] }
def Qn (P:Params):Obj:={ cls:=.type "dict",data:=Data.dict #[en P "__module__" 342 (.str "sluice.errors" 187),en P "__qualname__" 344 (.str "Full" 343),en P "__firstlineno__" 346 (.int 20 345),en P "__static_attributes__" 347 (.ref 131)] 4 }
def Qm (P:Params):Obj:=(tq #[])
def Ql (P:Params):Obj:={ cls:=.none,data:=Data.fields #[] }
def Qk (P:Params):Obj:=(fc #[.str "Full" 337,.str "Full" 338,cp 339,.int 20 0,.int 0 0,.int 0 0,.int 0 0,.int 0 0,.ref 127,.bool false,.int 181 0,.ref 128,.none,.none,.none,.none,.int 340 0,.int 20 0,cp 341])
def Qj (P:Params):Obj:={ cls:=.type "frame",slots:=#[some (.ref 129),some (.ref 3),some (.ref 126),none,some (.str "sluice.errors" 187),none,some (.ref 0)] }
def CZ (P:Params):Obj:=(tq #[])
def CW (P:Params):Obj:={ cls:=.type "dict",data:=Data.dict #[en P "__module__" 342 (.str "sluice.errors" 187),en P "__firstlineno__" 346 (.int 20 345),en P "__static_attributes__" 347 (.ref 131),en P "__doc__" 348 .none] 2 }
def CV (P:Params):Obj:={ cls:=.type "type",data:=Data.cls { name:="Full",bases:=[.ref 24],mro:=[.ref 133,.ref 24,.type "ValueError",.type "Exception",.type "BaseException",.type "object"],ns:=132,qualname:="Full" },slots:=#[some (.ref 124),none,some (.str "Full" 335),some (.str "Full" 343),some (.builtin "ValueError.__new__"),some (.bool true)] }
def Qi (P:Params):Obj:={ cls:=.type "super",data:=Data.fields #[.ref 133,.ref 133,.ref 133] }
def Qh (P:Params):Obj:={ cls:=.type "builtin_function_or_method",data:=Data.fields #[.builtin "object.__init_subclass__",.ref 133] }
def CT (P:Params):Obj:=(tq #[.ref 24])
def Qg (P:Params):Obj:={ cls:=.type "builtin_function_or_method",data:=Data.fields #[.builtin "type.__prepare__",.type "type"] }
def Qf (P:Params):Obj:={ cls:=.type "dict",data:=Data.dict #[en P "__module__" 358 (.str "sluice.errors" 187),en P "__qualname__" 360 (.str "NoPaper" 359),en P "__firstlineno__" 362 (.int 22 361),en P "__static_attributes__" 363 (.ref 143)] 4 }
def Qe (P:Params):Obj:=(tq #[])
def Qd (P:Params):Obj:={ cls:=.none,data:=Data.fields #[] }
def Qc (P:Params):Obj:=(fc #[.str "NoPaper" 353,.str "NoPaper" 354,cp 355,.int 22 0,.int 0 0,.int 0 0,.int 0 0,.int 0 0,.ref 139,.bool false,.int 181 0,.ref 140,.none,.none,.none,.none,.int 356 0,.int 22 0,cp 357])
def Qa (P:Params):Obj:={ cls:=.type "frame",slots:=#[some (.ref 141),some (.ref 3),some (.ref 138),none,some (.str "sluice.errors" 187),none,some (.ref 0)] }
def CQ (P:Params):Obj:=(tq #[])
def CP (P:Params):Obj:={ cls:=.type "dict",data:=Data.dict #[en P "__module__" 358 (.str "sluice.errors" 187),en P "__firstlineno__" 362 (.int 22 361),en P "__static_attributes__" 363 (.ref 143),en P "__doc__" 364 .none] 2 }
def CN (P:Params):Obj:={ cls:=.type "type",data:=Data.cls { name:="NoPaper",bases:=[.ref 24],mro:=[.ref 145,.ref 24,.type "ValueError",.type "Exception",.type "BaseException",.type "object"],ns:=144,qualname:="NoPaper" },slots:=#[some (.ref 136),none,some (.str "NoPaper" 351),some (.str "NoPaper" 359),some (.builtin "ValueError.__new__"),some (.bool true)] }
def PX (P:Params):Obj:={ cls:=.type "super",data:=Data.fields #[.ref 145,.ref 145,.ref 145] }
def PN (P:Params):Obj:={ cls:=.type "builtin_function_or_method",data:=Data.fields #[.builtin "object.__init_subclass__",.ref 145] }
def CK (P:Params):Obj:=(tq #[.ref 24])
def PL (P:Params):Obj:={ cls:=.type "builtin_function_or_method",data:=Data.fields #[.builtin "type.__prepare__",.type "type"] }
def PK (P:Params):Obj:={ cls:=.type "dict",data:=Data.dict #[en P "__module__" 374 (.str "sluice.errors" 187),en P "__qualname__" 376 (.str "NoCut" 375),en P "__firstlineno__" 378 (.int 24 377),en P "__static_attributes__" 379 (.ref 155)] 4 }
def PJ (P:Params):Obj:=(tq #[])
def PB (P:Params):Obj:={ cls:=.none,data:=Data.fields #[] }
def Py (P:Params):Obj:=(fc #[.str "NoCut" 369,.str "NoCut" 370,cp 371,.int 24 0,.int 0 0,.int 0 0,.int 0 0,.int 0 0,.ref 151,.bool false,.int 181 0,.ref 152,.none,.none,.none,.none,.int 372 0,.int 24 0,cp 373])
def Px (P:Params):Obj:={ cls:=.type "frame",slots:=#[some (.ref 153),some (.ref 3),some (.ref 150),none,some (.str "sluice.errors" 187),none,some (.ref 0)] }
def CJ (P:Params):Obj:=(tq #[])
def CG (P:Params):Obj:={ cls:=.type "dict",data:=Data.dict #[en P "__module__" 374 (.str "sluice.errors" 187),en P "__firstlineno__" 378 (.int 24 377),en P "__static_attributes__" 379 (.ref 155),en P "__doc__" 380 .none] 2 }
def Cz (P:Params):Obj:={ cls:=.type "type",data:=Data.cls { name:="NoCut",bases:=[.ref 24],mro:=[.ref 157,.ref 24,.type "ValueError",.type "Exception",.type "BaseException",.type "object"],ns:=156,qualname:="NoCut" },slots:=#[some (.ref 148),none,some (.str "NoCut" 367),some (.str "NoCut" 375),some (.builtin "ValueError.__new__"),some (.bool true)] }
def Pu (P:Params):Obj:={ cls:=.type "super",data:=Data.fields #[.ref 157,.ref 157,.ref 157] }
def Pr (P:Params):Obj:={ cls:=.type "builtin_function_or_method",data:=Data.fields #[.builtin "object.__init_subclass__",.ref 157] }
def Cy (P:Params):Obj:=(tq #[.ref 24])
def Pq (P:Params):Obj:={ cls:=.type "builtin_function_or_method",data:=Data.fields #[.builtin "type.__prepare__",.type "type"] }
def Pn (P:Params):Obj:={ cls:=.type "dict",data:=Data.dict #[en P "__module__" 390 (.str "sluice.errors" 187),en P "__qualname__" 392 (.str "NoPond" 391),en P "__firstlineno__" 394 (.int 26 393),en P "__static_attributes__" 395 (.ref 167)] 4 }
def Pk (P:Params):Obj:=(tq #[])
def Pj (P:Params):Obj:={ cls:=.none,data:=Data.fields #[] }
def Ph (P:Params):Obj:=(fc #[.str "NoPond" 385,.str "NoPond" 386,cp 387,.int 26 0,.int 0 0,.int 0 0,.int 0 0,.int 0 0,.ref 163,.bool false,.int 181 0,.ref 164,.none,.none,.none,.none,.int 388 0,.int 26 0,cp 389])
def Pb (P:Params):Obj:={ cls:=.type "frame",slots:=#[some (.ref 165),some (.ref 3),some (.ref 162),none,some (.str "sluice.errors" 187),none,some (.ref 0)] }
def Cw (P:Params):Obj:=(tq #[])
def Cv (P:Params):Obj:={ cls:=.type "dict",data:=Data.dict #[en P "__module__" 390 (.str "sluice.errors" 187),en P "__firstlineno__" 394 (.int 26 393),en P "__static_attributes__" 395 (.ref 167),en P "__doc__" 396 .none] 2 }
def Cu (P:Params):Obj:={ cls:=.type "type",data:=Data.cls { name:="NoPond",bases:=[.ref 24],mro:=[.ref 169,.ref 24,.type "ValueError",.type "Exception",.type "BaseException",.type "object"],ns:=168,qualname:="NoPond" },slots:=#[some (.ref 160),none,some (.str "NoPond" 383),some (.str "NoPond" 391),some (.builtin "ValueError.__new__"),some (.bool true)] }
def Pa (P:Params):Obj:={ cls:=.type "super",data:=Data.fields #[.ref 169,.ref 169,.ref 169] }
def O9 (P:Params):Obj:={ cls:=.type "builtin_function_or_method",data:=Data.fields #[.builtin "object.__init_subclass__",.ref 169] }
def Cr (P:Params):Obj:=(tq #[.ref 24])
def O8 (P:Params):Obj:={ cls:=.type "builtin_function_or_method",data:=Data.fields #[.builtin "type.__prepare__",.type "type"] }
def OJ (P:Params):Obj:={ cls:=.type "dict",data:=Data.dict #[en P "__module__" 406 (.str "sluice.errors" 187),en P "__qualname__" 408 (.str "NoDay" 407),en P "__firstlineno__" 410 (.int 28 409),en P "__static_attributes__" 411 (.ref 179)] 4 }
def Oz (P:Params):Obj:=(tq #[])
def Ox (P:Params):Obj:={ cls:=.none,data:=Data.fields #[] }
def Ov (P:Params):Obj:=(fc #[.str "NoDay" 401,.str "NoDay" 402,cp 403,.int 28 0,.int 0 0,.int 0 0,.int 0 0,.int 0 0,.ref 175,.bool false,.int 181 0,.ref 176,.none,.none,.none,.none,.int 404 0,.int 28 0,cp 405])
def Ou (P:Params):Obj:={ cls:=.type "frame",slots:=#[some (.ref 177),some (.ref 3),some (.ref 174),none,some (.str "sluice.errors" 187),none,some (.ref 0)] }
def Cq (P:Params):Obj:=(tq #[])
def Cp (P:Params):Obj:={ cls:=.type "dict",data:=Data.dict #[en P "__module__" 406 (.str "sluice.errors" 187),en P "__firstlineno__" 410 (.int 28 409),en P "__static_attributes__" 411 (.ref 179),en P "__doc__" 412 .none] 2 }
def Cm (P:Params):Obj:={ cls:=.type "type",data:=Data.cls { name:="NoDay",bases:=[.ref 24],mro:=[.ref 181,.ref 24,.type "ValueError",.type "Exception",.type "BaseException",.type "object"],ns:=180,qualname:="NoDay" },slots:=#[some (.ref 172),none,some (.str "NoDay" 399),some (.str "NoDay" 407),some (.builtin "ValueError.__new__"),some (.bool true)] }
def Ot (P:Params):Obj:={ cls:=.type "super",data:=Data.fields #[.ref 181,.ref 181,.ref 181] }
def Oq (P:Params):Obj:={ cls:=.type "builtin_function_or_method",data:=Data.fields #[.builtin "object.__init_subclass__",.ref 181] }
def Ck (P:Params):Obj:=(tq #[.ref 24])
def Oo (P:Params):Obj:={ cls:=.type "builtin_function_or_method",data:=Data.fields #[.builtin "type.__prepare__",.type "type"] }
def Om (P:Params):Obj:={ cls:=.type "dict",data:=Data.dict #[en P "__module__" 422 (.str "sluice.errors" 187),en P "__qualname__" 424 (.str "Fixed" 423),en P "__firstlineno__" 426 (.int 30 425),en P "__static_attributes__" 427 (.ref 191)] 4 }
def Ol (P:Params):Obj:=(tq #[])
def Oj (P:Params):Obj:={ cls:=.none,data:=Data.fields #[] }
def Oi (P:Params):Obj:=(fc #[.str "Fixed" 417,.str "Fixed" 418,cp 419,.int 30 0,.int 0 0,.int 0 0,.int 0 0,.int 0 0,.ref 187,.bool false,.int 181 0,.ref 188,.none,.none,.none,.none,.int 420 0,.int 30 0,cp 421])
def Oh (P:Params):Obj:={ cls:=.type "frame",slots:=#[some (.ref 189),some (.ref 3),some (.ref 186),none,some (.str "sluice.errors" 187),none,some (.ref 0)] }
def Cj (P:Params):Obj:=(tq #[])
def Ci (P:Params):Obj:={ cls:=.type "dict",data:=Data.dict #[en P "__module__" 422 (.str "sluice.errors" 187),en P "__firstlineno__" 426 (.int 30 425),en P "__static_attributes__" 427 (.ref 191),en P "__doc__" 428 .none] 2 }
def Cg (P:Params):Obj:={ cls:=.type "type",data:=Data.cls { name:="Fixed",bases:=[.ref 24],mro:=[.ref 193,.ref 24,.type "ValueError",.type "Exception",.type "BaseException",.type "object"],ns:=192,qualname:="Fixed" },slots:=#[some (.ref 184),none,some (.str "Fixed" 415),some (.str "Fixed" 423),some (.builtin "ValueError.__new__"),some (.bool true)] }
def Og (P:Params):Obj:={ cls:=.type "super",data:=Data.fields #[.ref 193,.ref 193,.ref 193] }
def Oe (P:Params):Obj:={ cls:=.type "builtin_function_or_method",data:=Data.fields #[.builtin "object.__init_subclass__",.ref 193] }
def Ce (P:Params):Obj:=(tq #[.ref 24])
def Od (P:Params):Obj:={ cls:=.type "builtin_function_or_method",data:=Data.fields #[.builtin "type.__prepare__",.type "type"] }
def Oc (P:Params):Obj:={ cls:=.type "dict",data:=Data.dict #[en P "__module__" 438 (.str "sluice.errors" 187),en P "__qualname__" 440 (.str "Harms" 439),en P "__firstlineno__" 442 (.int 32 441),en P "__static_attributes__" 443 (.ref 203)] 4 }
def Ob (P:Params):Obj:=(tq #[])
def Oa (P:Params):Obj:={ cls:=.none,data:=Data.fields #[] }
def N8 (P:Params):Obj:=(fc #[.str "Harms" 433,.str "Harms" 434,cp 435,.int 32 0,.int 0 0,.int 0 0,.int 0 0,.int 0 0,.ref 199,.bool false,.int 181 0,.ref 200,.none,.none,.none,.none,.int 436 0,.int 32 0,cp 437])
def N7 (P:Params):Obj:={ cls:=.type "frame",slots:=#[some (.ref 201),some (.ref 3),some (.ref 198),none,some (.str "sluice.errors" 187),none,some (.ref 0)] }
def Cd (P:Params):Obj:=(tq #[])
def Ca (P:Params):Obj:={ cls:=.type "dict",data:=Data.dict #[en P "__module__" 438 (.str "sluice.errors" 187),en P "__firstlineno__" 442 (.int 32 441),en P "__static_attributes__" 443 (.ref 203),en P "__doc__" 444 .none] 2 }
def BZ (P:Params):Obj:={ cls:=.type "type",data:=Data.cls { name:="Harms",bases:=[.ref 24],mro:=[.ref 205,.ref 24,.type "ValueError",.type "Exception",.type "BaseException",.type "object"],ns:=204,qualname:="Harms" },slots:=#[some (.ref 196),none,some (.str "Harms" 431),some (.str "Harms" 439),some (.builtin "ValueError.__new__"),some (.bool true)] }
def N6 (P:Params):Obj:={ cls:=.type "super",data:=Data.fields #[.ref 205,.ref 205,.ref 205] }
def N5 (P:Params):Obj:={ cls:=.type "builtin_function_or_method",data:=Data.fields #[.builtin "object.__init_subclass__",.ref 205] }
def BX (P:Params):Obj:=(tq #[.ref 24])
def NZ (P:Params):Obj:={ cls:=.type "builtin_function_or_method",data:=Data.fields #[.builtin "type.__prepare__",.type "type"] }
def NT (P:Params):Obj:={ cls:=.type "dict",data:=Data.dict #[en P "__module__" 454 (.str "sluice.errors" 187),en P "__qualname__" 456 (.str "NoRow" 455),en P "__firstlineno__" 458 (.int 34 457),en P "__static_attributes__" 459 (.ref 215)] 4 }
def NQ (P:Params):Obj:=(tq #[])
def NP (P:Params):Obj:={ cls:=.none,data:=Data.fields #[] }
def NK (P:Params):Obj:=(fc #[.str "NoRow" 449,.str "NoRow" 450,cp 451,.int 34 0,.int 0 0,.int 0 0,.int 0 0,.int 0 0,.ref 211,.bool false,.int 181 0,.ref 212,.none,.none,.none,.none,.int 452 0,.int 34 0,cp 453])
def Nz (P:Params):Obj:={ cls:=.type "frame",slots:=#[some (.ref 213),some (.ref 3),some (.ref 210),none,some (.str "sluice.errors" 187),none,some (.ref 0)] }
def BW (P:Params):Obj:=(tq #[])
def BR (P:Params):Obj:={ cls:=.type "dict",data:=Data.dict #[en P "__module__" 454 (.str "sluice.errors" 187),en P "__firstlineno__" 458 (.int 34 457),en P "__static_attributes__" 459 (.ref 215),en P "__doc__" 460 .none] 2 }
def BP (P:Params):Obj:={ cls:=.type "type",data:=Data.cls { name:="NoRow",bases:=[.ref 24],mro:=[.ref 217,.ref 24,.type "ValueError",.type "Exception",.type "BaseException",.type "object"],ns:=216,qualname:="NoRow" },slots:=#[some (.ref 208),none,some (.str "NoRow" 447),some (.str "NoRow" 455),some (.builtin "ValueError.__new__"),some (.bool true)] }
def Ny (P:Params):Obj:={ cls:=.type "super",data:=Data.fields #[.ref 217,.ref 217,.ref 217] }
def Nx (P:Params):Obj:={ cls:=.type "builtin_function_or_method",data:=Data.fields #[.builtin "object.__init_subclass__",.ref 217] }
def Nv (P:Params):Obj:={ cls:=.type "dict",data:=Data.dict #[en P "__name__" 165 (.str "law_sluice_k33_cut_refused" 673),en P "__doc__" 166 .none,en P "__package__" 167 .none,en P "__loader__" 168 (.builtin "__main__.__loader__#opaque"),en P "__spec__" 169 .none,en P "__annotations__" 170 (.ref 6),en P "__builtins__" 171 (.ref 4),en P "__file__" 173 (cp 172),en P "__cached__" 174 .none,en P "SluiceError" 206 (.ref 24),en P "NoRiver" 222 (.ref 37),en P "NoReach" 238 (.ref 49),en P "NoLicence" 254 (.ref 61),en P "NoNumber" 270 (.ref 73),en P "NoHolder" 286 (.ref 85),en P "NotYours" 302 (.ref 97),en P "NotAlone" 318 (.ref 109),en P "TooMuch" 334 (.ref 121),en P "Full" 350 (.ref 133),en P "NoPaper" 366 (.ref 145),en P "NoCut" 382 (.ref 157),en P "NoPond" 398 (.ref 169),en P "NoDay" 414 (.ref 181),en P "Fixed" 430 (.ref 193),en P "Harms" 446 (.ref 205),en P "NoRow" 462 (.ref 217),en P "MOUTH" 467 (.int (-1) 466),en P "way_of" 476 (.ref 226),en P "tops_first" 484 (.ref 233),en P "stretch_of" 494 (.ref 240),en P "natural_of" 506 (.ref 247),en P "reaches_of" 520 (.ref 254),en P "day_filed" 527 (.ref 261),en P "gives_back" 534 (.ref 268),en P "most_of" 541 (.ref 275),en P "ranked" 549 (.ref 282),en P "groups_of" 558 (.ref 289),en P "wants_of" 564 (.ref 294),en P "count_ways" 577 (.ref 301),en P "whole_turns" 583 (.ref 306),en P "draw" 593 (.ref 313),en P "take_whole_turns" 599 (.ref 318),en P "take_one_turn" 605 (.ref 323),en P "deal_turns" 617 (.ref 330),en P "deal" 625 (.ref 335),en P "holds_of" 640 (.ref 342),en P "free_of" 646 (.ref 347),en P "dry_of" 654 (.ref 352),en P "meets" 660 (.ref 357),en P "lowest_of" 666 (.ref 362),en P "cut_of" 672 (.ref 367),en P "_law_cell_at" 682 (.ref 374),en P "_law_whole" 689 (.ref 381),en P "_law_draw" 699 (.ref 388),en P "_law_mixed" 705 (.ref 393),en P "_law_river" 711 (.ref 398),en P "_law_springs" 722 (.ref 405),en P "_law_way" 731 (.ref 412),en P "_law_drawn" 744 (.ref 419),en P "_law_giving" 750 (.ref 424),en P "_law_more" 763 (.ref 431),en P "_law_other_name" 770 (.ref 438),en P "_law_refused" 782 (.ref 445),en P "law" 788 (.ref 450)] 64 }
def Yt (P:Params):Obj:={ cls:=.none,data:=Data.fields #[.int 2 0,.int 0 0,.ref 20,.int 4 0,.int 0 0,.ref 33,.int 6 0,.int 0 0,.ref 45,.int 8 0,.int 0 0,.ref 57,.int 10 0,.int 0 0,.ref 69,.int 12 0,.int 0 0,.ref 81,.int 14 0,.int 0 0,.ref 93,.int 16 0,.int 0 0,.ref 105,.int 18 0,.int 0 0,.ref 117,.int 20 0,.int 0 0,.ref 129,.int 22 0,.int 0 0,.ref 141,.int 24 0,.int 0 0,.ref 153,.int 26 0,.int 0 0,.ref 165,.int 28 0,.int 0 0,.ref 177,.int 30 0,.int 0 0,.ref 189,.int 32 0,.int 0 0,.ref 201,.int 34 0,.int 0 0,.ref 213,.int 38 0,.int 0 0,.ref 225,.int 43 0,.int 0 0,.ref 232,.int 45 0,.int 0 0,.ref 239,.int 53 0,.int 0 0,.ref 246,.int 60 0,.int 0 0,.ref 253,.int 63 0,.int 0 0,.ref 260,.int 65 0,.int 0 0,.ref 267,.int 67 0,.int 0 0,.ref 274,.int 69 0,.int 0 0,.ref 281,.int 71 0,.int 0 0,.ref 288,.int 76 0,.int 0 0,.ref 293,.int 79 0,.int 0 0,.ref 300,.int 85 0,.int 0 0,.ref 305,.int 89 0,.int 0 0,.ref 312,.int 92 0,.int 0 0,.ref 317,.int 98 0,.int 0 0,.ref 322,.int 106 0,.int 0 0,.ref 329,.int 115 0,.int 0 0,.ref 334,.int 126 0,.int 0 0,.ref 341,.int 132 0,.int 0 0,.ref 346,.int 136 0,.int 0 0,.ref 351,.int 138 0,.int 0 0,.ref 356,.int 140 0,.int 0 0,.ref 361,.int 142 0,.int 0 0,.ref 366,.int 153 0,.int 0 0,.ref 373,.int 157 0,.int 0 0,.ref 380,.int 159 0,.int 0 0,.ref 387,.int 163 0,.int 0 0,.ref 392,.int 165 0,.int 0 0,.ref 397,.int 176 0,.int 0 0,.ref 404,.int 186 0,.int 0 0,.ref 411,.int 192 0,.int 0 0,.ref 418,.int 202 0,.int 0 0,.ref 423,.int 209 0,.int 0 0,.ref 430,.int 217 0,.int 0 0,.ref 437,.int 225 0,.int 0 0,.ref 444,.int 232 0,.int 0 0,.ref 449] }
def Nu (P:Params):Obj:=(tq #[])
def Yr (P:Params):Obj:={ cls:=.none,data:=Data.fields #[] }
def Nt (P:Params):Obj:=(tq #[.str "below" 471,.str "reach" 472,.str "way" 473])
def Nr (P:Params):Obj:=(tq #[])
def Yq (P:Params):Obj:=(pr0 "way_of" 20)
def Nq (P:Params):Obj:=(fc #[.str "way_of" 468,.str "way_of" 469,cp 470,.int 38 0,.int 2 0,.int 0 0,.int 0 0,.int 3 0,.ref 220,.bool true,.int 181 0,.ref 221,.none,.ref 222,.ref 223,.ref 224,.int 474 0,.int 38 0,cp 475])
def Np (P:Params):Obj:=⟨.type "function",none,.func (PySem.W.fnOf "way_of" "way_of" (aC (top0 20)) (aB (top0 20)) (ao (top0 20)) .none .none .none (.str "sluice.rivers" 463) none (.ref 225) .none),#[]⟩
def Nm (P:Params):Obj:=(tq #[])
def Yp (P:Params):Obj:={ cls:=.none,data:=Data.fields #[] }
def Nk (P:Params):Obj:=(tq #[.str "below" 480])
def Nj (P:Params):Obj:=(tq #[.str "below" 481])
def Yn (P:Params):Obj:=(pr0 "tops_first" 21)
def Ni (P:Params):Obj:=(fc #[.str "tops_first" 477,.str "tops_first" 478,cp 479,.int 43 0,.int 1 0,.int 0 0,.int 0 0,.int 3 0,.ref 227,.bool true,.int 181 0,.ref 228,.none,.ref 229,.ref 230,.ref 231,.int 482 0,.int 43 0,cp 483])
def Nh (P:Params):Obj:=⟨.type "function",none,.func (PySem.W.fnOf "tops_first" "tops_first" (aC (top0 21)) (aB (top0 21)) (ao (top0 21)) .none .none .none (.str "sluice.rivers" 463) none (.ref 232) .none),#[]⟩
def Ng (P:Params):Obj:=(tq #[])
def Ym (P:Params):Obj:={ cls:=.none,data:=Data.fields #[] }
def Nf (P:Params):Obj:=(tq #[.str "below" 488,.str "start" 489,.str "stop" 490,.str "way" 491])
def Nb (P:Params):Obj:=(tq #[])
def Yl (P:Params):Obj:=(pr0 "stretch_of" 22)
def M9 (P:Params):Obj:=(fc #[.str "stretch_of" 485,.str "stretch_of" 486,cp 487,.int 45 0,.int 3 0,.int 0 0,.int 0 0,.int 3 0,.ref 234,.bool true,.int 181 0,.ref 235,.none,.ref 236,.ref 237,.ref 238,.int 492 0,.int 45 0,cp 493])
def M8 (P:Params):Obj:=⟨.type "function",none,.func (PySem.W.fnOf "stretch_of" "stretch_of" (aC (top0 22)) (aB (top0 22)) (ao (top0 22)) .none .none .none (.str "sluice.rivers" 463) none (.ref 239) .none),#[]⟩
def M7 (P:Params):Obj:=(tq #[])
def Yj (P:Params):Obj:={ cls:=.none,data:=Data.fields #[] }
def M6 (P:Params):Obj:=(tq #[.str "below" 500,.str "springs" 501,.str "flows" 502,.str "reach" 503])
def M5 (P:Params):Obj:=(tq #[])
def Yi (P:Params):Obj:=(pr0 "natural_of" 24)
def M4 (P:Params):Obj:=(fc #[.str "natural_of" 497,.str "natural_of" 498,cp 499,.int 53 0,.int 2 0,.int 0 0,.int 0 0,.int 3 0,.ref 241,.bool true,.int 181 0,.ref 242,.none,.ref 243,.ref 244,.ref 245,.int 504 0,.int 53 0,cp 505])
def MP (P:Params):Obj:=⟨.type "function",none,.func (PySem.W.fnOf "natural_of" "natural_of" (aC (top0 24)) (aB (top0 24)) (ao (top0 24)) .none .none .none (.str "sluice.flows" 495) none (.ref 246) .none),#[]⟩
def MN (P:Params):Obj:=(tq #[])
def Yh (P:Params):Obj:={ cls:=.none,data:=Data.fields #[] }
def MK (P:Params):Obj:=(tq #[.str "below" 512,.str "one" 513,.str "day" 514,.str "start" 515,.str "back" 516,.str "most" 517])
def MJ (P:Params):Obj:=(tq #[])
def Ye (P:Params):Obj:=(pr0 "reaches_of" 26)
def MF (P:Params):Obj:=(fc #[.str "reaches_of" 509,.str "reaches_of" 510,cp 511,.int 60 0,.int 2 0,.int 0 0,.int 0 0,.int 3 0,.ref 248,.bool true,.int 181 0,.ref 249,.none,.ref 250,.ref 251,.ref 252,.int 518 0,.int 60 0,cp 519])
def Mz (P:Params):Obj:=⟨.type "function",none,.func (PySem.W.fnOf "reaches_of" "reaches_of" (aC (top0 26)) (aB (top0 26)) (ao (top0 26)) .none .none .none (.str "sluice.licences" 507) none (.ref 253) .none),#[]⟩
def Mx (P:Params):Obj:=(tq #[])
def Yd (P:Params):Obj:={ cls:=.none,data:=Data.fields #[] }
def Mw (P:Params):Obj:=(tq #[.str "one" 524])
def Mu (P:Params):Obj:=(tq #[])
def Yc (P:Params):Obj:=(pr0 "day_filed" 27)
def Mt (P:Params):Obj:=(fc #[.str "day_filed" 521,.str "day_filed" 522,cp 523,.int 63 0,.int 1 0,.int 0 0,.int 0 0,.int 3 0,.ref 255,.bool true,.int 181 0,.ref 256,.none,.ref 257,.ref 258,.ref 259,.int 525 0,.int 63 0,cp 526])
def Ms (P:Params):Obj:=⟨.type "function",none,.func (PySem.W.fnOf "day_filed" "day_filed" (aC (top0 27)) (aB (top0 27)) (ao (top0 27)) .none .none .none (.str "sluice.licences" 507) none (.ref 260) .none),#[]⟩
def Mr (P:Params):Obj:=(tq #[])
def X8 (P:Params):Obj:={ cls:=.none,data:=Data.fields #[] }
def Mq (P:Params):Obj:=(tq #[.str "one" 531])
def Mp (P:Params):Obj:=(tq #[])
def X7 (P:Params):Obj:=(pr0 "gives_back" 28)
def Ml (P:Params):Obj:=(fc #[.str "gives_back" 528,.str "gives_back" 529,cp 530,.int 65 0,.int 1 0,.int 0 0,.int 0 0,.int 3 0,.ref 262,.bool true,.int 181 0,.ref 263,.none,.ref 264,.ref 265,.ref 266,.int 532 0,.int 65 0,cp 533])
def Mj (P:Params):Obj:=⟨.type "function",none,.func (PySem.W.fnOf "gives_back" "gives_back" (aC (top0 28)) (aB (top0 28)) (ao (top0 28)) .none .none .none (.str "sluice.licences" 507) none (.ref 267) .none),#[]⟩
def Mi (P:Params):Obj:=(tq #[])
def X6 (P:Params):Obj:={ cls:=.none,data:=Data.fields #[] }
def Mh (P:Params):Obj:=(tq #[.str "one" 538])
def Mg (P:Params):Obj:=(tq #[])
def X5 (P:Params):Obj:=(pr0 "most_of" 29)
def Mf (P:Params):Obj:=(fc #[.str "most_of" 535,.str "most_of" 536,cp 537,.int 67 0,.int 1 0,.int 0 0,.int 0 0,.int 3 0,.ref 269,.bool true,.int 181 0,.ref 270,.none,.ref 271,.ref 272,.ref 273,.int 539 0,.int 67 0,cp 540])
def Ma (P:Params):Obj:=⟨.type "function",none,.func (PySem.W.fnOf "most_of" "most_of" (aC (top0 29)) (aB (top0 29)) (ao (top0 29)) .none .none .none (.str "sluice.licences" 507) none (.ref 274) .none),#[]⟩
def LR (P:Params):Obj:=(tq #[])
def X4 (P:Params):Obj:={ cls:=.none,data:=Data.fields #[] }
def LQ (P:Params):Obj:=(tq #[.str "roll" 545])
def LK (P:Params):Obj:=(tq #[.str "roll" 546])
def X3 (P:Params):Obj:=(pr0 "ranked" 30)
def LC (P:Params):Obj:=(fc #[.str "ranked" 542,.str "ranked" 543,cp 544,.int 69 0,.int 1 0,.int 0 0,.int 0 0,.int 3 0,.ref 276,.bool true,.int 181 0,.ref 277,.none,.ref 278,.ref 279,.ref 280,.int 547 0,.int 69 0,cp 548])
def Lz (P:Params):Obj:=⟨.type "function",none,.func (PySem.W.fnOf "ranked" "ranked" (aC (top0 30)) (aB (top0 30)) (ao (top0 30)) .none .none .none (.str "sluice.licences" 507) none (.ref 281) .none),#[]⟩
def Ly (P:Params):Obj:=(tq #[])
def XR (P:Params):Obj:={ cls:=.none,data:=Data.fields #[] }
def Lx (P:Params):Obj:=(tq #[.str "roll" 553,.str "groups" 554,.str "number" 555])
def Lw (P:Params):Obj:=(tq #[])
def XQ (P:Params):Obj:=(pr0 "groups_of" 31)
def Ls (P:Params):Obj:=(fc #[.str "groups_of" 550,.str "groups_of" 551,cp 552,.int 71 0,.int 1 0,.int 0 0,.int 0 0,.int 3 0,.ref 283,.bool true,.int 181 0,.ref 284,.none,.ref 285,.ref 286,.ref 287,.int 556 0,.int 71 0,cp 557])
def Lr (P:Params):Obj:=⟨.type "function",none,.func (PySem.W.fnOf "groups_of" "groups_of" (aC (top0 31)) (aB (top0 31)) (ao (top0 31)) .none .none .none (.str "sluice.licences" 507) none (.ref 288) .none),#[]⟩
def Lq (P:Params):Obj:=(tq #[])
def XM (P:Params):Obj:={ cls:=.none,data:=Data.fields #[] }
def XJ (P:Params):Obj:=(pr0 "wants_of" 32)
def Lp (P:Params):Obj:=(fc #[.str "wants_of" 559,.str "wants_of" 560,cp 561,.int 76 0,.int 2 0,.int 0 0,.int 0 0,.int 3 0,.ref 290,.bool true,.int 181 0,.ref 291,.none,.none,.none,.ref 292,.int 562 0,.int 76 0,cp 563])
def Ln (P:Params):Obj:=⟨.type "function",none,.func (PySem.W.fnOf "wants_of" "wants_of" (aC (top0 32)) (aB (top0 32)) (ao (top0 32)) .none .none .none (.str "sluice.licences" 507) none (.ref 293) .none),#[]⟩
def Lk (P:Params):Obj:=(tq #[])
def XH (P:Params):Obj:={ cls:=.none,data:=Data.fields #[] }
def Lj (P:Params):Obj:=(tq #[.str "free" 570,.str "ways" 571,.str "counts" 572,.str "way" 573,.str "reach" 574])
def Li (P:Params):Obj:=(tq #[])
def XF (P:Params):Obj:=(pr0 "count_ways" 34)
def Lh (P:Params):Obj:=(fc #[.str "count_ways" 567,.str "count_ways" 568,cp 569,.int 79 0,.int 2 0,.int 0 0,.int 0 0,.int 3 0,.ref 295,.bool true,.int 181 0,.ref 296,.none,.ref 297,.ref 298,.ref 299,.int 575 0,.int 79 0,cp 576])
def Lg (P:Params):Obj:=⟨.type "function",none,.func (PySem.W.fnOf "count_ways" "count_ways" (aC (top0 34)) (aB (top0 34)) (ao (top0 34)) .none .none .none (.str "sluice.turns" 565) none (.ref 300) .none),#[]⟩
def Lf (P:Params):Obj:=(tq #[])
def XD (P:Params):Obj:={ cls:=.none,data:=Data.fields #[] }
def XC (P:Params):Obj:=(pr0 "whole_turns" 35)
def Le (P:Params):Obj:=(fc #[.str "whole_turns" 578,.str "whole_turns" 579,cp 580,.int 85 0,.int 3 0,.int 0 0,.int 0 0,.int 3 0,.ref 302,.bool true,.int 181 0,.ref 303,.none,.none,.none,.ref 304,.int 581 0,.int 85 0,cp 582])
def Ld (P:Params):Obj:=⟨.type "function",none,.func (PySem.W.fnOf "whole_turns" "whole_turns" (aC (top0 35)) (aB (top0 35)) (ao (top0 35)) .none .none .none (.str "sluice.turns" 565) none (.ref 305) .none),#[]⟩
def Lb (P:Params):Obj:=(tq #[])
def Xz (P:Params):Obj:={ cls:=.none,data:=Data.fields #[] }
def La (P:Params):Obj:=(tq #[.str "left" 587,.str "way" 588,.str "drops" 589,.str "reach" 590])
def K9 (P:Params):Obj:=(tq #[])
def Xx (P:Params):Obj:=(pr0 "draw" 36)
def K8 (P:Params):Obj:=(fc #[.str "draw" 584,.str "draw" 585,cp 586,.int 89 0,.int 3 0,.int 0 0,.int 0 0,.int 3 0,.ref 307,.bool true,.int 181 0,.ref 308,.none,.ref 309,.ref 310,.ref 311,.int 591 0,.int 89 0,cp 592])
def K7 (P:Params):Obj:=⟨.type "function",none,.func (PySem.W.fnOf "draw" "draw" (aC (top0 36)) (aB (top0 36)) (ao (top0 36)) .none .none .none (.str "sluice.turns" 565) none (.ref 312) .none),#[]⟩
def K6 (P:Params):Obj:=(tq #[])
def Xw (P:Params):Obj:={ cls:=.none,data:=Data.fields #[] }
def Xv (P:Params):Obj:=(pr0 "take_whole_turns" 37)
def K5 (P:Params):Obj:=(fc #[.str "take_whole_turns" 594,.str "take_whole_turns" 595,cp 596,.int 92 0,.int 5 0,.int 0 0,.int 0 0,.int 3 0,.ref 314,.bool true,.int 181 0,.ref 315,.none,.none,.none,.ref 316,.int 597 0,.int 92 0,cp 598])
def K4 (P:Params):Obj:=⟨.type "function",none,.func (PySem.W.fnOf "take_whole_turns" "take_whole_turns" (aC (top0 37)) (aB (top0 37)) (ao (top0 37)) .none .none .none (.str "sluice.turns" 565) none (.ref 317) .none),#[]⟩
def K3 (P:Params):Obj:=(tq #[])
def Xu (P:Params):Obj:={ cls:=.none,data:=Data.fields #[] }
def Xq (P:Params):Obj:=(pr0 "take_one_turn" 38)
def K1 (P:Params):Obj:=(fc #[.str "take_one_turn" 600,.str "take_one_turn" 601,cp 602,.int 98 0,.int 5 0,.int 0 0,.int 0 0,.int 3 0,.ref 319,.bool true,.int 181 0,.ref 320,.none,.none,.none,.ref 321,.int 603 0,.int 98 0,cp 604])
def KZ (P:Params):Obj:=⟨.type "function",none,.func (PySem.W.fnOf "take_one_turn" "take_one_turn" (aC (top0 38)) (aB (top0 38)) (ao (top0 38)) .none .none .none (.str "sluice.turns" 565) none (.ref 322) .none),#[]⟩
def KY (P:Params):Obj:=(tq #[])
def Xp (P:Params):Obj:={ cls:=.none,data:=Data.fields #[] }
def KR (P:Params):Obj:=(tq #[.str "free" 609,.str "ways" 610,.str "rests" 611,.str "left" 612,.str "takes" 613,.str "going" 614])
def KQ (P:Params):Obj:=(tq #[])
def Xo (P:Params):Obj:=(pr0 "deal_turns" 39)
def KN (P:Params):Obj:=(fc #[.str "deal_turns" 606,.str "deal_turns" 607,cp 608,.int 106 0,.int 3 0,.int 0 0,.int 0 0,.int 3 0,.ref 324,.bool true,.int 181 0,.ref 325,.none,.ref 326,.ref 327,.ref 328,.int 615 0,.int 106 0,cp 616])
def KJ (P:Params):Obj:=⟨.type "function",none,.func (PySem.W.fnOf "deal_turns" "deal_turns" (aC (top0 39)) (aB (top0 39)) (ao (top0 39)) .none .none .none (.str "sluice.turns" 565) none (.ref 329) .none),#[]⟩
def KH (P:Params):Obj:=(tq #[])
def Xn (P:Params):Obj:={ cls:=.none,data:=Data.fields #[] }
def Xm (P:Params):Obj:=(pr0 "deal" 41)
def KD (P:Params):Obj:=(fc #[.str "deal" 620,.str "deal" 621,cp 622,.int 115 0,.int 4 0,.int 0 0,.int 0 0,.int 3 0,.ref 331,.bool true,.int 181 0,.ref 332,.none,.none,.none,.ref 333,.int 623 0,.int 115 0,cp 624])
def KC (P:Params):Obj:=⟨.type "function",none,.func (PySem.W.fnOf "deal" "deal" (aC (top0 41)) (aB (top0 41)) (ao (top0 41)) .none .none .none (.str "sluice.dealing" 618) none (.ref 334) .none),#[]⟩
def Kz (P:Params):Obj:=(tq #[])
def Xl (P:Params):Obj:={ cls:=.none,data:=Data.fields #[] }
def Ky (P:Params):Obj:=(tq #[.str "below" 631,.str "roll" 632,.str "takes" 633,.str "holds" 634,.str "one" 635,.str "take" 636,.str "reach" 637])
def Kw (P:Params):Obj:=(tq #[])
def Xk (P:Params):Obj:=(pr0 "holds_of" 43)
def Kv (P:Params):Obj:=(fc #[.str "holds_of" 628,.str "holds_of" 629,cp 630,.int 126 0,.int 3 0,.int 0 0,.int 0 0,.int 3 0,.ref 336,.bool true,.int 181 0,.ref 337,.none,.ref 338,.ref 339,.ref 340,.int 638 0,.int 126 0,cp 639])
def Ku (P:Params):Obj:=⟨.type "function",none,.func (PySem.W.fnOf "holds_of" "holds_of" (aC (top0 43)) (aB (top0 43)) (ao (top0 43)) .none .none .none (.str "sluice.holds" 626) none (.ref 341) .none),#[]⟩
def Ks (P:Params):Obj:=(tq #[])
def Xi (P:Params):Obj:={ cls:=.none,data:=Data.fields #[] }
def Xh (P:Params):Obj:=(pr0 "free_of" 44)
def Kr (P:Params):Obj:=(fc #[.str "free_of" 641,.str "free_of" 642,cp 643,.int 132 0,.int 4 0,.int 0 0,.int 0 0,.int 3 0,.ref 343,.bool true,.int 181 0,.ref 344,.none,.none,.none,.ref 345,.int 644 0,.int 132 0,cp 645])
def Kq (P:Params):Obj:=⟨.type "function",none,.func (PySem.W.fnOf "free_of" "free_of" (aC (top0 44)) (aB (top0 44)) (ao (top0 44)) .none .none .none (.str "sluice.holds" 626) none (.ref 346) .none),#[]⟩
def Kp (P:Params):Obj:=(tq #[])
def Xg (P:Params):Obj:={ cls:=.none,data:=Data.fields #[] }
def Xf (P:Params):Obj:=(pr0 "dry_of" 46)
def Ko (P:Params):Obj:=(fc #[.str "dry_of" 649,.str "dry_of" 650,cp 651,.int 136 0,.int 4 0,.int 0 0,.int 0 0,.int 3 0,.ref 348,.bool true,.int 181 0,.ref 349,.none,.none,.none,.ref 350,.int 652 0,.int 136 0,cp 653])
def Km (P:Params):Obj:=⟨.type "function",none,.func (PySem.W.fnOf "dry_of" "dry_of" (aC (top0 46)) (aB (top0 46)) (ao (top0 46)) .none .none .none (.str "sluice.cuts" 647) none (.ref 351) .none),#[]⟩
def Kl (P:Params):Obj:=(tq #[])
def Xd (P:Params):Obj:={ cls:=.none,data:=Data.fields #[] }
def Xc (P:Params):Obj:=(pr0 "meets" 47)
def Kh (P:Params):Obj:=(fc #[.str "meets" 655,.str "meets" 656,cp 657,.int 138 0,.int 2 0,.int 0 0,.int 0 0,.int 3 0,.ref 353,.bool true,.int 181 0,.ref 354,.none,.none,.none,.ref 355,.int 658 0,.int 138 0,cp 659])
def Kg (P:Params):Obj:=⟨.type "function",none,.func (PySem.W.fnOf "meets" "meets" (aC (top0 47)) (aB (top0 47)) (ao (top0 47)) .none .none .none (.str "sluice.cuts" 647) none (.ref 356) .none),#[]⟩
def Ke (P:Params):Obj:=(tq #[])
def Xb (P:Params):Obj:={ cls:=.none,data:=Data.fields #[] }
def Xa (P:Params):Obj:=(pr0 "lowest_of" 48)
def Kd (P:Params):Obj:=(fc #[.str "lowest_of" 661,.str "lowest_of" 662,cp 663,.int 140 0,.int 2 0,.int 0 0,.int 0 0,.int 3 0,.ref 358,.bool true,.int 181 0,.ref 359,.none,.none,.none,.ref 360,.int 664 0,.int 140 0,cp 665])
def Kc (P:Params):Obj:=⟨.type "function",none,.func (PySem.W.fnOf "lowest_of" "lowest_of" (aC (top0 48)) (aB (top0 48)) (ao (top0 48)) .none .none .none (.str "sluice.cuts" 647) none (.ref 361) .none),#[]⟩
def Ka (P:Params):Obj:=(tq #[])
def W8 (P:Params):Obj:={ cls:=.none,data:=Data.fields #[] }
def W7 (P:Params):Obj:=(pr0 "cut_of" 49)
def J9 (P:Params):Obj:=(fc #[.str "cut_of" 667,.str "cut_of" 668,cp 669,.int 142 0,.int 4 0,.int 0 0,.int 0 0,.int 3 0,.ref 363,.bool true,.int 181 0,.ref 364,.none,.none,.none,.ref 365,.int 670 0,.int 142 0,cp 671])
def J8 (P:Params):Obj:=⟨.type "function",none,.func (PySem.W.fnOf "cut_of" "cut_of" (aC (top0 49)) (aB (top0 49)) (ao (top0 49)) .none .none .none (.str "sluice.cuts" 647) none (.ref 366) .none),#[]⟩
def J7 (P:Params):Obj:=(tq #[])
def W6 (P:Params):Obj:={ cls:=.none,data:=Data.fields #[] }
def J6 (P:Params):Obj:=(tq #[.str "script" 678,.str "k" 679])
def J5 (P:Params):Obj:=(tq #[])
def W4 (P:Params):Obj:=(pr0 "_law_cell_at" 51)
def J4 (P:Params):Obj:=(fc #[.str "_law_cell_at" 675,.str "_law_cell_at" 676,cp 677,.int 153 0,.int 2 0,.int 0 0,.int 0 0,.int 3 0,.ref 368,.bool true,.int 181 0,.ref 369,.none,.ref 370,.ref 371,.ref 372,.int 680 0,.int 153 0,cp 681])
def J3 (P:Params):Obj:=⟨.type "function",none,.func (PySem.W.fnOf "_law_cell_at" "_law_cell_at" (aC (top0 51)) (aB (top0 51)) (ao (top0 51)) .none .none .none (.str "law_sluice_k33_cut_refused" 673) none (.ref 373) .none),#[]⟩
def J2 (P:Params):Obj:=(tq #[])
def W3 (P:Params):Obj:={ cls:=.none,data:=Data.fields #[] }
def J1 (P:Params):Obj:=(tq #[.str "found" 686])
def J0 (P:Params):Obj:=(tq #[])
def W2 (P:Params):Obj:=(pr0 "_law_whole" 52)
def JZ (P:Params):Obj:=(fc #[.str "_law_whole" 683,.str "_law_whole" 684,cp 685,.int 157 0,.int 1 0,.int 0 0,.int 0 0,.int 3 0,.ref 375,.bool true,.int 181 0,.ref 376,.none,.ref 377,.ref 378,.ref 379,.int 687 0,.int 157 0,cp 688])
def JX (P:Params):Obj:=⟨.type "function",none,.func (PySem.W.fnOf "_law_whole" "_law_whole" (aC (top0 52)) (aB (top0 52)) (ao (top0 52)) .none .none .none (.str "law_sluice_k33_cut_refused" 673) none (.ref 380) .none),#[]⟩
def JW (P:Params):Obj:=(tq #[])
def WY (P:Params):Obj:={ cls:=.none,data:=Data.fields #[] }
def JV (P:Params):Obj:=(tq #[.str "cell" 693,.str "k" 694,.str "seed" 695,.str "turned" 696])
def JT (P:Params):Obj:=(tq #[])
def WX (P:Params):Obj:=(pr0 "_law_draw" 53)
def JR (P:Params):Obj:=(fc #[.str "_law_draw" 690,.str "_law_draw" 691,cp 692,.int 159 0,.int 2 0,.int 0 0,.int 0 0,.int 3 0,.ref 382,.bool true,.int 181 0,.ref 383,.none,.ref 384,.ref 385,.ref 386,.int 697 0,.int 159 0,cp 698])
def JQ (P:Params):Obj:=⟨.type "function",none,.func (PySem.W.fnOf "_law_draw" "_law_draw" (aC (top0 53)) (aB (top0 53)) (ao (top0 53)) .none .none .none (.str "law_sluice_k33_cut_refused" 673) none (.ref 387) .none),#[]⟩
def JN (P:Params):Obj:=(tq #[])
def WW (P:Params):Obj:={ cls:=.none,data:=Data.fields #[] }
def WQ (P:Params):Obj:=(pr0 "_law_mixed" 54)
def JM (P:Params):Obj:=(fc #[.str "_law_mixed" 700,.str "_law_mixed" 701,cp 702,.int 163 0,.int 2 0,.int 0 0,.int 0 0,.int 3 0,.ref 389,.bool true,.int 181 0,.ref 390,.none,.none,.none,.ref 391,.int 703 0,.int 163 0,cp 704])
def JL (P:Params):Obj:=⟨.type "function",none,.func (PySem.W.fnOf "_law_mixed" "_law_mixed" (aC (top0 54)) (aB (top0 54)) (ao (top0 54)) .none .none .none (.str "law_sluice_k33_cut_refused" 673) none (.ref 392) .none),#[]⟩
def JK (P:Params):Obj:=(tq #[])
def WM (P:Params):Obj:={ cls:=.none,data:=Data.fields #[] }
def WL (P:Params):Obj:=(pr0 "_law_river" 55)
def JH (P:Params):Obj:=(fc #[.str "_law_river" 706,.str "_law_river" 707,cp 708,.int 165 0,.int 1 0,.int 0 0,.int 0 0,.int 3 0,.ref 394,.bool true,.int 181 0,.ref 395,.none,.none,.none,.ref 396,.int 709 0,.int 165 0,cp 710])
def JG (P:Params):Obj:=⟨.type "function",none,.func (PySem.W.fnOf "_law_river" "_law_river" (aC (top0 55)) (aB (top0 55)) (ao (top0 55)) .none .none .none (.str "law_sluice_k33_cut_refused" 673) none (.ref 397) .none),#[]⟩
def JF (P:Params):Obj:=(tq #[])
def WK (P:Params):Obj:={ cls:=.none,data:=Data.fields #[] }
def JD (P:Params):Obj:=(tq #[.str "cell" 715,.str "size" 716,.str "kind" 717,.str "found" 718,.str "x" 719])
def JC (P:Params):Obj:=(tq #[])
def WD (P:Params):Obj:=(pr0 "_law_springs" 56)
def JB (P:Params):Obj:=(fc #[.str "_law_springs" 712,.str "_law_springs" 713,cp 714,.int 176 0,.int 3 0,.int 0 0,.int 0 0,.int 3 0,.ref 399,.bool true,.int 181 0,.ref 400,.none,.ref 401,.ref 402,.ref 403,.int 720 0,.int 176 0,cp 721])
def Jz (P:Params):Obj:=⟨.type "function",none,.func (PySem.W.fnOf "_law_springs" "_law_springs" (aC (top0 56)) (aB (top0 56)) (ao (top0 56)) .none .none .none (.str "law_sluice_k33_cut_refused" 673) none (.ref 404) .none),#[]⟩
def Jy (P:Params):Obj:=(tq #[])
def Wz (P:Params):Obj:={ cls:=.none,data:=Data.fields #[] }
def Jx (P:Params):Obj:=(tq #[.str "below" 726,.str "reach" 727,.str "way" 728])
def Jw (P:Params):Obj:=(tq #[])
def Wy (P:Params):Obj:=(pr0 "_law_way" 57)
def Jv (P:Params):Obj:=(fc #[.str "_law_way" 723,.str "_law_way" 724,cp 725,.int 186 0,.int 2 0,.int 0 0,.int 0 0,.int 3 0,.ref 406,.bool true,.int 181 0,.ref 407,.none,.ref 408,.ref 409,.ref 410,.int 729 0,.int 186 0,cp 730])
def Ju (P:Params):Obj:=⟨.type "function",none,.func (PySem.W.fnOf "_law_way" "_law_way" (aC (top0 57)) (aB (top0 57)) (ao (top0 57)) .none .none .none (.str "law_sluice_k33_cut_refused" 673) none (.ref 411) .none),#[]⟩
def Jt (P:Params):Obj:=(tq #[])
def Wx (P:Params):Obj:={ cls:=.none,data:=Data.fields #[] }
def Js (P:Params):Obj:=(tq #[.str "cell" 735,.str "size" 736,.str "far" 737,.str "kind" 738,.str "xs" 739,.str "most" 740,.str "call" 741])
def Jr (P:Params):Obj:=(tq #[])
def Ww (P:Params):Obj:=(pr0 "_law_drawn" 58)
def Jq (P:Params):Obj:=(fc #[.str "_law_drawn" 732,.str "_law_drawn" 733,cp 734,.int 192 0,.int 4 0,.int 0 0,.int 0 0,.int 3 0,.ref 413,.bool true,.int 181 0,.ref 414,.none,.ref 415,.ref 416,.ref 417,.int 742 0,.int 192 0,cp 743])
def Jp (P:Params):Obj:=⟨.type "function",none,.func (PySem.W.fnOf "_law_drawn" "_law_drawn" (aC (top0 58)) (aB (top0 58)) (ao (top0 58)) .none .none .none (.str "law_sluice_k33_cut_refused" 673) none (.ref 418) .none),#[]⟩
def Jo (P:Params):Obj:=(tq #[])
def Wv (P:Params):Obj:={ cls:=.none,data:=Data.fields #[] }
def Wu (P:Params):Obj:=(pr0 "_law_giving" 59)
def Jm (P:Params):Obj:=(fc #[.str "_law_giving" 745,.str "_law_giving" 746,cp 747,.int 202 0,.int 3 0,.int 0 0,.int 0 0,.int 3 0,.ref 420,.bool true,.int 181 0,.ref 421,.none,.none,.none,.ref 422,.int 748 0,.int 202 0,cp 749])
def Jl (P:Params):Obj:=⟨.type "function",none,.func (PySem.W.fnOf "_law_giving" "_law_giving" (aC (top0 59)) (aB (top0 59)) (ao (top0 59)) .none .none .none (.str "law_sluice_k33_cut_refused" 673) none (.ref 423) .none),#[]⟩
def Jk (P:Params):Obj:=(tq #[])
def Wt (P:Params):Obj:={ cls:=.none,data:=Data.fields #[] }
def Jj (P:Params):Obj:=(tq #[.str "roll" 754,.str "below" 755,.str "cell" 756,.str "found" 757,.str "k" 758,.str "one" 759,.str "back" 760])
def Ji (P:Params):Obj:=(tq #[])
def Ws (P:Params):Obj:=(pr0 "_law_more" 60)
def Jh (P:Params):Obj:=(fc #[.str "_law_more" 751,.str "_law_more" 752,cp 753,.int 209 0,.int 3 0,.int 0 0,.int 0 0,.int 3 0,.ref 425,.bool true,.int 181 0,.ref 426,.none,.ref 427,.ref 428,.ref 429,.int 761 0,.int 209 0,cp 762])
def Jg (P:Params):Obj:=⟨.type "function",none,.func (PySem.W.fnOf "_law_more" "_law_more" (aC (top0 60)) (aB (top0 60)) (ao (top0 60)) .none .none .none (.str "law_sluice_k33_cut_refused" 673) none (.ref 430) .none),#[]⟩
def Jf (P:Params):Obj:=(tq #[])
def Wq (P:Params):Obj:={ cls:=.none,data:=Data.fields #[] }
def Je (P:Params):Obj:=(tq #[.str "e" 767])
def Jd (P:Params):Obj:=(tq #[])
def Wo (P:Params):Obj:=(pr0 "_law_other_name" 61)
def Jc (P:Params):Obj:=(fc #[.str "_law_other_name" 764,.str "_law_other_name" 765,cp 766,.int 217 0,.int 1 0,.int 0 0,.int 0 0,.int 3 0,.ref 432,.bool true,.int 181 0,.ref 433,.none,.ref 434,.ref 435,.ref 436,.int 768 0,.int 217 0,cp 769])
def Jb (P:Params):Obj:=⟨.type "function",none,.func (PySem.W.fnOf "_law_other_name" "_law_other_name" (aC (top0 61)) (aB (top0 61)) (ao (top0 61)) .none .none .none (.str "law_sluice_k33_cut_refused" 673) none (.ref 437) .none),#[]⟩
def Ja (P:Params):Obj:=(tq #[])
def Wn (P:Params):Obj:={ cls:=.none,data:=Data.fields #[] }
def IW (P:Params):Obj:=(tq #[.str "below" 774,.str "springs" 775,.str "roll" 776,.str "calls" 777,.str "caught" 778,.str "e" 779])
def IV (P:Params):Obj:=(tq #[])
def Wk (P:Params):Obj:=(pr0 "_law_refused" 62)
def IK (P:Params):Obj:=(fc #[.str "_law_refused" 771,.str "_law_refused" 772,cp 773,.int 225 0,.int 4 0,.int 0 0,.int 0 0,.int 3 0,.ref 439,.bool true,.int 181 0,.ref 440,.none,.ref 441,.ref 442,.ref 443,.int 780 0,.int 225 0,cp 781])
def Iz (P:Params):Obj:=⟨.type "function",none,.func (PySem.W.fnOf "_law_refused" "_law_refused" (aC (top0 62)) (aB (top0 62)) (ao (top0 62)) .none .none .none (.str "law_sluice_k33_cut_refused" 673) none (.ref 444) .none),#[]⟩
def Iw (P:Params):Obj:=(tq #[])
def Wj (P:Params):Obj:={ cls:=.none,data:=Data.fields #[] }
def Wi (P:Params):Obj:=(pr0 "law" 63)
def Iu (P:Params):Obj:=(fc #[.str "law" 783,.str "law" 784,cp 785,.int 232 0,.int 1 0,.int 0 0,.int 0 0,.int 3 0,.ref 446,.bool true,.int 181 0,.ref 447,.none,.none,.none,.ref 448,.int 786 0,.int 232 0,cp 787])
def Ir (P:Params):Obj:=⟨.type "function",none,.func (PySem.W.fnOf "law" "law" (aC (top0 63)) (aB (top0 63)) (ao (top0 63)) .none .none .none (.str "law_sluice_k33_cut_refused" 673) none (.ref 449) .none),#[]⟩
def H0:Params→Heap:=fun P=>{ objs:=⟨Yx P :: Yv P :: Ua P :: Z0 P :: Wd P :: V6 P :: VP P :: VD P :: Vs P :: Ds P :: Dm P :: []⟩ }
def Ha:Params→Heap:=fun P=>{ objs:=⟨Yx P :: Yv P :: Ua P :: Z0 P :: Wd P :: V6 P :: VP P :: VD P :: Vs P :: Ds P :: Dm P :: G8 P :: Yw P :: G7 P :: G6 P :: []⟩ }
def Hb:Params→Heap:=fun P=>{ objs:=⟨Yx P :: Yv P :: Ua P :: Z0 P :: Wd P :: V6 P :: VP P :: VD P :: Vs P :: Ds P :: Dm P :: G8 P :: Yw P :: G7 P :: G6 P :: []⟩ }
def Hm:Params→Heap:=fun P=>{ objs:=⟨Yx P :: Yv P :: Ua P :: Z2 P :: Wd P :: V6 P :: VP P :: VD P :: Vs P :: Ds P :: Dm P :: G8 P :: Z1 P :: G7 P :: G6 P :: Tf P :: Yu P :: Ys P :: Yo P :: Yk P :: Yg P :: Yb P :: Te P :: Td P :: Tc P :: S9 P :: Xy P :: Xr P :: S8 P :: Xj P :: Xe P :: W9 P :: W5 P :: W0 P :: WR P :: S7 P :: S6 P :: S5 P :: Wr P :: Wm P :: SX P :: Wh P :: Wg P :: Wf P :: Wc P :: Wb P :: Wa P :: SQ P :: SN P :: SM P :: V9 P :: V8 P :: SJ P :: V7 P :: V5 P :: V4 P :: V3 P :: V2 P :: V1 P :: Sy P :: Sx P :: Sw P :: V0 P :: VR P :: Sv P :: VN P :: VL P :: VJ P :: VH P :: VG P :: VF P :: Ss P :: Sq P :: Sg P :: VB P :: Vz P :: Sd P :: Vy P :: Vx P :: Vw P :: Vv P :: Vu P :: Vt P :: R9 P :: R8 P :: R7 P :: Vr P :: Vq P :: R6 P :: Vp P :: Vo P :: Vn P :: Vm P :: Vl P :: QL P :: Dr P :: Dq P :: Dp P :: QK P :: QJ P :: Dn P :: QH P :: QG P :: QF P :: QD P :: QC P :: QB P :: Dl P :: Dk P :: Dj P :: Qz P :: Qy P :: Di P :: Qx P :: Qw P :: Qv P :: Qu P :: Qt P :: Qs P :: Dh P :: Dg P :: Dd P :: Qq P :: Qp P :: Dc P :: Qo P :: Qn P :: Qm P :: Ql P :: Qk P :: Qj P :: CZ P :: CW P :: CV P :: Qi P :: Qh P :: CT P :: Qg P :: Qf P :: Qe P :: Qd P :: Qc P :: Qa P :: CQ P :: CP P :: CN P :: PX P :: PN P :: CK P :: PL P :: PK P :: PJ P :: PB P :: Py P :: Px P :: CJ P :: CG P :: Cz P :: Pu P :: Pr P :: Cy P :: Pq P :: Pn P :: Pk P :: Pj P :: Ph P :: Pb P :: Cw P :: Cv P :: Cu P :: Pa P :: O9 P :: Cr P :: O8 P :: OJ P :: Oz P :: Ox P :: Ov P :: Ou P :: Cq P :: Cp P :: Cm P :: Ot P :: Oq P :: Ck P :: Oo P :: Om P :: Ol P :: Oj P :: Oi P :: Oh P :: Cj P :: Ci P :: Cg P :: Og P :: Oe P :: Ce P :: Od P :: Oc P :: Ob P :: Oa P :: N8 P :: N7 P :: Cd P :: Ca P :: BZ P :: N6 P :: N5 P :: BX P :: NZ P :: NT P :: NQ P :: NP P :: NK P :: Nz P :: BW P :: BR P :: BP P :: Ny P :: Nx P :: []⟩ }
def H1:Params→Heap:=fun P=>{ objs:=⟨Yx P :: Yv P :: Ua P :: Nv P :: Wd P :: V6 P :: VP P :: VD P :: Vs P :: Ds P :: Dm P :: G8 P :: Yt P :: G7 P :: G6 P :: Tf P :: Yu P :: Ys P :: Yo P :: Yk P :: Yg P :: Yb P :: Te P :: Td P :: Tc P :: S9 P :: Xy P :: Xr P :: S8 P :: Xj P :: Xe P :: W9 P :: W5 P :: W0 P :: WR P :: S7 P :: S6 P :: S5 P :: Wr P :: Wm P :: SX P :: Wh P :: Wg P :: Wf P :: Wc P :: Wb P :: Wa P :: SQ P :: SN P :: SM P :: V9 P :: V8 P :: SJ P :: V7 P :: V5 P :: V4 P :: V3 P :: V2 P :: V1 P :: Sy P :: Sx P :: Sw P :: V0 P :: VR P :: Sv P :: VN P :: VL P :: VJ P :: VH P :: VG P :: VF P :: Ss P :: Sq P :: Sg P :: VB P :: Vz P :: Sd P :: Vy P :: Vx P :: Vw P :: Vv P :: Vu P :: Vt P :: R9 P :: R8 P :: R7 P :: Vr P :: Vq P :: R6 P :: Vp P :: Vo P :: Vn P :: Vm P :: Vl P :: QL P :: Dr P :: Dq P :: Dp P :: QK P :: QJ P :: Dn P :: QH P :: QG P :: QF P :: QD P :: QC P :: QB P :: Dl P :: Dk P :: Dj P :: Qz P :: Qy P :: Di P :: Qx P :: Qw P :: Qv P :: Qu P :: Qt P :: Qs P :: Dh P :: Dg P :: Dd P :: Qq P :: Qp P :: Dc P :: Qo P :: Qn P :: Qm P :: Ql P :: Qk P :: Qj P :: CZ P :: CW P :: CV P :: Qi P :: Qh P :: CT P :: Qg P :: Qf P :: Qe P :: Qd P :: Qc P :: Qa P :: CQ P :: CP P :: CN P :: PX P :: PN P :: CK P :: PL P :: PK P :: PJ P :: PB P :: Py P :: Px P :: CJ P :: CG P :: Cz P :: Pu P :: Pr P :: Cy P :: Pq P :: Pn P :: Pk P :: Pj P :: Ph P :: Pb P :: Cw P :: Cv P :: Cu P :: Pa P :: O9 P :: Cr P :: O8 P :: OJ P :: Oz P :: Ox P :: Ov P :: Ou P :: Cq P :: Cp P :: Cm P :: Ot P :: Oq P :: Ck P :: Oo P :: Om P :: Ol P :: Oj P :: Oi P :: Oh P :: Cj P :: Ci P :: Cg P :: Og P :: Oe P :: Ce P :: Od P :: Oc P :: Ob P :: Oa P :: N8 P :: N7 P :: Cd P :: Ca P :: BZ P :: N6 P :: N5 P :: BX P :: NZ P :: NT P :: NQ P :: NP P :: NK P :: Nz P :: BW P :: BR P :: BP P :: Ny P :: Nx P :: Nu P :: Yr P :: Nt P :: Nr P :: Yq P :: Nq P :: Np P :: Nm P :: Yp P :: Nk P :: Nj P :: Yn P :: Ni P :: Nh P :: Ng P :: Ym P :: Nf P :: Nb P :: Yl P :: M9 P :: M8 P :: M7 P :: Yj P :: M6 P :: M5 P :: Yi P :: M4 P :: MP P :: MN P :: Yh P :: MK P :: MJ P :: Ye P :: MF P :: Mz P :: Mx P :: Yd P :: Mw P :: Mu P :: Yc P :: Mt P :: Ms P :: Mr P :: X8 P :: Mq P :: Mp P :: X7 P :: Ml P :: Mj P :: Mi P :: X6 P :: Mh P :: Mg P :: X5 P :: Mf P :: Ma P :: LR P :: X4 P :: LQ P :: LK P :: X3 P :: LC P :: Lz P :: Ly P :: XR P :: Lx P :: Lw P :: XQ P :: Ls P :: Lr P :: Lq P :: XM P :: XJ P :: Lp P :: Ln P :: Lk P :: XH P :: Lj P :: Li P :: XF P :: Lh P :: Lg P :: Lf P :: XD P :: XC P :: Le P :: Ld P :: Lb P :: Xz P :: La P :: K9 P :: Xx P :: K8 P :: K7 P :: K6 P :: Xw P :: Xv P :: K5 P :: K4 P :: K3 P :: Xu P :: Xq P :: K1 P :: KZ P :: KY P :: Xp P :: KR P :: KQ P :: Xo P :: KN P :: KJ P :: KH P :: Xn P :: Xm P :: KD P :: KC P :: Kz P :: Xl P :: Ky P :: Kw P :: Xk P :: Kv P :: Ku P :: Ks P :: Xi P :: Xh P :: Kr P :: Kq P :: Kp P :: Xg P :: Xf P :: Ko P :: Km P :: Kl P :: Xd P :: Xc P :: Kh P :: Kg P :: Ke P :: Xb P :: Xa P :: Kd P :: Kc P :: Ka P :: W8 P :: W7 P :: J9 P :: J8 P :: J7 P :: W6 P :: J6 P :: J5 P :: W4 P :: J4 P :: J3 P :: J2 P :: W3 P :: J1 P :: J0 P :: W2 P :: JZ P :: JX P :: JW P :: WY P :: JV P :: JT P :: WX P :: JR P :: JQ P :: JN P :: WW P :: WQ P :: JM P :: JL P :: JK P :: WM P :: WL P :: JH P :: JG P :: JF P :: WK P :: JD P :: JC P :: WD P :: JB P :: Jz P :: Jy P :: Wz P :: Jx P :: Jw P :: Wy P :: Jv P :: Ju P :: Jt P :: Wx P :: Js P :: Jr P :: Ww P :: Jq P :: Jp P :: Jo P :: Wv P :: Wu P :: Jm P :: Jl P :: Jk P :: Wt P :: Jj P :: Ji P :: Ws P :: Jh P :: Jg P :: Jf P :: Wq P :: Je P :: Jd P :: Wo P :: Jc P :: Jb P :: Ja P :: Wn P :: IW P :: IV P :: Wk P :: IK P :: Iz P :: Iw P :: Wj P :: Wi P :: Iu P :: Ir P :: []⟩ }
def Kf:Params→PySem.W.Frag:=fun P=>(nat_lit 2,Ua P) ::
 (nat_lit 3,Nv P) ::
 (nat_lit 15,Tf P) ::
 (nat_lit 22,Te P) ::
 (nat_lit 23,Td P) ::
 (nat_lit 24,Tc P) ::
 (nat_lit 25,S9 P) ::
 (nat_lit 28,S8 P) ::
 (nat_lit 35,S7 P) ::
 (nat_lit 36,S6 P) ::
 (nat_lit 37,S5 P) ::
 (nat_lit 40,SX P) ::
 (nat_lit 47,SQ P) ::
 (nat_lit 48,SN P) ::
 (nat_lit 49,SM P) ::
 (nat_lit 52,SJ P) ::
 (nat_lit 59,Sy P) ::
 (nat_lit 60,Sx P) ::
 (nat_lit 61,Sw P) ::
 (nat_lit 64,Sv P) ::
 (nat_lit 71,Ss P) ::
 (nat_lit 72,Sq P) ::
 (nat_lit 73,Sg P) ::
 (nat_lit 76,Sd P) ::
 (nat_lit 83,R9 P) ::
 (nat_lit 84,R8 P) ::
 (nat_lit 85,R7 P) ::
 (nat_lit 88,R6 P) ::
 (nat_lit 95,Dr P) ::
 (nat_lit 96,Dq P) ::
 (nat_lit 97,Dp P) ::
 (nat_lit 100,Dn P) ::
 (nat_lit 107,Dl P) ::
 (nat_lit 108,Dk P) ::
 (nat_lit 109,Dj P) ::
 (nat_lit 112,Di P) ::
 (nat_lit 119,Dh P) ::
 (nat_lit 120,Dg P) ::
 (nat_lit 121,Dd P) ::
 (nat_lit 124,Dc P) ::
 (nat_lit 131,CZ P) ::
 (nat_lit 132,CW P) ::
 (nat_lit 133,CV P) ::
 (nat_lit 136,CT P) ::
 (nat_lit 143,CQ P) ::
 (nat_lit 144,CP P) ::
 (nat_lit 145,CN P) ::
 (nat_lit 148,CK P) ::
 (nat_lit 155,CJ P) ::
 (nat_lit 156,CG P) ::
 (nat_lit 157,Cz P) ::
 (nat_lit 160,Cy P) ::
 (nat_lit 167,Cw P) ::
 (nat_lit 168,Cv P) ::
 (nat_lit 169,Cu P) ::
 (nat_lit 172,Cr P) ::
 (nat_lit 179,Cq P) ::
 (nat_lit 180,Cp P) ::
 (nat_lit 181,Cm P) ::
 (nat_lit 184,Ck P) ::
 (nat_lit 191,Cj P) ::
 (nat_lit 192,Ci P) ::
 (nat_lit 193,Cg P) ::
 (nat_lit 196,Ce P) ::
 (nat_lit 203,Cd P) ::
 (nat_lit 204,Ca P) ::
 (nat_lit 205,BZ P) ::
 (nat_lit 208,BX P) ::
 (nat_lit 215,BW P) ::
 (nat_lit 216,BR P) ::
 (nat_lit 217,BP P) ::
 (nat_lit 220,Nu P) ::
 (nat_lit 222,Nt P) ::
 (nat_lit 223,Nr P) ::
 (nat_lit 225,Nq P) ::
 (nat_lit 226,Np P) ::
 (nat_lit 227,Nm P) ::
 (nat_lit 229,Nk P) ::
 (nat_lit 230,Nj P) ::
 (nat_lit 232,Ni P) ::
 (nat_lit 233,Nh P) ::
 (nat_lit 234,Ng P) ::
 (nat_lit 236,Nf P) ::
 (nat_lit 237,Nb P) ::
 (nat_lit 239,M9 P) ::
 (nat_lit 240,M8 P) ::
 (nat_lit 241,M7 P) ::
 (nat_lit 243,M6 P) ::
 (nat_lit 244,M5 P) ::
 (nat_lit 246,M4 P) ::
 (nat_lit 247,MP P) ::
 (nat_lit 248,MN P) ::
 (nat_lit 250,MK P) ::
 (nat_lit 251,MJ P) ::
 (nat_lit 253,MF P) ::
 (nat_lit 254,Mz P) ::
 (nat_lit 255,Mx P) ::
 (nat_lit 257,Mw P) ::
 (nat_lit 258,Mu P) ::
 (nat_lit 260,Mt P) ::
 (nat_lit 261,Ms P) ::
 (nat_lit 262,Mr P) ::
 (nat_lit 264,Mq P) ::
 (nat_lit 265,Mp P) ::
 (nat_lit 267,Ml P) ::
 (nat_lit 268,Mj P) ::
 (nat_lit 269,Mi P) ::
 (nat_lit 271,Mh P) ::
 (nat_lit 272,Mg P) ::
 (nat_lit 274,Mf P) ::
 (nat_lit 275,Ma P) ::
 (nat_lit 276,LR P) ::
 (nat_lit 278,LQ P) ::
 (nat_lit 279,LK P) ::
 (nat_lit 281,LC P) ::
 (nat_lit 282,Lz P) ::
 (nat_lit 283,Ly P) ::
 (nat_lit 285,Lx P) ::
 (nat_lit 286,Lw P) ::
 (nat_lit 288,Ls P) ::
 (nat_lit 289,Lr P) ::
 (nat_lit 290,Lq P) ::
 (nat_lit 293,Lp P) ::
 (nat_lit 294,Ln P) ::
 (nat_lit 295,Lk P) ::
 (nat_lit 297,Lj P) ::
 (nat_lit 298,Li P) ::
 (nat_lit 300,Lh P) ::
 (nat_lit 301,Lg P) ::
 (nat_lit 302,Lf P) ::
 (nat_lit 305,Le P) ::
 (nat_lit 306,Ld P) ::
 (nat_lit 307,Lb P) ::
 (nat_lit 309,La P) ::
 (nat_lit 310,K9 P) ::
 (nat_lit 312,K8 P) ::
 (nat_lit 313,K7 P) ::
 (nat_lit 314,K6 P) ::
 (nat_lit 317,K5 P) ::
 (nat_lit 318,K4 P) ::
 (nat_lit 319,K3 P) ::
 (nat_lit 322,K1 P) ::
 (nat_lit 323,KZ P) ::
 (nat_lit 324,KY P) ::
 (nat_lit 326,KR P) ::
 (nat_lit 327,KQ P) ::
 (nat_lit 329,KN P) ::
 (nat_lit 330,KJ P) ::
 (nat_lit 331,KH P) ::
 (nat_lit 334,KD P) ::
 (nat_lit 335,KC P) ::
 (nat_lit 336,Kz P) ::
 (nat_lit 338,Ky P) ::
 (nat_lit 339,Kw P) ::
 (nat_lit 341,Kv P) ::
 (nat_lit 342,Ku P) ::
 (nat_lit 343,Ks P) ::
 (nat_lit 346,Kr P) ::
 (nat_lit 347,Kq P) ::
 (nat_lit 348,Kp P) ::
 (nat_lit 351,Ko P) ::
 (nat_lit 352,Km P) ::
 (nat_lit 353,Kl P) ::
 (nat_lit 356,Kh P) ::
 (nat_lit 357,Kg P) ::
 (nat_lit 358,Ke P) ::
 (nat_lit 361,Kd P) ::
 (nat_lit 362,Kc P) ::
 (nat_lit 363,Ka P) ::
 (nat_lit 366,J9 P) ::
 (nat_lit 367,J8 P) ::
 (nat_lit 368,J7 P) ::
 (nat_lit 370,J6 P) ::
 (nat_lit 371,J5 P) ::
 (nat_lit 373,J4 P) ::
 (nat_lit 374,J3 P) ::
 (nat_lit 375,J2 P) ::
 (nat_lit 377,J1 P) ::
 (nat_lit 378,J0 P) ::
 (nat_lit 380,JZ P) ::
 (nat_lit 381,JX P) ::
 (nat_lit 382,JW P) ::
 (nat_lit 384,JV P) ::
 (nat_lit 385,JT P) ::
 (nat_lit 387,JR P) ::
 (nat_lit 388,JQ P) ::
 (nat_lit 389,JN P) ::
 (nat_lit 392,JM P) ::
 (nat_lit 393,JL P) ::
 (nat_lit 394,JK P) ::
 (nat_lit 397,JH P) ::
 (nat_lit 398,JG P) ::
 (nat_lit 399,JF P) ::
 (nat_lit 401,JD P) ::
 (nat_lit 402,JC P) ::
 (nat_lit 404,JB P) ::
 (nat_lit 405,Jz P) ::
 (nat_lit 406,Jy P) ::
 (nat_lit 408,Jx P) ::
 (nat_lit 409,Jw P) ::
 (nat_lit 411,Jv P) ::
 (nat_lit 412,Ju P) ::
 (nat_lit 413,Jt P) ::
 (nat_lit 415,Js P) ::
 (nat_lit 416,Jr P) ::
 (nat_lit 418,Jq P) ::
 (nat_lit 419,Jp P) ::
 (nat_lit 420,Jo P) ::
 (nat_lit 423,Jm P) ::
 (nat_lit 424,Jl P) ::
 (nat_lit 425,Jk P) ::
 (nat_lit 427,Jj P) ::
 (nat_lit 428,Ji P) ::
 (nat_lit 430,Jh P) ::
 (nat_lit 431,Jg P) ::
 (nat_lit 432,Jf P) ::
 (nat_lit 434,Je P) ::
 (nat_lit 435,Jd P) ::
 (nat_lit 437,Jc P) ::
 (nat_lit 438,Jb P) ::
 (nat_lit 439,Ja P) ::
 (nat_lit 441,IW P) ::
 (nat_lit 442,IV P) ::
 (nat_lit 444,IK P) ::
 (nat_lit 445,Iz P) ::
 (nat_lit 446,Iw P) ::
 (nat_lit 449,Iu P) ::
 (nat_lit 450,Ir P) :: []
def asK:List Addr:=[2,3,15,22,23,24,25,28,35,36,37,40,47,48,49,52,59,60,61,64,71,72,73,76,83,84,85,88,95,96,97,100,107,108,109,112,119,120,121,124,131,132,133,136,143,144,145,148,155,156,157,160,167,168,169,172,179,180,181,184,191,192,193,196,203,204,205,208,215,216,217,220,222,223,225,226,227,229,230,232,233,234,236,237,239,240,241,243,244,246,247,248,250,251,253,254,255,257,258,260,261,262,264,265,267,268,269,271,272,274,275,276,278,279,281,282,283,285,286,288,289,290,293,294,295,297,298,300,301,302,305,306,307,309,310,312,313,314,317,318,319,322,323,324,326,327,329,330,331,334,335,336,338,339,341,342,343,346,347,348,351,352,353,356,357,358,361,362,363,366,367,368,370,371,373,374,375,377,378,380,381,382,384,385,387,388,389,392,393,394,397,398,399,401,402,404,405,406,408,409,411,412,413,415,416,418,419,420,423,424,425,427,428,430,431,432,434,435,437,438,439,441,442,444,445,446,449,450]
def tsK:List Addr:=[277,228]
theorem hkE:∀ P,asK=(Kf P).map (·.1):=fun _=>by kernel_rfl
def qv:Program:={ PySem.Challenge.pw_sluice_k33_cut_refused with main:={ PySem.Challenge.pw_sluice_k33_cut_refused.main with body:=[top0 63] } }
def w5:List Str:=("SluiceError":Str) :: ("NoRiver":Str) :: ("NoReach":Str) :: ("NoLicence":Str) :: ("NoNumber":Str) :: ("NoHolder":Str) :: ("NotYours":Str) :: ("NotAlone":Str) :: ("TooMuch":Str) :: ("Full":Str) :: ("NoPaper":Str) :: ("NoCut":Str) :: ("NoPond":Str) :: ("NoDay":Str) :: ("Fixed":Str) :: ("Harms":Str) :: ("NoRow":Str) :: ("MOUTH":Str) :: ("way_of":Str) :: ("tops_first":Str) :: ("stretch_of":Str) :: ("natural_of":Str) :: ("reaches_of":Str) :: ("day_filed":Str) :: ("gives_back":Str) :: ("most_of":Str) :: ("ranked":Str) :: ("groups_of":Str) :: ("wants_of":Str) :: ("count_ways":Str) :: ("whole_turns":Str) :: ("draw":Str) :: ("take_whole_turns":Str) :: ("take_one_turn":Str) :: ("deal_turns":Str) :: ("deal":Str) :: ("holds_of":Str) :: ("free_of":Str) :: ("dry_of":Str) :: ("meets":Str) :: ("lowest_of":Str) :: ("cut_of":Str) :: ("_law_cell_at":Str) :: ("_law_whole":Str) :: ("_law_draw":Str) :: ("_law_mixed":Str) :: ("_law_river":Str) :: ("_law_springs":Str) :: ("_law_way":Str) :: ("_law_drawn":Str) :: ("_law_giving":Str) :: ("_law_more":Str) :: ("_law_other_name":Str) :: ("_law_refused":Str) :: []
end
theorem hp1:∀ w:World,(PySem.W.fencedOpening PySem.treeTable PySem.Challenge.rw_sluice_k33_cut_refused.row.toRowW.prog w 9690).map (fun s=>(s.heap,s.gens,s.drawn,s.toks))=some (H0 w.params,#[],{},181):=by
  intro w;kernel_rfl
theorem hp2:∀ w:World,((H0 w.params).isNs mainGlobals && (#[]:Array GenState).size == 0,(H0 w.params).objs.size,(H0 w.params).nsMap mainGlobals "__annotations__")=(true,11,some (Value.ref 6)):=by
  intro w;kernel_rfl
def evT:Env:={ scope:=PySem.Challenge.rw_sluice_k33_cut_refused.row.toRowW.prog.main.scope,locals:=mainNs,globals:=mainNs,cells:=[],code:=Value.ref 13,frame:=some 14 }
def cT:Code:=.body (PySem.W.behindTheImports PySem.Challenge.rw_sluice_k33_cut_refused.row.toRowW.prog) evT
theorem hp3a:∀ (w:World) (os:OsState),PySem.W.topGo PySem.treeTable PySem.Challenge.rw_sluice_k33_cut_refused.row.toRowW.prog w 11 (some (Value.ref 6)) 12 ⟨H0 w.params,#[],{},181,os⟩ (PySem.W.topStub PySem.Challenge.rw_sluice_k33_cut_refused.row.toRowW.prog)=some (⟨Ha w.params,#[],{},187,os⟩,⟨denote PySem.treeTable cT,cT,({ line:=0,col:=0,endLine:=0,endCol:=0 }:Pos),[PySem.W.topFrame ({ line:=0,col:=0,endLine:=0,endCol:=0 }:Pos)]⟩):=by
  intro w os;kernel_rfl
theorem hp3b:∀ (w:World) (os:OsState),PySem.W.segRun PySem.treeTable PySem.Challenge.rw_sluice_k33_cut_refused.row.toRowW.prog w 11 (some (Value.ref 6)) 1 20 ⟨Ha w.params,#[],{},187,os⟩ (PySem.W.blockOf (PySem.W.behindTheImports PySem.Challenge.rw_sluice_k33_cut_refused.row.toRowW.prog) evT cT ({ line:=0,col:=0,endLine:=0,endCol:=0 }:Pos) [PySem.W.topFrame ({ line:=0,col:=0,endLine:=0,endCol:=0 }:Pos)])=some (.next,⟨Hb w.params,#[],{},187,os⟩,cT,({ line:=0,col:=0,endLine:=0,endCol:=0 }:Pos)):=by
  intro w os;kernel_rfl
theorem hp3c:∀ (w:World) (os:OsState),PySem.W.segRun PySem.treeTable PySem.Challenge.rw_sluice_k33_cut_refused.row.toRowW.prog w 11 (some (Value.ref 6)) 1 3803 ⟨Hb w.params,#[],{},187,os⟩ (PySem.W.piecesOf ((PySem.W.behindTheImports PySem.Challenge.rw_sluice_k33_cut_refused.row.toRowW.prog).take 18) evT cT ({ line:=0,col:=0,endLine:=0,endCol:=0 }:Pos) [PySem.W.topFrame ({ line:=0,col:=0,endLine:=0,endCol:=0 }:Pos)])=some (.next,⟨Hm w.params,#[],{},463,os⟩,cT,({ line:=34,col:=0,endLine:=35,endCol:=8 }:Pos)):=by
  intro w os;kernel_rfl
theorem hp3d:∀ (w:World) (os:OsState),PySem.W.topRun PySem.treeTable PySem.Challenge.rw_sluice_k33_cut_refused.row.toRowW.prog w 11 (some (Value.ref 6)) 1379 ⟨Hm w.params,#[],{},463,os⟩ (PySem.W.restOf ((PySem.W.behindTheImports PySem.Challenge.rw_sluice_k33_cut_refused.row.toRowW.prog).drop 18) evT cT ({ line:=34,col:=0,endLine:=35,endCol:=8 }:Pos) [PySem.W.topFrame ({ line:=0,col:=0,endLine:=0,endCol:=0 }:Pos)])=some ⟨H1 w.params,#[],{},789,os⟩:=by
  intro w os;kernel_rfl
theorem hp3:∀ (w:World) (os:OsState),PySem.W.topRun PySem.treeTable PySem.Challenge.rw_sluice_k33_cut_refused.row.toRowW.prog w 11 (some (Value.ref 6)) (12 + (20 + (3803 + 1379))) ⟨H0 w.params,#[],{},181,os⟩ (PySem.W.topStub PySem.Challenge.rw_sluice_k33_cut_refused.row.toRowW.prog)=some ⟨H1 w.params,#[],{},789,os⟩:=fun w os=>PySem.W.go_top (hp3a w os) (PySem.W.piece_block (hp3b w os) (by
  have h:=PySem.W.piece_app (hp3c w os) (hp3d w os)
  rwa [List.take_append_drop] at h))
theorem hp4:∀ w:World,(fun os=>((PySem.W.staticsOk (importedModules PySem.Challenge.rw_sluice_k33_cut_refused.row.toRowW.prog.main.body) (H0 w.params) (H1 w.params) && PySem.W.namesBound PySem.Challenge.rw_sluice_k33_cut_refused.row.toRowW.prog (H1 w.params) && PySem.W.gensDone ⟨H1 w.params,#[],{},789,os⟩ && PySem.W.laidKept (H0 w.params) (H1 w.params)),PySem.W.openSeen qv w5 (importedModules PySem.Challenge.rw_sluice_k33_cut_refused.row.toRowW.prog.main.body) (fun s=>PySem.W.xlAt My.qv [] s && PySem.W.recOk (PySem.W.RowW.records PySem.Challenge.rw_sluice_k33_cut_refused.row.toRowW) s) true ⟨H1 w.params,#[],{},789,os⟩,(PySem.W.Hook.obs (PySem.W.kmHook My.Kf My.asK My.hkE My.tsK)) ⟨H1 w.params,#[],{},789,os⟩))=fun _=>(true,PySem.W.openGood qv w5,(PySem.W.Hook.val (PySem.W.kmHook My.Kf My.asK My.hkE My.tsK)) w):=by
  intro w;kernel_rfl
theorem hlE:PySem.W.LeftO PySem.Challenge.rw_sluice_k33_cut_refused.row.toRowW.prog qv My.w5 (fun s=>PySem.W.xlAt My.qv [] s && PySem.W.recOk (PySem.W.RowW.records PySem.Challenge.rw_sluice_k33_cut_refused.row.toRowW) s) (PySem.W.Hook.obs (PySem.W.kmHook My.Kf My.asK My.hkE My.tsK)) (PySem.W.Hook.val (PySem.W.kmHook My.Kf My.asK My.hkE My.tsK)) 9690:=PySem.W.LeftO.of_pieces hp1 hp2 hp3 (by decide) hp4
end My
namespace L2
open PySem PySem.Spec PyProof.Rows
abbrev Key:=Sum Int Str
def yJ:Key→Value→Bool
  | .inl k,v=>Value.isInt k v
  | .inr x,v=>Value.isStrOf x v
def keyH (w:World):Key→Int
  | .inl k=>hashInt k
  | .inr x=>hashStr w x
theorem dw:∀ {k:Key} {v:Value},yJ k v=true→(∃ i t,k=Sum.inl i∧v=Value.int i t)∨(∃ x t,k=Sum.inr x∧v=Value.str x t)
  | .inl i,v,h=>by
    obtain ⟨t,e⟩:=Value.isInt_shape (k:=i) (v:=v) h
    exact .inl ⟨i,t,rfl,e⟩
  | .inr x,v,h=>by
    obtain ⟨t,e⟩:=Value.isStrOf_shape (x:=x) (v:=v) h
    exact .inr ⟨x,t,rfl,e⟩
theorem Bt (i:Int) (t:Tok):yJ (.inl i) (.int i t)=true:=by simp [yJ,Value.isInt]
theorem Bs (x:Str) (t:Tok):yJ (.inr x) (.str x t)=true:=by simp [yJ,Value.isStrOf]
theorem Vf (a b:Int):decide ((Sum.inl a:Key)=Sum.inl b)=(a == b):=by
  by_cases e:a=b
  · subst e;simp
  · have h:¬ (Sum.inl a:Key)=Sum.inl b:=fun q=>e (Sum.inl.inj q)
    rw [decide_eq_false h]
    exact (beq_eq_false_iff_ne.mpr e).symm
theorem Vb (a b:Str):decide ((Sum.inr a:Key)=Sum.inr b)=decide (a=b):=by
  by_cases e:a=b
  · subst e;simp
  · have h:¬ (Sum.inr a:Key)=Sum.inr b:=fun q=>e (Sum.inr.inj q)
    rw [decide_eq_false h,decide_eq_false e]
theorem Ve (a:Int) (b:Str):decide ((Sum.inl a:Key)=Sum.inr b)=false:=decide_eq_false (fun q=>nomatch q)
theorem Vc (a:Str) (b:Int):decide ((Sum.inr a:Key)=Sum.inl b)=false:=decide_eq_false (fun q=>nomatch q)
def eN (prog:Program) (w:World):PySem.KeyKind prog w Key where
  is:=yJ
  hash:=keyH w
  inj:=fun v a b ha hb=>by
    rcases dw ha with ⟨i,t,rfl,rfl⟩ | ⟨x,t,rfl,rfl⟩
    · rcases dw hb with ⟨j,u,rfl,e⟩ | ⟨y,u,rfl,e⟩
      · injection e with e1 _;rw [e1]
      · exact nomatch e
    · rcases dw hb with ⟨j,u,rfl,e⟩ | ⟨y,u,rfl,e⟩
      · exact nomatch e
      · injection e with e1 _;rw [e1]
  byValue:=fun k v h=>by
    rcases dw h with ⟨i,t,rfl,rfl⟩ | ⟨x,t,rfl,rfl⟩ <;> rfl
  pyHash:=fun hv h=>by
    rcases dw hv with ⟨i,t,rfl,rfl⟩ | ⟨x,t,rfl,rfl⟩
    · exact wpAny_pyHash_int h
    · exact wpAny_pyHash_str h
  eqBool:=fun hu hv h=>by
    rcases dw hu with ⟨i,t,rfl,rfl⟩ | ⟨x,t,rfl,rfl⟩
    · rcases dw hv with ⟨j,u,rfl,rfl⟩ | ⟨y,u,rfl,rfl⟩
      · rw [Vf] at h;exact wpAny_eqBool_int h
      · rw [Ve] at h;exact SeqAt.EqAt.int_str i t y u _ _ _ _ h
    · rcases dw hv with ⟨j,u,rfl,rfl⟩ | ⟨y,u,rfl,rfl⟩
      · rw [Vc] at h;exact SeqAt.EqAt.str_int x t j u _ _ _ _ h
      · rw [Vb] at h;exact wpAny_eqBool_str h
  «strs»:=fun k x t v h=>by
    rcases dw h with ⟨i,u,rfl,e⟩ | ⟨y,u,rfl,e⟩
    · exact nomatch e
    · injection e with e1 _
      subst e1
      cases v <;> rfl
theorem vK (prog:Program) (w:World) (i:Int) (t:Tok):(eN prog w).is (.inl i) (.int i t)=true:=Bt i t
theorem vJ (prog:Program) (w:World) (x:Str) (t:Tok):(eN prog w).is (.inr x) (.str x t)=true:=Bs x t
end L2
namespace L2
open PySem PySem.Spec PyProof.Rows
inductive V where
  | non | bl (b:Bool) | int (i:Int) | str (x:Str) | byt (b:Array UInt8) | flt (b:UInt64) | ref (a:Addr) | ty (n:String)
  deriving DecidableEq
def RelV:V→Value→Prop
  | .non,u=>u=Value.none
  | .bl b,u=>u=Value.bool b
  | .int i,u=>∃ t,u=Value.int i t
  | .str x,u=>∃ t,u=Value.str x t
  | .byt b,u=>∃ t,u=Value.bytes b t
  | .flt b,u=>∃ t,u=Value.float b t
  | .ref a,u=>u=Value.ref a
  | .ty n,u=>u=Value.type n
abbrev Vals:List V→List Value→Prop:=Paired RelV
theorem Vals.length {xs:List V} {us:List Value} (r:Vals xs us):xs.length=us.length:=Paired.length r
theorem Vals.get:∀ {xs:List V} {us:List Value} {i:Nat} {x:V},Vals xs us→xs[i]?=some x→∃ u,us[i]?=some u∧RelV x u
  | _,_,_,_,.nil,e=>by simp at e
  | _,_,0,_,.cons r _,e=>by simp at e;subst e;exact ⟨_,rfl,r⟩
  | _,_,i + 1,x,.cons _ t,e=>by
    obtain ⟨u,h1,h2⟩:=Vals.get (i:=i) (x:=x) t (by simpa using e)
    exact ⟨u,by simpa using h1,h2⟩
theorem Vals.set {x:V} {u:Value} (r:RelV x u):∀ {xs:List V} {us:List Value} (i:Nat),Vals xs us→Vals (xs.set i x) (us.set i u)
  | _,_,_,.nil=>.nil
  | _,_,0,.cons _ t=>.cons r t
  | _,_,i + 1,.cons q t=>.cons q (Vals.set r i t)
theorem Vals.append:∀ {xs ys:List V} {us ws:List Value},Vals xs us→Vals ys ws→Vals (xs++ys) (us++ws)
  | _,_,_,_,.nil,s=>s
  | _,_,_,_,.cons r t,s=>.cons r (Vals.append t s)
theorem Vals.take:∀ {xs:List V} {us:List Value} (n:Nat),Vals xs us→Vals (xs.take n) (us.take n)
  | _,_,0,_=>.nil
  | _,_,_ + 1,.nil=>.nil
  | _,_,n + 1,.cons r t=>.cons r (Vals.take n t)
theorem Vals.drop:∀ {xs:List V} {us:List Value} (n:Nat),Vals xs us→Vals (xs.drop n) (us.drop n)
  | _,_,0,r=>r
  | _,_,_ + 1,.nil=>.nil
  | _,_,n + 1,.cons _ t=>Vals.drop n t
def YT:Option V→Option Value→Prop
  | some v,some u=>RelV v u
  | none,none=>True
  | _,_=>False
def KV {κ:Type}:List (κ × V)→List (κ × Value)→Prop:=Paired fun (p:κ × V) (q:κ × Value)=>p.1=q.1∧RelV p.2 q.2
def kV:Key→V
  | .inl i=>.int i
  | .inr x=>.str x
inductive HO where
  /-- a list -/
  | lst (xs:List V)
  /-- a tuple (never changes) -/
  | tup (xs:List V)
  /-- a dict whose keys are ints and texts; one whose keys are tuples of ints and texts (the empty one is both) -/
  | dK (kvs:List (Key × V)) | dT (kvs:List (List Key × V))
  /-- a set of ints: its members, its size -/
  | set (S:Int→Bool) (n:Nat)
  /-- an instance of the class at C, its dict at dx, its attributes -/
  | ins (C dx:Addr) (fs:List (Str × V))
  /-- the dict of the instance at x -/
  | own (x:Addr)
  /-- the dict of an exception -/
  | xd (fs:List (Str × V))
  /-- a bound method, f of x -/
  | met (f x:Addr)
  /-- a range object lo, lo + 1, .. below hi -/
  | rng (lo hi:Int)
  /-- a thing that is known to the object (the script; a dict while a loop walks it): read, never written while it is so -/
  | frz (o:Obj) (u:HO)
  /-- a code object's table -/
  | tbl (ps:Array Value)
  /-- any other thing, by what is true of its one object (a def of one's own: sH a S n := HO.ext fun h => ..) -/
  | ext (φ:Heap→Prop)
abbrev Hp:=Addr→Option HO
def upd (H:Hp) (a:Addr) (o:HO):Hp:=fun b=>if b=a then some o else H b
theorem bB {H:Hp} {a:Addr} {o:HO}:upd H a o a=some o:=by unfold upd;rw [if_pos rfl]
theorem aN {H:Hp} {a b:Addr} {o:HO} (h:b≠a):upd H a o b=H b:=by unfold upd;rw [if_neg h]
theorem bD {H:Hp} {a b:Addr} {o:HO} (h:H a=some o) (h':H b=none):a≠b:=by
  intro e;subst e;rw [h] at h';cases h'
section
variable (P:Program) (w:World)
def dM (H:Hp) (h:Heap) (a:Addr):HO→Prop
  | .lst xs=>xs.length≤sizeLine∧∃ (its:List Value) (n:Nat),Vals xs its∧h.get? a=some { cls:=.type "list",data:=.seq its.toArray n }
  | .tup xs=>xs.length≤sizeLine∧∃ its:List Value,Vals xs its∧IsTup h a its.toArray
  | .dK kvs=>kvs.length≤sizeLine∧(a == sysModules)=false∧∃ vs,KV kvs vs∧h.DictOf (eN P w) a vs
  | .dT kvs=>kvs.length≤sizeLine∧(a == sysModules)=false∧∃ xs:List (List Key × Addr × Value),
      Paired (fun (p:List Key × V) (q:List Key × Addr × Value)=>p.1=q.1∧H q.2.1=some (.tup (p.1.map kV))∧RelV p.2 q.2.2) kvs xs ∧
      ∃ o es ep,h.get? a=some o∧o.ExactDict∧o.data=.dict es ep∧es.toList=xs.map (entryOfKey (tupleKind (eN P w)))∧(xs.map (·.1)).Nodup
  | .set S n=>h.SetOf (intKind P w) a S n
  | .ins C dx fs=>H dx=some (.own a)∧fs.length≤1000∧dx≠a∧h.get? a=some (PySem.W.instObj C dx) ∧
      ∃ mA,h.Ns1 dx mA∧(∀ f,YT (fs.lookup f) (mA f))∧PySem.Within mA (fs.map (·.1))
  | .own _=>∃ o,h.get? a=some o
  | .xd fs=>∃ mA,h.Ns1 a mA∧∀ f,YT (fs.lookup f) (mA f)
  | .rng lo hi=>∃ t u v,h.get? a=some { cls:=.type "range",data:=.fields #[.int lo t,.int hi u,.int 1 v] }
  | .frz o u=>h.get? a=some o∧dM H h a u
  | .tbl ps=>h.get? a=some { cls:=.none,data:=.fields ps }
  | .met f x=>h.get? a=some (PySem.W.methodObj (.ref f) (.ref x))
  | .ext φ=>φ h∧(∃ o,h.get? a=some o)∧∀ h1 h2:Heap,φ h1→(∀ o,h1.get? a=some o→h2.get? a=some o)→φ h2
def HOk (H:Hp) (h:Heap):Prop:=∀ a o,H a=some o→dM P w H h a o
end
section
variable {P:Program} {w:World} {H H':Hp} {h h':Heap} {a:Addr} {o:HO}
theorem dM.lt (x:dM P w H h a o):a<h.objs.size:=by
  cases o with
  | lst xs=>obtain ⟨_,_,_,_,e⟩:=x;exact Heap.lt_size e
  | tup xs=>obtain ⟨_,_,_,p⟩:=x;exact p.lt
  | dK kvs=>obtain ⟨_,_,_,_,o,_,_,e,_⟩:=x;exact Heap.lt_size e
  | dT kvs=>obtain ⟨_,_,_,_,o,_,_,e,_⟩:=x;exact Heap.lt_size e
  | set S n=>obtain ⟨o,_,_,_,e,_⟩:=x;exact Heap.lt_size e
  | ins C dx fs=>obtain ⟨_,_,_,e,_⟩:=x;exact Heap.lt_size e
  | own y=>obtain ⟨_,e⟩:=x;exact Heap.lt_size e
  | xd fs=>obtain ⟨_,⟨_,_,_,e,_⟩,_⟩:=x;exact Heap.lt_size e
  | rng lo hi=>obtain ⟨_,_,_,e⟩:=x;exact Heap.lt_size e
  | frz ob u=>obtain ⟨e,_⟩:=x;exact Heap.lt_size e
  | tbl ps=>exact Heap.lt_size (show h.get? a=some _ from x)
  | met f y=>exact Heap.lt_size (show h.get? a=some _ from x)
  | ext φ=>obtain ⟨_,⟨_,e⟩,_⟩:=x;exact Heap.lt_size e
theorem Paired.aar {α β:Type} {F G:α→β→Prop}:∀ {l₁:List α} {l₂:List β},Paired F l₁ l₂→(∀ a b,F a b→G a b)→Paired G l₁ l₂
  | _,_,.nil,_=>.nil
  | _,_,.cons r t,f=>.cons (f _ _ r) (Paired.aar t f)
theorem dM.stay (x:dM P w H h a o) (k:∀ b u,(b=a∨H b=some (.own a))→h.get? b=some u→h'.get? b=some u)
    (ho:∀ b,H b=some (.own a)→H' b=some (.own a)) (ht:∀ b xs,H b=some (.tup xs)→H' b=some (.tup xs)):dM P w H' h' a o:=by
  induction o with
  | lst xs=>obtain ⟨z,its,n,r,e⟩:=x;exact ⟨z,its,n,r,k _ _ (.inl rfl) e⟩
  | tup xs=>obtain ⟨z,its,r,ob,e,c⟩:=x;exact ⟨z,its,r,ob,k _ _ (.inl rfl) e,c⟩
  | dK kvs=>obtain ⟨z,y,vs,r,ob,es,ep,e,c⟩:=x;exact ⟨z,y,vs,r,ob,es,ep,k _ _ (.inl rfl) e,c⟩
  | dT kvs =>
    obtain ⟨z,y,xs,r,ob,es,ep,e,c⟩:=x
    exact ⟨z,y,xs,Paired.aar r fun p q z=>⟨z.1,ht _ _ z.2.1,z.2.2⟩,ob,es,ep,k _ _ (.inl rfl) e,c⟩
  | set S n=>obtain ⟨ob,es,ep,t,e,c⟩:=x;exact ⟨ob,es,ep,t,k _ _ (.inl rfl) e,c⟩
  | ins C dx fs =>
    obtain ⟨d,z,ne,e,mA,⟨od,es,ep,e2,c⟩,r⟩:=x
    exact ⟨ho _ d,z,ne,k _ _ (.inl rfl) e,mA,⟨od,es,ep,k _ _ (.inr d) e2,c⟩,r⟩
  | own y=>obtain ⟨ob,e⟩:=x;exact ⟨ob,k _ _ (.inl rfl) e⟩
  | xd fs=>obtain ⟨mA,⟨od,es,ep,e,c⟩,r⟩:=x;exact ⟨mA,⟨od,es,ep,k _ _ (.inl rfl) e,c⟩,r⟩
  | rng lo hi=>obtain ⟨t,u,v,e⟩:=x;exact ⟨t,u,v,k _ _ (.inl rfl) e⟩
  | frz ob u ih=>obtain ⟨e,q⟩:=x;exact ⟨k _ _ (.inl rfl) e,ih q⟩
  | tbl ps =>
    have e:h.get? a=some { cls:=.none,data:=.fields ps }:=x
    show h'.get? a=some { cls:=.none,data:=.fields ps }
    exact k a _ (.inl rfl) e
  | met f y =>
    have e:h.get? a=some (PySem.W.methodObj (.ref f) (.ref y)):=x
    show h'.get? a=some (PySem.W.methodObj (.ref f) (.ref y))
    exact k a _ (.inl rfl) e
  | ext φ=>obtain ⟨p,⟨o,e⟩,st⟩:=x;exact ⟨st _ _ p fun o q=>k _ _ (.inl rfl) q,⟨o,k _ _ (.inl rfl) e⟩,st⟩
theorem HOk.lt (x:HOk P w H h) (e:H a=some o):a<h.objs.size:=(x a o e).lt
theorem HOk.fresh (x:HOk P w H h) (e:h.objs.size≤a):H a=none:=by
  cases q:H a with
  | none=>rfl
  | some u=>exact absurd (Nat.lt_of_lt_of_le (x.lt q) e) (Nat.lt_irrefl _)
theorem HOk.kept (x:HOk P w H h) (k:∀ b u,h.get? b=some u→h'.get? b=some u):HOk P w H h':=fun a o e =>
  (x a o e).stay (fun b u _ q=>k b u q) (fun _ q=>q) fun _ _ q=>q
theorem HOk.laid (x:HOk P w H h) (k:∀ b u,h.get? b=some u→h'.get? b=some u) (hp:h.objs.size≤a) (new:dM P w (upd H a o) h' a o):HOk P w (upd H a o) h':=fun b u e=>by
  have hn:=x.fresh hp
  by_cases hb:b=a
  · subst hb;rw [bB] at e;cases e;exact new
  · rw [aN hb] at e
    exact (x b u e).stay (fun c v _ q=>k c v q) (fun c q=>by rw [aN (bD q hn)];exact q) fun c xs q=>by rw [aN (bD q hn)];exact q
end
def Rd (H:Hp) (a:Addr) (u:HO):Prop:=H a=some u∨∃ o,H a=some (.frz o u)
theorem Rd.ok {P:Program} {w:World} {H:Hp} {h:Heap} {a:Addr} {u:HO} (r:Rd H a u) (x:HOk P w H h):dM P w H h a u:=by
  rcases r with r | ⟨o,r⟩
  · exact x a u r
  · obtain ⟨_,q⟩:=x a _ r
    exact q
def Mut:Option HO→Prop
  | some (.lst _)=>True
  | some (.dK _)=>True
  | some (.dT _)=>True
  | some (.set _ _)=>True
  | some (.ins _ _ _)=>True
  | some (.ext _)=>True
  | _=>False
section
variable {P:Program} {w:World} {H:Hp} {h h':Heap} {x e:Addr} {o':HO}
theorem HOk.write (ok:HOk P w H h) (mu:Mut (H x)) (he:e=x∨H e=some (.own x)) (k:∀ b u,b≠e→h.get? b=some u→h'.get? b=some u) (heo:∃ u,h'.get? e=some u)
    (new:dM P w (upd H x o') h' x o'):HOk P w (upd H x o') h':=fun b u q=>by
  have nown:∀ c y,H c=some (.own y)→c≠x:=fun c y r z=>by subst z;rw [r] at mu;exact mu
  have ntup:∀ c xs,H c=some (.tup xs)→c≠x:=fun c xs r z=>by subst z;rw [r] at mu;exact mu
  by_cases hb:b=x
  · subst hb;rw [bB] at q;cases q;exact new
  · rw [aN hb] at q
    by_cases hbe:b=e
    · have q':H b=some (.own x):=by
        rcases he with z | z
        · exact absurd (hbe.trans z) hb
        · rw [hbe];exact z
      rw [q] at q';cases q'
      obtain ⟨v,hv⟩:=heo
      exact ⟨v,by rw [hbe];exact hv⟩
    · refine (ok b u q).stay (fun c v hc r=>k c v ?_ r) (fun c r=>by rw [aN (nown c b r)];exact r) fun c xs r=>by rw [aN (ntup c xs r)];exact r
      rcases hc with rfl | hc
      · exact hbe
      · rintro rfl
        rcases he with z | z
        · exact nown c b hc z
        · rw [hc] at z;cases z;exact hb rfl
end
structure Un (fs ex:List Addr) (H H':Hp) (h h':Heap):Prop where
  keep:∀ b o,h.get? b=some o→H b=none→b ∉ fs→b ∉ ex→h'.get? b=some o
  slot:∀ b o,h.get? b=some o→H b=none→b∈fs→b ∉ ex→∃ sl,h'.get? b=some { o with slots:=sl }
  free:∀ b o,h.get? b=some o→H b=none→b ∉ ex→H' b=none
  there:∀ b o,h.get? b=some o→b ∉ ex→∃ o',h'.get? b=some o'
  tups:∀ b xs,H b=some (.tup xs)→H' b=some (.tup xs)
  frzs:∀ b o u,H b=some (.frz o u)→H' b=some (.frz o u)
  tbls:∀ b ps,H b=some (.tbl ps)→∃ more,H' b=some (.tbl (ps++more))
section
variable {fs fs' ex ex':List Addr} {H H1 H2:Hp} {h h1 h2 h':Heap} {a x e:Addr} {o:HO}
theorem Un.any (u:Un fs ex H H1 h h1) {b:Addr} {ob:Obj} (q:h.get? b=some ob) (n:H b=none) (hx:b ∉ ex):∃ sl,h1.get? b=some { ob with slots:=sl }:=by
  by_cases hb:b∈fs
  · exact u.slot b ob q n hb hx
  · exact ⟨ob.slots,u.keep b ob q n hb hx⟩
theorem Un.kept (k:∀ b u,h.get? b=some u→h'.get? b=some u):Un fs ex H H h h' :=
  ⟨fun b ob q _ _ _=>k b ob q,fun b ob q _ _ _=>⟨ob.slots,k b ob q⟩,fun _ _ _ n _=>n,fun b ob q _=>⟨ob,k b ob q⟩,fun _ _ q=>q,fun _ _ _ q=>q,fun _ ps q=>⟨#[],by rw [q];simp⟩⟩
theorem Un.refl:Un fs ex H H h h:=Un.kept fun _ _ q=>q
theorem Un.laid (k:∀ b u,h.get? b=some u→h'.get? b=some u) (hp:h.objs.size≤a) (hn:H a=none):Un fs ex H (upd H a o) h h' where
  keep:=fun b u q _ _ _=>k b u q
  slot:=fun b u q _ _ _=>⟨u.slots,k b u q⟩
  free:=fun b u q n _=>by rw [aN (Nat.ne_of_lt (Nat.lt_of_lt_of_le (Heap.lt_size q) hp))];exact n
  there:=fun b u q _=>⟨u,k b u q⟩
  tups:=fun b xs q=>by rw [aN (bD q hn)];exact q
  frzs:=fun b u xs q=>by rw [aN (bD q hn)];exact q
  tbls:=fun b ps q=>⟨#[],by rw [aN (bD q hn),q];simp⟩
theorem Un.write (mu:Mut (H x)) (he:e=x∨H e=some (.own x)) (k:∀ b u,b≠e→h.get? b=some u→h'.get? b=some u) (heo:∃ u,h'.get? e=some u):Un fs ex H (upd H x o) h h':=by
  have hx:∀ b,H b=none→b≠x:=fun b n z=>by subst z;rw [n] at mu;exact mu
  have hb:∀ b,H b=none→b≠e:=fun b n z=>by
    subst z
    rcases he with r | r
    · exact hx b n r
    · rw [n] at r;cases r
  have hm:∀ b u,H b=some u→¬ Mut (some u)→b≠x:=fun b u q nm z=>by subst z;rw [q] at mu;exact nm mu
  refine ⟨fun b u q n _ _=>k b u (hb b n) q,fun b u q n _ _=>⟨u.slots,k b u (hb b n) q⟩,fun b u q n _=>by rw [aN (hx b n)];exact n,fun b u q _=>?_,
    fun b xs q=>by rw [aN (hm b _ q fun z=>z)];exact q,fun b u xs q=>by rw [aN (hm b _ q fun z=>z)];exact q,fun b ps q=>⟨#[],by rw [aN (hm b _ q fun z=>z),q];simp⟩⟩
  by_cases hbe:b=e
  · subst hbe;exact heo
  · exact ⟨u,k b u hbe q⟩
end
def trk (h:Heap) (H:Hp):List Addr:=(List.range h.objs.size).filter fun a=>(H a).isSome
def Fb (h:Heap) (H:Hp):Heap:=PySem.W.hideAll h (trk h H)
theorem Dt (h:Heap) (H:Hp):(Fb h H).objs.size=h.objs.size:=PySem.W.hideAll_size _ _
theorem Hf {h:Heap} {H:Hp} {b:Addr} {o:Obj} (e:h.get? b=some o) (n:H b=none):(Fb h H).get? b=some o :=
  PySem.W.hideAll_get _ e fun hm=>by
    have q:(H b).isSome=true:=(List.mem_filter.mp hm).2
    rw [n] at q;simp at q
theorem RL {h:Heap} {H:Hp} {b:Addr} {o:Obj} (e:(Fb h H).get? b=some o):h.get? b=some o∧H b=none:=by
  have e':h.get? b=some o:=PySem.W.of_hideAll (trk h H) e
  refine ⟨e',?_⟩
  cases q:H b with
  | none=>rfl
  | some x =>
    have hm:b∈trk h H:=List.mem_filter.mpr ⟨List.mem_range.mpr (Heap.lt_size e'),by simp [q]⟩
    have z:(Fb h H).get? b=none:=PySem.W.hideAll_none (trk h H) hm
    rw [z] at e;cases e
end L2
namespace L2
open PySem PySem.Spec PyProof.Rows
structure Mod (K:PySem.W.Frag) (mg:Str→Option Value) (base:Heap):Prop where
  kin:K.In base
  glob:base.Ns mainGlobals mg
  blt:∃ mb,base.Ns builtinsNs mb∧∀ x:Str,x≠"__name__"→mb x=bootBuiltins x
  nolimit:base.NoLimit
structure Cx where
  prog:Program
  w:World
  K:PySem.W.Frag
  mg:Str→Option Value
  base:Heap
  A:Around
  N:List Str
  s₀:Shared
  H₀:Hp
  env:Env
  outer:List Env
  stack:List Env
  ex:List Addr
  fn:Str→Bool
  calm:Bool
  pn:List (Addr × Obj)
  xe:Value→Shared→Prop
def frs (l:List Env):List Addr:=l.filterMap (·.frame)
abbrev Cx.fs (X:Cx):List Addr:=frs X.outer
def Vis (sc:Scope) (x:Str):Prop:=sc.names.lookup x=some .local∨sc.names.lookup x=some .cell∨sc.names.lookup x=some .free
def Loc (sc:Scope) (x:Str):Prop:=sc.names.lookup x=some .local∨sc.names.lookup x=some .cell
def Look (env:Env) (h:Heap) (m:Str→Option Value) (x:Str) (u:Value):Prop :=
  (env.kindOf x=some .local∧m x=some u)∨((env.kindOf x=some .cell∨env.kindOf x=some .free)∧∃ c,env.cells.lookup x=some c∧h.IsCell c (some u))
structure Cx.Ok (X:Cx):Prop where
  mod:Mod X.K X.mg X.base
  kind:X.env.scope.kind=.function
  glob:X.env.globals=mainGlobals
  blt:X.env.builtins=builtinsNs
  above:X.s₀.heap.objs.size≤X.env.locals
  inj:∀ x y c,X.env.cells.lookup x=some c→X.env.cells.lookup y=some c→x=y
  has:∀ x,(X.env.kindOf x=some .cell∨X.env.kindOf x=some .free)→∃ c,X.env.cells.lookup x=some c
  cab:∀ x c,X.fn x=true→X.env.cells.lookup x=some c→X.s₀.heap.objs.size≤c
  hd:X.calm=true→X.A.handled=none
  frames:X.A.frames=some X.stack
  stk:X.stack=X.outer∨(X.stack=X.env :: X.outer∧X.env.frame=some X.env.locals)
  exf:∀ b∈X.ex,b≠X.env.locals∧∀ x c,X.env.cells.lookup x=some c→c≠b
  bs:∀ b o,X.base.get? b=some o→X.s₀.heap.get? b=some o∧X.H₀ b=none
  bsz:X.base.objs.size≤X.s₀.heap.objs.size
  noex:∀ b o,X.base.get? b=some o→b ∉ X.ex
  exfs:∀ b∈X.ex,b ∉ X.fs
  yM:X.s₀.heap.FunFrames X.base X.outer
  frf:∀ b∈X.fs,X.H₀ b=none
structure Inv (X:Cx) (pins:List (Addr × Obj)) (σ:List (Option V)) (H:Hp) (s:Shared):Prop where
  ok:X.Ok
  os:s.os=X.s₀.os
  bare:AllBare s.gens
  base:Un X.fs X.ex X.H₀ H X.s₀.heap s.heap
  loc:∃ m,s.heap.Ns X.env.locals m∧∀ (i:Nat) (x:Str) (v:V),X.N[i]?=some x→σ[i]?=some (some v)→Vis X.env.scope x→∃ u,RelV v u∧Look X.env s.heap m x u
  cell:∀ x c,X.env.cells.lookup x=some c→∃ v,s.heap.IsCell c v
  free:H X.env.locals=none
  freeC:∀ x c,X.env.cells.lookup x=some c→H c=none
  pin:∀ p∈X.pn++pins,s.heap.get? p.1=some p.2∧H p.1=none∧p.1≠X.env.locals∧p.1 ∉ X.fs∧∀ v,p.2.data≠.cell v
  hok:HOk X.prog X.w H s.heap
  len:σ.length=X.N.length
section
variable {X:Cx} {pins:List (Addr × Obj)} {σ:List (Option V)} {H H':Hp} {s:Shared} {h':Heap}
theorem Cx.Ok.nofr (ok:X.Ok) {b:Addr} {o:Obj} (e:X.base.get? b=some o):b ∉ X.fs:=fun hb=>by
  have:=(ok.yM.mem hb).1
  rw [e] at this;cases this
theorem Inv.bs (I:Inv X pins σ H s):∀ b o,X.base.get? b=some o→s.heap.get? b=some o∧H b=none:=fun b o e =>
  ⟨I.base.keep b o (I.ok.bs b o e).1 (I.ok.bs b o e).2 (I.ok.nofr e) (I.ok.noex b o e),I.base.free b o (I.ok.bs b o e).1 (I.ok.bs b o e).2 (I.ok.noex b o e)⟩
theorem Inv.bk (I:Inv X pins σ H s):∀ b o,X.base.get? b=some o→s.heap.get? b=some o:=fun b o e=>(I.bs b o e).1
theorem Inv.mod (I:Inv X pins σ H s):Mod X.K X.mg X.base:=I.ok.mod
theorem Inv.kIn (I:Inv X pins σ H s):X.K.In s.heap:=I.ok.mod.kin.keeps I.bk
theorem Inv.nolimit (I:Inv X pins σ H s):s.heap.NoLimit:=I.ok.mod.nolimit.keeps I.bk
theorem Inv.lt (I:Inv X pins σ H s):X.env.locals<s.heap.objs.size:=let ⟨_,hn,_⟩:=I.loc;hn.lt
theorem Inv.sz (I:Inv X pins σ H s):X.s₀.heap.objs.size≤s.heap.objs.size:=Nat.le_trans I.ok.above (Nat.le_of_lt I.lt)
theorem Inv.nofs (I:Inv X pins σ H s) {a:Addr} (h:s.heap.objs.size≤a):a ∉ X.fs:=fun hb=>by
  obtain ⟨_,o,ho,_⟩:=I.ok.yM.mem hb
  exact absurd (Nat.lt_of_lt_of_le (Heap.lt_size ho) (Nat.le_trans I.sz h)) (Nat.lt_irrefl _)
theorem Inv.cne (I:Inv X pins σ H s):∀ x c,X.env.cells.lookup x=some c→c≠X.env.locals:=fun x c e z=>by
  obtain ⟨v,o,ho,hd⟩:=I.cell x c e
  obtain ⟨m,⟨o',es,ep,ho',hd',_⟩,_⟩:=I.loc
  rw [z,ho'] at ho;cases ho;rw [hd'] at hd;cases hd
theorem Inv.yM (I:Inv X pins σ H s):s.heap.FunFrames X.base X.outer:=by
  have all:∀ (l:List Env),(∀ b∈frs l,b∈X.fs)→X.s₀.heap.FunFrames X.base l→s.heap.FunFrames X.base l:=by
    intro l
    induction l with
    | nil=>intro _ _;trivial
    | cons env r ih =>
      intro hs hl
      obtain ⟨hk,⟨L,o,hf,hn,ho,hd⟩,hr⟩:=hl
      have hL:L∈X.fs:=hs L (by unfold frs;rw [List.filterMap_cons,hf];exact List.mem_cons_self)
      obtain ⟨sl,e⟩:=I.base.slot L o ho (I.ok.frf L hL) hL fun z=>I.ok.exfs L z hL
      exact ⟨hk,⟨L,_,hf,hn,e,hd⟩,ih (fun b hb=>hs b (by unfold frs;rw [List.filterMap_cons,hf];exact List.mem_cons_of_mem _ hb)) hr⟩
  exact all X.outer (fun _ hb=>hb) I.ok.yM
theorem Inv.stack (I:Inv X pins σ H s):s.heap.FunFrames X.base X.stack:=by
  rcases I.ok.stk with e | ⟨e,hf⟩
  · rw [e];exact I.yM
  · rw [e]
    obtain ⟨m,hn,_⟩:=I.loc
    refine .cons (by rw [I.ok.kind];decide) hf hn ?_ I.yM
    exact Heap.get?_none_of_le (Nat.le_trans I.ok.bsz I.ok.above)
theorem Inv.zH (I:Inv X pins σ H s):∀ b∈frs X.stack,b∈X.env.locals :: X.fs:=fun b hb=>by
  rcases I.ok.stk with e | ⟨e,hf⟩
  · rw [e] at hb;exact List.mem_cons_of_mem _ hb
  · rw [e] at hb
    unfold frs at hb
    rw [List.filterMap_cons,hf] at hb
    exact hb
theorem Inv.qQ (I:Inv X pins σ H s):∀ b∈frs X.stack,H b=none:=fun b hb=>by
  rcases List.mem_cons.mp (I.zH b hb) with e | hb
  · rw [e];exact I.free
  · obtain ⟨_,o,ho,_⟩:=I.ok.yM.mem hb
    exact I.base.free b o ho (I.ok.frf b hb) fun z=>I.ok.exfs b z hb
theorem Inv.step {g':Array GenState} {t':Nat} {d':Drawn} {ch:List Addr} (I:Inv X pins σ H s)
    (hch:∀ b∈ch,(b∈X.ex∨X.s₀.heap.objs.size≤b)∧b≠X.env.locals∧(∀ x c,X.env.cells.lookup x=some c→c≠b)∧∀ p∈X.pn++pins,p.1≠b)
    (keep:∀ b o,b≠X.env.locals→b ∉ X.fs→b ∉ ch→s.heap.get? b=some o→H b=none→h'.get? b=some o)
    (slot:∀ b o,b≠X.env.locals→b∈X.fs→b ∉ ch→s.heap.get? b=some o→H b=none→∃ sl,h'.get? b=some { o with slots:=sl }) (free:∀ b o,b ∉ ch→s.heap.get? b=some o→H b=none→H' b=none)
    (there:∀ b o,b ∉ ch→s.heap.get? b=some o→∃ o',h'.get? b=some o')
    (tups:∀ b xs,H b=some (.tup xs)→H' b=some (.tup xs)) (frzs:∀ b o u,H b=some (.frz o u)→H' b=some (.frz o u)) (tbls:∀ b ps,H b=some (.tbl ps)→∃ more,H' b=some (.tbl (ps++more)))
    (ns:∀ m,s.heap.Ns X.env.locals m→h'.Ns X.env.locals m) (hok:HOk X.prog X.w H' h') (hg:AllBare g') :
    Inv X pins σ H' { s with heap:=h',gens:=g',drawn:=d',toks:=t' }:=by
  have neL:∀ b o,X.s₀.heap.get? b=some o→b≠X.env.locals:=fun b o e=>Nat.ne_of_lt (Nat.lt_of_lt_of_le (Heap.lt_size e) I.ok.above)
  have neC:∀ b o,X.s₀.heap.get? b=some o→b ∉ X.ex→b ∉ ch:=fun b o e hx hb=>by
    rcases (hch b hb).1 with z | z
    · exact hx z
    · exact absurd (Nat.lt_of_lt_of_le (Heap.lt_size e) z) (Nat.lt_irrefl _)
  have cellK:∀ x c,X.env.cells.lookup x=some c→∀ v,s.heap.IsCell c v→h'.IsCell c v:=fun x c e v ⟨o,ho,hd⟩=>by
    have nch:c ∉ ch:=fun z=>(hch c z).2.2.1 x c e rfl
    by_cases hc:c∈X.fs
    · obtain ⟨sl,q⟩:=slot c o (I.cne x c e) hc nch ho (I.freeC x c e)
      exact ⟨_,q,hd⟩
    · exact ⟨o,keep c o (I.cne x c e) hc nch ho (I.freeC x c e),hd⟩
  refine ⟨I.ok,I.os,hg,⟨fun b o e n hb hx=>?_,fun b o e n hb hx=>?_,fun b o e n hx=>?_,fun b o e hx=>?_,fun b xs e=>tups b xs (I.base.tups b xs e),fun b o xs e=>frzs b o xs (I.base.frzs b o xs e),fun b ps e=>?_⟩,?_,fun x c e=>?_,?_,fun x c e=>?_,fun p hp=>?_,hok,I.len⟩
  · exact keep b o (neL b o e) hb (neC b o e hx) (I.base.keep b o e n hb hx) (I.base.free b o e n hx)
  · obtain ⟨sl,e1⟩:=I.base.slot b o e n hb hx
    obtain ⟨sl',e2⟩:=slot b _ (neL b o e) hb (neC b o e hx) e1 (I.base.free b o e n hx)
    exact ⟨sl',e2⟩
  · obtain ⟨o',e1⟩:=I.base.there b o e hx
    exact free b o' (neC b o e hx) e1 (I.base.free b o e n hx)
  · obtain ⟨o',e1⟩:=I.base.there b o e hx
    exact there b o' (neC b o e hx) e1
  · obtain ⟨m1,e1⟩:=I.base.tbls b ps e
    obtain ⟨m2,e2⟩:=tbls b _ e1
    exact ⟨m1++m2,by rw [e2,Array.append_assoc]⟩
  · obtain ⟨m,hn,hl⟩:=I.loc
    refine ⟨m,ns m hn,fun i x v e1 e2 e3=>?_⟩
    obtain ⟨u,r,l⟩:=hl i x v e1 e2 e3
    refine ⟨u,r,?_⟩
    rcases l with l | ⟨k,c,e,z⟩
    · exact .inl l
    · exact .inr ⟨k,c,e,cellK x c e _ z⟩
  · obtain ⟨v,z⟩:=I.cell x c e
    exact ⟨v,cellK x c e v z⟩
  · obtain ⟨m,⟨o,_,_,ho,_⟩,_⟩:=I.loc
    exact free _ o (fun z=>(hch _ z).2.1 rfl) ho I.free
  · obtain ⟨v,o,ho,hd⟩:=I.cell x c e
    exact free c o (fun z=>(hch c z).2.2.1 x c e rfl) ho (I.freeC x c e)
  · obtain ⟨e,n,ne,nf,d⟩:=I.pin p hp
    have nch:p.1 ∉ ch:=fun z=>(hch p.1 z).2.2.2 p hp rfl
    exact ⟨keep p.1 p.2 ne nf nch e n,free p.1 p.2 nch e n,ne,nf,d⟩
theorem Inv.un {t':Nat} (I:Inv X pins σ H s) (u:Un X.fs [] H H' s.heap h') (hok:HOk X.prog X.w H' h'):Inv X pins σ H' { s with heap:=h',toks:=t' }:=by
  obtain ⟨m,⟨o,es,ep,ho,r⟩,_⟩:=id I.loc
  obtain ⟨sl,hL⟩:=u.any ho I.free (by simp)
  exact I.step (g':=s.gens) (d':=s.drawn) (ch:=[]) (fun _ z=>nomatch z) (fun b o _ hb _ e n=>u.keep b o e n hb (by simp)) (fun b o _ hb _ e n=>u.slot b o e n hb (by simp)) (fun b o _ e n=>u.free b o e n (by simp)) (fun b o _ e=>u.there b o e (by simp)) u.tups u.frzs u.tbls (fun m' hm=>by
    obtain ⟨o',es',ep',ho',r'⟩:=hm
    rw [ho] at ho';cases ho'
    exact ⟨_,es',ep',hL,r'⟩) hok I.bare
theorem Inv.call {g':Array GenState} {t':Nat} {d':Drawn} {ch:List Addr} (I:Inv X pins σ H s) (u:Un (frs X.stack) ch H H' s.heap h') (hok:HOk X.prog X.w H' h') (hg:AllBare g')
    (hch:∀ b∈ch,(b∈X.ex∨X.s₀.heap.objs.size≤b)∧b≠X.env.locals∧(∀ x c,X.env.cells.lookup x=some c→c≠b)∧∀ p∈X.pn++pins,p.1≠b) :
    Inv X pins σ H' { s with heap:=h',gens:=g',drawn:=d',toks:=t' }:=by
  obtain ⟨m,⟨o,es,ep,ho,r⟩,_⟩:=id I.loc
  obtain ⟨sl,hL⟩:=u.any ho I.free fun z=>(hch _ z).2.1 rfl
  exact I.step (ch:=ch) hch (fun b o hL hb hc e n=>u.keep b o e n (fun z=>(List.mem_cons.mp (I.zH b z)).elim hL hb) hc) (fun b o _ _ hc e n=>u.any e n hc) (fun b o hc e n=>u.free b o e n hc) (fun b o hc e=>u.there b o e hc) u.tups u.frzs u.tbls (fun m' hm=>by
    obtain ⟨o',es',ep',ho',r'⟩:=hm
    rw [ho] at ho';cases ho'
    exact ⟨_,es',ep',hL,r'⟩) hok hg
theorem Inv.turned {t':Nat} {it:Addr} (I:Inv X pins σ H s) (k:∀ b o,b≠it→s.heap.get? b=some o→h'.get? b=some o) (hn:H it=none) (hL:it≠X.env.locals)
    (h1:it∈X.ex∨X.s₀.heap.objs.size≤it) (h2:∀ x c,X.env.cells.lookup x=some c→c≠it) (h3:∀ p∈X.pn++pins,p.1≠it):Inv X pins σ H { s with heap:=h',toks:=t' }:=by
  have nit:∀ b u,H b=some u→b≠it:=fun b u e z=>by rw [z,hn] at e;cases e
  refine I.step (g':=s.gens) (d':=s.drawn) (ch:=[it]) (fun b hb=>?_) (fun b o _ _ hc e _=>k b o (fun z=>hc (by simp [z])) e) (fun b o _ _ hc e _=>⟨o.slots,k b o (fun z=>hc (by simp [z])) e⟩) (fun _ _ _ _ n=>n)
    (fun b o hc e=>⟨o,k b o (fun z=>hc (by simp [z])) e⟩) (fun _ _ e=>e) (fun _ _ _ e=>e) (fun b ps e=>⟨#[],by rw [e];simp⟩) (fun m hm=>?_) (fun b u e=>?_) I.bare
  · have e:b=it:=by simpa using hb
    subst e
    exact ⟨h1,hL,h2,h3⟩
  · obtain ⟨o,es,ep,ho,r⟩:=hm
    exact ⟨o,es,ep,k _ o (Ne.symm hL) ho,r⟩
  · refine (I.hok b u e).stay (fun c v hc q=>k c v ?_ q) (fun _ q=>q) fun _ _ q=>q
    rcases hc with z | z
    · rw [z];exact nit b u e
    · exact nit c _ z
theorem Inv.tok (I:Inv X pins σ H s) (t:Nat):Inv X pins σ H { s with toks:=t }:=I.un (h':=s.heap) (t':=t) Un.refl I.hok
theorem Inv.kept {t':Nat} (I:Inv X pins σ H s) (k:∀ b u,s.heap.get? b=some u→h'.get? b=some u):Inv X pins σ H { s with heap:=h',toks:=t' }:=I.un (Un.kept k) (I.hok.kept k)
theorem Inv.laid {a:Addr} {o:HO} {t':Nat} (I:Inv X pins σ H s) (k:∀ b u,s.heap.get? b=some u→h'.get? b=some u) (hp:s.heap.objs.size≤a) (new:dM X.prog X.w (upd H a o) h' a o) :
    Inv X pins σ (upd H a o) { s with heap:=h',toks:=t' }:=I.un (Un.laid k hp (I.hok.fresh hp)) (I.hok.laid k hp new)
theorem Inv.write {x e:Addr} {o:HO} {t':Nat} (I:Inv X pins σ H s) (mu:Mut (H x)) (he:e=x∨H e=some (.own x)) (k:∀ b u,b≠e→s.heap.get? b=some u→h'.get? b=some u) (heo:∃ u,h'.get? e=some u)
    (new:dM X.prog X.w (upd H x o) h' x o):Inv X pins σ (upd H x o) { s with heap:=h',toks:=t' }:=I.un (Un.write mu he k heo) (I.hok.write mu he k heo new)
theorem Inv.vC {pins':List (Addr × Obj)} (I:Inv X pins σ H s) (h:∀ p∈pins',s.heap.get? p.1=some p.2∧H p.1=none∧p.1≠X.env.locals∧p.1 ∉ X.fs∧∀ v,p.2.data≠.cell v):Inv X pins' σ H s :=
  ⟨I.ok,I.os,I.bare,I.base,I.loc,I.cell,I.free,I.freeC,fun p hp=>(List.mem_append.mp hp).elim (fun z=>I.pin p (List.mem_append_left _ z)) (h p),I.hok,I.len⟩
theorem wY {N:List Str} (hN:N.Nodup) {i j:Nat} {x:Str} (a:N[i]?=some x) (b:N[j]?=some x):i=j:=by
  obtain ⟨h1,e1⟩:=List.getElem?_eq_some_iff.mp a
  obtain ⟨h2,e2⟩:=List.getElem?_eq_some_iff.mp b
  exact (List.getElem_inj hN).mp (e1.trans e2.symm)
theorem sW {M:Model} {A:Around} {E:Value→Shared→Prop} {i:Nat} {x:Str} {v:V} {u:Value} {Q:Unit→Shared→Prop} (I:Inv X pins σ H s) (hN:X.N.Nodup) (hi:X.N[i]?=some x) (hx:Loc X.env.scope x) (r:RelV v u)
    (h:∀ s',Inv X pins (σ.set i (some v)) H s'→(∃ a,Heap.SameBut a s.heap s'.heap∧(a=X.env.locals∨X.env.cells.lookup x=some a))→Q () s') (hf:X.fn x=true∨X.env.scope.names.lookup x=some .local:=by first | exact .inl rfl | exact .inr rfl | assumption):wpAny M A (storeName X.env x u) Q E s:=by
  obtain ⟨m,hn,hl⟩:=id I.loc
  have hcls:(X.env.scope.kind == .class || (X.env.scope.kind == .module && X.env.locals != X.env.globals))=false:=by rw [I.ok.kind];rfl
  have hiσ:i<σ.length:=by rw [I.len];exact (List.getElem?_eq_some_iff.mp hi).1
  have cne:=I.cne
  have tracked:∀ {a:Addr} {h':Heap},(∃ o,s.heap.get? a=some o∧H a=none)→Heap.SameBut a s.heap h'→HOk X.prog X.w H h':=fun {a h'} ha hs b ob e=>by
    obtain ⟨_,_,hfree⟩:=ha
    refine (I.hok b ob e).stay (fun c w' hc q=>(hs.2 c ?_).trans q) (fun _ q=>q) fun _ _ q=>q
    rintro rfl
    rcases hc with rfl | hc
    · rw [hfree] at e;cases e
    · rw [hfree] at hc;cases hc
  rcases hx with hk | hk
  · refine wpAny_storeName_local hk hn (fun h' hn' hs=>?_) hcls
    obtain ⟨oL,_,_,hoL,_⟩:=id hn
    refine h _ ⟨I.ok,I.os,I.bare,⟨fun b o e n hb hx=>?_,fun b o e n hb hx=>?_,I.base.free,fun b o e hx=>?_,I.base.tups,I.base.frzs,I.base.tbls⟩,⟨_,hn',fun j y v' e1 e2 e3=>?_⟩,fun y c e=>?_,I.free,I.freeC,fun p hp=>?_,tracked ⟨oL,hoL,I.free⟩ hs,by simpa using I.len⟩ ⟨_,hs,.inl rfl⟩
    · exact (hs.2 b (Nat.ne_of_lt (Nat.lt_of_lt_of_le (Heap.lt_size e) I.ok.above))).trans (I.base.keep b o e n hb hx)
    · obtain ⟨sl,e1⟩:=I.base.slot b o e n hb hx
      exact ⟨sl,(hs.2 b (Nat.ne_of_lt (Nat.lt_of_lt_of_le (Heap.lt_size e) I.ok.above))).trans e1⟩
    · obtain ⟨o',e1⟩:=I.base.there b o e hx
      exact ⟨o',(hs.2 b (Nat.ne_of_lt (Nat.lt_of_lt_of_le (Heap.lt_size e) I.ok.above))).trans e1⟩
    · by_cases hj:j=i
      · subst hj
        rw [hi] at e1;cases e1
        rw [List.getElem?_set_self hiσ] at e2
        cases e2
        exact ⟨u,r,.inl ⟨hk,by simp⟩⟩
      · rw [List.getElem?_set_ne (Ne.symm hj)] at e2
        obtain ⟨u',r',q⟩:=hl j y v' e1 e2 e3
        refine ⟨u',r',?_⟩
        rcases q with ⟨k,e⟩ | ⟨k,c,e,z⟩
        · refine .inl ⟨k,?_⟩
          have:y≠x:=fun e=>hj (wY hN e1 (e ▸ hi))
          simp [this,e]
        · exact .inr ⟨k,c,e,z.sameBut hs (cne y c e)⟩
    · obtain ⟨w',z⟩:=I.cell y c e
      exact ⟨w',z.sameBut hs (cne y c e)⟩
    · obtain ⟨e,n,ne,nf,d⟩:=I.pin p hp
      exact ⟨(hs.2 p.1 ne).trans e,n,ne,nf,d⟩
  · have hfn:X.fn x=true:=by
      rcases hf with z | z
      · exact z
      · rw [z] at hk;cases hk
    obtain ⟨c,hc⟩:=I.ok.has x (.inl hk)
    obtain ⟨w',z⟩:=I.cell x c hc
    refine wpAny_storeName_cell I.ok.kind hk hc z (fun h' hc' hs=>?_)
    obtain ⟨oc,hoc,hocd⟩:=id z
    refine h { s with heap:=h' } ⟨I.ok,I.os,I.bare,⟨fun b o e n hb hx=>?_,fun b o e n hb hx=>?_,I.base.free,fun b o e hx=>?_,I.base.tups,I.base.frzs,I.base.tbls⟩,⟨m,hn.sameBut hs (Ne.symm (cne x c hc)),fun j y v' e1 e2 e3=>?_⟩,fun y c' e=>?_,I.free,I.freeC,fun p hp=>?_,tracked ⟨oc,hoc,I.freeC x c hc⟩ hs,by simpa using I.len⟩ ⟨c,hs,.inr hc⟩
    · exact (hs.2 b (Nat.ne_of_lt (Nat.lt_of_lt_of_le (Heap.lt_size e) (I.ok.cab x c hfn hc)))).trans (I.base.keep b o e n hb hx)
    · obtain ⟨sl,e1⟩:=I.base.slot b o e n hb hx
      exact ⟨sl,(hs.2 b (Nat.ne_of_lt (Nat.lt_of_lt_of_le (Heap.lt_size e) (I.ok.cab x c hfn hc)))).trans e1⟩
    · obtain ⟨o',e1⟩:=I.base.there b o e hx
      exact ⟨o',(hs.2 b (Nat.ne_of_lt (Nat.lt_of_lt_of_le (Heap.lt_size e) (I.ok.cab x c hfn hc)))).trans e1⟩
    · by_cases hj:j=i
      · subst hj
        rw [hi] at e1;cases e1
        rw [List.getElem?_set_self hiσ] at e2
        cases e2
        exact ⟨u,r,.inr ⟨.inl hk,c,hc,hc'⟩⟩
      · rw [List.getElem?_set_ne (Ne.symm hj)] at e2
        obtain ⟨u',r',q⟩:=hl j y v' e1 e2 e3
        refine ⟨u',r',?_⟩
        rcases q with q | ⟨k,c',e,z'⟩
        · exact .inl q
        · refine .inr ⟨k,c',e,z'.sameBut hs ?_⟩
          rintro rfl
          exact hj (wY hN e1 (I.ok.inj _ _ _ e hc ▸ hi))
    · by_cases hcc:c'=c
      · subst hcc;exact ⟨_,hc'⟩
      · obtain ⟨w2,z2⟩:=I.cell y c' e
        exact ⟨w2,z2.sameBut hs hcc⟩
    · obtain ⟨e,n,ne,nf,d⟩:=I.pin p hp
      refine ⟨(hs.2 p.1 ?_).trans e,n,ne,nf,d⟩
      intro q
      rw [q,hoc] at e
      have q':oc=p.2:=Option.some.inj e
      exact d w' (by rw [← q'];exact hocd)
theorem qP {M:Model} {A:Around} {E:Value→Shared→Prop} {i:Nat} {x:Str} {v:V} {u:Value} {Q:Unit→Shared→Prop} (I:Inv X pins σ H s) (hN:X.N.Nodup) (hi:X.N[i]?=some x) (hx:Loc X.env.scope x) (r:RelV v u)
    (h:∀ s',Inv X pins (σ.set i (some v)) H s'→Q () s') (hf:X.fn x=true∨X.env.scope.names.lookup x=some .local:=by first | exact .inl rfl | exact .inr rfl | assumption):wpAny M A (storeName X.env x u) Q E s :=
  sW I hN hi hx r (fun s' I' _=>h s' I') hf
theorem Inv.call' {s':Shared} {ch:List Addr} (I:Inv X pins σ H s) (ho:s'.os=s.os) (u:Un (frs X.stack) ch H H' s.heap s'.heap) (hok:HOk X.prog X.w H' s'.heap) (hg:AllBare s'.gens)
    (hch:∀ b∈ch,(b∈X.ex∨X.s₀.heap.objs.size≤b)∧b≠X.env.locals∧(∀ x c,X.env.cells.lookup x=some c→c≠b)∧∀ p∈X.pn++pins,p.1≠b):Inv X pins σ H' s':=by
  obtain ⟨h',g',d',t',o'⟩:=s'
  have e:o'=s.os:=ho
  subst e
  exact I.call (g':=g') (t':=t') (d':=d') u hok hg hch
end
abbrev XK:=Value→Option Addr→Hp→Prop
abbrev St:=List (Option V)
abbrev VK:=V→Hp→Prop
abbrev TE:=St→Hp→VK→Prop
abbrev TT:=St→Hp→(Bool→Hp→Prop)→Prop
abbrev TA:=St→Hp→(List V→Hp→Prop)→Prop
structure Ends where
  nx:St→Hp→Prop
  rt:VK
  bk:St→Hp→Prop:=fun _ _=>False
  ct:St→Hp→Prop:=fun _ _=>False
abbrev TS:=Ends→St→Hp→Prop
def EP (X:Cx) (pins:List (Addr × Obj)) (σ:St) (Q:VK) (u:Value) (s':Shared):Prop:=∃ v H',Inv X pins σ H' s'∧RelV v u∧Q v H'
def TP (X:Cx) (pins:List (Addr × Obj)) (σ:St) (Q:Bool→Hp→Prop) (b:Bool) (s':Shared):Prop:=∃ H',Inv X pins σ H' s'∧Q b H'
def AP (X:Cx) (pins:List (Addr × Obj)) (σ:St) (Q:List V→Hp→Prop) (us:List Value) (s':Shared):Prop:=∃ vs H',Inv X pins σ H' s'∧Vals vs us∧Q vs H'
def SP (X:Cx) (pins:List (Addr × Obj)) (D:Ends) (f:Flow) (s':Shared):Prop :=
  match f with
  | .next=>∃ σ' H',Inv X pins σ' H' s'∧D.nx σ' H'
  | .brk=>∃ σ' H',Inv X pins σ' H' s'∧D.bk σ' H'
  | .cont=>∃ σ' H',Inv X pins σ' H' s'∧D.ct σ' H'
  | .ret u=>∃ v σ' H',Inv X pins σ' H' s'∧RelV v u∧D.rt v H'
def PE (X:Cx) (e:Expr) (t:TE):Prop :=
  ∀ (pins:List (Addr × Obj)) (s:Shared) (σ:St) (H:Hp) (Q:VK),Inv X pins σ H s→t σ H Q→wpAny (model X.prog X.w) X.A (eval e X.env) (EP X pins σ Q) X.xe s
def PT (X:Cx) (e:Expr) (t:TT):Prop :=
  ∀ (pins:List (Addr × Obj)) (s:Shared) (σ:St) (H:Hp) (Q:Bool→Hp→Prop),Inv X pins σ H s→t σ H Q→wpAny (model X.prog X.w) X.A (isTrue e X.env (eval e X.env)) (TP X pins σ Q) X.xe s
def PW (X:Cx) (e:Expr) (t:TT):Prop :=
  ∀ (whole:Sem Value) (pins:List (Addr × Obj)) (s:Shared) (σ:St) (H:Hp) (Q:Bool→Hp→Prop),Inv X pins σ H s→t σ H Q→wpAny (model X.prog X.w) X.A (isTrue e X.env whole) (TP X pins σ Q) X.xe s
theorem PW.pt {X:Cx} {e:Expr} {t:TT} (h:PW X e t):PT X e t:=h _
def PA (X:Cx) (es:List Expr) (t:TA):Prop :=
  ∀ (pos:Pos) (pins:List (Addr × Obj)) (s:Shared) (σ:St) (H:Hp) (Q:List V→Hp→Prop),Inv X pins σ H s→t σ H Q→wpAny (model X.prog X.w) X.A (spliced (backTo pos (starEach es X.env))) (AP X pins σ Q) X.xe s
def PS (X:Cx) (st:Stmt) (t:TS):Prop :=
  ∀ (pins:List (Addr × Obj)) (s:Shared) (σ:St) (H:Hp) (D:Ends),Inv X pins σ H s→t D σ H→wpAny (model X.prog X.w) X.A (exec st X.env) (SP X pins D) X.xe s
def PSs (X:Cx) (st:List Stmt) (t:TS):Prop :=
  ∀ (pins:List (Addr × Obj)) (s:Shared) (σ:St) (H:Hp) (D:Ends),Inv X pins σ H s→t D σ H→wpAny (model X.prog X.w) X.A (execs st X.env) (SP X pins D) X.xe s
theorem thn {α:Type} {t:Sem α} {Q Q':α→Shared→Prop} {M:Model} {A:Around} {E:Value→Shared→Prop} {s:Shared} (h:wpAny M A t Q E s) (hQ:∀ a s,Q a s→Q' a s):wpAny M A t Q' E s:=wpAny_mono h hQ fun _ _ x=>x
end L2
namespace L2
open PySem PySem.Spec PyProof.Rows
section
variable {X:Cx}
def aag (i:Nat):TE:=fun σ H Q=>∃ v,σ[i]?=some (some v)∧Q v H
def tC (v:V):TE:=fun _ H Q=>Q v H
theorem Uw {i:Nat} {x:Str} {pos:Pos} (hN:X.N[i]?=some x) (hv:Vis X.env.scope x) (hd:(x == ("__debug__":Str))=false:=by decide) (hcd:(x == ("__classdict__":Str))=false:=by decide):PE X (.Name x pos) (aag i):=by
  intro pins s σ H Q I h
  obtain ⟨v,e,h⟩:=h
  obtain ⟨m,hn,hl⟩:=I.loc
  obtain ⟨u,r,l⟩:=hl i x v hN e hv
  have fin:EP X pins σ Q u s:=⟨v,H,I,r,h⟩
  rcases l with ⟨hk,hm⟩ | ⟨hk,c,hc,hcell⟩
  · exact wpAny_Name (wpAny_loadName_local I.ok.kind hk hn hm fin) hd
  · rcases hk with hk | hk
    · exact wpAny_Name (wpAny_loadName_cell I.ok.kind hk hc hcell fin) hd
    · exact wpAny_Name (wpAny_loadName_free I.ok.kind hk hc hcell fin hcd) hd
theorem aq {i j pos}:PE X (.Constant (.int i) j pos) (tC (.int i)):=fun _ _ _ H _ I h=>wpAny_Constant_int ⟨.int i,H,I.tok _,⟨_,rfl⟩,h⟩
theorem Ao {b j pos}:PE X (.Constant (.bool b) j pos) (tC (.bl b)):=fun _ _ _ H _ I h=>Constant_bool ⟨.bl b,H,I,rfl,h⟩
theorem Uz {j pos}:PE X (.Constant .none j pos) (tC .non):=fun _ _ _ H _ I h=>Constant_none ⟨.non,H,I,rfl,h⟩
theorem Ux {x j pos}:PE X (.Constant (.str x) j pos) (tC (.str x)):=fun _ _ _ H _ I h=>Calls.Constant_str ⟨.str x,H,I.tok _,⟨_,rfl⟩,h⟩
def Gl (X:Cx) (x:Str):Prop:=X.env.kindOf x=some .globalImplicit
theorem oZ {E:Value→Shared→Prop} {pins:List (Addr × Obj)} {s:Shared} {σ:St} {H:Hp} {x:Str} {u:Value} {pos:Pos} {Q:Value→Shared→Prop} (I:Inv X pins σ H s) (hg:Gl X x) (hm:X.mg x=some u) (h:Q u s)
    (hd:(x == ("__debug__":Str))=false:=by decide):wpAny (model X.prog X.w) X.A (eval (.Name x pos) X.env) Q E s :=
  Calls.Name_function_global I.ok.kind hg (Calls.loadGlobal_global (by rw [I.ok.glob];exact I.mod.glob.keeps I.bk) hm h) hd
theorem jd {E:Value→Shared→Prop} {pins:List (Addr × Obj)} {s:Shared} {σ:St} {H:Hp} {x:Str} {u:Value} {pos:Pos} {Q:Value→Shared→Prop} (I:Inv X pins σ H s) (hg:Gl X x) (hm:X.mg x=none) (hv:bootBuiltins x=some u) (h:Q u s)
    (hn:x≠"__name__":=by decide) (hd:(x == ("__debug__":Str))=false:=by decide):wpAny (model X.prog X.w) X.A (eval (.Name x pos) X.env) Q E s:=by
  obtain ⟨mb,h1,h2⟩:=I.mod.blt
  exact Calls.Name_function_global I.ok.kind hg (Calls.loadGlobal_builtin (by rw [I.ok.glob];exact I.mod.glob.keeps I.bk) hm (by rw [I.ok.blt];exact h1.keeps I.bk) ((h2 x hn).trans hv) h) hd
theorem oR {x:Str} {v:V} {u:Value} {pos:Pos} (hg:Gl X x) (hm:X.mg x=some u) (r:RelV v u) (hd:(x == ("__debug__":Str))=false:=by decide):PE X (.Name x pos) (tC v) :=
  fun _ _ _ H _ I h=>oZ I hg hm ⟨v,H,I,r,h⟩ hd
theorem rC {x:Str} {v:V} {u:Value} {pos:Pos} (hg:Gl X x) (hm:X.mg x=none) (hv:bootBuiltins x=some u) (r:RelV v u) (hn:x≠"__name__":=by decide) (hd:(x == ("__debug__":Str))=false:=by decide):PE X (.Name x pos) (tC v) :=
  fun _ _ _ H _ I h=>jd I hg hm hv ⟨v,H,I,r,h⟩ hn hd
def t2I (ta tb:TE) (k:Int→Int→Hp→Prop):St→Hp→Prop:=fun σ H=>ta σ H fun x H1=>tb σ H1 fun y H2=>∃ i j,x=.int i∧y=.int j∧k i j H2
variable {a b:Expr} {ta tb:TE} {pos:Pos}
def T7 (p:Int→Int→Bool) (ta tb:TE):TE:=fun σ H Q=>t2I ta tb (fun i j H2=>Q (.bl (p i j)) H2) σ H
abbrev tLt:TE→TE→TE:=T7 fun i j=>decide (i<j)
abbrev tLe:TE→TE→TE:=T7 fun i j=>decide (i≤j)
abbrev tGt:TE→TE→TE:=T7 fun i j=>decide (j<i)
abbrev tGe:TE→TE→TE:=T7 fun i j=>decide (j≤i)
abbrev tEqI:TE→TE→TE:=T7 fun i j=>decide (i=j)
abbrev tNeI:TE→TE→TE:=T7 fun i j=>!decide (i=j)
def tB (t:TE):TT:=fun σ H Q=>t σ H fun x H1=>∃ c,x=.bl c∧Q c H1
theorem gq {e:Expr} {t:TE} (h:PE X e t) (he:∀ whole,isTrue e X.env whole=(do let v ← whole;standAt e.pos;holding [v] (truthy v)):=by intro _;rfl):PT X e (tB t):=by
  intro pins s σ H Q I hw
  refine isTrue_plain (thn (h pins s σ H _ I hw) fun v s1 ⟨x,H1,I1,r1,q1⟩=>?_) (he _)
  obtain ⟨d,rfl,q⟩:=q1
  cases r1
  exact wpAny_truthy_bool ⟨H1,I1,q⟩
variable {tA tB':TT} {rest:List Expr}
def tAnd (t u:TT):TT:=fun σ H Q=>t σ H fun c H1=>if c=true then u σ H1 Q else Q false H1
def tOr (t u:TT):TT:=fun σ H Q=>t σ H fun c H1=>if c=true then Q true H1 else u σ H1 Q
def tNot (t:TT):TT:=fun σ H Q=>t σ H fun c H1=>Q (!c) H1
theorem pw_and1 (ha:PT X a tA):PW X (.BoolOp .And [a] pos) tA:=by
  intro wh pins s σ H Q I h
  refine isTrue_and (thn (ha pins s σ H Q I h) fun c s1 e=>?_)
  cases c with
  | true=>exact isTrue_and_nil e
  | false=>exact e
theorem pw_or1 (ha:PT X a tA):PW X (.BoolOp .Or [a] pos) tA:=by
  intro wh pins s σ H Q I h
  refine isTrue_or (thn (ha pins s σ H Q I h) fun c s1 e=>?_)
  cases c with
  | false=>exact isTrue_or_nil e
  | true=>exact e
theorem pw_and (ha:PT X a tA) (hb:PW X (.BoolOp .And (b :: rest) pos) tB'):PW X (.BoolOp .And (a :: b :: rest) pos) (tAnd tA tB'):=by
  intro wh pins s σ H Q I h
  refine isTrue_and (thn (ha pins s σ H _ I h) fun c s1 ⟨H1,I1,q1⟩=>?_)
  cases c with
  | true=>exact hb wh pins s1 σ H1 Q I1 q1
  | false=>exact ⟨H1,I1,q1⟩
theorem pw_or (ha:PT X a tA) (hb:PW X (.BoolOp .Or (b :: rest) pos) tB'):PW X (.BoolOp .Or (a :: b :: rest) pos) (tOr tA tB'):=by
  intro wh pins s σ H Q I h
  refine isTrue_or (thn (ha pins s σ H _ I h) fun c s1 ⟨H1,I1,q1⟩=>?_)
  cases c with
  | true=>exact ⟨H1,I1,q1⟩
  | false=>exact hb wh pins s1 σ H1 Q I1 q1
theorem tR (ha:PT X a tA):PT X (.UnaryOp .Not a pos) (tNot tA):=by
  intro pins s σ H Q I h
  exact isTrue_not (ha pins s σ H (fun c H1=>Q (!c) H1) I h)
def Zh (ta tb:TE):TE:=fun σ H Q=>ta σ H fun x H1=>∃ c,x=.bl c∧if c=true then tb σ H1 Q else Q (.bl false) H1
def tOrV (ta tb:TE):TE:=fun σ H Q=>ta σ H fun x H1=>∃ c,x=.bl c∧if c=true then Q (.bl true) H1 else tb σ H1 Q
def Y8 (ta:TE):TE:=fun σ H Q=>ta σ H fun x H1=>∃ c,x=.bl c∧Q (.bl (!c)) H1
theorem Am {op} {t:TE} (h:PE X a t):PE X (.BoolOp op [a] pos) t:=fun pins s σ H Q I hw=>BoolOp_one (h pins s σ H Q I hw)
theorem Aq (ha:PE X a ta) (hb:PE X (.BoolOp .And (b :: rest) pos) tb):PE X (.BoolOp .And (a :: b :: rest) pos) (Zh ta tb):=by
  intro pins s σ H Q I h
  refine BoolOp_and (thn (ha pins s σ H _ I h) fun v s1 ⟨x,H1,I1,r1,q1⟩=>?_)
  obtain ⟨c,rfl,q1⟩:=q1
  cases r1
  refine wpAny_truthy_bool ?_
  cases c with
  | true=>exact hb pins s1 σ H1 Q I1 q1
  | false=>exact ⟨.bl false,H1,I1,rfl,q1⟩
theorem Uy (ha:PE X a ta) (hb:PE X (.BoolOp .Or (b :: rest) pos) tb):PE X (.BoolOp .Or (a :: b :: rest) pos) (tOrV ta tb):=by
  intro pins s σ H Q I h
  refine BoolOp_or (thn (ha pins s σ H _ I h) fun v s1 ⟨x,H1,I1,r1,q1⟩=>?_)
  obtain ⟨c,rfl,q1⟩:=q1
  cases r1
  refine wpAny_truthy_bool ?_
  cases c with
  | false=>exact hb pins s1 σ H1 Q I1 q1
  | true=>exact ⟨.bl true,H1,I1,rfl,q1⟩
theorem Ih (ha:PE X a ta):PE X (.UnaryOp .Not a pos) (Y8 ta):=by
  intro pins s σ H Q I h
  refine UnaryOp_ (thn (ha pins s σ H _ I h) fun v s1 ⟨x,H1,I1,r1,q1⟩=>?_)
  obtain ⟨c,rfl,q1⟩:=q1
  cases r1
  exact not_of (wpAny_truthy_bool ⟨.bl (!c),H1,I1,rfl,q1⟩)
end
end L2
namespace L2
open PySem PySem.Spec PyProof.Rows
def SqL (K:PySem.W.Frag) (H:Hp) (a:Addr) (xs:List V):Prop :=
  Rd H a (.lst xs) ∨
    ∃ (o:Obj) (its:Array Value) (n:Nat),K.lookup a=some o∧o.cls=.type "list"∧o.dict=none∧o.data=.seq its n∧its.size≤sizeLine∧Vals xs its.toList
def SqT (K:PySem.W.Frag) (H:Hp) (a:Addr) (xs:List V):Prop :=
  Rd H a (.tup xs) ∨
    ∃ (o:Obj) (its:Array Value) (n:Nat),K.lookup a=some o∧o.cls=.type "tuple"∧o.data=.seq its n∧its.size≤sizeLine∧Vals xs its.toList
def absV:Value→Option V
  | .none=>some .non
  | .bool b=>some (.bl b)
  | .int i _=>some (.int i)
  | .str x _=>some (.str x)
  | .bytes b _=>some (.byt b)
  | .float b _=>some (.flt b)
  | .ref a=>some (.ref a)
  | .type n=>some (.ty n)
  | _=>none
theorem RelV.abs {x:V} {u:Value} (r:RelV x u):absV u=some x:=by
  cases x with
  | non=>cases r;rfl
  | bl _=>cases r;rfl
  | int _=>obtain ⟨t,rfl⟩:=r;rfl
  | str _=>obtain ⟨t,rfl⟩:=r;rfl
  | byt _=>obtain ⟨t,rfl⟩:=r;rfl
  | flt _=>obtain ⟨t,rfl⟩:=r;rfl
  | ref _=>cases r;rfl
  | ty _=>cases r;rfl
theorem RelV.inj {x y:V} {u:Value} (r:RelV x u) (q:RelV y u):x=y:=Option.some.inj (r.abs.symm.trans q.abs)
theorem Vals.inj:∀ {xs ys:List V} {us:List Value},Vals xs us→Vals ys us→xs=ys
  | _,_,_,.nil,.nil=>rfl
  | _,_,_,.cons r t,.cons r' t'=>by rw [r.inj r',Vals.inj t t']
section
variable {X:Cx} {pins:List (Addr × Obj)} {σ:St} {H:Hp} {s:Shared} {a:Addr} {xs ys:List V}
theorem SqL.of {K:PySem.W.Frag} (h:H a=some (.lst xs)):SqL K H a xs:=.inl (.inl h)
theorem SqT.of {K:PySem.W.Frag} (h:H a=some (.tup xs)):SqT K H a xs:=.inl (.inl h)
theorem Inv.list (I:Inv X pins σ H s) (h:SqL X.K H a xs):∃ its:List Value,Vals xs its∧PlainL s.heap a its.toArray∧xs.length≤sizeLine:=by
  rcases h with h | ⟨o,its,n,hk,hc,hd,hs,hz,r⟩
  · obtain ⟨z,its,n,r,e⟩:=h.ok I.hok
    exact ⟨its,r,⟨_,n,e,rfl,rfl,rfl⟩,z⟩
  · refine ⟨its.toList,r,⟨o,n,I.kIn a o hk,hc,hd,by simpa using hs⟩,?_⟩
    have e:=r.length
    simp only [Array.length_toList] at e
    omega
theorem Inv.tuple (I:Inv X pins σ H s) (h:SqT X.K H a xs):∃ its:List Value,Vals xs its∧IsTup s.heap a its.toArray∧xs.length≤sizeLine:=by
  rcases h with h | ⟨o,its,n,hk,hc,hs,hz,r⟩
  · obtain ⟨z,its,r,p⟩:=h.ok I.hok
    exact ⟨its,r,p,z⟩
  · refine ⟨its.toList,r,⟨o,I.kIn a o hk,hc,n,by simpa using hs⟩,?_⟩
    have e:=r.length
    simp only [Array.length_toList] at e
    omega
theorem Inv.GF (I:Inv X pins σ H s) (h:SqL X.K H a xs) (h':SqL X.K H a ys):xs=ys:=by
  obtain ⟨its,r,⟨o,n,e,_,_,d⟩,_⟩:=I.list h
  obtain ⟨its',r',⟨o',n',e',_,_,d'⟩,_⟩:=I.list h'
  rw [e] at e';cases e'
  rw [d] at d'
  injection d' with d1 _
  have:its=its':=by simpa using congrArg Array.toList d1
  subst this
  exact r.inj r'
end
abbrev Cx.wish (X:Cx) (E:Value→Shared→Prop):Cx:={ X with xe:=E }
abbrev Cx.nox (X:Cx):Cx:=X.wish fun _ _=>False
theorem Cx.Ok.wish {X:Cx} (ok:X.Ok) (E:Value→Shared→Prop):(X.wish E).Ok :=
  ⟨ok.mod,ok.kind,ok.glob,ok.blt,ok.above,ok.inj,ok.has,ok.cab,ok.hd,ok.frames,ok.stk,ok.exf,ok.bs,ok.bsz,ok.noex,ok.exfs,ok.yM,ok.frf⟩
theorem Cx.Ok.lH {X:Cx} {E:Value→Shared→Prop} (ok:(X.wish E).Ok):X.Ok :=
  ⟨ok.mod,ok.kind,ok.glob,ok.blt,ok.above,ok.inj,ok.has,ok.cab,ok.hd,ok.frames,ok.stk,ok.exf,ok.bs,ok.bsz,ok.noex,ok.exfs,ok.yM,ok.frf⟩
section
variable {X:Cx} {pins:List (Addr × Obj)} {σ:St} {H:Hp} {s:Shared} {E:Value→Shared→Prop}
theorem Inv.wish (I:Inv X pins σ H s) (E:Value→Shared→Prop):Inv (X.wish E) pins σ H s:=⟨I.ok.wish E,I.os,I.bare,I.base,I.loc,I.cell,I.free,I.freeC,I.pin,I.hok,I.len⟩
theorem Inv.lH (I:Inv (X.wish E) pins σ H s):Inv X pins σ H s:=⟨I.ok.lH,I.os,I.bare,I.base,I.loc,I.cell,I.free,I.freeC,I.pin,I.hok,I.len⟩
theorem SP.lH {D:Ends} {f:Flow} {s':Shared} (h:SP (X.wish E) pins D f s'):SP X pins D f s':=by
  cases f with
  | next=>obtain ⟨σ',H',I,q⟩:=h;exact ⟨σ',H',I.lH,q⟩
  | brk=>obtain ⟨σ',H',I,q⟩:=h;exact ⟨σ',H',I.lH,q⟩
  | cont=>obtain ⟨σ',H',I,q⟩:=h;exact ⟨σ',H',I.lH,q⟩
  | ret u=>obtain ⟨v,σ',H',I,r,q⟩:=h;exact ⟨v,σ',H',I.lH,r,q⟩
theorem PSs.nox {st:List Stmt} {t:TS} (h:PSs X.nox st t):PSs X st t:=fun pins s σ H D I hw =>
  wpAny_mono (h pins s σ H D (I.wish _) hw) (fun _ _ q=>q.lH) fun _ _ z=>False.elim z
end
section
variable {X:Cx} {st:Stmt} {rest:List Stmt} {t u:TS} {e:Expr} {te:TE} {pos:Pos}
def Y9:TS:=fun D σ H=>D.nx σ H
def aP (t u:TS):TS:=fun D σ H=>t { D with nx:=u D } σ H
theorem eV:PSs X [] Y9:=fun _ _ σ H _ I h=>wpAny_execs_nil ⟨σ,H,I,h⟩
theorem aA (h1:PS X st t) (h2:PSs X rest u):PSs X (st :: rest) (aP t u):=by
  intro pins s σ H D I h
  refine wpAny_execs_cons (thn (h1 pins s σ H { D with nx:=u D } I h) fun f s1 q=>?_)
  cases f with
  | next =>
    obtain ⟨σ',H',I',q⟩:=q
    exact h2 pins s1 σ' H' D I' q
  | ret v=>exact q
  | brk=>exact q
  | cont=>exact q
theorem aD (h1:PS X st t):PSs X [st] t:=by
  intro pins s σ H D I h
  refine wpAny_execs_cons (thn (h1 pins s σ H D I h) fun f s1 q=>?_)
  cases f with
  | next=>exact wpAny_execs_nil q
  | ret v=>exact q
  | brk=>exact q
  | cont=>exact q
theorem Inv.quiet {pins:List (Addr × Obj)} {σ:St} {H:Hp} {s:Shared} (I:Inv X pins σ H s):interactive X.env=false:=by simp [interactive,I.ok.kind]
def Zb (te:TE):TS:=fun D σ H=>te σ H fun _ H1=>D.nx σ H1
theorem gJ (he:PE X e te) (hs:swapsWith e none pos.line X.env=pure false:=by rfl):PS X (.Expr e pos) (Zb te):=by
  intro pins s σ H D I h
  exact wpAny_Expr_any (thn (he pins s σ H _ I h) fun v s1 ⟨x,H1,I1,r1,q1⟩=>⟨σ,H1,I1,q1⟩) I.quiet hs
def tRet (te:TE):TS:=fun D σ H=>te σ H D.rt
theorem bx (he:PE X e te):PS X (.Return (some e) pos) (tRet te):=by
  intro pins s σ H D I h
  exact wpAny_Return_some (thn (he pins s σ H _ I h) fun v s1 ⟨x,H1,I1,r1,q1⟩=>⟨x,σ,H1,I1,r1,q1⟩)
def jG (c:TT) (t u:TS):TS:=fun D σ H=>c σ H fun b H1=>if b=true then t D σ H1 else u D σ H1
theorem jN {c:Expr} {a b:List Stmt} {tc:TT} (hc:PT X c tc) (ha:PSs X a t) (hb:PSs X b u):PS X (.If c a b pos) (jG tc t u):=by
  intro pins s σ H D I h
  refine wpAny_If (thn (hc pins s σ H _ I h) fun d s1 ⟨H1,I1,q1⟩=>?_)
  cases d with
  | true=>exact ha pins s1 σ H1 D I1 q1
  | false=>exact hb pins s1 σ H1 D I1 q1
def Uh:TS:=fun _ _ _=>False
theorem Ge:PS X st Uh:=fun _ _ _ _ _ _ h=>h.elim
end
abbrev TG:=V→St→Hp→(St→Hp→Prop)→Prop
abbrev TGs:=List V→St→Hp→(St→Hp→Prop)→Prop
def PG (X:Cx) (target:Expr) (t:TG):Prop :=
  ∀ (pins:List (Addr × Obj)) (s:Shared) (σ:St) (H:Hp) (v:V) (u:Value) (Q:St→Hp→Prop),Inv X pins σ H s→RelV v u→t v σ H Q →
    wpAny (model X.prog X.w) X.A (assign target X.env u) (fun _ s'=>∃ σ' H',Inv X pins σ' H' s'∧Q σ' H') X.xe s
def PGs (X:Cx) (ts:List Expr) (t:TGs):Prop :=
  ∀ (pins:List (Addr × Obj)) (s:Shared) (σ:St) (H:Hp) (vs:List V) (us:List Value) (Q:St→Hp→Prop),Inv X pins σ H s→Vals vs us→t vs σ H Q →
    wpAny (model X.prog X.w) X.A (assignInOrder ((assignEach ts X.env).map (·.2)) us) (fun _ s'=>∃ σ' H',Inv X pins σ' H' s'∧Q σ' H') X.xe s
abbrev YJ:=V→V→V→Hp→(Hp→Prop)→Prop
def aac (X:Cx) (t:YJ):Prop :=
  ∀ (pins:List (Addr × Obj)) (s:Shared) (σ:St) (H:Hp) (o i v:V) (ov iv u:Value) (Q:Hp→Prop),Inv X pins σ H s→RelV o ov→RelV i iv→RelV v u→t o i v H Q →
    wpAny (model X.prog X.w) X.A (setItem ov iv u) (fun _ s'=>∃ H',Inv X pins σ H' s'∧Q H') X.xe s
abbrev TIp:=V→V→Hp→VK→Prop
def PIp (X:Cx) (op:Operator) (t:TIp):Prop :=
  ∀ (pins:List (Addr × Obj)) (s:Shared) (σ:St) (H:Hp) (x y:V) (v u:Value) (Q:VK),Inv X pins σ H s→RelV x v→RelV y u→t x y H Q →
    wpAny (model X.prog X.w) X.A (inplaceOp op v u) (EP X pins σ Q) X.xe s
section
variable {X:Cx} {pos:Pos}
def Hg (i:Nat):TG:=fun v σ H Q=>Q (σ.set i (some v)) H
theorem aK {i:Nat} {x:Str} (hN:X.N.Nodup) (hi:X.N[i]?=some x) (hx:Loc X.env.scope x) (hf:X.fn x=true∨X.env.scope.names.lookup x=some .local:=by first | exact .inl rfl | exact .inr rfl | assumption):PG X (.Name x pos) (Hg i):=by
  intro pins s σ H v u Q I r h
  exact wpAny_assign_Name (qP I hN hi hx r (fun s' I'=>⟨_,H,I',h⟩) hf)
def gNil:TGs:=fun vs σ H Q=>vs=[]∧Q σ H
def Z4 (t:TG) (u:TGs):TGs:=fun vs σ H Q=>∃ v r,vs=v :: r∧t v σ H fun σ' H'=>u r σ' H' Q
theorem iC:PGs X [] gNil:=by
  intro pins s σ H vs us Q I r h
  obtain ⟨e,h⟩:=h
  subst e
  cases r
  exact assignInOrder_nil ⟨σ,H,I,h⟩
theorem bh {e:Expr} {es:List Expr} {t:TG} {u:TGs} (h1:PG X e t) (h2:PGs X es u)
    (hs:(assignEach (e :: es) X.env).map (·.2)=assign e X.env :: (assignEach es X.env).map (·.2):=by rfl):PGs X (e :: es) (Z4 t u):=by
  intro pins s σ H vs us Q I r h
  obtain ⟨v,vr,e1,h⟩:=h
  subst e1
  cases r with
  | cons r rr =>
    rw [hs]
    refine assignInOrder_cons (thn (h1 pins s σ H _ _ _ I r h) fun _ s1 ⟨σ1,H1,I1,q1⟩=>?_)
    exact h2 pins s1 σ1 H1 _ _ Q I1 rr q1
def aau (K:PySem.W.Frag) (n:Nat) (t:TGs):TG:=fun v σ H Q=>∃ a xs,v=.ref a∧SqT K H a xs∧xs.length=n∧t xs σ H Q
theorem nq {es:List Expr} {k:Nat} {t:TGs} {n:Nat} (hc:X.calm=true) (h:PGs X es t)
    (hn:(assignEach es X.env).length=n:=by rfl) (hst:(assignEach es X.env).findIdx? (·.1)=none:=by rfl):PG X (.Tuple es k pos) (aau X.K n t):=by
  intro pins s σ H v u Q I r hw
  obtain ⟨a,xs,e1,hq,hl,hw⟩:=hw
  subst e1
  cases r
  obtain ⟨its,rv,ht,hz⟩:=I.tuple hq
  refine assign_Tuple_tuple (I.ok.hd hc) ht (by simp [hn,← hl,rv.length]) hst fun h' hx=>?_
  have I1:Inv X pins σ H { s with heap:=h' }:=I.kept (t':=s.toks) fun b o e=>hx b o (Nat.ne_of_lt (Heap.lt_size e)) e
  exact h pins _ σ H xs _ Q I1 (by simpa using rv) hw
def gSub (to ti:TE) (t:YJ):TG:=fun v σ H Q=>to σ H fun o H1=>ti σ H1 fun i H2=>t o i v H2 fun H3=>Q σ H3
theorem Al {o i:Expr} {to ti:TE} {t:YJ} (ho:PE X o to) (hi:PE X i ti) (hs:aac X t)
    (ha:∀ v,assign (.Subscript o i pos) X.env v=(do
      let ov ← holding [v] (eval o X.env)
      let iv ← holding [v,ov] (eval i X.env)
      standAt pos
      holding [v,ov,iv] (setItem ov iv v)
      release [v,ov,iv] []):=by intro _;rfl):PG X (.Subscript o i pos) (gSub to ti t):=by
  intro pins s σ H v u Q I r h
  rw [ha]
  refine wpAny_bind (wpAny_holding (thn (ho pins s σ H _ I h) fun ov s1 ⟨x,H1,I1,r1,q1⟩=>?_))
  refine wpAny_bind (wpAny_holding (thn (hi pins s1 σ H1 _ I1 q1) fun iv s2 ⟨y,H2,I2,r2,q2⟩=>?_))
  refine wpAny_bind (wpAny_standAt (wpAny_bind (wpAny_holding (thn (hs pins s2 σ H2 x y v ov iv u _ I2 r1 r2 r q2) fun _ s3 ⟨H3,I3,q3⟩=>?_))))
  exact wpAny_release ⟨σ,H3,I3,q3⟩
def Zg (te:TE) (g:TG):TS:=fun D σ H=>te σ H fun x H1=>g x σ H1 D.nx
theorem oM {tg e:Expr} {te:TE} {g:TG} (he:PE X e te) (hg:PG X tg g) (hs:swapsWithSole [tg] e pos.line X.env=pure false:=by rfl) (hw:swappedStores [tg] e X.env=pure none:=by rfl)
    (h1:(assignEach [tg] X.env).map (·.2)=[assign tg X.env]:=by rfl):PS X (.Assign [tg] e pos) (Zg te g):=by
  intro pins s σ H D I h
  refine wpAny_Assign_stores (thn (he pins s σ H _ I h) fun v s1 ⟨x,H1,I1,r1,q1⟩=>?_) hs hw
  rw [h1]
  exact thn (hg pins s1 σ H1 x v _ I1 r1 q1) fun _ s2 q=>q
theorem aO {i:Nat} {x:Str} {e:Expr} {te:TE} {pos':Pos} (hN:X.N.Nodup) (hi:X.N[i]?=some x) (hx:Loc X.env.scope x) (he:PE X e te) (hs:swapsWith e (some (.Name x pos')) pos.line X.env=pure false:=by rfl) (hf:X.fn x=true∨X.env.scope.names.lookup x=some .local:=by first | exact .inl rfl | exact .inr rfl | assumption) :
    PS X (.Assign [.Name x pos'] e pos) (Zg te (Hg i)):=by
  intro pins s σ H D I h
  refine wpAny_Assign_Name (thn (he pins s σ H _ I h) fun v s1 ⟨y,H1,I1,r1,q1⟩=>?_) hs
  exact qP I1 hN hi hx r1 (fun s2 I2=>⟨_,H1,I2,q1⟩) hf
def Zf (to ti te:TE) (tget:V→V→Hp→VK→Prop) (tip:TIp) (tset:YJ):TS:=fun D σ H=>to σ H fun o H1=>ti σ H1 fun i H2=>tget o i H2 fun x H3=>te σ H3 fun y H4=>tip x y H4 fun z H5=>tset o i z H5 fun H6=>D.nx σ H6
def aaz (X:Cx) (t:V→V→Hp→VK→Prop):Prop :=
  ∀ (pins:List (Addr × Obj)) (s:Shared) (σ:St) (H:Hp) (o i:V) (ov iv:Value) (Q:VK),Inv X pins σ H s→RelV o ov→RelV i iv→t o i H Q →
    wpAny (model X.prog X.w) X.A (getItem ov iv) (EP X pins σ Q) X.xe s
theorem mK {o i e:Expr} {to ti te:TE} {tget:V→V→Hp→VK→Prop} {tip:TIp} {tset:YJ} {op:Operator} {tpos:Pos} (ho:PE X o to) (hi:PE X i ti) (hg:aaz X tget) (he:PE X e te) (hp:PIp X op tip) (hs:aac X tset)
    (ha:∀ ov iv new,augStore i ov iv new=(do holding [new,ov,iv] (setItem ov iv new);release [new,ov,iv] [];pure .next):=by intros;rfl):PS X (.AugAssign (.Subscript o i tpos) op e pos) (Zf to ti te tget tip tset):=by
  intro pins s σ H D I h
  refine wpAny_AugAssign_SubscriptAny (thn (ho pins s σ H _ I h) fun ov s1 ⟨x1,H1,I1,r1,q1⟩=>?_) ha
  refine thn (hi pins s1 σ H1 _ I1 q1) fun iv s2 ⟨x2,H2,I2,r2,q2⟩=>?_
  refine thn (hg pins s2 σ H2 x1 x2 ov iv _ I2 r1 r2 q2) fun old s3 ⟨x3,H3,I3,r3,q3⟩=>?_
  refine thn (he pins s3 σ H3 _ I3 q3) fun v s4 ⟨x4,H4,I4,r4,q4⟩=>?_
  refine thn (hp pins s4 σ H4 x3 x4 old v _ I4 r3 r4 q4) fun new s5 ⟨x5,H5,I5,r5,q5⟩=>?_
  exact thn (hs pins s5 σ H5 x1 x2 x5 ov iv new _ I5 r1 r2 r5 q5) fun _ s6 ⟨H6,I6,q6⟩=>⟨σ,H6,I6,q6⟩
def ipI (f:Int→Int→Int):TIp:=fun x y H Q=>∃ i j,x=.int i∧y=.int j∧Q (.int (f i j)) H
theorem um:PIp X .Add (ipI fun i j=>i + j):=by
  intro pins s σ H x y v u Q I r1 r2 h
  obtain ⟨i,j,e1,e2,q⟩:=h
  subst e1;subst e2
  obtain ⟨t,rfl⟩:=r1
  obtain ⟨t',rfl⟩:=r2
  exact iadd_int ⟨.int _,H,I.tok _,⟨_,rfl⟩,q⟩
theorem Vi:PIp X .Sub (ipI fun i j=>i - j):=by
  intro pins s σ H x y v u Q I r1 r2 h
  obtain ⟨i,j,e1,e2,q⟩:=h
  subst e1;subst e2
  obtain ⟨t,rfl⟩:=r1
  obtain ⟨t',rfl⟩:=r2
  exact isub_int ⟨.int _,H,I.tok _,⟨_,rfl⟩,q⟩
end
section
variable {X:Cx} {pos:Pos}
def nZ (c:TT) (tb:TS):TS:=fun D σ H=>∃ W:Nat→St→Hp→Prop,(∃ m,W m σ H)∧∀ m σ H,W m σ H →
  c σ H fun b H1=>if b=true then ∃ N:St→Hp→Prop,(∀ σ' H',N σ' H'→∃ m',m'<m∧W m' σ' H')∧tb { D with nx:=N,ct:=N,bk:=D.nx } σ H1 else D.nx σ H1
theorem rm {c:Expr} {body:List Stmt} {tc:TT} {tb:TS} (hp:PassesOwn (model X.prog X.w) X.A X.env X.xe) (hc:PT X c tc) (hb:PSs X body tb):PS X (.While c body [] pos) (nZ tc tb):=by
  intro pins s σ H D I h
  obtain ⟨W,⟨m0,w0⟩,turn⟩:=h
  refine wpAny_While (codeAny_whileLoop (fun n s'=>∃ σ' H',Inv X pins σ' H' s'∧W n σ' H') ?_ m0 ⟨σ,H,I,w0⟩)
  rintro n s1 ⟨σ1,H1,I1,w1⟩
  refine wpAny_passesOwn hp (thn (hc pins s1 σ1 H1 _ I1 (turn n σ1 H1 w1)) fun b s2 ⟨H2,I2,q2⟩=>?_)
  cases b with
  | true =>
    obtain ⟨N,hN,q2⟩:=q2
    rw [if_pos rfl]
    refine wpAny_passesOwn hp (thn (hb pins s2 σ1 H2 _ I2 q2) fun f s3 q3=>?_)
    cases f with
    | next =>
      obtain ⟨σ3,H3,I3,n3⟩:=q3
      obtain ⟨m',hm,w3⟩:=hN σ3 H3 n3
      exact ⟨m',hm,σ3,H3,I3,w3⟩
    | cont =>
      obtain ⟨σ3,H3,I3,n3⟩:=q3
      obtain ⟨m',hm,w3⟩:=hN σ3 H3 n3
      exact ⟨m',hm,σ3,H3,I3,w3⟩
    | brk=>exact q3
    | ret v=>exact q3
  | false =>
    rw [if_neg Bool.false_ne_true]
    exact wpAny_execs_nil ⟨σ1,H2,I2,q2⟩
end
structure It where
  go:Nat→Hp→Prop
  yld:Nat→Hp→V→Hp→Prop
  stop:Nat→Hp→Prop
def uY (X:Cx) (pins:List (Addr × Obj)) (H:Hp) (b:Addr):Prop :=
  H b=none∧b≠X.env.locals∧b ∉ X.fs∧(b∈X.ex∨X.s₀.heap.objs.size≤b)∧(∀ x c,X.env.cells.lookup x=some c→c≠b)∧∀ p∈X.pn++pins,p.1≠b
theorem Inv.yV {X:Cx} {pins:List (Addr × Obj)} {σ:St} {H H':Hp} {s:Shared} {b:Addr} (I:Inv X pins σ H s) (hb:s.heap.objs.size≤b) (hn:H' b=none):uY X pins H' b:=by
  refine ⟨hn,Nat.ne_of_gt (Nat.lt_of_lt_of_le I.lt hb),I.nofs hb,.inr (Nat.le_trans I.sz hb),fun x c e z=>?_,fun p hp z=>?_⟩
  · obtain ⟨v,q⟩:=I.cell x c e
    exact absurd (Nat.lt_of_lt_of_le q.lt (by rw [z];exact hb)) (Nat.lt_irrefl _)
  · exact absurd (Nat.lt_of_lt_of_le (Heap.lt_size (I.pin p hp).1) (by rw [z];exact hb)) (Nat.lt_irrefl _)
structure Turn (P:Program) (w:World) (K:PySem.W.Frag) (tg:Expr) (J:It) (fp:List Addr) (it:Addr) (tn:Nat→Heap→Prop):Prop where
  mem:it∈fp
  obj:∀ i h,tn i h→∀ b∈fp,∃ o,h.get? b=some o∧∀ v,o.data≠.cell v
  keep:∀ i h h',tn i h→(∀ b∈fp,∀ o,h.get? b=some o→h'.get? b=some o)→tn i h'
  item:∀ (X:Cx),X.prog=P→X.w=w→X.K=K→X.calm=true→∀ (i:Nat) (pins:List (Addr × Obj)) (s:Shared) (σ:St) (H:Hp) (E:Value→Shared→Prop),Inv X pins σ H s→(∀ b∈fp,uY X pins H b)→tn i s.heap→J.go i H →
    wpAny (model P w) X.A (pyNext (.ref it)) (fun r s1=>∃ u,r=some u ∧
      wpAny (model P w) X.A (letOwnedTupleGo tg (.ref it) u) (fun _ s2=>∃ x H',Inv X pins σ H' s2∧RelV x u∧J.yld i H x H'∧tn (i + 1) s2.heap∧∀ b∈fp,H' b=none) E s1) E s
  done:∀ (X:Cx),X.prog=P→X.w=w→X.K=K→X.calm=true→∀ (i:Nat) (pins:List (Addr × Obj)) (s:Shared) (σ:St) (H:Hp) (E:Value→Shared→Prop),Inv X pins σ H s→(∀ b∈fp,uY X pins H b)→tn i s.heap→J.stop i H →
    wpAny (model P w) X.A (pyNext (.ref it)) (fun r s1=>r=none∧Inv X pins σ H s1) E s
  self:∀ (A:Around) (i:Nat) (s:Shared) (Q:Value→Shared→Prop) (E:Value→Shared→Prop),tn i s.heap→Q (.ref it) s→wpAny (model P w) A (pyIter (.ref it)) Q E s
abbrev TI:=St→Hp→(It→Hp→Prop)→Prop
def PIE (X:Cx) (pins:List (Addr × Obj)) (σ:St) (tg:Expr) (R:It→Hp→Prop) (itv:Value) (s2:Shared):Prop :=
  ∃ (it:Addr) (fp:List Addr) (tn:Nat→Heap→Prop) (J:It) (H':Hp),itv=.ref it∧Inv X pins σ H' s2∧Turn X.prog X.w X.K tg J fp it tn∧tn 0 s2.heap∧(∀ b∈fp,uY X pins H' b)∧R J H'
def PI (X:Cx) (tg iter:Expr) (wi:TI):Prop :=
  ∀ (pins:List (Addr × Obj)) (s:Shared) (σ:St) (H:Hp) (R:It→Hp→Prop),Inv X pins σ H s→wi σ H R →
    wpAny (model X.prog X.w) X.A (eval iter X.env) (fun v s1=>wpAny (model X.prog X.w) X.A (pyIter v) (PIE X pins σ tg R) X.xe s1) X.xe s
theorem Yy {M:Model} {A:Around} {E:Value→Shared→Prop} {s:Shared} {tg:Expr} {it:Addr} {u:Value} {o:Obj} {n:String} {vs:Array Value} {Q:Unit→Shared→Prop} (ho:s.heap.get? it=some o) (hc:o.cls=.type n) (hd:o.data=.fields vs)
    (hn:["enumerate","zip","dict_itemiterator","dict_reverseitemiterator","odict_iterator","itertools.zip_longest","itertools.pairwise"].contains n=false) (hQ:Q () s):wpAny M A (letOwnedTupleGo tg (.ref it) u) Q E s:=by
  unfold letOwnedTupleGo
  cases tg <;> first
    | exact wpAny_pure hQ
    | (cases u <;> first
        | exact wpAny_pure hQ
        | (refine wpAny_bind (wpAny_load ho ?_)
           rw [hc,hd]
           show wpAny M A (if (["enumerate","zip","dict_itemiterator","dict_reverseitemiterator","odict_iterator","itertools.zip_longest","itertools.pairwise"].contains n && vs[0]? == some (rawInt _))=true then _ else _) Q E s
           rw [if_neg (by intro h;rw [hn,Bool.false_and] at h;cases h)]
           exact wpAny_pure hQ))
def Itl (K:PySem.W.Frag) (a:Addr):It :=
  ⟨fun i H=>∃ xs x,SqL K H a xs∧xs[i]?=some x,fun i H x H'=>H'=H∧∀ xs,SqL K H a xs→xs[i]?=some x,fun i H=>∃ xs,SqL K H a xs∧xs.length≤i⟩
def Itr (lo:Int) (n:Nat):It:=⟨fun i _=>i<n,fun i H x H'=>H'=H∧x=.int (lo + i),fun i _=>n≤i⟩
theorem zq {P:Program} {w:World} {K:PySem.W.Frag} {tg:Expr} (a it:Addr):Turn P w K tg (Itl K a) [it] it (fun i h=>h.IsListIter it a i) where
  mem:=by simp
  obj:=fun i h st b hb=>by
    have e:b=it:=by simpa using hb
    subst e
    obtain ⟨o,e,c,d⟩:=st
    exact ⟨o,e,fun v z=>by rw [d] at z;cases z⟩
  keep:=fun i h h' st k=>st.at fun o e=>k it (by simp) o e
  item:=by
    intro X hP hw hK hc i pins s σ H E I hf st hg
    subst hP hw hK
    obtain ⟨xs,x,hq,hx⟩:=hg
    obtain ⟨its,rv,p,hz⟩:=I.list hq
    obtain ⟨u,hu,ru⟩:=rv.get hx
    obtain ⟨f0,f1,f2,f3,f4,f5⟩:=hf it (by simp)
    refine wpAny_pyNext_list_item st p.isList (x:=u) (by simpa using hu) fun h' st' sb=>?_
    have I1:Inv X pins σ H { s with heap:=h' }:=I.turned (t':=s.toks) (fun b o hb e=>(sb.2 b hb).trans e) f0 f1 f3 f4 f5
    obtain ⟨o,e,c,d⟩:=id st'
    exact ⟨u,rfl,Yy (s:={ s with heap:=h' }) e c d (by decide) ⟨x,H,I1,ru,⟨rfl,fun ys hy=>by rw [I.GF hy hq];exact hx⟩,st',fun b hb=>(hf b hb).1⟩⟩
  done:=by
    intro X hP hw hK hc i pins s σ H E I hf st hg
    subst hP hw hK
    obtain ⟨xs,hq,hx⟩:=hg
    obtain ⟨its,rv,p,hz⟩:=I.list hq
    obtain ⟨f0,f1,f2,f3,f4,f5⟩:=hf it (by simp)
    have hl:=rv.length
    exact wpAny_pyNext_list_end (I.ok.hd hc) st p.isList (by simp;omega) fun h' eb=>⟨rfl,I.turned (t':=s.toks) (fun b o hb e=>eb b o hb e) f0 f1 f3 f4 f5⟩
  self:=fun _ _ _ _ _ st h=>wpAny_pyIter_listiter st h
theorem yd {P:Program} {w:World} {K:PySem.W.Frag} {tg:Expr} (it:Addr) (lo:Int) (n:Nat):Turn P w K tg (Itr lo n) [it] it (fun i h=>IsRangeIter h it (lo + (i:Nat) * 1) ((n:Int) - (i:Nat)) 1) where
  mem:=by simp
  obj:=fun i h st b hb=>by
    have e:b=it:=by simpa using hb
    subst e
    exact ⟨_,st,fun v z=>by
      have z':Data.fields _=Data.cell v:=z
      cases z'⟩
  keep:=fun i h h' st k=>k it (by simp) _ st
  item:=by
    intro X hP hw hK hc i pins s σ H E I hf st hg
    subst hP hw hK
    obtain ⟨f0,f1,f2,f3,f4,f5⟩:=hf it (by simp)
    have W:=Walks.range (prog:=X.prog) (w:=X.w) (I.ok.hd hc) it lo 1 n
    refine W.item i s _ _ hg st fun v h' tk hv st' kk=>?_
    obtain ⟨t,rfl⟩:=hv
    have I1:Inv X pins σ H { s with heap:=h',toks:=tk }:=I.turned (fun b o hb e=>kk b o (by simpa using hb) e) f0 f1 f3 f4 f5
    refine ⟨_,rfl,Yy (s:={ s with heap:=h',toks:=tk }) (n:="range_iterator") st' rfl rfl (by decide) ⟨.int (lo + i),H,I1,⟨t,?_⟩,⟨rfl,rfl⟩,st',fun b hb=>(hf b hb).1⟩⟩
    rw [Int.mul_one]
  done:=by
    intro X hP hw hK hc i pins s σ H E I hf st hg
    subst hP hw hK
    obtain ⟨f0,f1,f2,f3,f4,f5⟩:=hf it (by simp)
    exact wpAny_pyNext_range_end (I.ok.hd hc) st (by have:n≤i:=hg;omega) fun h' eb=>⟨rfl,I.turned (t':=s.toks) (fun b o hb e=>eb b o hb e) f0 f1 f3 f4 f5⟩
  self:=fun _ _ _ _ _ st h=>wpAny_pyIter_rangeiter st h
end L2
namespace L2
open PySem PySem.Spec PyProof.Rows
section
variable {X:Cx} {tg:Expr}
def ZW (K:PySem.W.Frag) (tl:TE):TI:=fun σ H R=>tl σ H fun x H1=>∃ a,x=.ref a∧(∃ xs,SqL K H1 a xs)∧R (Itl K a) H1
theorem cB {l:Expr} {tl:TE} (hl:PE X l tl):PI X tg l (ZW X.K tl):=by
  intro pins s σ H R I h
  refine thn (hl pins s σ H _ I h) fun v s1 ⟨x,H1,I1,r1,q1⟩=>?_
  obtain ⟨a,e,⟨xs,hq⟩,q⟩:=q1
  subst e
  cases r1
  obtain ⟨its,rv,p,hz⟩:=I1.list hq
  refine wpAny_pyIter_list p.isList ?_
  refine ⟨s1.heap.objs.size,[s1.heap.objs.size],_,_,H1,rfl,I1.kept (t':=s1.toks) fun b o e=>Heap.get?_push_of_some _ e,zq a _,⟨_,Heap.get?_push_size _ rfl,rfl,rfl⟩,fun b hb=>?_,q⟩
  have e:b=s1.heap.objs.size:=by simpa using hb
  subst e
  exact I1.yV (Nat.le_refl _) (I1.hok.fresh (Nat.le_refl _))
theorem wW {pins:List (Addr × Obj)} {σ:St} {H:Hp} {s:Shared} {R:It→Hp→Prop} {E:Value→Shared→Prop} {lo hi:Int} {t u v:Tok} {tk:Nat} (I:Inv X pins σ H s) (h1:-(2 ^ 62)≤lo) (h2:lo<2 ^ 62) (h3:-(2 ^ 62)≤hi) (h4:hi<2 ^ 62)
    (q:R (Itr lo (hi - lo).toNat) H):wpAny (model X.prog X.w) X.A (pyIter (.ref s.heap.objs.size)) (PIE X pins σ tg R) E { s with heap:=s.heap.push { cls:=.type "range",data:=.fields #[.int lo t,.int hi u,.int 1 v] },toks:=tk }:=by
  refine wpAny_pyIter_range (IsRange.new ..) (small_one h1 h2 h3 h4) ?_
  have I1:Inv X pins σ H { s with heap:=s.heap.push { cls:=.type "range",data:=.fields #[.int lo t,.int hi u,.int 1 v] },toks:=tk }:=I.kept fun b o e=>Heap.get?_push_of_some _ e
  refine ⟨(s.heap.push { cls:=.type "range",data:=.fields #[.int lo t,.int hi u,.int 1 v] }).objs.size,[(s.heap.push { cls:=.type "range",data:=.fields #[.int lo t,.int hi u,.int 1 v] }).objs.size],_,_,H,rfl,
    I1.kept (t':=tk) fun b o e=>Heap.get?_push_of_some _ e,yd _ lo (hi - lo).toNat,?_,fun b hb=>?_,q⟩
  · have e1:lo + ((0:Nat):Int) * 1=lo:=by simp
    have e2:(((hi - lo).toNat:Nat):Int) - ((0:Nat):Int)=Builtin.Range.rangeSize lo hi 1:=by rw [rangeSize_one];split <;> omega
    show IsRangeIter _ _ (lo + ((0:Nat):Int) * 1) ((((hi - lo).toNat:Nat):Int) - ((0:Nat):Int)) 1
    rw [e1,e2]
    exact Heap.get?_push_size _ rfl
  · have e:b=(s.heap.push { cls:=.type "range",data:=.fields #[.int lo t,.int hi u,.int 1 v] }).objs.size:=by simpa using hb
    subst e
    exact I1.yV (Nat.le_refl _) (I1.hok.fresh (Nat.le_refl _))
def ZV (ta:TA):TI:=fun σ H R=>ta σ H fun vs H1=>∃ j:Int,vs=[.int j]∧-(2 ^ 62)≤j∧j<2 ^ 62∧R (Itr 0 j.toNat) H1
def ZS (ta:TA):TI:=fun σ H R=>ta σ H fun vs H1=>∃ i j:Int,vs=[.int i,.int j]∧(-(2 ^ 62)≤i∧i<2 ^ 62∧-(2 ^ 62)≤j∧j<2 ^ 62)∧R (Itr i (j - i).toNat) H1
theorem oN {a:Expr} {ta:TA} {p pos:Pos} (hg:Gl X "range") (hm:X.mg "range"=none) (ha:PA X [a] ta) (hs:starEach [a] X.env=[(false,eval a X.env)]:=by rfl):PI X tg (.Call (.Name "range" p) [a] [] pos) (ZV ta):=by
  intro pins s σ H R I h
  refine Call_ (jd I hg hm boot_range (PyProof.Rows.callWith_type1 (thn (ha pos pins s σ H _ I h) fun us s1 ⟨vs,H1,I1,r1,q1⟩=>?_) hs rfl))
  obtain ⟨j,e,q1,q2,q⟩:=q1
  subst e
  cases r1 with
  | cons r rr =>
    cases rr
    obtain ⟨t,rfl⟩:=r
    exact call_range_1 (wW I1 (by omega) (by omega) q1 q2 (by simpa using q))
theorem Ak {a b:Expr} {ta:TA} {p pos:Pos} (hg:Gl X "range") (hm:X.mg "range"=none) (ha:PA X [a,b] ta) (hs:starEach [a,b] X.env=[(false,eval a X.env),(false,eval b X.env)]:=by rfl) (hs2:starEach [b] X.env=[(false,eval b X.env)]:=by rfl) :
    PI X tg (.Call (.Name "range" p) [a,b] [] pos) (ZS ta):=by
  intro pins s σ H R I h
  refine Call_ (jd I hg hm boot_range (PyProof.Rows.callWith_type1 (thn (ha pos pins s σ H _ I h) fun us s1 ⟨vs,H1,I1,r1,q1⟩=>?_) (by rw [hs,hs2]) (by rw [hs2];rfl)))
  obtain ⟨i,j,e,⟨q1,q2,q3,q4⟩,q⟩:=q1
  subst e
  cases r1 with
  | cons r rr =>
    cases rr with
    | cons r' rr =>
      cases rr
      obtain ⟨t,rfl⟩:=r
      obtain ⟨t',rfl⟩:=r'
      exact call_range_2 (wW I1 q1 q2 q3 q4 q)
def mH (wi:TI) (g:TG) (tb:TS):TS:=fun D σ H=>wi σ H fun J H1=>∃ W:Nat→Nat→St→Hp→Prop,(∃ m,W 0 m σ H1)∧∀ i m σ H,W i m σ H →
  (J.stop i H∧D.nx σ H)∨(J.go i H∧∃ N:St→Hp→Prop,(∀ σ' H',N σ' H'→∃ m',m'<m∧W (i + 1) m' σ' H')∧∀ x H',J.yld i H x H'→g x σ H' fun σ2 H2=>tb { D with nx:=N,ct:=N,bk:=D.nx } σ2 H2)
def tU (fp:List Addr) (h:Heap):List (Addr × Obj):=fp.filterMap fun b=>(h.get? b).map fun o=>(b,o)
theorem j6 {fp:List Addr} {h:Heap} {b:Addr} {o:Obj} (hb:b∈fp) (e:h.get? b=some o):(b,o)∈tU fp h:=List.mem_filterMap.mpr ⟨b,hb,by rw [e];rfl⟩
theorem Az {fp:List Addr} {h:Heap} {p:Addr × Obj} (hp:p∈tU fp h):p.1∈fp∧h.get? p.1=some p.2:=by
  obtain ⟨b,hb,e⟩:=List.mem_filterMap.mp hp
  cases q:h.get? b with
  | none=>rw [q] at e;cases e
  | some o =>
    rw [q] at e
    have e':(b,o)=p:=Option.some.inj e
    subst e'
    exact ⟨hb,q⟩
theorem Inv.pinned {pins:List (Addr × Obj)} {σ:St} {H:Hp} {s:Shared} {fp:List Addr} (I:Inv X pins σ H s) (hf:∀ b∈fp,uY X pins H b) (ho:∀ b∈fp,∃ o,s.heap.get? b=some o∧∀ v,o.data≠.cell v):Inv X (pins++tU fp s.heap) σ H s :=
  I.vC fun p hp=>(List.mem_append.mp hp).elim (fun z=>I.pin p (List.mem_append_right _ z)) fun z=>by
    obtain ⟨hb,e⟩:=Az z
    obtain ⟨f0,f1,f2,_⟩:=hf p.1 hb
    obtain ⟨o,e',d⟩:=ho p.1 hb
    rw [e] at e';cases e'
    exact ⟨e,f0,f1,f2,d⟩
theorem Inv.iI {pins pl:List (Addr × Obj)} {σ:St} {H:Hp} {s:Shared} (I:Inv X (pins++pl) σ H s):Inv X pins σ H s:=I.vC fun p hp=>I.pin p (List.mem_append_right _ (List.mem_append_left _ hp))
theorem iZ {iter:Expr} {body:List Stmt} {wi:TI} {g:TG} {tb:TS} {pos:Pos} (hp:PassesOwn (model X.prog X.w) X.A X.env X.xe) (hc:X.calm=true) (hi:PI X tg iter wi) (hg:PG X tg g) (hb:PSs X body tb)
    (hs:∀ x,foldedSetIterable iter X.env x=pure x:=by intro _;rfl):PS X (.For tg iter body [] pos) (mH wi g tb):=by
  intro pins s σ H D I h
  refine wpAny_For (thn (hi pins s σ H _ I h) fun v s1 h1=>thn h1 fun itv s2 h2=>?_) hs
  obtain ⟨it,fp,tn,J,H2,e,I2,T,st2,f2,W,⟨m0,w0⟩,turn⟩:=h2
  subst e
  have stat:∀ {H':Hp},(∀ b∈fp,H' b=none)→∀ b∈fp,uY X pins H' b:=fun hn b hb=>⟨hn b hb,(f2 b hb).2⟩
  refine codeAny_forLoop_any (fun n s'=>∃ i σ' H',Inv X pins σ' H' s'∧tn i s'.heap∧(∀ b∈fp,H' b=none)∧W i n σ' H') ?_ m0 ⟨0,σ,H2,I2,st2,fun b hb=>(f2 b hb).1,w0⟩
  rintro n s3 ⟨i,σ3,H3,I3,st3,fr3,w3⟩
  rcases turn i n σ3 H3 w3 with ⟨stop,qn⟩ | ⟨go,N,hN,step⟩
  · refine wpAny_passesOwn hp (thn (T.done X rfl rfl rfl hc i pins s3 σ3 H3 X.xe I3 (stat fr3) st3 stop) fun r s4 ⟨hr,I4⟩=>?_)
    subst hr
    exact wpAny_execs_nil ⟨σ3,H3,I4,qn⟩
  · refine wpAny_passesOwn hp (thn (T.item X rfl rfl rfl hc i pins s3 σ3 H3 X.xe I3 (stat fr3) st3 go) fun r s4 ⟨u,hr,h4⟩=>?_)
    subst hr
    refine wpAny_passesOwn hp (thn h4 fun _ s5 ⟨x,H5,I5,r5,y5,st5,fr5⟩=>?_)
    have I5':=I5.pinned (stat fr5) (T.obj _ _ st5)
    refine wpAny_passesOwn hp (thn (hg _ s5 σ3 H5 x u _ I5' r5 (step x H5 y5)) fun _ s6 ⟨σ6,H6,I6,q6⟩=>?_)
    refine wpAny_passesOwn hp (thn (hb _ s6 σ6 H6 _ I6 q6) fun f s7 q7=>?_)
    have again:∀ {σ7:St} {H7:Hp},Inv X (pins++tU fp s5.heap) σ7 H7 s7→N σ7 H7→∃ m,m<n∧∃ i σ' H',Inv X pins σ' H' s7∧tn i s7.heap∧(∀ b∈fp,H' b=none)∧W i m σ' H':=fun {σ7 H7} I7 n7=>by
      obtain ⟨m',hm,w7⟩:=hN σ7 H7 n7
      refine ⟨m',hm,i + 1,σ7,H7,I7.iI,T.keep _ _ _ st5 fun b hb o e=>(I7.pin (b,o) (List.mem_append_right _ (List.mem_append_right _ (j6 hb e)))).1,fun b hb=>?_,w7⟩
      obtain ⟨o,e,d⟩:=T.obj _ _ st5 b hb
      exact (I7.pin (b,o) (List.mem_append_right _ (List.mem_append_right _ (j6 hb e)))).2.1
    cases f with
    | next=>obtain ⟨σ7,H7,I7,n7⟩:=q7;exact again I7 n7
    | cont=>obtain ⟨σ7,H7,I7,n7⟩:=q7;exact again I7 n7
    | brk=>obtain ⟨σ7,H7,I7,q7⟩:=q7;exact ⟨σ7,H7,I7.iI,q7⟩
    | ret v=>obtain ⟨x7,σ7,H7,I7,r7,q7⟩:=q7;exact ⟨x7,σ7,H7,I7.iI,r7,q7⟩
end
theorem gD {K:PySem.W.Frag} {a:Addr} {xs:List V} {g:TG} {tb:TS} {D:Ends} {σ:St} {H:Hp} (Pv:Nat→St→Hp→Prop) (h0:Pv 0 σ H) (hl:∀ i σ H,i≤xs.length→Pv i σ H→SqL K H a xs)
    (hs:∀ i x σ H,xs[i]?=some x→Pv i σ H→g x σ H fun σ2 H2=>tb { D with nx:=Pv (i + 1),ct:=Pv (i + 1),bk:=D.nx } σ2 H2) (hd:∀ σ H,Pv xs.length σ H→D.nx σ H) :
    ∃ W:Nat→Nat→St→Hp→Prop,(∃ m,W 0 m σ H)∧∀ i m σ H,W i m σ H →
      ((Itl K a).stop i H∧D.nx σ H)∨((Itl K a).go i H∧∃ N:St→Hp→Prop,(∀ σ' H',N σ' H'→∃ m',m'<m∧W (i + 1) m' σ' H')∧∀ x H',(Itl K a).yld i H x H'→g x σ H' fun σ2 H2=>tb { D with nx:=N,ct:=N,bk:=D.nx } σ2 H2):=by
  refine ⟨fun i m σ H=>m=xs.length - i∧i≤xs.length∧Pv i σ H,⟨xs.length,by simp,Nat.zero_le _,h0⟩,?_⟩
  rintro i m σ H ⟨rfl,hi,p⟩
  have q:=hl i σ H hi p
  by_cases hlt:i<xs.length
  · refine .inr ⟨⟨xs,xs[i],q,by simp [hlt]⟩,Pv (i + 1),fun σ' H' p'=>⟨xs.length - (i + 1),by omega,rfl,hlt,p'⟩,fun x H' y=>?_⟩
    obtain ⟨e,y⟩:=y
    subst e
    exact hs i x σ _ (y xs q) p
  · have e:i=xs.length:=by omega
    subst e
    exact .inl ⟨⟨xs,q,Nat.le_refl _⟩,hd σ H p⟩
theorem Dv {lo:Int} {n:Nat} {g:TG} {tb:TS} {D:Ends} {σ:St} {H:Hp} (Pv:Nat→St→Hp→Prop) (h0:Pv 0 σ H)
    (hs:∀ i σ H,i<n→Pv i σ H→g (.int (lo + i)) σ H fun σ2 H2=>tb { D with nx:=Pv (i + 1),ct:=Pv (i + 1),bk:=D.nx } σ2 H2) (hd:∀ σ H,Pv n σ H→D.nx σ H) :
    ∃ W:Nat→Nat→St→Hp→Prop,(∃ m,W 0 m σ H)∧∀ i m σ H,W i m σ H →
      ((Itr lo n).stop i H∧D.nx σ H)∨((Itr lo n).go i H∧∃ N:St→Hp→Prop,(∀ σ' H',N σ' H'→∃ m',m'<m∧W (i + 1) m' σ' H')∧∀ x H',(Itr lo n).yld i H x H'→g x σ H' fun σ2 H2=>tb { D with nx:=N,ct:=N,bk:=D.nx } σ2 H2):=by
  refine ⟨fun i m σ H=>m=n - i∧i≤n∧Pv i σ H,⟨n,by simp,Nat.zero_le _,h0⟩,?_⟩
  rintro i m σ H ⟨rfl,hi,p⟩
  by_cases hlt:i<n
  · refine .inr ⟨hlt,Pv (i + 1),fun σ' H' p'=>⟨n - (i + 1),by omega,rfl,hlt,p'⟩,fun x H' y=>?_⟩
    obtain ⟨e,y⟩:=y
    subst e y
    exact hs i σ _ hlt p
  · have e:i=n:=by omega
    subst e
    exact .inl ⟨Nat.le_refl _,hd σ H p⟩
end L2
namespace L2
open PySem PySem.Spec PyProof.Rows
abbrev R2:=V→V→Hp→VK→Prop
def OpR (X:Cx) (f:Value→Value→Sem Value) (r:R2):Prop :=
  ∀ (pins:List (Addr × Obj)) (s:Shared) (σ:St) (H:Hp) (x y:V) (v u:Value) (Q:VK),Inv X pins σ H s→RelV x v→RelV y u→r x y H Q →
    wpAny (model X.prog X.w) X.A (f v u) (EP X pins σ Q) X.xe s
def UnR (X:Cx) (f:Value→Sem Value) (r:V→Hp→VK→Prop):Prop :=
  ∀ (pins:List (Addr × Obj)) (s:Shared) (σ:St) (H:Hp) (x:V) (v:Value) (Q:VK),Inv X pins σ H s→RelV x v→r x H Q →
    wpAny (model X.prog X.w) X.A (f v) (EP X pins σ Q) X.xe s
def nG (X:Cx) (f:Value) (r:List V→Hp→VK→Prop):Prop :=
  ∀ (pins:List (Addr × Obj)) (s:Shared) (σ:St) (H:Hp) (xs:List V) (us:List Value) (Q:VK),Inv X pins σ H s→Vals xs us→r xs H Q →
    wpAny (model X.prog X.w) X.A (call f us) (EP X pins σ Q) X.xe s
def TruR (X:Cx) (r:V→Hp→(Bool→Hp→Prop)→Prop):Prop :=
  ∀ (pins:List (Addr × Obj)) (s:Shared) (σ:St) (H:Hp) (x:V) (v:Value) (Q:Bool→Hp→Prop),Inv X pins σ H s→RelV x v→r x H Q →
    wpAny (model X.prog X.w) X.A (truthy v) (TP X pins σ Q) X.xe s
def tOp (r:R2) (ta tb:TE):TE:=fun σ H Q=>ta σ H fun x H1=>tb σ H1 fun y H2=>r x y H2 Q
def tUn (r:V→Hp→VK→Prop) (ta:TE):TE:=fun σ H Q=>ta σ H fun x H1=>r x H1 Q
def rI (C:Int→Int→Prop) (g:Int→Int→V):R2:=fun x y H Q=>∃ i j,x=.int i∧y=.int j∧C i j∧Q (g i j) H
def rI0 (g:Int→Int→V):R2:=fun x y H Q=>∃ i j,x=.int i∧y=.int j∧Q (g i j) H
def rU (g:Int→V):V→Hp→VK→Prop:=fun x H Q=>∃ i,x=.int i∧Q (g i) H
section
variable {X:Cx} {a b c:Expr} {ta tb tc:TE} {pos:Pos}
theorem Z8 (ha:PE X a ta) (hb:PE X b tb) {pins:List (Addr × Obj)} {s:Shared} {σ:St} {H:Hp} {R:V→V→Hp→Prop} (I:Inv X pins σ H s)
    (h:ta σ H fun x H1=>tb σ H1 fun y H2=>R x y H2) {Q:Value→Shared→Prop} {f:Value→Value→Sem Value}
    (hf:∀ v u s2 x y H2,Inv X pins σ H2 s2→RelV x v→RelV y u→R x y H2→wpAny (model X.prog X.w) X.A (f v u) Q X.xe s2) :
    wpAny (model X.prog X.w) X.A (eval a X.env) (fun v s₁=>wpAny (model X.prog X.w) X.A (eval b X.env) (fun u s₂=>wpAny (model X.prog X.w) X.A (f v u) Q X.xe s₂) X.xe s₁) X.xe s:=by
  refine thn (ha pins s σ H _ I h) fun v s1 ⟨x,H1,I1,r1,q1⟩=>?_
  refine thn (hb pins s1 σ H1 _ I1 q1) fun u s2 ⟨y,H2,I2,r2,q2⟩=>?_
  exact hf v u s2 x y H2 I2 r1 r2 q2
theorem aL {op:Operator} {r:R2} (ho:OpR X (binaryOp op) r) (ha:PE X a ta) (hb:PE X b tb):PE X (.BinOp a op b pos) (tOp r ta tb):=by
  intro pins s σ H Q I h
  exact wpAny_BinOp (Z8 ha hb I h fun v u s2 x y H2 I2 rx ry q=>ho pins s2 σ H2 x y v u Q I2 rx ry q)
theorem rA {op:UnaryOp} {r:V→Hp→VK→Prop} (ho:UnR X (unaryOp op) r) (ha:PE X a ta):PE X (.UnaryOp op a pos) (tUn r ta):=by
  intro pins s σ H Q I h
  exact UnaryOp_ (thn (ha pins s σ H _ I h) fun v s1 ⟨x,H1,I1,r1,q1⟩=>ho pins s1 σ H1 x v Q I1 r1 q1)
theorem opI {f:Value→Value→Sem Value} {C:Int→Int→Prop} {g:Int→Int→Int}
    (rule:∀ (i j:Int) (t u:Tok) (s:Shared) (Q:Value→Shared→Prop) (E:Value→Shared→Prop),C i j→Q (.int (g i j) s.toks) { s with toks:=s.toks + 1 }→wpAny (model X.prog X.w) X.A (f (.int i t) (.int j u)) Q E s) :
    OpR X f (rI C fun i j=>.int (g i j)):=by
  intro pins s σ H x y v u Q I rx ry h
  obtain ⟨i,j,rfl,rfl,hc,q⟩:=h
  obtain ⟨t,rfl⟩:=rx
  obtain ⟨t',rfl⟩:=ry
  exact rule i j t t' s _ _ hc ⟨.int (g i j),H,I.tok _,⟨_,rfl⟩,q⟩
theorem aap {f:Value→Value→Sem Value} {g:Int→Int→Int}
    (rule:∀ (i j:Int) (t u:Tok) (s:Shared) (Q:Value→Shared→Prop) (E:Value→Shared→Prop),Q (.int (g i j) s.toks) { s with toks:=s.toks + 1 }→wpAny (model X.prog X.w) X.A (f (.int i t) (.int j u)) Q E s) :
    OpR X f (rI0 fun i j=>.int (g i j)):=by
  intro pins s σ H x y v u Q I rx ry h
  obtain ⟨i,j,rfl,rfl,q⟩:=h
  obtain ⟨t,rfl⟩:=rx
  obtain ⟨t',rfl⟩:=ry
  exact rule i j t t' s _ _ ⟨.int (g i j),H,I.tok _,⟨_,rfl⟩,q⟩
theorem aaq {f:Value→Value→Sem Value} {g:Int→Int→Bool}
    (rule:∀ (i j:Int) (t u:Tok) (s:Shared) (Q:Value→Shared→Prop) (E:Value→Shared→Prop),Q (.bool (g i j)) s→wpAny (model X.prog X.w) X.A (f (.int i t) (.int j u)) Q E s) :
    OpR X f (rI0 fun i j=>.bl (g i j)):=by
  intro pins s σ H x y v u Q I rx ry h
  obtain ⟨i,j,rfl,rfl,q⟩:=h
  obtain ⟨t,rfl⟩:=rx
  obtain ⟨t',rfl⟩:=ry
  exact rule i j t t' s _ _ ⟨.bl (g i j),H,I,rfl,q⟩
def CDiv (i j:Int):Prop:=0<j∧j<1073741824
def CPow (i j:Int):Prop:=0≤j∧j≤1000000∧i.natAbs<2 ^ 64
def aaf (i j:Int):Prop:=(-(2 ^ 64)<i∧i<2 ^ 64)∨(-(2 ^ 64)<j∧j<2 ^ 64)
theorem aaf.ok {i j:Int} (h:aaf i j):IntMulOk i j:=by
  rcases h with ⟨h1,h2⟩ | ⟨h1,h2⟩
  · exact .of_left (intBits_le_64 h1 h2)
  · exact .of_right (intBits_le_64 h1 h2)
theorem eU:OpR X (binaryOp .Add) (rI0 fun i j=>.int (i + j)):=aap fun _ _ _ _ _ _ _ q=>add_int q
theorem qj:OpR X (binaryOp .Sub) (rI0 fun i j=>.int (i - j)):=aap fun _ _ _ _ _ _ _ q=>sub_int q
theorem iu:OpR X (binaryOp .Mult) (rI aaf fun i j=>.int (i * j)):=opI fun _ _ _ _ _ _ _ hc q=>mul_int q hc.ok
theorem jm:OpR X (binaryOp .FloorDiv) (rI CDiv fun i j=>.int (i / j)):=opI fun i j _ _ _ _ _ hc q=>by
  have h1:(0:Int)<j:=hc.1
  have h2:j<1073741824:=hc.2
  exact floordiv_int (by omega) (by rw [Int.fdiv_eq_ediv_of_nonneg i (by omega)];exact q) (.inl (PyProof.noPylong_small (by omega)))
theorem bK:OpR X (binaryOp .Mod) (rI (fun _ j=>0<j) fun i j=>.int (i % j)):=opI fun i j _ _ _ _ _ hc q=>by
  have h1:(0:Int)<j:=hc
  exact mod_int' (by omega) (by rw [Int.fmod_eq_emod_of_nonneg i (by omega)];exact q)
theorem ql:OpR X (binaryOp .Pow) (rI CPow fun i j=>.int (i ^ j.toNat)):=opI fun _ _ _ _ _ _ _ hc q=>pow_int_small hc.1 hc.2.1 hc.2.2 q
theorem unI {f:Value→Sem Value} {g:Int→Int}
    (rule:∀ (i:Int) (t:Tok) (s:Shared) (Q:Value→Shared→Prop) (E:Value→Shared→Prop),Q (.int (g i) s.toks) { s with toks:=s.toks + 1 }→wpAny (model X.prog X.w) X.A (f (.int i t)) Q E s) :
    UnR X f (rU fun i=>.int (g i)):=by
  intro pins s σ H x v Q I rx h
  obtain ⟨i,rfl,q⟩:=h
  obtain ⟨t,rfl⟩:=rx
  exact rule i t s _ _ ⟨.int (g i),H,I.tok _,⟨_,rfl⟩,q⟩
theorem lJ:UnR X (unaryOp .USub) (rU fun i=>.int (-i)):=unI fun _ _ _ _ _ q=>neg_int q
end
def aak:V→V→Bool
  | .non,.non=>true | .non,.int _=>true | .int _,.non=>true | .non,.bl _=>true | .bl _,.non=>true | .non,.str _=>true | .str _,.non=>true
  | .int _,.int _=>true | .bl _,.bl _=>true | .str _,.str _=>true | .byt _,.byt _=>true
  | .int _,.str _=>true | .str _,.int _=>true | .bl _,.str _=>true | .str _,.bl _=>true
  | _,_=>false
def rEq:R2:=fun x y H Q=>aak x y=true∧Q (.bl (decide (x=y))) H
def rNe:R2:=fun x y H Q=>aak x y=true∧Q (.bl (!decide (x=y))) H
theorem DP {i j:Int}:decide (V.int i=V.int j)=(i == j):=by
  rw [Bool.eq_iff_iff]
  simp
theorem QT {i j:Bool}:decide (V.bl i=V.bl j)=(i == j):=by
  rw [Bool.eq_iff_iff]
  simp
theorem DN {i j:Str}:decide (V.str i=V.str j)=(i == j):=by
  rw [Bool.eq_iff_iff]
  simp
theorem DQ {i j:Array UInt8}:decide (V.byt i=V.byt j)=(i.toList == j.toList):=by
  rw [Bool.eq_iff_iff]
  cases i
  cases j
  simp
section
variable {X:Cx} {a b c:Expr} {ta tb tc:TE} {pos:Pos}
theorem cu {pins:List (Addr × Obj)} {σ:St} {H:Hp} {s:Shared} {Q:VK} {k k':Bool} (I:Inv X pins σ H s) (q:Q (.bl k) H) (e:k=k'):EP X pins σ Q (.bool k') s:=by
  subst e
  exact ⟨.bl k,H,I,rfl,q⟩
theorem pN:OpR X (compareOp .Eq) rEq:=by
  intro pins s σ H x y v u Q I rx ry h
  obtain ⟨hs,q⟩:=h
  cases x with
  | non =>
    cases rx
    cases y with
    | non=>cases ry;exact PySem.EqNone.eq_none_none (cu I q (by simp))
    | bl j=>cases ry;exact PySem.EqNone.eq_none_bool (cu I q (by simp))
    | int j=>obtain ⟨t',rfl⟩:=ry;exact PySem.EqNone.eq_none_int (cu I q (by simp))
    | str j=>obtain ⟨t',rfl⟩:=ry;exact PySem.EqNone.eq_none_str (cu I q (by simp))
    | _=>exact absurd (show false=true from hs) Bool.false_ne_true
  | bl i =>
    cases rx
    cases y with
    | non=>cases ry;exact PySem.EqNone.eq_bool_none (cu I q (by simp))
    | bl j=>cases ry;exact eq_bool (cu I q QT)
    | str j=>obtain ⟨t',rfl⟩:=ry;exact PySem.EqMixed.eq_bool_str (cu I q (by simp))
    | _=>exact absurd (show false=true from hs) Bool.false_ne_true
  | int i =>
    obtain ⟨t,rfl⟩:=rx
    cases y with
    | non=>cases ry;exact PySem.EqNone.eq_int_none (cu I q (by simp))
    | int j=>obtain ⟨t',rfl⟩:=ry;exact eq_int (cu I q DP)
    | str j=>obtain ⟨t',rfl⟩:=ry;exact PySem.EqMixed.eq_int_str (cu I q (by simp))
    | _=>exact absurd (show false=true from hs) Bool.false_ne_true
  | str i =>
    obtain ⟨t,rfl⟩:=rx
    cases y with
    | non=>cases ry;exact PySem.EqNone.eq_str_none (cu I q (by simp))
    | bl j=>cases ry;exact PySem.EqMixed.eq_str_bool (cu I q (by simp))
    | int j=>obtain ⟨t',rfl⟩:=ry;exact PySem.EqMixed.eq_str_int (cu I q (by simp))
    | str j=>obtain ⟨t',rfl⟩:=ry;exact eq_str (cu I q DN)
    | _=>exact absurd (show false=true from hs) Bool.false_ne_true
  | byt i =>
    obtain ⟨t,rfl⟩:=rx
    cases y with
    | byt j=>obtain ⟨t',rfl⟩:=ry;exact PySem.W.eq_bytes (cu I q DQ)
    | _=>exact absurd (show false=true from hs) Bool.false_ne_true
  | _=>cases y <;> exact absurd (show false=true from hs) Bool.false_ne_true
theorem vI:OpR X (compareOp .NotEq) rNe:=by
  intro pins s σ H x y v u Q I rx ry h
  obtain ⟨hs,q⟩:=h
  cases x with
  | non =>
    cases rx
    cases y with
    | non=>cases ry;exact PySem.EqNone.ne_none_none (cu I q (by simp))
    | bl j=>cases ry;exact PySem.EqNone.ne_none_bool (cu I q (by simp))
    | int j=>obtain ⟨t',rfl⟩:=ry;exact PySem.EqNone.ne_none_int (cu I q (by simp))
    | str j=>obtain ⟨t',rfl⟩:=ry;exact PySem.EqNone.ne_none_str (cu I q (by simp))
    | _=>exact absurd (show false=true from hs) Bool.false_ne_true
  | bl i =>
    cases rx
    cases y with
    | non=>cases ry;exact PySem.EqNone.ne_bool_none (cu I q (by simp))
    | bl j=>cases ry;exact ne_bool (cu I q (congrArg not QT))
    | str j=>obtain ⟨t',rfl⟩:=ry;exact PySem.EqMixed.ne_bool_str (cu I q (by simp))
    | _=>exact absurd (show false=true from hs) Bool.false_ne_true
  | int i =>
    obtain ⟨t,rfl⟩:=rx
    cases y with
    | non=>cases ry;exact PySem.EqNone.ne_int_none (cu I q (by simp))
    | int j=>obtain ⟨t',rfl⟩:=ry;exact ne_int (cu I q (congrArg not DP))
    | str j=>obtain ⟨t',rfl⟩:=ry;exact PySem.EqMixed.ne_int_str (cu I q (by simp))
    | _=>exact absurd (show false=true from hs) Bool.false_ne_true
  | str i =>
    obtain ⟨t,rfl⟩:=rx
    cases y with
    | non=>cases ry;exact PySem.EqNone.ne_str_none (cu I q (by simp))
    | bl j=>cases ry;exact PySem.EqMixed.ne_str_bool (cu I q (by simp))
    | int j=>obtain ⟨t',rfl⟩:=ry;exact PySem.EqMixed.ne_str_int (cu I q (by simp))
    | str j=>obtain ⟨t',rfl⟩:=ry;exact ne_str (cu I q (congrArg not DN))
    | _=>exact absurd (show false=true from hs) Bool.false_ne_true
  | byt i =>
    obtain ⟨t,rfl⟩:=rx
    cases y with
    | byt j=>obtain ⟨t',rfl⟩:=ry;exact PySem.W.ne_bytes (cu I q (congrArg not DQ))
    | _=>exact absurd (show false=true from hs) Bool.false_ne_true
  | _=>cases y <;> exact absurd (show false=true from hs) Bool.false_ne_true
theorem UJ:OpR X (compareOp .Lt) (rI0 fun i j=>.bl (decide (i<j))):=aaq fun _ _ _ _ _ _ _ q=>lt_int q
theorem Gh:OpR X (compareOp .Gt) (rI0 fun i j=>.bl (decide (j<i))):=aaq fun _ _ _ _ _ _ _ q=>gt_int q
theorem dJ (b:Expr) {op:CmpOp} (h:op≠.In:=by decide) (h2:op≠.NotIn:=by decide):behindInMarks op b=false:=by
  have e1:(op == CmpOp.In)=false:=by cases op <;> first | rfl | exact absurd rfl h
  have e2:(op == CmpOp.NotIn)=false:=by cases op <;> first | rfl | exact absurd rfl h2
  cases b <;> simp [behindInMarks,e1,e2]
theorem rB {op:CmpOp} {r:R2} (ho:OpR X (compareOp op) r) (ha:PE X a ta) (hb:PE X b tb) (hm:behindInMarks op b=false):PE X (.Compare a [op] [b] pos) (tOp r ta tb):=by
  intro pins s σ H Q I h
  exact wpAny_Compare1 (Z8 ha hb I h fun v u s2 x y H2 I2 rx ry q=>ho pins s2 σ H2 x y v u Q I2 rx ry q) hm
def Y6 (t:TE):TT:=fun σ H Q=>t σ H fun x H'=>∃ k,x=.bl k∧Q k H'
theorem cA {op:CmpOp} {r:R2} (ho:OpR X (compareOp op) r) (ha:PE X a ta) (hb:PE X b tb) (hm:behindInMarks op b=false):PT X (.Compare a [op] [b] pos) (Y6 (tOp r ta tb)):=by
  intro pins s σ H Q I h
  refine wpAny_isTrue_Compare1 (thn (ha pins s σ H _ I h) fun v s1 ⟨x,H1,I1,r1,q1⟩=>thn (hb pins s1 σ H1 _ I1 q1) fun u s2 ⟨y,H2,I2,r2,q2⟩ =>
    thn (ho pins s2 σ H2 x y v u _ I2 r1 r2 q2) fun c s3 ⟨z,H3,I3,r3,k,e,q3⟩=>?_) hm
  subst e
  cases r3
  exact wpAny_truthy_bool ⟨H3,I3,q3⟩
def aax (K:PySem.W.Frag) (x:V) (H:Hp) (k:Bool):Prop :=
  match x with
  | .non=>k=false
  | .bl b=>k=b
  | .int i=>k=(i != 0)
  | .str y=>y.length≤sizeLine∧k=((y.length:Int) != 0)
  | .byt y=>y.size≤sizeLine∧k=((y.size:Int) != 0)
  | .ref p=>(∃ xs,SqL K H p xs∧k=!xs.isEmpty)∨(∃ xs,SqT K H p xs∧k=!xs.isEmpty)∨∃ kvs,H p=some (.dK kvs)∧k=!kvs.isEmpty
  | _=>False
theorem yK {κ:Type} {kvs:List (κ × V)} {vs:List (κ × Value)} (r:KV kvs vs):(!vs.isEmpty)=!kvs.isEmpty:=by
  cases r <;> rfl
theorem qw {xs:List V} {its:List Value} (r:Vals xs its):(!its.toArray.isEmpty)=!xs.isEmpty:=by
  cases r <;> simp
theorem oY:(sizeLine:Nat)<2 ^ 63:=by rw [sizeLine_eq];decide
theorem Ue:TruR X (fun x H Q=>∃ k,aax X.K x H k∧Q k H):=by
  intro pins s σ H x v Q I rx h
  obtain ⟨k,e,q⟩:=h
  have hl:=oY
  have hs:sizeLine=16777216:=sizeLine_eq
  cases x with
  | non =>
    cases rx
    have e':k=false:=e
    subst e'
    exact truthy_none ⟨H,I,q⟩
  | bl b =>
    cases rx
    have e':k=b:=e
    subst e'
    exact wpAny_truthy_bool ⟨H,I,q⟩
  | int i =>
    obtain ⟨t,rfl⟩:=rx
    have e':k=(i != 0):=e
    subst e'
    exact PySem.P.truthy_int ⟨H,I,q⟩
  | str y =>
    obtain ⟨t,rfl⟩:=rx
    obtain ⟨hy,e'⟩:y.length≤sizeLine∧k=((y.length:Int) != 0):=e
    subst e'
    exact PySem.P.truthy_str (by omega) ⟨H,I.tok _,q⟩
  | byt y =>
    obtain ⟨t,rfl⟩:=rx
    obtain ⟨hy,e'⟩:y.size≤sizeLine∧k=((y.size:Int) != 0):=e
    subst e'
    exact PySem.W.truthy_bytes (by omega) ⟨H,I.tok _,q⟩
  | ref p =>
    cases rx
    have e':(∃ xs,SqL X.K H p xs∧k=!xs.isEmpty)∨(∃ xs,SqT X.K H p xs∧k=!xs.isEmpty)∨∃ kvs,H p=some (.dK kvs)∧k=!kvs.isEmpty:=e
    rcases e' with ⟨xs,hx,e'⟩ | ⟨xs,hx,e'⟩ | ⟨kvs,hx,e'⟩
    · subst e'
      obtain ⟨its,r,pl,hz⟩:=I.list hx
      have hlen:=r.length
      exact wpAny_truthy_list pl.isList (by simp only [List.size_toArray];omega) ⟨H,I.tok _,by rw [qw r];exact q⟩
    · subst e'
      obtain ⟨its,r,pl,hz⟩:=I.tuple hx
      have hlen:=r.length
      exact truthy_tuple pl (by simp only [List.size_toArray];omega) ⟨H,I.tok _,by rw [qw r];exact q⟩
    · subst e'
      obtain ⟨hz,hS,vs,r,m⟩:kvs.length≤sizeLine∧(p == sysModules)=false∧∃ vs,KV kvs vs∧s.heap.DictOf (eN X.prog X.w) p vs:=I.hok p _ hx
      have hlen:kvs.length=vs.length:=Paired.length r
      exact wpAny_truthy_dict hS m (by omega) ⟨H,I.tok _,by rw [yK r];exact q⟩
  | _=>exact (show False from e).elim
theorem Gb (ha:PE X a ta) (he:∀ whole,isTrue a X.env whole=(do let v ← whole;standAt a.pos;holding [v] (truthy v))) :
    PT X a (fun σ H Q=>ta σ H fun x H'=>∃ k,aax X.K x H' k∧Q k H'):=by
  intro pins s σ H Q I h
  exact isTrue_plain (thn (ha pins s σ H _ I h) fun v s1 ⟨x,H1,I1,r1,q1⟩=>Ue pins s1 σ H1 x v Q I1 r1 q1) (he _)
theorem vals1 {x:V} {us:List Value} (r:Vals [x] us):∃ u,us=[u]∧RelV x u:=by
  cases r with
  | cons r1 r2=>cases r2;exact ⟨_,rfl,r1⟩
theorem vals2 {x y:V} {us:List Value} (r:Vals [x,y] us):∃ u w',us=[u,w']∧RelV x u∧RelV y w':=by
  cases r with
  | cons r1 r2 =>
    cases r2 with
    | cons r3 r4=>cases r4;exact ⟨_,_,rfl,r1,r3⟩
theorem Ek (hc:X.calm=true):nG X (.builtin "max") (fun xs H Q=>∃ i j,xs=[.int i,.int j]∧Q (.int (if j > i then j else i)) H):=by
  intro pins s σ H xs us Q I r h
  obtain ⟨i,j,rfl,q⟩:=h
  obtain ⟨u,w',rfl,⟨t,rfl⟩,⟨t',rfl⟩⟩:=vals2 r
  refine max_two_ints (I.ok.hd hc) fun h' tk k=>⟨_,H,I.kept k,?_,q⟩
  by_cases hj:j > i
  · rw [if_pos hj,if_pos hj];exact ⟨_,rfl⟩
  · rw [if_neg hj,if_neg hj];exact ⟨_,rfl⟩
theorem Ej (hc:X.calm=true):nG X (.builtin "min") (fun xs H Q=>∃ i j,xs=[.int i,.int j]∧Q (.int (if j<i then j else i)) H):=by
  intro pins s σ H xs us Q I r h
  obtain ⟨i,j,rfl,q⟩:=h
  obtain ⟨u,w',rfl,⟨t,rfl⟩,⟨t',rfl⟩⟩:=vals2 r
  refine min_two_ints (I.ok.hd hc) fun h' tk k=>⟨_,H,I.kept k,?_,q⟩
  by_cases hj:j<i
  · rw [if_pos hj,if_pos hj];exact ⟨_,rfl⟩
  · rw [if_neg hj,if_neg hj];exact ⟨_,rfl⟩
end
end L2
namespace L2
open PySem PySem.Spec PyProof.Rows
structure aad (h:Heap) (x dx C:Addr) (mA:Str→Option Value):Prop where
  obj:h.get? x=some (PySem.W.instObj C dx)
  ns:h.Ns1 dx mA
  ne:dx≠x
theorem Bm {h:Heap} {dx:Addr} {mA:Str→Option Value} (n:h.Ns1 dx mA):∃ od,h.get? dx=some od∧∀ name,PySem.W.lookIn name od=some (mA name):=by
  obtain ⟨o,es,ep,ho,hd,hk,_,hm⟩:=n
  refine ⟨o,ho,fun name=>?_⟩
  have e:=hm name
  unfold nsFind findBy at e
  rw [← Array.find?_toList] at e
  unfold PySem.W.lookIn
  rw [hd]
  dsimp only
  split
  · rename_i y q
    rw [q] at e
    exact congrArg some e
  · rename_i q
    rw [q] at e
    have a:es.toList.any (·.refKey)=false:=by
      rw [List.any_eq_false]
      intro y hy
      obtain ⟨z,t,hkey⟩:=hk y (Array.mem_toList_iff.mp hy)
      simp [DictEntry.refKey,hkey]
    have a':¬ es.toList.any (·.refKey)=true:=by rw [a];exact Bool.false_ne_true
    rw [if_neg a']
    exact congrArg some e
theorem aad.look {h:Heap} {x dx C:Addr} {mA:Str→Option Value} (I:aad h x dx C mA):∃ od,PySem.W.InstAt h x (PySem.W.instObj C dx) C (some od)∧∀ name,PySem.W.lookIn name od=some (mA name) :=
  let ⟨od,ho,hl⟩:=Bm I.ns
  ⟨od,⟨I.obj,rfl,rfl,ho⟩,hl⟩
section
variable {prog:Program} {w:World} {A:Around} {E:Value→Shared→Prop} {s:Shared} {K:PySem.W.Frag} {x dx C f:Addr} {mA:Str→Option Value} {name:Str} {v:Value}
end
section
variable {P:Program} {w:World} {H H':Hp} {h h':Heap} {a C dx:Addr} {fs fs':List (Str × V)}
theorem R3 (hok:HOk P w H h) (e:H a=some (.ins C dx fs)):∃ mA,aad h a dx C mA∧(∀ f,YT (fs.lookup f) (mA f))∧PySem.Within mA (fs.map (·.1))∧fs.length≤1000∧H dx=some (.own a):=by
  obtain ⟨d,z,ne,ob,mA,n,r,q⟩:=(show dM P w H h a (.ins C dx fs) from hok a _ e)
  exact ⟨mA,⟨ob,n,ne⟩,r,q,z,d⟩
end
structure Cls (K:PySem.W.Frag) (C:Addr):Prop where
  pg:PySem.W.plainGet K C Str.empty=true
  hd:PySem.W.hasDictIn K C=true
  po:PySem.W.plainOver K C=true
  sa:PySem.W.findIn K (.ref C) "__setattr__"=some (some (.builtin "object.__setattr__"))
theorem Cls.get {K:PySem.W.Frag} {C:Addr} (c:Cls K C) (f:Str):PySem.W.plainGet K C f=true:=c.pg
section
variable {X:Cx} {pins:List (Addr × Obj)} {σ:St} {H:Hp} {s:Shared} {a C dx:Addr} {fs:List (Str × V)} {f:Str} {v:V} {A:Around} {E:Value→Shared→Prop}
end
section
variable {X:Cx} {o e value:Expr} {f:Str} {pos pos' tpos:Pos} {ta tv:TE}
end
section
variable {X:Cx} {pins:List (Addr × Obj)} {σ:St} {H:Hp} {s:Shared} {A:Around} {E:Value→Shared→Prop} {Q:Value→Shared→Prop} {c:Value} {b:Bool}
inductive xV (K:PySem.W.Frag) (H:Hp):V→Value→Prop where
  | non:xV K H .non (.type "NoneType")
  | bl (x:Bool):xV K H (.bl x) (.type "bool")
  | int (i:Int):xV K H (.int i) (.type "int")
  | str (x:Str):xV K H (.str x) (.type "str")
  | flt (x:UInt64):xV K H (.flt x) (.type "float")
  | lst {a:Addr} {xs:List V} (e:H a=some (.lst xs)):xV K H (.ref a) (.type "list")
  | frz {a:Addr} {o:Obj} {xs:List V} (e:H a=some (.frz o (.lst xs))):xV K H (.ref a) (.type "list")
  | tup {a:Addr} {xs:List V} (e:H a=some (.tup xs)):xV K H (.ref a) (.type "tuple")
  | dK {a:Addr} {kvs:List (Key × V)} (e:H a=some (.dK kvs)):xV K H (.ref a) (.type "dict")
  | dT {a:Addr} {kvs:List (List Key × V)} (e:H a=some (.dT kvs)):xV K H (.ref a) (.type "dict")
  | ins {a C dx:Addr} {fs:List (Str × V)} (e:H a=some (.ins C dx fs)) (cl:Cls K C) (ha:PySem.W.findIn K (.ref C) "__class__"=some (some (.builtin "object.__class__")))
      (hn:PySem.W.specialIn K (.builtin "object.__class__") "__get__"=some (some (.builtin "getset_descriptor.__get__"))) (htk:PySem.W.takesIn K (.builtin "object.__class__")=some true)
      (hm:PySem.W.mroIn K C (.type "object")=some true):xV K H (.ref a) (.ref C)
theorem Bv {x:V} {u t:Value} (I:Inv X pins σ H s) (rx:RelV x u) (ty:xV X.K H x t) (e:PySem.W.kitOne X.K t c=some b) (h:∀ tk,Q (.bool b) { s with toks:=tk }) :
    wpAny (model X.prog X.w) A (call (.builtin "isinstance") [u,c]) Q E s:=by
  cases ty with
  | non=>cases (show u=Value.none from rx);exact PySem.W.kia_one PySem.W.kitx_none I.kIn True.intro e (fun z=>nomatch z) h
  | bl y=>cases (show u=Value.bool y from rx);exact PySem.W.kia_one PySem.W.kitx_bool I.kIn True.intro e (fun z=>nomatch z) h
  | int i=>obtain ⟨t,q⟩:=(show ∃ t,u=Value.int i t from rx);cases q;exact PySem.W.kia_one PySem.W.kitx_int I.kIn True.intro e (fun z=>nomatch z) h
  | str y=>obtain ⟨t,q⟩:=(show ∃ t,u=Value.str y t from rx);cases q;exact PySem.W.kia_one PySem.W.kitx_str I.kIn True.intro e (fun z=>nomatch z) h
  | flt y=>obtain ⟨t,q⟩:=(show ∃ t,u=Value.float y t from rx);cases q;exact PySem.W.kia_one PySem.W.kitx_float I.kIn True.intro e (fun z=>nomatch z) h
  | @lst a xs ea =>
    cases (show u=Value.ref a from rx)
    obtain ⟨_,_,n,_,h1⟩:=(show dM X.prog X.w H s.heap a (.lst xs) from I.hok a _ ea)
    exact PySem.W.kia_one PySem.W.kitx_list I.kIn ⟨_,h1,rfl⟩ e (fun z=>nomatch z) h
  | @frz a ob xs ea =>
    cases (show u=Value.ref a from rx)
    obtain ⟨_,_,_,n,_,h1⟩:=(show dM X.prog X.w H s.heap a (.frz ob (.lst xs)) from I.hok a _ ea)
    exact PySem.W.kia_one PySem.W.kitx_list I.kIn ⟨_,h1,rfl⟩ e (fun z=>nomatch z) h
  | @tup a xs ea =>
    cases (show u=Value.ref a from rx)
    obtain ⟨_,_,_,p⟩:=(show dM X.prog X.w H s.heap a (.tup xs) from I.hok a _ ea)
    obtain ⟨o,h1,h2,_⟩:=p
    exact PySem.W.kia_one PySem.W.kitx_tuple I.kIn ⟨o,h1,h2⟩ e (fun z=>nomatch z) h
  | @dK a kvs ea =>
    cases (show u=Value.ref a from rx)
    obtain ⟨_,_,vs,_,p⟩:=(show dM X.prog X.w H s.heap a (.dK kvs) from I.hok a _ ea)
    obtain ⟨o,es,ep,h1,h2,_⟩:=p
    exact PySem.W.kia_one PySem.W.kitx_dict I.kIn ⟨o,h1,h2.1⟩ e (fun z=>nomatch z) h
  | @dT a kvs ea =>
    cases (show u=Value.ref a from rx)
    obtain ⟨_,_,xs,_,o,es,ep,h1,h2,_⟩:=(show dM X.prog X.w H s.heap a (.dT kvs) from I.hok a _ ea)
    exact PySem.W.kia_one PySem.W.kitx_dict I.kIn ⟨o,h1,h2.1⟩ e (fun z=>nomatch z) h
  | @ins a C dx fs ea cl ha hn htk hm =>
    cases (show u=Value.ref a from rx)
    obtain ⟨mA,O,_⟩:=R3 I.hok ea
    obtain ⟨od,J,_⟩:=O.look
    exact PySem.W.kia_one (PySem.W.kitx_own (cl.get _) cl.hd ha hn htk hm) I.kIn J e (fun z=>nomatch z) h
end
end L2
namespace L2
open PySem PySem.Spec PyProof.Rows
structure pI (k:Nat) (A:Around):Prop where
  hd:A.handled=none
  dp:A.depth + 3 * k + 5<recursionLimit
  un:A.units + 16 * k + 200<cLine
theorem pI.mono {j k:Nat} {A:Around} (r:pI k A) (h:j≤k):pI j A:=⟨r.hd,by have:=r.dp;omega,by have:=r.un;omega⟩
theorem pI.deeper {k:Nat} {A:Around} (r:pI (k + 1) A) (env:Env):pI k (A.deeper env) :=
  ⟨r.hd,by have:=r.dp;show A.depth + 1 + 3 * k + 5<_;omega,by have:=r.un;show A.units + 3 + 16 * k + 200<_;omega⟩
theorem pI.depth {k:Nat} {A:Around} (r:pI k A):A.depth<recursionLimit:=by have:=r.dp;omega
theorem pI.units {k:Nat} {A:Around} (r:pI k A):A.units + 64<cLine:=by have:=r.un;omega
def tNil:TA:=fun _ H Q=>Q [] H
def Zd (ta:TE) (tr:TA):TA:=fun σ H Q=>ta σ H fun x H1=>tr σ H1 fun xs H2=>Q (x :: xs) H2
section
variable {X:Cx} {e:Expr} {es:List Expr} {te:TE} {t:TA} {pos:Pos}
theorem au:PA X [] tNil:=fun _ _ _ _ H Q I h=>Calls.spliced_nil ⟨[],H,I,.nil,h⟩
theorem ak (ha:PE X e te) (hr:PA X es t) (hs:starEach (e :: es) X.env=(false,eval e X.env) :: starEach es X.env:=by rfl):PA X (e :: es) (Zd te t):=by
  intro pos pins s σ H Q I h
  rw [hs]
  show wpAny _ _ (spliced ((false,eval e X.env) :: backTo pos (starEach es X.env))) _ _ s
  refine Calls.spliced_cons (thn (ha pins s σ H _ I h) fun u s1 ⟨x,H1,I1,r1,q1⟩=>?_)
  exact thn (hr pos pins s1 σ H1 _ I1 q1) fun us s2 ⟨xs,H2,I2,r2,q2⟩=>⟨x :: xs,H2,I2,.cons r1 r2,q2⟩
def tTup (t:TA):TE:=fun σ H Q=>t σ H fun xs H1=>xs.length≤sizeLine∧∀ p,H1 p=none→Q (.ref p) (upd H1 p (.tup xs))
def tLst (t:TA):TE:=fun σ H Q=>t σ H fun xs H1=>xs.length≤sizeLine∧∀ p,H1 p=none→Q (.ref p) (upd H1 p (.lst xs))
theorem kj {x1} (h:PA X es t):PE X (.Tuple es x1 pos) (tTup t):=by
  intro pins s σ H Q I hq
  refine wpAny_Tuple_spliced (thn (h pos pins s σ H _ I hq) fun us s1 ⟨xs,H1,I1,r,z,q⟩=>⟨by rw [← r.length];exact z,?_⟩)
  have hf:H1 s1.heap.objs.size=none:=I1.hok.fresh (Nat.le_refl _)
  refine ⟨.ref s1.heap.objs.size,upd H1 s1.heap.objs.size (.tup xs),I1.laid (t':=s1.toks) (fun b u e=>Heap.get?_push_of_some _ e) (Nat.le_refl _) ?_,rfl,q _ hf⟩
  exact ⟨z,us,r,⟨_,Heap.get?_push_size _ rfl,rfl,_,rfl⟩⟩
theorem eH (h:PA X es t):PE X (.List es pos) (tLst t):=by
  intro pins s σ H Q I hq
  refine wpAny_List_spliced (thn (h pos pins s σ H _ I hq) fun us s1 ⟨xs,H1,I1,r,z,q⟩=>⟨by rw [← r.length];exact z,?_⟩)
  have hf:H1 s1.heap.objs.size=none:=I1.hok.fresh (Nat.le_refl _)
  refine ⟨.ref s1.heap.objs.size,upd H1 s1.heap.objs.size (.lst xs),I1.laid (t':=s1.toks) (fun b u e=>Heap.get?_push_of_some _ e) (Nat.le_refl _) ?_,rfl,q _ hf⟩
  exact ⟨z,us,0,r,Heap.get?_push_size _ rfl⟩
end
abbrev Sp:=List V→Hp→VK→XK→Prop
abbrev CXT:=List Env→Hp→Shared→XK→Value→Shared→Prop
structure YW (P:Program) (w:World) (K:PySem.W.Frag) (mg:Str→Option Value) (base:Heap) (A:Around) (outer:List Env) (s:Shared) (H:Hp):Prop where
  frames:A.frames=some outer
  mod:Mod K mg base
  bs:∀ b o,base.get? b=some o→s.heap.get? b=some o∧H b=none
  bsz:base.objs.size≤s.heap.objs.size
  yM:s.heap.FunFrames base outer
  frf:∀ b∈frs outer,H b=none
  hok:HOk P w H s.heap
  bare:AllBare s.gens
def CE (outer:List Env) (P:Program) (w:World) (H:Hp) (s:Shared) (Q:VK) (u:Value) (s':Shared):Prop :=
  ∃ v H',s'.os=s.os∧AllBare s'.gens∧Un (frs outer) [] H H' s.heap s'.heap∧HOk P w H' s'.heap∧RelV v u∧Q v H'
def CR (CX:CXT) (outer:List Env) (P:Program) (w:World) (H:Hp) (s:Shared) (Q:VK) (E:XK) (r:Result) (s':Shared):Prop :=
  match r with
  | .ok (.ret u)=>CE outer P w H s Q u s'
  | .ok _=>False
  | .error e=>CX outer H s E e s'
structure bT (P:Program) (w:World) (K:PySem.W.Frag) (mg:Str→Option Value) (base:Heap) (CX:CXT) (k:Nat) (f:Addr) (fd:FuncData) (ps:List Str) (sp:Sp):Prop where
  len:∀ vs H Q E,sp vs H Q E→vs.length=ps.length
  run:∀ (A:Around) (outer:List Env) (s:Shared) (H:Hp) (args:Args) (us:List Value) (vs:List V) (Q:VK) (E:XK),pI k A→YW P w K mg base A outer s H→BindsTo s fd args (ps.zip us)→Vals vs us→sp vs H Q E →
    codeAny (model P w) A (.call (.ref f) args) (CR CX outer P w H s Q E) s
section
variable {X:Cx} {pins:List (Addr × Obj)} {σ:St} {H:Hp} {s s':Shared}
theorem Inv.env0 (I:Inv X pins σ H s):YW X.prog X.w X.K X.mg X.base X.A X.stack s H :=
  ⟨I.ok.frames,I.ok.mod,I.bs,Nat.le_trans I.ok.bsz I.sz,I.stack,I.qQ,I.hok,I.bare⟩
theorem Inv.after {Q:VK} {u:Value} (I:Inv X pins σ H s) (h:CE X.stack X.prog X.w H s Q u s'):EP X pins σ Q u s':=by
  obtain ⟨v,H',os,bare,un,hok,r,q⟩:=h
  obtain ⟨hh,g,d,t,os'⟩:=s'
  obtain rfl:os'=s.os:=os
  exact ⟨v,H',I.call (h':=hh) (g':=g) (d':=d) (t':=t) (ch:=[]) un hok bare (fun b z=>absurd z (by simp)),r,q⟩
end
def Ze (sp:Sp) (dvs:List V) (E:XK) (t:TA):TE:=fun σ H Q=>t σ H fun vs H1=>sp (vs++dvs) H1 Q E
def Binds (K:PySem.W.Frag) (fd:FuncData) (ps:List Str) (ds:List Value):Prop :=
  ∀ (s:Shared) (us:List Value),K.In s.heap→(us++ds).length=ps.length→BindsTo s fd ⟨us,[]⟩ (ps.zip (us++ds))
theorem Binds.all {K:PySem.W.Frag} {fd:FuncData} {ps:List Str} (h:∀ us:List Value,us.length=ps.length→bindArgs fd ⟨us,[]⟩=pure (ps.zip us)):Binds K fd ps []:=fun s us _ hl=>by
  rw [List.append_nil] at hl ⊢
  exact .of_eq (h us hl)
def Passes (CX:CXT) (X:Cx) (E:XK):Prop:=∀ (pins:List (Addr × Obj)) (σ:St) (H:Hp) (s:Shared) (e:Value) (s':Shared),Inv X pins σ H s→CX X.stack H s E e s'→X.xe e s'
section
variable {X:Cx} {CX:CXT} {k:Nat} {f C:Addr} {fd:FuncData} {ps:List Str} {sp:Sp} {dvs:List V} {ds:List Value} {E:XK} {x m:Str} {p pos apos:Pos} {e o:Expr} {es:List Expr} {ta:TE} {t:TA}
theorem Ur {pins:List (Addr × Obj)} {σ:St} {H:Hp} {s:Shared} {Q:VK} {us:List Value} {vs:List V} (F:bT X.prog X.w X.K X.mg X.base CX k f fd ps sp) (hr:pI k X.A) (hb:Binds X.K fd ps ds) (hd:Vals dvs ds) (hx:Passes CX X E)
    (I:Inv X pins σ H s) (r:Vals vs us) (h:sp (vs++dvs) H Q E):wpAny (model X.prog X.w) X.A (call (.ref f) us) (EP X pins σ Q) X.xe s:=by
  have r2:Vals (vs++dvs) (us++ds):=r.append hd
  have hl:(us++ds).length=ps.length:=by rw [← r2.length];exact F.len _ _ _ _ h
  refine wpAny_call (codeAny_mono (F.run X.A X.stack s H ⟨us,[]⟩ (us++ds) (vs++dvs) Q E hr I.env0 (hb s us I.kIn hl) r2 h) fun r s' hq=>?_)
  cases r with
  | error e=>exact hx pins σ H s e s' I hq
  | ok fl =>
    cases fl with
    | ret u=>exact I.after hq
    | next=>exact False.elim hq
    | brk=>exact False.elim hq
    | cont=>exact False.elim hq
theorem aH (F:bT X.prog X.w X.K X.mg X.base CX k f fd ps sp) (hr:pI k X.A) (hg:Gl X x) (hm:X.mg x=some (.ref f)) (hk:PySem.W.keepIn X.K (.ref f)=true) (hb:Binds X.K fd ps ds) (hd:Vals dvs ds) (hx:Passes CX X E)
    (ha:PA X (e :: es) t) (hdb:(x == ("__debug__":Str))=false:=by decide) (he:starEach (e :: es) X.env=(false,eval e X.env) :: starEach es X.env:=by rfl) (hpl:(backTo pos (starEach es X.env)).any (·.1)=false:=by rfl) :
    PE X (.Call (.Name x p) (e :: es) [] pos) (Ze sp dvs E t):=by
  intro pins s σ H Q I h
  refine wpAny_Call_Name_kw (oZ I hg hm ?_ hdb)
  refine PySem.W.callWith_K (h₀:=X.base) I.ok.mod.kin hk (thn (ha pos pins s σ H _ I h) fun us s1 ⟨vs,H1,I1,r,q⟩=>⟨I1.kIn,?_⟩) he hpl
  exact Ur F hr hb hd hx I1 r q
end
section
variable {X:Cx} {CX:CXT} {k:Nat} {f C:Addr} {fd:FuncData} {ps ks:List Str} {sp:Sp} {E:XK} {x m:Str} {p pos apos kpos:Pos} {e o:Expr} {es:List Expr} {kws:List Keyword} {te ta:TE} {t tk:TA} {nm:Option Str}
variable {g:List Value→List Value→List Value} {gV:List V→List V→List V}
end
structure aQ (N P:List Str) (sc:Scope):Prop where
  kind:sc.kind=.function
  co:sc.isCoroutine=false
  gen:sc.isGenerator=false
  nd:N.Nodup
  pre:N.take P.length=P
  par:∀ x∈P,sc.names.lookup x=some .local∨sc.names.lookup x=some .cell
  nofree:∀ y∈sc.names,y.2≠.free
theorem uI {kindOf:Str→Option NameKind} {x:Str}:∀ {binds:List (Str × Value)} {m:Str→Option Value},(∀ v,(x,v) ∉ binds)→bindL kindOf binds m x=m x
  | [],_,_=>rfl
  | (n,v) :: r,m,h=>by
    unfold bindL
    rw [uI fun w hw=>h w (List.mem_cons_of_mem _ hw)]
    split
    · have:x≠n:=by rintro rfl;exact h v List.mem_cons_self
      simp [this]
    · rfl
theorem uK {kindOf:Str→Option NameKind} {x:Str}:∀ {binds:List (Str × Value)} {m:Str→Option Value},(∀ v,(x,v) ∉ binds)→bindC kindOf binds m x=m x
  | [],_,_=>rfl
  | (n,v) :: r,m,h=>by
    unfold bindC
    rw [uK fun w hw=>h w (List.mem_cons_of_mem _ hw)]
    split
    · rfl
    · have:x≠n:=by rintro rfl;exact h v List.mem_cons_self
      simp [this]
theorem uJ {kindOf:Str→Option NameKind} {x:Str} {v:Value}:∀ {P:List Str} {vs:List Value} {i:Nat} {m:Str→Option Value},P.Nodup→P[i]?=some x→vs[i]?=some v→kindOf x=some .local →
    bindL kindOf (P.zip vs) m x=some v
  | [],_,_,_,_,h,_,_=>by simp at h
  | _ :: _,[],_,_,_,_,h,_=>by simp at h
  | p :: P,w :: vs,0,m,nd,h1,h2,hk=>by
    simp at h1 h2;subst h1;subst h2
    show bindL kindOf ((p,w) :: P.zip vs) m p=_
    unfold bindL
    rw [uI fun v hv=>(List.nodup_cons.mp nd).1 (List.of_mem_zip hv).1,if_pos hk]
    simp
  | p :: P,w :: vs,i + 1,m,nd,h1,h2,hk=>by
    show bindL kindOf ((p,w) :: P.zip vs) m x=_
    unfold bindL
    exact uJ (i:=i) (List.nodup_cons.mp nd).2 (by simpa using h1) (by simpa using h2) hk
theorem uL {kindOf:Str→Option NameKind} {x:Str} {v:Value}:∀ {P:List Str} {vs:List Value} {i:Nat} {m:Str→Option Value},P.Nodup→P[i]?=some x→vs[i]?=some v→kindOf x≠some .local →
    bindC kindOf (P.zip vs) m x=some v
  | [],_,_,_,_,h,_,_=>by simp at h
  | _ :: _,[],_,_,_,_,h,_=>by simp at h
  | p :: P,w :: vs,0,m,nd,h1,h2,hk=>by
    simp at h1 h2;subst h1;subst h2
    show bindC kindOf ((p,w) :: P.zip vs) m p=_
    unfold bindC
    rw [uK fun v hv=>(List.nodup_cons.mp nd).1 (List.of_mem_zip hv).1,if_neg hk]
    simp
  | p :: P,w :: vs,i + 1,m,nd,h1,h2,hk=>by
    show bindC kindOf ((p,w) :: P.zip vs) m x=_
    unfold bindC
    exact uL (i:=i) (List.nodup_cons.mp nd).2 (by simpa using h1) (by simpa using h2) hk
def start (N:List Str) (vs:List V):St:=vs.map some++List.replicate (N.length - vs.length) none
def Hs (CX:CXT) (P:Program) (w:World) (K:PySem.W.Frag) (mg:Str→Option Value) (base:Heap) (N:List Str) (qual:Str) (scope:Scope) (f:Addr) (cd:Value) (A:Around) (outer:List Env) (s:Shared) (H:Hp) (E:XK):Cx where
  prog:=P
  w:=w
  K:=K
  mg:=mg
  base:=base
  A:=A.deeper (envOfC qual scope s.heap.objs.size f cd)
  N:=N
  s₀:=s
  H₀:=H
  env:=envOfC qual scope s.heap.objs.size f cd
  outer:=outer
  stack:=envOfC qual scope s.heap.objs.size f cd :: outer
  ex:=[]
  calm:=true
  fn:=fun _=>true
  pn:=[]
  xe:=fun e s'=>wpAny (model P w) (A.deeper (envOfC qual scope s.heap.objs.size f cd)) (leaving (envOfC qual scope s.heap.objs.size f cd) e) (fun _ s''=>CX outer H s E e s'') (fun e' s''=>CX outer H s E e' s'') s'
theorem xR {sc:Scope} {n:Nat} {x:Str} (h:sc.names.lookup x=some .cell):∃ c,(cellsFrom n sc.names []).lookup x=some c:=by
  have q:=PySem.W.cellsFrom_some sc.names n [] (.inl h)
  exact Option.isSome_iff_exists.mp q
theorem Bw {CX:CXT} {P:Program} {w:World} {K:PySem.W.Frag} {mg:Str→Option Value} {base:Heap} {N ps:List Str} {qual:Str} {scope:Scope} {f:Addr} {cd:Value} {A:Around} {outer:List Env} {s s1:Shared} {H:Hp} {E:XK} {us:List Value} {vs:List V}
    (S:aQ N ps scope) (hd:A.handled=none) (e0:YW P w K mg base A outer s H) (hl:vs.length=ps.length) (r:Vals vs us)
    (x:InCallC s s.heap.objs.size (bindL (envOfC qual scope s.heap.objs.size f cd).kindOf (ps.zip us) fun _=>none) (cellsFrom (s.heap.objs.size + 1) scope.names []) (bindC (envOfC qual scope s.heap.objs.size f cd).kindOf (ps.zip us) fun _=>none) s1) :
    Inv (Hs CX P w K mg base N qual scope f cd A outer s H E) [] (start N vs) H s1:=by
  have hpl:ps.length≤N.length:=by have:=congrArg List.length S.pre;rw [List.length_take] at this;omega
  obtain ⟨h1,tk,rfl,hk⟩:=x.done
  have noA:∀ b:Addr,b ∉ (Hs CX P w K mg base N qual scope f cd A outer s H E).ex:=fun b z=>absurd (show b∈([]:List Addr) from z) (by simp)
  refine ⟨⟨e0.mod,S.kind,rfl,rfl,Nat.le_refl _,fun y z c h1 h2=>?_,fun y hy=>?_,fun y c _ h=>?_,fun _=>hd,Around.frames_deeper e0.frames,.inr ⟨rfl,rfl⟩,fun b z=>absurd z (noA b),e0.bs,e0.bsz,fun b _ _=>noA b,fun b z=>absurd z (noA b),e0.yM,e0.frf⟩,
    rfl,e0.bare,Un.kept hk,⟨_,x.toInCall.ns,fun i y v h1 h2 h3=>?_⟩,fun y c h=>⟨_,x.cell y c h⟩,e0.hok.fresh (Nat.le_refl _),fun y c h=>?_,fun p hp=>absurd (show p∈([]:List (Addr × Obj)) from hp) (by simp),e0.hok.kept hk,?_⟩
  · exact name_of_addr x.apart (PySem.mem_of_lookup h1) (PySem.mem_of_lookup h2)
  · have hy:scope.names.lookup y=some .cell∨scope.names.lookup y=some .free:=hy
    rcases hy with hy | hy
    · exact xR hy
    · exact absurd rfl (S.nofree _ (PySem.mem_of_lookup hy))
  · exact Nat.le_of_lt (x.above y c (PySem.mem_of_lookup h))
  · have hi:i<vs.length:=by
      unfold start at h2
      by_cases hi:i<vs.length
      · exact hi
      · rw [List.getElem?_append_right (by simpa using hi)] at h2
        rw [List.getElem?_replicate] at h2
        split at h2 <;> cases h2
    have ha:vs[i]?=some v:=by
      unfold start at h2
      rw [List.getElem?_append_left (by simpa using hi),List.getElem?_map] at h2
      cases e:vs[i]? with
      | none=>rw [e] at h2;cases h2
      | some a=>rw [e] at h2;cases h2;rfl
    obtain ⟨u,hu,rv⟩:=r.get ha
    have hp:ps[i]?=some y:=by
      rw [← S.pre,List.getElem?_take_of_lt (by omega)];exact h1
    have ndP:ps.Nodup:=by rw [← S.pre];exact S.nd.sublist (List.take_sublist _ _)
    refine ⟨u,rv,?_⟩
    rcases S.par y (List.mem_of_getElem? hp) with k | k
    · exact .inl ⟨k,uJ ndP hp hu k⟩
    · obtain ⟨c,e⟩:=xR (n:=s.heap.objs.size + 1) k
      refine .inr ⟨.inl k,c,e,?_⟩
      have q:=x.cell y c e
      rw [uL ndP hp hu (by show scope.names.lookup y≠_;rw [k];decide)] at q
      exact q
  · exact e0.hok.fresh (Nat.le_of_lt (x.above y c (PySem.mem_of_lookup h)))
  · unfold start
    show _=N.length
    rw [List.length_append,List.length_map,List.length_replicate]
    omega
theorem Ti {CX:CXT} {P:Program} {w:World} {K:PySem.W.Frag} {mg:Str→Option Value} {base:Heap} {k:Nat} {f:Addr} {name qual:Str} {params:Arguments} {body:List Stmt} {scope:Scope} {dV kV doc pm cdv ct oc:Value} {an od:Option Addr}
    {osl:Array (Option Value)} {N ps:List Str} {sp:Sp} (lk:K.lookup f=some ⟨oc,od,.func (PySem.W.fnOf name qual params body scope dV kV doc pm an cdv ct),osl⟩) (hcd:PySem.W.codeIn K cdv qual=true) (S:aQ N ps scope)
    (len:∀ vs H Q E,sp vs H Q E→vs.length=ps.length)
    (hbody:∀ (A:Around) (outer:List Env) (s:Shared) (H:Hp) (vs:List V) (Q:VK) (E:XK),pI k (A.deeper (envOfC qual scope s.heap.objs.size f cdv))→sp vs H Q E →
      ∃ t,PSs (Hs CX P w K mg base N qual scope f cdv A outer s H E) body t∧t { nx:=fun _ H'=>Q .non H',rt:=Q } (start N vs) H) :
    bT P w K mg base CX (k + 1) f (PySem.W.fnOf name qual params body scope dV kV doc pm an cdv ct) ps sp:=by
  refine ⟨len,fun A outer s H args us vs Q E hr e0 hb r hsp=>?_⟩
  have hl:=len _ _ _ _ hsp
  have KX:K.In s.heap:=e0.mod.kin.keeps fun b o e=>(e0.bs b o e).1
  have lim:s.heap.NoLimit:=e0.mod.nolimit.keeps fun b o e=>(e0.bs b o e).1
  have hkind:∀ y∈ps.zip us,scope.names.lookup y.1=some .local∨(scope.names.lookup y.1=some .cell∧((cellsFrom (s.heap.objs.size + 1) scope.names []).lookup y.1).isSome=true):=fun ⟨n,v⟩ hy=>by
    rcases S.par n (List.of_mem_zip hy).1 with q | q
    · exact .inl q
    · exact .inr ⟨q,PySem.W.cellsFrom_some _ _ _ (.inl q)⟩
  refine codeAny_call_function hr.depth (KX _ _ lk) rfl S.co S.gen rfl (PySem.W.codeRec_of KX hcd) (hb _ _ _ _ ?_)
  refine wpAny_newFunctionEnv_cells S.kind hkind fun env he s1 x=>?_
  subst he
  refine ⟨lim.keeps x.toInCall.keep,codeAny_func ?_⟩
  obtain ⟨t,ht,hq⟩:=hbody A outer s H vs Q E (hr.deeper _) hsp
  have I:Inv (Hs CX P w K mg base N qual scope f cdv A outer s H E) [] (start N vs) H s1:=Bw S hr.hd e0 hl r x
  refine wpAny_mono (ht [] s1 (start N vs) H _ I hq) (fun fl s' hs=>?_) fun e s' hs=>hs
  have fin:∀ {σ':St} {H':Hp} {v:V} {u:Value},Inv (Hs CX P w K mg base N qual scope f cdv A outer s H E) [] σ' H' s'→RelV v u→Q v H'→CE outer P w H s Q u s' :=
    fun {σ' H' v u} J rv q=>⟨v,H',J.os,J.bare,J.base,J.hok,rv,q⟩
  cases fl with
  | ret u =>
    obtain ⟨v,σ',H',J,rv,q⟩:=hs
    exact fin J rv q
  | next =>
    obtain ⟨σ',H',J,q⟩:=hs
    exact fin (v:=V.non) (u:=Value.none) J rfl q
  | brk =>
    obtain ⟨_,_,_,q⟩:=hs
    exact False.elim q
  | cont =>
    obtain ⟨_,_,_,q⟩:=hs
    exact False.elim q
end L2
namespace L2
open PySem PySem.Spec PyProof.Rows
section
variable {X:Cx} {x:Str} {p pos:Pos} {e:Expr} {es:List Expr} {t:TA} {id T:String} {r:List V→Hp→VK→Prop}
def tCB (r:List V→Hp→VK→Prop) (t:TA):TE:=fun σ H Q=>t σ H fun vs H1=>r vs H1 Q
theorem aG (hc:nG X (.builtin id) r) (hg:Gl X x) (hm:X.mg x=none) (hv:bootBuiltins x=some (.builtin id)) (ha:PA X (e :: es) t) (hn:x≠"__name__":=by decide) (hdb:(x == ("__debug__":Str))=false:=by decide)
    (he:starEach (e :: es) X.env=(false,eval e X.env) :: starEach es X.env:=by rfl) (hpl:(backTo pos (starEach es X.env)).any (·.1)=false:=by rfl):PE X (.Call (.Name x p) (e :: es) [] pos) (tCB r t):=by
  intro pins s σ H Q I h
  refine wpAny_Call_Name_kw (jd I hg hm hv ?_ hn hdb)
  exact PyProof.Rows.callWith_builtin1 (thn (ha pos pins s σ H _ I h) fun us s1 ⟨vs,H1,I1,r1,q1⟩=>hc pins s1 σ H1 vs us Q I1 r1 q1) he hpl
theorem jc (hc:nG X (.type T) r) (hg:Gl X x) (hm:X.mg x=none) (hv:bootBuiltins x=some (.type T)) (ha:PA X (e :: es) t) (hn:x≠"__name__":=by decide) (hdb:(x == ("__debug__":Str))=false:=by decide)
    (he:starEach (e :: es) X.env=(false,eval e X.env) :: starEach es X.env:=by rfl) (hpl:(backTo pos (starEach es X.env)).any (·.1)=false:=by rfl):PE X (.Call (.Name x p) (e :: es) [] pos) (tCB r t):=by
  intro pins s σ H Q I h
  refine wpAny_Call_Name_kw (jd I hg hm hv ?_ hn hdb)
  exact PyProof.Rows.callWith_type1 (thn (ha pos pins s σ H _ I h) fun us s1 ⟨vs,H1,I1,r1,q1⟩=>hc pins s1 σ H1 vs us Q I1 r1 q1) he hpl
end
end L2
namespace HT
open PySem PyProof.Rows
def lexLt:List Int→List Int→Bool
  | [],[]=>false
  | [],_ :: _=>true
  | _ :: _,[]=>false
  | x :: xs,y :: ys=>if x=y then lexLt xs ys else decide (x<y)
theorem jr (x y:Int) (xs ys:List Int):lexLt (x :: xs) (y :: ys)=if x=y then lexLt xs ys else decide (x<y):=rfl
theorem lU:lexLt [] []=false:=rfl
section
open PySem.SeqAt
open PySem.AutoSeq1 (wpAny_loadPart')
open PySem.MeetsSeq PySem.MeetsSeq2 PySem.MeetsSeq3
end
section
variable {prog:Program} {w:World} {A:Around} {E:Value→Shared→Prop} {s:Shared}
def sIx (n d:Nat):Option Int→Nat
  | none=>d
  | some v=>if v<0 then (v + (n:Int)).toNat else min v.toNat n
theorem wV (n d:Nat):sIx n d none=d:=rfl
theorem mJ (n d k:Nat):sIx n d (some (k:Int))=min k n:=by
  show (if (k:Int)<0 then ((k:Int) + (n:Int)).toNat else min (k:Int).toNat n)=min k n
  rw [if_neg (by omega),Int.toNat_natCast]
end
end HT
namespace L2
open PySem PySem.Spec PyProof.Rows
abbrev TO:=St→Hp→(Option Int→Hp→Prop)→Prop
def PO (X:Cx) (e:Option Expr) (t:TO):Prop :=
  ∀ (pins:List (Addr × Obj)) (s:Shared) (σ:St) (H:Hp) (Q:Option Int→Hp→Prop),Inv X pins σ H s→t σ H Q →
    wpAny (model X.prog X.w) X.A (evalPart e X.env) (fun u s'=>∃ o H',Inv X pins σ H' s'∧IsPart u o∧Q o H') X.xe s
def Rg:TO:=fun _ H Q=>Q none H
def Y7 (t:TE):TO:=fun σ H Q=>t σ H fun x H1=>∃ i,x=.int i∧Q (some i) H1
theorem intsAre_of {ns:List Int}:∀ {us:List Value},Vals (ns.map V.int) us→IntsAre us ns:=by
  induction ns with
  | nil=>intro us r;rw [List.map_nil] at r;cases r;exact .nil
  | cons n ns ih =>
    intro us r
    rw [List.map_cons] at r
    cases r with
    | cons r1 r2 =>
      obtain ⟨t,e⟩:=r1
      subst e
      exact .cons n t (ih r2)
section
variable {X:Cx} {e:Expr} {te:TE} {lo hi:Option Expr} {tl th:TO} {pos p2:Pos}
theorem mL:PO X none Rg:=by
  intro pins s σ H Q I h
  rw [evalPart_none]
  exact wpAny_pure ⟨none,H,I,.none,h⟩
theorem jO (h:PE X e te):PO X (some e) (Y7 te):=by
  intro pins s σ H Q I hw
  rw [evalPart_some]
  refine thn (h pins s σ H _ I hw) fun u s1 ⟨x,H1,I1,r1,q1⟩=>?_
  obtain ⟨i,rfl,q⟩:=q1
  obtain ⟨t,rfl⟩:=r1
  exact ⟨some i,H1,I1,.int i t,q⟩
def SlR (X:Cx) (r:V→Option Int→Option Int→Hp→VK→Prop):Prop :=
  ∀ (pins:List (Addr × Obj)) (s:Shared) (σ:St) (H:Hp) (x:V) (v vl vu:Value) (lo hi:Option Int) (sl:Addr) (Q:VK),Inv X pins σ H s→RelV x v→s.heap.IsSliceOf sl vl vu .none→IsPart vl lo→IsPart vu hi→r x lo hi H Q →
    ∃ T id,typeLookup (.type T) "__getitem__"=pure (some (.builtin id))∧s.TypeIs v T∧wpAny (model X.prog X.w) X.A (getItem v (.ref sl)) (EP X pins σ Q) X.xe s
def tSl (r:V→Option Int→Option Int→Hp→VK→Prop) (te:TE) (tl th:TO):TE:=fun σ H Q=>te σ H fun x H1=>tl σ H1 fun l H2=>th σ H2 fun u H3=>r x l u H3 Q
theorem jy {r:V→Option Int→Option Int→Hp→VK→Prop} (hr:SlR X r) (he:PE X e te) (hl:PO X lo tl) (hu:PO X hi th):PE X (.Subscript e (.Slice lo hi none p2) pos) (tSl r te tl th):=by
  intro pins s σ H Q I h
  refine Subscript_ (thn (he pins s σ H _ I h) fun v s1 ⟨x,H1,I1,r1,q1⟩=>?_)
  refine wpAny_Slice (thn (hl pins s1 σ H1 _ I1 q1) fun vl s2 ⟨l,H2,I2,pl,q2⟩=>thn (hu pins s2 σ H2 _ I2 q2) fun vu s3 ⟨u,H3,I3,pu,q3⟩=>?_)
  rw [evalPart_none]
  refine wpAny_pure ?_
  have I4:Inv X pins σ H3 { s3 with heap:=s3.heap.push { cls:=.type "slice",data:=.fields #[vl,vu,.none] } }:=I3.kept (t':=s3.toks) fun b ob q=>Heap.get?_push_of_some _ q
  obtain ⟨T,id,hT,ht,hg⟩:=hr pins { s3 with heap:=s3.heap.push { cls:=.type "slice",data:=.fields #[vl,vu,.none] } } σ H3 x v vl vu l u s3.heap.objs.size Q I4 r1 (Heap.IsSliceOf.new ..) pl pu q3
  show wpAny (model X.prog X.w) X.A (subscriptTail e (.Slice lo hi none p2) v (.ref s3.heap.objs.size)) (EP X pins σ Q) X.xe { s3 with heap:=s3.heap.push { cls:=.type "slice",data:=.fields #[vl,vu,.none] } }
  exact tail_any (ops:=[.ref s3.heap.objs.size,v]) ht hT hg (by with_unfolding_all rfl)
def uF (xs:List V) (lo hi:Option Int):List V:=(xs.drop (HT.sIx xs.length 0 lo)).take (HT.sIx xs.length xs.length hi - HT.sIx xs.length 0 lo)
theorem vR (xs:List V) (lo hi:Option Int):(uF xs lo hi).length≤xs.length:=by
  unfold uF
  rw [List.length_take,List.length_drop]
  omega
end
end L2
namespace L2
open PySem PySem.Spec PyProof.Rows
def ixN (n:Nat) (i:Int):Option Nat:=if 0≤i then (if i<n then some i.toNat else none) else if -(n:Int)≤i then some (i + n).toNat else none
def atI {α:Type} (xs:List α) (i:Int):Option α:=(ixN xs.length i).bind fun j=>xs[j]?
theorem Bu {n:Nat} {i:Int} {j:Nat} (h:ixN n i=some j):seqIndex? i n=some j∧j<n∧-(n:Int)≤i∧i<n:=by
  unfold ixN at h
  by_cases h0:0≤i
  · rw [if_pos h0] at h
    by_cases h1:i<n
    · rw [if_pos h1] at h
      have e:i.toNat=j:=Option.some.inj h
      exact ⟨by rw [seqIndex_of h0 h1,e],by omega,by omega,h1⟩
    · rw [if_neg h1] at h;cases h
  · rw [if_neg h0] at h
    by_cases h1:-(n:Int)≤i
    · rw [if_pos h1] at h
      have e:(i + n).toNat=j:=Option.some.inj h
      exact ⟨by rw [seqIndex_neg (by omega) h1,e],by omega,h1,by omega⟩
    · rw [if_neg h1] at h;cases h
theorem Ep {α:Type} {xs:List α} {i:Int} {v:α} (h:atI xs i=some v):∃ j,seqIndex? i xs.length=some j∧xs[j]?=some v∧j<xs.length∧-(xs.length:Int)≤i∧i<xs.length:=by
  unfold atI at h
  cases e:ixN xs.length i with
  | none=>rw [e] at h;cases h
  | some j =>
    rw [e] at h
    obtain ⟨h1,h2,h3,h4⟩:=Bu e
    exact ⟨j,h1,h,h2,h3,h4⟩
theorem jB {α:Type} {xs:List α} {j:Nat} {v:α} (h:xs[j]?=some v):atI xs (j:Int)=some v:=by
  have hj:j<xs.length:=(List.getElem?_eq_some_iff.mp h).1
  have e:ixN xs.length (j:Int)=some j:=by
    unfold ixN
    rw [if_pos (by omega),if_pos (by omega)];simp
  unfold atI;rw [e];exact h
theorem HD {α:Type} (xs:List α) (v:α):atI (xs++[v]) (-1)=some v:=by
  have hl:(xs++[v]).length=xs.length + 1:=by simp
  have e:ixN (xs++[v]).length (-1)=some xs.length:=by
    unfold ixN
    rw [hl,if_neg (by decide),if_pos (by omega)]
    congr 1
    omega
  unfold atI
  rw [e]
  show (xs++[v])[xs.length]?=some v
  simp
def T5 (b:Expr):Prop:=∀ o i,subscripted b false o i=operate [o,i] (getItem o i)
def IxR (X:Cx) (r:R2):Prop :=
  ∀ (value slice:Expr) (pins:List (Addr × Obj)) (s:Shared) (σ:St) (H:Hp) (x y:V) (v u:Value) (Q:VK),Inv X pins σ H s→RelV x v→RelV y u→r x y H Q →
    subscripted slice false v u=operate [v,u] (getItem v u)→wpAny (model X.prog X.w) X.A (subscriptTail value slice v u) (EP X pins σ Q) X.xe s
def MtR (X:Cx) (id:String) (r:V→List V→Hp→VK→Prop):Prop :=
  ∀ (pins:List (Addr × Obj)) (s:Shared) (σ:St) (H:Hp) (x:V) (xs:List V) (v:Value) (us:List Value) (Q:VK),Inv X pins σ H s→RelV x v→Vals xs us→r x xs H Q →
    wpAny (model X.prog X.w) X.A (call (.builtin id) (v :: us)) (EP X pins σ Q) X.xe s
section
variable {X:Cx} {a b:Expr} {ta tb:TE} {pos:Pos}
theorem aX {r:R2} (hr:IxR X r) (ha:PE X a ta) (hb:PE X b tb) (hs:T5 b):PE X (.Subscript a b pos) (tOp r ta tb):=by
  intro pins s σ H Q I h
  exact Subscript_ (Z8 ha hb I h fun v u s2 x y H2 I2 rx ry q=>hr a b pins s2 σ H2 x y v u Q I2 rx ry q (hs _ _))
def aan (K:PySem.W.Frag):R2:=fun x y H Q=>∃ p xs i v,x=.ref p∧y=.int i∧SqL K H p xs∧atI xs i=some v∧Q v H
def aam (K:PySem.W.Frag):R2:=fun x y H Q=>∃ p xs i v,x=.ref p∧y=.int i∧SqT K H p xs∧atI xs i=some v∧Q v H
theorem aJ:IxR X (aan X.K):=by
  intro value slice pins s σ H x y v u Q I rx ry h hs
  obtain ⟨p,xs,i,z,rfl,rfl,hq,he,q⟩:=h
  cases rx
  obtain ⟨t,rfl⟩:=ry
  obtain ⟨its,r,pl,hz⟩:=I.list hq
  obtain ⟨j,h1,h2,h3,h4,h5⟩:=Ep he
  obtain ⟨w,ew,rw'⟩:=r.get h2
  have hl:=r.length
  have hn:=oY
  have fin:EP X pins σ Q w s:=⟨z,H,I,rw',q⟩
  by_cases h0:0≤i
  · have hj:i.toNat=j:=by
      rw [seqIndex_of h0 h5] at h1
      exact Option.some.inj h1
    exact item_listR pl.isList h0 (by omega) (by rw [hj];simpa using ew) fin hs
  · have hj:(i + (its.toArray.size:Int)).toNat=j:=by
      rw [seqIndex_neg (by omega) h4] at h1
      rw [List.size_toArray,← hl]
      exact Option.some.inj h1
    exact subscriptTail_builtinR (x:=w) pl.isList.typeIs slot_list_getitem.lookup
      (wpAny_getItem_list_neg (Q:=fun r s'=>r=w∧EP X pins σ Q r s') pl.isList (by omega) (by rw [List.size_toArray] <;> omega) (by omega) (by rw [hj];simpa using ew) ⟨rfl,fin⟩) hs
theorem jD:IxR X (aam X.K):=by
  intro value slice pins s σ H x y v u Q I rx ry h hs
  obtain ⟨p,xs,i,z,rfl,rfl,hq,he,q⟩:=h
  cases rx
  obtain ⟨t,rfl⟩:=ry
  obtain ⟨its,r,pl,hz⟩:=I.tuple hq
  obtain ⟨j,h1,h2,h3,h4,h5⟩:=Ep he
  obtain ⟨w,ew,rw'⟩:=r.get h2
  have hl:=r.length
  have hn:=oY
  have fin:EP X pins σ Q w s:=⟨z,H,I,rw',q⟩
  exact subscriptTail_builtinR (x:=w) pl.typeIs slot_tuple_getitem.lookup
    (getItem_tuple (j:=j) (Q:=fun r s'=>r=w∧EP X pins σ Q r s') pl (by omega) (by omega) (by rw [List.size_toArray,← hl];exact h1) (by simpa using ew) ⟨rfl,fin⟩) hs
theorem yI (its:List Value) (n j:Nat) (u:Value):Obj.mapSeq (·.setIfInBounds j u) { cls:=.type "list",data:=.seq its.toArray n }={ cls:=.type "list",data:=.seq (its.set j u).toArray n }:=by
  simp [Obj.mapSeq]
theorem Inv.lst {pins:List (Addr × Obj)} {σ:St} {H:Hp} {s:Shared} {p:Addr} {xs:List V} (I:Inv X pins σ H s) (h:H p=some (.lst xs)) :
    ∃ (its:List Value) (n:Nat),Vals xs its∧s.heap.get? p=some { cls:=.type "list",data:=.seq its.toArray n }∧xs.length≤sizeLine:=by
  obtain ⟨z,its,n,r,e⟩:=I.hok p _ h
  exact ⟨its,n,r,e,z⟩
theorem Inv.U8 {pins:List (Addr × Obj)} {σ:St} {H:Hp} {s:Shared} {p:Addr} {xs ys:List V} {its its':List Value} {n n':Nat} {f:Obj→Obj} (I:Inv X pins σ H s) (h:H p=some (.lst xs))
    (ho:s.heap.get? p=some { cls:=.type "list",data:=.seq its.toArray n }) (hf:f { cls:=.type "list",data:=.seq its.toArray n }={ cls:=.type "list",data:=.seq its'.toArray n' }) (r:Vals ys its') (hz:ys.length≤sizeLine) (t:Nat) :
    Inv X pins σ (upd H p (.lst ys)) { s with heap:=s.heap.update p f,toks:=t }:=by
  have e:(s.heap.update p f).get? p=some { cls:=.type "list",data:=.seq its'.toArray n' }:=by
    rw [Heap.get?_update_self f ho (by rw [hf] <;> rfl),hf]
  refine I.write (x:=p) (e:=p) (by rw [h];trivial) (.inl rfl) (fun b u hb q=>(Heap.get?_update_other _ _ (Ne.symm hb)).trans q) ⟨_,e⟩ ?_
  exact ⟨hz,its',n',r,e⟩
def Ut:V→V→V→Hp→(Hp→Prop)→Prop:=fun o i v H Q=>∃ p xs k j,o=.ref p∧i=.int k∧H p=some (.lst xs)∧ixN xs.length k=some j∧Q (upd H p (.lst (xs.set j v)))
theorem set_list:aac X Ut:=by
  intro pins s σ H o i v ov iv u Q I ro ri rv h
  obtain ⟨p,xs,k,j,rfl,rfl,hp,hj,q⟩:=h
  cases ro
  obtain ⟨t,rfl⟩:=ri
  obtain ⟨its,n,r,ho,hz⟩:=I.lst hp
  obtain ⟨h1,h2,h3,h4⟩:=Bu hj
  have hl:=r.length
  have hn:=oY
  have I':Inv X pins σ (upd H p (.lst (xs.set j v))) { s with heap:=s.heap.update p (Obj.mapSeq (·.setIfInBounds j u)) } :=
    I.U8 hp ho (yI its n j u) (r.set rv j) (by rw [List.length_set];exact hz) s.toks
  by_cases h0:0≤k
  · have hk:k.toNat=j:=by
      rw [seqIndex_of h0 h4] at h1
      exact Option.some.inj h1
    exact PySem.W.ki_setAt ho h0 (by omega) (by rw [List.size_toArray,← hl];exact h4) (by rw [hk];exact ⟨_,I',q⟩)
  · have hk:(k + (its.toArray.size:Int)).toNat=j:=by
      rw [seqIndex_neg (by omega) h3] at h1
      rw [List.size_toArray,← hl]
      exact Option.some.inj h1
    exact PySem.W.ki_setBack ho (by omega) (by rw [List.size_toArray,← hl];exact h3) (by omega) (by rw [hk];exact ⟨_,I',q⟩)
theorem tD (lo hi:Option Int) (n:Nat):(sliceBounds lo hi none n).1=((HT.sIx n 0 lo:Nat):Int)∧(sliceBounds lo hi none n).2.1=((HT.sIx n n hi:Nat):Int)∧(sliceBounds lo hi none n).2.2=1:=by
  refine ⟨?_,?_,rfl⟩
  · cases lo with
    | none=>simp [sliceBounds,HT.sIx]
    | some i =>
      simp only [sliceBounds,HT.sIx,Option.getD_none,show (1:Int) > 0 by decide,if_true]
      by_cases h:i<0
      · simp only [h,if_true] <;> omega
      · simp only [h,if_false] <;> omega
  · cases hi with
    | none=>simp [sliceBounds,HT.sIx]
    | some i =>
      simp only [sliceBounds,HT.sIx,Option.getD_none,show (1:Int) > 0 by decide,if_true]
      by_cases h:i<0
      · simp only [h,if_true] <;> omega
      · simp only [h,if_false] <;> omega
theorem qU (its:List Value) (lo hi:Option Int):slicePick its.toArray lo hi none=((its.drop (HT.sIx its.length 0 lo)).take (HT.sIx its.length its.length hi - HT.sIx its.length 0 lo)).toArray:=by
  obtain ⟨h1,h2,h3⟩:=tD lo hi its.toArray.size
  unfold slicePick
  rw [h1,h2,h3]
  simp only [sliceRange_one,pick_run,List.size_toArray] <;> rfl
def aal (K:PySem.W.Frag):V→Option Int→Option Int→Hp→VK→Prop:=fun x lo hi H Q=>∃ a xs,x=.ref a∧SqL K H a xs∧∀ p,H p=none→Q (.ref p) (upd H p (.lst (uF xs lo hi)))
theorem kW:SlR X (aal X.K):=by
  intro pins s σ H x v vl vu lo hi sl Q I rx hs pl pu h
  obtain ⟨a,xs,rfl,hx,q⟩:=h
  cases rx
  obtain ⟨its,r,ht,hz⟩:=I.list hx
  have hlen:=r.length
  refine ⟨"list",_,slot_list_getitem.lookup,ht.isList.typeIs,?_⟩
  refine wpAny_getItem_list_slice ht.isList hs pl pu .none (by simp) ?_ (by rw [List.size_toArray] <;> omega)
  rw [qU,← hlen]
  refine ⟨.ref s.heap.objs.size,_,I.laid (t':=s.toks) (o:=.lst (uF xs lo hi)) (fun b ob q=>Heap.get?_push_of_some _ q) (Nat.le_refl _) ?_,rfl,q _ (I.hok.fresh (Nat.le_refl _))⟩
  exact ⟨Nat.le_trans (vR xs lo hi) hz,_,0,(r.drop (HT.sIx xs.length 0 lo)).take (HT.sIx xs.length xs.length hi - HT.sIx xs.length 0 lo),Heap.get?_push_size _ rfl⟩
def rM:V→Bool
  | .non=>true
  | .bl _=>true
  | .int _=>true
  | .str _=>true
  | _=>false
def eqV:V→V→Bool
  | .non,.non=>true
  | .bl a,.bl b=>a == b
  | .bl a,.int b=>(if a then 1 else 0) == b
  | .int a,.bl b=>a == (if b then 1 else 0)
  | .int a,.int b=>a == b
  | .str a,.str b=>a == b
  | _,_=>false
theorem Yz {A:Around} {s:Shared} {y x:V} {u v:Value} (ry:RelV y u) (rx:RelV x v) (fy:rM y=true) (fx:rM x=true):SeqAt.EqAt A s u v (eqV y x):=by
  cases y with
  | non =>
    cases ry
    cases x with
    | non=>cases rx;exact SeqAt.EqAt.same _
    | bl b=>cases rx;exact SeqAt.EqAt.none_bool b
    | int b=>obtain ⟨t,rfl⟩:=rx;exact SeqAt.EqAt.none_int b t
    | str b=>obtain ⟨t,rfl⟩:=rx;exact SeqAt.EqAt.none_str b t
    | _=>exact absurd (show false=true from fx) Bool.false_ne_true
  | bl a =>
    cases ry
    cases x with
    | non=>cases rx;exact SeqAt.EqAt.bool_none a
    | bl b=>cases rx;exact SeqAt.EqAt.bool_bool a b
    | int b=>obtain ⟨t,rfl⟩:=rx;exact SeqAt.EqAt.bool_int a b t
    | str b=>obtain ⟨t,rfl⟩:=rx;exact SeqAt.EqAt.bool_str a b t
    | _=>exact absurd (show false=true from fx) Bool.false_ne_true
  | int a =>
    obtain ⟨t',rfl⟩:=ry
    cases x with
    | non=>cases rx;exact SeqAt.EqAt.int_none a t'
    | bl b=>cases rx;exact SeqAt.EqAt.int_bool a t' b
    | int b=>obtain ⟨t,rfl⟩:=rx;exact SeqAt.EqAt.int_int a t' b t
    | str b=>obtain ⟨t,rfl⟩:=rx;exact SeqAt.EqAt.int_str a t' b t
    | _=>exact absurd (show false=true from fx) Bool.false_ne_true
  | str a =>
    obtain ⟨t',rfl⟩:=ry
    cases x with
    | non=>cases rx;exact SeqAt.EqAt.str_none a t'
    | bl b=>cases rx;exact SeqAt.EqAt.str_bool a t' b
    | int b=>obtain ⟨t,rfl⟩:=rx;exact SeqAt.EqAt.str_int a t' b t
    | str b=>obtain ⟨t,rfl⟩:=rx;exact SeqAt.EqAt.str_str a t' b t
    | _=>exact absurd (show false=true from fx) Bool.false_ne_true
  | _=>exact absurd (show false=true from fy) Bool.false_ne_true
def eqU (x:V) (u:Value):Bool:=match u with
  | .none=>eqV .non x
  | .bool b=>eqV (.bl b) x
  | .int i _=>eqV (.int i) x
  | .str z _=>eqV (.str z) x
  | _=>false
theorem QM {x y:V} {u:Value} (r:RelV y u) (f:rM y=true):eqU x u=eqV y x:=by
  cases y with
  | non=>cases r;rfl
  | bl b=>cases r;rfl
  | int i=>obtain ⟨t,rfl⟩:=r;rfl
  | str z=>obtain ⟨t,rfl⟩:=r;rfl
  | _=>exact absurd (show false=true from f) Bool.false_ne_true
theorem pG {x:V}:∀ {xs:List V} {us:List Value},Vals xs us→xs.all rM=true→us.any (eqU x)=xs.any fun y=>eqV y x
  | _,_,.nil,_=>rfl
  | y :: xs,u :: us,.cons r t,f=>by
    rw [List.all_cons,Bool.and_eq_true] at f
    rw [List.any_cons,List.any_cons,QM r f.1,pG t f.2]
theorem lR {A:Around} {s:Shared} {x:V} {v:Value} (rx:RelV x v) (fx:rM x=true):∀ {xs:List V} {us:List Value},Vals xs us→xs.all rM=true→∀ u∈us,SeqAt.EqAt A s u v (eqU x u)
  | _,_,.nil,_=>fun u hu=>by cases hu
  | y :: xs,u :: us,.cons r t,f=>fun u' hu=>by
    rw [List.all_cons,Bool.and_eq_true] at f
    rcases List.mem_cons.mp hu with rfl | hu
    · rw [QM r f.1];exact Yz r rx f.1 fx
    · exact lR rx fx t f.2 u' hu
def inV (x:V) (xs:List V):Bool:=xs.any fun y=>eqV y x
def rIn (K:PySem.W.Frag) (neg:Bool):R2:=fun x y H Q=>∃ p xs,y=.ref p∧(SqL K H p xs∨SqT K H p xs)∧rM x=true∧xs.all rM=true∧Q (.bl (if neg then !inV x xs else inV x xs)) H
theorem Av:OpR X (compareOp .In) (rIn X.K false):=by
  intro pins s σ H x y v u Q I rx ry h
  obtain ⟨p,xs,rfl,hq,fx,fs,q⟩:=h
  cases ry
  rcases hq with hq | hq
  · obtain ⟨its,r,pl,hz⟩:=I.list hq
    refine SeqAt.in_listAt (eqU x) pl.isList (fun w hw=>lR rx fx r fs w (by simpa using hw)) ⟨.bl _,H,I,rfl,?_⟩
    rw [show its.toArray.any (eqU x)=its.any (eqU x) by simp,pG r fs]
    exact q
  · obtain ⟨its,r,pl,hz⟩:=I.tuple hq
    refine SeqAt.in_tupleAt (eqU x) pl (fun w hw=>lR rx fx r fs w (by simpa using hw)) ⟨.bl _,H,I,rfl,?_⟩
    rw [show its.toArray.any (eqU x)=its.any (eqU x) by simp,pG r fs]
    exact q
theorem tY:OpR X (compareOp .NotIn) (rIn X.K true):=by
  intro pins s σ H x y v u Q I rx ry h
  obtain ⟨p,xs,rfl,hq,fx,fs,q⟩:=h
  cases ry
  rcases hq with hq | hq
  · obtain ⟨its,r,pl,hz⟩:=I.list hq
    refine SeqAt.notIn_listAt (eqU x) pl.isList (fun w hw=>lR rx fx r fs w (by simpa using hw)) ⟨.bl _,H,I,rfl,?_⟩
    rw [show its.toArray.any (eqU x)=its.any (eqU x) by simp,pG r fs]
    exact q
  · obtain ⟨its,r,pl,hz⟩:=I.tuple hq
    refine SeqAt.notIn_tupleAt (eqU x) pl (fun w hw=>lR rx fx r fs w (by simpa using hw)) ⟨.bl _,H,I,rfl,?_⟩
    rw [show its.toArray.any (eqU x)=its.any (eqU x) by simp,pG r fs]
    exact q
theorem aV:nG X (.builtin "len") (fun xs H Q=>∃ p ys,xs=[.ref p]∧(SqL X.K H p ys∨SqT X.K H p ys)∧Q (.int ys.length) H):=by
  intro pins s σ H xs us Q I r h
  obtain ⟨p,ys,rfl,hq,q⟩:=h
  obtain ⟨u,rfl,rx⟩:=vals1 r
  cases rx
  have hn:=oY
  rcases hq with hq | hq
  · obtain ⟨its,r',pl,hz⟩:=I.list hq
    have hlen:=r'.length
    exact Calls.call_len_list pl.isList (by simp only [List.size_toArray] <;> omega) ⟨.int ys.length,H,I.tok _,⟨s.toks + 1,by rw [List.size_toArray,hlen]⟩,q⟩
  · obtain ⟨its,r',pl,hz⟩:=I.tuple hq
    have hlen:=r'.length
    exact len_tuple pl (by simp only [List.size_toArray] <;> omega) ⟨.int ys.length,H,I.tok _,⟨s.toks + 1,by rw [List.size_toArray,hlen]⟩,q⟩
theorem dZ:nG X (.type "list") (fun xs H Q=>∃ p ys,xs=[.ref p]∧(SqL X.K H p ys∨SqT X.K H p ys)∧∀ l,H l=none→Q (.ref l) (upd H l (.lst ys))):=by
  intro pins s σ H xs us Q I r h
  obtain ⟨p,ys,rfl,hq,q⟩:=h
  obtain ⟨u,rfl,rx⟩:=vals1 r
  cases rx
  have fin:∀ (its:List Value),Vals ys its→ys.length≤sizeLine→∀ (h':Heap) (c':Nat),(∀ b o',s.heap.get? b=some o'→h'.get? b=some o') →
      h'.get? s.heap.objs.size=some { cls:=.type "list",dict:=none,data:=.seq its.toArray c',slots:=#[] }→EP X pins σ Q (.ref s.heap.objs.size) { s with heap:=h' }:=fun its r' hz h' c' kp e =>
    ⟨.ref s.heap.objs.size,_,I.laid (t':=s.toks) kp (Nat.le_refl _) (show dM X.prog X.w _ h' _ (.lst ys) from ⟨hz,its,c',r',e⟩),rfl,q _ (I.hok.fresh (Nat.le_refl _))⟩
  rcases hq with hq | hq
  · obtain ⟨its,r',pl,hz⟩:=I.list hq
    have hlen:=r'.length
    obtain ⟨o,ho,hc,n,hd⟩:=pl.isList
    exact call_list_seq p (.inl rfl) ho hc hd (fun h' c' kp e=>fin its r' hz h' c' kp e) (by simp only [List.size_toArray] <;> omega)
  · obtain ⟨its,r',pl,hz⟩:=I.tuple hq
    have hlen:=r'.length
    obtain ⟨o,ho,hc,n,hd⟩:=pl
    exact call_list_seq p (.inr rfl) ho hc hd (fun h' c' kp e=>fin its r' hz h' c' kp e) (by simp only [List.size_toArray] <;> omega)
def tyV (K:PySem.W.Frag) (T:String) (x:V) (H:Hp):Prop:=match x with
  | .str _=>T="str"
  | .int _=>T="int"
  | .ref p=>(T="list"∧∃ xs,SqL K H p xs)∨(T="tuple"∧∃ o,K.lookup p=some o∧o.cls=.type "tuple"∧o.dict=none) ∨
      (T="dict"∧((∃ kvs,H p=some (.dK kvs))∨∃ kvs,H p=some (.dT kvs)))∨(T="set"∧∃ S n,H p=some (.set S n))
  | _=>False
theorem Ud {pins:List (Addr × Obj)} {σ:St} {H:Hp} {s:Shared} {T:String} {x:V} {v:Value} (I:Inv X pins σ H s) (r:RelV x v) (ty:tyV X.K T x H) :
    s.TypeIs v T∧∀ a,v=.ref a→∃ ob,s.heap.get? a=some ob∧ob.dict=none:=by
  cases x with
  | str z =>
    obtain ⟨t,rfl⟩:=r
    cases (show T="str" from ty)
    exact ⟨typeIs_str s z t,fun _ e=>nomatch e⟩
  | int i =>
    obtain ⟨t,rfl⟩:=r
    cases (show T="int" from ty)
    exact ⟨typeIs_int s i t,fun _ e=>nomatch e⟩
  | ref p =>
    cases r
    rcases ty with ⟨rfl,xs,hq⟩ | ⟨rfl,o,hk,hc,hd⟩ | ⟨rfl,hk⟩ | ⟨rfl,S,n,hk⟩
    · obtain ⟨its,_,pl,_⟩:=I.list hq
      refine ⟨pl.isList.typeIs,fun a e=>?_⟩
      cases e
      obtain ⟨o,n,e,c,hd,_⟩:=pl
      exact ⟨o,e,hd⟩
    · refine ⟨⟨o,I.kIn p o hk,hc⟩,fun a e=>?_⟩
      cases e
      exact ⟨o,I.kIn _ o hk,hd⟩
    · have z:∃ o,s.heap.get? p=some o∧o.ExactDict:=by
        rcases hk with ⟨kvs,hk⟩ | ⟨kvs,hk⟩
        · obtain ⟨_,_,_,_,o,_,_,e,ex,_⟩:=I.hok p _ hk
          exact ⟨o,e,ex⟩
        · obtain ⟨_,_,_,_,o,_,_,e,ex,_⟩:=I.hok p _ hk
          exact ⟨o,e,ex⟩
      obtain ⟨o,e,ex⟩:=z
      refine ⟨⟨o,e,ex.1⟩,fun a e2=>?_⟩
      cases e2
      exact ⟨o,e,ex.2.1⟩
    · obtain ⟨o,_,_,_,e,ex,_⟩:=I.hok p _ hk
      refine ⟨⟨o,e,ex.1⟩,fun a e2=>?_⟩
      cases e2
      exact ⟨o,e,ex.2.1⟩
  | _=>exact False.elim ty
def tBM (K:PySem.W.Frag) (T:String) (r:V→List V→Hp→VK→Prop) (to:TE) (t:TA):TE:=fun σ H Q=>to σ H fun x H1=>tyV K T x H1∧t σ H1 fun xs H2=>r x xs H2 Q
variable {o e:Expr} {es:List Expr} {to:TE} {t:TA} {name:Str} {apos cpos:Pos} {T id:String} {r:V→List V→Hp→VK→Prop}
theorem oU (pa:PlainAttrs T) (slot:Slot T name id) (hty:typeOf (.builtin id)=pure (.type "method_descriptor")) (hm:MtR X id r) (ho:PE X o to) (ha:PA X (e :: es) t)
    (hbase:attributeBase o name X.env (eval o X.env)=eval o X.env:=by rfl)
    (hfew:((backTo cpos (starEach (e :: es) X.env)).all (fun x=>!x.1) && (backToKw cpos (keywordEach [] X.env)).all (fun x=>x.1.isSome)
      && decide ((e :: es).length + ([]:List Keyword).length + (if ([]:List Keyword).isEmpty then 0 else 1)<30))=true:=by rfl)
    (hline:(apos.endLine == cpos.line)=true:=by rfl) (hs:starEach (e :: es) X.env=(false,eval e X.env) :: starEach es X.env:=by rfl) (hplain:(backTo cpos (starEach es X.env)).any (·.1)=false:=by rfl) :
    PE X (.Call (.Attribute o name apos) (e :: es) [] cpos) (tBM X.K T r to t):=by
  intro pins s σ H Q I h
  refine wpAny_Call_method_late hbase hfew hline rfl (thn (ho pins s σ H _ I h) fun v s1 ⟨x,H1,I1,r1,ty,q1⟩=>?_)
  obtain ⟨h1,h2⟩:=Ud I1 r1 ty
  refine ⟨T,id,pa,slot,hty,h1,h2,?_⟩
  have hA:=ha cpos pins s1 σ H1 _ I1 q1
  rw [hs] at hA ⊢
  refine Calls.callWith_builtin (by show (false || (backTo cpos (starEach es X.env)).any (·.1))=false;rw [hplain] <;> rfl) (Calls.evalArgs_plain ?_)
  exact thn hA fun us s2 ⟨vs,H2,I2,r2,q2⟩=>hm pins s2 σ H2 x vs v us Q I2 r1 r2 q2
end
end L2
namespace L2
open PySem PySem.Spec PyProof.Rows
def MtM (X:Cx) (id:String) (r:V→List V→Hp→VK→Prop):Prop :=
  ∀ (pins:List (Addr × Obj)) (s:Shared) (σ:St) (H:Hp) (x:V) (xs:List V) (v:Value) (us:List Value) (Q:VK),Inv X pins σ H s→RelV x v→Vals xs us→r x xs H Q →
    wpAny (model X.prog X.w) X.A (call (.builtin id) (v :: us)) (EP X pins σ Q) X.xe s
theorem Vals.one:∀ {x:V} {us:List Value},Vals [x] us→∃ u,us=[u]∧RelV x u
  | _,_,.cons r .nil=>⟨_,rfl,r⟩
theorem Vals.rep {xs:List V} {us:List Value} (h:Vals xs us):∀ k:Nat,Vals (List.replicate k xs).flatten (List.replicate k us).flatten
  | 0=>.nil
  | k + 1=>by
    rw [List.replicate_succ,List.replicate_succ,List.flatten_cons,List.flatten_cons]
    exact Vals.append h (Vals.rep h k)
theorem foldl_rep (its:List Value):∀ (k:Nat) (acc:List Value),
    List.foldl (fun x1 x2=>x1++x2) acc.toArray (List.replicate k its.toArray)=(acc++(List.replicate k its).flatten).toArray
  | 0,acc=>by simp
  | k + 1,acc=>by
    have e:acc.toArray++its.toArray=(acc++its).toArray:=by simp
    have e2:(acc++its)++(List.replicate k its).flatten=acc++(List.replicate (k + 1) its).flatten:=by
      rw [List.replicate_succ,List.flatten_cons,List.append_assoc]
    rw [← e2,← foldl_rep its k (acc++its),← e,List.replicate_succ,List.foldl_cons]
section
variable {X:Cx} {pins:List (Addr × Obj)} {σ:St} {H:Hp} {s:Shared} {l b:Addr} {xs ys zs:List V}
theorem Inv.lset {its its':List Value} {n:Nat} {f:Array Value→Array Value} {t':Nat} (I:Inv X pins σ H s) (hH:H l=some (.lst xs))
    (e:s.heap.get? l=some { cls:=.type "list",data:=.seq its.toArray n }) (hf:f its.toArray=its'.toArray) (hv:Vals ys its') (hz:ys.length≤sizeLine) :
    Inv X pins σ (upd H l (.lst ys)) { s with heap:=s.heap.update l (Obj.mapSeq f),toks:=t' }:=by
  have q:=PySem.IsL.update e f
  rw [hf] at q
  refine I.write (x:=l) (e:=l) (by rw [hH];exact trivial) (.inl rfl) (fun b' u hb hu=>(Heap.get?_update_other s.heap (Obj.mapSeq f) (Ne.symm hb)).trans hu) ⟨_,q⟩ ?_
  exact ⟨hz,its',_,hv,q⟩
theorem Inv.aas {its:List Value} {t':Nat} (I:Inv X pins σ H s) (hv:Vals ys its) (hz:ys.length≤sizeLine) :
    Inv X pins σ (upd H s.heap.objs.size (.lst ys)) { s with heap:=s.heap.push { cls:=.type "list",data:=.seq its.toArray },toks:=t' } :=
  I.laid (fun _ _ q=>Heap.get?_push_of_some _ q) (Nat.le_refl _) ⟨hz,its,0,hv,Heap.get?_push_size _ rfl⟩
theorem Inv.fresh (I:Inv X pins σ H s):H s.heap.objs.size=none:=I.hok.fresh (Nat.le_refl _)
theorem Inv.YM (I:Inv X pins σ H s) (hH:H l=some (.lst xs)):xs.length≤sizeLine∧∃ (its:List Value) (n:Nat),Vals xs its∧xs.length=its.length∧s.heap.get? l=some { cls:=.type "list",data:=.seq its.toArray n }:=by
  obtain ⟨z,its,n,r,e⟩:=I.hok l _ hH
  exact ⟨z,its,n,r,r.length,e⟩
theorem Gv {n:Nat} (h:n≤sizeLine):Builtin.List.listTooLong n=false:=by
  unfold Builtin.List.listTooLong
  exact decide_eq_false (by omega)
end
section
variable {X:Cx}
def Ro:V→List V→Hp→VK→Prop:=fun x vs H Q=>∃ l xs y,x=.ref l∧vs=[y]∧H l=some (.lst xs)∧xs.length<sizeLine∧Q .non (upd H l (.lst (xs++[y])))
theorem dX:MtM X "list.append" Ro:=by
  intro pins s σ H x vs v us Q I rx rv h
  obtain ⟨l,xs,y,rfl,rfl,hH,hz,q⟩:=h
  cases rx
  obtain ⟨u,rfl,ru⟩:=rv.one
  obtain ⟨z,its,n,r,hl,e⟩:=I.YM hH
  refine call_meets F.slot_list_append ⟨_,e,rfl⟩ F.entry_list_append (F.args_list_append_2 _ _) (PySem.list_append l its.toArray n u (by rw [List.size_toArray];omega)) ⟨e,?_⟩
  refine ⟨.non,_,I.lset (its':=its++[u]) hH e (by simp) (r.append (.cons ru .nil)) ?_,rfl,q⟩
  rw [List.length_append,List.length_singleton]
  omega
def rCat:R2:=fun x y H Q=>∃ l b xs zs,x=.ref l∧y=.ref b∧H l=some (.lst xs)∧H b=some (.lst zs)∧xs.length + zs.length≤sizeLine∧∀ p,H p=none→Q (.ref p) (upd H p (.lst (xs++zs)))
theorem tZ:OpR X (binaryOp .Add) rCat:=by
  intro pins s σ H x y v u Q I rx ry h
  obtain ⟨l,b,xs,zs,rfl,rfl,hH,hB,hz,q⟩:=h
  cases rx
  cases ry
  obtain ⟨z,its,n,r,hl,e⟩:=I.YM hH
  obtain ⟨z2,its2,n2,r2,hl2,e2⟩:=I.YM hB
  refine PySem.P.add_list e e2 ?_ (by rw [List.size_toArray,List.size_toArray];omega)
  have ea:its.toArray++its2.toArray=(its++its2).toArray:=by simp
  rw [ea]
  exact ⟨.ref _,_,I.aas (t':=s.toks) (r.append r2) (by rw [List.length_append];omega),rfl,q _ I.fresh⟩
def rRep:R2:=fun x y H Q=>∃ l k xs,x=.ref l∧y=.int k∧H l=some (.lst xs)∧-(2 ^ 63)≤k∧k<2 ^ 63∧xs.length * k.toNat≤sizeLine ∧
  ∀ p,H p=none→Q (.ref p) (upd H p (.lst (List.replicate k.toNat xs).flatten))
theorem len_rep {α:Type} (xs:List α) (k:Nat):(List.replicate k xs).flatten.length=k * xs.length:=by
  induction k with
  | zero=>simp
  | succ k ih=>rw [List.replicate_succ,List.flatten_cons,List.length_append,ih,Nat.succ_mul,Nat.add_comm]
theorem tX:OpR X (binaryOp .Mult) rRep:=by
  intro pins s σ H x y v u Q I rx ry h
  obtain ⟨l,k,xs,rfl,rfl,hH,h1,h2,hz,q⟩:=h
  cases rx
  obtain ⟨t,rfl⟩:=ry
  obtain ⟨z,its,n,r,hl,e⟩:=I.YM hH
  have hlen:its.toArray.size * k.toNat≤sizeLine:=by rw [List.size_toArray,← hl];exact hz
  have hcap:¬ its.toArray.size * k.toNat > (2 ^ 63 - 1) / 8:=by
    have:(sizeLine:Nat)≤(2 ^ 63 - 1) / 8:=by decide
    omega
  have hfit:¬ (!Builtin.List.listFitsIndex k)=true:=by
    rw [fitsIndex_both h1 h2]
    exact Bool.false_ne_true
  have hlong:¬ Builtin.List.listTooLong (its.toArray.size * k.toNat)=true:=by
    rw [Gv hlen]
    exact Bool.false_ne_true
  have hnew:List.foldl (fun x1 x2=>x1++x2) #[] (List.replicate (if its.toArray.isEmpty=true then 0 else k.toNat) its.toArray)=(List.replicate k.toNat its).flatten.toArray:=by
    have f0:∀ m:Nat,List.foldl (fun x1 x2=>x1++x2) #[] (List.replicate m its.toArray)=(List.replicate m its).flatten.toArray:=fun m=>by
      have:=foldl_rep its m []
      rw [List.nil_append] at this
      exact this
    rw [f0]
    cases its with
    | nil=>simp
    | cons a r'=>rw [if_neg (by simp)]
  refine wpAny_binaryOp_repeat_ref (T:="list") (U:="int") (by decide) ⟨_,e,rfl⟩ (fun s'=>typeIs_int s' k t) noFill_list_mul F.fills_int_mul F.slot_int_rmul repeat_list F.slot_int_index.lookup
    (call_meets F.slot_int_rmul (typeIs_int s k t) F.entry_int_rmul (F.args_int_rmul_2 _ _) (int___rmul___int_list k t l its.toArray n)
      ⟨e,rfl,⟨_,e,rfl⟩,call_meets F.slot_list_mul ⟨_,e,rfl⟩ F.entry_list_mul (F.args_list_mul_2 _ _) (AutoListH.list___mul___list_int_3 l its.toArray n k t hfit hcap hlong) ⟨e,?_⟩⟩)
  rw [hnew]
  exact ⟨.ref _,_,I.aas (t':=s.toks) (r.rep k.toNat) (by rw [len_rep,Nat.mul_comm];exact hz),rfl,q _ I.fresh⟩
end
section
variable {prog:Program} {w:World} {A:Around} {E:Value→Shared→Prop} {s:Shared}
end
section
variable {X:Cx}
end
end L2
namespace Att
open PySem PySem.W PySem.Calls PyProof.Rows
theorem o9 {P:Params} {h:Heap}:∀ (ns:List Int) (vs:List Value),WellAll P h vs (ns.map WData.int)→IntsAre vs ns:=by
  intro ns
  induction ns with
  | nil =>
    intro vs w
    rw [List.map_nil] at w
    cases w
    exact .nil
  | cons n ns ih =>
    intro vs w
    rw [List.map_cons] at w
    cases w with
    | cons a b =>
      cases a
      exact .cons _ _ (ih _ b)
theorem zX {l:OpenLaw} {n:Nat} (hn:l.most=some n) {P:Params} {h:Heap} {args:List WData} {vals:List Value}
    (hpre:l.row.toRowW.claim.pre args=true) (hwl:WellAll P h vals args) :
    ∃ a vs ns,vals=[Value.ref a]∧args=[WData.list (ns.map WData.int)]∧h.get? a=some { cls:=.type "list",data:=.seq vs.toArray }∧IntsAre vs ns∧ns.length≤n:=by
  have hsh:WShape.hasAll [] args [.list .int]=true:=(pre_splitW hpre).1
  have hc:l.pre.holds [] { args:=args }=true:=(pre_splitW hpre).2
  obtain ⟨d,r,rfl,h1,h2⟩:=hasAllW_cons hsh
  obtain rfl:=hasAllW_nil h2
  obtain ⟨xs,rfl,h3⟩:=hasW_list h1
  obtain ⟨ns,rfl⟩:=items_int h3
  have hlen:ns.length≤n:=by
    unfold OpenLaw.pre at hc
    have h4:(WTm.not (.lt (.lit (.int (n:Int))) (.len (.arg 0)))).holds [] { args:=[.list (ns.map .int)] }=true:=by
      have h4:=(holds_andW hc).1
      rw [hn] at h4
      exact h4
    have h5:=condW_of h4 (w_not (w_lt w_lit (w_len_list (w_arg rfl))))
    rw [List.length_map] at h5
    refine Nat.le_of_not_lt fun q=>?_
    have q':(n:Int)<((ns.length:Nat):Int):=by omega
    first
      | (rw [decide_eq_true q'] at h5;exact absurd h5 (by decide))
      | (simp at h5;omega)
  cases hwl with
  | cons w1 w2 =>
    cases w2
    cases w1 with
    | list ho hall=>exact ⟨_,_,ns,rfl,rfl,ho,o9 ns _ hall,hlen⟩
theorem Ah (l:OpenLaw) (args:List WData):l.row.toRowW.claim.post args (.bool true) args=true :=
  postW_of (r:=l.row.toRowW) (X:=(true == true))
    (show WShape.has [] (.bool true) .bool=true by first | rfl | decide | simp [WShape.has,WShape.arms,WShape.armsAll])
    (show (WTm.eq .res (.lit (.bool true))).value [] { args:=args,res:=some (.bool true),after:=args }=some (.bool (true == true)) from w_eq_bool (w_res rfl) w_lit) rfl
theorem vW {l:OpenLaw} {n:Nat} {q:Program} {loose:List Str} {XP:(Str→Option Value)→Heap→Prop} {YP:World→Heap→Prop} {d:DefRec}
    (hn:l.most=some n) (hdf:d.params.defaults=[])
    (call:∀ (w:World) (s₀ s₁:Shared) (mg mb:Str→Option Value) (fa:Addr) (o:Obj) (pm cd doc:Value) (a:Addr) (vs:List Value) (ns:List Int),
      Ground q loose [] XP w s₀ mg mb s₁.heap→YP w s₁.heap →
      s₁.heap.get? fa=some o→o.data=.func (docDef d.name d.params d.body d.scope pm cd doc)→s₁.heap.CodeRec cd d.name→mg d.name=some (.ref fa) →
      s₁.heap.get? a=some { cls:=.type "list",data:=.seq vs.toArray }→IntsAre vs ns→ns.length≤n→s₁.gens=#[] →
      codeAny (model l.prog w) callerA (.call (.ref fa) ⟨[.ref a],[]⟩) (fun r s'=>r=.ok (.ret (.bool true))∧OldK s₁.heap s'.heap∧s'.os=s₁.os∧AllBare s'.gens) s₁) :
    WalkO q loose XP YP l.row.toRowW d [] (fun f vs=>PySem.call f vs):=by
  intro w s₀ s₁ mg mb G Y fa o pm cd doc dV kV ho hd hcd hD hmg hg args vals as hpre hlay hrd hwl hlo
  obtain rfl:dV=.none:=Dflts.none hD hdf
  obtain rfl:kV=.none:=Dflts.noKw hD
  obtain ⟨a,vs,ns,rfl,rfl,hobj,hints,hlen⟩:=zX hn hpre hwl
  refine enter_call (codeAny_mono (call w s₀ s₁ mg mb fa o pm cd doc a vs ns G Y ho (fd_plain hd) hcd hmg hobj hints hlen hg) fun r s' hq=>?_)
  obtain ⟨rfl,h2,h3,h4⟩:=hq
  exact ⟨.inl ⟨.bool true,.bool true,[],rfl,fun _=>rfl,.bool true,Ah l _,fun _=>⟨List.Pairwise.nil,fun _ hm=>(nomatch hm)⟩⟩,h2,h3,h4⟩
section
variable {prog:Program} {w:World} {A:Around} {E:Value→Shared→Prop} {s:Shared} {K:Frag}
end
end Att
namespace L2
open PySem PySem.Spec PyProof.Rows
theorem nY:∀ {vs:List Value} {ns:List Int},IntsAre vs ns→Vals (ns.map V.int) vs
  | _,_,.nil=>.nil
  | _,_,.cons n t h=>.cons ⟨t,rfl⟩ (nY h)
end L2
namespace L2
open PySem PySem.Spec PyProof.Rows
abbrev KOf {K:PySem.W.Frag} {h:Heap} (_:K.In h):PySem.W.Frag:=K
end L2
namespace L2
open PySem PySem.Spec PyProof.Rows
abbrev CX0:CXT:=fun _ _ _ _ _ _=>False
abbrev E0:XK:=fun _ _ _=>False
theorem bI {X:Cx}:Passes CX0 X E0:=fun _ _ _ _ _ _ _ h=>h.elim
structure Fun (K:PySem.W.Frag) (x qual:Str) (st:Stmt) (f:Addr) (fd:FuncData):Prop where
  ex:∃ (oc:Value) (od:Option Addr) (kV doc pm:Value) (an:Option Addr) (cdv ct:Value) (osl:Array (Option Value)),
    fd=PySem.W.fnOf x qual (aC st) (aB st) (ao st) .none kV doc pm an cdv ct∧K.lookup f=some ⟨oc,od,.func fd,osl⟩∧PySem.W.codeIn K cdv qual=true
  kp:PySem.W.keepIn K (.ref f)=true
variable {P:Program} {w:World} {K:PySem.W.Frag} {mg:Str→Option Value} {base:Heap} {T:gG}
theorem Fun.ok {x qual:Str} {st:Stmt} {f:Addr} {fd:FuncData} {N ps:List Str} {k:Nat} {sp:Sp} (F:Fun K x qual st f fd) (S:aQ N ps (ao st)) (len:∀ vs H Q E,sp vs H Q E→vs.length=ps.length)
    (hbody:∀ (cdv:Value) (A:Around) (outer:List Env) (s:Shared) (H:Hp) (vs:List V) (Q:VK) (E:XK),pI k (A.deeper (envOfC qual (ao st) s.heap.objs.size f cdv))→sp vs H Q E →
      ∃ t,PSs (Hs CX0 P w K mg base N qual (ao st) f cdv A outer s H E).nox (aB st) t∧t { nx:=fun _ H'=>Q .non H',rt:=Q } (start N vs) H):bT P w K mg base CX0 (k + 1) f fd ps sp:=by
  obtain ⟨oc,od,kV,doc,pm,an,cdv,ct,osl,rfl,lk,hcd⟩:=F.ex
  refine Ti lk hcd S len fun A outer s H vs Q E hr hsp=>?_
  obtain ⟨t,h,q⟩:=hbody cdv A outer s H vs Q E hr hsp
  exact ⟨t,h.nox,q⟩
theorem Fun.binds {x qual:Str} {st:Stmt} {f:Addr} {fd:FuncData} {ps:List Str} (F:Fun K x qual st f fd)
    (h:∀ (kV doc pm:Value) (an:Option Addr) (cdv ct:Value) (us:List Value),us.length=ps.length→bindArgs (PySem.W.fnOf x qual (aC st) (aB st) (ao st) .none kV doc pm an cdv ct) ⟨us,[]⟩=pure (ps.zip us)):Binds K fd ps []:=by
  obtain ⟨oc,od,kV,doc,pm,an,cdv,ct,osl,rfl,lk,hcd⟩:=F.ex
  exact .all (h kV doc pm an cdv ct)
theorem bH {x qual:Str} {st:Stmt} {f:Addr} {oc:Value} {od an:Option Addr} {osl:Array (Option Value)} {kV doc pm cdv ct:Value} (l:K.lookup f=some ⟨oc,od,.func (PySem.W.fnOf x qual (aC st) (aB st) (ao st) .none kV doc pm an cdv ct),osl⟩)
    (c:PySem.W.codeIn K cdv qual=true) (k:PySem.W.keepIn K (.ref f)=true):Fun K x qual st f (PySem.W.fnOf x qual (aC st) (aB st) (ao st) .none kV doc pm an cdv ct):=⟨⟨oc,od,kV,doc,pm,an,cdv,ct,osl,rfl,l,c⟩,k⟩
section
variable {X:Cx}
theorem pv (i:Nat) {x:Str} {pos:Pos} (hN:X.N[i]?=some x:=by rfl) (hv:Vis X.env.scope x:=by first | exact Or.inl rfl | exact Or.inr (Or.inl rfl) | exact Or.inr (Or.inr rfl)) (hd:(x == ("__debug__":Str))=false:=by decide)
    (hcd:(x == ("__classdict__":Str))=false:=by decide):PE X (.Name x pos) (aag i):=Uw hN hv hd hcd
end
theorem nF {A B:Prop} (h:B):if false=true then A else B:=by
  rw [if_neg Bool.false_ne_true]
  exact h
theorem Io {A B:Prop} (h:A):if true=true then A else B:=by
  rw [if_pos rfl]
  exact h
theorem aat {c A B:Prop} [Decidable c] (h1:c→A) (h2:¬ c→B):if c then A else B:=by
  by_cases h:c
  · rw [if_pos h]
    exact h1 h
  · rw [if_neg h]
    exact h2 h
theorem R0 {c A B:Prop} [Decidable c] (hc:c) (h:B):if (!decide c)=true then A else B:=by
  rw [decide_eq_true hc]
  exact nF h
def Same (H H':Hp):Prop:=∀ b o,H b=some o→H' b=some o
theorem Same.refl (H:Hp):Same H H:=fun _ _ h=>h
theorem Same.free {H H':Hp} (e:Same H H') {l:Addr} (h:H' l=Option.none):H l=Option.none:=by
  cases q:H l with
  | none=>rfl
  | some o =>
    rw [e l o q] at h
    cases h
theorem Same.seq {K:PySem.W.Frag} {H H':Hp} {a:Addr} {xs:List V} (e:Same H H') (h:SqL K H a xs):SqL K H' a xs:=by
  rcases h with (h | ⟨o,h⟩) | h
  · exact .inl (.inl (e _ _ h))
  · exact .inl (.inr ⟨o,e _ _ h⟩)
  · exact .inr h
end L2
namespace L2
open PySem PySem.Spec PyProof.Rows
def clo (cells:List (Str × Addr)):List (Str × NameKind)→List (Str × Addr)→List (Str × Addr)
  | [],cs=>cs
  | (n,k) :: r,cs=>clo cells r (if k == .free then (n,(cells.lookup n).getD 0) :: cs else cs)
theorem Ed {env:Env}:∀ (names:List (Str × NameKind)) (cs:List (Str × Addr)),(∀ y∈names,y.2=.free→∃ c,env.cells.lookup y.1=some c) →
    (forIn names cs fun (x:Str × NameKind) (r:List (Str × Addr))=>(do
      let cs:=r
      match x with
      | (name,kind) =>
        if kind == .free then do
          let c ← cellOf env name
          let cs:=(name,c) :: cs
          pure (ForInStep.yield cs)
        else pure (ForInStep.yield cs):Sem (ForInStep (List (Str × Addr)))))=pure (clo env.cells names cs)
  | [],cs,_=>rfl
  | (n,k) :: r,cs,h=>by
    rw [List.forIn_cons]
    by_cases hk:k=.free
    · subst hk
      obtain ⟨c,hc⟩:=h (n,.free) List.mem_cons_self rfl
      have e:cellOf env n=pure c:=by unfold cellOf;rw [hc]
      simp only [beq_self_eq_true,if_true,e,pure_bind]
      rw [Ed r _ fun y hy=>h y (List.mem_cons_of_mem _ hy)]
      simp [clo,hc]
    · have hb:(k == NameKind.free)=false:=by simpa using hk
      simp only [hb,Bool.false_eq_true,if_false,pure_bind]
      rw [Ed r _ fun y hy=>h y (List.mem_cons_of_mem _ hy)]
      simp [clo,hb]
theorem kJ {env:Env} {scope:Scope} (h:∀ y∈scope.names,y.2=.free→∃ c,env.cells.lookup y.1=some c):closureFor scope env=pure (clo env.cells scope.names []):=by
  unfold closureFor
  have e:=Ed (env:=env) scope.names [] h
  first
    | (rw [← e];rfl)
    | (simp only [bind_pure];exact e)
    | exact e
theorem Ec {cells:List (Str × Addr)}:∀ (names:List (Str × NameKind)) (cs:List (Str × Addr)) (p:Str × Addr),p∈clo cells names cs→p∈cs∨p.2=(cells.lookup p.1).getD 0
  | [],_,_,h=>.inl h
  | (n,k) :: r,cs,p,h=>by
    rcases Ec r _ p h with h' | h'
    · by_cases hk:(k == NameKind.free)=true
      · rw [if_pos hk] at h'
        rcases List.mem_cons.mp h' with e | e
        · subst e;exact .inr rfl
        · exact .inl e
      · rw [if_neg hk] at h';exact .inl h'
    · exact .inr h'
theorem xQ {cells:List (Str × Addr)}:∀ (names:List (Str × NameKind)) (cs:List (Str × Addr)) (x:Str),(cs.lookup x).isSome=true→((clo cells names cs).lookup x).isSome=true
  | [],_,_,h=>h
  | (n,k) :: r,cs,x,h=>by
    refine xQ r _ x ?_
    by_cases hk:(k == NameKind.free)=true
    · rw [if_pos hk]
      rw [List.lookup_cons]
      cases x == n with
      | true=>rfl
      | false=>exact h
    · rw [if_neg hk];exact h
theorem pC {cells:List (Str × Addr)}:∀ (names:List (Str × NameKind)) (cs:List (Str × Addr)) (x:Str),(x,NameKind.free)∈names→((clo cells names cs).lookup x).isSome=true
  | [],_,_,h=>nomatch h
  | (n,k) :: r,cs,x,h=>by
    show ((clo cells r _).lookup x).isSome=true
    rcases List.mem_cons.mp h with e | e
    · have e1:x=n:=congrArg Prod.fst e
      have e2:NameKind.free=k:=congrArg Prod.snd e
      subst e1
      subst e2
      refine xQ r _ x ?_
      rw [if_pos (by decide),List.lookup_cons]
      simp
    · exact pC r _ x e
theorem Eb {cells:List (Str × Addr)} {names:List (Str × NameKind)} {x:Str} {c:Addr} (h:(clo cells names []).lookup x=some c):c=(cells.lookup x).getD 0:=by
  rcases Ec names [] _ (PySem.mem_of_lookup h) with z | z
  · exact nomatch z
  · exact z
theorem rT {cells:List (Str × Addr)}:∀ {names:List (Str × NameKind)} (cs:List (Str × Addr)) {p:Str × Addr},p∈clo cells names cs→p∈cs∨(p.1,NameKind.free)∈names
  | [],_,_,h=>.inl h
  | (n,k) :: r,cs,p,h=>by
    rcases rT (names:=r) _ h with h' | h'
    · by_cases hk:(k == NameKind.free)=true
      · rw [if_pos hk] at h'
        rcases List.mem_cons.mp h' with e | e
        · subst e
          have:k=.free:=by simpa using hk
          subst this
          exact .inr List.mem_cons_self
        · exact .inl e
      · rw [if_neg hk] at h';exact .inl h'
    · exact .inr (List.mem_cons_of_mem _ h')
def kI (X:Cx) (scope:Scope) (N:List Str) (s:Shared) (H:Hp) (ex:List Addr):Cx :=
  { X with N:=N,s₀:=s,H₀:=H,env:=compEnvC scope (clo X.env.cells scope.names []) s.heap.objs.size X.env,outer:=X.stack,stack:=X.stack,ex:=ex,fn:=fun x=>((clo X.env.cells scope.names []).lookup x).isNone,pn:=[],xe:=fun _ _=>False }
def freeOk (sc scope:Scope):Bool:=scope.names.all fun y=>(y.2 != .free) || (sc.names.lookup y.1 == some .cell) || (sc.names.lookup y.1 == some .free)
def vH (scope:Scope):Bool:=(scope.kind == .function) && (scope.names.all fun y=>y.2 != .cell) && (scope.names.all fun y=>y.2 != .local || scope.names.lookup y.1 == some .local)
def vV (scope:Scope) (N N':List Str) (cap:List (Option Nat)):Bool:=(cap.length == N'.length) && (N'.zip cap).all fun p=>match p.2 with
  | none=>true
  | some j=>N[j]? == some p.1 && scope.names.lookup p.1 == some .free
def Ef (cap:List (Option Nat)) (σ:St):St:=cap.map fun o=>o.bind fun j=>(σ[j]?).bind id
theorem kZ {f:Str × NameKind→Str × NameKind} (hf:∀ y,(f y).1=y.1) (x:Str):∀ names:List (Str × NameKind),(names.map f).lookup x=(names.lookup x).map fun k=>(f (x,k)).2
  | []=>rfl
  | (n,k) :: r=>by
    have ih:=kZ hf x r
    have e1:(f (n,k)).1=n:=hf (n,k)
    have e2:f (n,k)=(n,(f (n,k)).2):=Prod.ext e1 rfl
    rw [List.map_cons,e2,List.lookup_cons,List.lookup_cons]
    cases hx:x == n with
    | true =>
      have:x=n:=by simpa using hx
      subst this
      rfl
    | false=>exact ih
def rlb (env:Env):Str × NameKind→Str × NameKind:=fun (n,k)=>if (k == NameKind.free && env.scope.kind == .function && env.kindOf n == some .cell) then (n,NameKind.cell) else (n,k)
theorem Ac (env:Env) (y:Str × NameKind):(rlb env y).1=y.1:=by
  obtain ⟨n,k⟩:=y
  unfold rlb
  dsimp only
  split <;> rfl
theorem Ab (env:Env) (n:Str) (k:NameKind):(rlb env (n,k)).2=k∨((rlb env (n,k)).2=.cell∧k=.free):=by
  unfold rlb
  dsimp only
  split
  · rename_i h
    rw [Bool.and_eq_true,Bool.and_eq_true] at h
    exact .inr ⟨rfl,by simpa using h.1.1⟩
  · exact .inl rfl
theorem lQ (scope:Scope) (env:Env):(relabel scope env).names=scope.names.map (rlb env):=rfl
theorem tO {scope:Scope} {env:Env} {x:Str} (h:scope.names.lookup x=some .free):(relabel scope env).names.lookup x=some .cell∨(relabel scope env).names.lookup x=some .free:=by
  rw [lQ,kZ (Ac env),h]
  rcases Ab env x .free with e | ⟨e,_⟩
  · exact .inr (congrArg some e)
  · exact .inl (congrArg some e)
theorem nj {scope:Scope} {env:Env} {x:Str} {k':NameKind} (hk:k'=.cell∨k'=.free) (hn:∀ y∈scope.names,y.2≠.cell) (h:(relabel scope env).names.lookup x=some k'):(x,NameKind.free)∈scope.names:=by
  rw [lQ,kZ (Ac env)] at h
  cases e:scope.names.lookup x with
  | none=>rw [e] at h;cases h
  | some k =>
    rw [e] at h
    have h':(rlb env (x,k)).2=k':=Option.some.inj h
    have hm:=PySem.mem_of_lookup e
    rcases Ab env x k with z | ⟨_,z⟩
    · rw [z] at h'
      subst h'
      rcases hk with z2 | z2
      · exact absurd z2 (hn _ hm)
      · rw [z2] at hm;exact hm
    · rw [z] at hm;exact hm
def PTs (X:Cx) (ifs:List Expr) (t:TT):Prop :=
  ∀ (pins:List (Addr × Obj)) (s:Shared) (σ:St) (H:Hp) (Q:Bool→Hp→Prop),Inv X pins σ H s→t σ H Q →
    wpAny (model X.prog X.w) X.A (forIn ifs true fun c r=>if r=true then do let ok ← isTrue c X.env (eval c X.env);pure (ForInStep.yield ok) else pure (ForInStep.yield r)) (TP X pins σ Q) X.xe s
def Y5:TT:=fun _ H Q=>Q true H
theorem yU {i:Nat} {x:V} {τ:St} {H:Hp} {A B:St→Hp→Prop} (h:A (τ.set i (some x)) H):Hg i x τ H fun τ4 H4=>Y5 τ4 H4 fun b H5=>if b=true then A τ4 H5 else B τ4 H5:=by
  show if true=true then A (τ.set i (some x)) H else B (τ.set i (some x)) H
  rw [if_pos rfl];exact h
theorem gk {X:Cx}:PTs X [] Y5:=fun _ _ _ H _ I h=>wpAny_tests_nil ⟨H,I,h⟩
theorem oJ {X:Cx} {c:Expr} {t:TT} (h:PT X c t):PTs X [c] t:=fun pins s σ H Q I hq=>wpAny_tests_one (h pins s σ H Q I hq)
def sV (J:It) (acc:Addr) (g:TG) (tc:TT) (te:TE) (τ:St) (H1:Hp) (Q:Hp→Prop):Prop :=
  ∃ W:Nat→Nat→St→Hp→Prop,(∃ m,W 0 m τ (upd H1 acc (.lst [])))∧∀ i m τ H2,W i m τ H2→(J.stop i H2∧Q H2)∨(J.go i H2∧∃ N:St→Hp→Prop,(∀ τ' H',N τ' H'→∃ m',m'<m∧W (i + 1) m' τ' H')∧∀ x H3,J.yld i H2 x H3→g x τ H3 fun τ4 H4 =>
    tc τ4 H4 fun b H5=>if b=true then te τ4 H5 fun y H6=>∃ ys,H6 acc=some (.lst ys)∧ys.length<sizeLine∧N τ4 (upd H6 acc (.lst (ys++[y]))) else N τ4 H5)
theorem mW {lo:Int} {n:Nat} {acc:Addr} {g:TG} {tc:TT} {te:TE} {τ:St} {H1:Hp} {Q:Hp→Prop} (Pv:Nat→St→Hp→Prop) (h0:Pv 0 τ (upd H1 acc (.lst [])))
    (hs:∀ i τ H,i<n→Pv i τ H→g (.int (lo + i)) τ H fun τ4 H4=>tc τ4 H4 fun b H5=>if b=true then te τ4 H5 fun y H6=>∃ ys,H6 acc=some (.lst ys)∧ys.length<sizeLine∧Pv (i + 1) τ4 (upd H6 acc (.lst (ys++[y]))) else Pv (i + 1) τ4 H5)
    (hd:∀ τ H,Pv n τ H→Q H):sV (Itr lo n) acc g tc te τ H1 Q:=by
  refine ⟨fun i m τ H=>m=n - i∧i≤n∧Pv i τ H,⟨n,by simp,Nat.zero_le _,h0⟩,?_⟩
  rintro i m τ H ⟨rfl,hi,p⟩
  by_cases hlt:i<n
  · refine .inr ⟨hlt,Pv (i + 1),fun τ' H' p'=>⟨n - (i + 1),by omega,rfl,hlt,p'⟩,fun x H' y=>?_⟩
    obtain ⟨e,y⟩:=y
    subst e y
    exact hs i τ _ hlt p
  · have e:i=n:=by omega
    subst e
    exact .inl ⟨Nat.le_refl _,hd τ H p⟩
theorem dY {K:PySem.W.Frag} {a:Addr} {xs:List V} {acc:Addr} {g:TG} {tc:TT} {te:TE} {τ:St} {H1:Hp} {Q:Hp→Prop} (Pv:Nat→St→Hp→Prop) (h0:Pv 0 τ (upd H1 acc (.lst []))) (hl:∀ i τ H,i≤xs.length→Pv i τ H→SqL K H a xs)
    (hs:∀ i x τ H,xs[i]?=some x→Pv i τ H→g x τ H fun τ4 H4=>tc τ4 H4 fun b H5=>if b=true then te τ4 H5 fun y H6=>∃ ys,H6 acc=some (.lst ys)∧ys.length<sizeLine∧Pv (i + 1) τ4 (upd H6 acc (.lst (ys++[y]))) else Pv (i + 1) τ4 H5)
    (hd:∀ τ H,Pv xs.length τ H→Q H):sV (Itl K a) acc g tc te τ H1 Q:=by
  refine ⟨fun i m τ H=>m=xs.length - i∧i≤xs.length∧Pv i τ H,⟨xs.length,by simp,Nat.zero_le _,h0⟩,?_⟩
  rintro i m τ H ⟨rfl,hi,p⟩
  have q:=hl i τ H hi p
  by_cases hlt:i<xs.length
  · refine .inr ⟨⟨xs,xs[i],q,by simp [hlt]⟩,Pv (i + 1),fun τ' H' p'=>⟨xs.length - (i + 1),by omega,rfl,hlt,p'⟩,fun x H' y=>?_⟩
    obtain ⟨e,y⟩:=y
    subst e
    exact hs i x τ _ (y xs q) p
  · have e:i=xs.length:=by omega
    subst e
    exact .inl ⟨⟨xs,q,Nat.le_refl _⟩,hd τ H p⟩
def Rh (wi:TI) (cap:List (Option Nat)) (g:TG) (tc:TT) (te:TE):TE:=fun σ H Q=>wi σ H fun J H1=>∀ acc,H1 acc=none→sV J acc g tc te (Ef cap σ) H1 (fun H2=>Q (.ref acc) H2)
abbrev YG (ifs:List Expr) (env:Env):Sem Bool:=forIn ifs true fun c r=>if r=true then do let ok ← isTrue c env (eval c env);pure (ForInStep.yield ok) else pure (ForInStep.yield r)
abbrev wpQ {α:Type} (prog:Program) (w:World) (A:Around) (m:Sem α) (Q:α→Shared→Prop) (s:Shared):Prop:=wpAny (model prog w) A m Q (fun _ _=>False) s
theorem DY {prog:Program} {w:World} {A:Around} {R:Result→Shared→Prop} {s:Shared} {elt target iter:Expr} {ifs:List Expr} {scope:Scope} {pos:Pos} {it acc:Value} {env:Env} (I:Nat→Shared→Prop)
    (turn:∀ k s0,I k s0→wpQ prog w A (pyNext it) (fun r s1=>(r=none∧R (.ok .next) s1)∨∃ v,r=some v ∧
      wpQ prog w A (letOwnedTupleGo target it v) (fun _ s2=>wpQ prog w A (assign target env v) (fun _ s3=>wpQ prog w A (YG ifs env) (fun ok s4 =>
        (ok=false∧∃ m,m<k∧I m s4)∨(ok=true∧wpQ prog w A (eval elt env) (fun x s5=>wpQ prog w A (call (.builtin "list.append") [acc,x]) (fun _ s6=>∃ m,m<k∧I m s6) s5) s4)) s3) s2) s1) s0)
    (k:Nat) (h:I k s):codeAny (model prog w) A (.compLoop (.ListComp elt [⟨target,iter,ifs,0⟩] scope pos) 0 it acc env) R s:=by
  have quiet:∀ (e:Value) (s':Shared),False→notedBy (model prog w) A env (fun e s'=>R (.error e) s') e s':=fun _ _ z=>z.elim
  apply codeAny_loop rfl I _ k h
  intro k s0 start
  apply wpAny_noted
  rw [compTurn_list]
  apply wpAny_bind
  apply wpAny_standAt
  apply wpAny_bind
  apply wpAny_mono (turn k s0 start) _ quiet
  rintro r s1 (⟨rfl,stop⟩ | ⟨v,rfl,rest⟩)
  · exact wpAny_pure stop
  apply wpAny_bind
  apply wpAny_mono rest _ quiet
  intro _ s2 h2
  apply wpAny_bind
  apply wpAny_mono h2 _ quiet
  intro _ s3 h3
  apply wpAny_bind
  apply wpAny_mono h3 _ quiet
  rintro ok s4 (⟨rfl,skip⟩ | ⟨rfl,add⟩)
  · exact wpAny_pure ⟨rfl,skip⟩
  apply wpAny_bind
  apply wpAny_bind
  apply wpAny_mono add _ quiet
  intro x s5 h5
  apply wpAny_bind
  apply wpAny_mono h5 _ quiet
  intro _ s6 h6
  exact wpAny_pure (wpAny_pure ⟨rfl,h6⟩)
section
variable {X:Cx} {tg iter elt:Expr} {ifs:List Expr} {scope:Scope} {pos:Pos} {wi:TI} {N':List Str} {cap:List (Option Nat)} {g:TG} {tc:TT} {te:TE}
theorem qF {use:Option (Value→Sem Unit)} {R:Value→Shared→Prop} (sc:Scope) (hsc:X.env.scope=sc) (N₀:List Str) (hN₀:X.N=N₀) (f1:freeOk sc scope=true) (f2:vH scope=true) (f3:vV scope N₀ N' cap=true) (hcalm:X.calm=true)
    (hi:PI X tg iter wi)
    (hg:∀ (s:Shared) (H:Hp) (ex:List Addr),PG (kI X scope N' s H ex) tg g)
    (hc:∀ (s:Shared) (H:Hp) (ex:List Addr),PTs (kI X scope N' s H ex) ifs tc)
    (he:∀ (s:Shared) (H:Hp) (ex:List Addr),PE (kI X scope N' s H ex) elt te)
    (hs:∀ x,foldedSetIterable iter X.env x=pure x)
    {pins:List (Addr × Obj)} {s:Shared} {σ:St} {H:Hp} {Q:V→Hp→Prop} (I:Inv X pins σ H s) (h:Rh wi cap g tc te σ H Q)
    (fin:∀ (acc C:Addr) (s':Shared) (H':Hp) (m:Str→Option Value),Inv X pins σ H' s'→s'.heap.Ns C m→H' C=none→C≠X.env.locals→X.s₀.heap.objs.size≤C→(∀ x c,X.env.cells.lookup x=some c→c≠C)→(∀ p∈X.pn++pins,p.1≠C)→Q (.ref acc) H' →
      compPost (model X.prog X.w) X.A X.xe use R (.ref acc) C (.ok .next) s') :
    wpAny (model X.prog X.w) X.A (comprehension (.ListComp elt [⟨tg,iter,ifs,0⟩] scope pos) scope X.env (firstIterPos [⟨tg,iter,ifs,0⟩] pos) (newList []) false (firstIter [⟨tg,iter,ifs,0⟩] X.env) use) R X.xe s:=by
  have ok:=I.ok
  have fr:∀ y∈scope.names,y.2=.free→X.env.kindOf y.1=some .cell∨X.env.kindOf y.1=some .free:=fun y hy e=>by
    have q:=List.all_eq_true.mp f1 y hy
    rw [e] at q
    have q':((sc.names.lookup y.1 == some NameKind.cell) || (sc.names.lookup y.1 == some NameKind.free))=true:=by simpa using q
    rw [Bool.or_eq_true] at q'
    unfold Env.kindOf
    rw [hsc]
    rcases q' with z | z
    · exact .inl (by simpa using z)
    · exact .inr (by simpa using z)
  obtain ⟨⟨k1,k2⟩,k3⟩:((scope.kind == .function)=true∧(scope.names.all fun y=>y.2 != .cell)=true)∧(scope.names.all fun y=>y.2 != .local || scope.names.lookup y.1 == some .local)=true:=by
    unfold vH at f2
    rw [Bool.and_eq_true,Bool.and_eq_true] at f2
    exact f2
  have hkind:scope.kind=.function:=by simpa using k1
  have hcell:∀ y∈scope.names,y.2≠.cell:=fun y hy=>by
    have q:=List.all_eq_true.mp k2 y hy
    simpa using q
  have hnames:∀ y∈scope.names,y.2=.local→scope.names.lookup y.1=some .local:=fun y hy e=>by
    have q:=List.all_eq_true.mp k3 y hy
    rw [e] at q
    simpa using q
  have hclos:closureFor scope X.env=pure (clo X.env.cells scope.names []):=kJ fun y hy e=>ok.has y.1 (fr y hy e)
  have clX:∀ x c,(clo X.env.cells scope.names []).lookup x=some c→X.env.cells.lookup x=some c:=fun x c e=>by
    have e1:=Eb e
    have hx:(x,NameKind.free)∈scope.names:=by
      rcases rT [] (PySem.mem_of_lookup e) with z | z
      · exact nomatch z
      · exact z
    obtain ⟨c',e2⟩:=ok.has x (fr (x,.free) hx rfl)
    rw [e2] at e1 ⊢
    rw [e1];rfl
  refine wpAny_comprehension_free (use:=use) rfl hs hclos hkind hnames ?_
  show wpAny (model X.prog X.w) X.A (eval iter X.env) _ X.xe s
  refine thn (hi pins s σ H _ I h) fun v s1 h1=>thn h1 fun itv s2 h2=>?_
  obtain ⟨it,fp,tn,J,H2,e,I2,T,st2,f2',h3⟩:=h2
  subst e
  refine wpAny_newObj_type ?_
  have fresh2:H2 s2.heap.objs.size=none:=I2.hok.fresh (Nat.le_refl _)
  have I3:Inv X pins σ (upd H2 s2.heap.objs.size (.lst [])) { s2 with heap:=s2.heap.push { cls:=.type "list",data:=.seq ([]:List Value).toArray } } :=
    I2.laid (t':=s2.toks) (fun b o e=>Heap.get?_push_of_some _ e) (Nat.le_refl _) ⟨Nat.zero_le _,[],0,.nil,Heap.get?_push_size _ rfl⟩
  have st3:tn 0 (s2.heap.push { cls:=.type "list",data:=.seq ([]:List Value).toArray }):=T.keep _ _ _ st2 fun b _ o e=>Heap.get?_push_of_some _ e
  have fpne:∀ b∈fp,b≠s2.heap.objs.size:=fun b hb z=>by
    obtain ⟨o,eo,_⟩:=T.obj 0 _ st2 b hb
    exact absurd (Heap.lt_size eo) (by rw [z];exact Nat.lt_irrefl _)
  have fp3:∀ b∈fp,uY X pins (upd H2 s2.heap.objs.size (.lst [])) b:=fun b hb=>by
    obtain ⟨a0,a1⟩:=f2' b hb
    exact ⟨by rw [aN (fpne b hb)];exact a0,a1⟩
  obtain ⟨W,⟨m0,w0⟩,turn⟩:=h3 s2.heap.objs.size fresh2
  generalize hacc:s2.heap.objs.size=acc at I3 fp3 w0 turn fpne ⊢
  generalize hs3:({ s2 with heap:=s2.heap.push { cls:=.type "list",data:=.seq ([]:List Value).toArray } }:Shared)=s3 at I3 ⊢
  have st3:tn 0 s3.heap:=by rw [← hs3];exact st3
  have accTr:(upd H2 acc (.lst [])) acc=some (.lst []):=bB
  refine wpAny_newFunctionEnv hcell (by intro y hy;cases hy) (fun h4 hns hsb=>?_) hkind
  have hCf:s3.heap.get? s3.heap.objs.size=none:=Heap.get?_none_of_le (Nat.le_refl _)
  have kp4:∀ b o,s3.heap.get? b=some o→h4.get? b=some o:=fun b o e=>hsb.extBut b o (Nat.ne_of_lt (Heap.lt_size e)) (Heap.get?_push_of_some _ e)
  let Y:Cx:=kI X scope N' s3 (upd H2 acc (.lst [])) fp
  have envY:Y.env=compEnvC scope (clo X.env.cells scope.names []) s3.heap.objs.size X.env:=rfl
  have okY:Y.Ok:=by
    refine ⟨ok.mod,?_,ok.glob,ok.blt,Nat.le_refl _,?_,?_,?_,ok.hd,ok.frames,.inl rfl,?_,?_,?_,?_,?_,?_,?_⟩
    · show (relabel scope X.env).kind=.function
      exact hkind
    · exact fun x y c h1 h2=>ok.inj x y c (clX x c h1) (clX y c h2)
    · intro x hx
      have hx':(relabel scope X.env).names.lookup x=some .cell∨(relabel scope X.env).names.lookup x=some .free:=hx
      have hm:(x,NameKind.free)∈scope.names:=by
        rcases hx' with z | z
        · exact nj (.inl rfl) hcell z
        · exact nj (.inr rfl) hcell z
      exact Option.isSome_iff_exists.mp (pC scope.names [] x hm)
    · intro x c hx h1
      have hx':((clo X.env.cells scope.names []).lookup x).isNone=true:=hx
      have h1':(clo X.env.cells scope.names []).lookup x=some c:=h1
      rw [h1'] at hx';cases hx'
    · intro b hb
      obtain ⟨q0,q1,q2,q3,q4,q5⟩:=fp3 b hb
      refine ⟨?_,fun x c h1=>q4 x c (clX x c h1)⟩
      obtain ⟨o,eo,_⟩:=T.obj 0 _ st3 b hb
      exact Nat.ne_of_lt (Heap.lt_size eo)
    · exact fun b o e=>I3.bs b o e
    · exact Nat.le_trans ok.bsz I3.sz
    · intro b o e hb
      obtain ⟨q0,q1,q2,q3,q4,q5⟩:=fp3 b hb
      rcases q3 with z | z
      · exact ok.noex b o e z
      · exact absurd (Nat.lt_of_lt_of_le (Heap.lt_size e) (Nat.le_trans ok.bsz z)) (Nat.lt_irrefl _)
    · intro b hb hf
      obtain ⟨q0,q1,q2,q3,q4,q5⟩:=fp3 b hb
      rcases List.mem_cons.mp (I3.zH b hf) with z | z
      · exact q1 z
      · exact q2 z
    · exact I3.stack
    · exact I3.qQ
  have capl:cap.length=N'.length∧∀ p∈N'.zip cap,(match p.2 with | none=>true | some j=>N₀[j]? == some p.1 && scope.names.lookup p.1 == some .free)=true:=by
    unfold vV at f3
    rw [Bool.and_eq_true] at f3
    exact ⟨by simpa using f3.1,fun p hp=>List.all_eq_true.mp f3.2 p hp⟩
  have IY:Inv Y [] (Ef cap σ) (upd H2 acc (.lst [])) { s3 with heap:=h4,toks:=s3.toks + ([]:List (Str × Value)).length }:=by
    refine ⟨okY,rfl,I3.bare,Un.kept kp4,⟨_,hns,?_⟩,?_,?_,?_,fun p hp=>absurd (show p∈([]:List (Addr × Obj)) from hp) (by simp),I3.hok.kept kp4,?_⟩
    · intro i x v e1 e2 e3
      have e1':N'[i]?=some x:=e1
      unfold Ef at e2
      rw [List.getElem?_map] at e2
      cases ec:cap[i]? with
      | none=>rw [ec] at e2;cases e2
      | some o =>
        rw [ec] at e2
        cases o with
        | none=>cases e2
        | some j =>
          have e2':(σ[j]?).bind id=some v:=by simpa using e2
          have hz:(x,some j)∈N'.zip cap:=by
            refine List.mem_of_getElem? (i:=i) ?_
            rw [List.getElem?_zip_eq_some]
            exact ⟨e1',ec⟩
          have q:=capl.2 _ hz
          have q':(N₀[j]? == some x)=true∧(scope.names.lookup x == some NameKind.free)=true:=by simpa [Bool.and_eq_true] using q
          have q1:X.N[j]?=some x:=by rw [hN₀];simpa using q'.1
          have q2:scope.names.lookup x=some .free:=by simpa using q'.2
          have eσ:σ[j]?=some (some v):=by
            cases z:σ[j]? with
            | none=>rw [z] at e2';cases e2'
            | some y =>
              rw [z] at e2'
              have:y=some v:=e2'
              rw [this]
          have hk:=fr (x,.free) (PySem.mem_of_lookup q2) rfl
          obtain ⟨m,hn,hl⟩:=I3.loc
          have vis:Vis X.env.scope x:=by
            rcases hk with z | z
            · exact .inr (.inl z)
            · exact .inr (.inr z)
          obtain ⟨u,r,l⟩:=hl j x v q1 eσ vis
          refine ⟨u,r,.inr ⟨?_,?_⟩⟩
          · rcases tO (scope:=scope) (env:=X.env) q2 with z | z
            · exact .inl z
            · exact .inr z
          · rcases l with ⟨kl,_⟩ | ⟨_,c,ecx,hcx⟩
            · rcases hk with z | z
              · have z':X.env.kindOf x=some .cell:=z
                rw [kl] at z';cases z'
              · have z':X.env.kindOf x=some .free:=z
                rw [kl] at z';cases z'
            · have hh:=pC (cells:=X.env.cells) scope.names [] x (PySem.mem_of_lookup q2)
              obtain ⟨c',ec'⟩:=Option.isSome_iff_exists.mp hh
              have ec2:=clX x c' ec'
              rw [ecx] at ec2
              cases ec2
              exact ⟨c,ec',hcx.keeps kp4⟩
    · intro x c e
      obtain ⟨v,z⟩:=I3.cell x c (clX x c e)
      exact ⟨v,z.keeps kp4⟩
    · exact I3.hok.fresh (Nat.le_refl _)
    · exact fun x c e=>I3.freeC x c (clX x c e)
    · show (Ef cap σ).length=N'.length
      unfold Ef
      rw [List.length_map];exact capl.1
  have fpY:∀ {H':Hp},(∀ b∈fp,H' b=none)→∀ b∈fp,uY Y [] H' b:=fun {H'} hn b hb=>by
    obtain ⟨q0,q1,q2,q3,q4,q5⟩:=fp3 b hb
    refine ⟨hn b hb,(okY.exf b hb).1,okY.exfs b hb,.inl hb,(okY.exf b hb).2,fun p hp=>absurd (show p∈([]:List (Addr × Obj)) from hp) (by simp)⟩
  have st4:tn 0 h4:=T.keep _ _ _ st3 fun b _ o e=>kp4 b o e
  have back:∀ {τ:St} {H':Hp} {s':Shared},Inv Y [] τ H' s'→Q (.ref acc) H'→compPost (model X.prog X.w) X.A X.xe use R (.ref acc) s3.heap.objs.size (.ok .next) s':=fun {τ H' s'} J q=>by
    have un:Un (frs X.stack) fp (upd H2 acc (.lst [])) H' s3.heap s'.heap:=J.base
    have IX:Inv X pins σ H' s':=I3.call' (J.os) un J.hok J.bare fun b hb=>by
      obtain ⟨q0,q1,q2,q3,q4,q5⟩:=fp3 b hb
      exact ⟨q3,q1,q4,q5⟩
    obtain ⟨m,hn,_⟩:=J.loc
    refine fin acc s3.heap.objs.size s' H' m IX hn J.free (Nat.ne_of_gt I3.lt) I3.sz (fun x c e z=>?_) (fun p hp z=>?_) q
    · obtain ⟨v,q⟩:=I3.cell x c e
      exact absurd q.lt (by rw [z];exact Nat.lt_irrefl _)
    · exact absurd (Heap.lt_size (I3.pin p hp).1) (by rw [z];exact Nat.lt_irrefl _)
  have loop:∀ s5:Shared,s5={ s3 with heap:=h4,toks:=s3.toks + ([]:List (Str × Value)).length } →
      codeAny (model X.prog X.w) X.A (.compLoop (.ListComp elt [⟨tg,iter,ifs,0⟩] scope pos) 0 (.ref it) (.ref acc) Y.env) (compPost (model X.prog X.w) X.A X.xe use R (.ref acc) s3.heap.objs.size) s5:=by
    rintro s5 rfl
    refine DY (fun n s'=>∃ i τ H',Inv Y [] τ H' s'∧tn i s'.heap∧(∀ b∈fp,H' b=none)∧W i n τ H') ?_ m0 ⟨0,_,_,IY,st4,fun b hb=>(fp3 b hb).1,w0⟩
    rintro n s6 ⟨i,τ,H6,I6,st6,fr6,w6⟩
    rcases turn i n τ H6 w6 with ⟨stop,q⟩ | ⟨go,N,hN,step⟩
    · refine wpAny_mono (T.done Y rfl rfl rfl hcalm i [] s6 τ H6 (fun _ _=>False) I6 (fpY fr6) st6 stop) (fun r s7 ⟨hr,I7⟩=>?_) fun _ _ z=>z.elim
      exact .inl ⟨hr,back I7 q⟩
    · refine wpAny_mono (T.item Y rfl rfl rfl hcalm i [] s6 τ H6 (fun _ _=>False) I6 (fpY fr6) st6 go) (fun r s6b ⟨u,hr,h7⟩=>?_) fun _ _ z=>z.elim
      refine .inr ⟨u,hr,?_⟩
      refine wpAny_mono h7 (fun _ s7 ⟨x,H7,I7,r7,y7,st7,fr7⟩=>?_) fun _ _ z=>z.elim
      have I7':=I7.pinned (fpY fr7) (T.obj _ _ st7)
      have again:∀ {τ8:St} {H8:Hp} {s8:Shared},Inv Y ([]++tU fp s7.heap) τ8 H8 s8→N τ8 H8→∃ m,m<n∧∃ i τ H',Inv Y [] τ H' s8∧tn i s8.heap∧(∀ b∈fp,H' b=none)∧W i m τ H':=fun {τ8 H8 s8} I8 n8=>by
        obtain ⟨m',hm,w8⟩:=hN τ8 H8 n8
        refine ⟨m',hm,i + 1,τ8,H8,I8.iI,T.keep _ _ _ st7 fun b hb o e=>(I8.pin (b,o) (List.mem_append_right _ (List.mem_append_right _ (j6 hb e)))).1,fun b hb=>?_,w8⟩
        obtain ⟨o,e,d⟩:=T.obj _ _ st7 b hb
        exact (I8.pin (b,o) (List.mem_append_right _ (List.mem_append_right _ (j6 hb e)))).2.1
      refine wpAny_mono (hg s3 (upd H2 acc (.lst [])) fp _ s7 τ H7 x u _ I7' r7 (step x H7 y7)) (fun _ s8 ⟨τ8,H8,I8,q8⟩=>?_) fun _ _ z=>z.elim
      refine wpAny_mono (hc s3 (upd H2 acc (.lst [])) fp _ s8 τ8 H8 _ I8 q8) (fun b s9 ⟨H9,I9,q9⟩=>?_) fun _ _ z=>z.elim
      cases b with
      | false =>
        rw [if_neg Bool.false_ne_true] at q9
        exact .inl ⟨rfl,again I9 q9⟩
      | true =>
        rw [if_pos rfl] at q9
        refine .inr ⟨rfl,?_⟩
        refine wpAny_mono (he s3 (upd H2 acc (.lst [])) fp _ s9 τ8 H9 _ I9 q9) (fun y s10 ⟨yv,H10,I10,r10,ys,hl,hz,q10⟩=>?_) fun _ _ z=>z.elim
        refine wpAny_mono (dX (X:=Y) _ s10 τ8 H10 (.ref acc) [yv] (.ref acc) [y] (fun v H'=>N τ8 H') I10 rfl (.cons r10 .nil) ⟨acc,ys,yv,rfl,rfl,hl,hz,q10⟩) (fun v s11 ⟨vv,H11,I11,r11,q11⟩=>?_) fun _ _ z=>z.elim
        exact again I11 q11
  exact codeAny_compStart_list (loop _ rfl) (T.self _ _ _ _ _ st4 (loop _ rfl))
theorem gK (sc:Scope) (hsc:X.env.scope=sc) (N₀:List Str) (hN₀:X.N=N₀) (N':List Str) (cap:List (Option Nat)) (f1:freeOk sc scope=true) (f2:vH scope=true) (f3:vV scope N₀ N' cap=true) (hcalm:X.calm=true)
    (hi:PI X tg iter wi)
    (hg:∀ (s:Shared) (H:Hp) (ex:List Addr),PG (kI X scope N' s H ex) tg g)
    (hc:∀ (s:Shared) (H:Hp) (ex:List Addr),PTs (kI X scope N' s H ex) ifs tc)
    (he:∀ (s:Shared) (H:Hp) (ex:List Addr),PE (kI X scope N' s H ex) elt te)
    (hs:∀ x,foldedSetIterable iter X.env x=pure x:=by intro _;rfl) :
    PE X (.ListComp elt [⟨tg,iter,ifs,0⟩] scope pos) (Rh wi cap g tc te):=by
  intro pins s σ H Q I h
  rw [eval_ListComp]
  refine qF (use:=none) sc hsc N₀ hN₀ f1 f2 f3 hcalm hi hg hc he hs I h ?_
  intro acc C s' H' m IX hn hC h1 h2 h3 h4 q
  refine ⟨m,hn,fun h'' hs''=>?_⟩
  exact ⟨.ref acc,H',IX.turned (t':=s'.toks) (fun b o hb e=>(hs''.2 b hb).trans e) hC h1 (.inr h2) h3 h4,rfl,q⟩
theorem iR {i:Nat} {x:Str} {pos' spos:Pos} (sc:Scope) (hsc:X.env.scope=sc) (N₀:List Str) (hN₀:X.N=N₀) (N':List Str) (cap:List (Option Nat)) (f1:freeOk sc scope=true) (f2:vH scope=true) (f3:vV scope N₀ N' cap=true) (hcalm:X.calm=true)
    (hnd:X.N.Nodup) (hix:X.N[i]?=some x) (hx:X.env.scope.names.lookup x=some .local)
    (hi:PI X tg iter wi)
    (hg:∀ (s:Shared) (H:Hp) (ex:List Addr),PG (kI X scope N' s H ex) tg g)
    (hc:∀ (s:Shared) (H:Hp) (ex:List Addr),PTs (kI X scope N' s H ex) ifs tc)
    (he:∀ (s:Shared) (H:Hp) (ex:List Addr),PE (kI X scope N' s H ex) elt te)
    (hsw:swapsWith (.ListComp elt [⟨tg,iter,ifs,0⟩] scope pos) (some (.Name x pos')) spos.line X.env=pure true)
    (hs:∀ x,foldedSetIterable iter X.env x=pure x:=by intro _;rfl) :
    PS X (.Assign [.Name x pos'] (.ListComp elt [⟨tg,iter,ifs,0⟩] scope pos) spos) (Zg (Rh wi cap g tc te) (Hg i)):=by
  intro pins s σ H D I h
  rw [exec_Assign_Name_used _ _ _ _ hsw]
  refine wpAny_bind (wpAny_standAt (wpAny_bind ?_))
  show wpAny _ X.A (do let _ ← comprehension (.ListComp elt [⟨tg,iter,ifs,0⟩] scope pos) scope X.env _ (newList []) false (firstIter [⟨tg,iter,ifs,0⟩] X.env) (some (assign (.Name x pos') X.env))) _ _ s
  refine wpAny_bind (wpAny_mono (qF (use:=some (assign (.Name x pos') X.env)) (R:=fun _ s'=>SP X pins D .next s') sc hsc N₀ hN₀ f1 f2 f3 hcalm hi hg hc he hs I h ?_) (fun _ s' hq=>wpAny_pure (wpAny_pure hq)) fun _ _ e=>e)
  intro acc C s' H' m IX hn hC h1 h2 h3 h4 q
  show wpAny _ X.A (assign (.Name x pos') X.env (.ref acc)) _ _ _
  refine wpAny_assign_Name (sW (v:=.ref acc) IX hnd hix (.inl hx) rfl (fun s2 I2 hsb=>?_) (.inr hx))
  obtain ⟨a,sb,ha⟩:=hsb
  have hCa:C≠a:=by
    rcases ha with z | z
    · rw [z];exact h1
    · exact fun w=>h3 x a z w.symm
  refine ⟨m,hn.sameBut sb hCa,fun h'' hs''=>?_⟩
  exact ⟨_,H',I2.turned (t':=s2.toks) (fun b o hb e=>(hs''.2 b hb).trans e) hC h1 (.inr h2) h3 h4,q⟩
end
end L2
namespace L2
open PySem PySem.Spec PyProof.Rows
section
variable {X:Cx}
def ZD (K:PySem.W.Frag):V→V→Hp→VK→Prop:=fun x y H Q=>∃ p xs j v,x=.ref p∧y=.int (j:Nat)∧SqL K H p xs∧xs[j]?=some v∧Q v H
theorem j8:aaz X (ZD X.K):=by
  intro pins s σ H o i ov iv Q I ro ri h
  obtain ⟨p,xs,j,z,rfl,rfl,hq,he,q⟩:=h
  cases ro
  obtain ⟨t,rfl⟩:=ri
  obtain ⟨its,r,pl,hz⟩:=I.list hq
  obtain ⟨w,ew,rw'⟩:=r.get he
  have hl:=r.length
  have hn:=oY
  have hj:j<xs.length:=(List.getElem?_eq_some_iff.mp he).1
  exact wpAny_getItem_list pl.isList (by omega) (by omega) (by rw [Int.toNat_natCast];simpa using ew) ⟨z,H,I,rw',q⟩
theorem lB:nG X (.builtin "isinstance") (fun xs H Q=>∃ x t c b,xs=[x,.ty c]∧xV X.K H x t∧PySem.W.kitOne X.K t (.type c)=some b∧Q (.bl b) H):=by
  intro pins s σ H xs us Q I r h
  obtain ⟨x,t,c,b,rfl,ty,e,q⟩:=h
  obtain ⟨u,w,rfl,ru,rw'⟩:=vals2 r
  obtain rfl:w=Value.type c:=rw'
  exact Bv I ru ty e fun tk=>⟨.bl b,H,I.tok tk,rfl,q⟩
theorem yC:∀ (bs:List Bool),((List.range bs.length).all fun i=>(bs[i]?).getD true)=bs.all id:=by
  intro bs
  rw [Bool.eq_iff_iff]
  simp only [List.all_eq_true,List.mem_range,id_eq]
  constructor
  · intro h b hb
    obtain ⟨i,hi,e⟩:=List.getElem_of_mem hb
    have:=h i hi
    rw [List.getElem?_eq_getElem hi,e] at this
    exact this
  · intro h i hi
    rw [List.getElem?_eq_getElem hi]
    exact h _ (List.getElem_mem hi)
theorem Hy (hc:X.calm=true):nG X (.builtin "all") (fun xs H Q=>∃ (p:Addr) (bs:List Bool),xs=[.ref p]∧SqL X.K H p (bs.map V.bl)∧Q (.bl (bs.all id)) H):=by
  intro pins s σ H xs us Q I r h
  obtain ⟨p,bs,rfl,hq,q⟩:=h
  obtain ⟨u,rfl,ru⟩:=vals1 r
  cases ru
  obtain ⟨its,r1,p1,hz⟩:=I.list hq
  have hl:=p1.isList
  have hlt:p<s.heap.objs.size:=p1.lt
  have hlen:=r1.length
  rw [List.length_map] at hlen
  refine call_all_walk (wpAny_pyIter_list hl ?_)
  refine ⟨s.heap.objs.size,[s.heap.objs.size,p],[s.heap.objs.size],its.toArray.size,_,_,fun i=>(bs[i]?).getD true,rfl,Walks.list (A:=X.A.in1) (I.ok.hd hc) _ p (Nat.ne_of_lt hlt) its.toArray,
    ⟨⟨_,Heap.get?_push_size _ rfl,rfl,rfl⟩,hl.push _⟩,fun i v s' Q' E' hP hQ=>?_,fun h' tk hk=>?_⟩
  · have hP':its[i]?=some v:=by simpa using hP
    have hi:i<bs.length:=by
      have:=(List.getElem?_eq_some_iff.mp hP').1
      omega
    obtain ⟨u,eu,ru⟩:=r1.get (x:=.bl bs[i]) (by rw [List.getElem?_map,List.getElem?_eq_getElem hi];rfl)
    rw [hP'] at eu
    cases eu
    cases ru
    dsimp only at hQ
    rw [List.getElem?_eq_getElem hi] at hQ
    exact wpAny_truthy_bool hQ
  · have e:((List.range its.toArray.size).all fun i=>(bs[i]?).getD true)=bs.all id:=by
      rw [List.size_toArray,← hlen];exact yC bs
    rw [e]
    refine ⟨.bl _,H,I.kept fun b o eo=>hk b o (fun hm=>?_) (Heap.get?_push_of_some _ eo),rfl,q⟩
    rw [List.mem_singleton.mp hm] at eo
    exact Nat.lt_irrefl _ (Heap.lt_size eo)
end
end L2
namespace L2
open PySem PySem.Spec PyProof.Rows
section
variable {X:Cx} {st:Stmt} {rest:List Stmt} {t u:TS}
def vd (t u:TS):TS:=fun D σ H=>∃ M:St→Hp→Prop,t { D with nx:=M } σ H∧∀ σ' H',M σ' H'→u D σ' H'
theorem oK (h1:PS X st t) (h2:PSs X rest u):PSs X (st :: rest) (vd t u):=by
  intro pins s σ H D I h
  obtain ⟨M,ha,hb⟩:=h
  refine wpAny_execs_cons (thn (h1 pins s σ H { D with nx:=M } I ha) fun f s1 q=>?_)
  cases f with
  | next =>
    obtain ⟨σ',H',I',q⟩:=q
    exact h2 pins s1 σ' H' D I' (hb σ' H' q)
  | ret v=>exact q
  | brk=>exact q
  | cont=>exact q
end
end L2
namespace L2
open PySem PySem.Spec PyProof.Rows
def YK (H:Hp) (P:List V→Prop) (Q:VK):Prop:=∀ (l:Addr) (H':Hp) (xs:List V),Same H H'→H l=none→H' l=some (.lst xs)→P xs→Q (.ref l) H'
structure Df (K:PySem.W.Frag) (mg:Str→Option Value) (x:Str) (st:Stmt) (ps:List Str) (a:Addr) (fd:FuncData):Prop where
  F:Fun K x x st a fd
  b:Binds K fd ps []
  m:mg x=some (.ref a)
theorem Same.upd {H H':Hp} {l:Addr} {o:HO} (s:Same H H') (h:H l=none):Same H (L2.upd H' l o):=fun b u e=>by
  rw [aN (bD e h)];exact s b u e
theorem ints_get {ns:List Int} {i:Nat} {y:V} (h:(ns.map V.int)[i]?=some y):∃ z,ns[i]?=some z∧y=V.int z:=by
  rw [List.getElem?_map] at h
  cases e:ns[i]? with
  | none=>rw [e] at h;cases h
  | some z=>rw [e] at h;exact ⟨z,rfl,(Option.some.inj h).symm⟩
theorem eO {ns:List Int} {i:Nat} {z:Int} (h:ns[i]?=some z):atI (ns.map V.int) (i:Int)=some (V.int z):=jB (by rw [List.getElem?_map,h];rfl)
theorem lV {ns:List Int} {i:Int} {z:Int} (h0:0≤i) (h:ns[i.toNat]?=some z):atI (ns.map V.int) i=some (V.int z):=by
  obtain ⟨k,rfl⟩:=Int.eq_ofNat_of_zero_le h0
  exact eO (by simpa using h)
theorem jP {n j:Nat} (h:j<n):ixN n (j:Int)=some j:=by
  unfold ixN
  rw [if_pos (by omega),if_pos (by omega)];simp
theorem Rn {α:Type} (n:Nat) (x:α):(List.replicate n [x]).flatten=List.replicate n x:=by
  induction n with
  | zero=>rfl
  | succ n ih=>rw [List.replicate_succ,List.flatten_cons,ih,List.replicate_succ];rfl
theorem fU {n:Nat} (h:n≤100000):n≤sizeLine:=Nat.le_trans h (by decide)
theorem aR {n:Nat} (h:n≤100000):n<sizeLine:=Nat.lt_of_le_of_lt h (by decide)
structure Blt (mg:Str→Option Value):Prop where
  len:mg "len"=none
  range:mg "range"=none
  list:mg "list"=none
  isinstance:mg "isinstance"=none
  bool:mg "bool"=none
  int:mg "int"=none
  all:mg "all"=none
  min:mg "min"=none
  max:mg "max"=none
  sum:mg "sum"=none
  sorted:mg "sorted"=none
  zip:mg "zip"=none
  tuple:mg "tuple"=none
  str:mg "str"=none
  any:mg "any"=none
  enumerate:mg "enumerate"=none
  reversed:mg "reversed"=none
  abs:mg "abs"=none
  ValueError:mg "ValueError"=none
  set:mg "set"=none
structure Mth (mg:Str→Option Value):Prop where
  MOUTH:∃ t,mg "MOUTH"=some (.int (-1) t)
section
variable {X:Cx} {K:PySem.W.Frag}
theorem gB (h:X.K=K):IxR X (aan K):=h ▸ aJ
theorem vO (h:X.K=K):IxR X (aam K):=h ▸ jD
theorem rY (h:X.K=K):nG X (.builtin "len") (fun xs H Q=>∃ p ys,xs=[.ref p]∧(SqL K H p ys∨SqT K H p ys)∧Q (.int ys.length) H):=h ▸ aV
theorem yF (h:X.K=K):OpR X (compareOp .In) (rIn K false):=h ▸ Av
end
end L2
namespace L2
open PySem PySem.W PyProof.Rows
structure Arr (N:Nat) (p:Array Nat):Prop where
  size:p.size=N
  perm:p.toList.Perm (List.range N)
theorem Arr.start (N:Nat):Arr N (List.toArray (List.range N)):=⟨by simp,by simp⟩
theorem Arr.nd {N:Nat} {p:Array Nat} (h:Arr N p):p.toList.Nodup:=h.perm.nodup_iff.mpr List.nodup_range
theorem Arr.get {N:Nat} {p:Array Nat} (h:Arr N p) {i:Nat} (hi:i<N):p.toList[i]?=some (p.getD i 0):=by
  have hi':i<p.size:=by rw [h.size];exact hi
  simp [Array.getD,hi']
theorem Arr.lt {N:Nat} {p:Array Nat} (h:Arr N p) {i:Nat} (hi:i<N):p.getD i 0<N:=by
  have:=h.perm.mem_iff.mp (List.mem_of_getElem? (h.get hi))
  exact List.mem_range.mp this
theorem Arr.ne {N:Nat} {p:Array Nat} (h:Arr N p) {i j:Nat} (hi:i<N) (hj:j<N) (hij:i≠j):p.getD i 0≠p.getD j 0:=by
  intro e
  obtain ⟨a1,a2⟩:=List.getElem?_eq_some_iff.mp (h.get hi)
  obtain ⟨b1,b2⟩:=List.getElem?_eq_some_iff.mp (h.get hj)
  exact hij ((List.getElem_inj h.nd).mp (by rw [a2,b2,e]))
theorem Arr.Bb {N:Nat} {p q:Array Nat} (h:Arr N p) (hs:q.size=p.size) (hp:q.Perm p):Arr N q:=⟨hs.trans h.size,(Array.perm_iff_toList_perm.mp hp).trans h.perm⟩
theorem Arr.rev {N:Nat} {p:Array Nat} (h:Arr N p) (i j:Nat):Arr N (kas_rev p i j):=h.Bb (mirror_size _ _ _ _) (mirror_perm _ _ _ _)
theorem Arr.bub {N:Nat} {p:Array Nat} (h:Arr N p) (k d:Nat):Arr N (bubble p k d):=h.Bb (bubble_size _ _ _) (bubble_perm _ _ _)
theorem rK {p q:Array Nat} {i j:Nat} (h:p[i]?=q[j]?):p.getD i 0=q.getD j 0:=by
  rw [Array.getD_eq_getD_getElem?,Array.getD_eq_getD_getElem?,h]
theorem Ae {N:Nat} {p:Array Nat} (h:Arr N p) {n k:Nat} (hn:n≤N) (hk:k<n):(kas_rev p 0 n).getD k 0=p.getD (n - 1 - k) 0:=by
  refine rK ?_
  unfold kas_rev
  rw [getElem?_mirror (by rw [h.size];exact hn) ((n - 0) / 2) (by omega) k]
  split
  · congr 1;omega
  · congr 1;omega
theorem En {N:Nat} {p:Array Nat} (h:Arr N p) {k l j:Nat} (hk:k<N) (hl:l≤k):(bubble p k (k - l)).getD j 0=if j=l then p.getD k 0 else if l<j∧j≤k then p.getD (j - 1) 0 else p.getD j 0:=by
  have e:=getElem?_bubble (xs:=p) (src:=k) (by rw [h.size];exact hk) (k - l) (by omega) j
  have e1:k - (k - l)=l:=by omega
  rw [e1] at e
  by_cases h1:j=l
  · rw [if_pos h1] at e ⊢;exact rK e
  · rw [if_neg h1] at e ⊢
    by_cases h2:l<j∧j≤k
    · rw [if_pos h2] at e ⊢;exact rK e
    · rw [if_neg h2] at e ⊢;exact rK e
section
variable {N:Nat} {κ:Nat→Int} {R:Shared→Prop} {cmp:Nat→Nat→(Bool→Shared→Prop)→Shared→Prop}
def Srt (κ:Nat→Int) (p:Array Nat) (n:Nat):Prop:=∀ i j,i<j→j<n→κ (p.getD i 0)<κ (p.getD j 0)
def Dsc (κ:Nat→Int) (p:Array Nat) (n:Nat):Prop:=∀ i j,i<j→j<n→κ (p.getD j 0)<κ (p.getD i 0)
def Cmp (N:Nat) (κ:Nat→Int) (R:Shared→Prop) (cmp:Nat→Nat→(Bool→Shared→Prop)→Shared→Prop):Prop :=
  ∀ i j C s,i<N→j<N→R s→(∀ s',R s'→C (decide (κ i<κ j)) s')→cmp i j C s
def Inj (N:Nat) (κ:Nat→Int):Prop:=∀ i j,i<N→j<N→i≠j→κ i≠κ j
theorem Srt.snoc {p:Array Nat} {n:Nat} (h:Srt κ p n) (hn:1≤n) (e:κ (p.getD (n - 1) 0)<κ (p.getD n 0)):Srt κ p (n + 1):=fun i j hij hj=>by
  by_cases hjn:j=n
  · subst hjn
    by_cases hi:i=j - 1
    · rw [hi];exact e
    · have:=h i (j - 1) (by omega) (by omega)
      omega
  · exact h i j hij (by omega)
theorem Dsc.snoc {p:Array Nat} {n:Nat} (h:Dsc κ p n) (hn:1≤n) (e:κ (p.getD n 0)<κ (p.getD (n - 1) 0)):Dsc κ p (n + 1):=fun i j hij hj=>by
  by_cases hjn:j=n
  · subst hjn
    by_cases hi:i=j - 1
    · rw [hi];exact e
    · have:=h i (j - 1) (by omega) (by omega)
      omega
  · exact h i j hij (by omega)
variable (hc:Cmp N κ R cmp) (hI:Inj N κ)
include hc hI
theorem qM {p:Array Nat} (A:Arr N p) {Q:Nat→Shared→Prop}:∀ (f n:Nat) (s:Shared),1≤n→n + f=N→Srt κ p n→R s →
    (∀ m s',n≤m→m≤N→Srt κ p m→(m<N→κ (p.getD m 0)<κ (p.getD (m - 1) 0))→R s'→Q m s')→(kas_asc p f n).kasWp cmp Q s
  | 0,n,s,h1,hf,hS,r,k=>k n s (Nat.le_refl _) (by omega) hS (fun z=>by omega) r
  | f + 1,n,s,h1,hf,hS,r,k=>by
    unfold kas_asc
    refine hc _ _ _ s (A.lt (by omega)) (A.lt (by omega)) r fun s' r'=>?_
    by_cases hlt:κ (p.getD n 0)<κ (p.getD (n - 1) 0)
    · rw [decide_eq_true hlt];dsimp only;rw [if_pos rfl]
      exact k n s' (Nat.le_refl _) (by omega) hS (fun _=>hlt) r'
    · rw [decide_eq_false hlt];dsimp only;rw [if_neg Bool.false_ne_true]
      have hne:=hI _ _ (A.lt (show n<N by omega)) (A.lt (show n - 1<N by omega)) (A.ne (show n<N by omega) (show n - 1<N by omega) (by omega))
      exact qM A f (n + 1) s' (by omega) (by omega) (hS.snoc h1 (by omega)) r' fun m s2 a b c d e=>k m s2 (by omega) b c d e
theorem sS {p:Array Nat} (A:Arr N p) {Q:Array Nat × Nat × Nat→Shared→Prop}:∀ (f n:Nat) (s:Shared),1≤n→n + f=N→Dsc κ p n→R s →
    (∀ m s',n≤m→m≤N→Dsc κ p m→R s'→Q (p,m,0) s')→(kas_desc f p n 0).kasWp cmp Q s
  | 0,n,s,h1,hf,hS,r,k=>k n s (Nat.le_refl _) (by omega) hS r
  | f + 1,n,s,h1,hf,hS,r,k=>by
    unfold kas_desc
    refine hc _ _ _ s (A.lt (by omega)) (A.lt (by omega)) r fun s' r'=>?_
    by_cases hlt:κ (p.getD n 0)<κ (p.getD (n - 1) 0)
    · rw [decide_eq_true hlt];dsimp only;rw [if_pos rfl,if_neg (by omega)]
      exact sS A f (n + 1) s' (by omega) (by omega) (hS.snoc h1 hlt) r' fun m s2 a b c d=>k m s2 (by omega) b c d
    · rw [decide_eq_false hlt];dsimp only;rw [if_neg Bool.false_ne_true]
      have hne:=hI _ _ (A.lt (show n<N by omega)) (A.lt (show n - 1<N by omega)) (A.ne (show n<N by omega) (show n - 1<N by omega) (by omega))
      refine hc _ _ _ s' (A.lt (by omega)) (A.lt (by omega)) r' fun s2 r2=>?_
      rw [decide_eq_true (by omega)];dsimp only;rw [if_pos rfl]
      exact k n s2 (Nat.le_refl _) (by omega) hS r2
theorem yh {p:Array Nat} (A:Arr N p) (h2:2≤N) {Q:Nat × Array Nat→Shared→Prop} {s:Shared} (r:R s)
    (k:∀ m p' s',1≤m→m≤N→Arr N p'→Srt κ p' m→R s'→Q (m,p') s'):(kas_count N p).kasWp cmp Q s:=by
  unfold kas_count
  rw [KasT.kasWp_bind]
  refine qM hc hI A (N - 1) 1 s (Nat.le_refl _) (by omega) (fun i j a b=>by omega) r fun n s' h1 hn hS hd r'=>?_
  by_cases hnN:n=N
  · rw [if_pos (by simp [hnN])]
    exact k n p s' h1 hn A hS r'
  · rw [if_neg (by simp [hnN])]
    have hd':=hd (by omega)
    by_cases h1n:n > 1
    · rw [if_pos h1n]
      refine hc _ _ _ s' (A.lt (by omega)) (A.lt (by omega)) r' fun s2 r2=>?_
      rw [decide_eq_true (hS 0 (n - 1) (by omega) (by omega))];dsimp only;rw [if_pos rfl]
      exact k n p s2 h1 hn A hS r2
    · rw [if_neg h1n]
      have hn1:n=1:=by omega
      subst hn1
      unfold kas_descPart
      rw [KasT.kasWp_bind]
      refine sS hc hI A (N - 2) 2 s' (by omega) (by omega) (fun i j a b=>?_) r' fun m s2 hm2 hm hD r2=>?_
      · have hi:i=0:=by omega
        have hj:j=1:=by omega
        subst hi;subst hj
        exact hd'
      · rw [if_neg (by show ¬ (0:Nat) > 0;omega)]
        show (kas_tail3 m N p).kasWp cmp Q s2
        unfold kas_tail3
        rw [KasT.kasWp_bind]
        refine qM hc hI (A.rev 0 m) (N - m) m s2 (by omega) (by omega) (fun i j a b=>?_) r2 fun m' s3 a b c d e=>?_
        · rw [Ae A hm (by omega),Ae A hm (by omega)]
          exact hD _ _ (by omega) (by omega)
        · exact k m' _ s3 (by omega) b (A.rev 0 m) c e
theorem mG {p:Array Nat} (A:Arr N p) {k:Nat} (hk:k<N) (hS:Srt κ p k) {Q:Nat→Shared→Prop}:∀ (f l r:Nat) (s:Shared),l≤r→r≤k→r - l≤f →
    (∀ i,i<l→κ (p.getD i 0)<κ (p.getD k 0))→(∀ i,r≤i→i<k→κ (p.getD k 0)<κ (p.getD i 0))→R s →
    (∀ l s',l≤k→(∀ i,i<l→κ (p.getD i 0)<κ (p.getD k 0))→(∀ i,l≤i→i<k→κ (p.getD k 0)<κ (p.getD i 0))→R s'→Q l s')→(kas_place p k f l r).kasWp cmp Q s
  | 0,l,r,s,h1,h2,hf,ha,hb,hr,q=>by
    have e:l=r:=by omega
    subst e
    exact q l s h2 ha hb hr
  | f + 1,l,r,s,h1,h2,hf,ha,hb,hr,q=>by
    unfold kas_place
    by_cases hlr:l ≥ r
    · rw [if_pos hlr]
      have e:l=r:=by omega
      subst e
      exact q l s h2 ha hb hr
    · rw [if_neg hlr]
      have m1:(l + r) / 2<r:=by omega
      have m0:l≤(l + r) / 2:=by omega
      refine hc _ _ _ s (A.lt hk) (A.lt (by omega)) hr fun s' r'=>?_
      by_cases hlt:κ (p.getD k 0)<κ (p.getD ((l + r) / 2) 0)
      · rw [decide_eq_true hlt];dsimp only;rw [if_pos rfl]
        refine mG A hk hS f l ((l + r) / 2) s' m0 (by omega) (by omega) ha (fun i hi hik=>?_) r' q
        by_cases he:i=(l + r) / 2
        · rw [he];exact hlt
        · have:=hS ((l + r) / 2) i (by omega) hik
          omega
      · rw [decide_eq_false hlt];dsimp only;rw [if_neg Bool.false_ne_true]
        have hne:=hI _ _ (A.lt hk) (A.lt (show (l + r) / 2<N by omega)) (A.ne hk (show (l + r) / 2<N by omega) (by omega))
        refine mG A hk hS f ((l + r) / 2 + 1) r s' (by omega) h2 (by omega) (fun i hi=>?_) hb r' q
        by_cases he:i=(l + r) / 2
        · rw [he];omega
        · have:=hS i ((l + r) / 2) (by omega) (by omega)
          omega
theorem wF {Q:Array Nat→Shared→Prop} (q:∀ p s',Arr N p→Srt κ p N→R s'→Q p s'):∀ (f:Nat) (p:Array Nat) (k:Nat) (s:Shared),Arr N p→k + f=N→Srt κ p k→R s→(kas_bin f p k).kasWp cmp Q s
  | 0,p,k,s,A,hf,hS,r=>by
    have e:k=N:=by omega
    subst e
    exact q p s A hS r
  | f + 1,p,k,s,A,hf,hS,r=>by
    unfold kas_bin
    rw [KasT.kasWp_bind]
    refine mG hc hI A (show k<N by omega) hS k 0 k s (Nat.zero_le _) (Nat.le_refl _) (by omega) (fun i hi=>by omega) (fun i a b=>by omega) r fun l s' hl ha hb r'=>?_
    refine wF q f _ (k + 1) s' (A.bub k (k - l)) (by omega) (fun i j hij hj=>?_) r'
    rw [En A (by omega) hl,En A (by omega) hl]
    by_cases h1:i=l
    · rw [if_pos h1,if_neg (by omega),if_pos (by omega)]
      exact hb _ (by omega) (by omega)
    · rw [if_neg h1]
      by_cases h2:j=l
      · rw [if_pos h2,if_neg (by omega)]
        exact ha _ (by omega)
      · rw [if_neg h2]
        by_cases h3:l<i∧i≤k
        · rw [if_pos h3,if_pos (by omega)]
          exact hS _ _ (by omega) (by omega)
        · rw [if_neg h3]
          by_cases h4:l<j∧j≤k
          · rw [if_pos h4]
            by_cases h5:i<j - 1
            · exact hS _ _ h5 (by omega)
            · omega
          · rw [if_neg h4]
            exact hS _ _ hij (by omega)
theorem zy (h2:2≤N) {Q:Array Nat→Shared→Prop} {s:Shared} (r:R s) (q:∀ p s',Arr N p→Srt κ p N→R s'→Q p s'):(kas_sort N).kasWp cmp Q s:=by
  unfold kas_sort
  rw [KasT.kasWp_bind]
  refine yh hc hI (Arr.start N) h2 r fun m p' s' h1 hm A hS r'=>?_
  by_cases hlt:m<N
  · rw [if_pos hlt]
    have e:max m 1=m:=by omega
    rw [e]
    exact wF hc hI q _ p' m s' A (by omega) hS r'
  · rw [if_neg hlt]
    have e:m=N:=by omega
    subst e
    exact q p' s' A hS r'
end
end L2
namespace L2
open PySem PySem.Spec PyProof.Rows
section
variable {X:Cx} {pins:List (Addr × Obj)} {σ:St} {H:Hp} {s:Shared} {a:Addr} {o:HO}
theorem Inv.adopt (I:Inv X pins σ H s) (hn:H a=none) (hL:a≠X.env.locals) (h0:X.s₀.heap.objs.size≤a) (hc:∀ x c,X.env.cells.lookup x=some c→c≠a) (hp:∀ p∈X.pn++pins,p.1≠a)
    (new:dM X.prog X.w (upd H a o) s.heap a o):Inv X pins σ (upd H a o) s:=by
  have ne:∀ b u,H b=some u→b≠a:=fun b u e=>bD e hn
  refine ⟨I.ok,I.os,I.bare,⟨I.base.keep,I.base.slot,fun b ob e n hx=>?_,I.base.there,fun b xs e=>?_,fun b ob xs e=>?_,fun b ps e=>?_⟩,I.loc,I.cell,?_,fun x c e=>?_,fun p hq=>?_,fun b u e=>?_,I.len⟩
  · rw [aN (Nat.ne_of_lt (Nat.lt_of_lt_of_le (Heap.lt_size e) h0))];exact I.base.free b ob e n hx
  · have:=I.base.tups b xs e;rw [aN (ne b _ this)];exact this
  · have:=I.base.frzs b ob xs e;rw [aN (ne b _ this)];exact this
  · obtain ⟨m,e1⟩:=I.base.tbls b ps e;exact ⟨m,by rw [aN (ne b _ e1)];exact e1⟩
  · rw [aN hL.symm];exact I.free
  · rw [aN (hc x c e)];exact I.freeC x c e
  · obtain ⟨e1,n,r⟩:=I.pin p hq;exact ⟨e1,by rw [aN (hp p hq)];exact n,r⟩
  · by_cases hb:b=a
    · subst hb;rw [bB] at e;cases e;exact new
    · rw [aN hb] at e
      exact (I.hok b u e).stay (fun _ _ _ q=>q) (fun c q=>by rw [aN (ne c _ q)];exact q) fun c xs q=>by rw [aN (ne c _ q)];exact q
end
section
variable {prog:Program} {w:World} {A:Around} {E:Value→Shared→Prop} {s:Shared}
theorem rR {r:Addr} {b:Int} {t u v:Tok} {n:Nat} {Q:List Value→Shared→Prop} (hh:A.handled=none) (hr:IsRange s.heap r 0 b 1 t u v) (hsmall:Builtin.Range.small 0 b 1=true)
    (hn:Builtin.Range.rangeSize 0 b 1=n) (hlen:n≤2 ^ 24)
    (h:∀ h' tk vs,(∀ b o,s.heap.get? b=some o→h'.get? b=some o)→Vals ((List.range n).map fun (i:Nat)=>V.int (i:Int)) vs→Q vs { s with heap:=h',toks:=tk }) :
    wpAny (model prog w) A (collect (.ref r)) Q E s:=by
  unfold collect
  refine wpAny_bind (wpAny_runValue (codeAny_builtin entry_proto_collect' ?_))
  show wpAny _ _ (do again (.builtin "list.__iadd__" ⟨[← newList [],.ref r],[]⟩)) _ _ s
  refine wpAny_bind (wpAny_newList (wpAny_pure ⟨Code.quiet_builtin _ (by decide +kernel),codeAny_builtin entry_list_iadd' ?_⟩))
  have e1:A.under (.builtin "proto.collect" ⟨[.ref r],[]⟩)=A.in1:=Around.under_plainId F.plain_proto_collect _
  have e2:A.under (.builtin "list.__iadd__" ⟨[.ref s.heap.objs.size,.ref r],[]⟩)=A.in1:=Around.under_plainId F.plain_list_iadd _
  rw [e2]
  show wpAny _ A.in1 (Builtin.List.listExtendWith (.ref s.heap.objs.size) (.ref r) (.ref s.heap.objs.size)) _ _ { s with heap:=s.heap.push (seqObj "list" #[] 0) }
  have hS:(s.heap.push (seqObj "list" #[] 0)).get? s.heap.objs.size=some { cls:=.type "list",data:=.seq #[] 0 }:=Heap.get?_push_size _ rfl
  have hr':IsRange (s.heap.push (seqObj "list" #[] 0)) r 0 b 1 t u v:=Heap.get?_push_of_some _ hr
  refine wpAny_mono (wpAny_extend_range (A:=A) (R:=fun r s'=>match r with
      | .ok (.ret v)=>wpAny (model prog w) A (match v with
          | .ref a=>do
            let o ← load a
            match o.data with
            | .seq xs _=>pure xs.toList
            | _=>unsupported "internal:collect"
          | _=>unsupported "internal:collect") Q E s'
      | .ok _=>False
      | .error e=>E e s') (s:={ s with heap:=s.heap.push (seqObj "list" #[] 0) }) hh hr' hsmall hn hlen s.heap.objs.size (.ref s.heap.objs.size) 0 hS fun h' tk acc c hk hS' hacc=>?_) (fun fin s' q=>?_) (fun e s' q=>q)
  case refine_2 =>
    cases fin with
    | done f=>exact q
    | again c'=>exact q
  show wpAny (model prog w) A (do
      let o ← load s.heap.objs.size
      match o.data with
      | .seq xs _=>pure xs.toList
      | _=>unsupported "internal:collect") Q E { s with heap:=h',toks:=tk }
  refine wpAny_bind (wpAny_load hS' ?_)
  refine wpAny_pure (h h' tk acc.toList (fun b o e=>hk b o (Nat.ne_of_lt (Heap.lt_size e)) (Heap.get?_push_of_some _ e)) ?_)
  have hsz:acc.toList.length=n:=by rw [Array.length_toList];exact hacc.1
  have key:∀ (k:Nat) (l:List Value),l.length=k→(∀ (j:Nat) (v:Value),l[j]?=some v→∃ t,v=.int ((n - k + j:Nat):Int) t)→k≤n→Vals ((List.range' (n - k) k).map fun (i:Nat)=>V.int (i:Int)) l:=by
    intro k
    induction k with
    | zero =>
      intro l hl _ _
      have:l=[]:=List.length_eq_zero_iff.mp hl
      subst this
      exact .nil
    | succ k ih =>
      intro l hl hP hk
      match l,hl with
      | v :: l,hl =>
        have hl':l.length=k:=by simpa using hl
        rw [List.range'_succ,List.map_cons]
        obtain ⟨t,ht⟩:=hP 0 v rfl
        refine .cons ⟨t,?_⟩ ?_
        · rw [ht];rfl
        · have e:n - (k + 1) + 1=n - k:=by omega
          rw [e]
          refine ih l hl' (fun j v' e'=>?_) (by omega)
          obtain ⟨t',ht'⟩:=hP (j + 1) v' (by simpa using e')
          exact ⟨t',by rw [ht'];congr 2;omega⟩
  have:=key n acc.toList hsz (fun j v e=>by
    obtain ⟨t,ht⟩:=hacc.2 j v (by simpa using e)
    refine ⟨t,?_⟩
    rw [ht]
    congr 1
    omega) (Nat.le_refl _)
  rw [Nat.sub_self,← List.range_eq_range'] at this
  exact this
end
end L2
namespace L2
open PySem PySem.W PySem.Spec PyProof.Rows
section
variable {prog:Program} {w:World} {A:Around} {E:Value→Shared→Prop} {s:Shared}
theorem o7 {Q:Bool→Shared→Prop}:∀ {xs ys:List Value} {ns ms:List Int},IntsAre xs ns→IntsAre ys ms→ns.length=ms.length→∀ i:Nat,Q (HT.lexLt ns ms) s→KatLex prog w A true false Q (xs.zip ys) i s
  | _,_,_,_,.nil,.nil,_,i,q=>by rw [List.zip_nil_left];exact kat_nil q
  | _,_,_,_,.nil,.cons _ _ _,hl,_,_=>by simp at hl
  | _,_,_,_,.cons _ _ _,.nil,hl,_,_=>by simp at hl
  | _,_,_,_,.cons a t hx,.cons c u hy,hl,i,q=>by
    rw [List.zip_cons_cons]
    refine kat_cons (wpAny_eqBool_int ?_)
    rw [HT.jr] at q
    by_cases h:a=c
    · rw [if_pos h] at q
      have e:(a == c)=true:=by simp [h]
      rw [e]
      exact kat_yes (o7 hx hy (by simpa using hl) (i + 1) q)
    · rw [if_neg h] at q
      have e:(a == c)=false:=by simp [h]
      rw [e]
      refine kat_no ?_
      by_cases hi:i=0
      · have ei:(true && i == 0)=true:=by simp [hi]
        rw [ei]
        exact oneLt_int q
      · have ei:(true && i == 0)=false:=by simp [hi]
        rw [ei]
        exact kat_one _ _ (lt_int q)
structure Keys (h:Heap) (ks:List Value) (key:Nat→List Int) (N len:Nat):Prop where
  size:ks.length=N
  at_:∀ i,i<N→∃ t its,ks[i]?=some (.ref t)∧IsTup h t its.toArray∧IntsAre its (key i)
  long:∀ i,i<N→(key i).length=len + 1
theorem Keys.cmp {ks:List Value} {key:Nat→List Int} {N len:Nat} {κ:Nat→Int} (K:Keys s.heap ks key N len) (hκ:∀ i j,i<N→j<N→HT.lexLt (key i) (key j)=decide (κ i<κ j)) :
    Cmp N κ (fun s'=>s'=s) (kas_ask prog w A (tuples' true) ks):=by
  intro i j C s1 hi hj e h
  subst e
  obtain ⟨t,its,e1,⟨o,ho,hc,n,hd⟩,i1⟩:=K.at_ i hi
  obtain ⟨t2,its2,e2,⟨o2,ho2,hc2,n2,hd2⟩,i2⟩:=K.at_ j hj
  unfold kas_ask
  rw [List.getD_eq_getElem?_getD,List.getD_eq_getElem?_getD,e1,e2]
  have l1:its.length=(key i).length:=i1.length
  have l2:its2.length=(key j).length:=i2.length
  have hl:(key i).length=(key j).length:=by rw [K.long i hi,K.long j hj]
  refine kat_lt ho hd ho2 hd2 ?_
  have ef:decide (its.toArray.size<its2.toArray.size)=false:=decide_eq_false (by simp only [List.size_toArray];omega)
  rw [ef]
  refine o7 i1 i2 hl 0 ?_
  rw [hκ i j hi hj]
  exact h s1 rfl
theorem Keys.tups {key:Nat→List Int} {len:Nat}:∀ {ks:List Value} {N:Nat},Keys s.heap ks key N len→∃ fs:List Value,KatTups s.heap ks fs∧fs.length=N∧∀ v∈fs,∃ a t,v=.int a t:=by
  have go:∀ (ks:List Value),(∀ i,i<ks.length→∃ t its a u r,ks[i]?=some (.ref t)∧IsTup s.heap t its.toArray∧its=Value.int a u :: r)→∃ fs:List Value,KatTups s.heap ks fs∧fs.length=ks.length∧∀ v∈fs,∃ a t,v=Value.int a t:=by
    intro ks
    induction ks with
    | nil=>intro _;exact ⟨[],trivial,rfl,fun v hv=>nomatch hv⟩
    | cons k ks ih =>
      intro h
      obtain ⟨fs,h1,h2,h3⟩:=ih fun i hi=>by
        obtain ⟨t,its,a,u,r,e,p⟩:=h (i + 1) (by simpa using hi)
        exact ⟨t,its,a,u,r,by simpa using e,p⟩
      obtain ⟨t,its,a,u,r,e,⟨o,ho,hc,n,hd⟩,rfl⟩:=h 0 (by simp)
      have e':k=.ref t:=by simpa using e
      subst e'
      refine ⟨.int a u :: fs,KatTups.cons ho hc hd rfl h1,by simp [h2],fun v hv=>?_⟩
      rcases List.mem_cons.mp hv with e | e
      · exact ⟨a,u,e⟩
      · exact h3 v e
  intro ks N K
  obtain ⟨fs,h1,h2,h3⟩:=go ks fun i hi=>by
    obtain ⟨t,its,e1,p,i1⟩:=K.at_ i (by rw [← K.size];exact hi)
    have hl:=K.long i (by rw [← K.size];exact hi)
    generalize key i=kl at i1 hl
    cases i1 with
    | nil=>simp at hl
    | cons a u hx=>exact ⟨t,_,a,u,_,e1,p,rfl⟩
  exact ⟨fs,h1,by rw [h2,K.size],h3⟩
end
end L2
namespace L2
open PySem PySem.W PySem.Spec PyProof.Rows
def mz (κ:Nat→Int) (xs ys:List V):Prop:=∃ p:List Nat,p.Perm (List.range xs.length)∧ys=p.map (fun i=>xs.getD i .non)∧p.Pairwise fun i j=>κ i<κ j
theorem zU {κ:Nat→Int} {xs:List V} {p:Array Nat} (A:Arr xs.length p) (hS:Srt κ p xs.length):mz κ xs (p.toList.map fun i=>xs.getD i .non):=by
  refine ⟨p.toList,A.perm,rfl,?_⟩
  rw [List.pairwise_iff_getElem]
  intro i j hi hj hij
  have hj':j<xs.length:=by rw [Array.length_toList,A.size] at hj;exact hj
  have e1:p.toList[i]=p.getD i 0:=by
    have:=A.get (show i<xs.length by omega)
    rw [List.getElem?_eq_getElem hi] at this
    exact Option.some.inj this
  have e2:p.toList[j]=p.getD j 0:=by
    have:=A.get hj'
    rw [List.getElem?_eq_getElem hj] at this
    exact Option.some.inj this
  rw [e1,e2]
  exact hS i j hij hj'
theorem sJ {xs:List V} {vs:List Value} (r:Vals xs vs):∀ (p:List Nat),(∀ i∈p,i<xs.length)→Vals (p.map fun i=>xs.getD i .non) (p.map fun i=>vs.getD i .none)
  | [],_=>.nil
  | i :: p,h=>by
    have hi:i<xs.length:=h i List.mem_cons_self
    obtain ⟨u,e,ru⟩:=r.get (List.getElem?_eq_getElem hi)
    refine .cons ?_ (sJ r p fun j hj=>h j (List.mem_cons_of_mem _ hj))
    show RelV (xs.getD i .non) (vs.getD i .none)
    rw [List.getD_eq_getElem?_getD,List.getD_eq_getElem?_getD,e,List.getElem?_eq_getElem hi]
    exact ru
section
variable {X:Cx} {pins:List (Addr × Obj)} {σ:St} {H:Hp} {s:Shared} {A:Around} {E:Value→Shared→Prop}
theorem Inv.mO (I:Inv X pins σ H s) {b:Addr} {o:Obj} (f:uY X pins H b) (e:s.heap.get? b=some o) (d:∀ v,o.data≠.cell v):Inv X (pins++[(b,o)]) σ H s :=
  I.vC fun p hp=>(List.mem_append.mp hp).elim (fun z=>I.pin p (List.mem_append_right _ z)) fun z=>by
    have e':p=(b,o):=by simpa using z
    subst e'
    obtain ⟨f0,f1,f2,_⟩:=f
    exact ⟨e,f0,f1,f2,d⟩
theorem sort_keys {f:Value} {D kS:Addr} {e1:Nat} {xs:List V} {vs:List Value} (rv:Vals xs vs) (h64:xs.length<64) (Pv:Nat→List Addr→Hp→Prop)
    (fpD:∀ H',H' D=none→uY X pins H' D) (fpK:∀ H',H' kS=none→uY X pins H' kS) (hDK:D≠kS)
    (hcall:∀ i x u ts pins' s' H',xs[i]?=some x→RelV x u→Inv X pins' σ H' s'→(∀ p∈pins,p∈pins')→Pv i ts H'→wpAny (model X.prog X.w) A (call f [u]) (fun k s2=>∃ t H2,k=.ref t∧Inv X pins' σ H2 s2∧Pv (i + 1) (ts++[t]) H2) (fun _ _=>False) s')
    {body:Value→PUnit→Sem (ForInStep PUnit)}
    (hb:∀ x (s:Shared) (R:Value→Shared→Prop) (Q:ForInStep PUnit→Shared→Prop),wpAny (model X.prog X.w) A (call f [x]) R (fun _ _=>False) s→(∀ k s',R k s'→wpAny (model X.prog X.w) A (Builtin.List.listUpdate (.ref kS) (·.push k)) (fun _ s''=>Q (.yield ⟨⟩) s'') E s') →
      wpAny (model X.prog X.w) A (body x ⟨⟩) Q E s) :
    ∀ (r:List Value) (i:Nat) (ts:List Addr) (e:Nat) (s:Shared) (H:Hp),vs.drop i=r→ts.length=i→i≤vs.length→Inv X (pins++[(D,seqObj "list" #[] e1)]++[(kS,seqObj "list" (ts.map Value.ref).toArray e)]) σ H s→Pv i ts H →
      wpAny (model X.prog X.w) A (forIn r PUnit.unit body) (fun _ s'=>∃ ts' e' H',ts'.length=vs.length∧Inv X (pins++[(D,seqObj "list" #[] e1)]++[(kS,seqObj "list" (ts'.map Value.ref).toArray e')]) σ H' s'∧Pv vs.length ts' H') E s
  | [],i,ts,e,s,H,hr,hl,hi,I,p=>by
    rw [List.forIn_nil]
    have hn:i=vs.length:=by
      have:=congrArg List.length hr
      rw [List.length_drop] at this
      simp at this
      omega
    subst hn
    exact wpAny_pure ⟨ts,e,H,hl,I,p⟩
  | u :: r,i,ts,e,s,H,hr,hl,hi,I,p=>by
    rw [List.forIn_cons]
    have hlen:=rv.length
    have hiv:i<vs.length:=by
      have:=congrArg List.length hr
      rw [List.length_drop] at this
      simp at this
      omega
    have eu:vs[i]?=some u:=by
      have:(vs.drop i)[0]?=some u:=by rw [hr];rfl
      rw [List.getElem?_drop] at this
      simpa using this
    have hix:i<xs.length:=by omega
    obtain ⟨u',e',ru⟩:=rv.get (List.getElem?_eq_getElem hix)
    rw [eu] at e'
    cases e'
    refine wpAny_bind (hb u s _ _ (hcall i _ u ts _ s H (List.getElem?_eq_getElem hix) ru I (fun p hp=>List.mem_append_left _ (List.mem_append_left _ hp)) p) fun k s2 ⟨t,H2,ek,I2,p2⟩=>?_)
    subst ek
    have pk:=I2.pin (kS,seqObj "list" (ts.map Value.ref).toArray e) (List.mem_append_right _ (List.mem_append_right _ (by simp)))
    have pD:=I2.pin (D,seqObj "list" #[] e1) (List.mem_append_right _ (List.mem_append_left _ (List.mem_append_right _ (by simp))))
    refine listUpdate_at pk.1 rfl ?_ (by rw [List.size_toArray,List.length_map,sizeLine_eq];omega) (by rw [Array.size_push,List.size_toArray,List.length_map,sizeLine_eq];omega)
    have I2':Inv X (pins++[(D,seqObj "list" #[] e1)]) σ H2 s2:=I2.iI
    have fK:uY X (pins++[(D,seqObj "list" #[] e1)]) H2 kS:=by
      obtain ⟨a0,a1,a2,a3,a4,a5⟩:=fpK H2 pk.2.1
      refine ⟨a0,a1,a2,a3,a4,fun p hp=>?_⟩
      rcases List.mem_append.mp hp with z | z
      · exact a5 p (List.mem_append_left _ z)
      · rcases List.mem_append.mp z with z | z
        · exact a5 p (List.mem_append_right _ z)
        · have:p=(D,seqObj "list" #[] e1):=by simpa using z
          rw [this];exact hDK
    obtain ⟨a0,a1,a2,a3,a4,a5⟩:=fK
    have I3:Inv X (pins++[(D,seqObj "list" #[] e1)]) σ H2 { s2 with heap:=s2.heap.update kS (Obj.mapSeq (·.push (Value.ref t))) } :=
      I2'.turned (t':=s2.toks) (fun b o hb e=>(Heap.get?_update_other _ _ (Ne.symm hb)).trans e) a0 a1 a3 a4 a5
    have ea:((ts.map Value.ref).toArray).push (Value.ref t)=((ts++[t]).map Value.ref).toArray:=by simp
    obtain ⟨c2,hc2⟩:∃ c2,(s2.heap.update kS (Obj.mapSeq (·.push (Value.ref t)))).get? kS=some (seqObj "list" ((ts++[t]).map Value.ref).toArray c2):=⟨_,by rw [← ea];exact get?_update_seq pk.1 (·.push (Value.ref t))⟩
    have I4:=I3.mO ⟨a0,a1,a2,a3,a4,a5⟩ hc2 (fun v z=>by cases z)
    show wpAny (model X.prog X.w) A (forIn r PUnit.unit body) _ E _
    refine sort_keys rv h64 Pv fpD fpK hDK hcall hb r (i + 1) (ts++[t]) c2 _ H2 ?_ (by rw [List.length_append,hl];rfl) (by omega) I4 p2
    have:(vs.drop i).drop 1=r:=by rw [hr];rfl
    rw [List.drop_drop] at this
    exact this
end
end L2
namespace L2
open PySem PySem.W PySem.Spec PyProof.Rows
section
variable {X:Cx} {pins:List (Addr × Obj)} {σ:St} {H:Hp} {s:Shared} {A:Around} {E:Value→Shared→Prop}
theorem zV {f:Value} {D:Addr} {n0 m:Nat} {xs:List V} {vs:List Value} {key:Nat→List Int} {κ:Nat→Int} (rv:Vals xs vs) (h64:xs.length<64) (Pv:Nat→List Addr→Hp→Prop) (I:Inv X pins σ H s)
    (hD:s.heap.get? D=some (seqObj "list" vs.toArray n0)) (fpD:∀ H',H' D=none→uY X pins H' D) (nD:H D=none) (hfresh:X.s₀.heap.objs.size≤D) (p0:Pv 0 [] H)
    (hcall:∀ i x u ts pins' s' H',xs[i]?=some x→RelV x u→Inv X pins' σ H' s'→(∀ p∈pins,p∈pins')→Pv i ts H'→wpAny (model X.prog X.w) A (call f [u]) (fun k s2=>∃ t H2,k=.ref t∧Inv X pins' σ H2 s2∧Pv (i + 1) (ts++[t]) H2) (fun _ _=>False) s')
    (htup:∀ ts H',Pv xs.length ts H'→∀ i t,ts[i]?=some t→H' t=some (.tup ((key i).map V.int))) (hlong:∀ i,i<xs.length→(key i).length=m + 1)
    (hκ:∀ i j,i<xs.length→j<xs.length→HT.lexLt (key i) (key j)=decide (κ i<κ j)) (hinj:Inj xs.length κ) :
    wpAny (model X.prog X.w) A (ksk_tree D f false) (fun fin s'=>fin=.done (.ret .none)∧∃ ts H' ys,Pv xs.length ts H'∧H' D=none∧mz κ xs ys∧Inv X pins σ (upd H' D (.lst ys)) s') E s:=by
  have hlen:=rv.length
  unfold ksk_tree
  refine wpAny_bind (listItems_at hD rfl ?_)
  refine wpAny_bind (listUpdate_at hD rfl ?_ (by rw [List.size_toArray,sizeLine_eq];omega) (Nat.zero_le _))
  obtain ⟨e1,ho1⟩:∃ e1,(s.heap.update D (Obj.mapSeq fun _=>(#[]:Array Value))).get? D=some (seqObj "list" #[] e1):=⟨_,get?_update_seq hD fun _=>#[]⟩
  obtain ⟨a0,a1,a2,a3,a4,a5⟩:=fpD H nD
  have I1:Inv X pins σ H { s with heap:=s.heap.update D (Obj.mapSeq fun _=>(#[]:Array Value)) }:=I.turned (t':=s.toks) (fun b o hb e=>(Heap.get?_update_other _ _ (Ne.symm hb)).trans e) a0 a1 a3 a4 a5
  refine wpAny_bind (seqEpoch_at ho1 rfl ?_)
  refine wpAny_bind (wpAny_newTuple ?_ (by show vs.length≤_;rw [sizeLine_eq];omega))
  refine wpAny_bind (wpAny_newList ?_ (Nat.zero_le _))
  refine wpAny_holding ?_
  have I2:Inv X pins σ H { s with heap:=(s.heap.update D (Obj.mapSeq fun _=>(#[]:Array Value))).push (seqObj "tuple" vs.toArray 0) }:=I1.kept (t':=s.toks) fun b o e=>Heap.get?_push_of_some _ e
  have I3:Inv X pins σ H { s with heap:=((s.heap.update D (Obj.mapSeq fun _=>(#[]:Array Value))).push (seqObj "tuple" vs.toArray 0)).push (seqObj "list" #[] 0) }:=I2.kept (t':=s.toks) fun b o e=>Heap.get?_push_of_some _ e
  have fpK:∀ H',H' (((s.heap.update D (Obj.mapSeq fun _=>(#[]:Array Value))).push (seqObj "tuple" vs.toArray 0)).objs.size)=none→uY X pins H' _:=fun H' hn=>I2.yV (Nat.le_refl _) hn
  have nK:H (((s.heap.update D (Obj.mapSeq fun _=>(#[]:Array Value))).push (seqObj "tuple" vs.toArray 0)).objs.size)=none:=I2.hok.fresh (Nat.le_refl _)
  have hDK:D≠((s.heap.update D (Obj.mapSeq fun _=>(#[]:Array Value))).push (seqObj "tuple" vs.toArray 0)).objs.size:=Nat.ne_of_lt (Heap.lt_size (Heap.get?_push_of_some (seqObj "tuple" vs.toArray 0) ho1))
  have hD3:(((s.heap.update D (Obj.mapSeq fun _=>(#[]:Array Value))).push (seqObj "tuple" vs.toArray 0)).push (seqObj "list" #[] 0)).get? D=some (seqObj "list" #[] e1):=Heap.get?_push_of_some _ (Heap.get?_push_of_some _ ho1)
  have hK3:(((s.heap.update D (Obj.mapSeq fun _=>(#[]:Array Value))).push (seqObj "tuple" vs.toArray 0)).push (seqObj "list" #[] 0)).get? (((s.heap.update D (Obj.mapSeq fun _=>(#[]:Array Value))).push (seqObj "tuple" vs.toArray 0)).objs.size)=some (seqObj "list" #[] 0):=Heap.get?_push_size _ rfl
  generalize ((s.heap.update D (Obj.mapSeq fun _=>(#[]:Array Value))).push (seqObj "tuple" vs.toArray 0)).objs.size=kS at fpK nK hDK hK3 ⊢
  generalize hs3:({ s with heap:=((s.heap.update D (Obj.mapSeq fun _=>(#[]:Array Value))).push (seqObj "tuple" vs.toArray 0)).push (seqObj "list" #[] 0) }:Shared)=s3 at I3 ⊢
  have hD3':s3.heap.get? D=some (seqObj "list" #[] e1):=by rw [← hs3];exact hD3
  have hK3':s3.heap.get? kS=some (seqObj "list" #[] 0):=by rw [← hs3];exact hK3
  have I4:Inv X (pins++[(D,seqObj "list" #[] e1)]) σ H s3:=I3.mO (fpD H nD) hD3' (fun v z=>by cases z)
  have fK:∀ H',H' kS=none→uY X (pins++[(D,seqObj "list" #[] e1)]) H' kS:=fun H' hn=>by
    obtain ⟨b0,b1,b2,b3,b4,b5⟩:=fpK H' hn
    refine ⟨b0,b1,b2,b3,b4,fun p hp=>?_⟩
    rcases List.mem_append.mp hp with z | z
    · exact b5 p (List.mem_append_left _ z)
    · rcases List.mem_append.mp z with z | z
      · exact b5 p (List.mem_append_right _ z)
      · have:p=(D,seqObj "list" #[] e1):=by simpa using z
        rw [this];exact hDK
  have I5:=I4.mO (fK H nK) hK3' (fun v z=>by cases z)
  unfold ksk_rest
  refine wpAny_bind (wpAny_rule ?_)
  first
    | rw [List.forIn_toArray]
    | (rw [← Array.forIn_toList];simp only [List.toList_toArray])
    | rw [← Array.forIn_toList]
  refine wpAny_bind (wpAny_mono (sort_keys (E:=E) rv h64 Pv fpD fpK hDK hcall (fun x s' R Q' hx hk=>?_) vs 0 [] 0 s3 H rfl rfl (Nat.zero_le _) I5 p0) (fun _ s4 hd=>?_) fun _ _ x=>x)
  · refine wpAny_bind (wpAny_attempt (wpAny_mono hx (fun k s'' hq=>?_) fun _ _ hF=>hF.elim))
    dsimp only
    refine wpAny_bind (wpAny_mono (hk k s'' hq) (fun _ s5 hq5=>wpAny_pure hq5) fun _ _ x=>x)
  obtain ⟨ts,e',H4,htl,I6,p4⟩:=hd
  have pk:=I6.pin (kS,seqObj "list" (ts.map Value.ref).toArray e') (List.mem_append_right _ (List.mem_append_right _ (by simp)))
  have pD:=I6.pin (D,seqObj "list" #[] e1) (List.mem_append_right _ (List.mem_append_left _ (List.mem_append_right _ (by simp))))
  refine wpAny_bind (listItems_at pk.1 rfl ?_)
  have p4':Pv xs.length ts H4:=by rw [hlen];exact p4
  have I7:Inv X pins σ H4 s4:=I6.iI.iI
  have fin:∀ (st:SortSt) (q:List Nat),(arrOf st).map (·.2)=List.toArray (q.map fun i=>vs.getD i Value.none)→failedOf st=none→(∀ i∈q,i<xs.length)→q.length=xs.length→mz κ xs (q.map fun i=>xs.getD i .non) →
      wpAny (model X.prog X.w) A (ksk_tail D false e1 (.ref kS) st) (fun fin s'=>fin=.done (.ret .none)∧∃ ts H' ys,Pv xs.length ts H'∧H' D=none∧mz κ xs ys∧Inv X pins σ (upd H' D (.lst ys)) s') E s4:=by
    intro st q hout hf hq hql hsb
    unfold ksk_tail
    dsimp only
    refine wpAny_bind (listUpdate_at pk.1 rfl ?_ (by rw [List.size_toArray,List.length_map,sizeLine_eq];omega) (Nat.zero_le _))
    obtain ⟨b0,b1,b2,b3,b4,b5⟩:=fpK H4 pk.2.1
    have I8:Inv X pins σ H4 { s4 with heap:=s4.heap.update kS (Obj.mapSeq fun _=>(#[]:Array Value)) }:=I7.turned (t':=s4.toks) (fun b o hb e=>(Heap.get?_update_other _ _ (Ne.symm hb)).trans e) b0 b1 b3 b4 b5
    have hD8:(s4.heap.update kS (Obj.mapSeq fun _=>(#[]:Array Value))).get? D=some (seqObj "list" #[] e1):=(Heap.get?_update_other _ _ (Ne.symm hDK)).trans pD.1
    refine wpAny_bind (wpAny_letGo ?_)
    refine wpAny_bind (seqEpoch_at hD8 rfl ?_)
    have hsz:(if false=true then ((arrOf st).map (·.2)).reverse else (arrOf st).map (·.2))=List.toArray (q.map fun i=>vs.getD i Value.none):=by rw [if_neg Bool.false_ne_true];exact hout
    refine wpAny_bind (listUpdate_at hD8 rfl ?_ (Nat.zero_le _) (by show (if false=true then ((arrOf st).map (·.2)).reverse else (arrOf st).map (·.2)).size≤_;rw [hsz,List.size_toArray,List.length_map,sizeLine_eq];omega))
    rw [hf]
    simp only [bne_self_eq_false,Bool.false_eq_true,if_false]
    refine wpAny_pure ⟨rfl,ts,H4,_,p4',pD.2.1,hsb,?_⟩
    obtain ⟨c0,c1,c2,c3,c4,c5⟩:=fpD H4 pD.2.1
    have I9:=I8.turned (h':=(s4.heap.update kS (Obj.mapSeq fun _=>(#[]:Array Value))).update D (Obj.mapSeq fun _=>(arrOf st).map (·.2))) (t':=s4.toks) (fun b o hb e=>(Heap.get?_update_other _ _ (Ne.symm hb)).trans e) c0 c1 c3 c4 c5
    obtain ⟨cc,hcc⟩:∃ cc,((s4.heap.update kS (Obj.mapSeq fun _=>(#[]:Array Value))).update D (Obj.mapSeq fun _=>(arrOf st).map (·.2))).get? D=some (seqObj "list" (q.map fun i=>vs.getD i Value.none).toArray cc):=⟨_,by rw [← hout];exact get?_update_seq hD8 fun _=>(arrOf st).map (·.2)⟩
    exact I9.adopt pD.2.1 c1 hfresh c4 c5 ⟨by rw [List.length_map,sizeLine_eq];omega,_,cc,sJ rv q hq,hcc⟩
  have eks:ts.length=xs.length:=by omega
  unfold ksk_end
  dsimp only
  rw [if_neg Bool.false_ne_true]
  by_cases h2:xs.length<2
  · have hs2:vs.toArray.size<2:=by rw [List.size_toArray];omega
    rw [if_pos hs2,if_pos hs2]
    refine wpAny_bind (wpAny_pure ?_)
    refine wpAny_bind ?_
    rw [StateT.run_pure]
    refine wpAny_pure ?_
    dsimp only
    have hr:∀ i∈List.range xs.length,i<xs.length:=fun i hi=>List.mem_range.mp hi
    refine fin _ (List.range xs.length) ?_ rfl hr (List.length_range) ⟨List.range xs.length,List.Perm.refl _,rfl,?_⟩
    · show ((if false=true then ((ts.map Value.ref).toArray.zip vs.toArray).reverse else (ts.map Value.ref).toArray.zip vs.toArray)).map (·.2)=_
      rw [if_neg Bool.false_ne_true]
      apply Array.toList_inj.mp
      rw [Array.toList_map,Array.toList_zip,List.map_snd_zip (by rw [List.toList_toArray,List.toList_toArray,List.length_map];omega)]
      rw [List.toList_toArray]
      apply List.ext_getElem?
      intro j
      rw [List.toList_toArray,List.getElem?_map]
      by_cases hj:j<xs.length
      · rw [List.getElem?_range hj]
        show _=some (vs.getD j Value.none)
        rw [List.getD_eq_getElem?_getD,List.getElem?_eq_getElem (by omega)];rfl
      · rw [List.getElem?_eq_none (by omega),List.getElem?_eq_none (by rw [List.length_range];omega)];rfl
    · match hx:xs.length,h2 with
      | 0,_=>exact List.Pairwise.nil
      | 1,_=>exact List.pairwise_singleton _ _
  · have hs2:¬ vs.toArray.size<2:=by rw [List.size_toArray];omega
    rw [if_neg hs2,if_neg hs2]
    have KK:Keys s4.heap (ts.map Value.ref) key xs.length m:=by
      refine ⟨by rw [List.length_map];exact eks,fun i hi=>?_,hlong⟩
      have hit:i<ts.length:=by omega
      have et:=htup ts H4 p4' i ts[i] (List.getElem?_eq_getElem hit)
      obtain ⟨_,its,r,hT⟩:=I7.hok _ _ et
      exact ⟨ts[i],its,by rw [List.getElem?_map,List.getElem?_eq_getElem hit];rfl,hT,intsAre_of r⟩
    obtain ⟨fs,kt,kl,kv⟩:=KK.tups
    refine wpAny_bind (kat_kind kt (by omega) (fun v hv=>by obtain ⟨a,t,rfl⟩:=kv v hv;exact Looks.of_pure rfl) (T:=.type "int") (by decide) ?_)
    have ett:(Value.type "int" != Value.type "tuple")=true:=by decide
    rw [ett]
    have ez:(if false=true then ((ts.map Value.ref).toArray.zip vs.toArray).reverse else (ts.map Value.ref).toArray.zip vs.toArray)=(ts.map Value.ref).toArray.zip vs.toArray:=by rw [if_neg Bool.false_ne_true]
    rw [ez]
    have hkl:(ts.map Value.ref).length=vs.length:=by rw [List.length_map];omega
    have run:=kat_run (prog:=X.prog) (w:=X.w) (A:=A) (E:=E) (s:=s4) (κ:=tuples' true) (ks:=ts.map Value.ref) (vs:=vs)
      (Q:=fun st' s'=>s'=s4∧∃ p:Array Nat,arrOf st'=p.map (kas_item ((ts.map Value.ref).toArray.zip vs.toArray))∧failedOf st'=none∧Arr xs.length p∧Srt κ p xs.length)
      (G:=fun p s'=>s'=s4∧Arr xs.length p∧Srt κ p xs.length) hkl (by omega) (by omega) (fun p st' s' _ b c ⟨d,a1,a2⟩=>⟨d,p,b,c,a1,a2⟩) (by
        have:=zy (N:=xs.length) (KK.cmp (prog:=X.prog) (w:=X.w) (A:=A) hκ) hinj (by omega) (Q:=fun p s'=>s'=s4∧Arr xs.length p∧Srt κ p xs.length) (s:=s4) rfl fun p s' a b c=>⟨c,a,b⟩
        rw [← hlen]
        exact this)
    refine wpAny_bind (wpAny_mono run ?_ fun _ _ x=>x)
    rintro ⟨⟨⟩,st'⟩ s5 ⟨rfl,p,har,hf,AR,SR⟩
    dsimp only
    refine fin st' p.toList (kat_snds hkl har) hf (fun i hi=>?_) (by rw [Array.length_toList,AR.size]) (zU AR SR)
    exact List.mem_range.mp (AR.perm.mem_iff.mp hi)
end
end L2
namespace L2
open PySem PySem.W PySem.Spec PyProof.Rows
def RZ (X:Cx) (scope:Scope) (qual:Str) (c:Value) (N:List Str) (A:Around) (f:Addr) (s:Shared) (H:Hp):Cx :=
  let env:Env:=envX qual scope s.heap.objs.size f c (clo X.env.cells scope.names [])
  { prog:=X.prog,w:=X.w,K:=X.K,mg:=X.mg,base:=X.base,A:=A.deeper env,N:=N,s₀:=s,H₀:=H,env:=env,outer:=X.stack,stack:=env :: X.stack,ex:=[],fn:=fun x=>((clo X.env.cells scope.names []).lookup x).isNone,calm:=true,pn:=[],xe:=fun _ _=>False }
def rG (x:V) (cap:List (Option Nat)) (σ:St):St:=some x :: (cap.map fun o=>o.bind fun j=>(σ[j]?).bind id)
def RX (scope:Scope) (p:Str) (N N':List Str) (cap:List (Option Nat)):Bool:=(scope.names.lookup p == some .local) && !scope.isCoroutine && !scope.isGenerator && (!N'.contains p) && vV scope N N' cap
section
variable {X:Cx} {pins:List (Addr × Obj)} {σ:St} {H:Hp} {s:Shared} {body:Expr} {scope:Scope} {params:Arguments} {te:TE}
theorem GP (sc:Scope) (hsc:X.env.scope=sc) (N₀:List Str) (hN₀:X.N=N₀) {N':List Str} {cap:List (Option Nat)} {p:Str} (f1:freeOk sc scope=true) (f2:vH scope=true) (f3:RX scope p N₀ N' cap=true)
    {A:Around} {f:Addr} {name qual:Str} {c pm ctv:Value} {x:V} {u:Value} {Q:VK} (I:Inv X pins σ H s) (hA:A.frames=some X.stack) (hd:A.handled=none) (hroom:A.depth<recursionLimit)
    (hf:(f,({ cls:=.type "function",data:=.func (kla_fn name qual params body scope (clo X.env.cells scope.names []) pm c ctv) }:Obj))∈pins) (hcd:s.heap.CodeRec c qual)
    (hbind:bindArgs (kla_fn name qual params body scope (clo X.env.cells scope.names []) pm c ctv) ⟨[u],[]⟩=pure [(p,u)])
    (hb:PE (RZ X scope qual c (p :: N') A f s H) body te) (rx:RelV x u) (h:te (rG x cap σ) H Q) :
    wpAny (model X.prog X.w) A (call (.ref f) [u]) (fun k s2=>∃ v H2,RelV v k∧Inv X pins σ H2 s2∧Q v H2) (fun _ _=>False) s:=by
  have ok:=I.ok
  have fr:∀ y∈scope.names,y.2=.free→X.env.kindOf y.1=some .cell∨X.env.kindOf y.1=some .free:=fun y hy e=>by
    have q:=List.all_eq_true.mp f1 y hy
    rw [e] at q
    have q':((sc.names.lookup y.1 == some NameKind.cell) || (sc.names.lookup y.1 == some NameKind.free))=true:=by simpa using q
    rw [Bool.or_eq_true] at q'
    unfold Env.kindOf
    rw [hsc]
    rcases q' with z | z
    · exact .inl (by simpa using z)
    · exact .inr (by simpa using z)
  obtain ⟨⟨k1,k2⟩,k3⟩:((scope.kind == .function)=true∧(scope.names.all fun y=>y.2 != .cell)=true)∧(scope.names.all fun y=>y.2 != .local || scope.names.lookup y.1 == some .local)=true:=by
    unfold vH at f2
    rw [Bool.and_eq_true,Bool.and_eq_true] at f2
    exact f2
  have hkind:scope.kind=.function:=by simpa using k1
  have hcell:∀ y∈scope.names,y.2≠.cell:=fun y hy=>by
    have q:=List.all_eq_true.mp k2 y hy
    simpa using q
  obtain ⟨⟨⟨⟨g1,g2⟩,g3⟩,g4⟩,g5⟩:((((scope.names.lookup p == some .local)=true∧(!scope.isCoroutine)=true)∧(!scope.isGenerator)=true)∧(!N'.contains p)=true)∧vV scope N₀ N' cap=true:=by
    unfold RX at f3
    rw [Bool.and_eq_true,Bool.and_eq_true,Bool.and_eq_true,Bool.and_eq_true] at f3
    exact f3
  have hploc:scope.names.lookup p=some .local:=by simpa using g1
  have clX:∀ x c,(clo X.env.cells scope.names []).lookup x=some c→X.env.cells.lookup x=some c:=fun x c e=>by
    have e1:=Eb e
    have hx:(x,NameKind.free)∈scope.names:=by
      rcases rT [] (PySem.mem_of_lookup e) with z | z
      · exact nomatch z
      · exact z
    obtain ⟨c',e2⟩:=ok.has x (fr (x,.free) hx rfl)
    rw [e2] at e1 ⊢
    rw [e1];rfl
  have pf:=I.pin _ (List.mem_append_right _ hf)
  refine wpAny_call (kla_callFunE hroom pf.1 rfl (by simpa using g2) (by simpa using g3) rfl hcd ?_)
  rw [hbind]
  refine wpAny_pure ?_
  refine wpAny_newFunctionEnv hcell (fun y hy=>?_) (fun h4 hns hsb=>?_) hkind
  · have:y=(p,u):=by simpa using hy
    rw [this];exact hploc
  have kp4:∀ b o,s.heap.get? b=some o→h4.get? b=some o:=fun b o e=>hsb.extBut b o (Nat.ne_of_lt (Heap.lt_size e)) (Heap.get?_push_of_some _ e)
  refine ⟨I.nolimit.keeps kp4,kla_codeExpr ?_⟩
  let Z:Cx:=RZ X scope qual c (p :: N') A f s H
  have okZ:Z.Ok:=by
    refine ⟨ok.mod,hkind,rfl,rfl,Nat.le_refl _,?_,?_,?_,fun _=>hd,Around.frames_deeper hA,.inr ⟨rfl,rfl⟩,?_,?_,?_,?_,?_,?_,?_⟩
    · exact fun x y c h1 h2=>ok.inj x y c (clX x c h1) (clX y c h2)
    · intro x hx
      have hx':scope.names.lookup x=some .cell∨scope.names.lookup x=some .free:=hx
      rcases hx' with z | z
      · exact absurd rfl (hcell _ (PySem.mem_of_lookup z))
      · exact Option.isSome_iff_exists.mp (pC scope.names [] x (PySem.mem_of_lookup z))
    · intro x c hx h1
      have hx':((clo X.env.cells scope.names []).lookup x).isNone=true:=hx
      have h1':(clo X.env.cells scope.names []).lookup x=some c:=h1
      rw [h1'] at hx';cases hx'
    · exact fun b hb=>absurd (show b∈([]:List Addr) from hb) (by simp)
    · exact fun b o e=>I.bs b o e
    · exact Nat.le_trans ok.bsz I.sz
    · exact fun b o e hb=>absurd (show b∈([]:List Addr) from hb) (by simp)
    · exact fun b hb=>absurd (show b∈([]:List Addr) from hb) (by simp)
    · exact I.stack
    · exact I.qQ
  have capl:cap.length=N'.length∧∀ p∈N'.zip cap,(match p.2 with | none=>true | some j=>N₀[j]? == some p.1 && scope.names.lookup p.1 == some .free)=true:=by
    unfold vV at g5
    rw [Bool.and_eq_true] at g5
    exact ⟨by simpa using g5.1,fun p hp=>List.all_eq_true.mp g5.2 p hp⟩
  have IZ:Inv Z [] (rG x cap σ) H { s with heap:=h4,toks:=s.toks + [(p,u)].length }:=by
    refine ⟨okZ,rfl,I.bare,Un.kept kp4,⟨_,hns,?_⟩,?_,?_,?_,fun p hp=>absurd (show p∈([]:List (Addr × Obj)) from hp) (by simp),I.hok.kept kp4,?_⟩
    · intro i y v e1 e2 e3
      cases i with
      | zero =>
        have e1':p=y:=by
          have e1'':(p :: N')[0]?=some y:=e1
          simpa using e1''
        have e2':x=v:=by
          have e2'':(rG x cap σ)[0]?=some (some v):=e2
          simpa [rG] using e2''
        subst e1' e2'
        exact ⟨u,rx,.inl ⟨hploc,by simp [List.lookup]⟩⟩
      | succ i =>
        have e1':N'[i]?=some y:=by
          have e1'':(p :: N')[i + 1]?=some y:=e1
          simpa using e1''
        have e2':(cap.map fun o=>o.bind fun j=>(σ[j]?).bind id)[i]?=some (some v):=by
          have e2'':(rG x cap σ)[i + 1]?=some (some v):=e2
          simpa [rG] using e2''
        rw [List.getElem?_map] at e2'
        cases ec:cap[i]? with
        | none=>rw [ec] at e2';cases e2'
        | some o =>
          rw [ec] at e2'
          cases o with
          | none=>cases e2'
          | some j =>
            have e3':(σ[j]?).bind id=some v:=by simpa using e2'
            have hz:(y,some j)∈N'.zip cap:=by
              refine List.mem_of_getElem? (i:=i) ?_
              rw [List.getElem?_zip_eq_some]
              exact ⟨e1',ec⟩
            have q:=capl.2 _ hz
            have q':(N₀[j]? == some y)=true∧(scope.names.lookup y == some NameKind.free)=true:=by simpa [Bool.and_eq_true] using q
            have q1:X.N[j]?=some y:=by rw [hN₀];simpa using q'.1
            have q2:scope.names.lookup y=some .free:=by simpa using q'.2
            have eσ:σ[j]?=some (some v):=by
              cases z:σ[j]? with
              | none=>rw [z] at e3';cases e3'
              | some y' =>
                rw [z] at e3'
                have:y'=some v:=e3'
                rw [this]
            have hk:=fr (y,.free) (PySem.mem_of_lookup q2) rfl
            obtain ⟨m,hn,hl⟩:=I.loc
            have vis:Vis X.env.scope y:=by
              rcases hk with z | z
              · exact .inr (.inl z)
              · exact .inr (.inr z)
            obtain ⟨u',r,l⟩:=hl j y v q1 eσ vis
            refine ⟨u',r,.inr ⟨.inr q2,?_⟩⟩
            rcases l with ⟨kl,_⟩ | ⟨_,c,ecx,hcx⟩
            · rcases hk with z | z
              · have z':X.env.kindOf y=some .cell:=z
                rw [kl] at z';cases z'
              · have z':X.env.kindOf y=some .free:=z
                rw [kl] at z';cases z'
            · have hh:=pC (cells:=X.env.cells) scope.names [] y (PySem.mem_of_lookup q2)
              obtain ⟨c',ec'⟩:=Option.isSome_iff_exists.mp hh
              have ec2:=clX y c' ec'
              rw [ecx] at ec2
              cases ec2
              exact ⟨c,ec',hcx.keeps kp4⟩
    · intro y c e
      obtain ⟨v,z⟩:=I.cell y c (clX y c e)
      exact ⟨v,z.keeps kp4⟩
    · exact I.hok.fresh (Nat.le_refl _)
    · exact fun y c e=>I.freeC y c (clX y c e)
    · show (rG x cap σ).length=(p :: N').length
      unfold rG
      rw [List.length_cons,List.length_cons,List.length_map,capl.1]
  refine wpAny_mono (hb [] _ _ H Q IZ h) (fun v s2 ⟨vv,H2,J,rv,q⟩=>?_) fun _ _ z=>z.elim
  refine ⟨vv,H2,rv,?_,q⟩
  have un:Un (frs X.stack) [] H H2 s.heap s2.heap:=J.base
  exact I.call' J.os un J.hok J.bare fun b hb=>absurd hb (by simp)
end
end L2
namespace L2
open PySem PySem.W PySem.Spec PyProof.Rows
section
variable {X:Cx} {pins:List (Addr × Obj)} {σ:St} {H:Hp} {s:Shared}
theorem Inv.grow {P:Addr} {ps more:Array Value} {h':Heap} {t':Nat} (I:Inv X pins σ H s) (hP:H P=some (.tbl ps)) (hx:Heap.ExtBut P s.heap h') (hP':h'.get? P=some { cls:=.none,data:=.fields (ps++more) }) :
    Inv X pins σ (upd H P (.tbl (ps++more))) { s with heap:=h',toks:=t' }:=by
  have ne:∀ b,H b=none→b≠P:=fun b n z=>by rw [z,hP] at n;cases n
  have hL:X.env.locals≠P:=ne _ I.free
  refine I.step (g':=s.gens) (d':=s.drawn) (ch:=[]) (fun _ z=>nomatch z) (fun b o _ _ _ e n=>hx b o (ne b n) e) (fun b o _ _ _ e n=>⟨o.slots,hx b o (ne b n) e⟩) (fun b o _ _ n=>by rw [aN (ne b n)];exact n) (fun b o _ e=>?_) (fun b xs e=>?_) (fun b ob u e=>?_) (fun b qs e=>?_) (fun m hm=>?_) (fun b u e=>?_) I.bare
  · by_cases hb:b=P
    · subst hb;exact ⟨_,hP'⟩
    · exact ⟨o,hx b o hb e⟩
  · rw [aN (fun z=>by rw [z,hP] at e;cases e)];exact e
  · rw [aN (fun z=>by rw [z,hP] at e;cases e)];exact e
  · by_cases hb:b=P
    · subst hb
      rw [hP] at e;cases e
      exact ⟨more,by rw [bB]⟩
    · exact ⟨#[],by rw [aN hb,e];simp⟩
  · exact hm.extBut hx hL
  · by_cases hb:b=P
    · subst hb;rw [bB] at e;cases e;exact hP'
    · rw [aN hb] at e
      refine (I.hok b u e).stay (fun c v hc q=>hx c v ?_ q) (fun c q=>by rw [aN (fun z=>by rw [z,hP] at q;cases q)];exact q) fun c xs q=>by rw [aN (fun z=>by rw [z,hP] at q;cases q)];exact q
      rcases hc with z | z
      · rw [z];exact hb
      · intro w;rw [w,hP] at z;cases z
def TabOk (P:Addr) (pos:Pos) (qual:Str) (H:Hp):Prop:=H P=some (.tbl #[])∨∃ c':Addr,H P=some (.tbl #[rawInt pos.line,rawInt pos.col,.ref c'])∧H c'=some (.ext fun h=>h.CodeRec (.ref c') qual)
def BM (mg:Str→Option Value) (base:Heap):Prop:=∃ bm ob,mg "__builtins__"=some (.ref bm)∧bm≠builtinsNs∧bm≠mainGlobals∧base.get? bm=some ob∧ob.cls=.type "module"∧ob.dict=some builtinsNs∧ob.data=.plain
theorem GK {P c:Addr} {params:Arguments} {body:Expr} {scope:Scope} {pos:Pos} {Q:Value→Shared→Prop} {E:Value→Shared→Prop} {A:Around} (sc:Scope) (hsc:X.env.scope=sc) (f1:freeOk sc scope=true) (I:Inv X pins σ H s) (hbm:BM X.mg X.base) (hcode:X.env.code=.ref c)
    (hhd:codeHdIn X.K c P=true) (hT:TabOk P pos (X.env.qual++"<lambda>") H) (hdef:defaultsOf params X.env=([],[]))
    (h:∀ (f:Addr) (H':Hp) (s':Shared) (c':Addr) (pm ctv:Value),(∀ b o,H b=some o→b≠P→H' b=some o)→(∀ b,H' b=none→H b=none)→TabOk P pos (X.env.qual++"<lambda>") H'→H' c'=some (.ext fun h=>h.CodeRec (.ref c') (X.env.qual++"<lambda>")) →
      Inv X (pins++[(f,({ cls:=.type "function",data:=.func (kla_fn "<lambda>" (X.env.qual++"<lambda>") params body scope (clo X.env.cells scope.names []) pm (.ref c') ctv) }:Obj))]) σ H' s'→Q (.ref f) s') :
    wpAny (model X.prog X.w) A (eval (.Lambda params body scope pos) X.env) Q E s:=by
  have ok:=I.ok
  have fr:∀ y∈scope.names,y.2=.free→X.env.kindOf y.1=some .cell∨X.env.kindOf y.1=some .free:=fun y hy e=>by
    have q:=List.all_eq_true.mp f1 y hy
    rw [e] at q
    have q':((sc.names.lookup y.1 == some NameKind.cell) || (sc.names.lookup y.1 == some NameKind.free))=true:=by simpa using q
    rw [Bool.or_eq_true] at q'
    unfold Env.kindOf
    rw [hsc]
    rcases q' with z | z
    · exact .inl (by simpa using z)
    · exact .inr (by simpa using z)
  have hclos:closureFor scope X.env=pure (clo X.env.cells scope.names []):=kJ fun y hy e=>ok.has y.1 (fr y hy e)
  have hg:s.heap.Ns mainGlobals X.mg:=I.mod.glob.keeps I.bk
  have C:CodeHd s.heap c P:=codeHd_of_K I.kIn hhd
  obtain ⟨bm,ob,b1,b2,b3,b4,b5,b6,b7⟩:=hbm
  have hbmP:∀ ps,H P=some (.tbl ps)→bm≠P:=fun ps e z=>by
    have:=(I.bs bm ob b4).2
    rw [z,e] at this;cases this
  have hB:∀ ps,H P=some (.tbl ps)→s.heap.BuiltinsAt X.mg P:=fun ps e=>⟨bm,ob,b1,b2,b3,hbmP ps e,I.bk bm ob b4,b5,b6,b7⟩
  refine kla_eval hdef ?_
  rcases hT with hT | ⟨c',hT,hc'⟩
  · have hPo:s.heap.get? P=some (tabObj #[]):=I.hok P _ hT
    have hgP:mainGlobals≠P:=fun q=>by
      obtain ⟨o,es,ep,e,hd,_⟩:=id hg
      rw [q,hPo] at e;cases e;cases hd
    refine kla_makeFunction (mg:=X.mg) hclos ok.glob hg hcode C hPo trivial rfl hgP (hB _ hT) fun c' ctv h' tk hx hge hlt hrec htb=>?_
    have hPlt:P<s.heap.objs.size:=Heap.lt_size hPo
    have I1:Inv X pins σ (upd H P (.tbl (#[]++#[rawInt pos.line,rawInt pos.col,.ref c']))) { s with heap:=h',toks:=tk }:=I.grow hT hx htb
    have nc':H c'=none:=I.hok.fresh hge
    have hcP:c'≠P:=fun z=>by rw [z] at hge;exact absurd hPlt (Nat.not_lt.mpr hge)
    have nc1:(upd H P (.tbl (#[]++#[rawInt pos.line,rawInt pos.col,.ref c']))) c'=none:=by rw [aN hcP];exact nc'
    obtain ⟨q0,q1,q2,q3,q4,q5⟩:=I.yV (H':=H) hge nc'
    have hs0:X.s₀.heap.objs.size≤c':=Nat.le_trans I.sz hge
    have I2:=I1.adopt (a:=c') (o:=.ext fun h=>h.CodeRec (.ref c') (X.env.qual++"<lambda>")) nc1 q1 hs0 q4 q5
      ⟨hrec,by obtain ⟨cc,o,vs,t,e1,e2,_⟩:=hrec;cases e1;exact ⟨o,e2⟩,fun h1 h2 x k=>x.at k⟩
    have I3:=I2.kept (h':=h'.push (kla_obj "<lambda>" (X.env.qual++"<lambda>") params body scope (clo X.env.cells scope.names []) ((X.mg "__name__").getD .none) c' ctv)) (t':=tk) fun b o e=>Heap.get?_push_of_some _ e
    have nf:(upd (upd H P (.tbl (#[]++#[rawInt pos.line,rawInt pos.col,.ref c']))) c' (.ext fun h=>h.CodeRec (.ref c') (X.env.qual++"<lambda>"))) h'.objs.size=none:=I2.hok.fresh (Nat.le_refl _)
    have I4:=I3.mO (I2.yV (Nat.le_refl _) nf) (Heap.get?_push_size _ rfl) (fun v z=>by cases z)
    refine h _ _ _ c' _ ctv (fun b o e hb=>?_) (fun b e=>?_) (.inr ⟨c',?_,bB⟩) bB I4
    · rw [aN (bD e nc'),aN hb];exact e
    · cases z:H b with
      | none=>rfl
      | some o =>
        by_cases hb:b=P
        · rw [hb,aN hcP.symm,bB] at e;cases e
        · rw [aN (bD z nc'),aN hb,z] at e;cases e
    · rw [aN hcP.symm,bB];simp
  · have hPo:s.heap.get? P=some (tabObj #[rawInt pos.line,rawInt pos.col,.ref c']):=I.hok P _ hT
    have hfnd:codeAmong pos (#[rawInt pos.line,rawInt pos.col,.ref c']:Array Value).toList=some (.ref c'):=by simp [codeAmong,rawInt]
    refine kla_makeFunctionHit (mg:=X.mg) hclos ok.glob hg hcode C hPo trivial hfnd (hB _ hT) fun ctv h' tk hk hsz=>?_
    have I1:Inv X pins σ H { s with heap:=h',toks:=tk }:=I.kept hk
    have I3:=I1.kept (h':=h'.push ({ cls:=.type "function",data:=.func (kla_fn "<lambda>" (X.env.qual++"<lambda>") params body scope (clo X.env.cells scope.names []) ((X.mg "__name__").getD .none) (.ref c') ctv) }:Obj)) (t':=tk) fun b o e=>Heap.get?_push_of_some _ e
    have nf:H h'.objs.size=none:=I1.hok.fresh (Nat.le_refl _)
    have I4:=I3.mO (I1.yV (Nat.le_refl _) nf) (Heap.get?_push_size _ rfl) (fun v z=>by cases z)
    exact h _ _ _ c' _ ctv (fun b o e _=>e) (fun b e=>e) (.inr ⟨c',hT,hc'⟩) hc' I4
end
end L2
namespace L2
open PySem PySem.W PySem.Spec PyProof.Rows
def gH (n:Nat):List V:=(List.range n).map fun (i:Nat)=>V.int (i:Int)
def Fy (P:Addr) (lpos:Pos) (qual:Str) (cap:List (Option Nat)) (ta:TA) (te:TE):TE:=fun σ H Q=>ta σ H fun vs H1=>∃ n:Nat,vs=[.int (n:Int)]∧n<64∧TabOk P lpos qual H1 ∧
  ∀ H2,(∀ b o,H1 b=some o→b≠P→H2 b=some o)→(∀ b,H2 b=none→H1 b=none)→TabOk P lpos qual H2 →
    ∃ (Pv:Nat→List Addr→Hp→Prop) (key:Nat→List Int) (κ:Nat→Int) (m:Nat),Pv 0 [] H2∧(∀ i ts H3,i<n→Pv i ts H3→(∀ c',H2 c'=some (.ext fun h=>h.CodeRec (.ref c') qual)→H3 c'=some (.ext fun h=>h.CodeRec (.ref c') qual))∧te (rG (.int (i:Int)) cap σ) H3 fun v H4=>∃ t,v=.ref t∧Pv (i + 1) (ts++[t]) H4) ∧
      (∀ ts H3,Pv n ts H3→∀ i t,ts[i]?=some t→H3 t=some (.tup ((key i).map V.int)))∧(∀ i,i<n→(key i).length=m + 1)∧(∀ i j,i<n→j<n→HT.lexLt (key i) (key j)=decide (κ i<κ j))∧Inj n κ ∧
      ∀ ts H3 D ys,Pv n ts H3→H3 D=none→mz κ (gH n) ys→Q (.ref D) (upd H3 D (.lst ys))
section
variable {X:Cx} {e body:Expr} {ta:TA} {te:TE} {params:Arguments} {scope:Scope} {p1 p2 p3 lpos kp pos:Pos}
theorem nA {P c:Addr} {p:Str} (sc:Scope) (hsc:X.env.scope=sc) (N₀:List Str) (hN₀:X.N=N₀) (N':List Str) (cap:List (Option Nat)) (f1:freeOk sc scope=true) (f2:vH scope=true) (f3:RX scope p N₀ N' cap=true)
    (hcalm:X.calm=true) (hbm:BM X.mg X.base) (hcode:X.env.code=.ref c) (hhd:codeHdIn X.K c P=true) (hroom:X.A.depth + 4<recursionLimit)
    (hgs:Gl X "sorted") (hms:X.mg "sorted"=none) (hgr:Gl X "range") (hmr:X.mg "range"=none) (ha:PA X [e] ta)
    (hb:∀ (A:Around) (f:Addr) (cv:Value) (s:Shared) (H:Hp),A.handled=none→A.depth≤X.A.depth + 2→A.units≤X.A.units + 2→PE (RZ X scope (X.env.qual++"<lambda>") cv (p :: N') A f s H) body te)
    (hbind:∀ (pm cv ctv u:Value),bindArgs (kla_fn "<lambda>" (X.env.qual++"<lambda>") params body scope (clo X.env.cells scope.names []) pm cv ctv) ⟨[u],[]⟩=pure [(p,u)])
    (hdef:defaultsOf params X.env=([],[]):=by rfl) (hs:starEach [e] X.env=[(false,eval e X.env)]:=by rfl) :
    PE X (.Call (.Name "sorted" p1) [.Call (.Name "range" p2) [e] [] p3] [⟨some "key",.Lambda params body scope lpos,kp⟩] pos) (Fy P lpos (X.env.qual++"<lambda>") cap ta te):=by
  intro pins s σ H Q I h
  refine wpAny_Call_Name_kw (jd I hgs hms boot_sorted ?_)
  refine callWith_kw ?_
  show wpAny _ _ (spliced ((false,eval (.Call (.Name "range" p2) [e] [] p3) X.env) :: [])) _ _ s
  refine Calls.spliced_cons (Call_ (jd I hgr hmr boot_range (PyProof.Rows.callWith_type1 (thn (ha p3 pins s σ H _ I h) fun us s1 ⟨vs,H1,I1,r1,q1⟩=>?_) hs rfl)))
  obtain ⟨n,e1,hn,hT,q⟩:=q1
  subst e1
  obtain ⟨u,rfl,t,rfl⟩:=vals1 r1
  refine call_range_1 ?_
  refine Calls.spliced_nil ?_
  generalize hro:({ cls:=.type "range",data:=.fields #[.int 0 s1.toks,.int (n:Int) t,.int 1 (s1.toks + 1)] }:Obj)=ro
  have hrd:∀ v,ro.data≠.cell v:=fun v z=>by rw [← hro] at z;cases z
  have I2:Inv X pins σ H1 { s1 with heap:=s1.heap.push ro,toks:=s1.toks + 1 + 1 }:=I1.kept fun b o e=>Heap.get?_push_of_some _ e
  have nr:H1 s1.heap.objs.size=none:=I1.hok.fresh (Nat.le_refl _)
  have I3:=I2.mO (I1.yV (Nat.le_refl _) nr) (Heap.get?_push_size _ (by rw [← hro];rfl)) hrd
  generalize ({ s1 with heap:=s1.heap.push ro,toks:=s1.toks + 1 + 1 }:Shared)=s2 at I3 ⊢
  generalize s1.heap.objs.size=r at I3 ⊢
  refine kws_cons (GK (P:=P) (c:=c) sc hsc f1 I3 hbm hcode hhd hT hdef fun f H2 s3 c' pm ctv k1 k2 hT2 hc' I4=>?_)
  refine kws_nil ?_
  show wpAny _ _ (call (.builtin "sorted") [.ref r] [(Str.ofString "key",.ref f)]) _ _ s3
  obtain ⟨Pv,key,κ,m,p0,step,htup,hlong,hκ,hinj,fin⟩:=q H2 k1 k2 hT2
  refine call_function_entry_kw kind_sorted plain_sorted entry_sorted (ksk_s1 _ _) ?_
  unfold Builtin.«sorted»
  refine wpAny_bind (m:=checkCount "sorted" 1 1 _) (wpAny_pure ?_)
  have pr:=I4.pin (r,ro) (List.mem_append_right _ (List.mem_append_left _ (List.mem_append_right _ (by simp))))
  have hR:IsRange s3.heap r 0 (n:Int) 1 s1.toks t (s1.toks + 1):=by
    show s3.heap.get? r=_
    rw [pr.1,← hro]
  have hrs:Builtin.Range.rangeSize 0 (n:Int) 1=(n:Nat):=by rw [rangeSize_one];split <;> omega
  refine wpAny_bind (rR (A:=X.A.in1) (I.ok.hd hcalm) hR (small_one (by omega) (by omega) (by omega) (by omega)) hrs (by omega) fun h' tk vs hk rv=>?_)
  have I5:Inv X _ σ H2 { s3 with heap:=h',toks:=tk }:=I4.kept hk
  have hlen:=rv.length
  rw [List.length_map,List.length_range] at hlen
  refine wpAny_bind (wpAny_newList ?_ (by rw [sizeLine_eq];omega))
  have nD:H2 h'.objs.size=none:=I5.hok.fresh (Nat.le_refl _)
  have I6:Inv X _ σ H2 { s3 with heap:=h'.push (seqObj "list" vs.toArray 0),toks:=tk }:=I5.kept (t':=tk) fun b o e=>Heap.get?_push_of_some _ e
  have hD6:(h'.push (seqObj "list" vs.toArray 0)).get? h'.objs.size=some (seqObj "list" vs.toArray 0):=Heap.get?_push_size _ rfl
  have hxl:((List.range n).map fun (i:Nat)=>V.int (i:Int)).length=n:=by simp
  refine wpAny_bind (wpAny_holding (wpAny_call_entry_kw slot_list_sort ⟨_,hD6,rfl⟩ entry_list_sort ?body (ksk_l1 _ _)))
  show wpAny (model X.prog X.w) X.A.in1.in1 (Builtin.«list.sort» ⟨[.ref h'.objs.size],[(Str.ofString "key",.ref f)]⟩) _ _ _
  rw [ksk_t1]
  refine wpAny_mono (zV (X:=X) (A:=X.A.in1.in1) (s:={ s3 with heap:=h'.push (seqObj "list" vs.toArray 0),toks:=tk }) (xs:=gH n) (key:=key) (κ:=κ) (m:=m) (n0:=0) rv (by show ((List.range n).map _).length<64;rw [hxl];exact hn) Pv I6 hD6
    (fun H' hn'=>I5.yV (Nat.le_refl _) hn') nD (Nat.le_trans I5.sz (Nat.le_refl _)) p0 ?call ?tup ?long ?kap ?inj) ?_ fun _ _ x=>x
  case call =>
    intro i x u ts pins' s' H' hx rx I' hsub pv
    obtain ⟨hi,ex⟩:i<n∧x=V.int (i:Int):=by
      have hx':((List.range n).map fun (i:Nat)=>V.int (i:Int))[i]?=some x:=hx
      rw [List.getElem?_map] at hx'
      by_cases hi:i<n
      · rw [List.getElem?_range hi] at hx'
        exact ⟨hi,(Option.some.inj hx').symm⟩
      · rw [List.getElem?_eq_none (by rw [List.length_range];omega)] at hx';cases hx'
    subst ex
    obtain ⟨hkc,ht⟩:=step i ts H' hi pv
    have hcr:s'.heap.CodeRec (.ref c') (X.env.qual++"<lambda>"):=(I'.hok c' _ (hkc c' hc')).1
    refine wpAny_mono (GP (X:=X) (A:=X.A.in1.in1) sc hsc N₀ hN₀ f1 f2 f3 I' I.ok.frames (I.ok.hd hcalm) (by show X.A.depth<recursionLimit;omega) (hsub _ (List.mem_append_right _ List.mem_cons_self)) hcr (hbind _ _ _ _)
      (hb _ f _ s' H' (I.ok.hd hcalm) (by show X.A.depth≤X.A.depth + 2;omega) (by show X.A.units + 1 + 1≤X.A.units + 2;omega)) rx ht) (fun k s2 ⟨v,H3,rv',I7,t',ev,pv'⟩=>?_) fun _ _ x=>x
    subst ev
    have ek:k=.ref t':=rv'
    exact ⟨t',H3,ek,I7,pv'⟩
  case tup =>
    intro ts H' pv
    have pv':Pv n ts H':=by
      have:Pv ((List.range n).map fun (i:Nat)=>V.int (i:Int)).length ts H':=pv
      rw [hxl] at this;exact this
    exact htup ts H' pv'
  case long =>
    intro i hi
    have hi':i<((List.range n).map fun (i:Nat)=>V.int (i:Int)).length:=hi
    rw [hxl] at hi'
    exact hlong i hi'
  case kap =>
    intro i j hi hj
    have hi':i<((List.range n).map fun (i:Nat)=>V.int (i:Int)).length:=hi
    have hj':j<((List.range n).map fun (i:Nat)=>V.int (i:Int)).length:=hj
    rw [hxl] at hi' hj'
    exact hκ i j hi' hj'
  case inj =>
    have:(gH n).length=n:=hxl
    rw [this];exact hinj
  rintro fin' s8 ⟨rfl,ts,H8,ys,pv,nD8,hsb,I8⟩
  refine ⟨_,rfl,wpAny_pure ⟨_,rfl,?_⟩⟩
  have pv':Pv n ts H8:=by
    have e':(gH n).length=n:=hxl
    rw [e'] at pv;exact pv
  exact ⟨.ref h'.objs.size,_,I8.iI.iI,rfl,fin ts H8 _ ys pv' nD8 hsb⟩
end
end L2
namespace L2
open PySem PySem.W PySem.Spec PyProof.Rows
def T6 (ts:List Addr) (H:Hp):Prop:=∀ b,H b=none∨(∃ o xs,H b=some (.frz o (.lst xs)))∨(b∈ts∧H b=some (.tbl #[]))
theorem Br {P:Program} {w:World} {K:PySem.W.Frag} {mg mb:Str→Option Value} {CX:CXT} {k:Nat} {fa a:Addr} {fd:FuncData} {x:Str} {sp:Sp} {s₁:Shared} {vs:List Value} {ns:List Int} {ts:List Addr}
    (KX:K.In s₁.heap) (hns:s₁.heap.Ns mainGlobals mg) (hb:s₁.heap.Ns builtinsNs mb) (hbb:∀ x:Str,x≠"__name__"→mb x=bootBuiltins x) (hlim:s₁.heap.NoLimit) (hg:s₁.gens=#[])
    (ha:s₁.heap.get? a=some { cls:=.type "list",data:=.seq vs.toArray }) (hi:IntsAre vs ns) (hl:ns.length≤sizeLine) (hr:pI k callerA)
    (hts:∀ P∈ts,s₁.heap.get? P=some (tabObj #[])) (htk:∀ P∈ts,K.lookup P=none) (htc:∀ P∈ts,isCodeTable s₁.heap P)
    (hbm:∃ bm ob,mg "__builtins__"=some (.ref bm)∧bm≠builtinsNs∧s₁.heap.get? bm=some ob∧ob.cls=.type "module"∧ob.dict=some builtinsNs∧ob.data=.plain)
    (F:∀ base:Heap,K.In base→base.Ns mainGlobals mg→BM mg base→bT P w K mg base CX k fa fd [x] sp) (hbind:∀ (s:Shared) (u:Value),BindsTo s fd ⟨[u],[]⟩ [(x,u)])
    (hsp:∀ H:Hp,T6 ts H→(∀ P∈ts,H P=some (.tbl #[]))→SqL K H a (ns.map V.int)→sp [.ref a] H (fun v _=>v=.bl true) fun _ _ _=>False)
    (hCX:∀ H e s',CX [] H s₁ (fun _ _ _=>False) e s'→False) :
    codeAny (model P w) callerA (.call (.ref fa) ⟨[.ref a],[]⟩) (fun r s'=>r=.ok (.ret (.bool true))∧OldK s₁.heap s'.heap∧s'.os=s₁.os∧AllBare s'.gens) s₁:=by
  have rv:=nY hi
  have lenV:=hi.length
  have haT:a ∉ ts:=fun z=>by have:=hts a z;rw [ha] at this;cases this
  have core:∀ H:Hp,T6 ts H→(∀ P∈ts,H P=some (.tbl #[]))→SqL K H a (ns.map V.int)→HOk P w H s₁.heap→(∀ b,H b≠none→b=a∨b∈ts)→(H a≠none→K.lookup a=none) →
      codeAny (model P w) callerA (.call (.ref fa) ⟨[.ref a],[]⟩) (fun r s'=>r=.ok (.ret (.bool true))∧OldK s₁.heap s'.heap∧s'.os=s₁.os∧AllBare s'.gens) s₁:=by
    intro H hO hTb hS hok hA hK
    have base_of:∀ {b:Addr} {o:Obj},s₁.heap.get? b=some o→H b=none→(Fb s₁.heap H).get? b=some o:=fun e n=>Hf e n
    have noA:∀ {b:Addr} {o:Obj},s₁.heap.get? b=some o→(∀ xs n,o.data≠.seq xs n)→(∀ ps,o.data≠.fields ps)→H b=none:=fun {b o} e d1 d2=>by
      cases q:H b with
      | none=>rfl
      | some u =>
        rcases hA b (by rw [q];simp) with e' | e'
        · subst e'
          rw [ha] at e;cases e
          exact absurd rfl (d1 _ _)
        · have:=hts b e'
          rw [e] at this;cases this
          exact absurd rfl (d2 _)
    have nsK:∀ {b:Addr} {m:Str→Option Value},s₁.heap.Ns b m→(Fb s₁.heap H).Ns b m:=fun {b m} ⟨o,es,ep,e,d,r⟩=>⟨o,es,ep,base_of e (noA e (fun _ _ z=>by rw [d] at z;cases z) fun _ z=>by rw [d] at z;cases z),d,r⟩
    have hKb:K.In (Fb s₁.heap H):=fun b o e=>base_of (KX b o e) (by
      cases q:H b with
      | none=>rfl
      | some u =>
        rcases hA b (by rw [q];simp) with e' | e'
        · subst e'
          rw [hK (by rw [q];simp)] at e;cases e
        · rw [htk b e'] at e;cases e)
    have hM:Mod K mg (Fb s₁.heap H):=⟨hKb,nsK hns,⟨mb,nsK hb,hbb⟩,let ⟨mc,h1,h2⟩:=hlim;⟨mc,nsK h1,h2⟩⟩
    have hBM:BM mg (Fb s₁.heap H):=by
      obtain ⟨bm,ob,c1,c2,c3,c4,c5,c6⟩:=hbm
      refine ⟨bm,ob,c1,c2,fun q=>?_,base_of c3 (noA c3 (fun _ _ z=>by rw [c6] at z;cases z) fun _ z=>by rw [c6] at z;cases z),c4,c5,c6⟩
      obtain ⟨o,es,ep,e,hd,_⟩:=id hns
      rw [q,e] at c3;cases c3;rw [hd] at c6;cases c6
    have e0:YW P w K mg (Fb s₁.heap H) callerA [] s₁ H:=⟨rfl,hM,fun b o e=>RL e,Nat.le_of_eq (Dt _ _),trivial,fun b hb=>absurd (show b∈([]:List Addr) from hb) (by simp),hok,.of_eq hg⟩
    refine codeAny_mono ((F _ hKb (nsK hns) hBM).run callerA [] s₁ H ⟨[.ref a],[]⟩ [.ref a] [.ref a] _ _ hr e0 (hbind s₁ (.ref a)) (.cons rfl .nil) (hsp H hO hTb hS)) fun r s' h=>?_
    cases r with
    | error e=>exact (hCX H e s' h).elim
    | ok fl =>
      cases fl with
      | next=>exact False.elim h
      | brk=>exact False.elim h
      | cont=>exact False.elim h
      | ret u =>
        obtain ⟨v,H',os,bare,un,hok',r',q⟩:=h
        have q':v=.bl true:=q
        subst q'
        obtain rfl:u=Value.bool true:=r'
        have old:∀ b o,s₁.heap.get? b=some o→asItWas s₁.heap s'.heap b o:=fun b o e=>by
          rcases hO b with z | ⟨ob,xs,z⟩ | ⟨hbt,z⟩
          · exact .inl (un.keep b o e z (by intro z;exact absurd (show b∈([]:List Addr) from z) (by simp)) (by simp))
          · have z2:=un.frzs b ob _ z
            obtain ⟨e1,_⟩:=hok b _ z
            obtain ⟨e2,_⟩:=hok' b _ z2
            rw [e] at e1;cases e1
            exact .inl e2
          · obtain ⟨more,z2⟩:=un.tbls b #[] z
            have e2:s'.heap.get? b=some { cls:=.none,data:=.fields (#[]++more) }:=hok' b _ z2
            have e3:=hts b hbt
            rw [e] at e3;cases e3
            exact .inr (.inl ⟨htc b hbt,rfl,#[],more,rfl,e2⟩)
        refine ⟨rfl,⟨old,fun b o e=>?_⟩,os,bare⟩
        exact un.there b o e (by simp)
  have tb:∀ b,(if b∈ts then some (HO.tbl #[]) else none)=none∨b∈ts:=fun b=>by
    by_cases h:b∈ts
    · exact .inr h
    · exact .inl (if_neg h)
  cases hk:K.lookup a with
  | some o =>
    have e:=KX a o hk
    rw [ha] at e
    cases e
    refine core (fun b=>if b∈ts then some (.tbl #[]) else none) (fun b=>?_) (fun P hP=>if_pos hP) (.inr ⟨_,vs.toArray,_,hk,rfl,rfl,rfl,by rw [List.size_toArray,lenV];exact hl,by simpa using rv⟩) (fun b u z=>?_) (fun b z=>?_) (fun z=>absurd (if_neg haT) z)
    · by_cases h:b∈ts
      · exact .inr (.inr ⟨h,if_pos h⟩)
      · exact .inl (if_neg h)
    · by_cases h:b∈ts
      · have z':=(if_pos h).symm.trans z
        cases z'
        exact hts b h
      · have z':=(if_neg h).symm.trans z
        cases z'
    · by_cases h:b∈ts
      · exact .inr h
      · exact absurd (if_neg h) z
  | none =>
    refine core (fun b=>if b=a then some (.frz { cls:=.type "list",data:=.seq vs.toArray } (.lst (ns.map V.int))) else if b∈ts then some (.tbl #[]) else none) (fun b=>?_) (fun P hP=>?_) (.inl (.inr ⟨{ cls:=.type "list",data:=.seq vs.toArray },if_pos rfl⟩)) (fun b u z=>?_) (fun b z=>?_) fun _=>hk
    · by_cases hb:b=a
      · exact .inr (.inl ⟨_,_,if_pos hb⟩)
      · by_cases h:b∈ts
        · exact .inr (.inr ⟨h,(if_neg hb).trans (if_pos h)⟩)
        · exact .inl ((if_neg hb).trans (if_neg h))
    · have hb:P≠a:=fun z=>haT (z ▸ hP)
      exact (if_neg hb).trans (if_pos hP)
    · by_cases hb:b=a
      · have z':=(if_pos hb).symm.trans z
        cases z'
        subst hb
        exact ⟨ha,by rw [List.length_map];exact hl,vs,_,rv,ha⟩
      · have z1:=(if_neg hb).symm.trans z
        by_cases h:b∈ts
        · have z':=(if_pos h).symm.trans z1
          cases z'
          exact hts b h
        · have z':=(if_neg h).symm.trans z1
          cases z'
    · by_cases hb:b=a
      · exact .inl hb
      · by_cases h:b∈ts
        · exact .inr h
        · exact absurd ((if_neg hb).trans (if_neg h)) z
theorem Ft {l:PySem.W.OpenLaw} {n k:Nat} {q:Program} {loose:List Str} {XP:(Str→Option Value)→Heap→Prop} {YP:World→Heap→Prop} {d:DefRec} {K:Params→PySem.W.Frag} {CX:World→CXT} {sp:World→Sp} {x:Str} {ts:List Addr}
    (hn:l.most=some n) (hn2:n≤sizeLine) (hdf:d.params.defaults=[]) (hr:pI k callerA)
    (hY:∀ (w:World) (h:Heap),YP w h→(K w.params).In h) (hYt:∀ (w:World) (h:Heap),YP w h→∀ P∈ts,h.get? P=some (tabObj #[]))
    (hts:∀ (w:World),∀ P∈ts,(K w.params).lookup P=none∧∃ c,codeHdIn (K w.params) c P=true)
    (F:∀ (w:World) (mg:Str→Option Value) (fa:Addr) (h:Heap),(K w.params).In h→h.Ns mainGlobals mg→mg d.name=some (.ref fa) →
      ∃ fd:FuncData,(∀ (s:Shared) (u:Value),BindsTo s fd ⟨[u],[]⟩ [(x,u)]) ∧
        ∀ base:Heap,(K w.params).In base→base.Ns mainGlobals mg→BM mg base→bT l.prog w (K w.params) mg base (CX w) k fa fd [x] (sp w))
    (hsp:∀ (w:World) (H:Hp) (a:Addr) (ns:List Int),ns.length≤n→T6 ts H→(∀ P∈ts,H P=some (.tbl #[]))→SqL (K w.params) H a (ns.map V.int)→sp w [.ref a] H (fun v _=>v=.bl true) fun _ _ _=>False)
    (hCX:∀ (w:World) (H:Hp) (s:Shared) (e:Value) (s':Shared),CX w [] H s (fun _ _ _=>False) e s'→False) :
    PySem.W.WalkO q loose XP YP l.row.toRowW d [] (fun f vs=>PySem.call f vs):=by
  refine Att.vW hn hdf fun w s₀ s₁ mg mb fa o pm cd doc a vs ns G Y ho hd hcd hmg hobj hints hlen hg=>?_
  have KX:=hY w _ Y
  obtain ⟨fd,hb,hF⟩:=F w mg fa _ KX G.T.g hmg
  refine Br KX G.T.g G.T.b G.T.builtins G.T.nolimit hg hobj hints (Nat.le_trans hlen hn2) hr (hYt w _ Y) (fun P hP=>(hts w P hP).1) (fun P hP=>?_) G.T.bmain hF hb (fun H hO hT hS=>hsp w H a ns hlen hO hT hS) fun H e s'=>hCX w H s₁ e s'
  obtain ⟨c,hc⟩:=(hts w P hP).2
  obtain ⟨o,vs,file,tf,flags,tg,inF,text,tt,e1,e2,e3,e4,_⟩:=codeHd_of_K KX hc
  exact ⟨c,o,vs,e1,e2,e3,e4⟩
end L2
namespace L2
open PySem PySem.Spec PyProof.Rows
mutual
inductive Den (K:PySem.W.Frag) (H:Hp):V→PyData→Prop
  | non:Den K H .non .none
  | bl (b:Bool):Den K H (.bl b) (.bool b)
  | int (i:Int):Den K H (.int i) (.int i)
  | str (x:Str):Den K H (.str x) (.str x)
  | list {a:Addr} {xs:List V} {ds:List PyData}:SqL K H a xs→dN K H xs ds→Den K H (.ref a) (.list ds)
  | tuple {a:Addr} {xs:List V} {ds:List PyData}:SqT K H a xs→dN K H xs ds→Den K H (.ref a) (.tuple ds)
inductive dN (K:PySem.W.Frag) (H:Hp):List V→List PyData→Prop
  | nil:dN K H [] []
  | cons {v:V} {vs:List V} {d:PyData} {ds:List PyData}:Den K H v d→dN K H vs ds→dN K H (v :: vs) (d :: ds)
end
theorem dN.length {K:PySem.W.Frag} {H:Hp}:∀ {vs:List V} {ds:List PyData},dN K H vs ds→vs.length=ds.length
  | _,_,.nil=>rfl
  | _,_,.cons _ hs=>by rw [List.length_cons,List.length_cons,dN.length hs]
theorem dN.append {K:PySem.W.Frag} {H:Hp}:∀ {vs ws:List V} {ds es:List PyData},dN K H vs ds→dN K H ws es→dN K H (vs++ws) (ds++es)
  | _,_,_,_,.nil,h=>h
  | _,_,_,_,.cons h hs,h'=>.cons h (dN.append hs h')
theorem dN.get {K:PySem.W.Frag} {H:Hp}:∀ {vs:List V} {ds:List PyData} {i:Nat} {d:PyData},dN K H vs ds→ds[i]?=some d→∃ v,vs[i]?=some v∧Den K H v d
  | _,_,_,_,.nil,e=>by simp at e
  | _,_,0,_,.cons h _,e=>by simp at e;subst e;exact ⟨_,rfl,h⟩
  | _,_,i + 1,d,.cons _ hs,e=>by
    obtain ⟨v,h1,h2⟩:=dN.get (i:=i) (d:=d) hs (by simpa using e)
    exact ⟨v,by simpa using h1,h2⟩
theorem dN.get' {K:PySem.W.Frag} {H:Hp}:∀ {vs:List V} {ds:List PyData} {i:Nat} {v:V},dN K H vs ds→vs[i]?=some v→∃ d,ds[i]?=some d∧Den K H v d
  | _,_,_,_,.nil,e=>by simp at e
  | _,_,0,_,.cons h _,e=>by simp at e;subst e;exact ⟨_,rfl,h⟩
  | _,_,i + 1,v,.cons _ hs,e=>by
    obtain ⟨d,h1,h2⟩:=dN.get' (i:=i) (v:=v) hs (by simpa using e)
    exact ⟨d,by simpa using h1,h2⟩
theorem dN.take {K:PySem.W.Frag} {H:Hp}:∀ {vs:List V} {ds:List PyData} (n:Nat),dN K H vs ds→dN K H (vs.take n) (ds.take n)
  | _,_,0,_=>.nil
  | _,_,_ + 1,.nil=>.nil
  | _,_,n + 1,.cons h hs=>.cons h (dN.take n hs)
theorem dN.drop {K:PySem.W.Frag} {H:Hp}:∀ {vs:List V} {ds:List PyData} (n:Nat),dN K H vs ds→dN K H (vs.drop n) (ds.drop n)
  | _,_,0,h=>h
  | _,_,_ + 1,.nil=>.nil
  | _,_,n + 1,.cons _ hs=>dN.drop n hs
theorem dN.ints {K:PySem.W.Frag} {H:Hp}:∀ (ns:List Int),dN K H (ns.map V.int) (ns.map PyData.int)
  | []=>.nil
  | n :: ns=>.cons (.int n) (dN.ints ns)
def jU (ns:List Int):PyData:=.list (ns.map PyData.int)
theorem Den.ints {K:PySem.W.Frag} {H:Hp} {a:Addr} {ns:List Int} (h:SqL K H a (ns.map V.int)):Den K H (.ref a) (jU ns):=.list h (dN.ints ns)
theorem dN.int_inv {K:PySem.W.Frag} {H:Hp}:∀ {vs:List V} {ns:List Int},dN K H vs (ns.map PyData.int)→vs=ns.map V.int
  | _,[],.nil=>rfl
  | _,n :: ns,.cons h hs=>by
    cases h
    rw [dN.int_inv hs];rfl
theorem Den.xu {K:PySem.W.Frag} {H:Hp} {v:V} {ns:List Int} (h:Den K H v (jU ns)):∃ a,v=.ref a∧SqL K H a (ns.map V.int):=by
  cases h with
  | list h hs=>exact ⟨_,rfl,by rw [← dN.int_inv hs];exact h⟩
section
variable {X:Cx} {pins:List (Addr × Obj)} {σ:St} {H:Hp} {s:Shared}
mutual
theorem Den.reads (I:Inv X pins σ H s):∀ {v:V} {d:PyData} {u:Value},Den X.K H v d→RelV v u→∃ as,Reads s.heap u d as
  | _,_,_,.non,r=>by cases r;exact ⟨_,.none⟩
  | _,_,_,.bl b,r=>by cases r;exact ⟨_,.bool b⟩
  | _,_,_,.int i,r=>by obtain ⟨t,rfl⟩:=r;exact ⟨_,.int i t⟩
  | _,_,_,.str x,r=>by obtain ⟨t,rfl⟩:=r;exact ⟨_,.str x t⟩
  | _,_,_,.list h hs,r=>by
    cases r
    obtain ⟨its,r1,⟨o,n,e,c,_,d⟩,_⟩:=I.list h
    obtain ⟨as,q⟩:=dN.reads I hs r1
    exact ⟨_,.list e c d (by simpa using q)⟩
  | _,_,_,.tuple h hs,r=>by
    cases r
    obtain ⟨its,r1,⟨o,e,c,n,d⟩,_⟩:=I.tuple h
    obtain ⟨as,q⟩:=dN.reads I hs r1
    exact ⟨_,.tuple e c d (by simpa using q)⟩
theorem dN.reads (I:Inv X pins σ H s):∀ {vs:List V} {ds:List PyData} {us:List Value},dN X.K H vs ds→Vals vs us→∃ as,ReadsAll s.heap us ds as
  | _,_,_,.nil,r=>by cases r;exact ⟨_,.nil⟩
  | _,_,_,.cons h hs,r=>by
    cases r with
    | cons r1 r2 =>
      obtain ⟨as,q⟩:=Den.reads I h r1
      obtain ⟨bs,q'⟩:=dN.reads I hs r2
      exact ⟨_,.cons q q'⟩
end
def rEqD (K:PySem.W.Frag) (neg:Bool):R2:=fun x y H Q=>∃ d e,Den K H x d∧Den K H y e∧SeqAt.shaped d=true∧SeqAt.shaped e=true∧Q (.bl (if neg then !PyData.eqv d e else PyData.eqv d e)) H
theorem UG (hu:X.A.units + 64<cLine):OpR X (compareOp .NotEq) (rEqD X.K true):=by
  intro pins s σ H x y v u Q I rx ry h
  obtain ⟨d,e,hd,he,sd,se,q⟩:=h
  obtain ⟨as,ra⟩:=hd.reads I rx
  obtain ⟨bs,rb⟩:=he.reads I ry
  exact SeqAt.compareNe_shaped ra rb sd se hu ⟨.bl _,H,I,rfl,q⟩
end
def Sh (n:Nat) (d:PyData):Prop:=d.canLay0=true∧d.depth≤n
theorem Eh:∀ {ds:List PyData},(∀ d∈ds,d.canLay0=true)→PyData.canLayAll0 ds=true
  | [],_=>rfl
  | d :: ds,h=>by rw [PyData.canLayAll0,h d List.mem_cons_self,Eh fun x hx=>h x (List.mem_cons_of_mem _ hx)];rfl
theorem DK {n:Nat}:∀ {ds:List PyData},(∀ d∈ds,d.depth≤n)→PyData.depthAll ds≤n
  | [],_=>by simp [PyData.depthAll]
  | d :: ds,h=>by
    have h1:=h d List.mem_cons_self
    have h2:=DK fun x hx=>h x (List.mem_cons_of_mem _ hx)
    simp only [PyData.depthAll]
    omega
theorem Sh.int (n:Nat) (i:Int):Sh n (.int i):=⟨rfl,by simp [PyData.depth]⟩
theorem Sh.list {n:Nat} {ds:List PyData} (h:∀ d∈ds,Sh n d):Sh (n + 1) (.list ds):=⟨by rw [PyData.canLay0];exact Eh fun d hd=>(h d hd).1,by
  have:=DK fun d hd=>(h d hd).2
  simp only [PyData.depth];omega⟩
theorem Sh.tuple {n:Nat} {ds:List PyData} (h:∀ d∈ds,Sh n d):Sh (n + 1) (.tuple ds):=⟨by rw [PyData.canLay0];exact Eh fun d hd=>(h d hd).1,by
  have:=DK fun d hd=>(h d hd).2
  simp only [PyData.depth];omega⟩
theorem Sh.ints (n:Nat) (ns:List Int):Sh (n + 1) (jU ns):=.list fun d hd=>by
  obtain ⟨i,_,rfl⟩:=List.mem_map.mp hd
  exact .int n i
theorem Sh.ok {n:Nat} {d:PyData} (h:Sh n d) (hn:n≤64):SeqAt.shaped d=true:=by
  unfold SeqAt.shaped
  rw [h.1,decide_eq_true (by have:=h.2;omega)];rfl
theorem Hj {n:Nat} {d:PyData} (h:Sh n d):PyData.eqv d d=true:=SeqAt.eqv_refl d h.1
abbrev gG:=List (Addr × Pos × Str)
def TabsOk (T:gG) (H:Hp):Prop:=∀ t∈T,TabOk t.1 t.2.1 t.2.2 H
structure bf (T:gG) (H H':Hp):Prop where
  t0:TabsOk T H
  t1:TabsOk T H'
  keep:∀ b o,H b=some o→(∀ ps,o≠.tbl ps)→H' b=some o
  tb:∀ b ps,H b=some (.tbl ps)→∃ ps',H' b=some (.tbl ps')
theorem TabsOk.mono {T:gG} {H H':Hp} (t:TabsOk T H) (s:Same H H'):TabsOk T H':=fun q hq=>by
  rcases t q hq with e | ⟨c,e1,e2⟩
  · exact .inl (s _ _ e)
  · exact .inr ⟨c,s _ _ e1,s _ _ e2⟩
theorem bf.refl {T:gG} {H:Hp} (t:TabsOk T H):bf T H H:=⟨t,t,fun _ _ h _=>h,fun _ ps h=>⟨ps,h⟩⟩
theorem bf.of {T:gG} {H H':Hp} (t:TabsOk T H) (s:Same H H'):bf T H H':=⟨t,t.mono s,fun b o h _=>s b o h,fun b ps h=>⟨ps,s _ _ h⟩⟩
theorem bf.trans {T:gG} {H H1 H2:Hp} (a:bf T H H1) (b:bf T H1 H2):bf T H H2:=⟨a.t0,b.t1,fun c o h n=>b.keep c o (a.keep c o h n) n,fun c ps h=>by
  obtain ⟨ps',e⟩:=a.tb c ps h
  exact b.tb c ps' e⟩
theorem bf.free {T:gG} {H H':Hp} (a:bf T H H') {l:Addr} (h:H' l=none):H l=none:=by
  cases q:H l with
  | none=>rfl
  | some o =>
    have key:(∃ ps,o=.tbl ps)∨∀ ps,o≠.tbl ps:=by
      cases o with
      | tbl ps=>exact .inl ⟨ps,rfl⟩
      | _=>exact .inr fun _ z=>by cases z
    rcases key with ⟨ps,rfl⟩ | n
    · obtain ⟨ps',e⟩:=a.tb l ps q
      rw [h] at e;cases e
    · have:=a.keep l o q n
      rw [h] at this;cases this
theorem bf.seq {T:gG} {K:PySem.W.Frag} {H H':Hp} {a:Addr} {xs:List V} (e:bf T H H') (h:SqL K H a xs):SqL K H' a xs:=by
  rcases h with (h | ⟨o,h⟩) | h
  · exact .inl (.inl (e.keep _ _ h fun _ z=>by cases z))
  · exact .inl (.inr ⟨o,e.keep _ _ h fun _ z=>by cases z⟩)
  · exact .inr h
theorem bf.aaj {T:gG} {K:PySem.W.Frag} {H H':Hp} {a:Addr} {xs:List V} (e:bf T H H') (h:SqT K H a xs):SqT K H' a xs:=by
  rcases h with (h | ⟨o,h⟩) | h
  · exact .inl (.inl (e.keep _ _ h fun _ z=>by cases z))
  · exact .inl (.inr ⟨o,e.keep _ _ h fun _ z=>by cases z⟩)
  · exact .inr h
mutual
theorem Den.mR {T:gG} {K:PySem.W.Frag} {H H':Hp} (e:bf T H H'):∀ {v:V} {d:PyData},Den K H v d→Den K H' v d
  | _,_,.non=>.non
  | _,_,.bl b=>.bl b
  | _,_,.int i=>.int i
  | _,_,.str x=>.str x
  | _,_,.list h hs=>.list (e.seq h) (dN.mR e hs)
  | _,_,.tuple h hs=>.tuple (e.aaj h) (dN.mR e hs)
theorem dN.mR {T:gG} {K:PySem.W.Frag} {H H':Hp} (e:bf T H H'):∀ {vs:List V} {ds:List PyData},dN K H vs ds→dN K H' vs ds
  | _,_,.nil=>.nil
  | _,_,.cons h hs=>.cons (Den.mR e h) (dN.mR e hs)
end
def lC (T:gG) (H:Hp) (P:List V→Prop) (Q:VK):Prop:=∀ (l:Addr) (H':Hp) (xs:List V),bf T H H'→H l=none→H' l=some (.lst xs)→P xs→Q (.ref l) H'
def jC:HO→Bool
  | .tbl _=>false
  | .ext _=>false
  | _=>true
structure Ow (T:gG) (H0 H:Hp) (L:List (Addr × HO)):Prop where
  same:bf T H0 H
  new:∀ p∈L,H0 p.1=none
  at_:∀ p∈L,H p.1=some p.2
  pl:∀ p∈L,jC p.2=true
  nd:(L.map (·.1)).Nodup
section
variable {T:gG} {H0 H1 H H':Hp} {L L':List (Addr × HO)} {a l:Addr} {o o':HO} {xs:List V}
theorem Ow.refl (t:TabsOk T H):Ow T H H []:=⟨bf.refl t,(fun p hp=>nomatch hp),(fun p hp=>nomatch hp),(fun p hp=>nomatch hp),List.nodup_nil⟩
theorem Ow.get (O:Ow T H0 H L) (k:Nat) (h:L[k]?=some (a,o):=by rfl):H a=some o:=O.at_ _ (List.mem_of_getElem? h)
theorem Ow.fr (O:Ow T H0 H L) (k:Nat) (h:L[k]?=some (a,o):=by rfl):H0 a=none:=O.new _ (List.mem_of_getElem? h)
theorem Ow.sq {K:PySem.W.Frag} (O:Ow T H0 H L) (k:Nat) (h:L[k]?=some (a,.lst xs):=by rfl):SqL K H a xs:=SqL.of (O.get k h)
theorem Ow.sqT {K:PySem.W.Frag} (O:Ow T H0 H L) (k:Nat) (h:L[k]?=some (a,.tup xs):=by rfl):SqT K H a xs:=SqT.of (O.get k h)
theorem TabOk.upd {P:Addr} {pos:Pos} {q:Str} (t:TabOk P pos q H) (h:H a=none∨∃ o,H a=some o∧jC o=true):TabOk P pos q (L2.upd H a o'):=by
  have ne:∀ b u,H b=some u→jC u=false→b≠a:=fun b u e p z=>by
    subst z
    rcases h with h | ⟨o,h,ho⟩
    · rw [h] at e;cases e
    · rw [h] at e;cases e;rw [ho] at p;cases p
  rcases t with e | ⟨c,e1,e2⟩
  · exact .inl (by rw [aN (ne _ _ e rfl)];exact e)
  · exact .inr ⟨c,by rw [aN (ne _ _ e1 rfl)];exact e1,by rw [aN (ne _ _ e2 rfl)];exact e2⟩
theorem bf.upd (s:bf T H0 H) (h:H0 a=none) (h':H a=none∨∃ o,H a=some o∧jC o=true):bf T H0 (L2.upd H a o') :=
  ⟨s.t0,fun t ht=>(s.t1 t ht).upd h',fun b u e n=>by rw [aN (bD e h)];exact s.keep b u e n,fun b ps e=>by rw [aN (bD e h)];exact s.tb b ps e⟩
theorem Ow.mk' (O:Ow T H0 H L) (h:H a=none) (ho:jC o=true):Ow T H0 (upd H a o) ((a,o) :: L):=by
  have ne:∀ p∈L,p.1≠a:=fun p hp=>bD (O.at_ p hp) h
  have n0:H0 a=none:=O.same.free h
  refine ⟨O.same.upd n0 (.inl h),fun p hp=>?_,fun p hp=>?_,fun p hp=>?_,?_⟩
  · rcases List.mem_cons.mp hp with e | e
    · rw [e];exact n0
    · exact O.new p e
  · rcases List.mem_cons.mp hp with e | e
    · rw [e];exact bB
    · rw [aN (ne p e)];exact O.at_ p e
  · rcases List.mem_cons.mp hp with e | e
    · rw [e];exact ho
    · exact O.pl p e
  · rw [List.map_cons,List.nodup_cons]
    refine ⟨fun hm=>?_,O.nd⟩
    obtain ⟨p,hp,e⟩:=List.mem_map.mp hm
    exact ne p hp e
theorem zW:∀ {L:List (Addr × HO)} {k:Nat} {a:Addr} {o o':HO},L[k]?=some (a,o)→(L.set k (a,o')).map (·.1)=L.map (·.1)
  | [],_,_,_,_,h=>by simp at h
  | p :: L,0,a,o,o',h=>by
    have:p=(a,o):=by simpa using h
    rw [this];rfl
  | p :: L,k + 1,a,o,o',h=>by
    rw [List.set_cons_succ,List.map_cons,List.map_cons,zW (L:=L) (k:=k) (o:=o) (by simpa using h)]
theorem Ow.aao (O:Ow T H0 H L) (k:Nat) (h:L[k]?=some (a,o)) (ho:jC o'=true):Ow T H0 (upd H a o') (L.set k (a,o')):=by
  have hm0:=List.mem_of_getElem? h
  have n0:H0 a=none:=O.new _ hm0
  have hk:k<L.length:=(List.getElem?_eq_some_iff.mp h).1
  refine ⟨O.same.upd n0 (.inr ⟨o,O.at_ _ hm0,O.pl _ hm0⟩),fun p hp=>?_,fun p hp=>?_,fun p hp=>?_,by rw [zW h];exact O.nd⟩
  · rcases List.mem_or_eq_of_mem_set hp with e | e
    · exact O.new p e
    · rw [e];exact n0
  · obtain ⟨j,hj,e⟩:=List.getElem_of_mem hp
    by_cases hjk:j=k
    · subst hjk
      rw [List.getElem_set_self] at e
      rw [← e];exact bB
    · rw [List.getElem_set_ne (Ne.symm hjk)] at e
      have hj':j<L.length:=by rw [List.length_set] at hj;exact hj
      have hm:p∈L:=by rw [← e];exact List.getElem_mem hj'
      rw [aN]
      · exact O.at_ p hm
      · intro z
        have e1:(L.map (·.1))[j]?=some p.1:=by rw [List.getElem?_map,List.getElem?_eq_getElem hj',e];rfl
        have e2:(L.map (·.1))[k]?=some a:=by rw [List.getElem?_map,h];rfl
        rw [z] at e1
        obtain ⟨a1,a2⟩:=List.getElem?_eq_some_iff.mp e1
        obtain ⟨b1,b2⟩:=List.getElem?_eq_some_iff.mp e2
        exact hjk ((List.getElem_inj O.nd).mp (a2.trans b2.symm))
  · rcases List.mem_or_eq_of_mem_set hp with e | e
    · exact O.pl p e
    · rw [e];exact ho
theorem Ai {o:HO} (h:jC o=true):∀ ps,o≠.tbl ps:=fun ps z=>by rw [z] at h;cases h
theorem Ow.pQ (O:Ow T H0 H L) (s:bf T H H'):Ow T H0 H' L:=⟨O.same.trans s,O.new,fun p hp=>s.keep _ _ (O.at_ p hp) (Ai (O.pl p hp)),O.pl,O.nd⟩
theorem Ow.U7 (O:Ow T H0 H L) (s:bf T H H') (n:H l=none) (h:H' l=some o) (ho:jC o=true):Ow T H0 H' ((l,o) :: L):=by
  have O2:=O.pQ s
  refine ⟨O2.same,fun p hp=>?_,fun p hp=>?_,fun p hp=>?_,?_⟩
  · rcases List.mem_cons.mp hp with e | e
    · rw [e];exact O.same.free n
    · exact O.new p e
  · rcases List.mem_cons.mp hp with e | e
    · rw [e];exact h
    · exact O2.at_ p e
  · rcases List.mem_cons.mp hp with e | e
    · rw [e];exact ho
    · exact O.pl p e
  · rw [List.map_cons,List.nodup_cons]
    refine ⟨fun hm=>?_,O.nd⟩
    obtain ⟨p,hp,e⟩:=List.mem_map.mp hm
    exact bD (O.at_ p hp) n e
theorem Ow.more (O:Ow T H0 H L) (s:Same H H') (n:H l=none) (h:H' l=some o) (ho:jC o=true):Ow T H0 H' ((l,o) :: L):=O.U7 (bf.of O.same.t1 s) n h ho
theorem Ow.sub (O:Ow T H0 H L) (h:L'.Sublist L):Ow T H0 H L':=⟨O.same,fun p hp=>O.new p (h.subset hp),fun p hp=>O.at_ p (h.subset hp),fun p hp=>O.pl p (h.subset hp),O.nd.sublist (h.map _)⟩
theorem Ow.perm (O:Ow T H0 H L) (h:L'.Perm L):Ow T H0 H L':=⟨O.same,fun p hp=>O.new p (h.mem_iff.mp hp),fun p hp=>O.at_ p (h.mem_iff.mp hp),fun p hp=>O.pl p (h.mem_iff.mp hp),(h.map _).nodup_iff.mpr O.nd⟩
theorem Ow.tail {p:Addr × HO} (O:Ow T H0 H (p :: L)):Ow T H0 H L:=O.sub (List.sublist_cons_self _ _)
theorem Ow.two {p q:Addr × HO} (O:Ow T H0 H (p :: q :: L)):Ow T H0 H (p :: L):=O.sub ((List.sublist_cons_self _ _).cons₂ _)
theorem Ow.base (O:Ow T H0 H L) (s:bf T H1 H0):Ow T H1 H L:=⟨s.trans O.same,fun p hp=>s.free (O.new p hp),O.at_,O.pl,O.nd⟩
theorem Ow.reb (O:Ow T H0 H L):∃ H1,Ow T H1 H L∧bf T H0 H1∧∀ b o,H b=some o→(∀ p∈L,p.1≠b)→H1 b=some o:=by
  have keep:∀ b u,H b=some u→(∀ p∈L,p.1≠b)→(fun b=>if b∈L.map (·.1) then none else H b:Hp) b=some u:=fun b u e h=>by
    show (if b∈L.map (·.1) then none else H b)=some u
    rw [if_neg fun hm=>?_];· exact e
    obtain ⟨p,hp,z⟩:=List.mem_map.mp hm
    exact h p hp z
  have back:∀ b u,(fun b=>if b∈L.map (·.1) then none else H b:Hp) b=some u→H b=some u:=fun b u e=>by
    dsimp only at e
    split at e
    · cases e
    · exact e
  have npl:∀ b u,H b=some u→jC u=false→∀ p∈L,p.1≠b:=fun b u e h p hp z=>by
    have:=O.at_ p hp
    rw [z,e] at this
    have e':u=p.2:=Option.some.inj this
    rw [e',O.pl p hp] at h;cases h
  have tk:TabsOk T (fun b=>if b∈L.map (·.1) then none else H b):=fun t ht=>by
    rcases O.same.t1 t ht with e | ⟨c,e1,e2⟩
    · exact .inl (keep _ _ e (npl _ _ e rfl))
    · exact .inr ⟨c,keep _ _ e1 (npl _ _ e1 rfl),keep _ _ e2 (npl _ _ e2 rfl)⟩
  refine ⟨fun b=>if b∈L.map (·.1) then none else H b,⟨⟨tk,O.same.t1,fun b u e _=>back b u e,fun b ps e=>⟨ps,back _ _ e⟩⟩,fun p hp=>?_,O.at_,O.pl,O.nd⟩,⟨O.same.t0,tk,fun b u e n=>?_,fun b ps e=>?_⟩,keep⟩
  · exact if_pos (List.mem_map.mpr ⟨p,hp,rfl⟩)
  · refine keep b u (O.same.keep b u e n) fun p hp z=>?_
    rw [← z,O.new p hp] at e;cases e
  · obtain ⟨ps',e'⟩:=O.same.tb b ps e
    exact ⟨ps',keep _ _ e' (npl _ _ e' rfl)⟩
theorem Ii {i:Int} {j:Nat} {v:V} {Q:Hp→Prop} (O:Ow T H0 H L) (k:Nat) (h:L[k]?=some (l,.lst xs)) (hi:ixN xs.length i=some j) (q:∀ H',Ow T H0 H' (L.set k (l,.lst (xs.set j v)))→Q H'):Ut (.ref l) (.int i) v H Q :=
  ⟨l,xs,i,j,rfl,rfl,O.get k h,hi,q _ (O.aao k h rfl)⟩
theorem Ow.ret {P:List V→Prop} {Q:VK} (O:Ow T H0 H L) (k:Nat) (h:L[k]?=some (l,.lst xs)) (q:lC T H0 P Q) (p:P xs):Q (.ref l) H:=q l H xs O.same (O.fr k h) (O.get k h) p
theorem Ow.got {P:List V→Prop} {Q:VK} (O:Ow T H0 H L) (k:∀ l H' xs,Ow T H0 H' ((l,.lst xs) :: L)→P xs→Q (.ref l) H'):YK H P Q:=fun l H' xs s n h p=>k l H' xs (O.more s n h rfl) p
theorem Ow.ur {P:List V→Prop} {Q:VK} (O:Ow T H0 H L) (k:∀ l H' xs,Ow T H0 H' ((l,.lst xs) :: L)→P xs→Q (.ref l) H'):lC T H P Q:=fun l H' xs s n h p=>k l H' xs (O.U7 s n h rfl) p
end
end L2
namespace L2
open PySem PySem.W PySem.Spec PyProof.Rows
theorem szl {n:Nat} (h:Nat.ble n 100000=true:=by rfl):n≤sizeLine:=fU (Nat.le_of_ble_eq_true h)
theorem BK (p:Int) (ns:List Int):inV (.int p) (ns.map V.int)=decide (p∈ns):=by
  unfold inV
  rw [List.any_map,Bool.eq_iff_iff]
  simp only [List.any_eq_true,decide_eq_true_eq]
  constructor
  · rintro ⟨x,hx,e⟩
    have e':(x == p)=true:=e
    have:x=p:=by simpa using e'
    rw [← this];exact hx
  · intro h
    exact ⟨p,h,show (p == p)=true by simp⟩
theorem ux (ns:List Int):(ns.map V.int).all rM=true:=by
  rw [List.all_map,List.all_eq_true];intro _ _;rfl
theorem Fun.okC {P:Program} {w:World} {K:PySem.W.Frag} {mg:Str→Option Value} {base:Heap} {x qual:Str} {st:Stmt} {f:Addr} {fd:FuncData} {N ps:List Str} {k:Nat} {sp:Sp} {c:Value} (F:Fun K x qual st f fd) (hc:fd.code=c) (S:aQ N ps (ao st)) (len:∀ vs H Q E,sp vs H Q E→vs.length=ps.length)
    (hbody:∀ (A:Around) (outer:List Env) (s:Shared) (H:Hp) (vs:List V) (Q:VK) (E:XK),pI k (A.deeper (envOfC qual (ao st) s.heap.objs.size f c))→sp vs H Q E →
      ∃ t,PSs (Hs CX0 P w K mg base N qual (ao st) f c A outer s H E).nox (aB st) t∧t { nx:=fun _ H'=>Q .non H',rt:=Q } (start N vs) H):bT P w K mg base CX0 (k + 1) f fd ps sp:=by
  obtain ⟨oc,od,kV,doc,pm,an,cdv,ct,osl,rfl,lk,hcd⟩:=F.ex
  have e:cdv=c:=hc
  subst e
  refine Ti lk hcd S len fun A outer s H vs Q E hr hsp=>?_
  obtain ⟨t,h,q⟩:=hbody A outer s H vs Q E hr hsp
  exact ⟨t,h.nox,q⟩
theorem xg {k:Nat} {A XA:Around} {env:Env} (r:pI (k + 2) XA) (hh:A.handled=none) (hd:A.depth≤XA.depth + 2) (hu:A.units≤XA.units + 2):pI k (A.deeper env) :=
  ⟨hh,by have:=r.dp;show A.depth + 1 + 3 * k + 5<_;omega,by have:=r.un;show A.units + 3 + 16 * k + 200<_;omega⟩
theorem xq {A:Around} (r:pI 1 A):A.depth + 4<recursionLimit:=by have:=r.dp;omega
theorem bf.tab {T:gG} {H H2:Hp} {P:Addr} {pos:Pos} {q:Str} (t:TabsOk T H) (hm:(P,pos,q)∈T) (nd:(T.map (·.1)).Nodup) (k1:∀ b o,H b=some o→b≠P→H2 b=some o) (t2:TabOk P pos q H2):bf T H H2:=by
  have hP:∃ ps,H P=some (.tbl ps):=by
    rcases t _ hm with e | ⟨c,e,_⟩
    · exact ⟨_,e⟩
    · exact ⟨_,e⟩
  obtain ⟨ps0,hP⟩:=hP
  have hP2:∃ ps,H2 P=some (.tbl ps):=by
    rcases t2 with e | ⟨c,e,_⟩
    · exact ⟨_,e⟩
    · exact ⟨_,e⟩
  refine ⟨t,fun u hu=>?_,fun b o e n=>k1 b o e fun z=>?_,fun b ps e=>?_⟩
  · by_cases hb:u.1=P
    · have:u=(P,pos,q):=by
        obtain ⟨i,hi,ei⟩:=List.getElem_of_mem hu
        obtain ⟨j,hj,ej⟩:=List.getElem_of_mem hm
        have e1:(T.map (·.1))[i]?=some P:=by rw [List.getElem?_map,List.getElem?_eq_getElem hi,ei,← hb];rfl
        have e2:(T.map (·.1))[j]?=some P:=by rw [List.getElem?_map,List.getElem?_eq_getElem hj,ej];rfl
        obtain ⟨a1,a2⟩:=List.getElem?_eq_some_iff.mp e1
        obtain ⟨b1,b2⟩:=List.getElem?_eq_some_iff.mp e2
        have hij:i=j:=(List.getElem_inj nd).mp (a2.trans b2.symm)
        subst hij
        rw [← ei,← ej]
      rw [this];exact t2
    · rcases t u hu with e | ⟨c,e1,e2⟩
      · exact .inl (k1 _ _ e hb)
      · exact .inr ⟨c,k1 _ _ e1 hb,k1 _ _ e2 fun z=>by rw [z,hP] at e2;cases e2⟩
  · subst z
    rw [hP] at e;cases e
    exact n ps0 rfl
  · by_cases hb:b=P
    · rw [hb];exact hP2
    · exact ⟨ps,k1 _ _ e hb⟩
section
variable {X:Cx}
theorem rW (hc:X.calm=true):nG X (.builtin "sum") (fun xs H Q=>∃ (p:Addr) (ns:List Int),xs=[.ref p]∧SqL X.K H p (ns.map V.int)∧Q (.int ns.sum) H):=by
  intro pins s σ H xs us Q I r h
  obtain ⟨p,ns,rfl,hq,q⟩:=h
  obtain ⟨u,rfl,ru⟩:=vals1 r
  cases ru
  obtain ⟨its,r1,p1,hz⟩:=I.list hq
  have hi:IntsAre its ns:=intsAre_of r1
  obtain ⟨ys,hx⟩:=hi.allInts.items
  have hl':s.heap.IsList p (intItems ys):=hx ▸ p1.isList
  refine sum_intListG (I.ok.hd hc) hl' fun h' tk t' hk=>?_
  have e1:ns=ys.toList.map (·.1):=by
    rw [← nums_intItems,← hx]
    exact (show numsOf its.toArray.toList=ns from hi.numsOf).symm
  have e2:preSum (numAt ys) ys.size=ns.sum:=by
    rw [preSum_eq,List.take_of_length_le (by simp),e1]
  rw [e2]
  exact ⟨.int ns.sum,H,I.kept hk,⟨t',rfl⟩,q⟩
def Uu (K:PySem.W.Frag):V→List V→Hp→VK→Prop:=fun x vs H Q=>∃ (l:Addr) (ns:List Int) (k:Int),x=.ref l∧vs=[.int k]∧SqL K H l (ns.map V.int)∧k∈ns∧Q (.int (ns.idxOf k:Nat)) H
theorem Gz:MtR X "list.index" (Uu X.K):=by
  intro pins s σ H x vs v us Q I rx rv h
  obtain ⟨l,ns,k,rfl,rfl,hq,hk,q⟩:=h
  cases rx
  obtain ⟨u,rfl,t,rfl⟩:=vals1 rv
  obtain ⟨its,r1,p1,hz⟩:=I.list hq
  have hi:IntsAre its ns:=intsAre_of r1
  obtain ⟨⟨cls,dd,data,sl⟩,ho,hc,n,hd⟩:=id p1.isList
  simp only at hc hd
  subst hc hd
  have hlen:=hi.length
  have hj:ns.idxOf k<ns.length:=List.idxOf_lt_length_iff.mpr hk
  have hn:=oY
  rw [List.length_map] at hz
  refine call_meets PySem.F.slot_list_index ⟨_,ho,rfl⟩ PySem.F.entry_list_index (PySem.F.args_list_index_2 _ _)
    (SeqAt.list_indexAt l its.toArray n dd sl (.int k t) (isInt k) (ns.idxOf k) (by simpa [hlen] using hj) (by omega) ?_ ?_) ⟨ho,fun y hy=>(eq_isInt k t hi y (by simpa using hy)).at _ _,?_⟩
  · show isInt k its[ns.idxOf k]=true
    rw [isInt_at k hi _ (by omega) hj]
    simpa using List.getElem_idxOf hj
  · intro j hjs hlt
    show isInt k its[j]=false
    rw [isInt_at k hi j (by simpa using hjs) (by omega)]
    exact ne_of_lt_idxOf hlt _
  · exact ⟨.int (ns.idxOf k:Nat),H,I.tok _,⟨_,rfl⟩,q⟩
end
section
variable {T:gG} {H0 H:Hp} {L:List (Addr × HO)} {l:Addr} {xs:List V}
theorem Ow.mkE {a:Addr} {o:HO} {H':Hp} (O:Ow T H0 H L) (h:H a=none) (e:upd H a o=H') (ho:jC o=true):Ow T H0 H' ((a,o) :: L):=e ▸ O.mk' h ho
theorem Ow.vB {a:Addr} {o o':HO} {H':Hp} (O:Ow T H0 H L) (k:Nat) (h:L[k]?=some (a,o)) (e:upd H a o'=H') (ho:jC o'=true):Ow T H0 H' (L.set k (a,o')):=e ▸ O.aao k h ho
end
end L2
namespace L2
open PySem PySem.W PySem.Spec PySem.Calls PyProof.Rows PySem.Builtin PySem.Builtin.ObjectAttr PySem.Builtin.Getset_descriptor
section
variable {prog:Program} {w:World} {A:Around} {E:Value→Shared→Prop} {K:Frag} {e D:Addr} {hh:Heap} {g:Array GenState} {d:Drawn} {t:Nat} {os:OsState}
structure T4 (K:Frag) (D:Addr):Prop where
  ga:findIn K (.ref D) "__getattribute__"=some (some (.builtin "BaseException.__getattribute__"))
  gt:findIn K (.ref D) "__getattr__"=some none
  at_:findIn K (.ref D) "__class__"=some (some (.builtin "object.__class__"))
  sp:specialIn K (.builtin "object.__class__") "__get__"=some (some (.builtin "getset_descriptor.__get__"))
  tk:takesIn K (.builtin "object.__class__")=some true
  mo:mroIn K D (.type "object")=some true
  mb:mroIn K D (.type "BaseException")=some true
  cl:(clsIn K D).isSome=true
theorem Q7 {M:Model} (X:K.In hh) (C:T4 K D):Looks M hh (Builtin.ObjectAttr.find (.ref e) (.ref D) "__class__") (.bind (.builtin "getset_descriptor.__get__") (.builtin "object.__class__")):=by
  have L3:Looks M hh (Builtin.ObjectAttr.dataDescriptor? (some (.builtin "object.__class__")) (some (.builtin "getset_descriptor.__get__"))) (some (.builtin "getset_descriptor.__get__",.builtin "object.__class__")):=(looks_takesIn X C.tk).andThen .now
  exact (looks_findIn X C.at_).andThen ((looks_specialIn X C.sp).andThen (L3.andThen (Looks.tag .now)))
theorem Ub {R:Result→Shared→Prop} {tp:Value} (LT:Looks (model prog w) hh (typeOf (.ref e)) (.ref D)) (X:K.In hh) (C:T4 K D) (q:R (.ok (.ret (.ref D))) ⟨hh,g,d,t,os⟩) :
    codeAny (model prog w) A (.call (.builtin "getset_descriptor.__get__") ⟨[.builtin "object.__class__",.ref e,tp],[]⟩) R ⟨hh,g,d,t,os⟩:=by
  have LS:=looks_mroIn (M:=model prog w) X C.mo
  clear C X
  refine codeAny_call_builtin KF.slot_gs.plain KF.entry_gs (KF.slot_gs.check _ _ _ _ _ _ _ _ KF.type_class (KF.args_gs _ _ (tp)) ?_)
  unfold Builtin.«getset_descriptor.__get__» descrGet;rw [dga_obj];refine wpAny_bind (wpAny_pure ?_)
  unfold descrGetter descrCheckInstance descrNameAndClass isInstance;simp only [KF.owner_class];repeat lk
  refine ⟨Code.quiet_builtin _ (by decide +kernel),codeAny_builtin KF.entry_class ?_⟩;unfold Builtin.«object.__class__» shownTypeOf;(repeat lk);exact q
theorem Fp {tk:Tok} {Q:Fin→Shared→Prop} (LT:Looks (model prog w) hh (typeOf (.ref e)) (.ref D)) (X:K.In hh) (C:T4 K D) (h:Q (.done (.ret (.ref D))) ⟨hh,g,d,t,os⟩) :
    wpAny (model prog w) A (Builtin.«object.__getattribute__» ⟨[.ref e,.str "__class__" tk],[]⟩) Q E ⟨hh,g,d,t,os⟩:=by
  unfold Builtin.«object.__getattribute__»
  refine wpAny_bind (m:=slotArgs "__getattribute__" 1 _) (wpAny_pure ?_)
  refine wpAny_bind (m:=Builtin.ObjectAttr.attrName _) (wpAny_pure ?_)
  refine wpAny_bind (LT.at (wpAny_bind ((Q7 X C).at ?_)))
  unfold Builtin.ObjectAttr.bindTo
  exact wpAny_bind (wpAny_holding (wpAny_call (Ub LT X C (wpAny_pure h))))
theorem Fq {Q:Option Value→Shared→Prop} (LT:Looks (model prog w) hh (typeOf (.ref e)) (.ref D)) (X:K.In hh) (C:T4 K D) (h:Q (some (.ref D)) ⟨hh,g,d,t + 1,os⟩) :
    wpAny (model prog w) A (getAttr? (.ref e) "__class__") Q E ⟨hh,g,d,t,os⟩:=by
  have L1:=looks_findIn (M:=model prog w) X C.ga
  have L2:=looks_findIn (M:=model prog w) X C.gt
  have LI:Looks (model prog w) hh (isInstance (.ref e) (.type "BaseException")) true:=LT.andThen (looks_mroIn X C.mb)
  have f3:=PySem.F.attr_ValueError.ga.bind (.ref e)
  have hx2:(Value.builtin "BaseException.__getattribute__" == Value.builtin "object.__getattribute__")=false:=by decide +kernel
  unfold getAttr? getAttrBy? getAttrBy
  refine wpAny_bind (wpAny_mkText (wpAny_bind (wpAny_attempt (wpAny_holding (wpAny_bind (LT.at (wpAny_bind (L1.at ?_))))))))
  dsimp only
  rw [if_neg (by rw [hx2];simp)]
  unfold getAttrByItsOwn hookBefore callGetattribute
  refine wpAny_bind ?_
  rw [if_pos (show onTheHeap (Value.ref D)=true from rfl)]
  refine L2.at ?_
  refine wpAny_bind (wpAny_attempt (wpAny_holding ?_))
  rw [if_neg (by simp)]
  unfold boundAndCalled
  rw [f3]
  refine wpAny_bind (wpAny_pure ?_)
  refine wpAny_call (codeAny_call_builtin PySem.F.attr_ValueError.ga.plain PySem.F.entry_bexc_ga ?_)
  have kd:builtinKind "BaseException.__getattribute__"=some .slot:=by decide +kernel
  have spl:splitId "BaseException.__getattribute__"=some ("BaseException","__getattribute__"):=by decide +kernel
  have ha:=PySem.F.args_bexc_ga (.ref e) (.str "__class__" t)
  simp only [checkBuiltinCall,kd,spl]
  refine wpAny_bind (LI.at ?_)
  rw [if_neg (by simp)]
  refine wpAny_of_eq (a:=()) ha ?_
  refine Fp (t:=t + 1) LT X C ?_
  show wpAny (model prog w) A (handedOut (.ref D)) _ _ _
  exact wpAny_pure (wpAny_pure h)
def XAt (e D:Addr) (h:Heap):Prop:=∃ o,h.get? e=some o∧o.cls=.ref D
theorem za {M:Model} {h:Heap} (x:XAt e D h):Looks M h (typeOf (.ref e)) (.ref D):=by
  obtain ⟨o,h1,h2⟩:=x
  rw [← h2]
  exact (Looks.ld h1).andThen .now
theorem GZ (C:T4 K D):KitX K (.ref e) (.ref D) (XAt e D) where
  ty:=fun _ _ _ p=>za p
  it:=fun M h X _=>by
    have c:=C.cl
    unfold clsIn at c
    split at c
    · rename_i ho
      intro _ _ _ _ k q
      unfold isType loadHead
      exact wpAny_bind (wpAny_loadPart (k _ _ (X _ _ ho)) (wpAny_pure q))
    · cases c
  ne:=fun h tp dd its n sl X htp=>by
    have c:=C.cl
    refine Bool.eq_false_iff.mpr fun q=>?_
    cases Value.ref.inj (beq_iff_eq.mp q)
    unfold clsIn at c
    split at c
    · rename_i ho
      cases (X _ _ ho).symm.trans htp
    · cases c
  ca:=fun {_ _ _ _ _ s} X p k=>by
    obtain ⟨h0,g0,d0,t0,o0⟩:=s
    exact Fq (za p) X C k
end
end L2
namespace L2
open PySem PySem.W PySem.Spec PySem.Calls PyProof.Rows
theorem dM.obj {P:Program} {w:World} {H:Hp} {h:Heap} {a:Addr} {o:HO} (x:dM P w H h a o):∃ ob,h.get? a=some ob:=by
  cases o with
  | lst xs=>obtain ⟨_,_,_,_,e⟩:=x;exact ⟨_,e⟩
  | tup xs=>obtain ⟨_,_,_,o,e,_⟩:=x;exact ⟨_,e⟩
  | dK kvs=>obtain ⟨_,_,_,_,o,_,_,e,_⟩:=x;exact ⟨_,e⟩
  | dT kvs=>obtain ⟨_,_,_,_,o,_,_,e,_⟩:=x;exact ⟨_,e⟩
  | set S n=>obtain ⟨o,_,_,_,e,_⟩:=x;exact ⟨_,e⟩
  | ins C dx fs=>obtain ⟨_,_,_,e,_⟩:=x;exact ⟨_,e⟩
  | own y=>exact x
  | xd fs=>obtain ⟨_,⟨_,_,_,e,_⟩,_⟩:=x;exact ⟨_,e⟩
  | rng lo hi=>obtain ⟨_,_,_,e⟩:=x;exact ⟨_,e⟩
  | frz ob u=>obtain ⟨e,_⟩:=x;exact ⟨_,e⟩
  | tbl ps=>exact ⟨_,x⟩
  | met f y=>exact ⟨_,x⟩
  | ext φ=>obtain ⟨_,e,_⟩:=x;exact e
structure Fly (P:Program) (w:World) (B:Heap) (fs:List Addr) (H:Hp) (h0:Heap) (H':Hp) (h:Heap):Prop where
  un:Un fs [] H H' h0 h
  hok:HOk P w H' h
  old:∀ b o,h0.get? b=some o→b ∉ fs→∃ o',B.get? b=some o'∧(H b=none→o'=o)
  trk:∀ b u,H' b=some u→∃ o,h.get? b=some o∧B.get? b=some o
section
variable {P:Program} {w:World} {B h0 h h2:Heap} {fs:List Addr} {H H':Hp}
theorem Fly.on (x:Fly P w B fs H h0 H' h) (sb:B.StaysIn h2) (sm:∀ b∈fs,∀ o,h.get? b=some o→∃ sl,h2.get? b=some { o with slots:=sl }):Fly P w B fs H h0 H' h2:=by
  have kp:∀ b o,h0.get? b=some o→H b=none→b ∉ fs→h2.get? b=some o:=fun b o q n hb=>by
    obtain ⟨o',e,k⟩:=x.old b o q hb
    rw [← k n];exact sb b o' e
  have sl:∀ b o,h0.get? b=some o→H b=none→b∈fs→∃ s,h2.get? b=some { o with slots:=s }:=fun b o q n hb=>by
    obtain ⟨s1,e1⟩:=x.un.slot b o q n hb (by simp)
    obtain ⟨s2,e2⟩:=sm b hb _ e1
    exact ⟨s2,e2⟩
  refine ⟨⟨fun b o q n hb _=>kp b o q n hb,fun b o q n hb _=>sl b o q n hb,x.un.free,fun b o q _=>?_,x.un.tups,x.un.frzs,x.un.tbls⟩,fun a u e=>?_,x.old,fun b u e=>?_⟩
  · by_cases hb:b∈fs
    · obtain ⟨o1,e1⟩:=x.un.there b o q (by simp)
      obtain ⟨s2,e2⟩:=sm b hb _ e1
      exact ⟨_,e2⟩
    · obtain ⟨o',e,_⟩:=x.old b o q hb
      exact ⟨o',sb b o' e⟩
  · refine (x.hok a u e).stay (fun b v hb q=>?_) (fun _ q=>q) fun _ _ q=>q
    have tr:∃ u',H' b=some u':=by
      rcases hb with z | z
      · exact ⟨u,by rw [z];exact e⟩
      · exact ⟨_,z⟩
    obtain ⟨u',e'⟩:=tr
    obtain ⟨o,e1,e2⟩:=x.trk b u' e'
    rw [q] at e1;cases e1
    exact sb b v e2
  · obtain ⟨o,e1,e2⟩:=x.trk b u e
    exact ⟨o,sb b o e2,e2⟩
end
def CXE (P:Program) (w:World):CXT:=fun outer H s E e s'=>∃ (ea t C:Addr) (B:Heap) (H':Hp),e=.ref ea∧s'.os=s.os∧AllBare s'.gens∧Fly P w B (frs outer) H s.heap H' s'.heap∧Heap.FlyingW B outer ea (.ref C) (.ref t) s'.heap ∧
  s.heap.get? ea=none∧H' ea=none∧E (.ref C) (some ea) H'
theorem xH {env:Env} {l:List Env} {L:Addr} (hf:env.frame=some L):frs (env :: l)=L :: frs l:=by unfold frs;rw [List.filterMap_cons,hf]
theorem Vj {l:List Env}:∀ env∈l,∀ b,env.frame=some b→b∈frs l:=fun env he b hb=>List.mem_filterMap.mpr ⟨env,he,hb⟩
theorem jH {B h:Heap} {l:List Env} {h2:Heap} (f:h.FunFrames B l) (sm:h.UpToSlots h2):∀ b∈frs l,∀ o,h.get? b=some o→∃ sl,h2.get? b=some { o with slots:=sl }:=fun b hb o e=>by
  obtain ⟨_,o',e',d⟩:=f.mem hb
  rw [e] at e';cases e'
  exact sm b o e d
section
variable {X:Cx} {pins:List (Addr × Obj)} {σ:St} {H:Hp} {s:Shared} {E:XK}
structure Body (X:Cx):Prop where
  st:X.stack=X.env :: X.outer
  fr:X.env.frame=some X.env.locals
  ex:X.ex=[]
theorem Inv.RM (I:Inv X pins σ H s) (hB:Body X) {b:Addr} {o:Obj} (e:X.s₀.heap.get? b=some o) (hb:b ∉ frs X.outer):b ∉ frs X.stack:=by
  rw [hB.st,xH hB.fr]
  intro hm
  rcases List.mem_cons.mp hm with z | z
  · exact absurd (Heap.lt_size e) (by rw [z];exact Nat.not_lt.mpr I.ok.above)
  · exact hb z
theorem tQ {e C:Addr} {args:List Value} {h':Heap} {F:Value→Shared→Prop} (hB:Body X) (I:Inv X pins σ H s) (hm:Heap.MadeExcOf s.heap h' e (.ref C) args) (hE:H e=none→E (.ref C) (some e) H) :
    wpAny (model X.prog X.w) X.A (leaving X.env (.ref e)) (fun _ s''=>CXE X.prog X.w X.outer X.H₀ X.s₀ E (.ref e) s'') F { s with heap:=h' }:=by
  have hfr:X.A.frames=some (X.env :: X.outer):=by rw [← hB.st];exact I.ok.frames
  have stk:=I.stack
  have hl:s.heap.FunFrames (hideAll s.heap (frs X.stack)) (X.env :: X.outer):=by
    have:=funFrames_hide stk Vj
    rw [hB.st] at this ⊢;exact this
  have hne:∀ b o,s.heap.get? b=some o→b ∉ frs X.stack→(hideAll s.heap (frs X.stack)).get? b=some o:=fun b o q n=>hideAll_get _ q n
  have htr:∀ b u,H b=some u→∃ o,s.heap.get? b=some o∧(hideAll s.heap (frs X.stack)).get? b=some o:=fun b u q=>by
    obtain ⟨o,eo⟩:=(I.hok b u q).obj
    exact ⟨o,eo,hne b o eo fun z=>by rw [I.qQ b z] at q;cases q⟩
  have hnx:∀ b:Addr,b ∉ X.ex:=fun b=>by rw [hB.ex];simp
  refine wpAny_leaves_madeW (base:=hideAll s.heap (frs X.stack)) (h:=s.heap) hfr hB.fr (fun b o q=>of_hideAll _ q) hl hm fun h2 t fl _ _ sm=>?_
  have F0:Fly X.prog X.w (hideAll s.heap (frs X.stack)) (frs X.outer) X.H₀ X.s₀.heap H s.heap:=by
    refine ⟨?_,I.hok,fun b o q n=>?_,htr⟩
    · have u:=I.base
      rw [hB.ex] at u
      exact u
    · obtain ⟨o',e'⟩:=I.base.there b o q (hnx b)
      refine ⟨o',hne b o' e' (I.RM hB q n),fun z=>?_⟩
      have:=I.base.keep b o q z n (hnx b)
      rw [e'] at this;exact Option.some.inj this
  have F1:=F0.on (h2:=h2) fl.1 fun b hb o q=>by
    have hb':b∈frs X.stack:=by rw [hB.st,xH hB.fr];exact List.mem_cons_of_mem _ hb
    obtain ⟨_,o',e',d⟩:=stk.mem hb'
    rw [q] at e';cases e'
    exact sm b o (hm.keeps b o q) d
  have he0:H e=none:=by
    cases q:H e with
    | none=>rfl
    | some u =>
      obtain ⟨o,eo⟩:=(I.hok e u q).obj
      rw [hm.new] at eo;cases eo
  refine ⟨e,t,C,_,H,rfl,I.os,I.bare,F1,fl,?_,he0,hE he0⟩
  · cases q:X.s₀.heap.get? e with
    | none=>rfl
    | some o =>
      obtain ⟨o',e'⟩:=I.base.there e o q (hnx e)
      rw [hm.new] at e';cases e'
end
section
variable {P:Program} {w:World} {K:PySem.W.Frag} {mg:Str→Option Value} {base:Heap} {N:List Str} {qual:Str} {scope:Scope} {f:Addr} {cd:Value} {A:Around} {outer:List Env} {s:Shared} {H:Hp} {E:XK}
theorem TV {CX:CXT}:Body (Hs CX P w K mg base N qual scope f cd A outer s H E):=⟨rfl,rfl,rfl⟩
theorem Fun.okX {x:Str} {st:Stmt} {fd:FuncData} {ps:List Str} {k:Nat} {sp:Sp} (F:Fun K x qual st f fd) (S:aQ N ps (ao st)) (len:∀ vs H Q E,sp vs H Q E→vs.length=ps.length)
    (hbody:∀ (cdv:Value) (A:Around) (outer:List Env) (s:Shared) (H:Hp) (vs:List V) (Q:VK) (E:XK),pI k (A.deeper (envOfC qual (ao st) s.heap.objs.size f cdv))→sp vs H Q E →
      ∃ t,PSs (Hs (CXE P w) P w K mg base N qual (ao st) f cdv A outer s H E) (aB st) t∧t { nx:=fun _ H'=>Q .non H',rt:=Q } (start N vs) H):bT P w K mg base (CXE P w) (k + 1) f fd ps sp:=by
  obtain ⟨oc,od,kV,doc,pm,an,cdv,ct,osl,rfl,lk,hcd⟩:=F.ex
  exact Ti lk hcd S len fun A outer s H vs Q E hr hsp=>hbody cdv A outer s H vs Q E hr hsp
end
end L2
namespace L2
open PySem PySem.W PySem.Spec PySem.Calls PyProof.Rows
abbrev pR:List Value:=[.type "ValueError",.type "Exception",.type "BaseException",.type "object"]
theorem Tj {K:Frag} {h:Heap} {C:Addr} (X:K.In h) (q:excIn K C pR "ValueError.__new__"=true) :
    ∃ bm N nm qn bs hdct sn sub ab col dd k0 k1 k2 k3 k5 mN,h.get? C=some (excClassObj nm qn C N bs bm hdct sn sub ab col dd k0 k1 k2 k3 k5 "ValueError.__new__")∧h.Ns N mN∧mN "__init__"=none∧OwnTail h pR bm:=by
  unfold excIn at q
  split at q
  · rename_i d1 c1 s1 look
    split at q
    · rename_i C1 bm1 a0 a1 a2 a3 n1 a5 m1 l1
      simp only [Bool.and_eq_true,beq_iff_eq,Bool.not_eq_true'] at q
      obtain ⟨⟨⟨⟨⟨e1,e2⟩,e3⟩,e4⟩,e5⟩,e6⟩:=q
      subst e1 e2
      obtain ⟨nm,bs,mro,ns,qn,hd,sn,sub,ab,col,del⟩:=c1
      dsimp only at m1 e3 e5 e6
      subst m1 e3
      have es:s1=#[a0,a1,a2,a3,some (.builtin "ValueError.__new__"),a5]:=by cases s1;simp only at l1;rw [l1]
      subst es
      exact ⟨bm1,ns,nm,qn,bs,hd,sn,sub,ab,col,d1,a0,a1,a2,a3,a5,_,X _ _ look,Heap.Ns.of_isNs (isNs_of_in X e5),nsMap_none_of_in X e5 e6,tail_of_in X e4⟩
    · cases q
  · cases q
def Ug (E:XK) (C:Addr) (ta:TA):TS:=fun _ σ H=>ta σ H fun vs H1=>vs.length≤sizeLine∧∀ e,H1 e=none→E (.ref C) (some e) H1
section
variable {X:Cx} {E:XK} {x:Str} {C:Addr} {np cpos pos:Pos} {e0:Expr} {ta:TA}
theorem Gd (hB:Body X) (hc:X.calm=true) (hx:∀ e s',wpAny (model X.prog X.w) X.A (leaving X.env e) (fun _ s''=>CXE X.prog X.w X.outer X.H₀ X.s₀ E e s'') (fun e s''=>CXE X.prog X.w X.outer X.H₀ X.s₀ E e s'') s'→X.xe e s')
    (hg:Gl X x) (hm:X.mg x=some (.ref C)) (hq:excIn X.K C pR "ValueError.__new__"=true) (ha:PA X [e0] ta) (he:starEach [e0] X.env=[(false,eval e0 X.env)]:=by rfl) (hd:(x == ("__debug__":Str))=false:=by decide) :
    PS X (.Raise (some (.Call (.Name x np) [e0] [] cpos)) none pos) (Ug E C ta):=by
  intro pins s σ H D I h
  obtain ⟨bm,Nn,nm,qn,bs,hdct,sn,sub,ab,col,dd,k0,k1,k2,k3,k5,mN,hC,hN,hni,TL⟩:=Tj I.ok.mod.kin hq
  refine wpAny_Raise_call_subU (C:=C) (nm:=nm) (q:=qn) (N:=Nn) (bs:=bs) (bm:=bm) (hdct:=hdct) (sn:=sn) (sub:=sub) (ab:=ab) (col:=col) (dd:=dd) (k0:=k0) (k1:=k1) (k2:=k2) (k3:=k3) (k5:=k5) (mN:=mN) (newId:="ValueError.__new__")
    PySem.F.excBase_ValueError PySem.F.excBase_ValueError.hasB PySem.F.excBase_ValueError (TL.hasType PySem.F.excBase_ValueError.hasBase) (I.ok.hd hc) (by rw [he];rfl) hni ?_
  refine oZ I hg hm ⟨rfl,?_⟩ hd
  have a:=ha cpos pins s σ H _ I h
  rw [he] at a ⊢
  refine Calls.evalArgs_plain (wpAny_mono a (fun us s1 ⟨vs,H1,I1,r1,hz,q1⟩=>?_) fun _ _ z=>z)
  exact ⟨rfl,by show us.length≤_;rw [← r1.length];exact hz,I1.bk _ _ hC,hN.keeps I1.bk,TL.keeps I1.bk,fun h' e mk=>hx _ _ (tQ hB I1 mk (q1 e))⟩
end
end L2
namespace L2
open PySem PySem.W PySem.Spec PySem.Calls PyProof.Rows
def XS (X:Cx) (pins:List (Addr × Obj)) (Ex:St→XK) (ev:Value) (s':Shared):Prop:=∃ σ H s,Inv X pins σ H s∧CXE X.prog X.w X.stack H s (Ex σ) ev s'
def PEx (X:Cx) (e:Expr) (t:St→Hp→VK→XK→Prop):Prop :=
  ∀ (pins:List (Addr × Obj)) (s:Shared) (σ:St) (H:Hp) (Q:VK) (Ex:St→XK),Inv X pins σ H s→t σ H Q (Ex σ)→wpAny (model X.prog X.w) X.A (eval e X.env) (EP X pins σ Q) (XS X pins Ex) s
abbrev TX:=Ends→(St→XK)→St→Hp→Prop
def PSx (X:Cx) (st:Stmt) (t:TX):Prop :=
  ∀ (pins:List (Addr × Obj)) (s:Shared) (σ:St) (H:Hp) (D:Ends) (Ex:St→XK),Inv X pins σ H s→t D Ex σ H→wpAny (model X.prog X.w) X.A (exec st X.env) (SP X pins D) (XS X pins Ex) s
def aay (X:Cx) (sts:List Stmt) (t:TX):Prop :=
  ∀ (pins:List (Addr × Obj)) (s:Shared) (σ:St) (H:Hp) (D:Ends) (Ex:St→XK),Inv X pins σ H s→t D Ex σ H→wpAny (model X.prog X.w) X.A (execs sts X.env) (SP X pins D) (XS X pins Ex) s
section
variable {X:Cx} {k:Nat} {f:Addr} {fd:FuncData} {ps:List Str} {sp:Sp} {dvs:List V} {ds:List Value} {x:Str} {p pos:Pos} {e:Expr} {es:List Expr} {t:TA}
def Y0 (sp:Sp) (dvs:List V) (t:TA):St→Hp→VK→XK→Prop:=fun σ H Q Ex=>t σ H fun vs H1=>sp (vs++dvs) H1 Q Ex
theorem Q6 (F:bT X.prog X.w X.K X.mg X.base (CXE X.prog X.w) k f fd ps sp) (hr:pI k X.A) (hg:Gl X x) (hm:X.mg x=some (.ref f)) (hk:PySem.W.keepIn X.K (.ref f)=true) (hb:Binds X.K fd ps ds) (hd:Vals dvs ds)
    (ha:PA X.nox (e :: es) t) (hdb:(x == ("__debug__":Str))=false:=by decide) (he:starEach (e :: es) X.env=(false,eval e X.env) :: starEach es X.env:=by rfl) (hpl:(backTo pos (starEach es X.env)).any (·.1)=false:=by rfl) :
    PEx X (.Call (.Name x p) (e :: es) [] pos) (Y0 sp dvs t):=by
  intro pins s σ H Q Ex I h
  refine wpAny_Call_Name_kw (oZ I hg hm ?_ hdb)
  refine PySem.W.callWith_K (h₀:=X.base) I.ok.mod.kin hk (wpAny_mono (ha pos pins s σ H _ (I.wish _) h) (fun us s1 ⟨vs,H1,I1,r,q⟩=>?_) fun _ _ z=>z.elim) he hpl
  have I1:=I1.lH
  refine ⟨I1.kIn,?_⟩
  have r2:Vals (vs++dvs) (us++ds):=r.append hd
  have hl:(us++ds).length=ps.length:=by rw [← r2.length];exact F.len _ _ _ _ q
  refine wpAny_call (codeAny_mono (F.run X.A X.stack s1 H1 ⟨us,[]⟩ (us++ds) (vs++dvs) Q (Ex σ) hr I1.env0 (hb s1 us I1.kIn hl) r2 q) fun rr s' hq=>?_)
  cases rr with
  | error ev=>exact ⟨σ,H1,s1,I1,hq⟩
  | ok fl =>
    cases fl with
    | ret u=>exact I1.after hq
    | next=>exact False.elim hq
    | brk=>exact False.elim hq
    | cont=>exact False.elim hq
theorem Q5 {te:St→Hp→VK→XK→Prop} {pos:Pos} (he:PEx X e te) (hs:swapsWith e none pos.line X.env=pure false:=by rfl):PSx X (.Expr e pos) (fun D Ex σ H=>te σ H (fun _ H1=>D.nx σ H1) (Ex σ)):=by
  intro pins s σ H D Ex I h
  exact wpAny_Expr_any (wpAny_mono (he pins s σ H _ Ex I h) (fun v s1 ⟨x,H1,I1,r1,q1⟩=>⟨σ,H1,I1,q1⟩) fun _ _ z=>z) I.quiet hs
theorem Q0 {st:Stmt} {tx:TX} (h:PSx X st tx):aay X [st] tx:=by
  intro pins s σ H D Ex I hq
  refine wpAny_execs_cons (wpAny_mono (h pins s σ H D Ex I hq) (fun fl s1 q=>?_) fun _ _ z=>z)
  cases fl with
  | next=>exact wpAny_execs_nil q
  | ret v=>exact q
  | brk=>exact q
  | cont=>exact q
end
section
variable {X:Cx} {pins:List (Addr × Obj)} {σ:St} {H:Hp} {s:Shared}
def yp (X:Cx) (e:Addr):Cx:={ X with A:=X.A.mark (some (.ref e)),calm:=false,xe:=fun _ _=>False }
theorem Inv.sup (I:Inv X pins σ H s) (e:Addr):Inv (yp X e) pins σ H s :=
  ⟨⟨I.ok.mod,I.ok.kind,I.ok.glob,I.ok.blt,I.ok.above,I.ok.inj,I.ok.has,I.ok.cab,fun z=>(by cases z),I.ok.frames,I.ok.stk,I.ok.exf,I.ok.bs,I.ok.bsz,I.ok.noex,I.ok.exfs,I.ok.yM,I.ok.frf⟩,I.os,I.bare,I.base,I.loc,I.cell,I.free,I.freeC,I.pin,I.hok,I.len⟩
theorem Inv.Y4 {e:Addr} (hc:X.calm=true→X.A.handled=none) (I:Inv (yp X e) pins σ H s):Inv X pins σ H s :=
  ⟨⟨I.ok.mod,I.ok.kind,I.ok.glob,I.ok.blt,I.ok.above,I.ok.inj,I.ok.has,I.ok.cab,hc,I.ok.frames,I.ok.stk,I.ok.exf,I.ok.bs,I.ok.bsz,I.ok.noex,I.ok.exfs,I.ok.yM,I.ok.frf⟩,I.os,I.bare,I.base,I.loc,I.cell,I.free,I.freeC,I.pin,I.hok,I.len⟩
theorem Inv.YH {a:Addr} {o:HO} (I:Inv X pins σ H s) (hn:H a=none) (hL:a≠X.env.locals) (h0:X.s₀.heap.get? a=none) (hc:∀ x c,X.env.cells.lookup x=some c→c≠a) (hp:∀ p∈X.pn++pins,p.1≠a)
    (new:dM X.prog X.w (upd H a o) s.heap a o):Inv X pins σ (upd H a o) s:=by
  have ne:∀ b u,H b=some u→b≠a:=fun b u e=>bD e hn
  refine ⟨I.ok,I.os,I.bare,⟨I.base.keep,I.base.slot,fun b ob e n hx=>?_,I.base.there,fun b xs e=>?_,fun b ob xs e=>?_,fun b ps e=>?_⟩,I.loc,I.cell,?_,fun x c e=>?_,fun p hq=>?_,fun b u e=>?_,I.len⟩
  · rw [aN fun z=>by rw [z,h0] at e;cases e];exact I.base.free b ob e n hx
  · have:=I.base.tups b xs e;rw [aN (ne b _ this)];exact this
  · have:=I.base.frzs b ob xs e;rw [aN (ne b _ this)];exact this
  · obtain ⟨m,e1⟩:=I.base.tbls b ps e;exact ⟨m,by rw [aN (ne b _ e1)];exact e1⟩
  · rw [aN hL.symm];exact I.free
  · rw [aN (hc x c e)];exact I.freeC x c e
  · obtain ⟨e1,n,r⟩:=I.pin p hq;exact ⟨e1,by rw [aN (hp p hq)];exact n,r⟩
  · by_cases hb:b=a
    · subst hb;rw [bB] at e;cases e;exact new
    · rw [aN hb] at e
      exact (I.hok b u e).stay (fun _ _ _ q=>q) (fun c q=>by rw [aN (ne c _ q)];exact q) fun c xs q=>by rw [aN (ne c _ q)];exact q
theorem Inv.Uc {i:Nat} {n:Str} {h':Heap} {v:Option Value} {m:Str→Option Value} {t':Nat} (I:Inv X pins σ H s) (hN:X.N.Nodup) (hi:X.N[i]?=some n) (hs:Heap.SameBut X.env.locals s.heap h') (hm:s.heap.Ns X.env.locals m)
    (hl:∀ (j:Nat) (x:Str) (w:V),X.N[j]?=some x→σ[j]?=some (some w)→Vis X.env.scope x→∃ u,RelV w u∧Look X.env s.heap m x u) (hn:h'.Ns X.env.locals (fun x=>if x=n then v else m x)):Inv X pins (σ.set i none) H { s with heap:=h',toks:=t' }:=by
  have kp:∀ b o,b≠X.env.locals→s.heap.get? b=some o→h'.get? b=some o:=fun b o hb e=>(hs.2 b hb).trans e
  have old:∀ b o,X.s₀.heap.get? b=some o→b≠X.env.locals:=fun b o e=>Nat.ne_of_lt (Nat.lt_of_lt_of_le (Heap.lt_size e) I.ok.above)
  refine ⟨I.ok,I.os,I.bare,⟨fun b o e n hb hx=>kp b o (old b o e) (I.base.keep b o e n hb hx),fun b o e n hb hx=>?_,I.base.free,fun b o e hx=>?_,I.base.tups,I.base.frzs,I.base.tbls⟩,⟨_,hn,fun j x w e1 e2 e3=>?_⟩,fun x c e=>?_,I.free,I.freeC,fun p hp=>?_,fun b u e=>?_,by rw [List.length_set];exact I.len⟩
  · obtain ⟨sl,e1⟩:=I.base.slot b o e n hb hx
    exact ⟨sl,kp b _ (old b o e) e1⟩
  · obtain ⟨o',e1⟩:=I.base.there b o e hx
    exact ⟨o',kp b _ (old b o e) e1⟩
  · by_cases hj:j=i
    · subst hj
      have hj':j<σ.length:=by
        have:=(List.getElem?_eq_some_iff.mp e2).1
        rw [List.length_set] at this;exact this
      rw [List.getElem?_set_self hj'] at e2;cases e2
    · rw [List.getElem?_set_ne (Ne.symm hj)] at e2
      have hx:x≠n:=fun z=>by
        subst z
        obtain ⟨a1,a2⟩:=List.getElem?_eq_some_iff.mp e1
        obtain ⟨b1,b2⟩:=List.getElem?_eq_some_iff.mp hi
        exact hj ((List.getElem_inj hN).mp (a2.trans b2.symm))
      obtain ⟨u,r,l⟩:=hl j x w e1 e2 e3
      refine ⟨u,r,?_⟩
      rcases l with ⟨k,z⟩ | ⟨k,c,ec,z⟩
      · exact .inl ⟨k,by dsimp only;rw [if_neg hx];exact z⟩
      · refine .inr ⟨k,c,ec,?_⟩
        obtain ⟨o,ho,hd⟩:=z
        exact ⟨o,kp c o (I.cne x c ec) ho,hd⟩
  · obtain ⟨w,o,ho,hd⟩:=I.cell x c e
    exact ⟨w,o,kp c o (I.cne x c e) ho,hd⟩
  · obtain ⟨e1,n1,l1,r⟩:=I.pin p hp
    exact ⟨kp _ _ l1 e1,n1,l1,r⟩
  · refine (I.hok b u e).stay (fun c w hc q=>kp c w (fun z=>?_) q) (fun _ q=>q) fun _ _ q=>q
    rcases hc with y | y
    · rw [← y,z,I.free] at e;cases e
    · rw [z,I.free] at y;cases y
end
end L2
namespace L2
open PySem PySem.W PySem.Spec PySem.Calls PyProof.Rows
def YZ (K:PySem.W.Frag) (Bc:Value) (i:Nat) (th:TS) (D:Ends):St→XK:=fun σ cls oe H=>∃ C e,cls=.ref C∧oe=some e∧exmOne K (.ref C) Bc=some true ∧
  th { nx:=fun σ' H'=>D.nx (σ'.set i none) H',rt:=D.rt,bk:=fun σ' H'=>D.bk (σ'.set i none) H',ct:=fun σ' H'=>D.ct (σ'.set i none) H' } (σ.set i (some (.ref e))) (upd H e (.ext (XAt e C)))
def tTry (K:PySem.W.Frag) (Bc:Value) (i:Nat) (tb:TX) (th:TS):TS:=fun D σ H=>tb D (YZ K Bc i th D) σ H
section
variable {X:Cx} {body suite:List Stmt} {b0:Stmt} {x n:Str} {Ba:Addr} {i:Nat} {tb:TX} {th:TS} {np hpos pos:Pos}
theorem Uv (hB:Body X) (hc:X.calm=true) (hb:aay X body tb) (hg:Gl X x) (hm:X.mg x=some (.ref Ba)) (hN:X.N.Nodup) (hi:X.N[i]?=some n) (hlo:X.env.scope.names.lookup n=some .local)
    (hs:∀ e:Addr,PSs (yp X e) (b0 :: suite) th) (hd:(x == ("__debug__":Str))=false:=by decide) :
    PS X (.Try body [.ExceptHandler (some (.Name x np)) (some n) (b0 :: suite) hpos] [] [] pos) (tTry X.K (.ref Ba) i tb th):=by
  intro pins s σ H D I h
  refine wpAny_Try_except (wpAny_mono (hb pins s σ H D _ I h) (fun fl s1 q=>?_) fun ev s1 q=>?_)
  · cases fl with
    | next=>exact wpAny_execs_nil q
    | ret v=>exact q
    | brk=>exact q
    | cont=>exact q
  obtain ⟨σ1,H1,s0,I1,ea,t,C,B,H',rfl,os,bare,fl,fy,new,nh,C',e',ec,ee,hx,ht⟩:=q
  cases ec
  cases ee
  have hfr:X.A.frames=some (X.env :: X.outer):=by rw [← hB.st];exact I1.ok.frames
  have fy0:Heap.FlyingW B (X.env :: X.outer) ea (.ref C) (.ref t) s1.heap:=by rw [← hB.st];exact fy
  refine wpAny_looks_onW hfr hB.fr fy0 fun h4 hd4 sm4=>?_
  have fl4:=fl.on (h2:=h4) hd4.1 (jH fy.2.2.1 sm4)
  refine wpAny_landsW hd4 fun h5 fy5 sm5=>?_
  have fl5:=fl4.on (h2:=h5) fy5.1 (by rw [hB.st];exact jH hd4.2.2.1 sm5)
  have I5:Inv X pins σ1 H' { s1 with heap:=h5 }:=I1.call' (s':={ s1 with heap:=h5 }) (ch:=[]) os fl5.un fl5.hok bare (fun b z=>nomatch z)
  have hxe:XAt ea C h5:=by obtain ⟨ob,h1,h2⟩:=fy5.there;exact ⟨ob,h1,h2⟩
  refine wpAny_handleBy_cons (codeAny_handlers_test ?_) (by intro q;cases q)
  refine oZ (X:=yp X ea) (I5.sup ea) hg hm ?_ hd
  refine (exm_one (K:=X.K) I5.kIn (za hxe) hx).at ?_
  show codeAny _ _ _ _ _
  refine codeAny_handlers_suite_as ?_
  refine lands_againW fy5 fun h6 fy6 sm6=>?_
  have fl6:=fl5.on (h2:=h6) fy6.1 (by rw [hB.st];exact jH fy5.2.2.1 sm6)
  have I6:Inv X pins σ1 H' { s1 with heap:=h6 }:=I1.call' (s':={ s1 with heap:=h6 }) (ch:=[]) os fl6.un fl6.hok bare (fun b z=>nomatch z)
  have hxe6:XAt ea C h6:=by obtain ⟨ob,h1,h2⟩:=fy6.there;exact ⟨ob,h1,h2⟩
  have newS:X.s₀.heap.get? ea=none:=by
    cases q:X.s₀.heap.get? ea with
    | none=>rfl
    | some o =>
      obtain ⟨o',e'⟩:=I1.base.there ea o q (by rw [hB.ex];simp)
      rw [new] at e';cases e'
  have I7:Inv X pins σ1 (upd H' ea (.ext (XAt ea C))) { s1 with heap:=h6 }:=by
    refine I6.YH nh (fun z=>?_) newS (fun y c e z=>?_) (fun p hp z=>?_) ⟨hxe6,(by obtain ⟨o,h1,_⟩:=hxe6;exact ⟨o,h1⟩),fun g1 g2 p k=>?_⟩
    · obtain ⟨m,⟨o,_,_,ho,_⟩,_⟩:=I1.loc
      rw [← z,new] at ho;cases ho
    · obtain ⟨v,o,ho,_⟩:=I1.cell y c e
      rw [z,new] at ho;cases ho
    · have ho:=(I1.pin p hp).1
      rw [z,new] at ho;cases ho
    · obtain ⟨o,h1,h2⟩:=p
      exact ⟨o,k o h1,h2⟩
  refine qP (X:=yp X ea) (I7.sup ea) hN hi (.inl hlo) (v:=.ref ea) rfl (fun s8 I8=>?_) (.inr hlo)
  refine wpAny_mono (hs ea pins s8 _ _ _ I8 ht) (fun f s9 q=>?_) fun _ _ z=>z.elim
  have out:∀ {σ9:St} {H9:Hp} (J:Inv (yp X ea) pins σ9 H9 s9) (Z:Shared→Prop),(∀ s10,Inv X pins (σ9.set i none) H9 s10→Z s10)→wpAny (model X.prog X.w) X.A (do bindName X.env n .none;unbindBehindTheSuite X.env n hpos) (fun _ s10=>Z s10) X.xe s9:=fun {σ9 H9} J Z k=>by
    have J':Inv X pins σ9 H9 s9:=J.Y4 fun hc=>I1.ok.hd hc
    obtain ⟨m,hn,hl⟩:=id J'.loc
    exact wpAny_nameGoes_keeps hlo hn (by rw [J'.ok.kind];rfl) fun h' v hn' hsb=>k _ (J'.Uc hN hi hsb hn hl hn')
  cases f with
  | next=>obtain ⟨σ9,H9,J,q⟩:=q;exact out J _ fun s10 J10=>⟨_,H9,J10,q⟩
  | brk=>obtain ⟨σ9,H9,J,q⟩:=q;exact out J _ fun s10 J10=>⟨_,H9,J10,q⟩
  | cont=>obtain ⟨σ9,H9,J,q⟩:=q;exact out J _ fun s10 J10=>⟨_,H9,J10,q⟩
  | ret u=>obtain ⟨v,σ9,H9,J,r,q⟩:=q;exact out J _ fun s10 J10=>⟨v,_,H9,J10,r,q⟩
def ClsV (c:V) (t:Value):Prop:=(∃ T,c=.ty T∧t=.type T)∨∃ a,c=.ref a∧t=.ref a
theorem aW:nG X (.builtin "isinstance") (fun xs H Q=>∃ (e D:Addr) (c:V) (t:Value) (b:Bool),xs=[.ref e,c]∧H e=some (.ext (XAt e D))∧T4 X.K D∧ClsV c t∧PySem.W.kitOne X.K (.ref D) t=some b∧Q (.bl b) H):=by
  intro pins s σ H xs us Q I r h
  obtain ⟨e,D,c,t,b,rfl,he,hD,hc,hk,q⟩:=h
  obtain ⟨u,v,rfl,ru,rv⟩:=vals2 r
  cases ru
  have ev:v=t:=by
    rcases hc with ⟨T,rfl,rfl⟩ | ⟨a,rfl,rfl⟩
    · exact rv
    · exact rv
  subst ev
  obtain ⟨hx,_,_⟩:=(show dM X.prog X.w H s.heap e (.ext (XAt e D)) from I.hok e _ he)
  exact PySem.W.kia_one (GZ hD) I.kIn hx hk (fun z=>nomatch z) fun tk=>⟨.bl b,H,I.tok tk,rfl,q⟩
end
theorem TQ:bootBuiltins "ValueError"=some (.type "ValueError"):=by kernel_rfl
theorem ZJ {X:Cx}:Passes (CXE X.prog X.w) X E0:=fun _ _ _ _ _ _ _ h=>by
  obtain ⟨_,_,_,_,_,_,_,_,_,_,_,_,hE⟩:=h
  exact hE.elim
theorem iG {X:Cx} {x:Str} {C:Addr} {pos:Pos} (hg:Gl X x) (hm:X.mg x=some (.ref C)) (hd:(x == ("__debug__":Str))=false:=by decide):PE X (.Name x pos) (tC (.ref C)):=oR (v:=.ref C) hg hm rfl hd
structure jE (K:PySem.W.Frag) (mg:Str→Option Value) (x:Str) (C:Addr):Prop where
  m:mg x=some (.ref C)
  q:excIn K C pR "ValueError.__new__"=true
  x:T4 K C
end L2
namespace L2
open PySem PySem.Spec PyProof.Rows
section
variable {X:Cx}
theorem xZ {n:Nat} {acc:Array Value} (hacc:ItemsOf (fun i v=>∃ t,v=.int (0 + (i:Nat) * 1) t) acc n):Vals (gH n) acc.toList:=by
  have hsz:acc.toList.length=n:=by rw [Array.length_toList];exact hacc.1
  have key:∀ (k:Nat) (l:List Value),l.length=k→(∀ (j:Nat) (v:Value),l[j]?=some v→∃ t,v=.int ((n - k + j:Nat):Int) t)→k≤n→Vals ((List.range' (n - k) k).map fun (i:Nat)=>V.int (i:Int)) l:=by
    intro k
    induction k with
    | zero =>
      intro l hl _ _
      have:l=[]:=List.length_eq_zero_iff.mp hl
      subst this
      exact .nil
    | succ k ih =>
      intro l hl hP hk
      match l,hl with
      | v :: l,hl =>
        have hl':l.length=k:=by simpa using hl
        rw [List.range'_succ,List.map_cons]
        obtain ⟨t,ht⟩:=hP 0 v rfl
        refine .cons ⟨t,?_⟩ ?_
        · rw [ht];rfl
        · have e:n - (k + 1) + 1=n - k:=by omega
          rw [e]
          refine ih l hl' (fun j v' e'=>?_) (by omega)
          obtain ⟨t',ht'⟩:=hP (j + 1) v' (by simpa using e')
          exact ⟨t',by rw [ht'];congr 2;omega⟩
  have:=key n acc.toList hsz (fun j v e=>by
    obtain ⟨t,ht⟩:=hacc.2 j v (by simpa using e)
    refine ⟨t,?_⟩
    rw [ht]
    congr 1
    omega) (Nat.le_refl _)
  rw [Nat.sub_self,← List.range_eq_range'] at this
  exact this
def yj (ta:TA):TE:=fun σ H Q=>ta σ H fun vs H1=>∃ n:Nat,vs=[.int (n:Int)]∧n<64∧∀ l,H1 l=none→Q (.ref l) (upd H1 l (.lst (gH n)))
theorem tW {e:Expr} {ta:TA} {p1 p2 p3 pos:Pos} (hcalm:X.calm=true) (hgs:Gl X "list") (hms:X.mg "list"=none) (hgr:Gl X "range") (hmr:X.mg "range"=none) (ha:PA X [e] ta) (hs:starEach [e] X.env=[(false,eval e X.env)]:=by rfl) :
    PE X (.Call (.Name "list" p1) [.Call (.Name "range" p2) [e] [] p3] [] pos) (yj ta):=by
  intro pins s σ H Q I h
  refine Call_ (jd I hgs hms boot_list (PyProof.Rows.callWith_type1 ?_ rfl rfl))
  show wpAny _ _ (spliced ((false,eval (.Call (.Name "range" p2) [e] [] p3) X.env) :: [])) _ _ s
  refine Calls.spliced_cons (Call_ (jd I hgr hmr boot_range (PyProof.Rows.callWith_type1 (thn (ha p3 pins s σ H _ I h) fun us s1 ⟨vs,H1,I1,r1,q1⟩=>?_) hs rfl)))
  obtain ⟨n,e1,hn,q⟩:=q1
  subst e1
  obtain ⟨u,rfl,t,rfl⟩:=vals1 r1
  refine call_range_1 ?_
  refine Calls.spliced_nil ?_
  have hrs:Builtin.Range.rangeSize 0 (n:Int) 1=(n:Nat):=by rw [rangeSize_one];split <;> omega
  generalize hro:({ cls:=.type "range",data:=.fields #[.int 0 s1.toks,.int (n:Int) t,.int 1 (s1.toks + 1)] }:Obj)=ro
  have I2:Inv X pins σ H1 { s1 with heap:=s1.heap.push ro,toks:=s1.toks + 1 + 1 }:=I1.kept fun b o e=>Heap.get?_push_of_some _ e
  have hR:IsRange (s1.heap.push ro) s1.heap.objs.size 0 (n:Int) 1 s1.toks t (s1.toks + 1):=by
    rw [← hro];exact Heap.get?_push_size _ rfl
  refine call_list_range (I.ok.hd hcalm) hR (small_one (by omega) (by omega) (by omega) (by omega)) hrs (by omega) fun h' tk acc c hk hS hacc=>?_
  exact ⟨.ref (s1.heap.push ro).objs.size,_,I2.laid (t':=tk) hk (Nat.le_refl _) (show dM X.prog X.w _ h' _ (.lst (gH n)) from ⟨by unfold gH;rw [List.length_map,List.length_range,sizeLine_eq];omega,acc.toList,c,xZ hacc,by simpa using hS⟩),rfl,q _ (I2.hok.fresh (Nat.le_refl _))⟩
theorem Inv.qL {pins:List (Addr × Obj)} {σ:St} {H:Hp} {s:Shared} {h':Heap} {t':Nat} {ch:List Addr} (I:Inv X pins σ H s) (k:∀ b o,b ∉ ch→s.heap.get? b=some o→h'.get? b=some o) (f:∀ b∈ch,uY X pins H b):Inv X pins σ H { s with heap:=h',toks:=t' }:=by
  have nit:∀ b u,H b=some u→b ∉ ch:=fun b u e z=>by rw [(f b z).1] at e;cases e
  refine I.step (g':=s.gens) (d':=s.drawn) (ch:=ch) (fun b hb=>?_) (fun b o _ _ hc e _=>k b o hc e) (fun b o _ _ hc e _=>⟨o.slots,k b o hc e⟩) (fun _ _ _ _ n=>n)
    (fun b o hc e=>⟨o,k b o hc e⟩) (fun _ _ e=>e) (fun _ _ _ e=>e) (fun b ps e=>⟨#[],by rw [e];simp⟩) (fun m hm=>?_) (fun b u e=>?_) I.bare
  · obtain ⟨f0,f1,f2,f3,f4,f5⟩:=f b hb
    exact ⟨f3,f1,f4,f5⟩
  · obtain ⟨o,es,ep,ho,r⟩:=hm
    exact ⟨o,es,ep,k _ o (fun z=>(f _ z).2.1 rfl) ho,r⟩
  · refine (I.hok b u e).stay (fun c v hc q=>k c v ?_ q) (fun _ q=>q) fun _ _ q=>q
    rcases hc with z | z
    · rw [z];exact nit b u e
    · exact nit c _ z
def Itz (K:PySem.W.Frag) (l1 l2:Addr) (xs ys:List V):It :=
  ⟨fun i H=>SqL K H l1 xs∧SqL K H l2 ys∧i<xs.length∧i<ys.length,fun i H x H'=>∃ T a b,x=.ref T∧H T=none∧xs[i]?=some a∧ys[i]?=some b∧H'=upd H T (.tup [a,b]),
   fun i H=>SqL K H l1 xs∧SqL K H l2 ys∧(xs.length≤i∨ys.length≤i)⟩
def Z9 (z TI TO i1 i2 l1 l2:Addr) (i:Nat) (h:Heap):Prop:=IsZip h z TI TO .none∧IsPair h TI (.ref i1) (.ref i2)∧(∃ a b,IsPair h TO a b)∧h.IsListIter i1 l1 i∧h.IsListIter i2 l2 i
theorem Fv {P:Program} {w:World} {K:PySem.W.Frag} {elts:List Expr} {kk:Nat} {tpos:Pos} {z TI TO i1 i2 l1 l2:Addr} {xs ys:List V} (D:ZipApart z TI TO i1 i2 l1 l2) :
    Turn P w K (.Tuple elts kk tpos) (Itz K l1 l2 xs ys) [z,TI,TO,i1,i2] z (Z9 z TI TO i1 i2 l1 l2) where
  mem:=by simp
  obj:=fun i h st b hb=>by
    obtain ⟨hz,hTI,⟨a,b',hTO⟩,⟨o1,e1,c1,d1⟩,⟨o2,e2,c2,d2⟩⟩:=st
    simp at hb
    rcases hb with rfl | rfl | rfl | rfl | rfl
    · exact ⟨_,hz,fun v z=>by cases (show Data.fields _=Data.cell v from z)⟩
    · exact ⟨_,hTI,fun v z=>by cases (show Data.seq _ _=Data.cell v from z)⟩
    · exact ⟨_,hTO,fun v z=>by cases (show Data.seq _ _=Data.cell v from z)⟩
    · exact ⟨o1,e1,fun v z=>by rw [d1] at z;cases z⟩
    · exact ⟨o2,e2,fun v z=>by rw [d2] at z;cases z⟩
  keep:=fun i h h' st k=>by
    obtain ⟨hz,hTI,⟨a,b,hTO⟩,h1,h2⟩:=st
    exact ⟨k z (by simp) _ hz,k TI (by simp) _ hTI,⟨a,b,k TO (by simp) _ hTO⟩,h1.at fun o e=>k i1 (by simp) o e,h2.at fun o e=>k i2 (by simp) o e⟩
  item:=by
    intro X hP hw hK hc i pins s σ H E I hf st hg
    subst hP hw hK
    obtain ⟨hz,hTI,⟨p,p',hTO⟩,h1,h2⟩:=st
    obtain ⟨hq1,hq2,hi1,hi2⟩:=hg
    obtain ⟨its1,rv1,pl1,hz1⟩:=I.list hq1
    obtain ⟨its2,rv2,pl2,hz2⟩:=I.list hq2
    obtain ⟨u1,hu1,ru1⟩:=rv1.get (List.getElem?_eq_getElem hi1)
    obtain ⟨u2,hu2,ru2⟩:=rv2.get (List.getElem?_eq_getElem hi2)
    refine wpAny_pyNext_zip_item D hz hTI hTO h1 h2 pl1.isList pl2.isList (x:=u1) (y:=u2) (by simpa using hu1) (by simpa using hu2) fun h' a1 a2 a3 a4 a5 a6 hk=>?_
    have lt:∀ {c o},s.heap.get? c=some o→s.heap.objs.size≠c:=fun e=>Nat.ne_of_gt (Heap.lt_size e)
    refine ⟨.ref s.heap.objs.size,rfl,wpAny_letOwnedTupleGo_zip (s:={ s with heap:=h' }) a1 fun h'' hz' hs'=>?_⟩
    have Tz:s.heap.objs.size≠z:=lt hz
    have sub:∀ b∈([z,TO,i1,i2]:List Addr),b∈([z,TI,TO,i1,i2]:List Addr):=fun b hb=>by
      simp at hb ⊢
      rcases hb with rfl | rfl | rfl | rfl <;> simp
    have I1:Inv X pins σ H { s with heap:=h'' }:=I.qL (t':=s.toks) (ch:=[z,TO,i1,i2])
      (fun b o hb e=>hs'.extBut b o (fun x=>hb (by simp [x])) (hk b o (fun x=>hb (by simp [x])) (fun x=>hb (by simp [x])) (fun x=>hb (by simp [x])) (fun x=>hb (by simp [x])) e)) fun b hb=>hf b (sub b hb)
    have F:=I.yV (H':=H) (Nat.le_refl _) (I.hok.fresh (Nat.le_refl _))
    obtain ⟨F0,F1,F2,F3,F4,F5⟩:=F
    have hT:IsTup h'' s.heap.objs.size #[u1,u2]:=⟨_,hs'.extBut _ _ Tz a5,rfl,_,rfl⟩
    have I2:Inv X pins σ (upd H s.heap.objs.size (.tup [xs[i],ys[i]])) { s with heap:=h'' }:=I1.adopt F0 F1 I.sz F4 F5 (show dM X.prog X.w _ h'' _ (.tup [xs[i],ys[i]]) from ⟨by rw [sizeLine_eq];simp,[u1,u2],.cons ru1 (.cons ru2 .nil),hT⟩)
    refine ⟨.ref s.heap.objs.size,_,I2,rfl,⟨_,_,_,rfl,F0,List.getElem?_eq_getElem hi1,List.getElem?_eq_getElem hi2,rfl⟩,?_,fun b hb=>?_⟩
    · exact ⟨hz',hs'.extBut _ _ D.TIz (hk _ _ D.TIz D.TITO D.TIi1 D.TIi2 hTI),⟨_,_,hs'.extBut _ _ D.TOz a2⟩,a3.extBut hs'.extBut D.i1z,a4.extBut hs'.extBut D.i2z⟩
    · rw [aN]
      · exact (hf b hb).1
      · simp at hb
        obtain ⟨o1,e1,_⟩:=h1
        obtain ⟨o2,e2,_⟩:=h2
        rcases hb with rfl | rfl | rfl | rfl | rfl
        · exact (lt hz).symm
        · exact (lt hTI).symm
        · exact (lt hTO).symm
        · exact (lt e1).symm
        · exact (lt e2).symm
  done:=by
    intro X hP hw hK hc i pins s σ H E I hf st hg
    subst hP hw hK
    obtain ⟨hz,hTI,⟨p,p',hTO⟩,h1,h2⟩:=st
    obtain ⟨hq1,hq2,hend⟩:=hg
    obtain ⟨its1,rv1,pl1,hz1⟩:=I.list hq1
    obtain ⟨its2,rv2,pl2,hz2⟩:=I.list hq2
    have e1:=rv1.length
    have e2:=rv2.length
    have sub:∀ b∈([z,TO,i1,i2]:List Addr),b∈([z,TI,TO,i1,i2]:List Addr):=fun b hb=>by
      simp at hb ⊢
      rcases hb with rfl | rfl | rfl | rfl <;> simp
    refine wpAny_pyNext_zip_end (I.ok.hd hc) D hz hTI hTO h1 h2 pl1.isList pl2.isList ?_ fun h' hk=>⟨rfl,I.qL (t':=s.toks) (ch:=[z,TO,i1,i2])
      (fun b o hb e=>hk b o (fun x=>hb (by simp [x])) (fun x=>hb (by simp [x])) (fun x=>hb (by simp [x])) (fun x=>hb (by simp [x])) e) fun b hb=>hf b (sub b hb)⟩
    rcases hend with h | h
    · exact .inl (by simp;omega)
    · exact .inr (by simp;omega)
  self:=fun _ _ _ _ _ st h=>wpAny_pyIter_zip st.1 h
def iZip (K:PySem.W.Frag) (ta:TA):TI:=fun σ H R=>ta σ H fun vs H1=>∃ l1 l2 xs ys,vs=[.ref l1,.ref l2]∧SqL K H1 l1 xs∧SqL K H1 l2 ys∧R (Itz K l1 l2 xs ys) H1
theorem tV {elts:List Expr} {kk:Nat} {tpos:Pos} {a b:Expr} {ta:TA} {p pos:Pos} (hg:Gl X "zip") (hm:X.mg "zip"=none) (ha:PA X [a,b] ta) (hs:starEach [a,b] X.env=[(false,eval a X.env),(false,eval b X.env)]:=by rfl) (hs2:starEach [b] X.env=[(false,eval b X.env)]:=by rfl) :
    PI X (.Tuple elts kk tpos) (.Call (.Name "zip" p) [a,b] [] pos) (iZip X.K ta):=by
  intro pins s σ H R I h
  refine Call_ (jd I hg hm boot_zip (PyProof.Rows.callWith_type1 (thn (ha pos pins s σ H _ I h) fun us s1 ⟨vs,H1,I1,r1,q1⟩=>?_) (by rw [hs,hs2]) (by rw [hs2];rfl)))
  obtain ⟨l1,l2,xs,ys,e,hq1,hq2,q⟩:=q1
  subst e
  cases r1 with
  | cons r rr =>
    cases rr with
    | cons r' rr =>
      cases rr
      cases r
      cases r'
      obtain ⟨its1,rv1,pl1,hz1⟩:=I1.list hq1
      obtain ⟨its2,rv2,pl2,hz2⟩:=I1.list hq2
      refine call_zip_2 pl1.isList pl2.isList fun h' a1 a2 a3 a4 a5 a6 hk=>?_
      refine wpAny_pyIter_zip a1 ?_
      have b1:l1<s1.heap.objs.size:=by obtain ⟨o,e,_⟩:=pl1.isList;exact Heap.lt_size e
      have b2:l2<s1.heap.objs.size:=by obtain ⟨o,e,_⟩:=pl2.isList;exact Heap.lt_size e
      refine ⟨_,_,_,_,H1,rfl,I1.kept (t':=s1.toks) hk,Fv (l1:=l1) (l2:=l2) (xs:=xs) (ys:=ys) (TI:=s1.heap.objs.size + 2) (TO:=s1.heap.objs.size + 3) (i1:=s1.heap.objs.size) (i2:=s1.heap.objs.size + 1) ?_,⟨a1,a2,⟨_,_,a3⟩,a4,a5⟩,fun b hb=>?_,q⟩
      · constructor <;> exact fun z=>by simp only [Addr] at z b1 b2;omega
      · have hb':s1.heap.objs.size≤b:=by
          simp at hb
          rcases hb with rfl | rfl | rfl | rfl | rfl <;> simp
        exact I1.yV hb' (I1.hok.fresh hb')
theorem Du {K:PySem.W.Frag} {l1 l2:Addr} {xs ys:List V} {g:TG} {tb:TS} {D:Ends} {σ:St} {H:Hp} (Pv:Nat→St→Hp→Prop) (hxy:xs.length=ys.length) (h0:Pv 0 σ H) (hl:∀ i σ H,i≤xs.length→Pv i σ H→SqL K H l1 xs∧SqL K H l2 ys)
    (hs:∀ i a b T σ H,xs[i]?=some a→ys[i]?=some b→Pv i σ H→H T=none→g (.ref T) σ (upd H T (.tup [a,b])) fun σ2 H2=>tb { D with nx:=Pv (i + 1),ct:=Pv (i + 1),bk:=D.nx } σ2 H2) (hd:∀ σ H,Pv xs.length σ H→D.nx σ H) :
    ∃ W:Nat→Nat→St→Hp→Prop,(∃ m,W 0 m σ H)∧∀ i m σ H,W i m σ H →
      ((Itz K l1 l2 xs ys).stop i H∧D.nx σ H)∨((Itz K l1 l2 xs ys).go i H∧∃ N:St→Hp→Prop,(∀ σ' H',N σ' H'→∃ m',m'<m∧W (i + 1) m' σ' H')∧∀ x H',(Itz K l1 l2 xs ys).yld i H x H'→g x σ H' fun σ2 H2=>tb { D with nx:=N,ct:=N,bk:=D.nx } σ2 H2):=by
  refine ⟨fun i m σ H=>m=xs.length - i∧i≤xs.length∧Pv i σ H,⟨xs.length,by simp,Nat.zero_le _,h0⟩,?_⟩
  rintro i m σ H ⟨rfl,hi,p⟩
  obtain ⟨q1,q2⟩:=hl i σ H hi p
  by_cases hlt:i<xs.length
  · refine .inr ⟨⟨q1,q2,hlt,by omega⟩,Pv (i + 1),fun σ' H' p'=>⟨xs.length - (i + 1),by omega,rfl,hlt,p'⟩,fun x H' y=>?_⟩
    obtain ⟨T,a,b,rfl,hT,ha,hb,rfl⟩:=y
    exact hs i a b T σ _ ha hb p hT
  · have e:i=xs.length:=by omega
    subst e
    exact .inl ⟨⟨q1,q2,.inl (Nat.le_refl _)⟩,hd σ H p⟩
end
end L2
namespace L2
open PySem PySem.Spec PyProof.Rows
section
variable {X:Cx}
def Ite (K:PySem.W.Frag) (l:Addr) (xs:List V):It :=
  ⟨fun i H=>SqL K H l xs∧i<xs.length,fun i H x H'=>∃ T a,x=.ref T∧H T=none∧xs[i]?=some a∧H'=upd H T (.tup [.int (i:Int),a]),fun i H=>SqL K H l xs∧xs.length≤i⟩
def YL (e it l:Addr) (i:Nat) (h:Heap):Prop:=(∃ old,IsEnum h e it i old)∧h.IsListIter it l i
theorem zu {P:Program} {w:World} {K:PySem.W.Frag} {elts:List Expr} {kk:Nat} {tpos:Pos} {e it l:Addr} {xs:List V} (hei:e≠it) :
    Turn P w K (.Tuple elts kk tpos) (Ite K l xs) [e,it] e (YL e it l) where
  mem:=by simp
  obj:=fun i h st b hb=>by
    obtain ⟨⟨old,he⟩,⟨o1,e1,c1,d1⟩⟩:=st
    simp at hb
    rcases hb with rfl | rfl
    · exact ⟨_,he,fun v z=>by cases (show Data.fields _=Data.cell v from z)⟩
    · exact ⟨o1,e1,fun v z=>by rw [d1] at z;cases z⟩
  keep:=fun i h h' st k=>by
    obtain ⟨⟨old,he⟩,h1⟩:=st
    exact ⟨⟨old,k e (by simp) _ he⟩,h1.at fun o x=>k it (by simp) o x⟩
  item:=by
    intro X hP hw hK hc i pins s σ H E I hf st hg
    subst hP hw hK
    obtain ⟨⟨old,he⟩,h1⟩:=st
    obtain ⟨hq1,hi1⟩:=hg
    obtain ⟨its1,rv1,pl1,hz1⟩:=I.list hq1
    obtain ⟨u1,hu1,ru1⟩:=rv1.get (List.getElem?_eq_getElem hi1)
    refine wpAny_pyNext_enum_item he h1 pl1.isList (x:=u1) (by simpa using hu1) hei fun h' a1 a2 a3 a4 hk=>?_
    have lt:∀ {c o},s.heap.get? c=some o→s.heap.objs.size≠c:=fun e=>Nat.ne_of_gt (Heap.lt_size e)
    refine ⟨.ref s.heap.objs.size,rfl,wpAny_letOwnedTupleGo_enum (s:={ s with heap:=h',toks:=s.toks + 1 }) a1 fun h'' hz' hs'=>?_⟩
    have Tz:s.heap.objs.size≠e:=lt he
    have I1:Inv X pins σ H { s with heap:=h'',toks:=s.toks + 1 }:=I.qL (ch:=[e,it])
      (fun b o hb x=>hs'.extBut b o (fun z=>hb (by simp [z])) (hk b o (fun z=>hb (by simp [z])) (fun z=>hb (by simp [z])) x)) fun b hb=>hf b hb
    obtain ⟨F0,F1,F2,F3,F4,F5⟩:=I.yV (H':=H) (Nat.le_refl _) (I.hok.fresh (Nat.le_refl _))
    have hT:IsTup h'' s.heap.objs.size #[.int (i:Int) s.toks,u1]:=⟨_,hs'.extBut _ _ Tz a3,rfl,_,rfl⟩
    have I2:Inv X pins σ (upd H s.heap.objs.size (.tup [.int (i:Int),xs[i]])) { s with heap:=h'',toks:=s.toks + 1 }:=I1.adopt F0 F1 I.sz F4 F5 (show dM X.prog X.w _ h'' _ (.tup [.int (i:Int),xs[i]]) from ⟨by rw [sizeLine_eq];simp,[.int (i:Int) s.toks,u1],.cons ⟨_,rfl⟩ (.cons ru1 .nil),hT⟩)
    refine ⟨.ref s.heap.objs.size,_,I2,rfl,⟨_,_,rfl,F0,List.getElem?_eq_getElem hi1,rfl⟩,?_,fun b hb=>?_⟩
    · exact ⟨⟨_,by simpa using hz'⟩,a2.extBut hs'.extBut hei.symm⟩
    · rw [aN]
      · exact (hf b hb).1
      · simp at hb
        obtain ⟨o1,e1,_⟩:=h1
        rcases hb with rfl | rfl
        · exact (lt he).symm
        · exact (lt e1).symm
  done:=by
    intro X hP hw hK hc i pins s σ H E I hf st hg
    subst hP hw hK
    obtain ⟨⟨old,he⟩,h1⟩:=st
    obtain ⟨hq1,hend⟩:=hg
    obtain ⟨its1,rv1,pl1,hz1⟩:=I.list hq1
    have e1:=rv1.length
    exact wpAny_pyNext_enum_end (I.ok.hd hc) he h1 pl1.isList (by simp;omega) fun h' hk=>⟨rfl,I.qL (t':=s.toks) (ch:=[e,it])
      (fun b o hb x=>hk b o (fun z=>hb (by simp [z])) x) fun b hb=>hf b hb⟩
  self:=fun _ _ _ _ _ st h=>by
    obtain ⟨⟨old,he⟩,_⟩:=st
    exact wpAny_pyIter_enum he h
def ZX (K:PySem.W.Frag) (ta:TA):TI:=fun σ H R=>ta σ H fun vs H1=>∃ l xs,vs=[.ref l]∧SqL K H1 l xs∧R (Ite K l xs) H1
theorem vD {elts:List Expr} {kk:Nat} {tpos:Pos} {a:Expr} {ta:TA} {p pos:Pos} (hg:Gl X "enumerate") (hm:X.mg "enumerate"=none) (ha:PA X [a] ta) (hs:starEach [a] X.env=[(false,eval a X.env)]:=by rfl) :
    PI X (.Tuple elts kk tpos) (.Call (.Name "enumerate" p) [a] [] pos) (ZX X.K ta):=by
  intro pins s σ H R I h
  refine Call_ (jd I hg hm boot_enumerate (PyProof.Rows.callWith_type1 (thn (ha pos pins s σ H _ I h) fun us s1 ⟨vs,H1,I1,r1,q1⟩=>?_) hs rfl))
  obtain ⟨l1,xs,e,hq1,q⟩:=q1
  subst e
  obtain ⟨u,rfl,ru⟩:=vals1 r1
  cases ru
  obtain ⟨its1,rv1,pl1,hz1⟩:=I1.list hq1
  refine call_enumerate_list pl1.isList fun h' a1 a2 a3 hk=>?_
  refine wpAny_pyIter_enum a1 ?_
  refine ⟨_,_,_,_,H1,rfl,I1.kept (t':=s1.toks) hk,zu (l:=l1) (xs:=xs) (it:=s1.heap.objs.size) (Nat.succ_ne_self _),⟨⟨_,a1⟩,a2⟩,fun b hb=>?_,q⟩
  have hb':s1.heap.objs.size≤b:=by
    simp at hb
    rcases hb with rfl | rfl <;> simp
  exact I1.yV hb' (I1.hok.fresh hb')
theorem Hi {K:PySem.W.Frag} {l:Addr} {xs:List V} {g:TG} {tb:TS} {D:Ends} {σ:St} {H:Hp} (Pv:Nat→St→Hp→Prop) (h0:Pv 0 σ H) (hl:∀ i σ H,i≤xs.length→Pv i σ H→SqL K H l xs)
    (hs:∀ i a T σ H,xs[i]?=some a→Pv i σ H→H T=none→g (.ref T) σ (upd H T (.tup [.int (i:Int),a])) fun σ2 H2=>tb { D with nx:=Pv (i + 1),ct:=Pv (i + 1),bk:=D.nx } σ2 H2) (hd:∀ σ H,Pv xs.length σ H→D.nx σ H) :
    ∃ W:Nat→Nat→St→Hp→Prop,(∃ m,W 0 m σ H)∧∀ i m σ H,W i m σ H →
      ((Ite K l xs).stop i H∧D.nx σ H)∨((Ite K l xs).go i H∧∃ N:St→Hp→Prop,(∀ σ' H',N σ' H'→∃ m',m'<m∧W (i + 1) m' σ' H')∧∀ x H',(Ite K l xs).yld i H x H'→g x σ H' fun σ2 H2=>tb { D with nx:=N,ct:=N,bk:=D.nx } σ2 H2):=by
  refine ⟨fun i m σ H=>m=xs.length - i∧i≤xs.length∧Pv i σ H,⟨xs.length,by simp,Nat.zero_le _,h0⟩,?_⟩
  rintro i m σ H ⟨rfl,hi,p⟩
  have q1:=hl i σ H hi p
  by_cases hlt:i<xs.length
  · refine .inr ⟨⟨q1,hlt⟩,Pv (i + 1),fun σ' H' p'=>⟨xs.length - (i + 1),by omega,rfl,hlt,p'⟩,fun x H' y=>?_⟩
    obtain ⟨T,a,rfl,hT,ha,rfl⟩:=y
    exact hs i a T σ _ ha p hT
  · have e:i=xs.length:=by omega
    subst e
    exact .inl ⟨⟨q1,Nat.le_refl _⟩,hd σ H p⟩
theorem uG {K:PySem.W.Frag} {a:Addr} {xs:List V} {acc:Addr} {g:TG} {tc:TT} {te:TE} {τ:St} {H1:Hp} {Q:Hp→Prop} (Pv:Nat→St→Hp→Prop) (h0:Pv 0 τ (upd H1 acc (.lst []))) (hl:∀ i τ H,i≤xs.length→Pv i τ H→SqL K H a xs)
    (hs:∀ i x T τ H,xs[i]?=some x→Pv i τ H→H T=none→g (.ref T) τ (upd H T (.tup [.int (i:Int),x])) fun τ4 H4=>tc τ4 H4 fun b H5=>if b=true then te τ4 H5 fun y H6=>∃ ys,H6 acc=some (.lst ys)∧ys.length<sizeLine∧Pv (i + 1) τ4 (upd H6 acc (.lst (ys++[y]))) else Pv (i + 1) τ4 H5)
    (hd:∀ τ H,Pv xs.length τ H→Q H):sV (Ite K a xs) acc g tc te τ H1 Q:=by
  refine ⟨fun i m τ H=>m=xs.length - i∧i≤xs.length∧Pv i τ H,⟨xs.length,by simp,Nat.zero_le _,h0⟩,?_⟩
  rintro i m τ H ⟨rfl,hi,p⟩
  have q:=hl i τ H hi p
  by_cases hlt:i<xs.length
  · refine .inr ⟨⟨q,hlt⟩,Pv (i + 1),fun τ' H' p'=>⟨xs.length - (i + 1),by omega,rfl,hlt,p'⟩,fun x H' y=>?_⟩
    obtain ⟨T,b,rfl,hT,hb,rfl⟩:=y
    exact hs i b T τ _ hb p hT
  · have e:i=xs.length:=by omega
    subst e
    exact .inl ⟨⟨q,Nat.le_refl _⟩,hd τ H p⟩
theorem rQ {K:PySem.W.Frag} {l1 l2:Addr} {xs ys:List V} {acc:Addr} {g:TG} {tc:TT} {te:TE} {τ:St} {H1:Hp} {Q:Hp→Prop} (Pv:Nat→St→Hp→Prop) (hxy:xs.length=ys.length) (h0:Pv 0 τ (upd H1 acc (.lst []))) (hl:∀ i τ H,i≤xs.length→Pv i τ H→SqL K H l1 xs∧SqL K H l2 ys)
    (hs:∀ i x y T τ H,xs[i]?=some x→ys[i]?=some y→Pv i τ H→H T=none→g (.ref T) τ (upd H T (.tup [x,y])) fun τ4 H4=>tc τ4 H4 fun b H5=>if b=true then te τ4 H5 fun y H6=>∃ ys,H6 acc=some (.lst ys)∧ys.length<sizeLine∧Pv (i + 1) τ4 (upd H6 acc (.lst (ys++[y]))) else Pv (i + 1) τ4 H5)
    (hd:∀ τ H,Pv xs.length τ H→Q H):sV (Itz K l1 l2 xs ys) acc g tc te τ H1 Q:=by
  refine ⟨fun i m τ H=>m=xs.length - i∧i≤xs.length∧Pv i τ H,⟨xs.length,by simp,Nat.zero_le _,h0⟩,?_⟩
  rintro i m τ H ⟨rfl,hi,p⟩
  obtain ⟨q1,q2⟩:=hl i τ H hi p
  by_cases hlt:i<xs.length
  · refine .inr ⟨⟨q1,q2,hlt,by omega⟩,Pv (i + 1),fun τ' H' p'=>⟨xs.length - (i + 1),by omega,rfl,hlt,p'⟩,fun x H' y=>?_⟩
    obtain ⟨T,b,c,rfl,hT,hb,hc,rfl⟩:=y
    exact hs i b c T τ _ hb hc p hT
  · have e:i=xs.length:=by omega
    subst e
    exact .inl ⟨⟨q1,q2,.inl (Nat.le_refl _)⟩,hd τ H p⟩
end
end L2
namespace L2
open PySem PySem.Spec PyProof.Rows
structure Iv (P:Prop):Prop where
  t:True
  p:P
theorem ifT {c:Bool} {A B:Prop} (h:c=true) (a:A):if c=true then A else B:=by rw [if_pos h];exact a
theorem ifF {c:Bool} {A B:Prop} (h:c=false) (b:B):if c=true then A else B:=by rw [if_neg (by rw [h];exact Bool.false_ne_true)];exact b
theorem ifB {c:Bool} {A B:Prop} (h1:c=true→A) (h2:c=false→B):if c=true then A else B:=by
  cases c with
  | true=>exact ifT rfl (h1 rfl)
  | false=>exact ifF rfl (h2 rfl)
theorem Tr (x y:Int):decide (V.int x=V.int y)=decide (x=y):=by
  by_cases h:x=y
  · simp [h]
  · have:¬ V.int x=V.int y:=fun e=>h (by cases e;rfl)
    simp [h,this]
theorem bR {ns:List Int} {i:Int} (h0:0≤i) (h1:i<(ns.length:Int)):atI (ns.map V.int) i=some (V.int (ns.getD i.toNat 0)):=by
  refine lV h0 ?_
  rw [List.getD_eq_getElem?_getD,List.getElem?_eq_getElem (by omega)];rfl
theorem getD_mem' {ns:List Int} {k:Nat} (h:k<ns.length):ns.getD k 0∈ns:=by
  rw [List.getD_eq_getElem?_getD,List.getElem?_eq_getElem h];exact List.getElem_mem h
theorem bN {ns:List Int} {k:Nat} (h:k<ns.length):ns[k]?=some (ns.getD k 0):=by
  rw [List.getD_eq_getElem?_getD,List.getElem?_eq_getElem h];rfl
theorem Vh {n:Nat} {i:Int} (h0:0≤i) (h1:i<(n:Int)):ixN n i=some i.toNat:=by
  unfold ixN;rw [if_pos h0,if_pos h1]
theorem dN.mo {T:gG} {K:PySem.W.Frag} {H H':Hp} {vs:List V} {ds:List PyData} (h:dN K H vs ds) (e:bf T H H'):dN K H' vs ds:=dN.mR e h
theorem SqL.mo {T:gG} {K:PySem.W.Frag} {H H':Hp} {a:Addr} {xs:List V} (h:SqL K H a xs) (e:bf T H H'):SqL K H' a xs:=e.seq h
theorem SqT.mo {T:gG} {K:PySem.W.Frag} {H H':Hp} {a:Addr} {xs:List V} (h:SqT K H a xs) (e:bf T H H'):SqT K H' a xs:=e.aaj h
theorem bf.mo {T:gG} {H H1 H2:Hp} (a:bf T H H1) (b:bf T H1 H2):bf T H H2:=a.trans b
section
variable {T:gG} {H0 H1 H H':Hp} {L L':List (Addr × HO)} {a l p:Addr} {o o':HO} {xs:List V} {K:PySem.W.Frag}
theorem Ow.frz (O:Ow T H0 H ((p,o) :: L)):∃ Hn,Ow T Hn H L∧bf T H0 Hn∧Hn p=some o:=by
  obtain ⟨Hn,On,sn,kn⟩:=O.tail.reb
  refine ⟨Hn,On,sn,kn p o (O.get 0) fun q hq z=>?_⟩
  have nd:=O.nd
  rw [List.map_cons,List.nodup_cons] at nd
  exact nd.1 (List.mem_map.mpr ⟨q,hq,z⟩)
theorem Ow.join (O:Ow T H0 H L) (O':Ow T H H' L'):Ow T H0 H' (L'++L):=by
  have keep:∀ q∈L,H' q.1=some q.2:=fun q hq=>(O.pQ O'.same).at_ q hq
  refine ⟨O.same.trans O'.same,fun q hq=>?_,fun q hq=>?_,fun q hq=>?_,?_⟩
  · rcases List.mem_append.mp hq with h | h
    · exact O.same.free (O'.new q h)
    · exact O.new q h
  · rcases List.mem_append.mp hq with h | h
    · exact O'.at_ q h
    · exact keep q h
  · rcases List.mem_append.mp hq with h | h
    · exact O'.pl q h
    · exact O.pl q h
  · rw [List.map_append,List.nodup_append]
    refine ⟨O'.nd,O.nd,fun x hx y hy z=>?_⟩
    obtain ⟨q,hq,rfl⟩:=List.mem_map.mp hx
    obtain ⟨r,hr,rfl⟩:=List.mem_map.mp hy
    have:=O'.new q hq
    rw [z,O.at_ r hr] at this
    cases this
end
def dTup (ns:List Int):PyData:=.tuple (ns.map PyData.int)
def xP (rs:List (List Int)):PyData:=.list (rs.map jU)
section
variable {K:PySem.W.Frag} {H:Hp} {v:V} {a:Addr} {ns:List Int} {rs:List (List Int)}
theorem Den.tup (h:SqT K H a (ns.map V.int)):Den K H (.ref a) (dTup ns):=.tuple h (dN.ints ns)
theorem Den.Rb (h:Den K H v (dTup ns)):∃ a,v=.ref a∧SqT K H a (ns.map V.int):=by
  cases h with
  | tuple h hs=>exact ⟨_,rfl,by rw [← dN.int_inv hs];exact h⟩
theorem Den.gU {ds:List PyData} (h:Den K H v (.list ds)):∃ a xs,v=.ref a∧SqL K H a xs∧dN K H xs ds:=by
  cases h with
  | list h hs=>exact ⟨_,_,rfl,h,hs⟩
theorem Sh.tup (n:Nat) (ns:List Int):Sh (n + 1) (dTup ns):=.tuple fun d hd=>by
  obtain ⟨i,_,rfl⟩:=List.mem_map.mp hd
  exact .int n i
theorem Sh.four {n:Nat} {d e f g:PyData} (h1:Sh n d) (h2:Sh n e) (h3:Sh n f) (h4:Sh n g):Sh (n + 1) (.list [d,e,f,g]):=.list fun x hx=>by
  simp at hx
  rcases hx with z | z | z | z <;> (rw [z];assumption)
end
end L2
namespace L2
open PySem PySem.Spec PyProof.Rows
section
variable {A B:Prop}
theorem ifD {p:Prop} [Decidable p] (h1:p→A) (h2:¬ p→B):if decide p=true then A else B:=ifB (fun h=>h1 (of_decide_eq_true h)) fun h=>h2 (of_decide_eq_false h)
theorem ifI {x y:Int} (h1:x=y→A) (h2:¬ x=y→B):if decide (V.int x=V.int y)=true then A else B:=by rw [Tr];exact ifD h1 h2
theorem ifN {c:Bool} (h:if c=true then B else A):if (!c)=true then A else B:=by cases c <;> simpa using h
end
structure Lic where
  day:Int
  start:Int
  back:Int
  most:Int
def xO (l:Lic):PyData:=dTup [l.day,l.start,l.back,l.most]
def lA (ls:List Lic):PyData:=.list (ls.map xO)
abbrev zp (l:Lic):List V:=[.int l.day,.int l.start,.int l.back,.int l.most]
section
variable {K:PySem.W.Frag} {H:Hp} {v:V} {a:Addr} {ls:List Lic} {l:Lic} {xs:List V} {k:Nat}
theorem Den.lic (h:SqT K H a (zp l)):Den K H (.ref a) (xO l):=Den.tup (ns:=[l.day,l.start,l.back,l.most]) h
theorem Den.Bo (h:Den K H v (xO l)):∃ a,v=.ref a∧SqT K H a (zp l):=h.Rb
theorem dN.Bp (h:dN K H xs (ls.map xO)) (hk:ls[k]?=some l):∃ a,xs[k]?=some (.ref a)∧SqT K H a (zp l):=by
  obtain ⟨v,h1,h2⟩:=h.get (i:=k) (d:=xO l) (by rw [List.getElem?_map,hk];rfl)
  obtain ⟨a,rfl,hT⟩:=h2.Bo
  exact ⟨a,h1,hT⟩
theorem dN.mV (h:dN K H xs (ls.map xO)) (hx:xs[k]?=some v):∃ a l,v=.ref a∧ls[k]?=some l∧SqT K H a (zp l):=by
  obtain ⟨d,h1,h2⟩:=h.get' hx
  rw [List.getElem?_map] at h1
  cases e:ls[k]? with
  | none=>rw [e] at h1;cases h1
  | some l =>
    rw [e] at h1
    cases h1
    obtain ⟨a,rfl,hT⟩:=h2.Bo
    exact ⟨a,l,rfl,rfl,hT⟩
theorem Sh.lic (n:Nat) (l:Lic):Sh (n + 1) (xO l):=Sh.tup n _
theorem Sh.roll (n:Nat) (ls:List Lic):Sh (n + 2) (lA ls):=.list fun d hd=>by
  obtain ⟨i,_,rfl⟩:=List.mem_map.mp hd
  exact .lic n i
end
theorem Tw (xs:List V) (i j:Nat):uF xs (some (i:Int)) (some (j:Int))=(xs.drop i).take (j - i):=by
  unfold uF
  rw [HT.mJ,HT.mJ]
  refine List.ext_getElem? fun k=>?_
  simp only [List.getElem?_take,List.getElem?_drop]
  by_cases h1:k<j - i
  · rw [if_pos h1]
    by_cases h2:i + k<xs.length
    · rw [if_pos (by omega),show min i xs.length=i by omega]
    · rw [List.getElem?_eq_none (l:=xs) (i:=i + k) (by omega)]
      split
      · exact List.getElem?_eq_none (by omega)
      · rfl
  · rw [if_neg h1]
    split
    · rename_i h3
      omega
    · rfl
theorem YD (ns:List Int) (i j:Nat):uF (ns.map V.int) (some (i:Int)) (some (j:Int))=((ns.drop i).take (j - i)).map V.int:=by
  rw [Tw,List.map_take,List.map_drop]
theorem Hv (ns:List Int) (i:Nat):uF (ns.map V.int) (some (i:Int)) none=(ns.drop i).map V.int:=by
  unfold uF
  rw [HT.mJ,List.length_map,show HT.sIx ns.length ns.length none=ns.length from rfl,List.map_drop]
  by_cases h:i≤ns.length
  · rw [Nat.min_eq_left h,List.take_of_length_le (by rw [List.length_drop,List.length_map];omega)]
  · rw [Nat.min_eq_right (by omega),List.drop_of_length_le (l:=ns.map V.int) (i:=i) (by rw [List.length_map];omega),Nat.sub_self,List.take_zero]
end L2
namespace L2
open PySem PySem.Spec PyProof.Rows
theorem Ow.lend {T:gG} {H0 H:Hp} {A B:List (Addr × HO)} (O:Ow T H0 H (A++B)):∃ H1,Ow T H1 H A∧bf T H0 H1∧(∀ p∈B,H1 p.1=some p.2)∧∀ (H':Hp) (A':List (Addr × HO)),Ow T H1 H' A'→Ow T H0 H' (A'++B):=by
  have OA:Ow T H0 H A:=O.sub (List.sublist_append_left A B)
  have OB:Ow T H0 H B:=O.sub (List.sublist_append_right A B)
  obtain ⟨H1,O1,s1,k1⟩:=OA.reb
  have nd:=O.nd
  rw [List.map_append,List.nodup_append] at nd
  have hB:∀ p∈B,H1 p.1=some p.2:=fun p hp=>k1 p.1 p.2 (OB.at_ p hp) fun q hq z=>nd.2.2 q.1 (List.mem_map.mpr ⟨q,hq,rfl⟩) p.1 (List.mem_map.mpr ⟨p,hp,rfl⟩) z
  refine ⟨H1,O1,s1,hB,fun H' A' O'=>?_⟩
  refine ⟨s1.trans O'.same,fun p hp=>?_,fun p hp=>?_,fun p hp=>?_,?_⟩
  · rcases List.mem_append.mp hp with h | h
    · exact s1.free (O'.new p h)
    · exact OB.new p h
  · rcases List.mem_append.mp hp with h | h
    · exact O'.at_ p h
    · refine O'.same.keep _ _ (hB p h) fun ps z=>?_
      have:=OB.pl p h
      rw [z] at this;cases this
  · rcases List.mem_append.mp hp with h | h
    · exact O'.pl p h
    · exact OB.pl p h
  · rw [List.map_append,List.nodup_append]
    refine ⟨O'.nd,OB.nd,fun x hx y hy z=>?_⟩
    obtain ⟨q,hq,rfl⟩:=List.mem_map.mp hx
    obtain ⟨r,hr,rfl⟩:=List.mem_map.mp hy
    have e:=O'.new q hq
    rw [z,hB r hr] at e
    cases e
end L2
namespace L2
open PySem PySem.Spec PyProof.Rows
theorem oO {X:Cx} {K:PySem.W.Frag} {pos:Pos} {es:List Expr} {k:Nat} {t:TGs} {n:Nat} (hK:X.K=K) (hc:X.calm=true) (h:PGs X es t) (hn:(assignEach es X.env).length=n:=by rfl) (hst:(assignEach es X.env).findIdx? (·.1)=none:=by rfl):PG X (.Tuple es k pos) (aau K n t):=hK ▸ nq hc h hn hst
end L2
namespace L2
open PySem PySem.Spec PyProof.Rows
theorem YX {τ:St} {H:Hp} {A B:Hp→Prop} (h:A H):Y5 τ H fun b H5=>if b=true then A H5 else B H5:=by
  show if true=true then A H else B H
  rw [if_pos rfl];exact h
end L2
namespace L2
open PySem PySem.Spec PyProof.Rows
theorem qD {α:Type}:∀ {L:List α} {k:Nat} {p:α},L[k]?=some p→(p :: L.eraseIdx k).Perm L
  | [],_,_,h=>by simp at h
  | a :: L,0,p,h=>by
    have e:a=p:=by simpa using h
    subst e;exact List.Perm.refl _
  | a :: L,k + 1,p,h=>by
    have h':L[k]?=some p:=by simpa using h
    rw [List.eraseIdx_cons_succ]
    exact (List.Perm.swap a p _).trans ((qD h').cons a)
section
variable {T:gG} {H0 H:Hp} {L:List (Addr × HO)} {p:Addr} {o:HO}
theorem Ow.pull (O:Ow T H0 H L) (k:Nat) (h:L[k]?=some (p,o):=by rfl):Ow T H0 H ((p,o) :: L.eraseIdx k):=O.perm (qD h)
theorem Ow.Tg (O:Ow T H0 H L) (k:Nat) (h:L[k]?=some (p,o):=by rfl):∃ Hn,Ow T Hn H (L.eraseIdx k)∧bf T H0 Hn∧Hn p=some o:=(O.pull k h).frz
theorem Ow.del (O:Ow T H0 H L) (k:Nat):Ow T H0 H (L.eraseIdx k):=O.sub (List.eraseIdx_sublist L k)
end
theorem nQ (ns:List Int) (z:Int):ns.map V.int++[V.int z]=(ns++[z]).map V.int:=by rw [List.map_append];rfl
end L2
namespace L2
open PySem PySem.Spec PyProof.Rows
theorem dN.Q9 {K:PySem.W.Frag} {H:Hp} {xs:List V} {ws:List (List Int)} {i:Nat} {x:V} (h:dN K H xs (ws.map jU)) (hx:xs[i]?=some x):∃ a w,x=.ref a∧ws[i]?=some w∧SqL K H a (w.map V.int):=by
  obtain ⟨d,h1,h2⟩:=h.get' hx
  rw [List.getElem?_map] at h1
  cases e:ws[i]? with
  | none=>rw [e] at h1;cases h1
  | some w =>
    rw [e] at h1
    cases h1
    obtain ⟨a,rfl,hL⟩:=h2.xu
    exact ⟨a,w,rfl,rfl,hL⟩
theorem dN.zf {K:PySem.W.Frag} {H:Hp} {xs:List V} {ws:List (List Int)} {i:Nat} {w:List Int} (h:dN K H xs (ws.map jU)) (hw:ws[i]?=some w):∃ a,xs[i]?=some (.ref a)∧SqL K H a (w.map V.int):=by
  obtain ⟨v,h1,h2⟩:=h.get (i:=i) (d:=jU w) (by rw [List.getElem?_map,hw];rfl)
  obtain ⟨a,rfl,hL⟩:=h2.xu
  exact ⟨a,h1,hL⟩
end L2
namespace L2
open PySem PySem.Spec PyProof.Rows
end L2
namespace L2
open PySem PySem.W PySem.Spec PyProof.Rows
section
variable {prog:Program} {w:World} {A:Around} {E:Value→Shared→Prop} {s:Shared}
end
section
variable {X:Cx}
end
theorem Bg (a v:Value):argsOk "min" ⟨[a],[(Str.ofString "default",v)]⟩:=by unfold argsOk;kernel_rfl
section
variable {prog:Program} {w:World} {A:Around} {R:Result→Shared→Prop} {I:Addr} {fp wr:List Addr} {n:Nat} {P:Nat→Value→Prop} {St:Nat→Heap→Prop}
theorem Bf (W:Walks prog w A.in1 I fp wr n P St) (bt:Nat→Nat→Bool) (hcmp:CmpOf prog w A.in1 .Lt P bt) (S:Addr) (hSf:S ∉ fp) (d:Value) :
    ∀ (k j:Nat) (s:Shared) (bs:Array Value) (c:Nat),n - j=k→j≤n→St j s.heap→((j=0∧bs=#[])∨∃ i vb,j=i + 1∧bs=#[vb,vb]∧P (argBest bt i) vb) →
    s.heap.get? S=some { cls:=.type "list",dict:=none,data:=.seq bs c,slots:=#[] } →
    (n=0→∀ h' tk,(∀ b o,b ∉ wr→b≠S→s.heap.get? b=some o→h'.get? b=some o)→R (.ok (.ret d)) { s with heap:=h',toks:=tk }) →
    (∀ v h' tk,0<n→P (argBest bt (n - 1)) v→(∀ b o,b ∉ wr→b≠S→s.heap.get? b=some o→h'.get? b=some o)→R (.ok (.ret v)) { s with heap:=h',toks:=tk }) →
    codeAny (model prog w) A (.builtin "min.loop" ⟨[.ref I,.none,.ref S],[(Str.ofString "default",d)]⟩) R s:=by
  have nSw:S ∉ wr:=fun h=>hSf (W.sub _ h)
  have nm:(toString "min"++toString ".loop":String)="min.loop":=by decide
  intro k
  induction k with
  | zero =>
    intro j s bs c hk hj hst hb hS hR0 hR1
    have ej:j=n:=Nat.le_antisymm hj (Nat.le_of_sub_eq_zero hk)
    subst ej
    refine codeAny_builtin F.entry_min_loop ?_;rw [Around.under_plainId F.plain_min_loop _]
    show wpAny _ A.in1 (seqItems? (.ref S) >>= _) _ _ s;refine wpAny_bind (wpAny_seqItems hS rfl ?_)
    rcases hb with ⟨e0,rfl⟩ | ⟨i,vb,ei,rfl,hP⟩
    · show wpAny _ A.in1 (tryCatch (pyNext (.ref I)) _ >>= _) _ _ s;refine wpAny_bind (wpAny_tryCatch (W.done s _ _ hst fun h' tk hk'=>?_))
      refine wpAny_bind (wpAny_rule ?_)
      exact wpAny_pure (hR0 e0 h' tk fun b o hbw _ e=>hk' b o hbw e)
    · show wpAny _ A.in1 (tryCatch (pyNext (.ref I)) _ >>= _) _ _ s;refine wpAny_bind (wpAny_tryCatch (W.done s _ _ hst fun h' tk hk'=>?_))
      have hS':=hk' S _ nSw hS
      show wpAny _ A.in1 (updateSeq S (fun _=>#[]) >>= _) _ _ _
      refine wpAny_bind (wpAny_updateSeq hS' rfl (wpAny_bind (wpAny_letGo (wpAny_pure ?_))))
      exact hR1 vb _ tk (by omega) (by rw [ei];exact hP) fun b o hbw hbS e=>(Heap.get?_update_other _ _ (Ne.symm hbS)).trans (hk' b o hbw e)
  | succ k ih =>
    intro j s bs c hk hj hst hb hS hR0 hR1
    have hlt:j<n:=Nat.sub_pos_iff_lt.mp (by rw [hk];exact Nat.succ_pos k)
    refine codeAny_builtin F.entry_min_loop ?_;rw [Around.under_plainId F.plain_min_loop _]
    show wpAny _ A.in1 (seqItems? (.ref S) >>= _) _ _ s;refine wpAny_bind (wpAny_seqItems hS rfl ?_)
    rcases hb with ⟨e0,rfl⟩ | ⟨i,vb,ei,rfl,hPb⟩
    · show wpAny _ A.in1 (tryCatch (pyNext (.ref I)) _ >>= _) _ _ s;refine wpAny_bind (wpAny_tryCatch (W.item j s _ _ hlt hst fun v h' tk hP hst' hk'=>?_))
      have hS':=hk' S _ nSw hS
      show wpAny _ A.in1 (updateSeq S (fun _=>#[v,v]) >>= _) _ _ _
      refine wpAny_bind (wpAny_updateSeq hS' rfl ?_)
      rw [nm]
      subst e0
      refine wpAny_pure ⟨plainId_quiet F.plain_min_loop _,ih 1 _ _ _ (by omega) (by omega) (W.frame _ _ _ hst' fun b hbf o e=>(Heap.get?_update_other _ _ (fun h:S=b=>hSf (by rw [h];exact hbf))).trans e) (.inr ⟨0,v,rfl,rfl,hP⟩) (Heap.get?_update_self _ hS' rfl) (fun z=>by omega) fun v' h'' tk'' hn' hP' hk''=>?_⟩
      exact hR1 v' h'' tk'' hn' hP' fun b o hbw hbS e=>hk'' b o hbw hbS ((Heap.get?_update_other _ _ (Ne.symm hbS)).trans (hk' b o hbw e))
    · subst ei
      show wpAny _ A.in1 (tryCatch (pyNext (.ref I)) _ >>= _) _ _ s;refine wpAny_bind (wpAny_tryCatch (W.item (i + 1) s _ _ hlt hst fun v h' tk hP hst' hk'=>?_))
      have hS':=hk' S _ nSw hS
      show wpAny _ A.in1 (tryCatch (holding [v,v] (richCompare .Lt v vb >>= _)) _ >>= _) _ _ _
      refine wpAny_bind (wpAny_tryCatch (wpAny_holding (wpAny_bind (hcmp (i + 1) (argBest bt i) v vb _ _ _ hP hPb (wpAny_bind (wpAny_holding (wpAny_truthy_bool (wpAny_bind (wpAny_letGo (wpAny_pure ?_))))))))))
      cases hb:bt (i + 1) (argBest bt i) with
      | true =>
        simp only [if_true]
        refine wpAny_bind (wpAny_updateSeq hS' rfl (wpAny_bind (wpAny_letGo ?_)));rw [nm]
        refine wpAny_pure ⟨plainId_quiet F.plain_min_loop _,ih (i + 1 + 1) _ _ _ (by omega) (by omega) (W.frame _ _ _ hst' fun b hbf o e=>(Heap.get?_update_other _ _ (fun h:S=b=>hSf (by rw [h];exact hbf))).trans e) (.inr ⟨i + 1,v,rfl,rfl,by simp only [argBest,hb,if_true];exact hP⟩) (Heap.get?_update_self _ hS' rfl) (fun z=>by omega) fun v' h'' tk'' hn' hP' hk''=>?_⟩
        exact hR1 v' h'' tk'' hn' hP' fun b o hbw hbS e=>hk'' b o hbw hbS ((Heap.get?_update_other _ _ (Ne.symm hbS)).trans (hk' b o hbw e))
      | false =>
        simp only [Bool.false_eq_true,if_false]
        refine wpAny_bind (wpAny_letGo ?_);rw [nm]
        refine wpAny_pure ⟨plainId_quiet F.plain_min_loop _,ih (i + 1 + 1) _ _ c (by omega) (by omega) hst' (.inr ⟨i + 1,vb,rfl,rfl,by simp only [argBest,hb,Bool.false_eq_true,if_false];exact hPb⟩) hS' (fun z=>by omega) fun v' h'' tk'' hn' hP' hk''=>?_⟩
        exact hR1 v' h'' tk'' hn' hP' fun b o hbw hbS e=>hk'' b o hbw hbS (hk' b o hbw e)
end
section
variable {X:Cx}
def Za (K:PySem.W.Frag) (d:Int) (te:TE):TE:=fun σ H Q=>te σ H fun x H1=>∃ (p:Addr) (ns:List Int),x=.ref p∧SqL K H1 p (ns.map V.int)∧(ns=[]→Q (.int d) H1)∧∀ M∈ns,(∀ a∈ns,M≤a)→Q (.int M) H1
theorem Rq {e:Expr} {te:TE} {d:Int} {j:Nat} {p1 cp kp pos:Pos} (hcalm:X.calm=true) (hg:Gl X "min") (hm:X.mg "min"=none) (he:PE X e te) (h1:backTo pos (starEach [e] X.env)=(false,eval e X.env) :: backTo pos (starEach [] X.env):=by rfl) (h2:(backTo pos (starEach [e] X.env)).any (·.1)=false:=by rfl) :
    PE X (.Call (.Name "min" p1) [e] [⟨some "default",.Constant (.int d) j cp,kp⟩] pos) (Za X.K d te):=by
  intro pins s σ H Q I h
  refine wpAny_Call_Name_kw (jd I hg hm boot_min ?_)
  refine callWith_kw ?_ h1 h2
  rw [h1]
  refine Calls.spliced_cons (thn (he pins s σ H _ I h) fun u s1 ⟨x,H1,I1,rx,q1⟩=>?_)
  obtain ⟨p,ns,rfl,hq,q0,qm⟩:=q1
  cases rx
  refine Calls.spliced_nil ?_
  refine kws_cons (wpAny_Constant_int ?_)
  refine kws_nil ?_
  show wpAny _ _ (call (.builtin "min") [.ref p] [(Str.ofString "default",.int d _)]) _ _ _
  obtain ⟨its,r1,p1,hz⟩:=I1.list hq
  have hi:IntsAre its ns:=intsAre_of r1
  obtain ⟨ys,hx⟩:=hi.allInts.items
  have hl':s1.heap.IsList p (intItems ys):=hx ▸ p1.isList
  have hns:ns=ys.toList.map (·.1):=by
    rw [← nums_intItems,← hx]
    exact (show numsOf its.toArray.toList=ns from hi.numsOf).symm
  have nm:(toString "min"++toString ".loop":String)="min.loop":=by decide
  have hys:(intItems ys).size=ns.length:=by rw [hns];simp [intItems]
  refine kmb_tree F.kind_min F.plain_min F.entry_min (Bg _ _) ?_
  show wpAny _ _ (Builtin.Builtins.bindParams "min" ["key","default"] 0 ⟨[],[(Str.ofString "default",.int d s1.toks)]⟩ >>= _) _ _ _
  refine wpAny_bind (wpAny_of_eq (show Builtin.Builtins.bindParams "min" ["key","default"] 0 ⟨[],[(Str.ofString "default",.int d s1.toks)]⟩=pure [none,some (.int d s1.toks)] from rfl) ?_)
  refine wpAny_bind (wpAny_pure ?_)
  refine wpAny_bind (iter_intList (s:={ s1 with toks:=s1.toks + 1 }) hl' fun s₂ e st hfp hlI=>?_)
  subst e
  refine wpAny_bind (wpAny_newObj_type ?_);rw [nm]
  have kept:∀ {h':Heap} {g:Heap} {S:Addr},(∀ b o,s1.heap.get? b=some o→g.get? b=some o)→S=s1.heap.objs.size + 1→(∀ b o,b ∉ [s1.heap.objs.size]→b≠S→g.get? b=some o→h'.get? b=some o)→∀ b o,s1.heap.get? b=some o→h'.get? b=some o:=fun hg hS hk b o e=>by
    have lt:=Heap.lt_size e
    refine hk b o (fun z=>?_) (fun z=>?_) (hg b o e)
    · rw [List.mem_singleton.mp z] at lt;exact Nat.lt_irrefl _ lt
    · rw [z,hS] at lt;exact absurd lt (by simp only [Addr] at lt ⊢;omega)
  have hg2:∀ b o,s1.heap.get? b=some o→((s1.heap.push { cls:=.type "list_iterator",data:=.fields #[.ref p,.int 0 0] }).push { cls:=.type "list",data:=.seq #[] }).get? b=some o:=fun b o e=>Heap.get?_push_of_some _ (Heap.get?_push_of_some _ e)
  have hsz:(s1.heap.push { cls:=.type "list_iterator",data:=.fields #[.ref p,.int 0 0] }).objs.size=s1.heap.objs.size + 1:=Heap.size_push ..
  refine wpAny_pure ⟨plainId_quiet F.plain_min_loop _,Bf (Walks.list (A:=X.A.in1) (I.ok.hd hcalm) _ p hlI (intItems ys)) _ (CmpOf.ints_lt (numAt ys) (fun _ _=>intItems_at)) _ (fun hm=>Nat.lt_irrefl _ (hfp _ hm)) (.int d s1.toks) _ 0 _ #[] _ rfl (Nat.zero_le _)
    ⟨Heap.IsListIter.at st.1 fun o e=>Heap.get?_push_of_some _ e,st.2.push _⟩ (.inl ⟨rfl,rfl⟩) (Heap.get?_push_size _ rfl) (fun h0 h' tk hk=>?_) fun v h' tk hn hP hk=>?_⟩
  · have e0:ns=[]:=List.length_eq_zero_iff.mp (by rw [← hys];exact h0)
    exact ⟨.int d,H1,I1.kept (t':=tk) (kept hg2 hsz hk),⟨_,rfl⟩,q0 e0⟩
  · obtain ⟨t,rfl⟩:=intItems_at hP
    obtain ⟨h1,h2⟩:=argBest_lt (numAt ys) ((intItems ys).size - 1)
    have hyz:(intItems ys).size=ys.size:=by simp [intItems]
    refine ⟨.int _,H1,I1.kept (t':=tk) (kept hg2 hsz hk),⟨t,rfl⟩,qm _ ?_ fun a ha=>?_⟩
    · rw [hns,numAt_eq];exact getD_mem (by rw [List.length_map,Array.length_toList];omega)
    · rw [hns] at ha
      obtain ⟨j,hj,rfl⟩:=mem_getD ha
      rw [List.length_map,Array.length_toList] at hj
      rw [← numAt_eq];exact h2 j (by omega)
end
end L2
namespace L2
open PySem PySem.Spec PyProof.Rows
section
variable {κ:Type} [DecidableEq κ]
def uX (kvs:List (κ × V)) (k:κ):Option V:=(kvs.find? fun kv=>decide (kv.1=k)).map (·.2)
def putK (kvs:List (κ × V)) (k:κ) (v:V):List (κ × V) :=
  if (kvs.any fun kv=>decide (kv.1=k))=true then kvs.map (fun kv=>if kv.1=k then (kv.1,v) else kv) else kvs++[(k,v)]
theorem wB {p:κ × V} {r:List (κ × V)} {k:κ} (e:p.1=k):uX (p :: r) k=some p.2:=by simp [uX,List.find?_cons,e]
theorem wC {p:κ × V} {r:List (κ × V)} {k:κ} (e:¬ p.1=k):uX (p :: r) k=uX r k:=by simp [uX,List.find?_cons,e]
theorem wD (k:κ):∀ kvs:List (κ × V),(kvs.any fun kv=>decide (kv.1=k))=(uX kvs k).isSome
  | []=>rfl
  | p :: r=>by
    rw [List.any_cons]
    by_cases e:p.1=k
    · simp only [wB e,decide_eq_true e,Bool.true_or,Option.isSome_some]
    · rw [wC e,decide_eq_false e,Bool.false_or];exact wD k r
theorem vN (kvs:List (κ × V)) (k:κ) (v:V):(putK kvs k v).length≤kvs.length + 1:=by
  unfold putK
  split
  · rw [List.length_map];omega
  · rw [List.length_append,List.length_cons,List.length_nil];omega
theorem Ga {kvs:List (κ × V)} {k:κ} (v:V) (h:uX kvs k=none):putK kvs k v=kvs++[(k,v)]:=by
  unfold putK
  rw [wD,h]
  exact if_neg (by decide)
theorem KV.val {kvs:List (κ × V)} {vs:List (κ × Value)} (r:KV kvs vs) (k:κ):YT (uX kvs k) (valueAt vs k):=by
  unfold KV at r
  induction r with
  | nil=>exact True.intro
  | @cons p q ps qs h t ih =>
    obtain ⟨h1,h2⟩:=h
    by_cases e:p.1=k
    · have e':q.1=k:=h1.symm.trans e
      have b:valueAt (q :: qs) k=some q.2:=by simp [valueAt,List.find?_cons,e']
      rw [wB e,b];exact h2
    · have e':¬ q.1=k:=fun z=>e (h1.trans z)
      have b:valueAt (q :: qs) k=valueAt qs k:=by simp [valueAt,List.find?_cons,e']
      rw [wC e,b];exact ih
theorem KV.any {kvs:List (κ × V)} {vs:List (κ × Value)} (r:KV kvs vs) (k:κ):(kvs.any fun kv=>decide (kv.1=k))=vs.any fun kv=>decide (kv.1=k):=by
  unfold KV at r
  induction r with
  | nil=>rfl
  | cons h t ih=>rw [List.any_cons,List.any_cons,ih,h.1]
theorem KV.repl {kvs:List (κ × V)} {vs:List (κ × Value)} (r:KV kvs vs) (k:κ) {y:V} {u:Value} (ry:RelV y u) :
    KV (kvs.map fun kv=>if kv.1=k then (kv.1,y) else kv) (vs.map fun kv=>if kv.1=k then (kv.1,u) else kv):=by
  unfold KV at r ⊢
  induction r with
  | nil=>exact .nil
  | @cons p q ps qs h t ih =>
    rw [List.map_cons,List.map_cons]
    refine .cons ?_ ih
    obtain ⟨h1,h2⟩:=h
    by_cases e:p.1=k
    · rw [if_pos e,if_pos (h1.symm.trans e)];exact ⟨h1,ry⟩
    · rw [if_neg e,if_neg (fun z=>e (h1.trans z))];exact ⟨h1,h2⟩
theorem KV.put {kvs:List (κ × V)} {vs:List (κ × Value)} (r:KV kvs vs) (k:κ) {y:V} {u:Value} (ry:RelV y u):KV (putK kvs k y) (stored vs k u):=by
  unfold putK stored
  rw [r.any k]
  by_cases e:(vs.any fun kv=>decide (kv.1=k))=true
  · rw [if_pos e,if_pos e];exact r.repl k ry
  · rw [if_neg e,if_neg e];exact Paired.snoc r ⟨rfl,ry⟩
theorem KV.length {kvs:List (κ × V)} {vs:List (κ × Value)} (r:KV kvs vs):kvs.length=vs.length:=Paired.length r
end
theorem Vg {P:Program} {w:World} {k:Key} {u:Value} (r:RelV (kV k) u):(eN P w).is k u=true:=by
  cases k with
  | inl i=>obtain ⟨t,e⟩:=(show ∃ t,u=Value.int i t from r);subst e;exact vK P w i t
  | inr x=>obtain ⟨t,e⟩:=(show ∃ t,u=Value.str x t from r);subst e;exact vJ P w x t
theorem uh {P:Program} {w:World}:∀ {ks:List Key} {us:List Value},Vals (ks.map kV) us→ItemsAre (eN P w) ks us
  | [],_,r=>by rw [List.map_nil] at r;cases r;exact .nil
  | k :: ks,_,r=>by
    rw [List.map_cons] at r
    cases r with
    | cons h t=>exact .cons (Vg h) (uh t)
abbrev KT (H:Hp):List (List Key × V)→List (List Key × Addr × Value)→Prop:=Paired fun p q=>p.1=q.1∧H q.2.1=some (.tup (p.1.map kV))∧RelV p.2 q.2.2
section
variable {P:Program} {w:World} {H:Hp} {h:Heap} {a:Addr}
theorem Us {u:HO} (ok:HOk P w H h) (e:Rd H a u):dM P w H h a u:=e.ok ok
theorem Tq {kvs:List (Key × V)} (ok:HOk P w H h) (e:Rd H a (.dK kvs)):kvs.length≤sizeLine∧(a == sysModules)=false∧∃ vs,KV kvs vs∧h.DictOf (eN P w) a vs :=
  show dM P w H h a (.dK kvs) from Us ok e
theorem Z7 {kvs:List (Key × V)} (ok:HOk P w H h) (e:H a=some (.dK kvs)):kvs.length≤sizeLine∧(a == sysModules)=false∧∃ vs,KV kvs vs∧h.DictOf (eN P w) a vs:=Tq ok (.inl e)
theorem Vd {ks:List Key} (ok:HOk P w H h) (e:H a=some (.tup (ks.map kV))):(tupleKind (eN P w)).is h ks a:=by
  obtain ⟨_,its,r,o,h1,h2,n,h3⟩:=(show dM P w H h a (.tup (ks.map kV)) from ok a _ e)
  exact ⟨o,its.toArray,n,h1,h2,h3,by simpa using uh r⟩
theorem Z6 {kvs:List (List Key × V)} (ok:HOk P w H h) (e:Rd H a (.dT kvs)):kvs.length≤sizeLine∧(a == sysModules)=false ∧
    ∃ xs,KT H kvs xs∧h.DictOfH (tupleKind (eN P w)) a xs:=by
  obtain ⟨z,y,xs,r,o,es,ep,h1,h2,h3,h4,h5⟩:=(show dM P w H h a (.dT kvs) from Us ok e)
  refine ⟨z,y,xs,r,o,es,ep,h1,h2,h3,h4,fun x hx=>?_,h5⟩
  have all:∀ {l:List (List Key × V)} {m:List (List Key × Addr × Value)},KT H l m→∀ x∈m,(tupleKind (eN P w)).is h x.1 x.2.1:=by
    intro l m q
    induction q with
    | nil=>intro x hx;exact nomatch hx
    | @cons p q ps qs hq t ih =>
      intro x hx
      rcases List.mem_cons.mp hx with e | hx
      · subst e
        exact Vd ok (by rw [← hq.1];exact hq.2.1)
      · exact ih x hx
  exact all r x hx
end
section
variable {X:Cx} {pins:List (Addr × Obj)} {σ:St} {H:Hp} {s:Shared} {a:Addr} {y v:V} {u r:Value} {o:Option V} {A:Around} {E:Value→Shared→Prop}
theorem Inv.big (I:Inv X pins σ H s):sysModules<s.heap.objs.size:=by
  have h:mainGlobals<s.heap.objs.size:=(I.mod.glob.keeps I.bk).lt
  exact Nat.lt_trans (by decide) h
theorem Tt {h':Heap} {t':Nat} {ob:HO} (I:Inv X pins σ H s) (mu:Mut (H a)) (hs:Heap.SameBut a s.heap h') (he:∃ q,h'.get? a=some q) (new:dM X.prog X.w (upd H a ob) h' a ob) :
    Inv X pins σ (upd H a ob) { s with heap:=h',toks:=t' } :=
  I.write (x:=a) (e:=a) mu (.inl rfl) (fun b q hb z=>(hs.2 b hb).trans z) he new
theorem YC {P:Program} {w:World} {H':Hp} {h':Heap} {kvs:List (Key × V)} {vs:List (Key × Value)} (z:kvs.length≤sizeLine) (hd:(a == sysModules)=false) (rel:KV kvs vs) (dd:h'.DictOf (eN P w) a vs) :
    dM P w H' h' a (.dK kvs):=⟨z,hd,vs,rel,dd⟩
end
section
variable {X:Cx} {pins:List (Addr × Obj)} {σ:St} {H:Hp} {s:Shared} {a:Addr} {kvs:List (Key × V)} {k:Key} {u:Value} {A:Around} {E:Value→Shared→Prop}
end
section
variable {X:Cx} {o i e value:Expr} {pos pos' tpos:Pos} {td ty tv:TE}
end
theorem Ho {P:Program} {w:World} {H:Hp} (h:Heap) (hb:sysModules<h.objs.size):dM P w H (h.push { cls:=.type "dict",data:=.dict #[] }) h.objs.size (.dK []) :=
  ⟨Nat.zero_le _,beq_eq_false_iff_ne.mpr (Ne.symm (Nat.ne_of_lt hb)),[],.nil,Heap.DictOf.new h⟩
def Ui:TE:=fun _ H Q=>∀ p,H p=none→Q (.ref p) (upd H p (.dK []))
section
variable {X:Cx} {pos:Pos}
theorem Gg:PE X (.Dict [] [] pos) Ui:=fun pins s σ H Q I h =>
  wpAny_Dict_empty ⟨.ref s.heap.objs.size,_,I.laid (a:=s.heap.objs.size) (o:=.dK []) (t':=s.toks) (fun _ _ q=>Heap.get?_push_of_some _ q) (Nat.le_refl _) (Ho s.heap I.big),rfl,h _ (I.hok.fresh (Nat.le_refl _))⟩
end
abbrev VV:List (V × V)→List (Value × Value)→Prop:=Paired fun p q=>RelV p.1 q.1∧RelV p.2 q.2
structure M2 (X:Cx) (o:Expr) (m:Str) (apos:Pos) (e f:Expr) (cpos:Pos):Prop where
  base:attributeBase o m X.env (eval o X.env)=eval o X.env
  few:((backTo cpos (starEach [e,f] X.env)).all (fun x=>!x.1) && (backToKw cpos (keywordEach [] X.env)).all (fun x=>x.1.isSome)
    && decide (([e,f]:List Expr).length + ([]:List Keyword).length + (if ([]:List Keyword).isEmpty then 0 else 1)<30))=true
  line:(apos.endLine == cpos.line)=true
  trees:backTo cpos (starEach [e,f] X.env)=[(false,eval e X.env),(false,eval f X.env)]
def IsD (H:Hp) (a:Addr):Prop:=(∃ kvs,Rd H a (.dK kvs))∨∃ kvs,Rd H a (.dT kvs)
theorem Ip {X:Cx} {pins:List (Addr × Obj)} {σ:St} {H:Hp} {s:Shared} {a:Addr} (I:Inv X pins σ H s) (d:IsD H a) :
    s.TypeIs (.ref a) "dict"∧(∀ b,Value.ref a=.ref b→∃ ob,s.heap.get? b=some ob∧ob.dict=none)∧(a == sysModules)=false:=by
  rcases d with ⟨kvs,e⟩ | ⟨kvs,e⟩
  · obtain ⟨_,hd,vs,_,dd⟩:=Tq I.hok e
    refine ⟨dd.typeIs,fun b q=>?_,hd⟩
    cases q
    obtain ⟨ob,_,_,h1,h2,_⟩:=dd
    exact ⟨ob,h1,h2.2.1⟩
  · obtain ⟨_,hd,xs,_,dd⟩:=Z6 I.hok e
    refine ⟨dd.typeIs,fun b q=>?_,hd⟩
    cases q
    obtain ⟨ob,_,_,h1,h2,_⟩:=dd
    exact ⟨ob,h1,h2.2.1⟩
section
variable {X:Cx} {pins:List (Addr × Obj)} {σ:St} {H:Hp} {s:Shared} {a:Addr} {y d:V} {u r:Value} {o:Option V} {A:Around} {E:Value→Shared→Prop}
end
section
variable {X:Cx} {o e f:Expr} {apos cpos:Pos} {td ty tx:TE}
end
end L2
namespace L2
open PySem PySem.W PySem.Spec PyProof.Rows
def Zc (td ty tx:TE):TE:=fun σ H Q=>td σ H fun x H1=>∃ a,x=.ref a∧IsD H1 a∧ty σ H1 fun y H2=>tx σ H2 fun z H3=>∃ kvs k,H3 a=some (.dK kvs)∧y=kV k∧kvs.length<sizeLine ∧
  (∀ v,uX kvs k=some v→Q v H3)∧(uX kvs k=none→Q z (upd H3 a (.dK (putK kvs k z))))
section
variable {X:Cx} {o e f:Expr} {apos cpos:Pos} {td ty tx:TE}
theorem Rr (ho:PE X o td) (he:PE X e ty) (hf:PE X f tx) (m:M2 X o "setdefault" apos e f cpos):PE X (.Call (.Attribute o "setdefault" apos) [e,f] [] cpos) (Zc td ty tx):=by
  intro pins s σ H Q I h
  refine wpAny_Call_method m.base m.few m.line PySem.F.plainAttrs_dict PySem.F.slot_dict_setdefault PySem.F.type_dict_setdefault (thn (ho pins s σ H _ I h) fun u s1 ⟨x,H1,I1,rx,a,ex,d,q1⟩=>?_)
  subst ex
  obtain rfl:u=Value.ref a:=rx
  obtain ⟨t1,t2,_⟩:=Ip I1 d
  refine ⟨t1,t2,?_⟩
  rw [m.trees]
  refine Calls.callWith_builtin rfl (Calls.evalArgs_plain (Calls.spliced_cons (thn (he pins s1 σ H1 _ I1 q1) fun iv s2 ⟨y,H2,I2,ry,q2⟩ =>
    Calls.spliced_cons (thn (hf pins s2 σ H2 _ I2 q2) fun fv s3 ⟨z,H3,I3,rz,kvs,k,ea,ey,hl,q3,q4⟩=>Calls.spliced_nil ?_))))
  subst ey
  obtain ⟨z1,hd,vs,rel,dd⟩:=Z7 I3.hok ea
  have rv:=rel.val k
  have hlen:=rel.length
  refine call_meetsIn PySem.F.slot_dict_setdefault dd.typeIs PySem.F.entry_dict_setdefault (PySem.F.args_dict_setdefault_3 _ _ _) (kt_meets_setdefault (eN X.prog X.w) a (Vg ry) hd fv) ⟨vs,dd,by omega,fun v hv=>?_,fun hn h' dd' hs=>?_⟩
  · rw [hv] at rv
    cases l:uX kvs k with
    | none=>rw [l] at rv;cases rv
    | some v'=>rw [l] at rv;exact ⟨v',H3,I3.tok _,rv,q3 v' l⟩
  · rw [hn] at rv
    cases l:uX kvs k with
    | some v'=>rw [l] at rv;cases rv
    | none=>exact ⟨z,_,Tt I3 (by rw [ea];trivial) hs (by obtain ⟨ob,es,ep,he',_⟩:=dd';exact ⟨ob,he'⟩) (YC (Nat.le_trans (vN _ _ _) hl) hd (rel.put k rz) dd'),rz,q4 l⟩
end
def zE (td:TE):TE:=fun σ H Q=>td σ H fun x H1=>∃ a kvs,x=.ref a∧Rd H1 a (.dK kvs)∧∀ l,H1 l=none→Q (.ref l) (upd H1 l (.lst (kvs.map (·.2))))
theorem KV.vals {kvs:List (Key × V)} {vs:List (Key × Value)} (r:KV kvs vs):Vals (kvs.map (·.2)) (vs.map (·.2)):=by
  induction r with
  | nil=>exact .nil
  | cons h _ ih=>exact .cons h.2 ih
section
variable {X:Cx} {o:Expr} {td:TE} {p1 apos cpos pos:Pos}
theorem vG (hcalm:X.calm=true) (hgs:Gl X "list") (hms:X.mg "list"=none) (ho:PE X o td) (hb:attributeBase o "values" X.env (eval o X.env)=eval o X.env:=by rfl) (hline:(apos.endLine == cpos.line)=true:=by rfl) :
    PE X (.Call (.Name "list" p1) [.Call (.Attribute o "values" apos) [] [] cpos] [] pos) (zE td):=by
  intro pins s σ H Q I h
  refine Call_ (jd I hgs hms boot_list (PyProof.Rows.callWith_type1 ?_ rfl rfl))
  show wpAny _ _ (spliced ((false,eval (.Call (.Attribute o "values" apos) [] [] cpos) X.env) :: [])) _ _ s
  refine Calls.spliced_cons (wpAny_Call_method hb rfl hline PySem.F.plainAttrs_dict PySem.F.slot_dict_values PySem.F.type_dict_values (thn (ho pins s σ H _ I h) fun u s1 ⟨x,H1,I1,rx,a,kvs,ex,d,q1⟩=>?_))
  subst ex
  obtain rfl:u=Value.ref a:=rx
  obtain ⟨t1,t2,_⟩:=Ip I1 (.inl ⟨kvs,d⟩)
  refine ⟨t1,t2,?_⟩
  obtain ⟨hz,hd,vs,rel,dd⟩:=Tq I1.hok d
  refine Calls.callWith_builtin rfl (PyProof.Rows.evalArgs_none ?_)
  refine call_meetsIn PySem.F.slot_dict_values dd.typeIs PySem.F.entry_dict_values (PySem.F.args_dict_values_1 _) (meets_dict_values (eN X.prog X.w) a hd) ⟨⟨vs,dd⟩,?_⟩
  refine Calls.spliced_nil ?_
  obtain ⟨ep,da⟩:=dd.dictAt
  have hlen:=rel.length
  have hsz:(s1.heap.push { cls:=.type "dict_values",data:=.fields #[.ref a] }).objs.size=s1.heap.objs.size + 1:=Heap.size_push ..
  refine kdl_call (kdl_values (knd:=eN X.prog X.w) (r:=s1.heap.objs.size) (d:=a) (kvs:=vs) (ep:=ep)) (I.ok.hd hcalm) ⟨⟨_,Heap.get?_push_size _ rfl,rfl,rfl⟩,da.push _⟩ (by omega) fun h' tk acc c hk hS hacc=>?_
  have e:acc.toList=vs.map (·.2):=kdl_vals_eq acc.toList (by rw [Array.length_toList];exact hacc.1) fun j v ej=>hacc.2 j v (by rw [← Array.getElem?_toList];exact ej)
  refine ⟨.ref (s1.heap.push { cls:=.type "dict_values",data:=.fields #[.ref a] }).objs.size,_,I1.laid (t':=tk) (fun b o e=>hk b o (Heap.get?_push_of_some _ e)) (by rw [hsz];exact Nat.le_succ _)
    (show dM X.prog X.w _ h' _ (.lst (kvs.map (·.2))) from ⟨by rw [List.length_map];exact hz,acc.toList,c,by rw [e];exact rel.vals,by simpa using hS⟩),rfl,q1 _ (I1.hok.fresh (by rw [hsz];exact Nat.le_succ _))⟩
end
end L2
namespace L2
open PySem PySem.W PySem.Spec PyProof.Rows
section
variable {prog:Program} {w:World} {A:Around} {E:Value→Shared→Prop} {s:Shared}
end
section
variable {X:Cx}
theorem uz (xs:List V) (j:Nat):uF xs none (some (j:Int))=xs.take j:=by
  unfold uF
  rw [HT.mJ,show HT.sIx xs.length 0 none=0 from rfl,List.drop_zero,Nat.sub_zero]
  by_cases h:j≤xs.length
  · rw [Nat.min_eq_left h]
  · rw [Nat.min_eq_right (by omega),List.take_of_length_le (Nat.le_refl _),List.take_of_length_le (by omega)]
abbrev oLic (l:Lic):HO:=.tup (zp l)
abbrev oInts (w:List Int):HO:=.lst (w.map V.int)
end
end L2
namespace L2
open PySem PySem.W PySem.Spec PyProof.Rows
section
variable {X:Cx}
end
end L2
namespace L2
open PySem PySem.W PySem.Spec PyProof.Rows
end L2
namespace HT
open PySem PyProof.Rows
end HT
namespace L2
open PySem PySem.W PySem.Spec PyProof.Rows
end L2
namespace L2
open PySem
def Ris (l:List Nat):Prop:=l.Pairwise (·<·)
theorem tL {l:List Nat} (R:Ris l) {i j a b:Nat} (h:i<j) (ha:l[i]?=some a) (hb:l[j]?=some b):a<b:=by
  obtain ⟨hi,rfl⟩:=List.getElem?_eq_some_iff.mp ha
  obtain ⟨hj,rfl⟩:=List.getElem?_eq_some_iff.mp hb
  exact List.pairwise_iff_getElem.mp R i j hi hj h
theorem HB (xs:Array Nat) (j:Nat) (R:Ris xs.toList):∀ (fuel lo hi:Nat),hi≤xs.size→hi - lo≤fuel→lo≤hi →
    (∀ i a,i<lo→xs[i]?=some a→a<j)→(∀ i a,hi≤i→xs[i]?=some a→j≤a) →
    (∀ i a,i<SetTable.below.go xs j fuel lo hi→xs[i]?=some a→a<j)∧(∀ i a,SetTable.below.go xs j fuel lo hi≤i→xs[i]?=some a→j≤a)∧SetTable.below.go xs j fuel lo hi≤xs.size:=by
  intro fuel
  induction fuel with
  | zero =>
    intro lo hi h1 h2 h3 h4 h5
    unfold SetTable.below.go
    have:lo=hi:=by omega
    subst this
    exact ⟨h4,h5,h1⟩
  | succ f ih =>
    intro lo hi h1 h2 h3 h4 h5
    unfold SetTable.below.go
    by_cases hl:lo<hi
    · rw [if_pos hl]
      dsimp only
      have hm:(lo + hi) / 2<xs.size:=by omega
      have hx:xs[(lo + hi) / 2]?=some xs[(lo + hi) / 2]:=by simp [hm]
      have hg:xs.getD ((lo + hi) / 2) j=xs[(lo + hi) / 2]:=by rw [Array.getD_eq_getD_getElem?,hx];rfl
      rw [hg]
      split
      · rename_i hlt
        refine ih _ _ h1 (by omega) (by omega) (fun i a hi' ha=>?_) h5
        rcases Nat.lt_or_ge i ((lo + hi) / 2) with h | h
        · exact Nat.lt_trans (tL R h (by simpa using ha) (by simpa using hx)) hlt
        · have:i=(lo + hi) / 2:=by omega
          subst this
          rw [hx] at ha;cases ha;exact hlt
      · rename_i hge
        refine ih _ _ (by omega) (by omega) (by omega) h4 (fun i a hi' ha=>?_)
        rcases Nat.lt_or_ge ((lo + hi) / 2) i with h | h
        · have:=tL R h (by rw [Array.getElem?_toList];exact hx) (by rw [Array.getElem?_toList];exact ha)
          omega
        · have:i=(lo + hi) / 2:=by omega
          subst this
          rw [hx] at ha;cases ha;omega
    · rw [if_neg hl]
      have:lo=hi:=by omega
      subst this
      exact ⟨h4,h5,h1⟩
theorem qJ (xs:Array Nat) (j:Nat) (R:Ris xs.toList) :
    (∀ i a,i<SetTable.below xs j→xs[i]?=some a→a<j)∧(∀ i a,SetTable.below xs j≤i→xs[i]?=some a→j≤a)∧SetTable.below xs j≤xs.size :=
  HB xs j R xs.size 0 xs.size (Nat.le_refl _) (by omega) (Nat.zero_le _) (fun i a h=>absurd h (Nat.not_lt_zero _)) (fun i a h e=>by simp [Array.getElem?_eq_none h] at e)
theorem qI {xs:Array Nat} {j k:Nat} (R:Ris xs.toList) (hk:k≤xs.size) (h1:∀ i a,i<k→xs[i]?=some a→a<j) (h2:∀ i a,k≤i→xs[i]?=some a→j≤a):SetTable.below xs j=k:=by
  obtain ⟨b1,b2,b3⟩:=qJ xs j R
  rcases Nat.lt_trichotomy (SetTable.below xs j) k with h | h | h
  · have hx:xs[SetTable.below xs j]?=some xs[SetTable.below xs j]:=by simp
    have:=h1 _ _ h hx
    have:=b2 _ _ (Nat.le_refl _) hx
    omega
  · exact h
  · have hk':k<xs.size:=by omega
    have hx:xs[k]?=some xs[k]:=by simp [hk']
    have:=b1 _ _ h hx
    have:=h2 _ _ (Nat.le_refl _) hx
    omega
theorem yP (xs:Array Nat) (R:Ris xs.toList):SetTable.below xs 0=0:=qI R (Nat.zero_le _) (fun i a h=>absurd h (Nat.not_lt_zero _)) fun i a _ _=>Nat.zero_le _
theorem yQ {xs:Array Nat} {i a:Nat} (R:Ris xs.toList) (h:xs[i]?=some a):SetTable.below xs (a + 1)=i + 1:=by
  have hi:i<xs.size:=by
    rcases Nat.lt_or_ge i xs.size with h' | h'
    · exact h'
    · simp [Array.getElem?_eq_none h'] at h
  refine qI R hi (fun k b hk hb=>?_) fun k b hk hb=>?_
  · rcases Nat.lt_or_ge k i with h' | h'
    · have:=tL R h' (by simpa using hb) (by simpa using h);omega
    · have:k=i:=by omega
      subst this;rw [h] at hb;cases hb;omega
  · exact tL R (show i<k by omega) (by simpa using h) (by simpa using hb)
theorem Rm {xs:Array Nat} {j:Nat} (R:Ris xs.toList) (h:xs[SetTable.below xs j]?≠some j):Ris (SetTable.insertAt xs (SetTable.below xs j) j).toList:=by
  obtain ⟨b1,b2,b3⟩:=qJ xs j R
  have e:(SetTable.insertAt xs (SetTable.below xs j) j).toList=xs.toList.take (SetTable.below xs j)++j :: xs.toList.drop (SetTable.below xs j):=by
    simp [SetTable.insertAt,List.extract_eq_take_drop,List.take_of_length_le]
  have ha:∀ a∈xs.toList.take (SetTable.below xs j),a<j:=by
    intro a ha
    obtain ⟨i,hi,rfl⟩:=List.getElem_of_mem ha
    rw [List.length_take] at hi
    refine b1 i _ (by omega) ?_
    rw [List.getElem_take,← Array.getElem?_toList]
    exact List.getElem?_eq_getElem _
  have hd:∀ a∈xs.toList.drop (SetTable.below xs j),j<a:=by
    intro a ha'
    obtain ⟨i,hi,rfl⟩:=List.getElem_of_mem ha'
    rw [List.length_drop] at hi
    have hx:xs[SetTable.below xs j + i]?=some (xs.toList.drop (SetTable.below xs j))[i]:=by
      rw [List.getElem_drop,← Array.getElem?_toList]
      exact List.getElem?_eq_getElem _
    have h2:=b2 _ _ (Nat.le_add_right _ i) hx
    rcases Nat.lt_or_ge j (xs.toList.drop (SetTable.below xs j))[i] with h' | h'
    · exact h'
    · exfalso
      have ej:(xs.toList.drop (SetTable.below xs j))[i]=j:=by omega
      rw [ej] at hx
      cases i with
      | zero=>exact h hx
      | succ i =>
        have hlt:SetTable.below xs j<xs.size:=by simp at hi;omega
        have hz:xs[SetTable.below xs j]?=some xs[SetTable.below xs j]:=by simp
        have h3:=b2 _ _ (Nat.le_refl _) hz
        have h4:=tL R (show SetTable.below xs j<SetTable.below xs j + (i + 1) by omega) (by rw [Array.getElem?_toList];exact hz) (by rw [Array.getElem?_toList];exact hx)
        omega
  rw [e]
  refine List.pairwise_append.mpr ⟨R.sublist (List.take_sublist _ _),List.pairwise_cons.mpr ⟨hd,R.sublist (List.drop_sublist _ _)⟩,fun a h1 b h2=>?_⟩
  rcases List.mem_cons.mp h2 with rfl | h2
  · exact ha a h1
  · exact Nat.lt_trans (ha a h1) (hd b h2)
structure TOk (ld:Bool) (t:SetTable):Prop where
  led:t.led=ld
  dum:t.dummies=#[]
  ris:Ris t.place.toList
theorem TOk.fresh (ld:Bool):TOk ld (.fresh 0 0 ld):=⟨rfl,rfl,List.Pairwise.nil⟩
theorem TOk.standIn {ld:Bool} {t:SetTable} (T:TOk ld t) (n:Nat):TOk ld (t.standIn n) :=
  ⟨T.led,rfl,by show Ris (Array.range n).toList;rw [Array.toList_range];exact List.pairwise_lt_range⟩
theorem TOk.orStandIn {ld:Bool} {t:SetTable} (T:TOk ld t) (n:Nat):TOk ld (t.orStandIn n):=by
  unfold SetTable.orStandIn;split
  · exact T
  · exact T.standIn n
theorem qe {t:SetTable} {j:Nat} (hd:t.dummies=#[]):t.slot j≠.dummy∧(t.slot j=.empty→t.place[SetTable.below t.place j]?≠some j):=by
  unfold SetTable.slot SetTable.has
  rw [hd]
  dsimp only
  split
  · exact ⟨by simp,by simp⟩
  · rename_i hn
    exact ⟨by simp,fun _ e=>hn (by simp [e])⟩
theorem Gf {t:SetTable} (hd:t.dummies=#[]) (h:Int):∀ (fuel:Nat) (p:SetTable.Probe) (j:Nat) (d:Option Nat),p.dummy=none→SetTable.probe.go t (fun _=>h + 1) h fuel p=some (.empty j d)→t.slot j=.empty∧d=none:=by
  intro fuel
  induction fuel with
  | zero=>intro p j d _ e;simp [SetTable.probe.go] at e
  | succ f ih =>
    intro p j d hp e
    unfold SetTable.probe.go at e
    cases hs:t.slot p.j with
    | empty=>rw [hs] at e;simp at e;obtain ⟨rfl,rfl⟩:=e;exact ⟨hs,hp⟩
    | dummy=>exact absurd hs (qe hd).1
    | live i =>
      rw [hs] at e
      have hne:(h + 1 == h)=false:=by simp;omega
      simp only [hne,Bool.false_eq_true,if_false] at e
      refine ih _ j d ?_ e
      unfold SetTable.advance
      split <;> exact hp
theorem TOk.put {ld:Bool} {t:SetTable} (T:TOk ld t) {j:Nat} (h:t.slot j=.empty):TOk ld (t.put j).1:=by
  refine ⟨T.led,?_,Rm T.ris ((qe T.dum).2 h)⟩
  show (if SetTable.has t.dummies j then SetTable.eraseAt t.dummies (SetTable.below t.dummies j) else t.dummies)=#[]
  rw [T.dum];simp [SetTable.has]
theorem TOk.layNew {ld:Bool} {t:SetTable} (T:TOk ld t) (es:Array (Int × Value)) (h:Int) (x:Value):TOk ld (PySem.layNew t es h x).2.1:=by
  unfold PySem.layNew
  split
  · rename_i sl wd hf
    unfold SetTable.freeSlot SetTable.probe at hf
    split at hf
    · rename_i j d hg
      obtain ⟨h1,rfl⟩:=Gf T.dum h _ _ _ _ rfl hg
      simp at hf
      obtain ⟨rfl,rfl⟩:=hf
      exact (T.put h1).orStandIn _
    · cases hf
  · exact T.standIn _
theorem TOk.ZC {ld:Bool} {t:SetTable} (T:TOk ld t) (es:Array (Int × Value)) (k:Nat):TOk ld (relayAll t es k).2.1:=by
  unfold relayAll
  split
  · rename_i t' od hr
    dsimp only
    split
    · unfold SetTable.relaid SetTable.laid at hr
      cases hc:SetTable.layClean (SetTable.sizeAbove k - 1) (es.map (·.1)) with
      | none=>rw [hc] at hr;simp at hr
      | some ow =>
        rw [hc] at hr
        simp at hr
        obtain ⟨rfl,rfl⟩:=hr
        refine ⟨T.led,rfl,?_⟩
        show List.Pairwise _ _
        simp only [List.map_filterMap]
        refine List.Pairwise.filterMap _ (R:=(·<·)) (fun a a' hlt b hb b' hb'=>?_) List.pairwise_lt_range
        simp at hb hb'
        obtain ⟨_,_,rfl⟩:=hb
        obtain ⟨_,_,rfl⟩:=hb'
        exact hlt
    · exact T.standIn _
  · exact T.standIn _
theorem pB {α:Type} {l:List α} {i:Nat} (h:i<l.length):([l[i]]++l.eraseIdx i).Perm l:=by
  rw [List.eraseIdx_eq_take_drop_succ]
  conv=>rhs;rw [← List.take_append_drop i l,List.drop_eq_getElem_cons h]
  show (l[i] :: (List.take i l++List.drop (i + 1) l)).Perm _
  exact List.perm_middle.symm
theorem Rp {α:Type} (f:Nat→Nat):∀ (n k:Nat) (l:List α) (out:Array α),l.length=n→(pickOrder.go f n k l out).toList.Perm (out.toList++l):=by
  intro n
  induction n with
  | zero=>intro k l out hl;have:l=[]:=List.length_eq_zero_iff.mp hl;subst this;unfold pickOrder.go;simp
  | succ n ih =>
    intro k l out hl
    unfold pickOrder.go
    have hi:f k % l.length<l.length:=Nat.mod_lt _ (by omega)
    rw [List.getElem?_eq_getElem hi]
    dsimp only
    refine (ih _ _ _ (by rw [List.length_eraseIdx_of_lt hi];omega)).trans ?_
    rw [Array.toList_push,List.append_assoc]
    refine List.Perm.append_left _ ?_
    exact pB hi
theorem Aj {α:Type} (f:Nat→Nat) (xs:Array α):(pickOrder f xs).toList.Perm xs.toList:=by
  have:=Rp f xs.size 0 xs.toList #[] (by simp)
  rw [show (#[]:Array α).toList++xs.toList=xs.toList by simp] at this
  exact this
end L2
namespace L2
open PySem
abbrev YQ (w:World):Bool:=!w.params.followText "set-order"
structure sH (w:World) (h:Heap) (a:Addr) (es:Array (Int × Value)) (ep:Nat) (t:SetTable):Prop where
  ob:∃ o,h.get? a=some o∧o.cls=.type "set"∧o.data=.set es ep t
  fit:t.place.size=es.size∧t.fill≤t.mask
  tab:TOk (YQ w) t
theorem sH.at {w:World} {h h':Heap} {a:Addr} {es:Array (Int × Value)} {ep:Nat} {t:SetTable} (S:sH w h a es ep t) (k:∀ o,h.get? a=some o→h'.get? a=some o):sH w h' a es ep t :=
  ⟨let ⟨o,x,r⟩:=S.ob;⟨o,k o x,r⟩,S.fit,S.tab⟩
def jg (h:Heap) (I a:Addr) (fst:Value) (i n ep:Nat):Prop :=
  ∃ o,h.get? I=some o∧o.cls=.type "set_iterator"∧o.data=.fields #[fst,rawInt i,.ref a,rawInt n,rawInt ep]
theorem cC:Slot "set_iterator" "__next__" "set_iterator.__next__" :=
  .of (owner:="set_iterator") (n:="__next__") (by rw [typeLookup_type,builtinLookup_eq_fast];kernel_rfl) (by decide +kernel)
    (by decide +kernel) (by decide +kernel) (.inl (by decide +kernel)) (by rw [isSubtype_type];kernel_rfl)
theorem m8:Slot "set_iterator" "__iter__" "set_iterator.__iter__" :=
  .of (owner:="set_iterator") (n:="__iter__") (by rw [typeLookup_type,builtinLookup_eq_fast];kernel_rfl) (by decide +kernel)
    (by decide +kernel) (by decide +kernel) (.inl (by decide +kernel)) (by rw [isSubtype_type];kernel_rfl)
theorem jA:entryFor table "set_iterator.__next__"=some Builtin.«set_iterator.__next__»:=entryFor_of_fast (by kernel_rfl)
theorem rN:entryFor table "set_iterator.__iter__"=some Builtin.«dict_keyiterator.__iter__» :=
  entryFor_alias (id':="dict_keyiterator.__iter__") (by kernel_rfl) rfl
    (by decide +kernel) (by kernel_rfl)
theorem uy:entryFor table "set.__iter__"=some Builtin.«frozenset.__iter__» :=
  entryFor_alias (id':="frozenset.__iter__") (by kernel_rfl) rfl
    (by decide +kernel) (by kernel_rfl)
theorem jX (v:Value):argsOk "set_iterator.__next__" ⟨[v],[]⟩:=by
  unfold argsOk
  kernel_rfl
theorem uM (v:Value):argsOk "set_iterator.__iter__" ⟨[v],[]⟩:=by
  unfold argsOk
  kernel_rfl
section
variable {prog:Program} {w:World} {A:Around} {E:Value→Shared→Prop} {s:Shared} {a I:Addr} {es:Array (Int × Value)} {ep:Nat} {t:SetTable}
theorem jg.ty {fst:Value} {i n:Nat} (h:jg s.heap I a fst i n ep):s.TypeIs (.ref I) "set_iterator":=let ⟨o,x,y,_⟩:=h;⟨o,x,y⟩
theorem dO {Q:(Array (Int × Value) × Nat × SetTable)→Shared→Prop} (S:sH w s.heap a es ep t) (h:Q (es,ep,t) s):wpAny (model prog w) A (setState a) Q E s:=by
  obtain ⟨o,ho,_,hd⟩:=S.ob
  unfold setState
  refine wpAny_bind (wpAny_load ho ?_)
  rw [hd]
  dsimp only
  have hc:(t.place.size != es.size || decide (t.fill > t.mask))=false:=by simp [S.fit.1,Nat.not_lt.mpr S.fit.2]
  rw [hc]
  simp only [Bool.false_eq_true,↓reduceIte]
  exact wpAny_pure h
theorem zc {α:Type} {Q:α→Shared→Prop} (hh:A.handled=none) (h:∀ x h',(∃ o,h'.get? x=some o∧o.cls=.type "StopIteration")→(∀ b o,s.heap.get? b=some o→h'.get? b=some o)→E (.ref x) { s with heap:=h' }) :
    wpAny (model prog w) A (do raiseNew (← newExc (.type "StopIteration") []):Sem α) Q E s:=by
  refine wpAny_bind ?_
  simp only [newExc,newTuple]
  refine wpAny_bind (wpAny_newObj_type ?_ (by size_fits))
  refine wpAny_bind (m:=firstArgMember _ _) (wpAny_of_eq (a:=Value.none) (by first | rfl | (simp only [firstArgMember];rfl)) ?_)
  refine wpAny_newObj_type ?_ (by size_fits)
  simp only [raiseNew]
  refine wpAny_bind (wpAny_handled ?_)
  rw [hh]
  refine wpAny_bind (wpAny_pure (wpAny_throw (h _ _ ⟨_,Heap.get?_push_size _ rfl,rfl⟩ fun b o e=>?_)))
  exact Heap.get?_push_of_some _ (Heap.get?_push_of_some _ e)
end
end L2
namespace L2
open PySem
section
variable {prog:Program} {w:World} {A:Around} {E:Value→Shared→Prop} {s:Shared} {a I:Addr} {es:Array (Int × Value)} {ep:Nat} {t:SetTable}
theorem j4 {Q:Array (Int × Value)→Shared→Prop} (S:sH w s.heap a es ep t) (h:Q es s):wpAny (model prog w) A (setEntries a) Q E s:=by
  unfold setEntries
  exact wpAny_bind (dO S (wpAny_pure h))
theorem m6 {sl i:Nat} {Q:Option (Value × Nat)→Shared→Prop} (ht:w.params.followText "set-order"=true) (S:sH w s.heap a es ep t)
    (h:Q (((pickOrder (w.params.setOrder a ep) es)[i]?).map fun e=>(e.2,sl)) s):wpAny (model prog w) A (setNext a sl i ep) Q E s:=by
  unfold setNext setsByText
  refine wpAny_bind (dO S ?_)
  dsimp only
  refine wpAny_bind (wpAny_bind (wpAny_askSetting (wpAny_pure ?_)))
  show wpAny _ _ (if w.params.followText "set-order"=true then _ else _) _ _ _
  rw [if_pos ht]
  rw [if_neg (by simp)]
  unfold setWalk setsByText
  refine wpAny_bind (wpAny_bind (dO S ?_))
  dsimp only
  refine wpAny_bind (wpAny_bind (wpAny_askSetting (wpAny_pure ?_)))
  show wpAny _ _ (if w.params.followText "set-order"=true then _ else _) _ _ _
  rw [if_pos ht]
  exact wpAny_bind (wpAny_askSetting (wpAny_pure (wpAny_pure h)))
theorem lE {sl i:Nat} {Q:Option (Value × Nat)→Shared→Prop} (ht:w.params.followText "set-order"=false) (hp:(!t.plain && decide (es.size > 1))=false) (S:sH w s.heap a es ep t)
    (h:Q (match es[SetTable.below t.place sl]?,t.place[SetTable.below t.place sl]? with | some (_,x),some j=>some (x,j + 1) | _,_=>none) s):wpAny (model prog w) A (setNext a sl i ep) Q E s:=by
  unfold setNext setsByText
  refine wpAny_bind (dO S ?_)
  dsimp only
  refine wpAny_bind (wpAny_bind (wpAny_askSetting (wpAny_pure ?_)))
  show wpAny _ _ (if w.params.followText "set-order"=true then _ else _) _ _ _
  rw [if_neg (by rw [ht];decide)]
  refine wpAny_bind (wpAny_pure ?_)
  show wpAny _ _ (if (!t.plain && decide (es.size > 1))=true then _ else _) _ _ _
  rw [if_neg (by rw [hp];decide)]
  have hl:t.led=true:=by rw [S.tab.led];show (!w.params.followText "set-order")=true;rw [ht];rfl
  refine wpAny_bind ?_
  show wpAny _ _ (if (!t.led && !es.isEmpty)=true then _ else _) _ _ _
  rw [if_neg (by rw [hl];simp)]
  exact wpAny_pure (wpAny_pure h)
theorem nP {fst i n:Nat} {Q:Option Value→Shared→Prop} (hh:A.handled=none) (S:sH w s.heap a es ep t) (hn:n=es.size) (It:jg s.heap I a (rawInt fst) i n ep) (r:Option (Value × Nat))
    (hr:∀ (A':Around) (E':Value→Shared→Prop) (Q':Option (Value × Nat)→Shared→Prop),Q' r s→wpAny (model prog w) A' (setNext a fst i ep) Q' E' s)
    (h:∀ h',(∀ b o,b≠I→s.heap.get? b=some o→h'.get? b=some o)→(∀ x k,r=some (x,k)→jg h' I a (rawInt k) (i + 1) n ep)→Q (r.map (·.1)) { s with heap:=h' }) :
    wpAny (model prog w) A (pyNext (.ref I)) Q E s:=by
  obtain ⟨o,ho,hc,hd⟩:=id It
  unfold pyNext
  refine wpAny_bind (wpAny_attempt (wpAny_callSpecial?_slot (name:=Str.ofString "__next__") It.ty cC (wpAny_call_entry cC It.ty jA ?_ (jX _))))
  show wpAny _ _ (fieldsOf (.ref I) >>= _) _ _ s
  refine wpAny_bind (wpAny_fieldsOf ho hd ?_)
  show wpAny _ _ (setEntries a >>= _) _ _ s
  refine wpAny_bind (j4 S ?_)
  rw [if_neg (by subst hn;simp)]
  show wpAny _ _ (setNext a (Int.toNat (fst:Int)) (Int.toNat (i:Int)) (Int.toNat (ep:Int)) >>= _) _ _ s
  simp only [Int.toNat_natCast]
  refine wpAny_bind (hr _ _ _ ?_)
  cases r with
  | none =>
    dsimp only
    refine wpAny_bind (wpAny_setField ho hd (by simp) ?_)
    refine zc hh fun x h' hx hk=>?_
    refine wpAny_bind (wpAny_isInstance (T:="StopIteration") (b:=true) hx isSubtype_stop ?_)
    exact wpAny_pure (h h' (fun b o hb e=>hk b o ((Heap.get?_update_other _ _ (Ne.symm hb)).trans e)) (fun _ _ z=>nomatch z))
  | some p =>
    obtain ⟨x,k⟩:=p
    dsimp only
    refine wpAny_bind (wpAny_setField ho hd (by simp) ?_)
    have ho1:=Heap.get?_update_self (Obj.mapFields (·.setIfInBounds 0 (rawInt k))) ho (Obj.isFreed_of_fields (Obj.data_mapFields hd _))
    have hd1:=Obj.data_mapFields hd (·.setIfInBounds 0 (rawInt k))
    refine wpAny_bind (wpAny_setField ho1 hd1 (by simp) ?_)
    refine wpAny_pure ⟨x,rfl,wpAny_pure (h _ (fun b o hb e=>?_) fun x' k' e=>?_)⟩
    · exact (Heap.get?_update_other _ _ (Ne.symm hb)).trans ((Heap.get?_update_other _ _ (Ne.symm hb)).trans e)
    · cases e
      exact ⟨_,Heap.get?_update_self _ ho1 (Obj.isFreed_of_fields (Obj.data_mapFields hd1 _)),(Obj.cls_mapFields ..).trans ((Obj.cls_mapFields ..).trans hc),by
        rw [Obj.data_mapFields hd1];simp [rawInt]⟩
theorem o8 {fst:Value} {i n:Nat} {Q:Value→Shared→Prop} (It:jg s.heap I a fst i n ep) (h:Q (.ref I) s):wpAny (model prog w) A (pyIter (.ref I)) Q E s:=by
  refine wpAny_pyIter_slot It.ty m8 (wpAny_call_entry m8 It.ty rN ?_ (uM _))
  show wpAny _ _ (ret (.ref I)) _ _ s
  exact wpAny_pure ⟨_,rfl,"set_iterator",_,It.ty,cC.lookup,h⟩
theorem jg.at {h h':Heap} {fst:Value} {i n:Nat} (x:jg h I a fst i n ep) (k:∀ o,h.get? I=some o→h'.get? I=some o):jg h' I a fst i n ep:=let ⟨o,y,r⟩:=x;⟨o,k o y,r⟩
theorem xX (hh:A.handled=none) (ht:w.params.followText "set-order"=true) (hne:a≠I) (vs:List Value) (hv:vs=((pickOrder (w.params.setOrder a ep) es).toList.map (·.2))) (hl:vs.length=es.size) :
    Walks prog w A I [I,a] [I] vs.length (fun i v=>vs[i]?=some v) (fun i h=>jg h I a (rawInt (0:Nat)) i es.size ep∧sH w h a es ep t) where
  sub:=fun b hb=>by simp at hb;simp [hb]
  frame:=fun _ _ _ st hk=>⟨st.1.at fun o e=>hk I (by simp) o e,st.2.at fun o e=>hk a (by simp) o e⟩
  item:=fun i s Q E hi st hQ=>by
    obtain ⟨e,he⟩:∃ e,(pickOrder (w.params.setOrder a ep) es)[i]?=some e:=by
      have:i<(pickOrder (w.params.setOrder a ep) es).size:=by rw [hv] at hi;simpa using hi
      exact ⟨_,by simp [this];rfl⟩
    have hx:vs[i]?=some e.2:=by rw [hv,List.getElem?_map,Array.getElem?_toList,he];rfl
    refine nP hh st.2 rfl st.1 (some (e.2,0)) (fun A' E' Q' q=>m6 ht st.2 (by rw [he];exact q)) fun h' k it=>?_
    exact hQ e.2 h' s.toks hx ⟨it _ _ rfl,st.2.at fun o z=>k a o hne z⟩ fun b o hb z=>k b o (fun q=>hb (by simp [q])) z
  done:=fun s Q E st hQ=>by
    have he:(pickOrder (w.params.setOrder a ep) es)[vs.length]?=none:=by
      rw [hv];simp
    refine nP hh st.2 rfl st.1 none (fun A' E' Q' q=>m6 ht st.2 (by rw [he];exact q)) fun h' k it=>?_
    exact hQ h' s.toks fun b o hb z=>k b o (fun q=>hb (by simp [q])) z
  self:=fun _ _ _ _ st hQ=>o8 st.1 hQ
theorem uZ (hh:A.handled=none) (ht:w.params.followText "set-order"=false) (hp:(!t.plain && decide (es.size > 1))=false) (hne:a≠I) (vs:List Value) (hv:vs=(es.toList.map (·.2))) :
    Walks prog w A I [I,a] [I] vs.length (fun i v=>vs[i]?=some v) (fun i h=>(∃ k:Nat,jg h I a (rawInt k) i es.size ep∧SetTable.below t.place k=i)∧sH w h a es ep t) where
  sub:=fun b hb=>by simp at hb;simp [hb]
  frame:=fun _ _ _ st hk=>⟨let ⟨k,x,y⟩:=st.1;⟨k,x.at fun o e=>hk I (by simp) o e,y⟩,st.2.at fun o e=>hk a (by simp) o e⟩
  item:=fun i s Q E hi st hQ=>by
    obtain ⟨⟨k,it,hb⟩,S⟩:=st
    have hi':i<es.size:=by rw [hv] at hi;simpa using hi
    have hip:i<t.place.size:=by rw [S.fit.1];exact hi'
    have he:es[i]?=some (es[i].1,es[i].2):=by rw [Array.getElem?_eq_getElem hi']
    have hq:t.place[i]?=some t.place[i]:=by rw [Array.getElem?_eq_getElem hip]
    have hx:vs[i]?=some es[i].2:=by rw [hv,List.getElem?_map,Array.getElem?_toList,he];rfl
    refine nP hh S rfl it (some (es[i].2,t.place[i] + 1)) (fun A' E' Q' q=>lE ht hp S (by rw [hb,he,hq];exact q)) fun h' kk it'=>?_
    exact hQ es[i].2 h' s.toks hx ⟨⟨_,it' _ _ rfl,yQ S.tab.ris hq⟩,S.at fun o z=>kk a o hne z⟩ fun b o hb z=>kk b o (fun q=>hb (by simp [q])) z
  done:=fun s Q E st hQ=>by
    obtain ⟨⟨k,it,hb⟩,S⟩:=st
    have he:es[vs.length]?=none:=by rw [hv];simp
    refine nP hh S rfl it none (fun A' E' Q' q=>lE ht hp S (by rw [hb,he];exact q)) fun h' kk it'=>?_
    exact hQ h' s.toks fun b o hb z=>kk b o (fun q=>hb (by simp [q])) z
  self:=fun _ _ _ _ st hQ=>let ⟨k,x,y⟩:=st.1;o8 x hQ
end
end L2
namespace L2
open PySem
section
variable {prog:Program} {w:World} {A:Around} {E:Value→Shared→Prop} {s:Shared} {a I:Addr} {es:Array (Int × Value)} {ep:Nat} {t:SetTable}
theorem wp_choose {src:Source} {n:Nat} {Q:Nat→Shared→Prop} (hn:n≠0) (h:∀ k d',k<n→Q k { s with drawn:=d' }):wpAny (model prog w) A (choose src n) Q E s :=
  fun _ _ _=>⟨hn,h _ _ (Nat.mod_lt _ (Nat.pos_of_ne_zero hn))⟩
theorem Q8:∀ (n:Nat) (xs:List Nat) {s:Shared} {Q:List Nat→Shared→Prop},xs.length=n→(∀ ys d',ys.Perm xs→Q ys { s with drawn:=d' })→wpAny (model prog w) A (drawOrder n xs) Q E s:=by
  intro n
  induction n with
  | zero =>
    intro xs s Q hl h
    have:xs=[]:=List.length_eq_zero_iff.mp hl
    subst this
    exact wpAny_pure (h [] s.drawn List.Perm.nil)
  | succ n ih =>
    intro xs s Q hl h
    match xs,hl with
    | x :: xs,hl =>
      unfold drawOrder
      refine wpAny_bind (wp_choose (by simp) fun k d' hk=>?_)
      rw [List.getElem?_eq_getElem hk]
      dsimp only
      refine wpAny_bind (ih _ (by rw [List.length_eraseIdx_of_lt hk];simp at hl ⊢;exact hl) fun ys d'' hp=>wpAny_pure (h _ d'' ?_))
      exact ((List.Perm.cons _ hp).trans (pB hk))
theorem qK {k:Nat} {e:Int × Value} {Q:Value→Shared→Prop} (S:sH w s.heap a es ep t) (he:es[k]?=some e) (h:Q e.2 s):wpAny (model prog w) A (setNextDrawn a k ep) Q E s:=by
  unfold setNextDrawn
  refine wpAny_bind (dO S ?_)
  dsimp only
  rw [if_neg (by simp),he]
  exact wpAny_pure h
def IsTup (h:Heap) (T:Addr) (l:List Nat):Prop:=∃ o,h.get? T=some o∧o.data=.seq (l.map fun (i:Nat)=>rawInt i).toArray 0
theorem u5 {T:Addr} (hh:A.handled=none) (hne:a≠I) (hT:T≠I) (od:List Nat) (hod:od.length=es.size) (hlt:∀ k∈od,k<es.size) (vs:List Value) (hv:vs=od.map fun k=>(es.getD k (0,.none)).2) :
    Walks prog w A I [I,a,T] [I] vs.length (fun i v=>vs[i]?=some v) (fun i h=>jg h I a (.ref T) i es.size ep∧sH w h a es ep t∧IsTup h T od) where
  sub:=fun b hb=>by simp at hb;simp [hb]
  frame:=fun _ _ _ st hk=>⟨st.1.at fun o e=>hk I (by simp) o e,st.2.1.at fun o e=>hk a (by simp) o e,let ⟨o,x,y⟩:=st.2.2;⟨o,hk T (by simp) o x,y⟩⟩
  item:=fun i s Q E hi st hQ=>by
    obtain ⟨It,S,To⟩:=st
    obtain ⟨o,ho,hc,hd⟩:=id It
    obtain ⟨oT,hoT,hdT⟩:=id To
    have hi':i<od.length:=by rw [hv] at hi;simpa using hi
    have hk:od[i]<es.size:=hlt _ (List.getElem_mem hi')
    have he:es[od[i]]?=some es[od[i]]:=by rw [Array.getElem?_eq_getElem hk]
    have hx:vs[i]?=some es[od[i]].2:=by
      rw [hv,List.getElem?_map,List.getElem?_eq_getElem hi']
      show some (es.getD od[i] (0,.none)).2=_
      rw [Array.getD_eq_getD_getElem?,he];rfl
    have hpl:((od.map fun (i:Nat)=>rawInt i).toArray)[i]?=some (rawInt (od[i]:Nat)):=by
      rw [List.getElem?_toArray,List.getElem?_map,List.getElem?_eq_getElem hi'];rfl
    unfold pyNext
    refine wpAny_bind (wpAny_attempt (wpAny_callSpecial?_slot (name:=Str.ofString "__next__") It.ty cC (wpAny_call_entry cC It.ty jA ?_ (jX _))))
    show wpAny _ _ (fieldsOf (.ref I) >>= _) _ _ s
    refine wpAny_bind (wpAny_fieldsOf ho hd ?_)
    show wpAny _ _ (setEntries a >>= _) _ _ s
    refine wpAny_bind (j4 S ?_)
    rw [if_neg (by simp)]
    show wpAny _ _ (seqItems? (.ref T) >>= _) _ _ s
    refine wpAny_bind (wpAny_seqItems hoT hdT ?_)
    show wpAny _ _ (match ((od.map fun (i:Nat)=>rawInt i).toArray)[Int.toNat (i:Int)]? with | some (.int place _)=>_ | some _=>_ | none=>_) _ _ s
    simp only [Int.toNat_natCast,hpl]
    show wpAny _ _ (setNextDrawn a (Int.toNat (od[i]:Nat)) (Int.toNat (ep:Nat)) >>= _) _ _ s
    simp only [Int.toNat_natCast]
    refine wpAny_bind (qK S he ?_)
    refine wpAny_bind (wpAny_setField ho hd (by simp) ?_)
    have kk:∀ b o,b≠I→s.heap.get? b=some o→(s.heap.update I (Obj.mapFields (·.setIfInBounds 1 (rawInt ((i:Int) + 1))))).get? b=some o:=fun b o hb e=>(Heap.get?_update_other _ _ (Ne.symm hb)).trans e
    refine wpAny_pure ⟨_,rfl,wpAny_pure (hQ _ _ s.toks hx ⟨?_,S.at fun o z=>kk a o hne z,oT,kk T oT hT hoT,hdT⟩ fun b o hb z=>kk b o (fun q=>hb (by simp [q])) z)⟩
    exact ⟨_,Heap.get?_update_self _ ho (Obj.isFreed_of_fields (Obj.data_mapFields hd _)),(Obj.cls_mapFields ..).trans hc,by rw [Obj.data_mapFields hd];simp [rawInt]⟩
  done:=fun s Q E st hQ=>by
    obtain ⟨It,S,To⟩:=st
    obtain ⟨o,ho,hc,hd⟩:=id It
    obtain ⟨oT,hoT,hdT⟩:=id To
    have hl:vs.length=od.length:=by rw [hv];simp
    have hpl:((od.map fun (i:Nat)=>rawInt i).toArray)[vs.length]?=none:=by rw [List.getElem?_toArray,List.getElem?_map,hl];simp
    unfold pyNext
    refine wpAny_bind (wpAny_attempt (wpAny_callSpecial?_slot (name:=Str.ofString "__next__") It.ty cC (wpAny_call_entry cC It.ty jA ?_ (jX _))))
    show wpAny _ _ (fieldsOf (.ref I) >>= _) _ _ s
    refine wpAny_bind (wpAny_fieldsOf ho hd ?_)
    show wpAny _ _ (setEntries a >>= _) _ _ s
    refine wpAny_bind (j4 S ?_)
    rw [if_neg (by simp)]
    show wpAny _ _ (seqItems? (.ref T) >>= _) _ _ s
    refine wpAny_bind (wpAny_seqItems hoT hdT ?_)
    show wpAny _ _ (match ((od.map fun (i:Nat)=>rawInt i).toArray)[Int.toNat (vs.length:Int)]? with | some (.int place _)=>_ | some _=>_ | none=>_) _ _ s
    simp only [Int.toNat_natCast,hpl]
    refine wpAny_bind (wpAny_setField ho hd (by simp) ?_)
    have ho1:=Heap.get?_update_self (Obj.mapFields (·.setIfInBounds 0 (rawInt 0))) ho (Obj.isFreed_of_fields (Obj.data_mapFields hd _))
    have hd1:=Obj.data_mapFields hd (·.setIfInBounds 0 (rawInt 0))
    refine wpAny_bind (wpAny_setField ho1 hd1 (by simp) ?_)
    refine zc hh fun x h' hx hk=>?_
    refine wpAny_bind (wpAny_isInstance (T:="StopIteration") (b:=true) hx isSubtype_stop ?_)
    exact wpAny_pure (hQ h' s.toks fun b o hb e=>hk b o ((Heap.get?_update_other _ _ (fun q:I=b=>hb (by simp [q]))).trans ((Heap.get?_update_other _ _ (fun q:I=b=>hb (by simp [q]))).trans e)))
  self:=fun _ _ _ _ st hQ=>o8 st.1 hQ
theorem yD {α:Type} (xs:List α) (d:α) {od:List Nat} (h:od.Perm (List.range xs.length)):(od.map fun k=>xs.getD k d).Perm xs:=by
  refine (h.map _).trans (List.Perm.of_eq ?_)
  refine List.ext_getElem (by simp) fun i h1 h2=>?_
  simp at h1 ⊢
  rw [List.getElem?_eq_getElem h1]
  rfl
theorem vX (v:Value):argsOk "set.__iter__" ⟨[v],[]⟩:=by
  unfold argsOk
  kernel_rfl
theorem oE:Slot "set" "__iter__" "set.__iter__" :=
  .of (owner:="set") (n:="__iter__") (by rw [typeLookup_type,builtinLookup_eq_fast];kernel_rfl) (by decide +kernel)
    (by decide +kernel) (by decide +kernel) (.inl (by decide +kernel)) (by rw [isSubtype_type];kernel_rfl)
theorem G3 {Q:Value→Shared→Prop} (S:sH w s.heap a es ep t) (hb:es.size<scanBound) (hh:A.handled=none)
    (h:∀ (I:Addr) (fp:List Addr) (vs:List Value) (St:Nat→Heap→Prop) (h':Heap) d',s.heap.objs.size≤I→(∀ b o,s.heap.get? b=some o→h'.get? b=some o)→(∃ o,h'.get? I=some o∧o.cls=.type "set_iterator") →
      (∀ b∈fp,b=a∨s.heap.objs.size≤b)→Walks prog w A I fp [I] vs.length (fun i v=>vs[i]?=some v) St→St 0 h'→vs.Perm (es.toList.map (·.2))→Q (.ref I) { s with heap:=h',drawn:=d' }) :
    wpAny (model prog w) A (pyIter (.ref a)) Q E s:=by
  obtain ⟨oa,hoa,hca,hda⟩:=S.ob
  have hta:s.TypeIs (.ref a) "set":=⟨oa,hoa,hca⟩
  have hlt:a<s.heap.objs.size:=Heap.lt_size hoa
  refine wpAny_pyIter_slot hta oE (wpAny_call_entry oE hta uy ?_ (vX _))
  show wpAny _ _ (Builtin.Frozenset.sizeOf a >>= _) _ _ s
  unfold Builtin.Frozenset.sizeOf
  refine wpAny_bind (wpAny_bind (j4 S (wpAny_pure ?_)))
  unfold setDrawn setsByText
  refine wpAny_bind (wpAny_bind (dO S (wpAny_bind (wpAny_bind (wpAny_askSetting (wpAny_pure ?_))))))
  show wpAny _ _ (pure (!w.params.followText "set-order" && (!t.plain && decide (es.size > 1)))) _ _ s
  refine wpAny_pure ?_
  by_cases hd:(!w.params.followText "set-order" && (!t.plain && decide (es.size > 1)))=true
  · rw [if_pos hd]
    refine wpAny_bind (Q8 es.size (List.range es.size) (by simp) fun od d' hp=>?_)
    have hodl:od.length=es.size:=by rw [hp.length_eq];simp
    refine wpAny_bind (wpAny_newTuple ?_ (by rw [List.length_map,hodl,sizeLine_eq];unfold scanBound at hb;omega))
    have hto:(s.heap.push { cls:=.type "tuple",data:=.seq (od.map fun (i:Nat)=>rawInt i).toArray }).get? s.heap.objs.size=some { cls:=.type "tuple",data:=.seq (od.map fun (i:Nat)=>rawInt i).toArray }:=Heap.get?_push_size _ rfl
    refine wpAny_bind ?_
    unfold setEpoch
    have S1:sH w (s.heap.push { cls:=.type "tuple",data:=.seq (od.map fun (i:Nat)=>rawInt i).toArray }) a es ep t:=S.at fun o e=>Heap.get?_push_of_some _ e
    refine wpAny_bind (dO S1 (wpAny_pure ?_))
    unfold newFields
    refine wpAny_bind (wpAny_newObj_type ?_ (by size_fits))
    refine wpAny_pure ⟨_,rfl,"set_iterator",_,⟨_,Heap.get?_push_size _ rfl,rfl⟩,cC.lookup,?_⟩
    have hsz:(s.heap.push { cls:=.type "tuple",data:=.seq (od.map fun (i:Nat)=>rawInt i).toArray }).objs.size=s.heap.objs.size + 1:=Heap.size_push _ _
    have hvs:=yD (es.toList) ((0:Int),Value.none) (od:=od) (by simpa using hp)
    refine h _ [_,a,s.heap.objs.size] ((od.map fun k=>(es.getD k (0,.none)).2)) _ _ d' (by rw [hsz];omega) (fun b o e=>Heap.get?_push_of_some _ (Heap.get?_push_of_some _ e)) ⟨_,Heap.get?_push_size _ rfl,rfl⟩ (fun b hb=>?_)
      (u5 (T:=s.heap.objs.size) (es:=es) (ep:=ep) (t:=t) hh (Nat.ne_of_lt (by rw [hsz];exact Nat.lt_succ_of_lt hlt)) (Nat.ne_of_lt (by rw [hsz];exact Nat.lt_succ_self _)) od hodl (fun k hk=>by simpa using hp.mem_iff.mp hk) _ rfl) ⟨⟨_,Heap.get?_push_size _ rfl,rfl,rfl⟩,S1.at fun o e=>Heap.get?_push_of_some _ e,_,Heap.get?_push_of_some _ hto,rfl⟩ ?_
    · rcases List.mem_cons.mp hb with rfl | hb
      · exact .inr (by rw [hsz];exact Nat.le_succ _)
      · rcases List.mem_cons.mp hb with rfl | hb
        · exact .inl rfl
        · exact .inr (by rw [List.mem_singleton.mp hb];exact Nat.le_refl _)
    · have:=hvs.map (·.2)
      rw [List.map_map] at this
      refine List.Perm.trans (List.Perm.of_eq ?_) this
      refine List.map_congr_left fun k _=>?_
      show _=(es.toList.getD k _).2
      rw [Array.getD_eq_getD_getElem?,List.getD_eq_getElem?_getD,Array.getElem?_toList]
  · rw [if_neg hd]
    refine wpAny_bind (wpAny_pure ?_)
    refine wpAny_bind ?_
    unfold setEpoch
    refine wpAny_bind (dO S (wpAny_pure ?_))
    unfold newFields
    refine wpAny_bind (wpAny_newObj_type ?_ (by size_fits))
    refine wpAny_pure ⟨_,rfl,"set_iterator",_,⟨_,Heap.get?_push_size _ rfl,rfl⟩,cC.lookup,?_⟩
    have hfp:∀ b∈[s.heap.objs.size,a],b=a∨s.heap.objs.size≤b:=by
      intro b hb
      rcases List.mem_cons.mp hb with rfl | hb
      · exact .inr (Nat.le_refl _)
      · exact .inl (List.mem_singleton.mp hb)
    have hS:=S.at (h':=s.heap.push { cls:=.type "set_iterator",data:=.fields [rawInt 0,rawInt 0,Value.ref a,rawInt es.size,rawInt ep].toArray }) fun o e=>Heap.get?_push_of_some _ e
    cases hx:w.params.followText "set-order" with
    | true =>
      have hpp:=Aj (w.params.setOrder a ep) es
      refine h _ [_,a] ((pickOrder (w.params.setOrder a ep) es).toList.map (·.2)) _ _ s.drawn (Nat.le_refl _) (fun b o e=>Heap.get?_push_of_some _ e) ⟨_,Heap.get?_push_size _ rfl,rfl⟩ hfp
        (xX (es:=es) (ep:=ep) (t:=t) hh hx (Nat.ne_of_lt hlt) _ rfl (by rw [List.length_map,hpp.length_eq];simp)) ⟨⟨_,Heap.get?_push_size _ rfl,rfl,rfl⟩,hS⟩ (hpp.map _)
    | false =>
      refine h _ [_,a] (es.toList.map (·.2)) _ _ s.drawn (Nat.le_refl _) (fun b o e=>Heap.get?_push_of_some _ e) ⟨_,Heap.get?_push_size _ rfl,rfl⟩ hfp
        (uZ (es:=es) (ep:=ep) (t:=t) hh hx (by rw [hx] at hd;simpa using hd) (Nat.ne_of_lt hlt) _ rfl) ⟨⟨0,⟨_,Heap.get?_push_size _ rfl,rfl,rfl⟩,yP _ S.tab.ris⟩,hS⟩ (List.Perm.refl _)
end
end L2
namespace L2
open PySem
section
variable {prog:Program} {w:World} {A:Around} {E:Value→Shared→Prop} {s:Shared} {a I:Addr} {es:Array (Int × Value)} {ep:Nat} {t:SetTable}
theorem yu:Slot "set" "__len__" "set.__len__" :=
  .of (owner:="set") (n:="__len__") (by rw [typeLookup_type,builtinLookup_eq_fast];kernel_rfl) (by decide +kernel)
    (by decide +kernel) (by decide +kernel) (.inl (by decide +kernel)) (by rw [isSubtype_type];kernel_rfl)
theorem G9 {Q:Bool→Shared→Prop} (hT:s.TypeIs (.ref a) "set") (h:Q false s):wpAny (model prog w) A (Builtin.List.listLengthHint (.ref a)) Q E s:=by
  unfold Builtin.List.listLengthHint
  refine wpAny_bind (wpAny_specialOf hT yu.lookup ?_)
  generalize hid:("set.__len__":String)=id0
  wp_delta
  rw [show splitId id0=some ("set","__len__") from by subst hid;decide +kernel]
  subst hid
  refine wpAny_bind (wpAny_isInstance (T:="set") (b:=true) hT (by rw [isSubtype_type];kernel_rfl) ?_)
  refine wpAny_ite_split (fun hab=>absurd hab (by decide)) (fun _=>?_)
  refine wpAny_ite_split (fun _=>?_) (fun hab=>absurd (by decide +kernel) hab)
  refine wpAny_bind (wpAny_typeOf hT ?_)
  exact wpAny_pure h
theorem vU {Q:List Value→Shared→Prop} (S:sH w s.heap a es ep t) (hb:es.size<scanBound) (hh:A.handled=none)
    (h:∀ (vs:List Value) (h':Heap) d' tk,s.heap.objs.size<h'.objs.size→(∀ b o,s.heap.get? b=some o→h'.get? b=some o)→vs.Perm (es.toList.map (·.2))→Q vs { s with heap:=h',drawn:=d',toks:=tk }) :
    wpAny (model prog w) A (collect (.ref a)) Q E s:=by
  obtain ⟨oa,hoa,hca,hda⟩:=S.ob
  have hlt:a<s.heap.objs.size:=Heap.lt_size hoa
  unfold collect
  refine wpAny_bind (wpAny_runValue (codeAny_builtin F.entry_proto_collect ?_))
  rw [Around.under_plainId F.plain_proto_collect _]
  show wpAny _ A.in1 (newList [] >>= fun l=>again (.builtin "list.__iadd__" ⟨[l,.ref a],[]⟩)) _ _ s
  refine wpAny_bind (wpAny_newObj_type ?_)
  refine wpAny_pure ⟨plainId_quiet F.plain_list_iadd _,codeAny_builtin F.entry_list_iadd ?_⟩
  rw [Around.under_plainId F.plain_list_iadd _]
  generalize hL:({ cls:=.type "list",data:=.seq ([]:List Value).toArray }:Obj)=L0
  have hS0:(s.heap.push L0).get? s.heap.objs.size=some L0:=Heap.get?_push_size _ (by rw [← hL];rfl)
  have S1:sH w (s.heap.push L0) a es ep t:=S.at fun o e=>Heap.get?_push_of_some _ e
  have hT1:Shared.TypeIs { s with heap:=s.heap.push L0 } (.ref a) "set":=⟨oa,Heap.get?_push_of_some _ hoa,hca⟩
  show wpAny _ A.in1 (Builtin.List.listExtendWith (.ref s.heap.objs.size) (.ref a) (.ref s.heap.objs.size)) _ _ { s with heap:=s.heap.push L0 }
  unfold Builtin.List.listExtendWith
  refine wpAny_bind (wpAny_typeOf hT1 ?_)
  have hne:s.heap.objs.size≠a:=Nat.ne_of_gt hlt
  have h1:Builtin.List.listSameRef (.ref s.heap.objs.size) (.ref a)=false:=by simp [Builtin.List.listSameRef,hne]
  have h2:(Value.type "set" == Value.type "list" || Value.type "set" == Value.type "tuple")=false:=by decide
  rw [if_neg (by rw [h1,Bool.false_or,h2];decide)]
  refine wpAny_bind (G3 S1 hb (show A.in1.handled=none from hh) fun I fp vs St h' d' hI hk hIo hfp W hst hp=>?_)
  have hIs:I≠s.heap.objs.size:=by rw [Heap.size_push] at hI;exact Nat.ne_of_gt (Nat.lt_of_lt_of_le (Nat.lt_succ_self _) hI)
  have hL':(s.heap.push L0).get? s.heap.objs.size=some { cls:=.type "list",data:=.seq #[] }:=by rw [hS0,← hL]
  have hS1:h'.get? s.heap.objs.size=some { cls:=.type "list",data:=.seq #[] }:=hk _ _ hL'
  have hT2:Shared.TypeIs { s with heap:=h',drawn:=d' } (.ref a) "set":=⟨oa,hk _ _ (Heap.get?_push_of_some _ hoa),hca⟩
  refine wpAny_bind (wpAny_holding (G9 hT2 ?_))
  refine wpAny_ite_split (fun _=>?_) (fun hab=>absurd (by decide +kernel) hab)
  refine wpAny_bind (wpAny_rule ?_)
  refine wpAny_bind ?_
  show wpAny _ _ (updateSeq s.heap.objs.size (·.push .none) >>= fun _=>updateSeq s.heap.objs.size (·.pop)) _ _ _
  refine wpAny_bind (wpAny_updateSeq hS1 rfl ?_)
  have hS2:=Heap.get?_update_self (Obj.mapSeq (·.push Value.none)) hS1 rfl
  refine wpAny_updateSeq (hz:=by seq_fits) hS2 rfl ?_
  have hS3:=Heap.get?_update_self (Obj.mapSeq (·.pop)) hS2 rfl
  have hSf:s.heap.objs.size ∉ fp:=fun hm=>by
    rcases hfp _ hm with e | e
    · exact hne e
    · rw [Heap.size_push] at e;exact Nat.not_succ_le_self _ e
  have oth:∀ b o,b≠s.heap.objs.size→h'.get? b=some o→((h'.update s.heap.objs.size (Obj.mapSeq (·.push Value.none))).update s.heap.objs.size (Obj.mapSeq (·.pop))).get? b=some o :=
    fun b o hb e=>(Heap.get?_update_other _ _ (Ne.symm hb)).trans ((Heap.get?_update_other _ _ (Ne.symm hb)).trans e)
  have hvl:vs.length≤sizeLine:=by rw [hp.length_eq,List.length_map,sizeLine_eq];unfold scanBound at hb;simp;omega
  refine wpAny_pure ⟨plainId_quiet F.plain_extend_loop _,codeAny_extend_loopS W.toS hvl _ hSf _ vs.length 0 _ _ _ rfl (Nat.zero_le _)
    (W.frame 0 h' _ hst fun b hb o e=>oth b o (fun q=>hSf (q ▸ hb)) e) hS3 (ItemsOf.nil _) fun s' acc c' hm hS' hacc=>?_⟩
  show wpAny _ A (load s.heap.objs.size >>= _) _ _ s'
  refine wpAny_bind (wpAny_load hS' ?_)
  have hv:acc.toList=vs:=by
    refine List.ext_getElem? fun i=>?_
    rw [Array.getElem?_toList]
    cases he:acc[i]? with
    | some v=>exact (hacc.2 i v he).symm
    | none =>
      have:acc.size≤i:=by
        rcases Nat.lt_or_ge i acc.size with q | q
        · rw [Array.getElem?_eq_getElem q] at he;cases he
        · exact q
      rw [hacc.1] at this
      exact (List.getElem?_eq_none this).symm
  obtain ⟨hp',g',d2,tk',os'⟩:=s'
  have e1:g'=s.gens:=hm.gens
  have e2:d2=d':=hm.drawn
  have e3:os'=s.os:=hm.os
  subst e1 e2 e3
  refine wpAny_pure ?_
  show Q acc.toList _
  rw [hv]
  refine h vs hp' d2 tk' (Heap.lt_size hS') (fun b o e=>hm.heap b o (fun q=>?_) (oth b o (Nat.ne_of_lt (Heap.lt_size e)) (hk b o (Heap.get?_push_of_some _ e)))) hp
  rcases List.mem_cons.mp q with q | q
  · exact Nat.ne_of_lt (Heap.lt_size e) q
  · rw [List.mem_singleton.mp q] at e
    rw [Heap.size_push] at hI
    exact Nat.lt_irrefl _ (Nat.lt_of_lt_of_le (Heap.lt_size e) (Nat.le_trans (Nat.le_succ _) hI))
end
end L2
namespace L2
open PySem
section
variable {prog:Program} {w:World} {A:Around} {E:Value→Shared→Prop} {s:Shared} {a I:Addr} {es:Array (Int × Value)} {ep:Nat} {t:SetTable}
def vInt:Value→Int | .int n _=>n | _=>0
def nT (ks:List Int) (k:Int):List Int:=if k∈ks then ks else ks++[k]
structure Es (prog:Program) (w:World) (h:Heap) (a:Addr) (ks:List Int):Prop where
  ex:∃ o es ep t,h.get? a=some o∧o.ExactSet∧o.data=.set es ep t∧ElemsOf (intKind prog w) es.toList∧(es.toList.map fun e=>vInt e.2).Perm ks∧es.size<scanBound∧t.fits es.size=true∧TOk (YQ w) t
theorem xr (k:Int) (tk:Tok):(intKind prog w).is k (.int k tk)=true:=by simp [intKind,Value.isInt]
theorem xM {l:List (Int × Value)} (h:ElemsOf (intKind prog w) l) {e:Int × Value} (he:e∈l):∃ tk,e.2=.int (vInt e.2) tk:=by
  obtain ⟨⟨k,hk,_⟩,_⟩:=h e he
  obtain ⟨tk,hx⟩:=Value.isInt_shape hk
  exact ⟨tk,by rw [hx];rfl⟩
theorem Bh {l:List (Int × Value)} (h:ElemsOf (intKind prog w) l) {ks:List Int} (hp:(l.map fun e=>vInt e.2).Perm ks) (k:Int):k∈ks↔∃ e∈l,(intKind prog w).is k e.2=true:=by
  rw [← hp.mem_iff,List.mem_map]
  constructor
  · rintro ⟨e,he,rfl⟩
    obtain ⟨tk,hx⟩:=xM h he
    exact ⟨e,he,by rw [hx];exact xr _ _⟩
  · rintro ⟨e,he,hk⟩
    obtain ⟨tk,hx⟩:=Value.isInt_shape hk
    exact ⟨e,he,by rw [hx];rfl⟩
theorem Ag {h:Heap} {o:Obj} (es':Array (Int × Value)) (t':SetTable) (ho:h.get? a=some o) (hd:o.data=.set es ep t) :
    (h.update a (Obj.putSet es' t')).get? a=some { o with data:=.set es' (ep + 1) t' }:=by
  have q:=Heap.get?_update_self (Obj.putSet es' t') ho (by rw [putSet_of es' t' hd];rfl)
  rwa [putSet_of es' t' hd] at q
theorem Rj {ks:List Int} {k:Int} {tk:Tok} {Q:Bool→Shared→Prop} (S:Es prog w s.heap a ks) (hr:ks.length + 1<scanBound)
    (h:∀ h' t' b,s.toks≤t'→Heap.SameBut a s.heap h'→Es prog w h' a (nT ks k)→Q b { s with heap:=h',toks:=t' }):wpAny (model prog w) A (setAdd a (.int k tk)) Q E s:=by
  obtain ⟨o,es,ep,t,ho,hx,hd,he,hp,hb,hf,T⟩:=S.ex
  have hsc:(Value.int k tk).scannable=true:=rfl
  have hlen:es.size=ks.length:=by rw [← hp.length_eq];simp
  unfold setAdd
  refine wpAny_holding (wpAny_bind ((intKind prog w).pyHash (k:=k) (xr k tk) ?_))
  unfold setAddHashed setAddHashedIn
  refine wpAny_holding (wpAny_bind (wpAny_setState_of (s:={ s with toks:=s.toks + 1 }) ho hd hf ?_))
  dsimp only
  rw [byScan_of hsc hb he]
  simp only [↓reduceIte]
  unfold setAddByScan
  refine wpAny_bind (wpAny_bind (wpAny_rule (wpAny_bind (wpAny_setScan_of (xr k tk) ho hd hf he ?_))))
  cases hfi:List.findIdx? (fun e=>(intKind prog w).is k e.2) es.toList with
  | some j =>
    dsimp only
    obtain ⟨hj,hpj,_⟩:=List.findIdx?_eq_some_iff_getElem.mp hfi
    have hmem:k∈ks:=(Bh he hp k).mpr ⟨_,List.getElem_mem hj,hpj⟩
    refine wpAny_pure (wpAny_pure (h s.heap (s.toks + 1) _ (Nat.le_succ _) (Heap.SameBut.refl a s.heap) ?_))
    unfold nT
    rw [if_pos hmem]
    exact S
  | none =>
    dsimp only
    have hnot:k ∉ ks:=fun hm=>by
      obtain ⟨e,h1,h2⟩:=(Bh he hp k).mp hm
      rw [List.findIdx?_eq_none_iff.mp hfi e h1] at h2
      cases h2
    have q1:=layNew_perm t es ((intKind prog w).hash k) (.int k tk)
    have q2:=layNew_fits t es ((intKind prog w).hash k) (.int k tk)
    have q3:=T.layNew es ((intKind prog w).hash k) (.int k tk)
    generalize layNew t es ((intKind prog w).hash k) (.int k tk)=L at q1 q2 q3 ⊢
    obtain ⟨es1,t1,wd,gv⟩:=L
    dsimp only at q1 q2 q3 ⊢
    rw [Array.toList_push] at q1
    have he1:ElemsOf (intKind prog w) es1.toList:=(he.push (xr k tk) hsc).perm q1
    have hp1:(es1.toList.map fun e=>vInt e.2).Perm (ks++[k]):=by
      refine (q1.map _).trans ?_
      rw [List.map_append]
      exact hp.append (List.Perm.refl _)
    have hs1:es1.size=es.size + 1:=by rw [← Array.length_toList,q1.length_eq];simp
    have hb1:es1.size<scanBound:=by omega
    have gw:∀ (b:Bool) {s1:Shared} {Q':Unit→Shared→Prop},Q' () s1→wpAny (model prog w) A (match b with | true=>rule "set.scan.the-table-gave-way" | false=>pure ()) Q' E s1 :=
      fun b s1 Q' hq=>by cases b with | true=>exact wpAny_rule hq | false=>exact wpAny_pure hq
    refine wpAny_bind (gw _ ?_)
    have hbv:hashByValue 8 (.int k tk)=pure true:=rfl
    have fin:∀ h' es2 t2 ep2,h'.get? a=some { o with data:=.set es2 ep2 t2 }→Heap.SameBut a s.heap h'→es2.toList.Perm es1.toList→t2.fits es2.size=true→TOk (YQ w) t2→Q true { s with heap:=h',toks:=s.toks + 1 }:=by
      intro h' es2 t2 ep2 g1 g2 g3 g4 g5
      refine h h' (s.toks + 1) true (Nat.le_succ _) g2 ⟨_,es2,ep2,t2,g1,hx,rfl,he1.perm g3,?_,?_,g4,g5⟩
      · unfold nT;rw [if_neg hnot];exact (g3.map _).trans hp1
      · rw [← Array.length_toList,g3.length_eq,Array.length_toList];exact hb1
    have tail:wpAny (model prog w) A (do
        storeSet a es1 t1
        if (!wd && t1.tooFull)=true then do
            (match (relayAll t1 es1 (SetTable.grown es1.size)).2.2 with | true=>rule "set.scan.the-table-gave-way" | false=>pure ())
            storeSet a (relayAll t1 es1 (SetTable.grown es1.size)).1 (relayAll t1 es1 (SetTable.grown es1.size)).2.1
            pure (some true)
          else pure (some true)) (fun r s'=>wpAny (model prog w) A (match r with | some added=>pure added | none=>do return ← setAddHashedIn a (.int k tk) ((intKind prog w).hash k) 99999) Q E s') E { s with toks:=s.toks + 1 }:=by
      refine wpAny_bind (wpAny_storeSet_of ho hd ?_ (fits_of_scanBound hb1))
      have g1:=Ag es1 t1 ho hd
      have sb1:=Heap.SameBut.update s.heap a (Obj.putSet es1 t1)
      split
      · have r1:=relayAll_perm t1 es1 (SetTable.grown es1.size)
        have r2:=relayAll_fits t1 es1 (SetTable.grown es1.size)
        have r3:=q3.ZC es1 (SetTable.grown es1.size)
        generalize relayAll t1 es1 (SetTable.grown es1.size)=Rl at r1 r2 r3 ⊢
        obtain ⟨es2,t3,gv2⟩:=Rl
        dsimp only at r1 r2 r3 ⊢
        refine wpAny_bind (gw _ ?_)
        refine wpAny_bind (wpAny_storeSet_of g1 rfl ?_ (fits_of_scanBound (by rw [← Array.length_toList,r1.length_eq,Array.length_toList];exact hb1)))
        have g2:=Ag es2 t3 g1 rfl
        exact wpAny_pure (wpAny_pure (fin _ es2 t3 _ g2 (sb1.trans (Heap.SameBut.update _ a _)) r1 r2 r3))
      · exact wpAny_pure (wpAny_pure (fin _ es1 t1 _ g1 sb1 (List.Perm.refl _) q2 q3))
    split
    · rw [hbv]
      exact wpAny_bind (wpAny_pure tail)
    · exact wpAny_bind (wpAny_pure tail)
theorem Es.setO {h:Heap} {ks:List Int} (S:Es prog w h a ks):∃ es ep t,sH w h a es ep t∧es.size<scanBound∧(∀ v∈es.toList.map (·.2),∃ tk,v=.int (vInt v) tk)∧((es.toList.map (·.2)).map vInt).Perm ks:=by
  obtain ⟨o,es,ep,t,ho,hx,hd,he,hp,hb,hf,T⟩:=S.ex
  refine ⟨es,ep,t,⟨⟨o,ho,hx.1,hd⟩,?_,T⟩,hb,fun v hv=>?_,by rw [List.map_map];exact hp⟩
  · simp only [SetTable.fits,Bool.and_eq_true,beq_iff_eq,decide_eq_true_eq] at hf;exact hf
  · obtain ⟨e,h1,rfl⟩:=List.mem_map.mp hv
    exact xM he h1
end
end L2
namespace L2
open PySem PyProof.Rows
section
variable {prog:Program} {w:World} {A:Around} {E:Value→Shared→Prop} {R:Result→Shared→Prop} {s:Shared}
theorem FT {vs:List Value} {ns:List Int} (h:IntsAre vs ns) (i:Nat) {v:Value} (e:vs[i]?=some v):∃ tk,v=.int (ns.getD i 0) tk:=h.int_at i v e
theorem FQ {vs:List Value} {ns:List Int} (h:IntsAre vs ns):vs.length=ns.length:=h.length
theorem FW {l I S:Addr} {items:Array Value} {ns:List Int} (hh:A.in1.handled=none) (hli:l≠I) (hSI:S≠I) (hSl:S≠l) (hi:IntsAre items.toList ns) (hb:ns.length + 1<scanBound) :
    ∀ (k i:Nat) (s:Shared),ns.length - i=k→i≤ns.length→s.heap.IsListIter I l i→s.heap.IsList l items→Es prog w s.heap S ((ns.take i).foldl nT []) →
      (∀ h' tk,Es prog w h' S (ns.foldl nT [])→(∀ b o,b≠S→b≠I→s.heap.get? b=some o→h'.get? b=some o)→R (.ok (.ret .none)) { s with heap:=h',toks:=tk }) →
      codeAny (model prog w) A (.builtin "set.update.loop" ⟨[.ref S,.ref I],[]⟩) R s:=by
  have hsz:items.size=ns.length:=by rw [← FQ hi];simp
  have fl:∀ (l:List Int) (b:List Int),(l.foldl nT b).length≤b.length + l.length:=by
    intro l
    induction l with
    | nil=>intro b;simp
    | cons x l ih =>
      intro b
      have h1:=ih (nT b x)
      have h2:(nT b x).length≤b.length + 1:=by unfold nT;split <;> simp
      simp only [List.foldl_cons,List.length_cons]
      omega
  intro k
  induction k with
  | zero =>
    intro i s hk hle It hl hS hR
    have hin:i=ns.length:=by omega
    subst hin
    refine codeAny_builtin PyProof.Rows.F.entry_set_update_loop ?_
    rw [Around.under_plainId PyProof.Rows.F.plain_set_update_loop _]
    show wpAny _ A.in1 (pyNext (.ref I) >>= fun _=>_) _ _ s
    refine wpAny_bind (wpAny_pyNext_list_end hh It hl (by rw [← hsz];simp) fun h' he=>?_)
    have q:Es prog w h' S (ns.foldl nT []):=by
      obtain ⟨o,es,ep,t,ho,r⟩:=hS.ex
      rw [List.take_length] at r
      exact ⟨o,es,ep,t,he S o hSI ho,r⟩
    exact wpAny_pure (hR h' s.toks q fun b o _ hbI e=>he b o hbI e)
  | succ k ih =>
    intro i s hk hle It hl hS hR
    have hlt:i<ns.length:=by omega
    have hlt':i<items.size:=by omega
    refine codeAny_builtin PyProof.Rows.F.entry_set_update_loop ?_
    rw [Around.under_plainId PyProof.Rows.F.plain_set_update_loop _]
    show wpAny _ A.in1 (pyNext (.ref I) >>= fun _=>_) _ _ s
    refine wpAny_bind (wpAny_pyNext_list_item It hl (x:=items[i]) (by rw [Array.getElem?_eq_getElem hlt']) fun h' It' hs'=>?_)
    obtain ⟨tk,hx⟩:=FT hi i (v:=items[i]) (by rw [Array.getElem?_toList,Array.getElem?_eq_getElem hlt'])
    rw [hx]
    have hS1:Es prog w h' S ((ns.take i).foldl nT []):=by
      obtain ⟨o,es,ep,t,ho,r⟩:=hS.ex
      exact ⟨o,es,ep,t,hs'.extBut S o hSI ho,r⟩
    show wpAny _ A.in1 (holding [Value.int (ns.getD i 0) tk] (setAdd S (.int (ns.getD i 0) tk)) >>= fun _=>_) _ _ { s with heap:=h' }
    have hlen:((ns.take i).foldl nT []).length + 1<scanBound:=by
      have:=fl (ns.take i) []
      rw [List.length_take] at this
      simp only [List.length_nil] at this
      omega
    refine wpAny_bind (wpAny_holding (Rj hS1 hlen fun h2 t2 b hle2 sb hS2=>?_))
    have e1:ns.take (i + 1)=ns.take i++[ns.getD i 0]:=by
      rw [List.take_succ,List.getElem?_eq_getElem hlt,List.getD_eq_getElem?_getD,List.getElem?_eq_getElem hlt];rfl
    refine wpAny_pure ⟨plainId_quiet PyProof.Rows.F.plain_set_update_loop _,ih (i + 1) _ (by omega) hlt ?_ ?_ ?_ fun h3 t3 hS3 k3=>?_⟩
    · obtain ⟨o,ho,r⟩:=It'
      exact ⟨o,sb.extBut I o (Ne.symm hSI) ho,r⟩
    · exact (hl.extBut hs'.extBut hli).extBut sb.extBut (Ne.symm hSl)
    · rw [e1,List.foldl_append]
      exact hS2
    · exact hR h3 t3 hS3 fun b o hbS hbI e=>k3 b o hbS hbI (sb.extBut b o hbS (hs'.extBut b o hbI e))
abbrev gC (w:World):Obj:={ cls:=.type "set",dict:=none,data:=.set #[] 0 (.fresh 0 0 (YQ w)) }
theorem vq (v:Value) {Q:Value→Shared→Prop} (h:Q (.ref s.heap.objs.size) { s with heap:=s.heap.push (gC w) }) :
    codeAny (model prog w) A (.call (.builtin "set.__new__") ⟨[.type "set",v],[]⟩) (wants Q E) s:=by
  refine codeAny_of_tree ?_
  show wpAny _ A.in1 (checkBuiltinCall "set.__new__" ⟨[.type "set",v],[]⟩ >>= fun _=>again (.builtin "set.__new__" ⟨[.type "set",v],[]⟩)) _ _ s
  refine wpAny_bind (wpAny_of_eq (F.newCall_set_1 v) (wpAny_pure ⟨plainId_quiet F.plain_set_new _,codeAny_builtin F.entry_set_new ?_⟩))
  rw [Around.under_plainId F.plain_set_new _]
  unfold Builtin.«set.__new__» Builtin.Frozenset.newClass
  have hsub:=sub_set_self
  obtain ⟨hp,g,d,tk,os⟩:=s
  dsimp only
  wp_walk
  refine wpAny_askSetting (wpAny_pure ?_)
  dsimp only
  simp only [newObj]
  exact wpAny_bind (wpAny_alloc (wpAny_pure (wpAny_pure h)))
abbrev QX (prog:Program) (w:World) (s:Shared) (ns:List Int) (s2:Shared):Prop :=
  ∃ h' tk,s2={ s with heap:=h',toks:=tk }∧Es prog w h' s.heap.objs.size (ns.foldl nT [])∧∀ b o,s.heap.get? b=some o→h'.get? b=some o
set_option maxHeartbeats 8000000 in
theorem BJ {l:Addr} {items:Array Value} {ns:List Int} (hh:A.handled=none) (hl:s.heap.IsList l items) (hi:IntsAre items.toList ns) (hb:ns.length + 1<scanBound) :
    wpAny (model prog w) A.in1 (Builtin.«set.__init__» ⟨[.ref s.heap.objs.size,.ref l],[]⟩) (fun fin s'=>fin=.done (.ret .none)∧QX prog w s ns s') E { s with heap:=s.heap.push (gC w) }:=by
  have hS:(s.heap.push (gC w)).get? s.heap.objs.size=some (gC w):=Heap.get?_push_size _ rfl
  have hT:Shared.TypeIs { s with heap:=s.heap.push (gC w) } (.ref s.heap.objs.size) "set":=⟨_,hS,rfl⟩
  have hl0:=hl
  obtain ⟨⟨oc,od,oda,osl⟩,hol,hcl,nl,hdl⟩:=hl0
  dsimp only at hcl hdl
  subst hcl hdl
  have hol':=Heap.get?_push_of_some (gC w) hol
  have z1:=F.sub_list_set
  have z2:=F.sub_list_frozenset
  have z3:(Value.type "list" == Value.type "dict")=false:=by decide
  unfold Builtin.«set.__init__» noKeywords Builtin.Frozenset.updateFrom
  generalize hPI:pyIter=PI
  wp_walk
  subst hPI
  have hlS:l<s.heap.objs.size:=Heap.lt_size hol
  have hszp:(s.heap.push (gC w)).objs.size=s.heap.objs.size + 1:=Heap.size_push _ _
  refine wpAny_pyIter_list (hl.push (gC w)) (wpAny_bind (wpAny_runValue ?_))
  refine FW (A:=A.in1) (l:=l) (I:=(s.heap.push (gC w)).objs.size) (S:=s.heap.objs.size) (items:=items) (by simp [hh]) (Nat.ne_of_lt (by rw [hszp];exact Nat.lt_succ_of_lt hlS)) (Nat.ne_of_lt (by rw [hszp];exact Nat.lt_succ_self _)) (Nat.ne_of_gt hlS) hi hb ns.length 0 _ (by omega) (Nat.zero_le _)
    ⟨_,Heap.get?_push_size _ rfl,rfl,rfl⟩ ((hl.push _).push _) ?_ fun h' tk hS' hk=>?_
  · exact ⟨_,#[],0,_,Heap.get?_push_of_some _ hS,⟨rfl,rfl,rfl⟩,rfl,fun e he=>by simp at he,by simp,by decide,by rfl,TOk.fresh _⟩
  · show wpAny _ _ _ _ _ _
    refine wpAny_pure (show wpAny _ _ (ret Value.none) _ _ _ from wpAny_pure ⟨rfl,h',tk,rfl,hS',fun b o e=>?_⟩)
    have hbl:=Heap.lt_size e
    exact hk b o (Nat.ne_of_lt hbl) (by rw [hszp];exact Nat.ne_of_lt (Nat.lt_succ_of_lt hbl)) (Heap.get?_push_of_some _ (Heap.get?_push_of_some _ e))
set_option maxHeartbeats 8000000 in
theorem Ei {l:Addr} {items:Array Value} {ns:List Int} {Q:Value→Shared→Prop} (hh:A.handled=none) (hl:s.heap.IsList l items) (hi:IntsAre items.toList ns) (hb:ns.length + 1<scanBound)
    (h:∀ h' tk,Es prog w h' s.heap.objs.size (ns.foldl nT [])→(∀ b o,s.heap.get? b=some o→h'.get? b=some o)→Q (.ref s.heap.objs.size) { s with heap:=h',toks:=tk }) :
    wpAny (model prog w) A (call (.type "set") [.ref l]) Q E s:=by
  have y0:=F.called_set
  obtain ⟨c,tl,y1⟩:=y0.mro
  have y2:=y0.made
  have y3:=y0.sub
  have y4:=y0.notType
  have y5:=y0.canCreate
  have y6:=F.typeCall_set_1 (.ref l)
  refine wpAny_call (codeAny_of_tree (show wpAny _ _ (callAny (.type "set") _) _ _ _ from wpAny_pure ⟨Code.quiet_builtin _ (by decide +kernel),codeAny_builtin F.entry_type_call ?_⟩))
  rw [Around.under_plain (weight_type_call_type "set" [.ref l] []) rfl]
  repeat any_goals first | assumption | wp_step
  refine codeAny_mono (vq (.ref l) (E:=E) (Q:=fun ob s1=>ob=.ref s.heap.objs.size∧s1={ s with heap:=s.heap.push (gC w) }) ⟨rfl,rfl⟩) fun r s1 hr=>?_
  match r,hr with
  | .error e,hr=>exact hr
  | .ok .next,hr=>exact hr.elim
  | .ok .brk,hr=>exact hr.elim
  | .ok .cont,hr=>exact hr.elim
  | .ok (.ret ob),hr =>
    obtain ⟨rfl,rfl⟩:=hr
    have hT:Shared.TypeIs { s with heap:=s.heap.push (gC w) } (.ref s.heap.objs.size) "set":=⟨_,Heap.get?_push_size _ rfl,rfl⟩
    have y7:=y0.init.lookup
    have y8:=y0.init.bind (.ref s.heap.objs.size)
    repeat any_goals first | assumption | wp_step
    refine codeAny_mono (codeAny_call_builtin (R:=wants (fun r s2=>r=.none∧QX prog w s ns s2) E) y0.init.plain F.entry_set_init (check_set_init_1 hT (wpAny_mono (BJ hh hl hi hb) (fun fin s' q=>?_) fun _ _ q=>q))) fun r2 s2 hr2=>?_
    · obtain ⟨rfl,q⟩:=q
      exact ⟨rfl,q⟩
    · match r2,hr2 with
      | .error e,hr2=>exact hr2
      | .ok .next,hr2=>exact hr2.elim
      | .ok .brk,hr2=>exact hr2.elim
      | .ok .cont,hr2=>exact hr2.elim
      | .ok (.ret r),hr2 =>
        obtain ⟨rfl,h',tk,rfl,hS',hk'⟩:=hr2
        repeat any_goals first | assumption | wp_step
        exact h _ _ hS' hk'
theorem yt {a:Addr} {ks:List Int} {Q:Value→Shared→Prop} (hh:A.handled=none) (S:Es prog w s.heap a ks) (h64:ks.length<64)
    (h:∀ (x:Addr) (vs:List Value) (ms:List Int) (h':Heap) d' tk c,s.heap.objs.size≤x→(∀ b o,s.heap.get? b=some o→h'.get? b=some o)→h'.get? x=some (seqObj "list" vs.toArray c)→IntsAre vs ms→ms.Perm ks→ms.Pairwise (·≤·)→Q (.ref x) { s with heap:=h',drawn:=d',toks:=tk }) :
    wpAny (model prog w) A (call (.builtin "sorted") [.ref a]) Q E s:=by
  obtain ⟨es,ep,t,So,hb,hv,hp⟩:=S.setO
  refine Calls.call_function_entry kind_sorted plain_sorted entry_sorted (args_sorted1 _) ?_
  unfold Builtin.«sorted»
  refine wpAny_bind (m:=checkCount "sorted" 1 1 _) (wpAny_pure ?_)
  refine wpAny_bind (vU So hb (show A.in1.handled=none from hh) fun vs h' d' tk hsz hk pv=>?_)
  have hI:∀ l:List Value,(∀ v∈l,∃ tk,v=.int (vInt v) tk)→IntsAre l (l.map vInt):=by
    intro l
    induction l with
    | nil=>intro _;exact .nil
    | cons v l ih =>
      intro q
      obtain ⟨tk,e⟩:=q v List.mem_cons_self
      rw [List.map_cons,e]
      exact .cons _ tk (ih fun u hu=>q u (List.mem_cons_of_mem _ hu))
  have hvi:=hI vs fun v hm=>hv v (pv.mem_iff.mp hm)
  have hpk:(vs.map vInt).Perm ks:=(pv.map vInt).trans hp
  have h64':vs.length<64:=by rw [← hpk.length_eq] at h64;simpa using h64
  refine wpAny_bind (wpAny_newList ?_ (by rw [sizeLine_eq];omega))
  have hoL:(h'.push (seqObj "list" vs.toArray 0)).get? h'.objs.size=some (seqObj "list" vs.toArray 0):=Heap.get?_push_size _ rfl
  refine wpAny_bind (wpAny_holding (wpAny_call_entry slot_list_sort ⟨_,hoL,rfl⟩ entry_list_sort (list_sort_tree hoL hvi h64' fun out ms a1 a2 a3=>⟨_,rfl,?_⟩) (args_list_sort _)))
  obtain ⟨c,hc⟩:=sortedHeap_at (out:=out) hoL
  refine wpAny_pure ⟨_,rfl,h _ out.toList ms _ d' tk c (Nat.le_of_lt hsz) (fun b o e=>?_) (by simpa using hc) a1 (a2.trans hpk) a3⟩
  have hbl:b<h'.objs.size:=Heap.lt_size (hk b o e)
  rw [sortedHeap_old (Nat.ne_of_lt hbl) (by rw [size_push'];exact Nat.lt_succ_of_lt hbl)]
  exact Heap.get?_push_of_some _ (hk b o e)
end
end L2
namespace L2
open PySem PySem.Spec PyProof.Rows
theorem HF (ks:List Int) (k x:Int):x∈nT ks k↔x∈ks∨x=k:=by
  unfold nT
  split
  · rename_i h
    exact ⟨.inl,fun q=>q.elim id fun e=>e ▸ h⟩
  · rw [List.mem_append,List.mem_singleton]
theorem T3 {ks:List Int} (h:ks.Nodup) (k:Int):(nT ks k).Nodup:=by
  unfold nT
  split
  · exact h
  · rename_i hn
    refine List.nodup_append.mpr ⟨h,by simp,fun a ha b hb=>?_⟩
    rw [List.mem_singleton.mp hb]
    exact fun e=>hn (e ▸ ha)
theorem Dw:∀ (ns ks:List Int),ks.Nodup→(ns.foldl nT ks).Nodup∧(ns.foldl nT ks).length≤ks.length + ns.length∧∀ x,x∈ns.foldl nT ks↔x∈ks∨x∈ns:=by
  intro ns
  induction ns with
  | nil=>intro ks h;exact ⟨h,Nat.le_refl _,fun x=>by simp⟩
  | cons n ns ih =>
    intro ks h
    obtain ⟨a1,a2,a3⟩:=ih (nT ks n) (T3 h n)
    have a4:(nT ks n).length≤ks.length + 1:=by unfold nT;split <;> simp
    refine ⟨a1,by simp only [List.foldl_cons,List.length_cons];omega,fun x=>?_⟩
    rw [List.foldl_cons,a3,HF,List.mem_cons,or_assoc]
theorem tK:∀ {ms:List Int},ms.Pairwise (·≤·)→ms.Nodup→ms.Pairwise (·<·)
  | [],_,_=>.nil
  | a :: l,h,nd=>by
    obtain ⟨h1,h2⟩:=List.pairwise_cons.mp h
    obtain ⟨n1,n2⟩:=List.nodup_cons.mp nd
    refine List.pairwise_cons.mpr ⟨fun b hb=>?_,tK h2 n2⟩
    have:=h1 b hb
    rcases Int.lt_or_lt_of_ne (fun e:a=b=>n1 (e ▸ hb)) with q | q
    · exact q
    · omega
def Fx (K:PySem.W.Frag) (ta:TA):TE:=fun σ H Q=>ta σ H fun vs H1=>∃ (p:Addr) (ns:List Int),vs=[.ref p]∧SqL K H1 p (ns.map V.int)∧ns.length<64∧∀ (l:Addr) (ms:List Int),H1 l=none→ms.Pairwise (·<·)→(∀ x,x∈ms↔x∈ns)→ms.length≤ns.length→Q (.ref l) (upd H1 l (.lst (ms.map V.int)))
section
variable {X:Cx}
theorem Inv.Tp {pins:List (Addr × Obj)} {σ:St} {H:Hp} {s:Shared} (I:Inv X pins σ H s) (d':PySem.Drawn):Inv X pins σ H { s with drawn:=d' } :=
  ⟨I.ok,I.os,I.bare,I.base,I.loc,I.cell,I.free,I.freeC,I.pin,I.hok,I.len⟩
theorem yE {e:Expr} {ta:TA} {p1 p2 p3 pos:Pos} (hcalm:X.calm=true) (hgs:Gl X "sorted") (hms:X.mg "sorted"=none) (hgr:Gl X "set") (hmr:X.mg "set"=none) (ha:PA X [e] ta) (hs:starEach [e] X.env=[(false,eval e X.env)]:=by rfl) :
    PE X (.Call (.Name "sorted" p1) [.Call (.Name "set" p2) [e] [] p3] [] pos) (Fx X.K ta):=by
  intro pins s σ H Q I h
  refine Call_ (jd I hgs hms boot_sorted ?_)
  refine Calls.callWith_builtin rfl (Calls.evalArgs_plain ?_)
  refine Calls.spliced_cons (Call_ (jd I hgr hmr PyProof.Rows.boot_set (PyProof.Rows.callWith_type1 (thn (ha p3 pins s σ H _ I h) fun us s1 ⟨vs,H1,I1,r1,q1⟩=>?_) hs rfl)))
  obtain ⟨p,ns,e1,hq,hn,q⟩:=q1
  subst e1
  obtain ⟨u,rfl,ru⟩:=vals1 r1
  cases ru
  obtain ⟨its,r2,p2',hz⟩:=I1.list hq
  have hi:IntsAre its ns:=intsAre_of r2
  have hhd:=I.ok.hd hcalm
  refine Ei hhd p2'.isList (by simpa using hi) (by unfold scanBound;omega) fun h' tk S hk=>?_
  refine Calls.spliced_nil ?_
  obtain ⟨f1,f2,f3⟩:=Dw ns [] List.nodup_nil
  refine yt hhd S (by simp at f2;omega) fun x vs ms h2 d2 tk2 c hx hk2 hox hi2 hp hle=>?_
  have I2:Inv X pins σ H1 { s1 with heap:=h',toks:=tk }:=I1.kept fun b o e=>hk b o e
  have hml:ms.length≤ns.length:=by rw [hp.length_eq];simp at f2;exact f2
  refine ⟨.ref x,_,Inv.Tp (I2.laid (t':=tk2) hk2 hx (show dM X.prog X.w _ h2 _ (.lst (ms.map V.int)) from ⟨by rw [List.length_map,sizeLine_eq];omega,vs,c,nY hi2,hox⟩)) d2,rfl,q _ _ (I2.hok.fresh hx) (tK hle (hp.nodup_iff.mpr f1)) (fun y=>by rw [hp.mem_iff,f3];simp) hml⟩
theorem yx (bs:List Bool):((List.range bs.length).any fun i=>(bs[i]?).getD false)=bs.any id:=by
  rw [Bool.eq_iff_iff,List.any_eq_true,List.any_eq_true]
  constructor
  · rintro ⟨i,hi,h⟩
    rw [List.mem_range] at hi
    rw [List.getElem?_eq_getElem hi] at h
    exact ⟨_,List.getElem_mem hi,h⟩
  · rintro ⟨b,hb,h⟩
    obtain ⟨i,hi,rfl⟩:=List.getElem_of_mem hb
    exact ⟨i,List.mem_range.mpr hi,by rw [List.getElem?_eq_getElem hi];exact h⟩
theorem xT (hc:X.calm=true):nG X (.builtin "any") (fun xs H Q=>∃ (p:Addr) (bs:List Bool),xs=[.ref p]∧SqL X.K H p (bs.map V.bl)∧Q (.bl (bs.any id)) H):=by
  intro pins s σ H xs us Q I r h
  obtain ⟨p,bs,rfl,hq,q⟩:=h
  obtain ⟨u,rfl,ru⟩:=vals1 r
  cases ru
  obtain ⟨its,r1,p1,hz⟩:=I.list hq
  have hl:=p1.isList
  have hlt:p<s.heap.objs.size:=p1.lt
  have hlen:=r1.length
  rw [List.length_map] at hlen
  refine call_any_walk (wpAny_pyIter_list hl ?_)
  refine ⟨s.heap.objs.size,[s.heap.objs.size,p],[s.heap.objs.size],its.toArray.size,_,_,fun i=>(bs[i]?).getD false,rfl,Walks.list (A:=X.A.in1) (I.ok.hd hc) _ p (Nat.ne_of_lt hlt) its.toArray,
    ⟨⟨_,Heap.get?_push_size _ rfl,rfl,rfl⟩,hl.push _⟩,fun i v s' Q' E' hP hQ=>?_,fun h' tk hk=>?_⟩
  · have hP':its[i]?=some v:=by simpa using hP
    have hi:i<bs.length:=by
      have:=(List.getElem?_eq_some_iff.mp hP').1
      omega
    obtain ⟨u,eu,ru⟩:=r1.get (x:=.bl bs[i]) (by rw [List.getElem?_map,List.getElem?_eq_getElem hi];rfl)
    rw [hP'] at eu
    cases eu
    cases ru
    dsimp only at hQ
    rw [List.getElem?_eq_getElem hi] at hQ
    exact wpAny_truthy_bool hQ
  · have e:((List.range its.toArray.size).any fun i=>(bs[i]?).getD false)=bs.any id:=by
      rw [List.size_toArray,← hlen];exact yx bs
    rw [e]
    refine ⟨.bl _,H,I.kept fun b o eo=>hk b o (fun hm=>?_) (Heap.get?_push_of_some _ eo),rfl,q⟩
    rw [List.mem_singleton.mp hm] at eo
    exact Nat.lt_irrefl _ (Heap.lt_size eo)
end
end L2
namespace Rv
def dB (r:List Int):Prop:=∃ rk:Nat→Nat,(∀ i,i<r.length→rk i<r.length) ∧
  ∀ (i:Nat) (x:Int),r[i]?=some x→x=-1∨(0≤x∧x<r.length∧rk x.toNat<rk i)
def nxt (r:List Int) (p:Int):Int:=r.getD p.toNat (-1)
theorem jo {r:List Int} {p:Int} (h0:0≤p) (h1:p<r.length):r[p.toNat]?=some (nxt r p):=by
  have h:p.toNat<r.length:=by omega
  unfold nxt
  rw [List.getD_eq_getElem?_getD,List.getElem?_eq_getElem h];rfl
theorem dB.step {r:List Int} (h:dB r) {p:Int} (h0:0≤p) (h1:p<r.length):nxt r p=-1∨(0≤nxt r p∧nxt r p<r.length):=by
  obtain ⟨rk,_,h3⟩:=h
  rcases h3 _ _ (jo h0 h1) with e | ⟨a,b,_⟩
  · exact .inl e
  · exact .inr ⟨a,b⟩
def nW (r:List Int):Nat→Int→List Int
  | 0,_=>[]
  | f + 1,p=>if p=-1 then [] else p :: nW r f (nxt r p)
def walk (r:List Int) (p:Int):List Int:=nW r (r.length + 1) p
theorem lG (r:List Int) (f:Nat):nW r f (-1)=[]:=by
  cases f with
  | zero=>rfl
  | succ f=>unfold nW;rw [if_pos rfl]
theorem iH (r:List Int):walk r (-1)=[]:=lG r _
theorem m7 {r:List Int} {rk:Nat→Nat} (h:∀ (i:Nat) (x:Int),r[i]?=some x→x=-1∨(0≤x∧x<r.length∧rk x.toNat<rk i)) :
    ∀ (f g:Nat) (p:Int),0≤p→p<r.length→rk p.toNat<f→rk p.toNat<g→nW r f p=nW r g p
  | 0,_,_,_,_,hf,_=>by omega
  | _ + 1,0,_,_,_,_,hg=>by omega
  | f + 1,g + 1,p,h0,h1,hf,hg=>by
    unfold nW
    rw [if_neg (by omega),if_neg (by omega)]
    rcases h _ _ (jo h0 h1) with e | ⟨a,b,c⟩
    · rw [e,lG,lG]
    · rw [m7 h f g _ a b (by omega) (by omega)]
theorem bJ {r:List Int} (h:dB r) {p:Int} (h0:0≤p) (h1:p<r.length):walk r p=p :: walk r (nxt r p):=by
  obtain ⟨rk,h2,h3⟩:=h
  show nW r (r.length + 1) p=_
  unfold nW
  rw [if_neg (by omega)]
  rcases h3 _ _ (jo h0 h1) with e | ⟨a,b,c⟩
  · rw [e,lG,iH]
  · have:=h2 p.toNat (by omega)
    unfold walk
    rw [m7 h3 r.length (r.length + 1) _ a b (by omega) (by omega)]
theorem sI (r:List Int):∀ (f:Nat) (p:Int),(nW r f p).length≤f
  | 0,_=>Nat.le_refl _
  | f + 1,p=>by
    unfold nW
    split
    · exact Nat.zero_le _
    · exact Nat.succ_le_succ (sI r f _)
theorem lF (r:List Int) (p:Int):(walk r p).length≤r.length + 1:=sI r _ _
theorem dB.ind {r:List Int} (h:dB r) {P:Int→Prop} (hm:P (-1)) (hs:∀ p:Int,0≤p→p<r.length→P (nxt r p)→P p):∀ p:Int,0≤p→p<r.length→P p:=by
  obtain ⟨rk,_,h3⟩:=h
  have key:∀ (n:Nat) (p:Int),0≤p→p<r.length→rk p.toNat<n→P p:=by
    intro n
    induction n with
    | zero=>intro p _ _ h;omega
    | succ n ih =>
      intro p h0 h1 h2
      refine hs p h0 h1 ?_
      rcases h3 _ _ (jo h0 h1) with e | ⟨a,b,c⟩
      · rw [e];exact hm
      · exact ih _ a b (by omega)
  exact fun p h0 h1=>key _ p h0 h1 (Nat.lt_succ_self _)
theorem wA {r:List Int} (h:dB r):∀ p:Int,0≤p→p<r.length→∀ q∈walk r p,0≤q∧q<r.length:=by
  refine h.ind (P:=fun p=>∀ q∈walk r p,0≤q∧q<r.length) ?_ ?_
  · intro q hq;rw [iH] at hq;cases hq
  · intro p h0 h1 ih q hq
    rw [bJ h h0 h1] at hq
    rcases List.mem_cons.mp hq with e | e
    · rw [e];exact ⟨h0,h1⟩
    · exact ih q e
noncomputable def mea (r:List Int) (p:Int):Nat:=(walk r p).length
theorem Ij {r:List Int} (h:dB r) {p:Int} (h0:0≤p) (h1:p<r.length):mea r (nxt r p)<mea r p:=by
  unfold mea;rw [bJ h h0 h1];exact Nat.lt_succ_self _
theorem xY {r:List Int} (h:dB r):∃ rk:Nat→Nat,∀ p:Int,0≤p→p<r.length→(walk r p).Nodup∧∀ q∈walk r p,rk q.toNat≤rk p.toNat:=by
  obtain ⟨rk,h2,h3⟩:=id h
  refine ⟨rk,?_⟩
  have key:=h.ind (P:=fun p=>(walk r p).Nodup∧(0≤p→∀ q∈walk r p,rk q.toNat≤rk p.toNat)) ?_ ?_
  · exact fun p h0 h1=>⟨(key p h0 h1).1,(key p h0 h1).2 h0⟩
  · rw [iH];exact ⟨List.nodup_nil,fun h=>by omega⟩
  · intro p h0 h1 ⟨nd,ih⟩
    rw [bJ h h0 h1]
    rcases h3 _ _ (jo h0 h1) with e | ⟨a,b,c⟩
    · rw [e,iH]
      refine ⟨by simp,fun _ q hq=>?_⟩
      have:q=p:=by simpa using hq
      rw [this];exact Nat.le_refl _
    · have ih':=ih a
      refine ⟨List.nodup_cons.mpr ⟨fun hm=>?_,nd⟩,fun _ q hq=>?_⟩
      · have:=ih' p hm
        omega
      · rcases List.mem_cons.mp hq with e | e
        · rw [e];exact Nat.le_refl _
        · have:=ih' q e;omega
theorem u6 {r:List Int} (h:dB r) {p:Int} (h0:0≤p) (h1:p<r.length):(walk r p).Nodup:=by
  obtain ⟨rk,k⟩:=xY h
  exact (k p h0 h1).1
end Rv
namespace Rv
def tot:Nat→(Nat→Int)→Int
  | 0,_=>0
  | n + 1,f=>tot n f + f n
theorem jF {n:Nat} {f g:Nat→Int} (h:∀ i,i<n→f i=g i):tot n f=tot n g:=by
  induction n with
  | zero=>rfl
  | succ n ih=>unfold tot;rw [ih fun i hi=>h i (by omega),h n (by omega)]
theorem u9 (n:Nat) (f g:Nat→Int):tot n (fun i=>f i + g i)=tot n f + tot n g:=by
  induction n with
  | zero=>rfl
  | succ n ih=>unfold tot;rw [ih];dsimp only;omega
theorem nH {n:Nat} {f:Nat→Int} (h:∀ i,i<n→f i=0):tot n f=0:=by
  induction n with
  | zero=>rfl
  | succ n ih=>unfold tot;rw [ih fun i hi=>h i (by omega),h n (by omega)];rfl
theorem Fw (n m:Nat) (f:Nat→Nat→Int):tot n (fun i=>tot m (fun j=>f i j))=tot m (fun j=>tot n (fun i=>f i j)):=by
  induction n with
  | zero=>exact (nH fun _ _=>rfl).symm
  | succ n ih=>show tot n _ + tot m _=_;rw [ih,← u9];rfl
theorem zB {n k:Nat} (f:Nat→Int) (hk:k<n):tot n (fun i=>if i=k then f i else 0)=f k:=by
  induction n with
  | zero=>omega
  | succ n ih =>
    unfold tot
    dsimp only
    by_cases h:k=n
    · subst h
      rw [if_pos rfl,nH fun i hi=>if_neg (by omega)];omega
    · rw [ih (by omega),if_neg (fun (z:n=k)=>h z.symm)];omega
theorem Rc (n:Nat) (c:Int) (f:Nat→Int):tot n (fun i=>c * f i)=c * tot n f:=by
  induction n with
  | zero=>simp [tot]
  | succ n ih=>unfold tot;rw [ih,Int.mul_add]
theorem Rf (n:Nat) (f:Nat→Int) (p:Prop) [Decidable p]:tot n (fun i=>if p then f i else 0)=if p then tot n f else 0:=by
  by_cases h:p
  · rw [if_pos h];exact jF fun i _=>if_pos h
  · rw [if_neg h];exact nH fun i _=>if_neg h
def lsum:List Nat→(Nat→Int)→Int
  | [],_=>0
  | k :: l,f=>f k + lsum l f
theorem j7 (f:Nat→Int):∀ (l m:List Nat),lsum (l++m) f=lsum l f + lsum m f
  | [],m=>by show _=0 + _;rw [Int.zero_add];rfl
  | k :: l,m=>by show f k + lsum (l++m) f=f k + lsum l f + lsum m f;rw [j7 f l m];omega
theorem uf {f:Nat→Int} {l m:List Nat} (h:l.Perm m):lsum l f=lsum m f:=by
  induction h with
  | nil=>rfl
  | cons k _ ih=>show f k + _=f k + _;rw [ih]
  | swap a b l=>show f b + (f a + _)=f a + (f b + _);omega
  | trans _ _ h1 h2=>exact h1.trans h2
theorem mU (f:Nat→Int):∀ n,lsum (List.range n) f=tot n f
  | 0=>rfl
  | n + 1=>by rw [List.range_succ,j7,mU f n];show _ + (f n + 0)=_ + f n;omega
theorem ud {f:Nat→Int}:∀ {l:List Nat},(∀ k∈l,f k=0)→lsum l f=0
  | [],_=>rfl
  | k :: l,h=>by show f k + lsum l f=0;rw [h k List.mem_cons_self,ud fun j hj=>h j (List.mem_cons_of_mem _ hj)];rfl
def one (p:Prop) [Decidable p]:Int:=if p then 1 else 0
def qt (r s:List Int) (i:Int):Int:=tot r.length fun j=>if i∈walk r (j:Int) then s.getD j 0 else 0
theorem met {r:List Int} (h:dB r) {i:Int} (hi:0≤i):∀ p:Int,0≤p→p<r.length→one (i∈walk r p)=one (p=i) + tot r.length fun k=>if nxt r (k:Int)=i then one ((k:Int)∈walk r p) else 0:=by
  have key:=h.ind (P:=fun p=>(p=-1∨(0≤p∧p<r.length))→one (i∈walk r p)=one (p=i) + tot r.length fun k=>if nxt r (k:Int)=i then one ((k:Int)∈walk r p) else 0) ?_ ?_
  · exact fun p h0 h1=>key p h0 h1 (.inr ⟨h0,h1⟩)
  · intro _
    rw [iH,nH fun k _=>?_]
    · unfold one;rw [if_neg (by simp),if_neg (by omega)];rfl
    · unfold one;rw [if_neg (show ¬ (k:Int)∈([]:List Int) by simp)];split <;> rfl
  · intro p h0 h1 ih _
    have ih':=ih (h.step h0 h1)
    have nd:=u6 h h0 h1
    rw [bJ h h0 h1] at nd ⊢
    obtain ⟨np,_⟩:=List.nodup_cons.mp nd
    have e1:one (i∈p :: walk r (nxt r p))=one (p=i) + one (i∈walk r (nxt r p)):=by
      unfold one
      by_cases hpi:p=i
      · subst hpi
        rw [if_pos List.mem_cons_self,if_pos rfl,if_neg np];rfl
      · rw [if_neg hpi]
        by_cases hm:i∈walk r (nxt r p)
        · rw [if_pos (List.mem_cons_of_mem _ hm),if_pos hm];rfl
        · rw [if_neg hm,if_neg fun z=>?_];· rfl
          rcases List.mem_cons.mp z with z | z
          · exact hpi z.symm
          · exact hm z
    have e2:(tot r.length fun k=>if nxt r (k:Int)=i then one ((k:Int)∈p :: walk r (nxt r p)) else 0) =
        one (nxt r p=i) + tot r.length fun k=>if nxt r (k:Int)=i then one ((k:Int)∈walk r (nxt r p)) else 0:=by
      have:(tot r.length fun k=>if nxt r (k:Int)=i then one ((k:Int)∈p :: walk r (nxt r p)) else 0) =
          tot r.length fun k=>(if k=p.toNat then (fun k=>if nxt r (k:Int)=i then (1:Int) else 0) k else 0) + if nxt r (k:Int)=i then one ((k:Int)∈walk r (nxt r p)) else 0:=by
        refine jF fun k hk=>?_
        by_cases hn:nxt r (k:Int)=i
        · simp only [if_pos hn]
          by_cases hkp:k=p.toNat
          · have hkp':(k:Int)=p:=by omega
            rw [if_pos hkp,hkp']
            unfold one
            rw [if_pos List.mem_cons_self,if_neg np];rfl
          · have hkp':¬ (k:Int)=p:=by omega
            rw [if_neg hkp]
            unfold one
            by_cases hm:(k:Int)∈walk r (nxt r p)
            · rw [if_pos (List.mem_cons_of_mem _ hm),if_pos hm];rfl
            · rw [if_neg hm,if_neg fun z=>?_];· rfl
              rcases List.mem_cons.mp z with z | z
              · exact hkp' z
              · exact hm z
        · simp only [if_neg hn];split <;> rfl
      rw [this,u9,zB _ (by omega)]
      have e:((p.toNat:Nat):Int)=p:=by omega
      show (if nxt r ((p.toNat:Nat):Int)=i then (1:Int) else 0) + _=_
      rw [e];rfl
    rw [e1,e2,ih']
theorem wZ {r:List Int} (h:dB r) (s:List Int) {i:Nat} (hi:i<r.length):qt r s (i:Int)=s.getD i 0 + tot r.length fun k=>if nxt r (k:Int)=(i:Int) then qt r s (k:Int) else 0:=by
  have e:qt r s (i:Int)=tot r.length fun j=>(if j=i then s.getD j 0 else 0) + tot r.length fun k=>if nxt r (k:Int)=(i:Int) then (if (k:Int)∈walk r (j:Int) then s.getD j 0 else 0) else 0:=by
    refine jF fun j hj=>?_
    have m:=met h (i:=(i:Int)) (by omega) (j:Int) (by omega) (by omega)
    have e1:(if (i:Int)∈walk r (j:Int) then s.getD j 0 else 0)=s.getD j 0 * one ((i:Int)∈walk r (j:Int)):=by unfold one;split <;> simp
    rw [e1,m,Int.mul_add,← Rc]
    congr 1
    · unfold one
      by_cases hji:j=i
      · rw [if_pos (by omega),if_pos hji];simp
      · rw [if_neg (by omega),if_neg hji];simp
    · refine jF fun k hk=>?_
      split
      · unfold one;split <;> simp
      · simp
  rw [e,u9,zB (fun j=>s.getD j 0) hi,Fw]
  congr 1
  refine jF fun k hk=>?_
  rw [Rf]
  rfl
def jq (r:List Int) (a b:Int):List Int:=if b=-1 then walk r a else (walk r a).takeWhile (fun x=>!decide (x=b))
def Stop (r:List Int) (a b:Int):Prop:=b=-1∨b∈walk r a
theorem zG {r:List Int} {a b x:Int} (h:x∈jq r a b):x∈walk r a:=by
  unfold jq at h
  split at h
  · exact h
  · exact (List.takeWhile_prefix _).subset h
theorem FJ {r:List Int} (h:dB r) {a b:Int} (h0:0≤a) (h1:a<r.length):(jq r a b).Nodup:=by
  unfold jq
  split
  · exact u6 h h0 h1
  · exact (u6 h h0 h1).sublist (List.takeWhile_sublist _)
end Rv
namespace Rv
structure Fl (n:Nat) (fl:List Int) (g:Nat→Int):Prop where
  len:fl.length=n
  at_:∀ i,i<n→fl[i]?=some (g i)
theorem Fl.of (fl:List Int):Fl fl.length fl (fun i=>fl.getD i 0):=⟨rfl,fun i hi=>by rw [List.getElem?_eq_getElem hi,List.getD_eq_getElem?_getD,List.getElem?_eq_getElem hi];rfl⟩
theorem Fl.Fe {n:Nat} {fl:List Int} {g g':Nat→Int} (h:Fl n fl g) (e:∀ i,i<n→g i=g' i):Fl n fl g':=⟨h.len,fun i hi=>by rw [h.at_ i hi,e i hi]⟩
theorem Fl.set {n:Nat} {fl:List Int} {g g':Nat→Int} {j:Nat} {y:Int} (h:Fl n fl g) (hj:j<n) (e:∀ i,i<n→i≠j→g' i=g i) (ey:y=g' j):Fl n (fl.set j y) g' :=
  ⟨by rw [List.length_set];exact h.len,fun i hi=>by
    by_cases hij:i=j
    · subst hij;rw [List.getElem?_set_self (by rw [h.len];exact hj),ey]
    · rw [List.getElem?_set_ne (Ne.symm hij),h.at_ i hi,e i hi hij]⟩
theorem Fl.ext {n:Nat} {fl fl':List Int} {g:Nat→Int} (h:Fl n fl g) (h':Fl n fl' g):fl=fl':=by
  apply List.ext_getElem?
  intro i
  by_cases hi:i<n
  · rw [h.at_ i hi,h'.at_ i hi]
  · rw [List.getElem?_eq_none (by rw [h.len];omega),List.getElem?_eq_none (by rw [h'.len];omega)]
theorem Fl.getD {n:Nat} {fl:List Int} {g:Nat→Int} (h:Fl n fl g) {i:Nat} (hi:i<n):fl.getD i 0=g i:=by
  rw [List.getD_eq_getElem?_getD,h.at_ i hi];rfl
theorem Fl.map (n:Nat) (g:Nat→Int):Fl n ((List.range n).map g) g:=⟨by simp,fun i hi=>by rw [List.getElem?_map,List.getElem?_range hi];rfl⟩
def kap (r:List Int) (i:Nat):Int:=(i:Int) - 64 * ((walk r (i:Int)).length:Int)
structure Fi (r:List Int) (p:List Nat):Prop where
  perm:p.Perm (List.range r.length)
  ord:p.Pairwise fun i j=>kap r i<kap r j
theorem Fi.len {r:List Int} {p:List Nat} (h:Fi r p):p.length=r.length:=by rw [h.perm.length_eq,List.length_range]
theorem Fi.lt {r:List Int} {p:List Nat} (h:Fi r p) {j:Nat} (hj:j∈p):j<r.length:=List.mem_range.mp (h.perm.mem_iff.mp hj)
theorem Fi.first {r:List Int} {p p1 p2:List Nat} {j k:Nat} (h:Fi r p) (hR:dB r) (h64:r.length<64) (e:p=p1++j :: p2) (hk:k<r.length) (hn:nxt r (k:Int)=(j:Int)):k∈p1:=by
  have hjm:j∈p:=by rw [e];simp
  have hj:=h.lt hjm
  have hkm:k∈p:=h.perm.mem_iff.mpr (List.mem_range.mpr hk)
  have hw:(walk r (k:Int)).length=(walk r (j:Int)).length + 1:=by rw [bJ hR (p:=(k:Int)) (by omega) (by omega),hn,List.length_cons]
  have hlt:kap r k<kap r j:=by unfold kap;omega
  rw [e] at hkm
  rcases List.mem_append.mp hkm with z | z
  · exact z
  · have ord:=h.ord
    rw [e,List.pairwise_append] at ord
    rcases List.mem_cons.mp z with z | z
    · subst z;omega
    · have:=(List.pairwise_cons.mp ord.2.1).1 k z
      omega
def nats (r s:List Int):List Int:=(List.range r.length).map fun (i:Nat)=>qt r s (i:Int)
theorem oV (r s:List Int):Fl r.length (nats r s) fun i=>qt r s (i:Int):=Fl.map _ _
def xW (r s:List Int) (p:List Nat) (t:Nat) (fl:List Int):Prop:=Fl r.length fl fun i=>s.getD i 0 + lsum (p.take t) fun k=>if nxt r (k:Int)=(i:Int) then qt r s (k:Int) else 0
theorem xW.start (r s:List Int) (p:List Nat) (hs:s.length=r.length):xW r s p 0 s:=by
  have:=Fl.of s
  rw [hs] at this
  exact this.Fe fun i _=>by rw [List.take_zero];show _=_ + 0;omega
theorem take_cons {p:List Nat} {t j:Nat} (h:p[t]?=some j):p.take (t + 1)=p.take t++[j]:=by rw [List.take_add_one,h];rfl
theorem xW.here {r s:List Int} {p:List Nat} {t j:Nat} {fl:List Int} (T:Fi r p) (hR:dB r) (h64:r.length<64) (h:xW r s p t fl) (hj:p[t]?=some j):fl[j]?=some (qt r s (j:Int)):=by
  have hjl:=T.lt (List.mem_of_getElem? hj)
  rw [h.at_ j hjl,wZ hR s hjl]
  congr 2
  rw [← mU,← uf T.perm]
  obtain ⟨ht,et⟩:=List.getElem?_eq_some_iff.mp hj
  have e:p=p.take t++j :: p.drop (t + 1):=by
    rw [← et,List.getElem_cons_drop,List.take_append_drop]
  conv=>rhs;rw [e]
  rw [j7]
  have z:lsum (j :: p.drop (t + 1)) (fun k=>if nxt r (k:Int)=(j:Int) then qt r s (k:Int) else 0)=0:=by
    refine ud fun k hk=>if_neg fun hn=>?_
    have hkp:k∈p:=by rw [e];exact List.mem_append_right _ hk
    have h1:=T.first hR h64 e (T.lt hkp) hn
    have nd:p.Nodup:=T.perm.nodup_iff.mpr List.nodup_range
    rw [e,List.nodup_append] at nd
    exact nd.2.2 k h1 k hk rfl
  rw [z];omega
theorem xW.ZR {r s:List Int} {p:List Nat} {t j:Nat} {fl:List Int} (h:xW r s p t fl) (hj:p[t]?=some j) (hm:nxt r (j:Int)=-1):xW r s p (t + 1) fl :=
  Fl.Fe h fun i _=>by
    rw [take_cons hj,j7]
    show _=_ + (_ + ((if nxt r (j:Int)=(i:Int) then qt r s (j:Int) else 0) + 0))
    rw [if_neg (by omega)];omega
theorem xW.turn {r s:List Int} {p:List Nat} {t j b:Nat} {fl:List Int} (T:Fi r p) (hR:dB r) (h64:r.length<64) (h:xW r s p t fl) (hj:p[t]?=some j) (hb:nxt r (j:Int)=(b:Int)) (hbl:b<r.length) {x:Int} (hx:fl[b]?=some x) :
    xW r s p (t + 1) (fl.set b (x + qt r s (j:Int))):=by
  refine Fl.set h hbl (fun i _ hib=>?_) ?_
  · rw [take_cons hj,j7]
    show _ + (_ + ((if nxt r (j:Int)=(i:Int) then qt r s (j:Int) else 0) + 0))=_
    rw [if_neg (by omega)];omega
  · rw [h.at_ b hbl] at hx
    rw [← Option.some.inj hx,take_cons hj,j7]
    show _=_ + (_ + ((if nxt r (j:Int)=(b:Int) then qt r s (j:Int) else 0) + 0))
    rw [if_pos hb];omega
theorem xW.done {r s:List Int} {p:List Nat} {fl:List Int} (T:Fi r p) (hR:dB r) (h:xW r s p r.length fl):fl=nats r s:=by
  refine Fl.ext (g:=fun i=>qt r s (i:Int)) (Fl.Fe h fun i hi=>?_) (oV r s)
  rw [← T.len,List.take_length,wZ hR s hi,← mU,uf T.perm]
abbrev Mv:=Int × Int × Int
def RT (r:List Int) (ms:List Mv) (i:Int):Int:=(ms.map fun m=>if i∈jq r m.1 m.2.1 then m.2.2 else 0).sum
def aav (r s:List Int) (ms:List Mv):List Int:=(List.range r.length).map fun (i:Nat)=>qt r s (i:Int) - RT r ms (i:Int)
theorem Dy (r s:List Int) (ms:List Mv):Fl r.length (aav r s ms) fun i=>qt r s (i:Int) - RT r ms (i:Int):=Fl.map _ _
end Rv
namespace Rv
end Rv
namespace Rv
end Rv
namespace Rv
theorem zA:∀ (s:List Int),(tot s.length fun i=>s.getD i 0)=s.sum:=by
  intro s
  have key:∀ (n:Nat),n≤s.length→(tot n fun i=>s.getD i 0)=(s.take n).sum:=by
    intro n
    induction n with
    | zero=>intro _;rfl
    | succ n ih =>
      intro h
      show tot n _ + s.getD n 0=_
      rw [ih (by omega),List.take_add_one,List.sum_append,List.getD_eq_getElem?_getD,List.getElem?_eq_getElem (by omega)]
      simp
  rw [key s.length (Nat.le_refl _),List.take_length]
end Rv
namespace Rv
end Rv
namespace Rv
end Rv
namespace Tn
def gY:Nat→(Nat→Int)→Int
  | 0,_=>0
  | n + 1,f=>gY n f + f n
theorem bw {f g:Nat→Int}:∀ {n:Nat},(∀ k,k<n→f k=g k)→gY n f=gY n g
  | 0,_=>rfl
  | n + 1,h=>by
    show gY n f + f n=gY n g + g n
    rw [bw fun k hk=>h k (by omega),h n (by omega)]
theorem oh {f g:Nat→Int}:∀ {n:Nat},(∀ k,k<n→f k≤g k)→gY n f≤gY n g
  | 0,_=>Int.le_refl _
  | n + 1,h=>by
    show gY n f + f n≤gY n g + g n
    have a:=oh fun k hk=>h k (Nat.lt_succ_of_lt hk)
    have b:=h n (Nat.lt_succ_self n)
    omega
theorem zF {f g:Nat→Int} {i:Nat}:∀ {n:Nat},i<n→(∀ k,k<n→f k≤g k)→f i<g i→gY n f<gY n g
  | 0,hi,_,_=>absurd hi (Nat.not_lt_zero _)
  | n + 1,hi,h,hl=>by
    show gY n f + f n<gY n g + g n
    by_cases e:i=n
    · subst e
      have a:=oh fun k hk=>h k (Nat.lt_succ_of_lt hk)
      omega
    · have a:=zF (n:=n) (by omega) (fun k hk=>h k (Nat.lt_succ_of_lt hk)) hl
      have b:=h n (Nat.lt_succ_self n)
      omega
theorem jw (f g:Nat→Int):∀ n:Nat,gY n (fun k=>f k + g k)=gY n f + gY n g
  | 0=>rfl
  | n + 1=>by
    show gY n _ + (f n + g n)=gY n f + f n + (gY n g + g n)
    rw [jw f g n];omega
theorem qO (f g:Nat→Int):∀ n:Nat,gY n (fun k=>f k - g k)=gY n f - gY n g
  | 0=>rfl
  | n + 1=>by
    show gY n _ + (f n - g n)=gY n f + f n - (gY n g + g n)
    rw [qO f g n];omega
theorem fQ:∀ n:Nat,gY n (fun _=>0)=0
  | 0=>rfl
  | n + 1=>by show gY n _ + 0=0;rw [fQ n];rfl
theorem lK {i:Nat} (c:Int):∀ {n:Nat},i<n→gY n (fun k=>if k=i then c else 0)=c
  | 0,hi=>absurd hi (Nat.not_lt_zero _)
  | n + 1,hi=>by
    show gY n _ + (if n=i then c else 0)=c
    by_cases e:n=i
    · subst e
      rw [if_pos rfl,bw (g:=fun _=>0) fun k hk=>if_neg (by omega),fQ];omega
    · rw [if_neg e,lK c (by omega)];omega
theorem vf {f:Nat→Int} {n:Nat} (h:∀ k,k<n→0≤f k):0≤gY n f:=by
  have:=oh (f:=fun _=>0) (g:=f) h
  rw [fQ] at this;exact this
theorem n6 {f:Nat→Int} {n i:Nat} (hi:i<n) (h:∀ k,k<n→0≤f k):f i≤gY n f:=by
  have:=oh (f:=fun k=>if k=i then f i else 0) (g:=f) (n:=n) fun k hk=>by
    by_cases e:k=i
    · subst e;rw [if_pos rfl];exact Int.le_refl _
    · rw [if_neg e];exact h k hk
  rw [lK _ hi] at this;exact this
def hold (n:Nat) (W:Nat→List Int) (x:Nat→Int) (r:Int):Int:=gY n fun k=>if r∈W k then x k else 0
theorem R4 {n i:Nat} {W:Nat→List Int} {x y:Nat→Int} {r:Int} (hi:i<n) (hr:r∈W i) (h:∀ k,k<n→r∈W k→x k≤y k) (hl:x i<y i):hold n W x r<hold n W y r :=
  zF hi (fun k hk=>by
    by_cases e:r∈W k
    · rw [if_pos e,if_pos e];exact h k hk e
    · rw [if_neg e,if_neg e];exact Int.le_refl _) (by rw [if_pos hr,if_pos hr];exact hl)
theorem qy {n:Nat} {W:Nat→List Int} {x y:Nat→Int} {r:Int} (h:∀ k,k<n→r∈W k→x k=y k):hold n W x r=hold n W y r :=
  bw fun k hk=>by
    by_cases e:r∈W k
    · rw [if_pos e,if_pos e];exact h k hk e
    · rw [if_neg e,if_neg e]
def put (x:Nat→Int) (i:Nat) (c:Int):Nat→Int:=fun k=>if k=i then x k + c else x k
theorem wX (x:Nat→Int) (i:Nat) (c:Int):put x i c i=x i + c:=if_pos rfl
theorem oH {x:Nat→Int} {i k:Nat} {c:Int} (h:k≠i):put x i c k=x k:=if_neg h
theorem rH {n i:Nat} {W:Nat→List Int} {x:Nat→Int} {r c:Int} (hi:i<n):hold n W (put x i c) r=hold n W x r + (if r∈W i then c else 0):=by
  have e:∀ k,k<n→(if r∈W k then put x i c k else 0)=(if r∈W k then x k else 0) + (if k=i then (if r∈W i then c else 0) else 0):=fun k _=>by
    by_cases h1:r∈W k
    · by_cases h2:k=i
      · subst h2;simp [put,h1]
      · simp [put,h1,h2]
    · by_cases h2:k=i
      · subst h2;simp [h1]
      · simp [h1,h2]
  unfold hold
  rw [bw e,jw,lK _ hi]
theorem jQ (n:Nat) (W:Nat→List Int) (r:Int):hold n W (fun _=>0) r=0:=by
  unfold hold
  rw [bw (g:=fun _=>0) fun k _=>by split <;> rfl,fQ]
def HS (d n i d' m j:Int):Prop:=d<d'∨d=d'∧(n<m∨n=m∧i<j)
structure Fit (n:Nat) (F:Int→Int) (W:Nat→List Int) (want x:Nat→Int):Prop where
  nn:∀ k,k<n→0≤x k
  le:∀ k,k<n→x k≤want k
  fits:∀ r,(∃ k,k<n∧r∈W k)→hold n W x r≤F r
def rZ (n:Nat) (F:Int→Int) (W:Nat→List Int) (day x:Nat→Int) (k:Nat) (r:Int):Prop :=
  r∈W k∧hold n W x r=F r∧∀ j,j<n→r∈W j→0<x j→HS (day j) (x j) j (day k) (x k + 1) k
def pH (n:Nat) (F:Int→Int) (W:Nat→List Int) (day want x:Nat→Int):Prop :=
  ∀ k,k<n→x k<want k→∃ r,rZ n F W day x k r
theorem qC {P:Nat→Prop} (f:Nat→Nat) (h:∃ k,P k):∃ k,P k∧∀ j,P j→f k≤f j:=by
  obtain ⟨k,hk⟩:=h
  have key:∀ (m k:Nat),f k≤m→P k→∃ k,P k∧∀ j,P j→f k≤f j:=by
    intro m
    induction m with
    | zero=>intro k hk hp;exact ⟨k,hp,fun j _=>by omega⟩
    | succ m ih =>
      intro k hk hp
      by_cases hx:∃ j,P j∧f j<f k
      · obtain ⟨j,hj,hl⟩:=hx
        exact ih j (by omega) hj
      · exact ⟨k,hp,fun j hj=>Classical.byContradiction fun hn=>hx ⟨j,hj,by omega⟩⟩
  exact key (f k) k (Nat.le_refl _) hk
theorem pA {P:Nat→Prop} (f:Nat→Int) (b:Int) (hb:∀ k,P k→b≤f k) (h:∃ k,P k):∃ k,P k∧∀ j,P j→f k≤f j:=by
  obtain ⟨k,hk,hm⟩:=qC (fun k=>(f k - b).toNat) h
  refine ⟨k,hk,fun j hj=>?_⟩
  have a1:=hm j hj
  have a2:=hb k hk
  have a3:=hb j hj
  omega
theorem yO {n:Nat} {day x y:Nat→Int} (hd:∀ k,k<n→0≤day k) (hx:∀ k,k<n→0≤x k) (hy:∀ k,k<n→0≤y k) (h:∃ k,k<n∧x k≠y k) :
    ∃ k,k<n∧x k≠y k∧∀ j,j<n→x j≠y j→j=k∨HS (day k) (min (x k) (y k)) k (day j) (min (x j) (y j)) j:=by
  obtain ⟨k1,p1,m1⟩:=pA (P:=fun k=>k<n∧x k≠y k) day 0 (fun k hk=>hd k hk.1) h
  obtain ⟨k2,p2,m2⟩:=pA (P:=fun k=>(k<n∧x k≠y k)∧day k=day k1) (fun k=>min (x k) (y k)) 0 (fun k hk=>by
    have a:=hx k hk.1.1
    have b:=hy k hk.1.1
    show (0:Int)≤min (x k) (y k)
    omega) ⟨k1,p1,rfl⟩
  obtain ⟨k3,p3,m3⟩:=qC (P:=fun k=>((k<n∧x k≠y k)∧day k=day k1)∧min (x k) (y k)=min (x k2) (y k2)) (fun k=>k) ⟨k2,p2,rfl⟩
  refine ⟨k3,p3.1.1.1,p3.1.1.2,fun j hj hne=>?_⟩
  have a1:=m1 j ⟨hj,hne⟩
  have a2:=p3.1.2
  by_cases hday:day j=day k1
  · have b1:=m2 j ⟨⟨hj,hne⟩,hday⟩
    have b2:=p3.2
    by_cases hmin:min (x j) (y j)=min (x k2) (y k2)
    · have c1:=m3 j ⟨⟨⟨hj,hne⟩,hday⟩,hmin⟩
      by_cases e:j=k3
      · exact .inl e
      · exact .inr (.inr ⟨by omega,.inr ⟨by omega,by omega⟩⟩)
    · refine .inr (.inr ⟨by omega,.inl ?_⟩)
      have b3:min (x k2) (y k2)≤min (x j) (y j):=b1
      omega
  · exact .inr (.inl (by omega))
theorem kE {n:Nat} {F:Int→Int} {W:Nat→List Int} {day want x y:Nat→Int} (sx:pH n F W day want x) (fy:Fit n F W want y)
    {k:Nat} (hk:k<n) (hne:x k≠y k) (hm:∀ j,j<n→x j≠y j→j=k∨HS (day k) (min (x k) (y k)) k (day j) (min (x j) (y j)) j):y k<x k:=by
  refine Classical.byContradiction fun hn=>?_
  have hlt:x k<y k:=by omega
  obtain ⟨r,hr,hF,hall⟩:=sx k hk (by have:=fy.le k hk;omega)
  have h1:hold n W x r<hold n W y r:=R4 hk hr (fun j hj hrj=>by
    refine Classical.byContradiction fun hle=>?_
    have hyx:y j<x j:=by omega
    have hjk:j≠k:=fun e=>by subst e;omega
    have hy0:=fy.nn j hj
    rcases hm j hj (by omega) with e | a
    · exact hjk e
    · rw [show min (x k) (y k)=x k by omega,show min (x j) (y j)=y j by omega] at a
      have b:=hall j hj hrj (by omega)
      unfold HS at a b
      omega) hlt
  have h2:=fy.fits r ⟨k,hk,hr⟩
  omega
theorem unique {n:Nat} {F:Int→Int} {W:Nat→List Int} {day want x y:Nat→Int} (hd:∀ k,k<n→0≤day k) (fx:Fit n F W want x) (sx:pH n F W day want x) (fy:Fit n F W want y) (sy:pH n F W day want y) :
    ∀ k,k<n→x k=y k:=by
  refine Classical.byContradiction fun hn=>?_
  have hex:∃ k,k<n∧x k≠y k:=Classical.byContradiction fun h=>hn fun k hk=>Classical.byContradiction fun hne=>h ⟨k,hk,hne⟩
  obtain ⟨k,hk,hne,hm⟩:=yO hd fx.nn fy.nn hex
  have a:=kE sx fy hk hne hm
  have b:=kE sy fx hk (Ne.symm hne) fun j hj h=>by
    rw [show min (y k) (x k)=min (x k) (y k) by omega,show min (y j) (x j)=min (x j) (y j) by omega]
    exact hm j hj (Ne.symm h)
  omega
end Tn
namespace Tn
def d0:Nat→Int:=fun _=>0
structure yW (n:Nat) (F:Int→Int) (W:Nat→List Int) (want x:Nat→Int) (G:Nat→Bool) (t:Int):Prop where
  fit:Fit n F W want x
  go:∀ k,G k=true→k<n∧x k=t
  top:∀ k,k<n→x k≤t
  done:∀ k,k<n→G k=false→x k<want k→∃ r,rZ n F W d0 x k r
theorem yW.start {n:Nat} {F:Int→Int} {W:Nat→List Int} {want:Nat→Int} (hw:∀ k,k<n→0≤want k) (hF:∀ r,(∃ k,k<n∧r∈W k)→0≤F r) :
    yW n F W want (fun _=>0) (fun k=>decide (k<n)) 0 :=
  ⟨⟨fun _ _=>Int.le_refl _,hw,fun r hr=>by rw [jQ];exact hF r hr⟩,fun k hk=>⟨by simpa using hk,rfl⟩,fun _ _=>Int.le_refl _,fun k hk hg=>by simp [hk] at hg⟩
theorem yW.finish {n:Nat} {F:Int→Int} {W:Nat→List Int} {want x:Nat→Int} {G:Nat→Bool} {t:Int} (h:yW n F W want x G t) (hG:∀ k,k<n→G k=false):Fit n F W want x∧pH n F W d0 want x :=
  ⟨h.fit,fun k hk hl=>h.done k hk (hG k hk) hl⟩
def cnt (n:Nat) (W:Nat→List Int) (G:Nat→Bool) (r:Int):Int:=hold n W (fun k=>if G k then 1 else 0) r
def jump (x:Nat→Int) (G:Nat→Bool) (m:Int):Nat→Int:=fun k=>if G k then x k + m else x k
theorem pq (n:Nat) (W:Nat→List Int) (x:Nat→Int) (G:Nat→Bool) (m r:Int):hold n W (jump x G m) r=hold n W x r + m * cnt n W G r:=by
  unfold cnt hold jump
  induction n with
  | zero=>simp [gY]
  | succ n ih =>
    simp only [gY]
    rw [ih,Int.mul_add]
    by_cases h1:r∈W n
    · by_cases h2:G n=true
      · simp [h1,h2];omega
      · simp [h1,h2];omega
    · simp [h1]
theorem TJ {n:Nat} {W:Nat→List Int} {G:Nat→Bool} {r:Int} {j:Nat} (hj:j<n) (hr:r∈W j) (hg:G j=true):0<cnt n W G r:=by
  have h:=n6 (f:=fun k=>if r∈W k then (if G k then (1:Int) else 0) else 0) hj fun k _=>by
    split
    · split <;> decide
    · decide
  simp only [hr,hg,if_true] at h
  show 0<gY n fun k=>if r∈W k then (if G k then (1:Int) else 0) else 0
  omega
theorem YF (n:Nat) (W:Nat→List Int) (G:Nat→Bool) (r:Int):0≤cnt n W G r:=vf fun k _=>by
  show (0:Int)≤if r∈W k then (if G k then (1:Int) else 0) else 0
  split
  · split <;> decide
  · decide
theorem yW.jump {n:Nat} {F:Int→Int} {W:Nat→List Int} {want x:Nat→Int} {G:Nat→Bool} {t m:Int} (h:yW n F W want x G t) (hm:0≤m) (h1:∀ k,G k=true→x k + m≤want k)
    (h2:∀ r,(∃ k,k<n∧r∈W k)→m * cnt n W G r≤F r - hold n W x r):yW n F W want (jump x G m) G (t + m):=by
  refine ⟨⟨fun k hk=>?_,fun k hk=>?_,fun r hr=>?_⟩,fun k hk=>⟨(h.go k hk).1,?_⟩,fun k hk=>?_,fun k hk hg hl=>?_⟩
  · have:=h.fit.nn k hk
    unfold Tn.jump;split <;> omega
  · unfold Tn.jump
    split
    · rename_i hg;exact h1 k hg
    · exact h.fit.le k hk
  · rw [pq]
    have:=h2 r hr
    omega
  · unfold Tn.jump
    rw [if_pos hk,(h.go k hk).2]
  · have:=h.top k hk
    unfold Tn.jump;split <;> omega
  · have ek:Tn.jump x G m k=x k:=by unfold Tn.jump;rw [hg];rfl
    rw [ek] at hl
    obtain ⟨r,hr,hF,hall⟩:=h.done k hk hg hl
    by_cases hm0:m=0
    · have e:Tn.jump x G m=x:=by
        funext j
        unfold Tn.jump
        split <;> omega
      rw [e]
      exact ⟨r,hr,hF,hall⟩
    · have hc:=h2 r ⟨k,hk,hr⟩
      have hno:∀ j,j<n→r∈W j→G j=false:=fun j hj hrj=>by
        cases hgj:G j with
        | false=>rfl
        | true =>
          exfalso
          have p:=TJ hj hrj hgj
          have q:0<m * cnt n W G r:=Int.mul_pos (by omega) p
          omega
      have same:∀ j,j<n→r∈W j→Tn.jump x G m j=x j:=fun j hj hrj=>by unfold Tn.jump;rw [hno j hj hrj];rfl
      refine ⟨r,hr,?_,fun j hj hrj hp=>?_⟩
      · rw [qy (y:=x) same];exact hF
      · rw [same j hj hrj] at hp ⊢
        rw [ek]
        exact hall j hj hrj hp
structure vY (n:Nat) (F:Int→Int) (W:Nat→List Int) (want x:Nat→Int) (G S:Nat→Bool) (t:Int) (p:Nat):Prop where
  fit:Fit n F W want x
  still:∀ k,S k=true→k<p∧k<n∧x k=t + 1
  wait:∀ k,k<n→G k=true→p≤k→x k=t
  low:∀ k,k<n→S k=false→x k≤t
  done:∀ k,k<n→S k=false→(k<p∨G k=false)→x k<want k→∃ r,rZ n F W d0 x k r
theorem yW.pass {n:Nat} {F:Int→Int} {W:Nat→List Int} {want x:Nat→Int} {G:Nat→Bool} {t:Int} (h:yW n F W want x G t):vY n F W want x G (fun _=>false) t 0 :=
  ⟨h.fit,(fun _ hk=>by cases hk),fun k _ hg _=>(h.go k hg).2,fun k hk _=>h.top k hk,fun k hk _ hg hl=>by
    rcases hg with z | z
    · exact absurd z (Nat.not_lt_zero _)
    · exact h.done k hk z hl⟩
theorem vY.skip {n:Nat} {F:Int→Int} {W:Nat→List Int} {want x:Nat→Int} {G S:Nat→Bool} {t:Int} {p q:Nat} (h:vY n F W want x G S t p) (hpq:p≤q) (hno:∀ k,p≤k→k<q→G k=false):vY n F W want x G S t q :=
  ⟨h.fit,fun k hk=>⟨by have:=(h.still k hk).1;omega,(h.still k hk).2⟩,fun k hk hg hq=>h.wait k hk hg (by omega),h.low,fun k hk hs hg hl=>by
    refine h.done k hk hs ?_ hl
    rcases hg with z | z
    · by_cases e:k<p
      · exact .inl e
      · exact .inr (hno k (by omega) z)
    · exact .inr z⟩
theorem vY.gets {n:Nat} {F:Int→Int} {W:Nat→List Int} {want x:Nat→Int} {G S:Nat→Bool} {t:Int} {p:Nat} (h:vY n F W want x G S t p) (hp:p<n) (hg:G p=true) (hw:x p<want p) (hfree:∀ r,r∈W p→0<F r - hold n W x r) :
    vY n F W want (put x p 1) G (fun k=>if k=p then true else S k) t (p + 1):=by
  have xp:=h.wait p hp hg (Nat.le_refl _)
  refine ⟨⟨fun k hk=>?_,fun k hk=>?_,fun r hr=>?_⟩,fun k hk=>?_,fun k hk hg hq=>?_,fun k hk hs=>?_,fun k hk hs hq hl=>?_⟩
  · have:=h.fit.nn k hk
    unfold put;split <;> omega
  · by_cases e:k=p
    · subst e;rw [wX];omega
    · rw [oH e];exact h.fit.le k hk
  · rw [rH hp]
    by_cases e:r∈W p
    · rw [if_pos e];have:=hfree r e;omega
    · rw [if_neg e];have:=h.fit.fits r hr;omega
  · by_cases e:k=p
    · subst e;rw [wX];exact ⟨by omega,hp,by omega⟩
    · simp only [e,if_false] at hk
      obtain ⟨a,b,c⟩:=h.still k hk
      rw [oH e];exact ⟨by omega,b,c⟩
  · rw [oH (by omega)];exact h.wait k hk hg (by omega)
  · by_cases e:k=p
    · simp [e] at hs
    · simp only [e,if_false] at hs
      rw [oH e];exact h.low k hk hs
  · by_cases e:k=p
    · simp [e] at hs
    · simp only [e,if_false] at hs
      rw [oH e] at hl
      obtain ⟨r,hr,hF,hall⟩:=h.done k hk hs (by
        rcases hq with z | z
        · exact .inl (by omega)
        · exact .inr z) hl
      have hrp:¬ r∈W p:=fun z=>by have:=hfree r z;omega
      refine ⟨r,hr,?_,fun j hj hrj hpos=>?_⟩
      · rw [rH hp,if_neg hrp];omega
      · have hjp:j≠p:=fun z=>hrp (z ▸ hrj)
        rw [oH hjp] at hpos ⊢
        rw [oH e]
        exact hall j hj hrj hpos
theorem vY.ends {n:Nat} {F:Int→Int} {W:Nat→List Int} {want x:Nat→Int} {G S:Nat→Bool} {t:Int} {p:Nat} (h:vY n F W want x G S t p) (hp:p<n) (hg:G p=true) (hn:want p≤x p∨∃ r,r∈W p∧F r - hold n W x r≤0) :
    vY n F W want x G S t (p + 1):=by
  have xp:=h.wait p hp hg (Nat.le_refl _)
  refine ⟨h.fit,fun k hk=>⟨by have:=(h.still k hk).1;omega,(h.still k hk).2⟩,fun k hk hg hq=>h.wait k hk hg (by omega),h.low,fun k hk hs hq hl=>?_⟩
  by_cases e:k=p
  · subst e
    rcases hn with z | ⟨r,hr,hle⟩
    · omega
    · refine ⟨r,hr,?_,fun j hj hrj hpos=>?_⟩
      · have:=h.fit.fits r ⟨k,hk,hr⟩
        omega
      · cases hsj:S j with
        | false =>
          have:=h.low j hj hsj
          exact .inr ⟨rfl,.inl (by omega)⟩
        | true =>
          obtain ⟨a,b,c⟩:=h.still j hsj
          exact .inr ⟨rfl,.inr ⟨by omega,by omega⟩⟩
  · exact h.done k hk hs (by
      rcases hq with z | z
      · exact .inl (by omega)
      · exact .inr z) hl
theorem vY.finish {n:Nat} {F:Int→Int} {W:Nat→List Int} {want x:Nat→Int} {G S:Nat→Bool} {t:Int} (h:vY n F W want x G S t n):yW n F W want x S (t + 1) :=
  ⟨h.fit,fun k hk=>(h.still k hk).2,fun k hk=>by
    cases hs:S k with
    | false=>have:=h.low k hk hs;omega
    | true=>have:=(h.still k hs).2.2;omega,fun k hk hs hl=>h.done k hk hs (.inl hk) hl⟩
end Tn
namespace Tn
def bump (xs w:List Int) (c:Int):List Int:=w.foldl (fun xs r=>xs.set r.toNat (xs.getD r.toNat 0 + c)) xs
theorem Hz (xs:List Int) (c:Int):bump xs [] c=xs:=rfl
theorem uH (xs w:List Int) (r c:Int):bump xs (r :: w) c=bump (xs.set r.toNat (xs.getD r.toNat 0 + c)) w c:=rfl
theorem Em (xs w:List Int) (r c:Int):bump xs (w++[r]) c=(bump xs w c).set r.toNat ((bump xs w c).getD r.toNat 0 + c):=by
  unfold bump;rw [List.foldl_append];rfl
theorem gW:∀ (w xs:List Int) (c:Int),(bump xs w c).length=xs.length
  | [],_,_=>rfl
  | r :: w,xs,c=>by rw [uH,gW w,List.length_set]
theorem rJ {xs:List Int} {i k:Nat} {v:Int} (hi:i<xs.length):(xs.set i v).getD k 0=if k=i then v else xs.getD k 0:=by
  rw [List.getD_eq_getElem?_getD,List.getElem?_set,List.getD_eq_getElem?_getD]
  by_cases h:i=k
  · subst h;simp [hi]
  · have h':¬ k=i:=fun e=>h e.symm
    simp [h,h']
theorem mq:∀ {w xs:List Int} {c:Int},w.Nodup→(∀ r∈w,0≤r∧r<xs.length)→∀ k:Nat,(bump xs w c).getD k 0=xs.getD k 0 + (if (k:Int)∈w then c else 0)
  | [],xs,c,_,_,k=>by simp [Hz]
  | r :: w,xs,c,hw,hin,k=>by
    rw [List.nodup_cons] at hw
    obtain ⟨r0,r1⟩:=hin r List.mem_cons_self
    have hl:r.toNat<xs.length:=by omega
    rw [uH,mq hw.2 (fun q hq=>by rw [List.length_set];exact hin q (List.mem_cons_of_mem _ hq)) k,rJ hl]
    by_cases e:k=r.toNat
    · have ek:(k:Int)=r:=by omega
      have hn:¬ (k:Int)∈w:=by rw [ek];exact hw.1
      rw [if_pos e,if_neg hn,if_pos (by rw [ek];exact List.mem_cons_self),e];omega
    · have ek:¬ (k:Int)=r:=by omega
      rw [if_neg e]
      by_cases h:(k:Int)∈w
      · rw [if_pos h,if_pos (List.mem_cons_of_mem _ h)]
      · rw [if_neg h,if_neg (fun z=>by rcases List.mem_cons.mp z with q | q;exact ek q;exact h q)]
def bumps (xs:List Int) (ps:List (List Int × Int)):List Int:=ps.foldl (fun xs p=>bump xs p.1 p.2) xs
theorem El (xs:List Int):bumps xs []=xs:=rfl
theorem qG (xs:List Int) (p:List Int × Int) (ps:List (List Int × Int)):bumps xs (p :: ps)=bumps (bump xs p.1 p.2) ps:=rfl
theorem mX (xs:List Int) (ps:List (List Int × Int)) (p:List Int × Int):bumps xs (ps++[p])=bump (bumps xs ps) p.1 p.2:=by
  unfold bumps;rw [List.foldl_append];rfl
theorem jf:∀ (ps:List (List Int × Int)) (xs:List Int),(bumps xs ps).length=xs.length
  | [],_=>rfl
  | p :: ps,xs=>by rw [qG,jf ps,gW]
def WOk (n:Nat) (w:List Int):Prop:=w.Nodup∧∀ r∈w,0≤r∧r<(n:Int)
theorem jV:∀ {ps:List (List Int × Int)} {xs:List Int},(∀ p∈ps,WOk xs.length p.1)→∀ k:Nat,(bumps xs ps).getD k 0=xs.getD k 0 + (ps.map fun p=>if (k:Int)∈p.1 then p.2 else 0).sum
  | [],xs,_,k=>by simp [El]
  | p :: ps,xs,h,k=>by
    have hp:=h p List.mem_cons_self
    rw [qG,jV (fun q hq=>by rw [gW];exact h q (List.mem_cons_of_mem _ hq)) k,mq hp.1 hp.2 k,List.map_cons,List.sum_cons]
    omega
theorem Fz {α:Type} (l:List α) (f:α→Int) (g:Nat→Int) (h:∀ k a,l[k]?=some a→g k=f a):(l.map f).sum=gY l.length g:=by
  have key:∀ n,n≤l.length→((l.take n).map f).sum=gY n g:=by
    intro n
    induction n with
    | zero=>intro _;rfl
    | succ n ih =>
      intro hn
      have e:l[n]?=some l[n]:=List.getElem?_eq_getElem (by omega)
      rw [List.take_succ,e,List.map_append,List.sum_append,ih (by omega)]
      show _ + (f l[n] + 0)=gY n g + g n
      rw [h n _ e];omega
  have:=key l.length (Nat.le_refl _)
  rwa [List.take_of_length_le (Nat.le_refl _)] at this
theorem nJ {n:Nat} {f:Nat→Int}:∀ {g:List Nat},g.Nodup→(∀ k∈g,k<n)→(g.map f).sum=gY n fun k=>if k∈g then f k else 0
  | [],_,_=>by simp [fQ]
  | a :: g,hn,hl=>by
    rw [List.nodup_cons] at hn
    rw [List.map_cons,List.sum_cons,nJ hn.2 fun k hk=>hl k (List.mem_cons_of_mem _ hk)]
    have e:∀ k,k<n→(if k∈a :: g then f k else 0)=(if k=a then f a else 0) + (if k∈g then f k else 0):=fun k _=>by
      by_cases h:k=a
      · subst h;simp [hn.1]
      · simp [h]
    rw [bw e,jw,lK _ (hl a List.mem_cons_self)]
def shares (fs cs:List Int):List Int:=((fs.zip cs).filter fun p=>decide (0<p.2)).map fun p=>p.1 / p.2
def WT (fs cs rs:List Int) (M:Int):Prop:=(rs++shares fs cs=[]∧M=0)∨∃ m∈rs++shares fs cs,(∀ a∈rs++shares fs cs,m≤a)∧M=max 0 m
theorem qu {fs cs:List Int} {a:Int}:a∈shares fs cs↔∃ (k:Nat) (f c:Int),fs[k]?=some f∧cs[k]?=some c∧0<c∧a=f / c:=by
  unfold shares
  simp only [List.mem_map,List.mem_filter,decide_eq_true_eq]
  constructor
  · rintro ⟨⟨f,c⟩,⟨hm,hc⟩,rfl⟩
    obtain ⟨k,hk,e⟩:=List.getElem_of_mem hm
    have e':(fs.zip cs)[k]?=some (f,c):=by rw [List.getElem?_eq_getElem hk,e]
    rw [List.getElem?_zip_eq_some] at e'
    exact ⟨k,f,c,e'.1,e'.2,hc,rfl⟩
  · rintro ⟨k,f,c,h1,h2,h3,rfl⟩
    exact ⟨(f,c),⟨List.mem_of_getElem? (i:=k) (List.getElem?_zip_eq_some.mpr ⟨h1,h2⟩),h3⟩,rfl⟩
theorem WT.nn {fs cs rs:List Int} {M:Int} (h:WT fs cs rs M):0≤M:=by
  rcases h with ⟨_,e⟩ | ⟨m,_,_,e⟩ <;> omega
theorem WT.low {fs cs rs:List Int} {M:Int} (h:WT fs cs rs M) (hr:∀ a∈rs,0≤a) (hf:∀ a∈fs,0≤a):(∀ a∈rs,M≤a)∧∀ (k:Nat) (f c:Int),fs[k]?=some f→cs[k]?=some c→0<c→M * c≤f:=by
  have hall:∀ a∈rs++shares fs cs,0≤a:=fun a ha=>by
    rcases List.mem_append.mp ha with z | z
    · exact hr a z
    · obtain ⟨k,f,c,h1,h2,h3,rfl⟩:=qu.mp z
      exact Int.ediv_nonneg (hf f (List.mem_of_getElem? h1)) (by omega)
  have hle:∀ a∈rs++shares fs cs,M≤a:=by
    rcases h with ⟨e,_⟩ | ⟨m,hm,hl,rfl⟩
    · intro a ha;rw [e] at ha;cases ha
    · intro a ha
      have:=hl a ha
      have:=hall m hm
      omega
  refine ⟨fun a ha=>hle a (List.mem_append_left _ ha),fun k f c h1 h2 h3=>?_⟩
  exact (Int.le_ediv_iff_mul_le h3).mp (hle _ (List.mem_append_right _ (qu.mpr ⟨k,f,c,h1,h2,h3,rfl⟩)))
end Tn
namespace Tn
structure yZ (n:Nat) (F:Int→Int) (W:Nat→List Int) (day want x:Nat→Int) (Pz:Nat→Prop):Prop where
  fit:Fit n F W want x
  shown:∀ k,k<n→Pz k→x k<want k→∃ r,rZ n F W day x k r
  zero:∀ k,k<n→¬ Pz k→x k=0
theorem yZ.start {n:Nat} {F:Int→Int} {W:Nat→List Int} {day want:Nat→Int} (hw:∀ k,k<n→0≤want k) (hF:∀ r,(∃ k,k<n∧r∈W k)→0≤F r):yZ n F W day want (fun _=>0) (fun _=>False) :=
  ⟨⟨fun _ _=>Int.le_refl _,hw,fun r hr=>by rw [jQ];exact hF r hr⟩,fun _ _ z=>z.elim,fun _ _ _=>rfl⟩
def over (x:Nat→Int) (g:List Nat) (y:Nat→Int):Nat→Int:=fun k=>if k∈g then y (g.idxOf k) else x k
theorem jT {g:List Nat} {i:Nat} (h:i<g.length):g.getD i 0=g[i]:=by rw [List.getD_eq_getElem?_getD,List.getElem?_eq_getElem h];rfl
theorem eX {g:List Nat} (h:g.Pairwise (·<·)):g.Nodup:=h.imp fun e=>Nat.ne_of_lt e
theorem xG {g:List Nat} (h:g.Nodup) {i:Nat} (hi:i<g.length):g.idxOf g[i]=i:=by
  have h1:g.idxOf g[i]<g.length:=List.idxOf_lt_length_iff.mpr (List.getElem_mem hi)
  exact (List.getElem_inj (h₀:=h1) (h₁:=hi) h).mp (List.getElem_idxOf h1)
theorem mQ {x y:Nat→Int} {g:List Nat} (h:g.Nodup) {i:Nat} (hi:i<g.length):over x g y (g.getD i 0)=y i:=by
  unfold over
  rw [jT hi,if_pos (List.getElem_mem hi),xG h hi]
theorem jz {x y:Nat→Int} {g:List Nat} {k:Nat} (h:¬ k∈g):over x g y k=x k:=if_neg h
theorem uq {n:Nat} {W:Nat→List Int} {x y:Nat→Int} {g:List Nat} (r:Int) (hg:g.Nodup) (hn:∀ k∈g,k<n) (hz:∀ k∈g,x k=0) :
    hold n W (over x g y) r=hold n W x r + hold g.length (fun i=>W (g.getD i 0)) y r:=by
  have e:∀ k,k<n→(if r∈W k then over x g y k else 0)=(if r∈W k then x k else 0) + (if k∈g then (if r∈W k then y (g.idxOf k) else 0) else 0):=fun k _=>by
    by_cases h:k∈g
    · unfold over
      rw [if_pos h,if_pos h,hz k h]
      by_cases h2:r∈W k
      · simp [h2]
      · simp [h2]
    · rw [jz h,if_neg h];omega
  have e2:=nJ (n:=n) (f:=fun k=>if r∈W k then y (g.idxOf k) else 0) hg hn
  have e3:=Fz g (fun k=>if r∈W k then y (g.idxOf k) else 0) (fun i=>if r∈W (g.getD i 0) then y i else 0) fun i a ha=>by
    obtain ⟨hi,rfl⟩:=List.getElem?_eq_some_iff.mp ha
    rw [jT hi,xG hg hi]
  unfold hold
  rw [bw e,jw,← e2,e3]
theorem yZ.step {n:Nat} {F:Int→Int} {W:Nat→List Int} {day want x y:Nat→Int} {Pz:Nat→Prop} {g:List Nat} {d:Int} (D:yZ n F W day want x Pz) (hg:g.Pairwise (·<·)) (hgn:∀ k∈g,k<n∧day k=d∧¬ Pz k) (hd:∀ k,Pz k→day k<d)
    (fy:Fit g.length (fun r=>F r - hold n W x r) (fun i=>W (g.getD i 0)) (fun i=>want (g.getD i 0)) y) (sy:pH g.length (fun r=>F r - hold n W x r) (fun i=>W (g.getD i 0)) d0 (fun i=>want (g.getD i 0)) y) :
    yZ n F W day want (over x g y) (fun k=>Pz k∨k∈g):=by
  have nd:=eX hg
  have hn:∀ k∈g,k<n:=fun k hk=>(hgn k hk).1
  have hz:∀ k∈g,x k=0:=fun k hk=>D.zero k (hn k hk) (hgn k hk).2.2
  have hh:=fun r=>uq (n:=n) (W:=W) (x:=x) (y:=y) r nd hn hz
  have inv:∀ k∈g,∃ i,i<g.length∧g.getD i 0=k:=fun k hk=>by
    obtain ⟨i,hi,e⟩:=List.getElem_of_mem hk
    exact ⟨i,hi,by rw [jT hi,e]⟩
  have yn:∀ r,0≤hold g.length (fun i=>W (g.getD i 0)) y r:=fun r=>vf fun i hi=>by
    split
    · exact fy.nn i hi
    · exact Int.le_refl _
  refine ⟨⟨fun k hk=>?_,fun k hk=>?_,fun r hr=>?_⟩,fun k hk hp hl=>?_,fun k hk hp=>?_⟩
  · by_cases h:k∈g
    · obtain ⟨i,hi,rfl⟩:=inv k h
      rw [mQ nd hi];exact fy.nn i hi
    · rw [jz h];exact D.fit.nn k hk
  · by_cases h:k∈g
    · obtain ⟨i,hi,rfl⟩:=inv k h
      rw [mQ nd hi];exact fy.le i hi
    · rw [jz h];exact D.fit.le k hk
  · rw [hh r]
    by_cases h:∃ i,i<g.length∧r∈W (g.getD i 0)
    · have q:hold g.length (fun i=>W (g.getD i 0)) y r≤F r - hold n W x r:=fy.fits r h
      omega
    · have e:hold g.length (fun i=>W (g.getD i 0)) y r=0:=by
        unfold hold
        rw [bw (g:=fun _=>0) fun i hi=>if_neg fun z=>h ⟨i,hi,z⟩,fQ]
      have:=D.fit.fits r hr
      omega
  · by_cases h:k∈g
    · obtain ⟨i,hi,rfl⟩:=inv k h
      rw [mQ nd hi] at hl
      obtain ⟨r,hr,hF,hall⟩:=sy i hi hl
      refine ⟨r,hr,?_,fun j hj hrj hpos=>?_⟩
      · have q:hold g.length (fun i=>W (g.getD i 0)) y r=F r - hold n W x r:=hF
        rw [hh r,q];omega
      · rw [mQ nd hi]
        have dk:=(hgn _ h).2.1
        by_cases hj':j∈g
        · obtain ⟨i',hi',rfl⟩:=inv j hj'
          rw [mQ nd hi'] at hpos ⊢
          have dj:=(hgn _ hj').2.1
          have a:=hall i' hi' hrj hpos
          rcases a with a | ⟨_,a⟩
          · exact absurd a (Int.lt_irrefl _)
          · refine .inr ⟨by rw [dk,dj],?_⟩
            rcases a with a | ⟨a,b⟩
            · exact .inl a
            · refine .inr ⟨a,?_⟩
              have hlt:i'<i:=by omega
              have:=List.pairwise_iff_getElem.mp hg i' i hi' hi hlt
              rw [jT hi,jT hi'];omega
        · rw [jz hj'] at hpos
          by_cases hpj:Pz j
          · have:=hd j hpj
            exact .inl (by rw [dk];exact this)
          · have:=D.zero j hj hpj
            omega
    · have hpk:Pz k:=hp.resolve_right h
      rw [jz h] at hl
      obtain ⟨r,hr,hF,hall⟩:=D.shown k hk hpk hl
      have none:∀ i,i<g.length→r∈W (g.getD i 0)→y i=0:=fun i hi hri=>by
        have a:hold g.length (fun i=>W (g.getD i 0)) y r≤F r - hold n W x r:=fy.fits r ⟨i,hi,hri⟩
        have b:=n6 (f:=fun i=>if r∈W (g.getD i 0) then y i else 0) hi fun j hj=>by
          show (0:Int)≤if r∈W (g.getD j 0) then y j else 0
          split
          · exact fy.nn j hj
          · exact Int.le_refl _
        have c:=fy.nn i hi
        have e:(if r∈W (g.getD i 0) then y i else 0)=y i:=if_pos hri
        have b':y i≤hold g.length (fun i=>W (g.getD i 0)) y r:=by rw [← e];exact b
        omega
      have same:∀ j,j<n→r∈W j→over x g y j=x j:=fun j hj hrj=>by
        by_cases h2:j∈g
        · obtain ⟨i,hi,rfl⟩:=inv j h2
          rw [mQ nd hi,none i hi hrj,hz _ h2]
        · exact jz h2
      refine ⟨r,hr,?_,fun j hj hrj hpos=>?_⟩
      · rw [qy (y:=x) same];exact hF
      · rw [same j hj hrj] at hpos ⊢
        rw [jz h]
        exact hall j hj hrj hpos
  · have h:¬ k∈g:=fun z=>hp (.inr z)
    rw [jz h]
    exact D.zero k hk fun z=>hp (.inl z)
theorem yZ.finish {n:Nat} {F:Int→Int} {W:Nat→List Int} {day want x:Nat→Int} {Pz:Nat→Prop} (D:yZ n F W day want x Pz) (h:∀ k,k<n→Pz k):Fit n F W want x∧pH n F W day want x:=⟨D.fit,fun k hk hl=>D.shown k hk (h k hk) hl⟩
end Tn
namespace Tn
end Tn
namespace Tn
end Tn
namespace Tn
end Tn
namespace Tn
def fW (ws:List (List Int)):Nat→List Int:=fun k=>ws.getD k []
def fX (xs:List Int):Nat→Int:=fun k=>xs.getD k 0
def fF (fs:List Int):Int→Int:=fun r=>fs.getD r.toNat 0
def asI (gs:List Nat):List Int:=gs.map fun k:Nat=>(k:Int)
def fG (gs:List Nat):Nat→Bool:=fun k=>decide (k∈gs)
structure pJ (fs:List Int) (ws:List (List Int)) (rs l xs:List Int) (gs:List Nat) (t:Int):Prop where
  ll:l.length=fs.length
  xl:xs.length=ws.length
  left:∀ r:Nat,r<fs.length→l.getD r 0=fs.getD r 0 - hold ws.length (fW ws) (fX xs) (r:Int)
  srt:gs.Pairwise (·<·)
  inv:yW ws.length (fF fs) (fW ws) (fX rs) (fX xs) (fG gs) t
theorem qz (fs:List Int) (r:Nat):fF fs (r:Int)=fs.getD r 0:=by unfold fF;rw [Int.toNat_natCast]
theorem oX {ws:List (List Int)} {k:Nat} (hk:k<ws.length):fW ws k∈ws:=by
  unfold fW
  rw [List.getD_eq_getElem?_getD,List.getElem?_eq_getElem hk];exact List.getElem_mem hk
theorem iQ (n k:Nat):(List.replicate n (0:Int)).getD k 0=0:=by
  rw [List.getD_eq_getElem?_getD,List.getElem?_replicate]
  split <;> rfl
theorem pJ.start {fs:List Int} {ws:List (List Int)} {rs:List Int} (hf:∀ a∈fs,0≤a) (hr:∀ a∈rs,0≤a) (hws:∀ w∈ws,WOk fs.length w):pJ fs ws rs fs (List.replicate ws.length 0) (List.range ws.length) 0:=by
  have e:fX (List.replicate ws.length 0)=fun _=>0:=by
    funext k;exact iQ _ _
  have g0:∀ (l:List Int) (k:Nat),(∀ a∈l,0≤a)→0≤l.getD k 0:=fun l k h=>by
    rw [List.getD_eq_getElem?_getD]
    cases hk:l[k]? with
    | none=>exact Int.le_refl _
    | some a=>exact h a (List.mem_of_getElem? hk)
  refine ⟨rfl,by simp,fun r hr=>?_,List.pairwise_lt_range,?_⟩
  · rw [e,jQ];omega
  · rw [e,show fG (List.range ws.length)=fun k=>decide (k<ws.length) from by funext k;simp [fG]]
    exact yW.start (fun k _=>g0 rs k hr) fun r _=>g0 fs _ hf
theorem pJ.nn {fs:List Int} {ws:List (List Int)} {rs l xs:List Int} {gs:List Nat} {t:Int} (h:pJ fs ws rs l xs gs t) (hf:∀ a∈fs,0≤a):∀ a∈l,0≤a:=fun a ha=>by
  obtain ⟨r,hr,rfl⟩:=List.getElem_of_mem ha
  have hr':r<fs.length:=by rw [← h.ll];exact hr
  have e:l[r]=l.getD r 0:=by rw [List.getD_eq_getElem?_getD,List.getElem?_eq_getElem hr];rfl
  rw [e,h.left r hr']
  by_cases hx:∃ k,k<ws.length∧(r:Int)∈fW ws k
  · have:=h.inv.fit.fits r hx
    rw [qz] at this
    omega
  · have e0:hold ws.length (fW ws) (fX xs) (r:Int)=0:=by
      unfold hold
      rw [bw (g:=fun _=>0) fun k hk=>if_neg fun z=>hx ⟨k,hk,z⟩,fQ]
    have:=hf fs[r] (List.getElem_mem hr')
    have e1:fs.getD r 0=fs[r]:=by rw [List.getD_eq_getElem?_getD,List.getElem?_eq_getElem hr'];rfl
    omega
def Fg (n:Nat) (ws:List (List Int)) (gs:List Nat):List Int:=bumps (List.replicate n 0) (gs.map fun k=>(fW ws k,1))
theorem Hx {n:Nat} {ws:List (List Int)} {gs:List Nat} (hws:∀ w∈ws,WOk n w) (hg:gs.Nodup) (hn:∀ k∈gs,k<ws.length) (r:Nat):(Fg n ws gs).getD r 0=cnt ws.length (fW ws) (fG gs) (r:Int):=by
  unfold Fg
  rw [jV (fun p hp=>by
    obtain ⟨k,hk,rfl⟩:=List.mem_map.mp hp
    rw [List.length_replicate]
    exact hws _ (oX (hn k hk))) r,iQ,List.map_map]
  have e:=nJ (n:=ws.length) (f:=fun k=>if (r:Int)∈fW ws k then (1:Int) else 0) hg hn
  have e':((fun p:List Int × Int=>if (r:Int)∈p.1 then p.2 else 0) ∘ fun k=>(fW ws k,(1:Int)))=fun k=>if (r:Int)∈fW ws k then (1:Int) else 0:=rfl
  rw [e',e]
  unfold cnt hold fG
  rw [Int.zero_add]
  refine bw fun k _=>?_
  by_cases h1:k∈gs
  · simp [h1]
  · simp [h1]
theorem Hw (n:Nat) (ws:List (List Int)) (gs:List Nat):(Fg n ws gs).length=n:=by unfold Fg;rw [jf,List.length_replicate]
def unmet (rs xs:List Int) (gs:List Nat):List Int:=gs.map fun k=>rs.getD k 0 - xs.getD k 0
theorem Bx {gs:List Nat} {n:Nat} (hg:gs.Nodup) (hn:∀ k∈gs,k<n):WOk n (asI gs):=by
  refine ⟨?_,fun r hr=>?_⟩
  · unfold asI
    exact List.Pairwise.map _ (fun a b h=>by omega) hg
  · obtain ⟨k,hk,rfl⟩:=List.mem_map.mp hr
    have:=hn k hk
    omega
theorem rF {gs:List Nat} {k:Nat}:(k:Int)∈asI gs↔k∈gs:=by
  unfold asI
  rw [List.mem_map]
  constructor
  · rintro ⟨a,ha,e⟩
    have:a=k:=by omega
    rw [← this];exact ha
  · intro h;exact ⟨k,h,rfl⟩
theorem pJ.going {fs:List Int} {ws:List (List Int)} {rs l xs:List Int} {gs:List Nat} {t:Int} (h:pJ fs ws rs l xs gs t):∀ k∈gs,k<ws.length∧xs.getD k 0=t:=fun k hk=>h.inv.go k (by simpa [fG] using hk)
theorem pJ.whole {fs:List Int} {ws:List (List Int)} {rs l xs:List Int} {gs:List Nat} {t M:Int} (h:pJ fs ws rs l xs gs t) (hf:∀ a∈fs,0≤a) (hws:∀ w∈ws,WOk fs.length w) (hM:WT l (Fg fs.length ws gs) (unmet rs xs gs) M) :
    pJ fs ws rs (bumps l (gs.map fun k=>(fW ws k,-M))) (bump xs (asI gs) M) gs (t + M):=by
  have nd:=eX h.srt
  have hn:∀ k∈gs,k<ws.length:=fun k hk=>(h.going k hk).1
  have hl:=h.nn hf
  have hun:∀ a∈unmet rs xs gs,0≤a:=fun a ha=>by
    obtain ⟨k,hk,rfl⟩:=List.mem_map.mp ha
    have:fX xs k≤fX rs k:=h.inv.fit.le k (hn k hk)
    unfold fX at this
    omega
  obtain ⟨lo1,lo2⟩:=hM.low hun hl
  have ex:fX (bump xs (asI gs) M)=jump (fX xs) (fG gs) M:=by
    funext k
    show (bump xs (asI gs) M).getD k 0=if fG gs k then fX xs k + M else fX xs k
    have ok:=Bx nd (n:=xs.length) fun k hk=>by rw [h.xl];exact hn k hk
    rw [mq ok.1 ok.2 k]
    by_cases hk:k∈gs
    · rw [if_pos (rF.mpr hk)];simp [fG,hk,fX]
    · rw [if_neg (fun z=>hk (rF.mp z))];simp [fG,hk,fX]
  have key:∀ r:Nat,r<fs.length→M * cnt ws.length (fW ws) (fG gs) (r:Int)≤l.getD r 0:=fun r hr=>by
    have c0:=YF ws.length (fW ws) (fG gs) (r:Int)
    have hlr:r<l.length:=by rw [h.ll];exact hr
    have e1:l[r]?=some (l.getD r 0):=by rw [List.getD_eq_getElem?_getD,List.getElem?_eq_getElem hlr];rfl
    have hcr:r<(Fg fs.length ws gs).length:=by rw [Hw];exact hr
    have e2:(Fg fs.length ws gs)[r]?=some (cnt ws.length (fW ws) (fG gs) (r:Int)):=by
      rw [← Hx hws nd hn r,List.getD_eq_getElem?_getD,List.getElem?_eq_getElem hcr];rfl
    by_cases hp:0<cnt ws.length (fW ws) (fG gs) (r:Int)
    · exact lo2 r _ _ e1 e2 hp
    · have:cnt ws.length (fW ws) (fG gs) (r:Int)=0:=by omega
      rw [this,Int.mul_zero]
      exact hl _ (List.mem_of_getElem? e1)
  refine ⟨by rw [jf];exact h.ll,by rw [gW];exact h.xl,fun r hr=>?_,h.srt,?_⟩
  · rw [jV (fun p hp=>by
      obtain ⟨k,hk,rfl⟩:=List.mem_map.mp hp
      rw [h.ll]
      exact hws _ (oX (hn k hk))) r,h.left r hr,ex,pq,List.map_map]
    have e:=nJ (n:=ws.length) (f:=fun k=>if (r:Int)∈fW ws k then -M else 0) nd hn
    have e':((fun p:List Int × Int=>if (r:Int)∈p.1 then p.2 else 0) ∘ fun k=>(fW ws k,-M))=fun k=>if (r:Int)∈fW ws k then -M else 0:=rfl
    rw [e',e]
    have e3:(gY ws.length fun k=>if k∈gs then (if (r:Int)∈fW ws k then -M else 0) else 0)=-(M * cnt ws.length (fW ws) (fG gs) (r:Int)):=by
      have a:=pq ws.length (fW ws) (fun _=>0) (fG gs) (-M) (r:Int)
      rw [jQ] at a
      have b:hold ws.length (fW ws) (jump (fun _=>0) (fG gs) (-M)) (r:Int)=gY ws.length fun k=>if k∈gs then (if (r:Int)∈fW ws k then -M else 0) else 0:=by
        unfold hold jump fG
        refine bw fun k _=>?_
        by_cases h1:k∈gs
        · simp [h1]
        · simp [h1]
      rw [← b,a,Int.neg_mul];omega
    rw [e3];omega
  · rw [ex]
    refine h.inv.jump hM.nn (fun k hk=>?_) fun r hr=>?_
    · have hk':k∈gs:=by simpa [fG] using hk
      have:=lo1 (rs.getD k 0 - xs.getD k 0) (List.mem_map.mpr ⟨k,hk',rfl⟩)
      unfold fX;omega
    · obtain ⟨k,hk,hr⟩:=hr
      have hw:=hws _ (oX hk)
      obtain ⟨r0,r1⟩:=hw.2 r hr
      obtain ⟨rn,rfl⟩:=Int.eq_ofNat_of_zero_le r0
      have hrn:rn<fs.length:=by omega
      have a:=key rn hrn
      rw [h.left rn hrn] at a
      rw [qz];exact a
end Tn
namespace Tn
def step1 (ws:List (List Int)) (rs:List Int) (s:List Int × List Int × List Nat) (k:Nat):List Int × List Int × List Nat :=
  if s.2.1.getD k 0<rs.getD k 0∧(fW ws k).all (fun r=>decide (0<s.1.getD r.toNat 0))=true then (bump s.1 (fW ws k) (-1),s.2.1.set k (s.2.1.getD k 0 + 1),s.2.2++[k]) else s
def iz (ws:List (List Int)) (rs:List Int) (gs:List Nat) (s:List Int × List Int × List Nat):List Int × List Int × List Nat:=gs.foldl (step1 ws rs) s
theorem p7 (ws:List (List Int)) (rs:List Int) (gs:List Nat) (k:Nat) (s:List Int × List Int × List Nat):iz ws rs (gs++[k]) s=step1 ws rs (iz ws rs gs s) k:=by
  unfold iz;rw [List.foldl_append];rfl
def rem (rs xs:List Int) (n:Nat):Int:=gY n fun k=>fX rs k - fX xs k
structure QZ (fs:List Int) (ws:List (List Int)) (rs:List Int) (gs:List Nat) (t S0:Int) (i:Nat) (s:List Int × List Int × List Nat):Prop where
  ll:s.1.length=fs.length
  xl:s.2.1.length=ws.length
  left:∀ r:Nat,r<fs.length→s.1.getD r 0=fs.getD r 0 - hold ws.length (fW ws) (fX s.2.1) (r:Int)
  sub:s.2.2.Sublist (gs.take i)
  sum:rem rs s.2.1 ws.length + s.2.2.length=S0
  pv:∃ p,vY ws.length (fF fs) (fW ws) (fX rs) (fX s.2.1) (fG gs) (fG s.2.2) t p∧p≤ws.length∧(∀ j (h:j<gs.length),i≤j→p≤gs[j])∧∀ j (h:j<gs.length),j<i→gs[j]<p
theorem pJ.pass {fs:List Int} {ws:List (List Int)} {rs l xs:List Int} {gs:List Nat} {t:Int} (h:pJ fs ws rs l xs gs t):QZ fs ws rs gs t (rem rs xs ws.length) 0 (l,xs,[]) :=
  ⟨h.ll,h.xl,h.left,by simp,by simp,0,by
    have:=h.inv.pass
    rw [show fG []=fun _=>false from by funext k;simp [fG]]
    exact this,Nat.zero_le _,fun _ _ _=>Nat.zero_le _,fun j _ hj=>absurd hj (Nat.not_lt_zero _)⟩
theorem QZ.step {fs:List Int} {ws:List (List Int)} {rs:List Int} {gs:List Nat} {t S0:Int} {i:Nat} {s:List Int × List Int × List Nat} (h:QZ fs ws rs gs t S0 i s) (srt:gs.Pairwise (·<·)) (hn:∀ k∈gs,k<ws.length) (hws:∀ w∈ws,WOk fs.length w) (hi:i<gs.length) :
    QZ fs ws rs gs t S0 (i + 1) (step1 ws rs s gs[i]):=by
  obtain ⟨l,xs,st⟩:=s
  obtain ⟨p,P0,pn,hp1,hp2⟩:=h.pv
  have hll:l.length=fs.length:=h.ll
  have hxl:xs.length=ws.length:=h.xl
  have hleft:∀ r:Nat,r<fs.length→l.getD r 0=fs.getD r 0 - hold ws.length (fW ws) (fX xs) (r:Int):=h.left
  have hsum:rem rs xs ws.length + st.length=S0:=h.sum
  have hsub:st.Sublist (gs.take i):=h.sub
  have P0:vY ws.length (fF fs) (fW ws) (fX rs) (fX xs) (fG gs) (fG st) t p:=P0
  have hk:gs[i]<ws.length:=hn _ (List.getElem_mem hi)
  have inc:=List.pairwise_iff_getElem.mp srt
  have P1:=P0.skip (q:=gs[i]) (hp1 i hi (Nat.le_refl _)) fun k h1 h2=>by
    cases hg:fG gs k with
    | false=>rfl
    | true =>
      exfalso
      have hm:k∈gs:=by simpa [fG] using hg
      obtain ⟨j,hj,rfl⟩:=List.getElem_of_mem hm
      by_cases hji:j<i
      · have:=hp2 j hj hji
        omega
      · by_cases e:j=i
        · subst e;omega
        · have:=inc i j hi hj (by omega)
          omega
  have hG:fG gs gs[i]=true:=by simp [fG]
  have next1:∀ j (h:j<gs.length),i + 1≤j→gs[i] + 1≤gs[j]:=fun j hj hji=>inc i j hi hj (by omega)
  have next2:∀ j (h:j<gs.length),j<i + 1→gs[j]<gs[i] + 1:=fun j hj hji=>by
    by_cases e:j=i
    · subst e;omega
    · have:=inc j i hj hi (by omega)
      omega
  have wk:=hws _ (oX hk)
  have at_:∀ r∈fW ws gs[i],fF fs r - hold ws.length (fW ws) (fX xs) r=l.getD r.toNat 0:=fun r hr=>by
    obtain ⟨r0,r1⟩:=wk.2 r hr
    obtain ⟨rn,rfl⟩:=Int.eq_ofNat_of_zero_le r0
    rw [qz,Int.toNat_natCast,hleft rn (by omega)]
  by_cases hc:xs.getD gs[i] 0<rs.getD gs[i] 0∧(fW ws gs[i]).all (fun r=>decide (0<l.getD r.toNat 0))=true
  · have e:step1 ws rs (l,xs,st) gs[i]=(bump l (fW ws gs[i]) (-1),xs.set gs[i] (xs.getD gs[i] 0 + 1),st++[gs[i]]):=if_pos hc
    rw [e]
    have ex:fX (xs.set gs[i] (xs.getD gs[i] 0 + 1))=put (fX xs) gs[i] 1:=by
      funext k
      show (xs.set gs[i] (xs.getD gs[i] 0 + 1)).getD k 0=if k=gs[i] then xs.getD k 0 + 1 else xs.getD k 0
      rw [rJ (by rw [hxl];exact hk)]
      by_cases z:k=gs[i]
      · rw [if_pos z,if_pos z,z]
      · rw [if_neg z,if_neg z]
    have P2:=P1.gets hk hG (by unfold fX;exact hc.1) fun r hr=>by
      rw [at_ r hr]
      have:=List.all_eq_true.mp hc.2 r hr
      simpa using this
    refine ⟨by rw [gW];exact hll,by rw [List.length_set];exact hxl,fun r hr=>?_,?_,?_,gs[i] + 1,?_,by omega,next1,next2⟩
    · show (bump l (fW ws gs[i]) (-1)).getD r 0=fs.getD r 0 - hold ws.length (fW ws) (fX (xs.set gs[i] (xs.getD gs[i] 0 + 1))) (r:Int)
      rw [mq wk.1 (by rw [hll];exact wk.2) r,hleft r hr,ex,rH hk]
      split <;> omega
    · show (st++[gs[i]]).Sublist (gs.take (i + 1))
      rw [List.take_add_one,List.getElem?_eq_getElem hi]
      exact hsub.append (List.Sublist.refl _)
    · show rem rs (xs.set gs[i] (xs.getD gs[i] 0 + 1)) ws.length + ((st++[gs[i]]).length:Nat)=S0
      have a:rem rs (xs.set gs[i] (xs.getD gs[i] 0 + 1)) ws.length=rem rs xs ws.length - 1:=by
        unfold rem
        rw [ex,qO,qO]
        have:gY ws.length (put (fX xs) gs[i] 1)=gY ws.length (fX xs) + 1:=by
          have b:∀ k,k<ws.length→put (fX xs) gs[i] 1 k=fX xs k + (if k=gs[i] then 1 else 0):=fun k _=>by
            unfold put;split <;> omega
          rw [bw b,jw,lK _ hk]
        omega
      rw [a,List.length_append,List.length_singleton]
      omega
    · show vY ws.length (fF fs) (fW ws) (fX rs) (fX (xs.set gs[i] (xs.getD gs[i] 0 + 1))) (fG gs) (fG (st++[gs[i]])) t (gs[i] + 1)
      rw [ex,show fG (st++[gs[i]])=fun k=>if k=gs[i] then true else fG st k from by
        funext k
        by_cases z:k=gs[i]
        · simp [fG,z]
        · simp [fG,z]]
      exact P2
  · have e:step1 ws rs (l,xs,st) gs[i]=(l,xs,st):=if_neg hc
    rw [e]
    refine ⟨hll,hxl,hleft,?_,hsum,gs[i] + 1,P1.ends hk hG ?_,by omega,next1,next2⟩
    · exact hsub.trans (by rw [List.take_add_one];exact List.sublist_append_left _ _)
    · by_cases z:xs.getD gs[i] 0<rs.getD gs[i] 0
      · have hno:¬ (fW ws gs[i]).all (fun r=>decide (0<l.getD r.toNat 0))=true:=fun y=>hc ⟨z,y⟩
        refine .inr ?_
        refine Classical.byContradiction fun hx=>hno (List.all_eq_true.mpr fun r hr=>?_)
        refine decide_eq_true ?_
        refine Classical.byContradiction fun hle=>hx ⟨r,hr,?_⟩
        rw [at_ r hr];omega
      · exact .inl (by unfold fX;omega)
theorem QZ.finish {fs:List Int} {ws:List (List Int)} {rs:List Int} {gs:List Nat} {t S0:Int} {s:List Int × List Int × List Nat} (h:QZ fs ws rs gs t S0 gs.length s) (srt:gs.Pairwise (·<·)):pJ fs ws rs s.1 s.2.1 s.2.2 (t + 1):=by
  obtain ⟨p,P0,pn,hp1,hp2⟩:=h.pv
  have P1:=P0.skip (q:=ws.length) pn fun k h1 h2=>by
    cases hg:fG gs k with
    | false=>rfl
    | true =>
      exfalso
      have hm:k∈gs:=by simpa [fG] using hg
      obtain ⟨j,hj,rfl⟩:=List.getElem_of_mem hm
      have:=hp2 j hj hj
      omega
  have hsub:=h.sub
  rw [List.take_of_length_le (Nat.le_refl _)] at hsub
  exact ⟨h.ll,h.xl,h.left,srt.sublist hsub,P1.finish⟩
theorem zx {fs:List Int} {ws:List (List Int)} {rs l xs:List Int} {gs:List Nat} {t:Int} (h:pJ fs ws rs l xs gs t) (hws:∀ w∈ws,WOk fs.length w):∀ i,i≤gs.length→QZ fs ws rs gs t (rem rs xs ws.length) i (iz ws rs (gs.take i) (l,xs,[])):=by
  intro i
  induction i with
  | zero=>intro _;exact h.pass
  | succ i ih =>
    intro hi
    rw [List.take_add_one,List.getElem?_eq_getElem (by omega:i<gs.length)]
    show QZ fs ws rs gs t _ (i + 1) (iz ws rs (gs.take i++[gs[i]]) (l,xs,[]))
    rw [p7]
    exact (ih (by omega)).step h.srt (fun k hk=>(h.going k hk).1) hws (by omega)
theorem pJ.one {fs:List Int} {ws:List (List Int)} {rs l xs:List Int} {gs:List Nat} {t:Int} (h:pJ fs ws rs l xs gs t) (hws:∀ w∈ws,WOk fs.length w) :
    pJ fs ws rs (iz ws rs gs (l,xs,[])).1 (iz ws rs gs (l,xs,[])).2.1 (iz ws rs gs (l,xs,[])).2.2 (t + 1)∧rem rs (iz ws rs gs (l,xs,[])).2.1 ws.length + ((iz ws rs gs (l,xs,[])).2.2.length:Nat)=rem rs xs ws.length:=by
  have q:=zx h hws gs.length (Nat.le_refl _)
  rw [List.take_of_length_le (Nat.le_refl _)] at q
  exact ⟨q.finish h.srt,q.sum⟩
theorem pJ.Ie {fs:List Int} {ws:List (List Int)} {rs l xs:List Int} {gs:List Nat} {t:Int} (h:pJ fs ws rs l xs gs t):0≤rem rs xs ws.length:=vf fun k hk=>by
  have:=h.inv.fit.le k hk
  omega
theorem Af {fs:List Int} {ws:List (List Int)} {rs l xs:List Int} {gs:List Nat} {t M:Int} (h:pJ fs ws rs l xs gs t) (hM:0≤M):rem rs (bump xs (asI gs) M) ws.length≤rem rs xs ws.length:=by
  refine oh fun k hk=>?_
  have ok:=Bx (eX h.srt) (n:=xs.length) fun k hk=>by rw [h.xl];exact (h.going k hk).1
  have:fX (bump xs (asI gs) M) k=fX xs k + (if (k:Int)∈asI gs then M else 0):=mq ok.1 ok.2 k
  rw [this]
  split <;> omega
end Tn
namespace Tn
theorem WOk.len {n:Nat} {w:List Int} (h:WOk n w):w.length≤n:=by
  have:=List.Nodup.length_le_of_subset (l₂:=asI (List.range n)) h.1 fun r hr=>by
    obtain ⟨r0,r1⟩:=h.2 r hr
    obtain ⟨k,rfl⟩:=Int.eq_ofNat_of_zero_le r0
    exact rF.mpr (List.mem_range.mpr (by omega))
  simpa [asI] using this
theorem wH (r:Int):∀ ws:List (List Int),((ws.map fun w=>(w,(1:Int))).map fun p=>if r∈p.1 then p.2 else 0).sum≤(ws.length:Int)
  | []=>by simp
  | w :: ws=>by
    have:=wH r ws
    simp only [List.map_cons,List.sum_cons,List.length_cons]
    split <;> omega
theorem cw_bound {n:Nat} {ws:List (List Int)} (hws:∀ w∈ws,WOk n w):∀ c∈bumps (List.replicate n 0) (ws.map fun w=>(w,(1:Int))),c≤(ws.length:Int):=fun c hc=>by
  obtain ⟨k,hk,rfl⟩:=List.getElem_of_mem hc
  have e:(bumps (List.replicate n 0) (ws.map fun w=>(w,(1:Int))))[k]=(bumps (List.replicate n 0) (ws.map fun w=>(w,(1:Int)))).getD k 0:=by
    rw [List.getD_eq_getElem?_getD,List.getElem?_eq_getElem hk];rfl
  rw [e,jV (fun p hp=>by
    obtain ⟨w,hw,rfl⟩:=List.mem_map.mp hp
    rw [List.length_replicate];exact hws w hw) k,iQ]
  have:=wH (k:Int) ws
  omega
theorem vp {fs cs:List Int} {i:Nat} {f c:Int} (hf:fs[i]?=some f) (hc:cs[i]?=some c):shares (fs.take (i + 1)) (cs.take (i + 1))=shares (fs.take i) (cs.take i)++(if 0<c then [f / c] else []):=by
  have l1:=(List.getElem?_eq_some_iff.mp hf).1
  have l2:=(List.getElem?_eq_some_iff.mp hc).1
  unfold shares
  rw [List.take_add_one,List.take_add_one,hf,hc,List.zip_append (by rw [List.length_take,List.length_take];omega),List.filter_append,List.map_append]
  congr 1
  by_cases h:0<c
  · simp [h]
  · simp [h]
theorem je {gs:List Nat} {i:Nat} {z:Int} (h:(asI gs)[i]?=some z):∃ k:Nat,gs[i]?=some k∧z=(k:Int):=by
  unfold asI at h
  rw [List.getElem?_map] at h
  cases e:gs[i]? with
  | none=>rw [e] at h;cases h
  | some k=>rw [e] at h;exact ⟨k,rfl,(Option.some.inj h).symm⟩
theorem uo (gs:List Nat) (i:Nat):(asI gs).take i=asI (gs.take i):=by unfold asI;rw [List.map_take]
theorem dz (gs:List Nat):(asI gs).length=gs.length:=by unfold asI;rw [List.length_map]
theorem yc {rs xs:List Int} {gs:List Nat} {i k:Nat} (h:gs[i]?=some k):unmet rs xs (gs.take (i + 1))=unmet rs xs (gs.take i)++[rs.getD k 0 - xs.getD k 0]:=by
  unfold unmet;rw [List.take_add_one,h,List.map_append];rfl
theorem gA {α β:Type} {f:α→β} {gs:List α} {i:Nat} {k:α} (h:gs[i]?=some k):(gs.take (i + 1)).map f=(gs.take i).map f++[f k]:=by
  rw [List.take_add_one,h,List.map_append];rfl
theorem bM {α:Type} {gs:List α} {i:Nat} {k:α} (h:gs[i]?=some k):gs.take (i + 1)=gs.take i++[k]:=by
  rw [List.take_add_one,h];rfl
theorem yg {ws:List (List Int)} {rs:List Int} {gs:List Nat} {i k:Nat} {s:List Int × List Int × List Nat} (h:gs[i]?=some k):iz ws rs (gs.take (i + 1)) s=step1 ws rs (iz ws rs (gs.take i) s) k:=by
  rw [bM h];exact p7 _ _ _ _ _
theorem zJ (ws:List (List Int)) (rs:List Int) (s:List Int × List Int × List Nat) (k:Nat):(step1 ws rs s k).1.length=s.1.length∧(step1 ws rs s k).2.1.length=s.2.1.length∧(step1 ws rs s k).2.2.length≤s.2.2.length + 1:=by
  unfold step1
  split
  · exact ⟨gW _ _ _,List.length_set,by simp⟩
  · exact ⟨rfl,rfl,by omega⟩
theorem sO (ws:List (List Int)) (rs:List Int):∀ (gs:List Nat) (s:List Int × List Int × List Nat),(iz ws rs gs s).1.length=s.1.length∧(iz ws rs gs s).2.1.length=s.2.1.length∧(iz ws rs gs s).2.2.length≤s.2.2.length + gs.length
  | [],s=>⟨rfl,rfl,by simp [iz]⟩
  | k :: gs,s=>by
    have a:=zJ ws rs s k
    have b:=sO ws rs gs (step1 ws rs s k)
    have e:iz ws rs (k :: gs) s=iz ws rs gs (step1 ws rs s k):=rfl
    rw [e]
    refine ⟨by rw [b.1,a.1],by rw [b.2.1,a.2.1],?_⟩
    have:=b.2.2
    rw [List.length_cons];omega
end Tn
namespace Tn
end Tn
namespace Tn
end Tn
namespace Tn
structure Grp (day:Nat→Int) (q:List Nat) (gs:List (Int × List Nat)):Prop where
  flat:(gs.map (·.2)).flatten=q
  ord:(gs.map (·.1)).Pairwise (·<·)
  grp:∀ g∈gs,g.2≠[]∧∀ k∈g.2,day k=g.1
theorem Grp.start (day:Nat→Int):Grp day [] []:=⟨rfl,.nil,fun _ h=>nomatch h⟩
theorem Grp.mem {day:Nat→Int} {q:List Nat} {gs:List (Int × List Nat)} (h:Grp day q gs) {g:Int × List Nat} (hg:g∈gs):∃ k∈q,day k=g.1:=by
  obtain ⟨h1,h2⟩:=h.grp g hg
  cases e:g.2 with
  | nil=>exact absurd e h1
  | cons k r =>
    refine ⟨k,?_,h2 k (by rw [e];exact List.mem_cons_self)⟩
    rw [← h.flat]
    exact List.mem_flatten.mpr ⟨g.2,List.mem_map_of_mem hg,by rw [e];exact List.mem_cons_self⟩
theorem Grp.new {day:Nat→Int} {q:List Nat} {gs:List (Int × List Nat)} {k:Nat} (h:Grp day q gs) (hn:∀ g∈gs,g.1≠day k) (hq:∀ j∈q,day j≤day k):Grp day (q++[k]) (gs++[(day k,[k])]):=by
  refine ⟨?_,?_,fun g hg=>?_⟩
  · rw [List.map_append,List.flatten_append,h.flat];rfl
  · rw [List.map_append,List.pairwise_append]
    refine ⟨h.ord,by simp,fun a ha b hb=>?_⟩
    obtain ⟨g,hg,rfl⟩:=List.mem_map.mp ha
    have hb:b=day k:=by simpa using hb
    subst hb
    obtain ⟨j,hj,e⟩:=h.mem hg
    have:=hq j hj
    have:=hn g hg
    omega
  · rcases List.mem_append.mp hg with e | e
    · exact h.grp g e
    · have:g=(day k,[k]):=by simpa using e
      subst this
      exact ⟨by simp,fun j hj=>by
        have:j=k:=by simpa using hj
        rw [this]⟩
theorem Grp.last {day:Nat→Int} {q:List Nat} {gs:List (Int × List Nat)} {k j:Nat} {g:Int × List Nat} (h:Grp day q gs) (hj:gs[j]?=some g) (hk:g.1=day k) (hq:∀ j∈q,day j≤day k):gs=gs.take j++[g]:=by
  obtain ⟨hl,e⟩:=List.getElem?_eq_some_iff.mp hj
  have hlen:gs.length=j + 1:=by
    refine Nat.le_antisymm (Nat.le_of_not_lt fun hlt=>?_) hl
    have ord:=List.pairwise_iff_getElem.mp h.ord j (j + 1) (by rw [List.length_map];exact hl) (by rw [List.length_map];exact hlt) (by omega)
    rw [List.getElem_map,List.getElem_map,e] at ord
    obtain ⟨i,hi,ei⟩:=h.mem (List.getElem_mem (l:=gs) (n:=j + 1) hlt)
    have:=hq i hi
    omega
  have:gs.take (j + 1)=gs.take j++[g]:=bM hj
  rw [← this,List.take_of_length_le (by omega)]
theorem Grp.more {day:Nat→Int} {q:List Nat} {gs:List (Int × List Nat)} {k j:Nat} {g:Int × List Nat} (h:Grp day q gs) (hj:gs[j]?=some g) (hk:g.1=day k) (hq:∀ j∈q,day j≤day k):Grp day (q++[k]) (gs.set j (g.1,g.2++[k])):=by
  have e:=h.last hj hk hq
  have hl:=(List.getElem?_eq_some_iff.mp hj).1
  have es:gs.set j (g.1,g.2++[k])=gs.take j++[(g.1,g.2++[k])]:=by
    conv=>lhs;rw [e]
    have:(gs.take j).length=j:=by rw [List.length_take];omega
    rw [List.set_append,if_neg (by omega),this,Nat.sub_self];rfl
  have hf:=h.flat
  have ho:=h.ord
  rw [e] at hf ho
  rw [List.map_append,List.flatten_append] at hf
  rw [List.map_append] at ho
  rw [es]
  refine ⟨?_,?_,fun g' hg'=>?_⟩
  · rw [List.map_append,List.flatten_append,← hf];simp
  · rw [List.map_append];exact ho
  · rcases List.mem_append.mp hg' with e' | e'
    · exact h.grp g' (List.mem_of_mem_take e')
    · have:g'=(g.1,g.2++[k]):=by simpa using e'
      subst this
      refine ⟨by simp,fun i hi=>?_⟩
      rcases List.mem_append.mp hi with z | z
      · exact (h.grp g (List.mem_of_getElem? hj)).2 i z
      · have:i=k:=by simpa using z
        rw [this,hk]
structure Rk (day:Nat→Int) (n:Nat) (p:List Nat):Prop where
  perm:p.Perm (List.range n)
  ord:p.Pairwise fun i j=>day i<day j∨day i=day j∧i<j
theorem Rk.len {day:Nat→Int} {n:Nat} {p:List Nat} (h:Rk day n p):p.length=n:=by rw [h.perm.length_eq,List.length_range]
theorem Rk.lt {day:Nat→Int} {n:Nat} {p:List Nat} (h:Rk day n p) {j:Nat} (hj:j∈p):j<n:=List.mem_range.mp (h.perm.mem_iff.mp hj)
theorem Rk.before {day:Nat→Int} {n:Nat} {p:List Nat} (h:Rk day n p) {i k:Nat} (hi:p[i]?=some k):∀ j∈p.take i,day j≤day k:=fun j hj=>by
  obtain ⟨hl,e⟩:=List.getElem?_eq_some_iff.mp hi
  obtain ⟨m,hm,em⟩:=List.getElem_of_mem hj
  rw [List.length_take] at hm
  rw [List.getElem_take] at em
  have:=List.pairwise_iff_getElem.mp h.ord m i (by omega) hl (by omega)
  rw [em,e] at this
  omega
theorem nR {α:Type}:∀ {L:List (List α)} {g:List α},g∈L→g.Sublist L.flatten
  | [],_,h=>nomatch h
  | x :: L,g,h=>by
    rw [List.flatten_cons]
    rcases List.mem_cons.mp h with e | e
    · rw [e];exact List.sublist_append_left _ _
    · exact (nR e).trans (List.sublist_append_right _ _)
theorem Grp.up {day:Nat→Int} {n:Nat} {p:List Nat} {gs:List (Int × List Nat)} (h:Grp day p gs) (r:Rk day n p) {g:Int × List Nat} (hg:g∈gs):g.2.Pairwise (·<·):=by
  have hs:g.2.Sublist p:=by rw [← h.flat];exact nR (List.mem_map_of_mem hg)
  have:=r.ord.sublist hs
  refine List.Pairwise.imp_of_mem (fun {a b} ha hb hab=>?_) this
  have ea:=(h.grp g hg).2 a ha
  have eb:=(h.grp g hg).2 b hb
  omega
def inG (gs:List (Int × List Nat)) (j:Nat) (k:Nat):Prop:=∃ g∈gs.take j,k∈g.2
theorem G4 (gs:List (Int × List Nat)) (k:Nat):¬ inG gs 0 k:=fun ⟨_,h,_⟩=>by simp at h
theorem G5 {gs:List (Int × List Nat)} {j:Nat} {g:Int × List Nat} (h:gs[j]?=some g) (k:Nat):inG gs (j + 1) k↔inG gs j k∨k∈g.2:=by
  unfold inG
  rw [bM h]
  constructor
  · rintro ⟨g',h1,h2⟩
    rcases List.mem_append.mp h1 with e | e
    · exact .inl ⟨g',e,h2⟩
    · have:g'=g:=by simpa using e
      rw [this] at h2;exact .inr h2
  · rintro (⟨g',h1,h2⟩ | h)
    · exact ⟨g',List.mem_append_left _ h1,h2⟩
    · exact ⟨g,List.mem_append_right _ (by simp),h⟩
theorem Grp.all {day:Nat→Int} {n:Nat} {p:List Nat} {gs:List (Int × List Nat)} (h:Grp day p gs) (r:Rk day n p) {k:Nat} (hk:k<n):inG gs gs.length k:=by
  have hm:k∈p:=r.perm.mem_iff.mpr (List.mem_range.mpr hk)
  rw [← h.flat] at hm
  obtain ⟨l,hl,hkl⟩:=List.mem_flatten.mp hm
  obtain ⟨g,hg,rfl⟩:=List.mem_map.mp hl
  exact ⟨g,by rw [List.take_length];exact hg,hkl⟩
theorem Grp.later {day:Nat→Int} {p:List Nat} {gs:List (Int × List Nat)} (h:Grp day p gs) {j:Nat} {g:Int × List Nat} (hj:gs[j]?=some g) {k:Nat} (hk:inG gs j k):day k<g.1:=by
  obtain ⟨g',h1,h2⟩:=hk
  obtain ⟨hl,e⟩:=List.getElem?_eq_some_iff.mp hj
  obtain ⟨m,hm,em⟩:=List.getElem_of_mem h1
  rw [List.length_take] at hm
  rw [List.getElem_take] at em
  have ord:=List.pairwise_iff_getElem.mp h.ord m j (by rw [List.length_map];omega) (by rw [List.length_map];exact hl) (by omega)
  rw [List.getElem_map,List.getElem_map,e,em] at ord
  rw [(h.grp g' (List.mem_of_mem_take h1)).2 k h2];exact ord
end Tn
namespace Tn
theorem jR {n:Nat} {W W':Nat→List Int} {x x':Nat→Int} (hW:∀ k,k<n→W k=W' k) (hx:∀ k,k<n→x k=x' k) (r:Int):hold n W x r=hold n W' x' r :=
  bw fun k hk=>by rw [hW k hk,hx k hk]
theorem Fit.Fe {n:Nat} {F F':Int→Int} {W W':Nat→List Int} {want want' x x':Nat→Int} (h:Fit n F W want x) (hW:∀ k,k<n→W k=W' k) (hw:∀ k,k<n→want k=want' k) (hx:∀ k,k<n→x k=x' k) (hF:∀ r,(∃ k,k<n∧r∈W k)→F r=F' r):Fit n F' W' want' x':=by
  refine ⟨fun k hk=>by rw [← hx k hk];exact h.nn k hk,fun k hk=>by rw [← hx k hk,← hw k hk];exact h.le k hk,fun r hr=>?_⟩
  obtain ⟨k,hk,hm⟩:=hr
  have hr:∃ k,k<n∧r∈W k:=⟨k,hk,by rw [hW k hk];exact hm⟩
  rw [← jR hW hx r,← hF r hr]
  exact h.fits r hr
theorem pH.Fe {n:Nat} {F F':Int→Int} {W W':Nat→List Int} {day want want' x x':Nat→Int} (h:pH n F W day want x) (hW:∀ k,k<n→W k=W' k) (hw:∀ k,k<n→want k=want' k) (hx:∀ k,k<n→x k=x' k) (hF:∀ r,(∃ k,k<n∧r∈W k)→F r=F' r):pH n F' W' day want' x':=by
  intro k hk hl
  rw [← hx k hk,← hw k hk] at hl
  obtain ⟨r,h1,h2,h3⟩:=h k hk hl
  refine ⟨r,by rw [← hW k hk];exact h1,by rw [← jR hW hx r,← hF r ⟨k,hk,h1⟩];exact h2,fun j hj hr hp=>?_⟩
  rw [← hx j hj,← hx k hk]
  exact h3 j hj (by rw [hW j hj];exact hr) (by rw [hx j hj];exact hp)
theorem yZ.Fe {n:Nat} {F:Int→Int} {W:Nat→List Int} {day want x x':Nat→Int} {Pz Pz':Nat→Prop} (D:yZ n F W day want x Pz) (hx:∀ k,x k=x' k) (hP:∀ k,Pz k↔Pz' k):yZ n F W day want x' Pz':=by
  have e:x=x':=funext hx
  have e':Pz=Pz':=funext fun k=>propext (hP k)
  rw [← e,← e'];exact D
structure yX (n:Nat) (fs:List Int) (W:Nat→List Int) (day want:Nat→Int) (gs:List (Int × List Nat)) (j:Nat) (xs fl:List Int):Prop where
  xl:xs.length=n
  fll:fl.length=fs.length
  left:∀ i:Nat,i<fs.length→fl.getD i 0=fs.getD i 0 - hold n W (fX xs) (i:Int)
  inv:yZ n (fF fs) W day want (fX xs) (inG gs j)
theorem Bj {fs:List Int} {a:Int} (h:a∈fs):∃ i,i<fs.length∧fs.getD i 0=a:=by
  obtain ⟨i,hi,e⟩:=List.getElem_of_mem h
  exact ⟨i,hi,by rw [List.getD_eq_getElem?_getD,List.getElem?_eq_getElem hi];exact e⟩
theorem lY {fs:List Int} {i:Nat} (h:i<fs.length):fs.getD i 0∈fs:=by
  rw [List.getD_eq_getElem?_getD,List.getElem?_eq_getElem h];exact List.getElem_mem h
theorem Z5 {fs:List Int} (hf:∀ a∈fs,0≤a) (r:Int):0≤fF fs r:=by
  unfold fF
  by_cases h:r.toNat<fs.length
  · exact hf _ (lY h)
  · rw [List.getD_eq_getElem?_getD,List.getElem?_eq_none (by omega)];exact Int.le_refl _
theorem yX.start {n:Nat} {fs:List Int} {W:Nat→List Int} {day want:Nat→Int} (gs:List (Int × List Nat)) (hw:∀ k,k<n→0≤want k) (hf:∀ a∈fs,0≤a):yX n fs W day want gs 0 (List.replicate n 0) fs:=by
  have e:∀ k,fX (List.replicate n 0) k=0:=fun k=>iQ n k
  refine ⟨by simp,rfl,fun i _=>?_,?_⟩
  · have:hold n W (fX (List.replicate n 0)) (i:Int)=0:=by
      rw [jR (W':=W) (x':=fun _=>0) (fun _ _=>rfl) (fun k _=>e k),jQ]
    omega
  · exact (yZ.start (day:=day) hw fun r _=>Z5 hf r).Fe (fun k=>(e k).symm) fun k=>⟨fun z=>z.elim,fun z=>absurd z (G4 gs k)⟩
theorem BL {n:Nat} {W:Nat→List Int} {x:Nat→Int} {r:Int} (h:¬ ∃ k,k<n∧r∈W k):hold n W x r=0:=by
  unfold hold
  rw [bw (g:=fun _=>0) fun k hk=>if_neg fun z=>h ⟨k,hk,z⟩,fQ]
theorem yX.nn {n:Nat} {fs:List Int} {W:Nat→List Int} {day want:Nat→Int} {gs:List (Int × List Nat)} {j:Nat} {xs fl:List Int} (h:yX n fs W day want gs j xs fl) (hf:∀ a∈fs,0≤a):∀ a∈fl,0≤a:=fun a ha=>by
  obtain ⟨i,hi,rfl⟩:=Bj ha
  rw [h.fll] at hi
  rw [h.left i hi]
  by_cases hw:∃ k,k<n∧(i:Int)∈W k
  · have:=h.inv.fit.fits (i:Int) hw
    rw [qz] at this
    omega
  · rw [BL hw]
    have:=hf _ (lY hi)
    omega
theorem yX.step {n:Nat} {fs:List Int} {W:Nat→List Int} {day want:Nat→Int} {gs:List (Int × List Nat)} {j:Nat} {xs fl ys left cur:List Int} {q:List Nat} {t:Int} {g:Int × List Nat} (h:yX n fs W day want gs j xs fl) (G:Grp day q gs) (R:Rk day n q) (hj:gs[j]?=some g)
    (hW:∀ k,k<n→WOk fs.length (W k)) (L:pJ fl (g.2.map W) (g.2.map want) left ys [] t) (hcl:cur.length=n) (hc:∀ k,fX cur k=over (fX xs) g.2 (fX ys) k):yX n fs W day want gs (j + 1) cur left:=by
  have hgm:=List.mem_of_getElem? hj
  have up:=G.up R hgm
  have nd:=eX up
  have hlt:∀ k∈g.2,k<n:=fun k hk=>R.lt (by rw [← G.flat];exact List.mem_flatten.mpr ⟨g.2,List.mem_map_of_mem hgm,hk⟩)
  have hn:∀ k∈g.2,¬ inG gs j k:=fun k hk z=>by
    have:=G.later hj z
    have:=(G.grp g hgm).2 k hk
    omega
  have hz:∀ k∈g.2,fX xs k=0:=fun k hk=>h.inv.zero k (hlt k hk) (hn k hk)
  have hlen:(g.2.map W).length=g.2.length:=List.length_map _
  have eW:∀ i,i<(g.2.map W).length→fW (g.2.map W) i=W (g.2.getD i 0):=fun i hi=>by
    rw [hlen] at hi
    unfold fW
    rw [List.getD_eq_getElem?_getD,List.getElem?_map,List.getElem?_eq_getElem hi,jT hi];rfl
  have ew:∀ i,i<(g.2.map W).length→fX (g.2.map want) i=want (g.2.getD i 0):=fun i hi=>by
    rw [hlen] at hi
    unfold fX
    rw [List.getD_eq_getElem?_getD,List.getElem?_map,List.getElem?_eq_getElem hi,jT hi];rfl
  have eF:∀ r,(∃ k,k<(g.2.map W).length∧r∈fW (g.2.map W) k)→fF fl r=fF fs r - hold n W (fX xs) r:=fun r hr=>by
    obtain ⟨i,hi,hm⟩:=hr
    rw [eW i hi] at hm
    have hk:g.2.getD i 0<n:=hlt _ (by rw [jT (by omega)];exact List.getElem_mem (by omega))
    obtain ⟨r0,r1⟩:=(hW _ hk).2 r hm
    obtain ⟨rn,rfl⟩:=Int.eq_ofNat_of_zero_le r0
    rw [qz,qz]
    exact h.left rn (by omega)
  obtain ⟨fy,sy⟩:=L.inv.finish fun k _=>by simp [fG]
  have fy:=fy.Fe eW ew (x':=fX ys) (fun _ _=>rfl) eF
  have sy:=sy.Fe eW ew (x':=fX ys) (fun _ _=>rfl) eF
  rw [hlen] at fy sy
  have st:=h.inv.step up (d:=g.1) (fun k hk=>⟨hlt k hk,(G.grp g hgm).2 k hk,hn k hk⟩) (fun k hk=>G.later hj hk) fy sy
  refine ⟨hcl,by rw [L.ll,h.fll],fun i hi=>?_,st.Fe (fun k=>(hc k).symm) fun k=>(G5 hj k).symm⟩
  rw [L.left i (by rw [h.fll];exact hi),h.left i hi,jR (W':=W) (x':=over (fX xs) g.2 (fX ys)) (fun _ _=>rfl) (fun k _=>hc k) (i:Int),uq (i:Int) nd hlt hz,jR (x':=fX ys) eW (fun _ _=>rfl) (i:Int),hlen]
  omega
theorem yX.finish {n:Nat} {fs:List Int} {W:Nat→List Int} {day want:Nat→Int} {gs:List (Int × List Nat)} {xs fl:List Int} {q:List Nat} (h:yX n fs W day want gs gs.length xs fl) (G:Grp day q gs) (R:Rk day n q):Fit n (fF fs) W want (fX xs)∧pH n (fF fs) W day want (fX xs) :=
  h.inv.finish fun k hk=>G.all R hk
theorem Ar {x y:Nat→Int} {g:List Nat} {i m:Nat} (nd:g.Nodup) (h:g[i]?=some m) (k:Nat):over x (g.take (i + 1)) y k=if k=m then y i else over x (g.take i) y k:=by
  obtain ⟨hi,e⟩:=List.getElem?_eq_some_iff.mp h
  have hm:¬ m∈g.take i:=fun z=>by
    obtain ⟨a,ha,ea⟩:=List.getElem_of_mem z
    rw [List.length_take] at ha
    rw [List.getElem_take] at ea
    have:=(List.getElem_inj nd).mp (ea.trans e.symm)
    omega
  unfold over
  rw [bM h]
  by_cases hk:k=m
  · subst hk
    rw [if_pos rfl,if_pos (by simp),List.idxOf_append,if_neg hm,List.length_take]
    simp
    congr 1
    omega
  · rw [if_neg hk]
    by_cases hb:k∈g.take i
    · rw [if_pos (by simp [hb]),if_pos hb,List.idxOf_append,if_pos hb]
    · rw [if_neg (by simp [hb,hk]),if_neg hb]
end Tn
namespace Rv
theorem nM {r:List Int} (h:dB r) {p b:Int} (h0:0≤p) (h1:p<r.length):Tn.WOk r.length (jq r p b):=⟨FJ h h0 h1,fun q hq=>wA h p h0 h1 q (zG hq)⟩
end Rv
namespace Rv
def spot (n x s:Int) (k:Nat):Int:=(x + s * (k:Int)) % n
theorem xK {n a b:Int} (hn:0<n) (h:a % n=b % n) (h1:a - b<n) (h2:b - a<n):a=b:=by
  have ea:=Int.emod_add_mul_ediv a n
  have eb:=Int.emod_add_mul_ediv b n
  have e:a - b=n * (a / n - b / n):=by rw [Int.mul_sub];omega
  generalize a / n - b / n=q at e
  by_cases h0:q=0
  · rw [h0,Int.mul_zero] at e;omega
  · by_cases hp:1≤q
    · have:=Int.mul_le_mul_of_nonneg_left hp (Int.le_of_lt hn)
      rw [Int.mul_one] at this;omega
    · have:q≤-1:=by omega
      have:=Int.mul_le_mul_of_nonneg_left this (Int.le_of_lt hn)
      rw [Int.mul_neg,Int.mul_one] at this;omega
theorem FN {n x s:Int} (hn:0<n) (hs:s=1∨s=n - 1) {j k:Nat} (hj:(j:Int)<n) (hk:(k:Int)<n) (h:spot n x s j=spot n x s k):j=k:=by
  unfold spot at h
  rcases hs with rfl | rfl
  · rw [Int.one_mul,Int.one_mul] at h
    have:=xK hn h (by omega) (by omega)
    omega
  · have e:∀ m:Nat,(x + (n - 1) * (m:Int)) % n=(x - (m:Int)) % n:=fun m=>by
      have:x + (n - 1) * (m:Int)=(x - (m:Int)) + n * (m:Int):=by rw [Int.sub_mul];omega
      rw [this,Int.add_mul_emod_self_left]
    rw [e j,e k] at h
    have:=xK hn h (by omega) (by omega)
    omega
theorem ou {n x s:Int} (hn:0<n) (k:Nat):0≤spot n x s k:=Int.emod_nonneg _ (by omega)
theorem vg {n x s:Int} (hn:0<n) (k:Nat):spot n x s k<n:=Int.emod_lt_of_pos _ hn
def spots (n x s:Int) (m:Nat):List Int:=(List.range m).map (spot n x s)
theorem zK (n x s:Int) (m:Nat):(spots n x s m).length=m:=by simp [spots]
theorem yr (n x s:Int) (m:Nat):spots n x s (m + 1)=spots n x s m++[spot n x s m]:=by
  unfold spots;rw [List.range_succ,List.map_append];rfl
theorem nO {n x s:Int} {m k:Nat} (h:k<m):(spots n x s m)[k]?=some (spot n x s k):=by
  unfold spots;rw [List.getElem?_map,List.getElem?_range h];rfl
structure Lnk (n:Nat) (sp:Nat→Int) (k:Nat) (b:List Int):Prop where
  len:b.length=n
  at_:∀ (i:Nat) (x:Int),b[i]?=some x→x=-1∨∃ j m,j<m∧m<k∧m<n∧sp m=(i:Int)∧x=sp j
theorem Lnk.start (n:Nat) (sp:Nat→Int):Lnk n sp 1 (List.replicate n (-1)) :=
  ⟨by simp,fun i x h=>.inl (by
    rw [List.getElem?_replicate] at h
    split at h
    · exact (Option.some.inj h).symm
    · cases h)⟩
theorem Lnk.skip {n:Nat} {sp:Nat→Int} {k:Nat} {b:List Int} (h:Lnk n sp k b):Lnk n sp (k + 1) b :=
  ⟨h.len,fun i x hx=>(h.at_ i x hx).imp id fun ⟨j,m,h1,h2,h3⟩=>⟨j,m,h1,by omega,h3⟩⟩
theorem Lnk.turn {n:Nat} {sp:Nat→Int} {k j:Nat} {b:List Int} (h:Lnk n sp k b) (hk:k<n) (hj:j<k) (h0:0≤sp k):Lnk n sp (k + 1) (b.set (sp k).toNat (sp j)):=by
  refine ⟨by rw [List.length_set];exact h.len,fun i x hx=>?_⟩
  rw [List.getElem?_set] at hx
  split at hx
  · rename_i e
    split at hx
    · exact .inr ⟨j,k,hj,by omega,hk,by omega,(Option.some.inj hx).symm⟩
    · cases hx
  · exact h.skip.at_ i x hx
theorem Lnk.Zz {n:Nat} {sp:Nat→Int} {k:Nat} {b:List Int} (h:Lnk n sp k b) (h0:∀ k,0≤sp k) (h1:∀ k,sp k<n) (inj:∀ j k,j<n→k<n→sp j=sp k→j=k) (hn:0<n):dB b:=by
  classical
  let rk:Nat→Nat:=fun i=>if h:∃ k,k<n∧sp k=(i:Int) then h.choose else 0
  have rk_at:∀ k,k<n→rk (sp k).toNat=k:=fun k hk=>by
    have hex:∃ m,m<n∧sp m=((sp k).toNat:Int):=⟨k,hk,by have:=h0 k;omega⟩
    show (if h:∃ m,m<n∧sp m=((sp k).toNat:Int) then h.choose else 0)=k
    rw [dif_pos hex]
    obtain ⟨a1,a2⟩:=hex.choose_spec
    exact inj _ _ a1 hk (by have:=h0 k;omega)
  refine ⟨rk,fun i _=>?_,fun i x hx=>?_⟩
  · rw [h.len]
    show (if h:∃ k,k<n∧sp k=(i:Int) then h.choose else 0)<n
    split
    · rename_i hex;exact hex.choose_spec.1
    · exact hn
  · rcases h.at_ i x hx with e | ⟨j,m,hjm,_,hm,e,rfl⟩
    · exact .inl e
    · refine .inr ⟨h0 j,by rw [h.len];exact h1 j,?_⟩
      have ei:i=(sp m).toNat:=by have:=h0 m;omega
      rw [ei,rk_at m hm,rk_at j (by omega)]
      exact hjm
end Rv
namespace Tn
end Tn
namespace Rv
theorem zm {r:List Int} (h:dB r) {p:Int} (h0:0≤p) (h1:p<r.length):p∈walk r p:=by
  rw [bJ h h0 h1];exact List.mem_cons_self
theorem qN (f:Nat→Int):∀ n,tot n f=Tn.gY n f
  | 0=>rfl
  | n + 1=>by show tot n f + f n=Tn.gY n f + f n;rw [qN f n]
theorem Dz {r s:List Int} {t:Int} (h0:0≤t) (h1:t<r.length):Tn.fF (nats r s) t=qt r s t:=by
  unfold Tn.fF nats
  rw [List.getD_eq_getElem?_getD,List.getElem?_map,List.getElem?_range (by omega)]
  show qt r s (t.toNat:Int)=_
  rw [Int.toNat_of_nonneg h0]
end Rv
namespace Tn
end Tn
namespace Tn
end Tn
namespace Rv
end Rv
namespace Tn
end Tn
namespace Rv
end Rv
namespace Tn
end Tn
namespace Rv
end Rv
namespace Rv
theorem Ad:∀ {l m:List Int},l.Pairwise (·<·)→m.Pairwise (·<·)→(∀ x,x∈l↔x∈m)→l=m
  | [],[],_,_,_=>rfl
  | [],b :: m,_,_,h=>absurd ((h b).mpr List.mem_cons_self) (by simp)
  | a :: l,[],_,_,h=>absurd ((h a).mp List.mem_cons_self) (by simp)
  | a :: l,b :: m,hl,hm,h=>by
    obtain ⟨l1,l2⟩:=List.pairwise_cons.mp hl
    obtain ⟨m1,m2⟩:=List.pairwise_cons.mp hm
    have e:a=b:=by
      rcases List.mem_cons.mp ((h a).mp List.mem_cons_self) with e | e
      · exact e
      · rcases List.mem_cons.mp ((h b).mpr List.mem_cons_self) with e2 | e2
        · exact e2.symm
        · have:=m1 a e
          have:=l1 b e2
          omega
    subst e
    congr 1
    refine Ad l2 m2 fun x=>⟨fun hx=>?_,fun hx=>?_⟩
    · rcases List.mem_cons.mp ((h x).mp (List.mem_cons_of_mem _ hx)) with e | e
      · have:=l1 x hx;omega
      · exact e
    · rcases List.mem_cons.mp ((h x).mpr (List.mem_cons_of_mem _ hx)) with e | e
      · have:=m1 x hx;omega
      · exact e
def fO (xs ys:List Int):Bool:=xs.any fun x=>decide (x∈ys)
def vM (r xs:List Int) (x:Int):Bool:=decide (x∈xs) && !fO ((walk r x).drop 1) xs
def vL (r xs:List Int) (n:Nat):List Nat:=(List.range n).filter fun i=>vM r xs (i:Int)
theorem GD (r xs:List Int) (n:Nat):(vL r xs n).length≤n:=by
  unfold vL;refine Nat.le_trans (List.length_filter_le _ _) (by rw [List.length_range];exact Nat.le_refl _)
theorem xU {l:List Nat} (h:l.Pairwise (·<·)):(Tn.asI l).Pairwise (·<·):=by
  unfold Tn.asI
  refine List.Pairwise.map _ (fun a b hab=>?_) h
  exact Int.ofNat_lt.mpr hab
theorem Va {r xs ms:List Int} (h0:∀ x∈xs,0≤x∧x<(r.length:Int)) (hm:ms.Pairwise (·<·)) (he:∀ x,x∈ms↔x∈xs):(ms.filter fun x=>!fO ((walk r x).drop 1) xs)=Tn.asI (vL r xs r.length):=by
  refine Ad (hm.sublist List.filter_sublist) (xU (List.Pairwise.sublist List.filter_sublist List.pairwise_lt_range)) fun x=>?_
  unfold Tn.asI vL
  rw [List.mem_filter,List.mem_map,he]
  constructor
  · rintro ⟨h1,h2⟩
    obtain ⟨a0,a1⟩:=h0 x h1
    refine ⟨x.toNat,List.mem_filter.mpr ⟨List.mem_range.mpr (by omega),?_⟩,by omega⟩
    rw [show ((x.toNat:Nat):Int)=x by omega]
    unfold vM
    rw [decide_eq_true h1,h2];rfl
  · rintro ⟨k,hk,rfl⟩
    obtain ⟨_,h2⟩:=List.mem_filter.mp hk
    unfold vM at h2
    rw [Bool.and_eq_true] at h2
    exact ⟨of_decide_eq_true h2.1,h2.2⟩
theorem GC {r D:List Int} (h:dB r):∀ p:Int,0≤p→p<r.length→(∃ z∈walk r p,z∈D)→∃ z∈walk r p,vM r D z=true:=by
  refine h.ind (P:=fun p=>(∃ z∈walk r p,z∈D)→∃ z∈walk r p,vM r D z=true) (fun ⟨z,hz,_⟩=>by rw [iH] at hz;cases hz) fun p h0 h1 ih=>?_
  rw [bJ h h0 h1]
  rintro ⟨z,hz,hD⟩
  by_cases c:∃ z∈walk r (nxt r p),z∈D
  · obtain ⟨y,hy,hl⟩:=ih c
    exact ⟨y,List.mem_cons_of_mem _ hy,hl⟩
  · rcases List.mem_cons.mp hz with e | e
    · subst e
      refine ⟨z,List.mem_cons_self,?_⟩
      unfold vM fO
      rw [bJ h h0 h1,decide_eq_true hD,Bool.true_and,List.drop_succ_cons,List.drop_zero,Bool.not_eq_true',← Bool.not_eq_true,List.any_eq_true]
      rintro ⟨y,hy,hq⟩
      exact c ⟨y,hy,of_decide_eq_true hq⟩
    · exact absurd ⟨z,e,hD⟩ c
theorem Bk {r D:List Int} (h:dB r) {p y:Int} (h0:0≤p) (h1:p<r.length) (hp:vM r D p=true) (hy:y∈walk r (nxt r p)):y ∉ D:=fun hD=>by
  unfold vM fO at hp
  rw [bJ h h0 h1,List.drop_succ_cons,List.drop_zero,Bool.and_eq_true,Bool.not_eq_true',← Bool.not_eq_true,List.any_eq_true] at hp
  exact hp.2 ⟨y,hy,decide_eq_true hD⟩
theorem ug {r D:List Int} {z:Int} (h:vM r D z=true):z∈D:=by
  unfold vM at h
  rw [Bool.and_eq_true] at h
  exact of_decide_eq_true h.1
theorem RV {r D:List Int} (h:dB r):∀ p:Int,0≤p→p<r.length→∀ z y,z∈walk r p→y∈walk r p→vM r D z=true→vM r D y=true→z=y:=by
  refine h.ind (P:=fun p=>∀ z y,z∈walk r p→y∈walk r p→vM r D z=true→vM r D y=true→z=y) (fun z y hz=>by rw [iH] at hz;cases hz) fun p h0 h1 ih z y hz hy lz ly=>?_
  rw [bJ h h0 h1] at hz hy
  rcases List.mem_cons.mp hz with e | e
  · subst e
    rcases List.mem_cons.mp hy with e2 | e2
    · exact e2.symm
    · exact absurd (ug ly) (Bk h h0 h1 lz e2)
  · rcases List.mem_cons.mp hy with e2 | e2
    · subst e2
      exact absurd (ug lz) (Bk h h0 h1 ly e)
    · exact ih z y e e2 lz ly
theorem oW {r D:List Int} (h0:∀ x∈D,0≤x∧x<(r.length:Int)) (z:Int):z∈Tn.asI (vL r D r.length)↔vM r D z=true:=by
  unfold Tn.asI vL
  rw [List.mem_map]
  constructor
  · rintro ⟨k,hk,rfl⟩
    exact (List.mem_filter.mp hk).2
  · intro hz
    obtain ⟨a0,a1⟩:=h0 z (ug hz)
    exact ⟨z.toNat,List.mem_filter.mpr ⟨List.mem_range.mpr (by omega),by rw [show ((z.toNat:Nat):Int)=z by omega];exact hz⟩,by omega⟩
theorem U9 (r D:List Int) (n:Nat):(Tn.asI (vL r D n)).Nodup:=by
  have:=xU (List.Pairwise.sublist List.filter_sublist (List.pairwise_lt_range (n:=n)):(vL r D n).Pairwise (·<·))
  exact this.imp fun hab=>by omega
theorem uD {n:Nat} {W:Nat→List Int} (y:Nat→Int):∀ {L:List Int},L.Nodup→(∀ k,k<n→∀ a b,a∈L→b∈L→a∈W k→b∈W k→a=b) →
    (L.map (Tn.hold n W y)).sum=Tn.gY n fun k=>if fO (W k) L=true then y k else 0
  | [],_,_=>by
    have e:(Tn.gY n fun k=>if fO (W k) []=true then y k else 0)=Tn.gY n fun _=>0:=Tn.bw fun k _=>by
      rw [if_neg]
      unfold fO
      rw [List.any_eq_true]
      rintro ⟨_,_,h⟩
      exact absurd (of_decide_eq_true h) (by simp)
    rw [e,Tn.fQ];rfl
  | z :: L,nd,h1=>by
    obtain ⟨n1,n2⟩:=List.nodup_cons.mp nd
    rw [List.map_cons,List.sum_cons,uD y n2 fun k hk a b ha hb=>h1 k hk a b (List.mem_cons_of_mem _ ha) (List.mem_cons_of_mem _ hb)]
    unfold Tn.hold
    rw [← Tn.jw]
    refine Tn.bw fun k hk=>?_
    have em:∀ M:List Int,fO (W k) M=true↔∃ x∈W k,x∈M:=fun M=>by
      unfold fO;rw [List.any_eq_true]
      exact ⟨fun ⟨x,a,b⟩=>⟨x,a,of_decide_eq_true b⟩,fun ⟨x,a,b⟩=>⟨x,a,decide_eq_true b⟩⟩
    by_cases c1:z∈W k
    · have c2:¬ fO (W k) L=true:=fun q=>by
        obtain ⟨x,hx,hl⟩:=(em L).mp q
        have:=h1 k hk z x List.mem_cons_self (List.mem_cons_of_mem _ hl) c1 hx
        subst this
        exact n1 hl
      rw [if_pos c1,if_neg c2,if_pos ((em _).mpr ⟨z,c1,List.mem_cons_self⟩)];omega
    · rw [if_neg c1]
      by_cases c2:fO (W k) L=true
      · obtain ⟨x,hx,hl⟩:=(em L).mp c2
        rw [if_pos c2,if_pos ((em _).mpr ⟨x,hx,List.mem_cons_of_mem _ hl⟩)];omega
      · rw [if_neg c2,if_neg fun q=>?_]
        · rfl
        · obtain ⟨x,hx,hl⟩:=(em _).mp q
          rcases List.mem_cons.mp hl with e | e
          · subst e;exact c1 hx
          · exact c2 ((em _).mpr ⟨x,hx,e⟩)
theorem Hu {n:Nat} {W:Nat→List Int} {L:List Int} (y:Nat→Int):(((List.range n).filter fun k=>!fO (W k) L).map y).sum=Tn.gY n fun k=>if fO (W k) L=true then 0 else y k:=by
  induction n with
  | zero=>rfl
  | succ n ih =>
    rw [List.range_succ,List.filter_append,List.map_append,List.sum_append,ih]
    show _=_ + _
    congr 1
    dsimp only
    by_cases c:fO (W n) L=true
    · rw [if_pos c,List.filter_cons,if_neg (by rw [c];decide)];rfl
    · rw [if_neg c,List.filter_cons,if_pos (by rw [Bool.not_eq_true] at c;rw [c];rfl)]
      show [y n].sum=_
      rw [List.sum_cons,List.sum_nil,Int.add_zero]
theorem TF {n:Nat} {W:Nat→List Int} {L:List Int} (y:Nat→Int) (nd:L.Nodup) (h1:∀ k,k<n→∀ a b,a∈L→b∈L→a∈W k→b∈W k→a=b) :
    Tn.gY n y=(L.map (Tn.hold n W y)).sum + (((List.range n).filter fun k=>!fO (W k) L).map y).sum:=by
  rw [uD y nd h1,Hu,← Tn.jw]
  exact Tn.bw fun k _=>by split <;> omega
theorem qb {α:Type} {f g:α→Int}:∀ {l:List α},(∀ x∈l,f x=g x)→(l.map f).sum=(l.map g).sum:=fun {l} h=>by rw [List.map_congr_left h]
section
variable {r D:List Int} {n:Nat} {st:Nat→Int} {nat:Int→Int} {x want:Nat→Int}
theorem Bl (h:dB r) (hD:∀ z∈D,0≤z∧z<(r.length:Int)) {W:Nat→List Int} (hst:∀ k,k<n→0≤st k∧st k<(r.length:Int)∧W k=walk r (st k)) :
    ∀ k,k<n→∀ a b,a∈Tn.asI (vL r D r.length)→b∈Tn.asI (vL r D r.length)→a∈W k→b∈W k→a=b:=fun k hk a b ha hb wa wb=>by
  obtain ⟨s0,s1,e⟩:=hst k hk
  rw [e] at wa wb
  exact RV h _ s0 s1 a b wa wb ((oW hD a).mp ha) ((oW hD b).mp hb)
theorem Tv (h:dB r) (hD:∀ z∈D,0≤z∧z<(r.length:Int)) {W:Nat→List Int} (hst:∀ k,k<n→0≤st k∧st k<(r.length:Int)∧W k=walk r (st k)) (hn:∀ z∈D,nat z=Tn.hold n W x z)
    (hw:∀ k,k<n→x k=want k∨∃ z∈W k,z∈D) :
    ((Tn.asI (vL r D r.length)).map nat).sum + (((List.range n).filter fun k=>!fO (W k) (Tn.asI (vL r D r.length))).map want).sum=Tn.gY n x:=by
  rw [TF x (U9 r D r.length) (Bl h hD hst)]
  congr 1
  · exact qb fun z hz=>hn z (ug ((oW hD z).mp hz))
  · refine qb fun k hk=>?_
    obtain ⟨k1,k2⟩:=List.mem_filter.mp hk
    have hk:=List.mem_range.mp k1
    rcases hw k hk with e | e
    · exact e.symm
    · exfalso
      obtain ⟨s0,s1,ew⟩:=hst k hk
      rw [ew] at e
      obtain ⟨z,hz,lz⟩:=GC h _ s0 s1 e
      have:fO (W k) (Tn.asI (vL r D r.length))=true:=by
        unfold fO;rw [List.any_eq_true]
        exact ⟨z,by rw [ew];exact hz,decide_eq_true ((oW hD z).mpr lz)⟩
      rw [this] at k2
      cases k2
end
end Rv
namespace My
open PySem L2
local macro_rules | `(tactic| walk_at "new") => `(tactic| (generalize hE : upd _ _ _ = Hn; have On := Ow.mkE (by assumption) (by assumption) hE rfl; clear hE; revert On; revert Hn))
local macro_rules | `(tactic| walk_at "put") => `(tactic| (generalize hE : upd _ _ _ = Hn; (first | have On := Ow.vB (by assumption) 0 rfl hE rfl | have On := Ow.vB (by assumption) 1 rfl hE rfl | have On := Ow.vB (by assumption) 2 rfl hE rfl | have On := Ow.vB (by assumption) 3 rfl hE rfl | have On := Ow.vB (by assumption) 4 rfl hE rfl | have On := Ow.vB (by assumption) 5 rfl hE rfl); clear hE; (try simp only [List.set_cons_zero, List.set_cons_succ] at On); revert On; revert Hn))
set_option hygiene false
local macro_rules | `(tactic| walk_at "get") => `(tactic| first | assumption | exact O.get 0 | exact O.get 1 | exact O.get 2 | exact O.get 3 | exact O.get 4 | exact O.get 5 | exact O.get 6 | exact O.get 7 | exact O.get 8 | exact O.get 9 | exact O.get 10 | exact O.get 11 | exact O.get 12 | fail)
local macro_rules | `(tactic| walk_at "sq") => `(tactic| first | assumption | exact O.sq 0 | exact O.sq 1 | exact O.sq 2 | exact O.sq 3 | exact O.sq 4 | exact O.sq 5 | exact O.sq 6 | exact O.sq 7 | exact O.sq 8 | exact O.sq 9 | exact O.sq 10 | exact O.sq 11 | exact O.sq 12 | exact SqL.mo (by assumption) O.same | exact SqL.mo (by assumption) (s0.trans O.same) | fail)
local macro_rules | `(tactic| walk_at "sqT") => `(tactic| first | assumption | exact O.sqT 0 | exact O.sqT 1 | exact O.sqT 2 | exact O.sqT 3 | exact O.sqT 4 | exact O.sqT 5 | exact O.sqT 6 | exact O.sqT 7 | exact SqT.mo (by assumption) O.same | exact SqT.mo (by assumption) (s0.trans O.same) | fail)
local macro_rules | `(tactic| walk_at "at") => `(tactic| first | rfl | exact eO (by assumption) | exact jB (by assumption) | exact bR (by omega) (by omega) | exact lastV _ _ | exact ints_last (by omega) | exact bR (ns := [_, _]) (by omega) (by simp only [List.length_cons, List.length_nil]; omega) | exact bR (ns := [_, _, _]) (by omega) (by simp only [List.length_cons, List.length_nil]; omega) | exact bR (ns := [_, _, _, _]) (by omega) (by simp only [List.length_cons, List.length_nil]; omega) | exact bR (ns := [_, _, _, _, _]) (by omega) (by simp only [List.length_cons, List.length_nil]; omega) | exact bR (ns := [_, _, _, _, _, _]) (by omega) (by simp only [List.length_cons, List.length_nil]; omega) | exact bR (ns := [_, _, _, _, _, _, _]) (by omega) (by simp only [List.length_cons, List.length_nil]; omega) | exact bR (ns := [_, _, _, _, _, _, _, _]) (by omega) (by simp only [List.length_cons, List.length_nil]; omega) | fail)
local macro_rules | `(tactic| walk_at "c") => `(tactic| first | omega | (simp only [List.length_map]; omega) | exact szl | (show (0 : Int) < _; decide) | (show (0 : Int) < _; omega) | exact ⟨by decide, by decide⟩ | exact .inl ⟨by decide, by decide⟩ | exact .inr ⟨by decide, by decide⟩ | exact ⟨by decide, by decide, by decide⟩ | exact .inl ⟨by omega, by omega⟩ | exact .inr ⟨by omega, by omega⟩ | exact ⟨by omega, by omega⟩ | (split <;> omega) | fail)
local macro_rules | `(tactic| walk_at "ty") => `(tactic| first | exact .int _ | exact .bl _ | exact .lst (by walk_at "get") | exact .tup (by walk_at "get") | exact .non | fail)
local macro_rules | `(tactic| walk_at "kit") => `(tactic| first | exact Il K | exact Im K | exact kit_ll K | exact kit_bb K | exact kit_bi K | exact Ik K | fail)
local macro_rules | `(tactic| walk_at "sz") => `(tactic| exact aR (by (try simp only [List.length_map, List.length_append, List.length_cons, List.length_nil]); omega))
local macro_rules | `(tactic| walk_at "s") => `(tactic| first | refine YX ?_ | refine ⟨_, rfl, ?_⟩ | refine ⟨_, _, rfl, rfl, ?_⟩ | refine And.intro rfl ?_ | refine And.intro (by walk_at "c") ?_ | refine ⟨_, _, _, _, rfl, rfl, (show SqL _ _ _ _ by walk_at "sq"), (show atI _ _ = some _ by walk_at "at"), ?_⟩ | refine ⟨_, _, _, _, rfl, rfl, (show SqT _ _ _ _ by walk_at "sqT"), (show atI _ _ = some _ by walk_at "at"), ?_⟩ | refine ⟨_, _, rfl, .inl (show SqL _ _ _ _ by walk_at "sq"), ?_⟩ | refine ⟨_, _, rfl, .inr (show SqT _ _ _ _ by walk_at "sqT"), ?_⟩ | refine ⟨_, _, rfl, (show SqL _ _ _ _ by walk_at "sq"), ?_⟩ | refine And.intro ⟨_, (show SqL _ _ _ _ by walk_at "sq")⟩ ?_ | refine And.intro (.inl ⟨rfl, _, (show SqL _ _ _ _ by walk_at "sq")⟩) ?_ | refine ⟨_, _, _, _, rfl, (show xV _ _ _ _ by walk_at "ty"), (show PySem.W.kitOne _ _ _ = some _ by walk_at "kit"), ?_⟩ | refine ⟨_, _, rfl, ?_⟩ | fail)
local macro_rules | `(tactic| walk_at "w") => `(tactic| repeat walk_at "s")
local macro_rules | `(tactic| walk_at "if") => `(tactic| first | refine Io ?_ | refine nF ?_ | refine ifN ?_ | refine ifI (fun hc => ?_) (fun hc => ?_) | refine ifD (fun hc => ?_) (fun hc => ?_) | refine ifB (fun hc => ?_) (fun hc => ?_) | fail)
local macro_rules | `(tactic| walk_at "go") => `(tactic| repeat' (first | walk_at "if" | walk_at "s" | fail))
local macro_rules | `(tactic| walk_at "nw") => `(tactic| (generalize hE : upd _ _ _ = Hn; replace O := Ow.mkE O (by assumption) hE rfl; clear hE))
local macro_rules | `(tactic| walk_at "pt") => `(tactic| (generalize hE : upd _ _ _ = Hn; (first | replace O := Ow.vB O 0 rfl hE rfl | replace O := Ow.vB O 1 rfl hE rfl | replace O := Ow.vB O 2 rfl hE rfl | replace O := Ow.vB O 3 rfl hE rfl | replace O := Ow.vB O 4 rfl hE rfl | replace O := Ow.vB O 5 rfl hE rfl | replace O := Ow.vB O 6 rfl hE rfl | replace O := Ow.vB O 7 rfl hE rfl); clear hE; (try simp only [List.set_cons_zero, List.set_cons_succ] at O)))
local macro_rules | `(tactic| walk_at "app") => `(tactic| (refine ⟨_, _, _, rfl, rfl, (by walk_at "get"), (by walk_at "sz"), ?_⟩; walk_at "pt"))
local macro_rules | `(tactic| walk_at "elt") => `(tactic| (refine ⟨_, (by walk_at "get"), (by walk_at "sz"), ?_⟩; walk_at "pt"))
local macro_rules | `(tactic| walk_at "frz") => `(tactic| (obtain ⟨Hn, On, sn, en⟩ := O.frz; clear O; have O := On; clear On; (try replace s0 := s0.mo sn); (try replace d0 := d0.mo sn); (try replace d1 := d1.mo sn); (try replace d2 := d2.mo sn); (try replace d3 := d3.mo sn); (try replace d4 := d4.mo sn); (try replace d5 := d5.mo sn); (try replace d6 := d6.mo sn); (try replace d7 := d7.mo sn)))
local macro_rules | `(tactic| walk_at "mo") => `(tactic| ((try simp only [List.eraseIdx_cons_zero, List.eraseIdx_cons_succ] at O); (try replace s0 := s0.mo sn); (try replace d0 := d0.mo sn); (try replace d1 := d1.mo sn); (try replace d2 := d2.mo sn); (try replace d3 := d3.mo sn); (try replace d4 := d4.mo sn); (try replace d5 := d5.mo sn); (try replace d6 := d6.mo sn); (try replace d7 := d7.mo sn)))
local macro_rules | `(tactic| walk_at "er") => `(tactic| simp only [List.eraseIdx_cons_zero, List.eraseIdx_cons_succ] at O)
local macro_rules | `(tactic| walk_at "jn") => `(tactic| simp only [List.cons_append, List.nil_append] at O)
def top (i:Nat):Stmt:=PySem.Challenge.pw_sluice_k33_cut_refused.main.body.getD i (.Pass ⟨0,0,0,0⟩)
abbrev bZ:Stmt:=top 51
theorem oF:aQ ["script","k"] ["script","k"] (ao bZ):=⟨rfl,rfl,rfl,by decide +kernel,rfl,by decide +kernel,by decide +kernel⟩
def zT (K:PySem.W.Frag):Sp:=fun vs H Q _=>∃ (a:Addr) (ns:List Int) (k:Nat),vs=[.ref a,.int (k:Int)]∧SqL K H a (ns.map V.int)∧Q (.int (ns.getD k 0)) H
theorem sl_1 {a1:TT} {a2:TS} {a4:TS} {a5:TS} {D:Ends} {σ:St} {H:Hp} (h:let z3:TS:=a2;let z6:TS:=a5;(aP (jG a1 z3 a4) z6) D σ H):(aP (jG a1 a2 a4) a5) D σ H:=h
theorem Zm {a1:TS} {a2:TS} {a3:TS} {D:Ends} {σ:St} {H:Hp} (h:let z4:TS:=a3;let z5:TS:=aP a2 z4;(aP a1 z5) D σ H):(aP a1 (aP a2 a3)) D σ H:=h
theorem sl_3 {a1:TS} {a2:TT} {a3:TS} {a5:TS} {D:Ends} {σ:St} {H:Hp} (h:let z4:TS:=a3;let z6:TS:=a5;let z7:TS:=aP (nZ a2 z4) z6;(aP a1 z7) D σ H):(aP a1 (aP (nZ a2 a3) a5)) D σ H:=h
theorem sl_4 {a1:TS} {a2:TI} {a3:TG} {a4:TT} {a5:TS} {a7:TS} {a9:TS} {D:Ends} {σ:St} {H:Hp} (h:let z6:TS:=a5;let z8:TS:=jG a4 z6 a7;let z10:TS:=a9;let z11:TS:=aP (mH a2 a3 z8) z10;(aP a1 z11) D σ H):(aP a1 (aP (mH a2 a3 (jG a4 a5 a7)) a9)) D σ H:=h
theorem sl_5 {a1:TS} {a2:TT} {a3:TS} {a5:TS} {a6:TT} {a7:TS} {a9:TS} {a10:TS} {D:Ends} {σ:St} {H:Hp} (h:let z4:TS:=a3;let z8:TS:=a7;let z11:TS:=a10;let z12:TS:=aP (jG a6 z8 a9) z11;let z13:TS:=aP (jG a2 z4 a5) z12;(aP a1 z13) D σ H):(aP a1 (aP (jG a2 a3 a5) (aP (jG a6 a7 a9) a10))) D σ H:=h
theorem aai {a1:TS} {a2:TS} {D:Ends} {σ:St} {H:Hp} (h:let z3:TS:=a2;(aP a1 z3) D σ H):(aP a1 a2) D σ H:=h
theorem aah {a1:TS} {a2:TI} {a3:TG} {a4:TI} {a5:TG} {a6:TS} {a9:TS} {D:Ends} {σ:St} {H:Hp} (h:let z7:TS:=a6;let z8:TS:=mH a4 a5 z7;let z10:TS:=a9;let z11:TS:=aP (mH a2 a3 z8) z10;(aP a1 z11) D σ H):(aP a1 (aP (mH a2 a3 (mH a4 a5 a6)) a9)) D σ H:=h
theorem sl_8 {a1:TI} {a2:TG} {a3:TS} {D:Ends} {σ:St} {H:Hp} (h:let z4:TS:=a3;(mH a1 a2 z4) D σ H):(mH a1 a2 a3) D σ H:=h
theorem sl_9 {a1:TS} {a2:TS} {a3:TI} {a4:TG} {a5:TS} {a6:TS} {D:Ends} {σ:St} {H:Hp} (h:let z7:TS:=a6;let z8:TS:=aP a5 z7;let z9:TS:=mH a3 a4 z8;let z10:TS:=aP a2 z9;(aP a1 z10) D σ H):(aP a1 (aP a2 (mH a3 a4 (aP a5 a6)))) D σ H:=h
theorem Zy {a1:TS} {a2:TI} {a3:TG} {a4:TT} {a5:TS} {a6:TS} {a7:TS} {a11:TS} {a13:TS} {D:Ends} {σ:St} {H:Hp} (h:let z8:TS:=a7;let z9:TS:=aP a6 z8;let z10:TS:=aP a5 z9;let z12:TS:=jG a4 z10 a11;let z14:TS:=a13;let z15:TS:=aP (mH a2 a3 z12) z14;(aP a1 z15) D σ H):(aP a1 (aP (mH a2 a3 (jG a4 (aP a5 (aP a6 a7)) a11)) a13)) D σ H:=h
theorem Zx {a1:TS} {a2:TS} {a3:TS} {a4:TT} {a5:TS} {a6:TS} {a9:TS} {D:Ends} {σ:St} {H:Hp} (h:let z7:TS:=a6;let z8:TS:=aP a5 z7;let z10:TS:=a9;let z11:TS:=aP (nZ a4 z8) z10;let z12:TS:=aP a3 z11;let z13:TS:=aP a2 z12;(aP a1 z13) D σ H):(aP a1 (aP a2 (aP a3 (aP (nZ a4 (aP a5 a6)) a9)))) D σ H:=h
theorem Zw {a1:TS} {a2:TI} {a3:TG} {a4:TS} {a6:TS} {D:Ends} {σ:St} {H:Hp} (h:let z5:TS:=a4;let z7:TS:=a6;let z8:TS:=aP (mH a2 a3 z5) z7;(aP a1 z8) D σ H):(aP a1 (aP (mH a2 a3 a4) a6)) D σ H:=h
theorem Zv {a1:TS} {a2:TS} {a3:TS} {a4:TI} {a5:TG} {a6:TS} {a7:TS} {a8:TI} {a9:TG} {a10:TS} {a15:TS} {D:Ends} {σ:St} {H:Hp} (h:let z11:TS:=a10;let z12:TS:=mH a8 a9 z11;let z13:TS:=aP a7 z12;let z14:TS:=aP a6 z13;let z16:TS:=a15;let z17:TS:=aP (mH a4 a5 z14) z16;let z18:TS:=aP a3 z17;let z19:TS:=aP a2 z18;(aP a1 z19) D σ H):(aP a1 (aP a2 (aP a3 (aP (mH a4 a5 (aP a6 (aP a7 (mH a8 a9 a10)))) a15)))) D σ H:=h
theorem Zu {a1:TS} {a2:TI} {a3:TG} {a4:TT} {a5:TS} {a7:TT} {a8:TS} {a10:TS} {a14:TS} {D:Ends} {σ:St} {H:Hp} (h:let z6:TS:=a5;let z9:TS:=a8;let z11:TS:=a10;let z12:TS:=jG a7 z9 z11;let z13:TS:=jG a4 z6 z12;let z15:TS:=a14;let z16:TS:=aP (mH a2 a3 z13) z15;(aP a1 z16) D σ H):(aP a1 (aP (mH a2 a3 (jG a4 a5 (jG a7 a8 a10))) a14)) D σ H:=h
theorem Zt {a1:TS} {a2:TT} {a3:TS} {a4:TS} {a7:TS} {D:Ends} {σ:St} {H:Hp} (h:let z5:TS:=a4;let z6:TS:=aP a3 z5;let z8:TS:=a7;let z9:TS:=aP (nZ a2 z6) z8;(aP a1 z9) D σ H):(aP a1 (aP (nZ a2 (aP a3 a4)) a7)) D σ H:=h
theorem Zr {a1:TS} {a2:TS} {a3:TS} {a4:TT} {a5:TS} {a6:TS} {a9:TS} {a10:TT} {a11:TS} {a13:TS} {a14:TS} {D:Ends} {σ:St} {H:Hp} (h:let z7:TS:=a6;let z8:TS:=aP a5 z7;let z12:TS:=a11;let z15:TS:=a14;let z16:TS:=vd (jG a10 z12 a13) z15;let z17:TS:=vd (jG a4 z8 a9) z16;let z18:TS:=aP a3 z17;let z19:TS:=aP a2 z18;(aP a1 z19) D σ H):(aP a1 (aP a2 (aP a3 (vd (jG a4 (aP a5 a6) a9) (vd (jG a10 a11 a13) a14))))) D σ H:=h
theorem Zq {a1:TS} {a2:TS} {a3:TS} {a4:TS} {a5:TS} {a6:TI} {a7:TG} {a8:TS} {a9:TT} {a10:TS} {a12:TS} {a15:TS} {D:Ends} {σ:St} {H:Hp} (h:let z11:TS:=a10;let z13:TS:=jG a9 z11 a12;let z14:TS:=aP a8 z13;let z16:TS:=a15;let z17:TS:=aP (mH a6 a7 z14) z16;let z18:TS:=aP a5 z17;let z19:TS:=aP a4 z18;let z20:TS:=aP a3 z19;let z21:TS:=aP a2 z20;(aP a1 z21) D σ H):(aP a1 (aP a2 (aP a3 (aP a4 (aP a5 (aP (mH a6 a7 (aP a8 (jG a9 a10 a12))) a15)))))) D σ H:=h
theorem Zo {a1:TT} {a2:TS} {a4:TS} {a5:TS} {a6:TS} {a7:TS} {a8:TS} {a9:TS} {a10:TS} {a11:TS} {D:Ends} {σ:St} {H:Hp} (h:let z3:TS:=a2;let z12:TS:=a11;let z13:TS:=aP a10 z12;let z14:TS:=aP a9 z13;let z15:TS:=aP a8 z14;let z16:TS:=aP a7 z15;let z17:TS:=aP a6 z16;let z18:TS:=aP a5 z17;(aP (jG a1 z3 a4) z18) D σ H):(aP (jG a1 a2 a4) (aP a5 (aP a6 (aP a7 (aP a8 (aP a9 (aP a10 a11))))))) D σ H:=h
theorem Zn {a1:TT} {a2:TS} {a4:TS} {a5:TT} {a6:TS} {a8:TS} {a9:TT} {a10:TS} {a12:TS} {a13:TS} {D:Ends} {σ:St} {H:Hp} (h:let z3:TS:=a2;let z7:TS:=a6;let z11:TS:=a10;let z14:TS:=a13;let z15:TS:=aP (jG a9 z11 a12) z14;let z16:TS:=aP (jG a5 z7 a8) z15;(aP (jG a1 z3 a4) z16) D σ H):(aP (jG a1 a2 a4) (aP (jG a5 a6 a8) (aP (jG a9 a10 a12) a13))) D σ H:=h
theorem Zk {a1:TS} {a2:TS} {a3:TS} {a4:TS} {a5:TS} {a6:TS} {D:Ends} {σ:St} {H:Hp} (h:let z7:TS:=a6;let z8:TS:=aP a5 z7;let z9:TS:=aP a4 z8;let z10:TS:=aP a3 z9;let z11:TS:=aP a2 z10;(aP a1 z11) D σ H):(aP a1 (aP a2 (aP a3 (aP a4 (aP a5 a6))))) D σ H:=h
theorem Zj {a1:TS} {a2:TI} {a3:TG} {a4:TS} {a5:TT} {a6:TS} {a8:TS} {a9:TS} {a13:TS} {D:Ends} {σ:St} {H:Hp} (h:let z7:TS:=a6;let z10:TS:=a9;let z11:TS:=vd (jG a5 z7 a8) z10;let z12:TS:=aP a4 z11;let z14:TS:=a13;let z15:TS:=aP (mH a2 a3 z12) z14;(aP a1 z15) D σ H):(aP a1 (aP (mH a2 a3 (aP a4 (vd (jG a5 a6 a8) a9))) a13)) D σ H:=h
theorem Zi {a1:TS} {a2:TS} {a3:TS} {a4:TS} {a5:TS} {a6:TS} {a7:TI} {a8:TG} {a9:TS} {a10:TS} {a11:TS} {a15:TS} {a16:TS} {a17:TS} {a18:TS} {a19:TS} {a20:TT} {a21:TS} {a23:TS} {a24:TS} {a25:TS} {a26:TT} {a27:TS} {a29:TS} {a30:TS} {D:Ends} {σ:St} {H:Hp} (h:let z12:TS:=a11;let z13:TS:=aP a10 z12;let z14:TS:=aP a9 z13;let z22:TS:=a21;let z28:TS:=a27;let z31:TS:=a30;let z32:TS:=aP (jG a26 z28 a29) z31;let z33:TS:=aP a25 z32;let z34:TS:=aP a24 z33;let z35:TS:=aP (jG a20 z22 a23) z34;let z36:TS:=aP a19 z35;let z37:TS:=aP a18 z36;let z38:TS:=aP a17 z37;let z39:TS:=aP a16 z38;let z40:TS:=aP a15 z39;let z41:TS:=aP (mH a7 a8 z14) z40;let z42:TS:=aP a6 z41;let z43:TS:=aP a5 z42;let z44:TS:=aP a4 z43;let z45:TS:=aP a3 z44;let z46:TS:=aP a2 z45;(aP a1 z46) D σ H):(aP a1 (aP a2 (aP a3 (aP a4 (aP a5 (aP a6 (aP (mH a7 a8 (aP a9 (aP a10 a11))) (aP a15 (aP a16 (aP a17 (aP a18 (aP a19 (aP (jG a20 a21 a23) (aP a24 (aP a25 (aP (jG a26 a27 a29) a30)))))))))))))))) D σ H:=h
theorem RK {f:Addr} {fd:FuncData} (D:Df K mg "_law_cell_at" bZ ["script","k"] f fd) (B:Blt mg):bT P w K mg base CX0 1 f fd ["script","k"] (zT K):=by
  refine D.F.ok oF (fun vs H Q E h=>?_) (fun cdv A outer s H vs Q E hr h=>?_)
  · obtain ⟨a,ns,k,rfl,_⟩:=h;rfl
  · obtain ⟨a,ns,k,rfl,hS,q⟩:=h
    refine ⟨_,(aA (jN (cA UJ (pv 1) (aG aV rfl B.len PySem.boot_len (ak (pv 0) au)) (dJ _))
        (aD (bx (aX aJ (pv 0) (pv 1) (fun _ _=>rfl))))
        eV)
      (aD (bx aq))),?_⟩
    refine sl_1 ?_
    intro zu0 zu1
    refine ⟨_,rfl,_,rfl,a,_,rfl,.inl hS,_,_,rfl,rfl,_,rfl,?_⟩
    refine aat (fun h=>?_) (fun h=>?_)
    · have hk:k<ns.length:=by
        have:=of_decide_eq_true h
        rw [List.length_map] at this;omega
      have e:ns[k]?=some (ns.getD k 0):=by rw [List.getD_eq_getElem?_getD,List.getElem?_eq_getElem hk];rfl
      exact ⟨_,rfl,_,rfl,a,_,_,_,rfl,rfl,hS,eO e,q⟩
    · have hk:¬ k<ns.length:=fun z=>h (decide_eq_true (by rw [List.length_map];omega))
      have e:ns.getD k 0=0:=by rw [List.getD_eq_getElem?_getD,List.getElem?_eq_none (by omega)];rfl
      rw [e] at q
      exact q
abbrev dW:Stmt:=top 53
theorem jK:aQ ["cell","k","seed","turned"] ["cell","k"] (ao dW):=⟨rfl,rfl,rfl,by decide +kernel,rfl,by decide +kernel,by decide +kernel⟩
def drw (c k:Int):Int:=((c % 1000000007 * 6007 + 613 * k + 104729) * (c % 1000000007 * 6007 + 613 * k + 104729) % 1000000007 * (c % 1000000007 * 6007 + 613 * k + 104729 + 5 * k + 1) % 998244353) * ((c % 1000000007 * 6007 + 613 * k + 104729) * (c % 1000000007 * 6007 + 613 * k + 104729) % 1000000007 * (c % 1000000007 * 6007 + 613 * k + 104729 + 5 * k + 1) % 998244353 + 2 * k + 3) % 4294967291
theorem QS (c k:Int):0≤drw c k:=Int.emod_nonneg _ (by decide)
theorem YB (c k:Int):drw c k<4294967291:=Int.emod_lt_of_pos _ (by decide)
def HY:Sp:=fun vs H Q _=>∃ (c k:Int),vs=[.int c,.int k]∧0≤k∧k≤1000∧Q (.int (drw c k)) H
theorem U5 {f:Addr} {fd:FuncData} (D:Df K mg "_law_draw" dW ["cell","k"] f fd):bT P w K mg base CX0 1 f fd ["cell","k"] HY:=by
  refine D.F.ok jK (fun vs H Q E h=>?_) (fun cdv A outer s H vs Q E hr h=>?_)
  · obtain ⟨c,k,rfl,_⟩:=h;rfl
  · obtain ⟨c,k,rfl,h0,h1,q⟩:=h
    have a0:=Int.emod_nonneg c (show (1000000007:Int)≠0 by decide)
    have a1:=Int.emod_lt_of_pos c (show (0:Int)<1000000007 by decide)
    refine ⟨_,(aA (aO (i:=2) jK.nd rfl (Or.inl rfl) (aL eU (aL eU (aL iu (aL bK (pv 0) aq) aq) (aL iu aq (pv 1))) aq))
      (aA (aO (i:=3) jK.nd rfl (Or.inl rfl) (aL bK (aL iu (aL bK (aL iu (pv 2) (pv 2)) aq) (aL eU (aL eU (pv 2) (aL iu aq (pv 1))) aq)) aq))
      (aD (bx (aL bK (aL iu (pv 3) (aL eU (aL eU (pv 3) (aL iu aq (pv 1))) aq)) aq))))),?_⟩
    refine Zm ?_
    intro zu0 zu1
    refine ⟨_,rfl,_,_,rfl,rfl,(by show (0:Int)<1000000007;decide),_,_,rfl,rfl,.inr ⟨by decide,by decide⟩,_,rfl,_,_,rfl,rfl,.inl ⟨by decide,by decide⟩,_,_,rfl,rfl,_,_,rfl,rfl,?_⟩
    refine ⟨_,rfl,_,rfl,_,_,rfl,rfl,.inl ⟨by omega,by omega⟩,_,_,rfl,rfl,(by show (0:Int)<1000000007;decide),_,rfl,_,rfl,_,_,rfl,rfl,.inl ⟨by decide,by decide⟩,_,_,rfl,rfl,_,_,rfl,rfl,_,_,rfl,rfl,.inr ⟨by omega,by omega⟩,_,_,rfl,rfl,(by show (0:Int)<998244353;decide),?_⟩
    have b0:=Int.emod_nonneg ((c % 1000000007 * 6007 + 613 * k + 104729) * (c % 1000000007 * 6007 + 613 * k + 104729) % 1000000007 * (c % 1000000007 * 6007 + 613 * k + 104729 + 5 * k + 1)) (show (998244353:Int)≠0 by decide)
    have b1:=Int.emod_lt_of_pos ((c % 1000000007 * 6007 + 613 * k + 104729) * (c % 1000000007 * 6007 + 613 * k + 104729) % 1000000007 * (c % 1000000007 * 6007 + 613 * k + 104729 + 5 * k + 1)) (show (0:Int)<998244353 by decide)
    exact ⟨_,rfl,_,rfl,_,rfl,_,_,rfl,rfl,.inl ⟨by decide,by decide⟩,_,_,rfl,rfl,_,_,rfl,rfl,_,_,rfl,rfl,.inl ⟨by omega,by omega⟩,_,_,rfl,rfl,(by show (0:Int)<4294967291;decide),q⟩
abbrev bG:Stmt:=top 54
theorem qZ:aQ ["cell","many"] ["cell","many"] (ao bG):=⟨rfl,rfl,rfl,by decide +kernel,rfl,by decide +kernel,by decide +kernel⟩
def Fd (c:Int) (n:Nat):List Int:=(List.range n).map fun (i:Nat)=>drw c (i:Int)
theorem DG (c:Int) (n:Nat):Fd c (n + 1)=Fd c n++[drw c (n:Int)]:=by
  unfold Fd;rw [List.range_succ,List.map_append];rfl
theorem lZ (c:Int) (n:Nat):(Fd c n).length=n:=by unfold Fd;simp
theorem vQ {c:Int} {n:Nat} {k:Nat}:0≤(Fd c n).getD k 0:=by
  rw [List.getD_eq_getElem?_getD]
  unfold Fd
  rw [List.getElem?_map]
  cases (List.range n)[k]? with
  | none=>exact Int.le_refl _
  | some i=>exact QS _ _
def oA:Sp:=fun vs H Q _=>∃ (c m:Int),vs=[.int c,.int m]∧-1000≤m∧m≤1000∧YK H (fun xs=>∃ ys,xs=ys.map V.int∧ys=Fd c m.toNat) Q
theorem RB {f fP:Addr} {fd fdP:FuncData} (D:Df K mg "_law_mixed" bG ["cell","many"] f fd) (B:Blt mg) (gQ:Df K mg "_law_draw" dW ["cell","k"] fP fdP)
    (wz:bT P w K mg base CX0 1 fP fdP ["cell","k"] HY):bT P w K mg base CX0 2 f fd ["cell","many"] oA:=by
  refine D.F.ok qZ (fun vs H Q E h=>?_) (fun cdv A outer s H vs Q E hr h=>?_)
  · obtain ⟨c,k,rfl,_⟩:=h;rfl
  · obtain ⟨c,m,rfl,h0,h1,q⟩:=h
    refine ⟨_,(aD (bx (gK (ao bG) rfl ["cell","many"] rfl ["k","cell"] [none,some 0] (by decide +kernel) (by decide +kernel) (by decide +kernel) rfl (oN rfl B.range (ak (pv 1) au)) (fun _ _ _=>(aK (i:=0) (show (["k","cell"]:List Str).Nodup by decide +kernel) rfl (Or.inl rfl))) (fun _ _ _=>gk) (fun _ _ _=>(aH wz (hr.mono (by decide)) rfl gQ.m gQ.F.kp gQ.b .nil bI (ak (pv 1) (ak (pv 0) au))))))),?_⟩
    refine ⟨_,rfl,m,rfl,by omega,by omega,fun acc hacc=>?_⟩
    refine mW (fun i τ H2=>∃ v,τ=[v,some (.int c)]∧Same H H2∧H2 acc=some (.lst ((Fd c i).map V.int))) ⟨none,rfl,(Same.refl H).upd hacc,bB⟩ ?_ ?_
    · rintro i τ H2 hi ⟨v,rfl,s2,h2⟩
      refine yU ?_
      refine ⟨_,rfl,_,rfl,c,_,rfl,by omega,by omega,?_⟩
      refine ⟨_,h2,aR (by rw [List.length_map,lZ];omega),_,rfl,s2.upd hacc,?_⟩
      rw [bB,DG,List.map_append,show (0:Int) + (i:Int)=(i:Int) by omega];rfl
    · rintro τ H2 ⟨v,rfl,s2,h2⟩
      exact q acc H2 _ s2 hacc h2 ⟨_,rfl,rfl⟩
abbrev cU:Stmt:=top 52
theorem qY:aQ ["found"] ["found"] (ao cU):=⟨rfl,rfl,rfl,by decide +kernel,rfl,by decide +kernel,by decide +kernel⟩
def wI:Sp:=fun vs H Q _=>∃ (z:Int),vs=[.int z]∧Q (.bl true) H
theorem Il (K:PySem.W.Frag):PySem.W.kitOne K (.type "int") (.type "int")=some true:=by rfl
theorem Im (K:PySem.W.Frag):PySem.W.kitOne K (.type "int") (.type "bool")=some false:=by rfl
theorem Gi {f:Addr} {fd:FuncData} (D:Df K mg "_law_whole" cU ["found"] f fd) (B:Blt mg):bT P w K mg base CX0 1 f fd ["found"] wI:=by
  refine D.F.ok qY (fun vs H Q E h=>?_) (fun cdv A outer s H vs Q E hr h=>?_)
  · obtain ⟨z,rfl,_⟩:=h;rfl
  · obtain ⟨z,rfl,q⟩:=h
    refine ⟨_,(aD (bx (Aq (aG lB rfl B.isinstance PyProof.Rows.boot_isinstance (ak (pv 0) (ak (rC (v:=.ty "int") rfl B.int PyProof.Rows.boot_int rfl) au))) (Am (Ih (aG lB rfl B.isinstance PyProof.Rows.boot_isinstance (ak (pv 0) (ak (rC (v:=.ty "bool") rfl B.bool PyProof.Rows.boot_bool rfl) au)))))))),?_⟩
    refine ⟨_,rfl,_,_,_,true,rfl,.int _,Il K,_,rfl,Io ?_⟩
    exact ⟨_,rfl,_,_,_,false,rfl,.int _,Im K,_,rfl,q⟩
theorem jM (n:Nat) (x:Int):(List.replicate n [V.int x]).flatten=(List.replicate n x).map V.int:=by rw [List.map_replicate];exact Rn _ _
theorem mj {w cur:List Int} {c z:Int} {j:Nat} (hz:w[j]?=some z):Tn.bump cur (w.take (j + 1)) c=(Tn.bump cur (w.take j) c).set z.toNat ((Tn.bump cur (w.take j) c).getD z.toNat 0 + c):=by
  rw [List.take_add_one,hz];exact Tn.Em _ _ _ _
abbrev gR:Stmt:=top 20
theorem tE:aQ ["below","reach","way"] ["below","reach"] (ao gR):=⟨rfl,rfl,rfl,by decide +kernel,rfl,by decide +kernel,by decide +kernel⟩
def wJ (K:PySem.W.Frag):Sp:=fun vs H Q _=>∃ (a:Addr) (r:List Int) (p:Int),vs=[.ref a,.int p]∧SqL K H a (r.map V.int)∧Rv.dB r∧0≤p∧p<r.length∧r.length≤900 ∧
  YK H (fun xs=>xs=(Rv.walk r p).map V.int) Q
theorem Eo (pre:List Int) (z:Int):atI ((pre++[z]).map V.int) (-1)=some (V.int z):=by
  rw [List.map_append];exact HD _ _
theorem UL {f:Addr} {fd:FuncData} (D:Df K mg "way_of" gR ["below","reach"] f fd) (C:Mth mg):bT P w K mg base CX0 1 f fd ["below","reach"] (wJ K):=by
  obtain ⟨tM,hMOUTH⟩:=C.MOUTH
  refine D.F.ok tE (fun vs H Q E h=>?_) (fun cdv A outer s H vs Q E hr h=>?_)
  · obtain ⟨a,r,p,rfl,_⟩:=h;rfl
  · obtain ⟨a,r,p,rfl,hS,hR,p0,p1,hn,q⟩:=h
    refine ⟨_,(aA (aO (i:=2) tE.nd rfl (Or.inl rfl) (eH (ak (pv 1) au)))
      (aA (rm PassesOwn.never (cA vI (aX aJ (pv 0) (aX aJ (pv 2) (rA lJ aq) (fun _ _=>rfl)) (fun _ _=>rfl)) (oR (v:=.int (-1)) rfl hMOUTH ⟨_,rfl⟩) (dJ _))
        (aD (gJ (oU PySem.F.plainAttrs_list PySem.F.slot_list_append PySem.F.type_list_append dX (pv 2) (ak (aX aJ (pv 0) (aX aJ (pv 2) (rA lJ aq) (fun _ _=>rfl)) (fun _ _=>rfl)) au)))))
      (aD (bx (pv 2))))),?_⟩
    refine sl_3 ?_
    intro zu0 zu1 zu2
    refine ⟨_,rfl,(by show 1≤sizeLine;decide),fun lw hlw=>?_⟩
    refine ⟨fun m σ H'=>∃ (pre:List Int) (z:Int),σ=[some (.ref a),some (.int p),some (.ref lw)]∧Same H H'∧H' lw=some (.lst ((pre++[z]).map V.int))∧0≤z∧z<r.length∧pre++Rv.walk r z=Rv.walk r p∧m=Rv.mea r z,
      ⟨_,[],p,rfl,(Same.refl H).upd hlw,bB,p0,p1,rfl,rfl⟩,?_⟩
    rintro m σ H2 ⟨pre,z,rfl,s2,h2,z0,z1,e,rfl⟩
    have g:=Rv.jo z0 z1
    have hlen:pre.length + (Rv.walk r z).length≤r.length + 1:=by
      have:=Rv.lF r p
      rw [← e,List.length_append] at this;exact this
    refine ⟨_,rfl,_,rfl,_,rfl,lw,_,_,_,rfl,rfl,SqL.of h2,Eo pre z,a,_,_,_,rfl,rfl,s2.seq hS,lV z0 g,rfl,_,rfl,?_⟩
    rcases hR.step z0 z1 with hm | ⟨n0,n1⟩
    · rw [hm]
      refine R0 rfl ?_
      refine ⟨_,rfl,q lw H2 _ s2 hlw h2 ?_⟩
      have ew:Rv.walk r z=[z]:=by rw [Rv.bJ hR z0 z1,hm,Rv.iH]
      rw [← e,ew]
    · have hd:(!decide (V.int (Rv.nxt r z)=V.int (-1)))=true:=by
        have:¬ Rv.nxt r z=-1:=by omega
        simp [this]
      rw [hd]
      refine Io ?_
      refine ⟨fun σ' H'=>∃ m',m'<Rv.mea r z∧∃ (pre:List Int) (z:Int),σ'=[some (.ref a),some (.int p),some (.ref lw)]∧Same H H'∧H' lw=some (.lst ((pre++[z]).map V.int))∧0≤z∧z<r.length∧pre++Rv.walk r z=Rv.walk r p∧m'=Rv.mea r z,fun _ _ x=>x,?_⟩
      refine ⟨_,rfl,.inl ⟨rfl,_,SqL.of h2⟩,_,rfl,_,rfl,_,rfl,lw,_,_,_,rfl,rfl,SqL.of h2,Eo pre z,a,_,_,_,rfl,rfl,s2.seq hS,lV z0 g,lw,_,_,rfl,rfl,h2,aR ?_,?_⟩
      · rw [List.length_map,List.length_append]
        have:1≤(Rv.walk r z).length:=by rw [Rv.bJ hR z0 z1];exact Nat.succ_le_succ (Nat.zero_le _)
        show pre.length + 1≤_
        omega
      · refine ⟨_,Rv.Ij hR z0 z1,pre++[z],Rv.nxt r z,rfl,s2.upd hlw,?_,n0,n1,?_,rfl⟩
        · rw [bB,List.map_append (l₁:=pre++[z])];rfl
        · rw [List.append_assoc]
          show pre++(z :: Rv.walk r (Rv.nxt r z))=_
          rw [← Rv.bJ hR z0 z1];exact e
abbrev cF:Stmt:=top 21
theorem qW:aQ ["below"] ["below"] (ao cF):=⟨rfl,rfl,rfl,by decide +kernel,rfl,by decide +kernel,by decide +kernel⟩
def Ib (K:PySem.W.Frag) (H:Hp) (a:Addr) (r:List Int):Prop:=SqL K H a (r.map V.int)∧Rv.dB r∧r.length<64
def cI:Pos × Str:=(⟨44,41,44,90⟩,"tops_first.<locals>.<lambda>")
def TT1 (P:Addr) (T:gG):Prop:=(P,cI.1,cI.2)∈T∧(T.map (·.1)).Nodup
def zL (K:PySem.W.Frag) (T:gG):Sp:=fun vs H Q _=>∃ (a:Addr) (r:List Int),vs=[.ref a]∧Ib K H a r∧TabsOk T H ∧
  lC T H (fun xs=>∃ p,xs=p.map (fun (i:Nat)=>V.int (i:Int))∧Rv.Fi r p) Q
theorem RW {r:List Int} {i j:Nat} (hi:i<64) (hj:j<64):HT.lexLt [-((Rv.walk r (i:Int)).length:Int),(i:Int)] [-((Rv.walk r (j:Int)).length:Int),(j:Int)]=decide (Rv.kap r i<Rv.kap r j):=by
  unfold Rv.kap
  rw [HT.jr,HT.jr,HT.lU]
  rw [Bool.eq_iff_iff]
  split
  · split
    · simp only [Bool.false_eq_true,decide_eq_true_eq,false_iff];omega
    · simp only [decide_eq_true_eq];omega
  · simp only [decide_eq_true_eq];omega
theorem Rt {f fW:Addr} {fd fdW:FuncData} {pT cT:Addr} {T:gG} (D:Df K mg "tops_first" cF ["below"] f fd) (hcd:fd.code=.ref cT) (hhd:PySem.W.codeHdIn K cT pT=true) (hT:TT1 pT T) (hbm:BM mg base) (B:Blt mg)
    (cJ:Df K mg "way_of" gR ["below","reach"] fW fdW) (mC:bT P w K mg base CX0 1 fW fdW ["below","reach"] (wJ K)):bT P w K mg base CX0 5 f fd ["below"] (zL K T):=by
  refine D.F.okC hcd qW (fun vs H Q E h=>?_) (fun A outer s H vs Q E hr h=>?_)
  · obtain ⟨a,r,rfl,_⟩:=h;rfl
  · obtain ⟨a,r,rfl,⟨hS,hR,h64⟩,tk,q⟩:=h
    refine ⟨_,(aD (bx (nA (P:=pT) (c:=cT) (p:="reach") (ao cF) rfl ["below"] rfl ["below"] [some 0] (by decide +kernel) (by decide +kernel) (by decide +kernel) rfl hbm rfl hhd (xq (hr.mono (by decide))) rfl B.sorted rfl B.range (ak (aG aV rfl B.len PySem.boot_len (ak (pv 0) au)) au) (fun A f cv s H hh hd hu=>(kj (ak (rA lJ (aG (rY (K:=K) rfl) rfl B.len PySem.boot_len (ak (aH mC (xg (hr.mono (by decide)) hh hd hu) rfl cJ.m cJ.F.kp cJ.b .nil bI (ak (pv 1) (ak (pv 0) au))) au))) (ak (pv 0) au)))) (fun _ _ _ _=>rfl)))),?_⟩
    have hl:(r.map V.int).length=r.length:=List.length_map _
    refine ⟨_,rfl,a,_,rfl,.inl hS,r.length,by rw [hl],h64,tk _ hT.1,fun H2 k1 k2 t2=>?_⟩
    have sT:bf T H H2:=bf.tab tk hT.1 hT.2 k1 t2
    refine ⟨fun i ts H3=>bf T H2 H3∧ts.length=i∧∀ (j:Nat) (t:Addr),ts[j]?=some t→H3 t=some (.tup ([-((Rv.walk r (j:Int)).length:Int),(j:Int)].map V.int)),fun i=>[-((Rv.walk r (i:Int)).length:Int),(i:Int)],Rv.kap r,1,⟨bf.refl sT.t1,rfl,fun j t e=>by simp at e⟩,?_,?_,fun _ _=>rfl,fun i j hi hj=>RW (by omega) (by omega),?_,?_⟩
    · rintro i ts H3 hi ⟨s3,htl,h3⟩
      refine ⟨fun c' e=>s3.keep c' _ e fun ps z=>(by cases z),?_⟩
      refine ⟨_,rfl,_,rfl,a,r,(i:Int),rfl,(sT.trans s3).seq hS,hR,by omega,by omega,by omega,fun l H4 xs s4 n4 h4 e4=>?_⟩
      subst e4
      refine ⟨l,_,rfl,.inl (SqL.of h4),_,rfl,_,rfl,(by show 2≤sizeLine;decide),fun t ht=>⟨t,rfl,?_⟩⟩
      have sT4:bf T H2 H4:=s3.trans (bf.of s3.t1 s4)
      have nt:H2 t=none:=sT4.free ht
      refine ⟨sT4.upd nt (.inl ht),by rw [List.length_append,htl];rfl,fun j t' e=>?_⟩
      by_cases hj:j<ts.length
      · rw [List.getElem?_append_left hj] at e
        have h4':=s4 _ _ (h3 j t' e)
        rw [aN (bD h4' ht)];exact h4'
      · rw [List.getElem?_append_right (by omega)] at e
        have hj0:j - ts.length=0:=by
          have:=(List.getElem?_eq_some_iff.mp e).1
          simp at this;omega
        have hji:j=i:=by omega
        rw [hj0] at e
        simp at e
        subst e
        subst hji
        rw [bB,List.length_map];rfl
    · rintro ts H3 ⟨_,_,h3⟩
      exact h3
    · intro i j hi hj hij e
      unfold Rv.kap at e
      omega
    · rintro ts H3 D' ys ⟨s3,_,_⟩ hD ⟨p,hp,rfl,ho⟩
      have hbl:(gH r.length).length=r.length:=by unfold gH;simp
      rw [hbl] at hp
      refine q D' _ _ ((sT.trans s3).upd ((sT.trans s3).free hD) (.inl hD)) ((sT.trans s3).free hD) bB ⟨p,?_,hp,ho⟩
      refine List.map_congr_left fun i hi=>?_
      have hi':i<r.length:=List.mem_range.mp (hp.mem_iff.mp hi)
      show (gH r.length).getD i .non=_
      unfold gH
      rw [List.getD_eq_getElem?_getD,List.getElem?_map,List.getElem?_range hi'];rfl
abbrev bV:Stmt:=top 24
theorem jx:aQ ["below","springs","flows","reach"] ["below","springs"] (ao bV):=⟨rfl,rfl,rfl,by decide +kernel,rfl,by decide +kernel,by decide +kernel⟩
def wN (K:PySem.W.Frag) (T:gG):Sp:=fun vs H Q _=>∃ (a b:Addr) (r s:List Int),vs=[.ref a,.ref b]∧Ib K H a r∧SqL K H b (s.map V.int)∧s.length=r.length∧TabsOk T H ∧
  lC T H (fun xs=>xs=(Rv.nats r s).map V.int) Q
theorem UW {f fT:Addr} {fd fdT:FuncData} {T:gG} (D:Df K mg "natural_of" bV ["below","springs"] f fd) (B:Blt mg) (C:Mth mg)
    (fu:Df K mg "tops_first" cF ["below"] fT fdT) (uN:bT P w K mg base CX0 5 fT fdT ["below"] (zL K T)):bT P w K mg base CX0 6 f fd ["below","springs"] (wN K T):=by
  obtain ⟨tM,hMOUTH⟩:=C.MOUTH
  refine D.F.ok jx (fun vs H Q E h=>?_) (fun cdv A outer s H vs Q E hr h=>?_)
  · obtain ⟨a,b,r,s,rfl,_⟩:=h;rfl
  · obtain ⟨a,b,r,sp,rfl,⟨hS,hR,h64⟩,hB,hl,tk,q⟩:=h
    refine ⟨_,(aA (aO (i:=2) jx.nd rfl (Or.inl rfl) (jc dZ rfl B.list PyProof.Rows.boot_list (ak (pv 1) au)))
      (aA (iZ PassesOwn.never rfl (cB (aH uN (hr.mono (by decide)) rfl fu.m fu.F.kp fu.b .nil bI (ak (pv 0) au))) (aK (i:=3) jx.nd rfl (Or.inl rfl))
        (aD (jN (cA vI (aX aJ (pv 0) (pv 3) (fun _ _=>rfl)) (oR (v:=.int (-1)) rfl hMOUTH ⟨_,rfl⟩) (dJ _))
          (aD (mK (pv 2) (aX aJ (pv 0) (pv 3) (fun _ _=>rfl)) j8 (aX aJ (pv 2) (pv 3) (fun _ _=>rfl)) um set_list))
          eV)))
      (aD (bx (pv 2))))),?_⟩
    refine sl_4 ?_
    intro zu0 zu1 zu2 zu3
    have O:=Ow.refl tk
    refine ⟨_,rfl,b,_,rfl,.inl hB,fun lf hlf=>?_⟩
    walk_at "new";intro H1 O
    refine ⟨_,rfl,a,r,rfl,⟨O.same.seq hS,hR,h64⟩,O.same.t1,O.ur fun lt H2 xs O ⟨p,ep,hp⟩=>?_⟩
    subst ep
    refine ⟨lt,rfl,⟨_,O.sq 0⟩,?_⟩
    refine gD (K:=K) (a:=lt) (xs:=p.map fun (i:Nat)=>V.int (i:Int)) (fun t σ H3=>∃ (v3:Option V) (fl:List Int),σ=[some (.ref a),some (.ref b),some (.ref lf),v3]∧Ow T H H3 [(lt,.lst (p.map fun (i:Nat)=>V.int (i:Int))),(lf,.lst (fl.map V.int))]∧Rv.xW r sp p t fl)
      ⟨none,sp,rfl,O,Rv.xW.start r sp p hl⟩ (fun _ _ _ _ ⟨_,_,_,O,_⟩=>O.sq 0) ?_ ?_
    · rintro t y σ H3 hy ⟨v3,fl,rfl,O,N⟩
      rw [List.getElem?_map] at hy
      obtain ⟨j,hj,rfl⟩:∃ j,p[t]?=some j∧y=V.int (j:Int):=by
        cases e:p[t]? with
        | none=>rw [e] at hy;cases hy
        | some j=>rw [e] at hy;exact ⟨j,rfl,(Option.some.inj hy).symm⟩
      have hjr:=hp.lt (List.mem_of_getElem? hj)
      have gj:=Rv.jo (r:=r) (p:=(j:Int)) (by omega) (by omega)
      have aj:=lV (ns:=r) (i:=(j:Int)) (by omega) gj
      have here:=N.here hp hR h64 hj
      refine ⟨_,rfl,_,rfl,a,_,_,_,rfl,rfl,O.same.seq hS,aj,rfl,_,rfl,?_⟩
      rcases hR.step (p:=(j:Int)) (by omega) (by omega) with hm | ⟨n0,n1⟩
      · rw [hm]
        refine R0 rfl ?_
        exact ⟨_,fl,rfl,O,N.ZR hj hm⟩
      · have hd:(!decide (V.int (Rv.nxt r (j:Int))=V.int (-1)))=true:=by
          have:¬ Rv.nxt r (j:Int)=-1:=by omega
          simp [this]
        rw [hd]
        refine Io ?_
        obtain ⟨bn,ebn⟩:=Int.eq_ofNat_of_zero_le n0
        have hbl:bn<r.length:=by omega
        rw [ebn] at aj
        obtain ⟨x,hx⟩:∃ x,fl[bn]?=some x:=⟨_,N.at_ bn hbl⟩
        refine ⟨_,rfl,_,rfl,_,rfl,a,_,_,_,rfl,rfl,O.same.seq hS,aj,lf,_,bn,V.int x,rfl,rfl,O.sq 1,by rw [List.getElem?_map,hx];rfl,_,rfl,_,rfl,lf,_,_,_,rfl,rfl,O.sq 1,eO here,_,_,rfl,rfl,?_⟩
        refine Ii O 1 rfl (jP (by rw [List.length_map,N.len];exact hbl)) fun H4 O=>?_
        refine ⟨_,fl.set bn (x + Rv.qt r sp (j:Int)),rfl,?_,N.turn hp hR h64 hj ebn hbl hx⟩
        rw [List.map_set];exact O
    · rintro σ H3 ⟨v3,fl,rfl,O,N⟩
      rw [List.length_map,hp.len] at N
      exact ⟨_,rfl,O.ret 1 rfl q (by rw [N.done hp hR])⟩
abbrev cO:Stmt:=top 22
theorem lM:aQ ["below","start","stop","way"] ["below","start","stop"] (ao cO):=⟨rfl,rfl,rfl,by decide +kernel,rfl,by decide +kernel,by decide +kernel⟩
theorem wG (b:Int):∀ l:List Int,l.take (l.idxOf b)=l.takeWhile (fun x=>!decide (x=b))
  | []=>rfl
  | x :: l=>by
    rw [List.idxOf_cons,List.takeWhile_cons]
    by_cases h:x=b
    · simp [h]
    · have e:(x == b)=false:=by simp [h]
      rw [e,cond_false,List.take_succ_cons,wG b l]
      simp [h]
theorem Ht (ns:List Int) (k:Nat):uF (ns.map V.int) none (some (k:Int))=(ns.take k).map V.int:=by
  unfold uF
  rw [HT.wV,HT.mJ,List.drop_zero,List.length_map,Nat.sub_zero,← List.map_take]
  congr 1
  rw [List.take_eq_take_iff];omega
def wK (K:PySem.W.Frag):Sp:=fun vs H Q _=>∃ (a:Addr) (r:List Int) (p b:Int),vs=[.ref a,.int p,.int b]∧SqL K H a (r.map V.int)∧Rv.dB r∧0≤p∧p<r.length∧r.length≤900∧Rv.Stop r p b ∧
  YK H (fun xs=>xs=(Rv.jq r p b).map V.int) Q
theorem Gk {f fW:Addr} {fd fdW:FuncData} (D:Df K mg "stretch_of" cO ["below","start","stop"] f fd) (C:Mth mg) (cJ:Df K mg "way_of" gR ["below","reach"] fW fdW)
    (mC:bT P w K mg base CX0 1 fW fdW ["below","reach"] (wJ K)):bT P w K mg base CX0 2 f fd ["below","start","stop"] (wK K):=by
  obtain ⟨tM,hMOUTH⟩:=C.MOUTH
  refine D.F.ok lM (fun vs H Q E h=>?_) (fun cdv A outer s H vs Q E hr h=>?_)
  · obtain ⟨a,r,p,b,rfl,_⟩:=h;rfl
  · obtain ⟨a,r,p,b,rfl,hS,hR,p0,p1,hn,st,q⟩:=h
    refine ⟨_,(aA (aO (i:=3) lM.nd rfl (Or.inl rfl) (aH mC (hr.mono (by decide)) rfl cJ.m cJ.F.kp cJ.b .nil bI (ak (pv 0) (ak (pv 1) au))))
      (aA (jN (cA pN (pv 2) (oR (v:=.int (-1)) rfl hMOUTH ⟨_,rfl⟩) (dJ _))
        (aD (bx (pv 3)))
        eV)
      (aA (jN (cA tY (pv 2) (pv 3) (by rfl))
        (aD Ge)
        eV)
      (aD (bx (jy kW (pv 3) mL (jO (oU PySem.F.plainAttrs_list PySem.F.slot_list_index PySem.F.type_list_index Gz (pv 3) (ak (pv 2) au))))))))),?_⟩
    refine sl_5 ?_
    intro zu0 zu1 zu2 zu3 zu4
    refine ⟨_,rfl,_,rfl,a,r,p,rfl,hS,hR,p0,p1,hn,fun lw H1 xs s1 n1 h1 e1=>?_⟩
    subst e1
    refine ⟨_,rfl,rfl,_,rfl,aat (fun h=>?_) fun h=>?_⟩
    · have hb:b=-1:=V.int.inj (of_decide_eq_true h)
      refine ⟨_,rfl,q lw H1 _ s1 n1 h1 ?_⟩
      unfold Rv.jq;rw [if_pos hb]
    · have hb:¬ b=-1:=fun z=>h (decide_eq_true (by rw [z]))
      have hm:b∈Rv.walk r p:=st.resolve_left hb
      refine ⟨_,rfl,_,rfl,lw,_,rfl,.inl (SqL.of h1),rfl,ux _,_,rfl,?_⟩
      rw [if_pos rfl,BK,decide_eq_true hm]
      refine nF ?_
      refine ⟨_,rfl,_,rfl,.inl ⟨rfl,_,SqL.of h1⟩,_,rfl,lw,_,b,rfl,rfl,SqL.of h1,hm,_,rfl,lw,_,rfl,SqL.of h1,fun l hl=>?_⟩
      refine q l _ _ (s1.upd (s1.free hl)) (s1.free hl) bB ?_
      rw [Ht,wG]
      unfold Rv.jq;rw [if_neg hb]
abbrev bU:Stmt:=top 26
theorem fV:aQ ["below","one","day","start","back","most"] ["below","one"] (ao bU):=⟨rfl,rfl,rfl,by decide +kernel,rfl,by decide +kernel,by decide +kernel⟩
def pU (r:List Int) (l:Lic):Prop:=0≤l.start∧l.start<r.length∧Rv.Stop r l.start l.back
def j5 (K:PySem.W.Frag):Sp:=fun vs H Q _=>∃ (a t:Addr) (r:List Int) (l:Lic),vs=[.ref a,.ref t]∧SqL K H a (r.map V.int)∧Rv.dB r∧r.length≤900∧SqT K H t (zp l)∧pU r l∧YK H (fun xs=>xs=(Rv.jq r l.start l.back).map V.int) Q
theorem yH {f f1:Addr} {fd fd1:FuncData} (D:Df K mg "reaches_of" bU ["below","one"] f fd) (fB:Df K mg "stretch_of" cO ["below","start","stop"] f1 fd1) (uO:bT P w K mg base CX0 2 f1 fd1 ["below","start","stop"] (wK K)) :
    bT P w K mg base CX0 3 f fd ["below","one"] (j5 K):=by
  refine D.F.ok fV (fun vs H Q E h=>?_) (fun cdv A outer s H vs Q E hr h=>?_)
  · obtain ⟨_,_,_,_,rfl,_⟩:=h;rfl
  · obtain ⟨a,t,r,l,rfl,hA,hR,hn,hT,ok,q⟩:=h
    refine ⟨_,(aA (oM (pv 1) (nq rfl (bh (aK (i:=2) fV.nd rfl (Or.inl rfl)) (bh (aK (i:=3) fV.nd rfl (Or.inl rfl)) (bh (aK (i:=4) fV.nd rfl (Or.inl rfl)) (bh (aK (i:=5) fV.nd rfl (Or.inl rfl)) iC))))))
      (aD (bx (aH uO (hr.mono (by decide)) rfl fB.m fB.F.kp fB.b .nil bI (ak (pv 0) (ak (pv 3) (ak (pv 4) au))))))),?_⟩
    refine aai ?_
    intro zu0
    refine ⟨_,rfl,t,_,rfl,hT,rfl,_,_,rfl,_,_,rfl,_,_,rfl,_,_,rfl,rfl,?_⟩
    exact ⟨_,rfl,_,rfl,_,rfl,a,r,l.start,l.back,rfl,hA,hR,ok.1,ok.2.1,hn,ok.2.2,q⟩
abbrev ig:Stmt:=top 29
theorem yw:aQ ["one"] ["one"] (ao ig):=⟨rfl,rfl,rfl,by decide +kernel,rfl,by decide +kernel,by decide +kernel⟩
def zN (K:PySem.W.Frag):Sp:=fun vs H Q _=>∃ (a:Addr) (l:Lic),vs=[.ref a]∧SqT K H a (zp l)∧Q (.int l.most) H
theorem Rw {f:Addr} {fd:FuncData} (D:Df K mg "most_of" ig ["one"] f fd):bT P w K mg base CX0 1 f fd ["one"] (zN K):=by
  refine D.F.ok yw (fun vs H Q E h=>?_) (fun cdv A outer s H vs Q E hr h=>?_)
  · obtain ⟨c,k,rfl,_⟩:=h;rfl
  · obtain ⟨a,l,rfl,hT,q⟩:=h
    refine ⟨_,(aD (bx (aX jD (pv 0) aq (fun _ _=>rfl)))),?_⟩
    exact ⟨_,rfl,_,_,_,_,rfl,rfl,hT,rfl,q⟩
abbrev dG:Stmt:=top 32
theorem vA:aQ ["roll","calls"] ["roll","calls"] (ao dG):=⟨rfl,rfl,rfl,by decide +kernel,rfl,by decide +kernel,by decide +kernel⟩
def iD (ls:List Lic) (cs:List Int):List Int:=List.zipWith (fun l c=>min c l.most) ls cs
theorem Vk (i j:Int):(if j<i then j else i)=min i j:=by
  by_cases h:j<i
  · rw [if_pos h];omega
  · rw [if_neg h];omega
theorem Fj {α β γ:Type} (f:α→β→γ) {as:List α} {bs:List β} {i:Nat} {a:α} {b:β} (ha:as[i]?=some a) (hb:bs[i]?=some b):List.zipWith f (as.take (i + 1)) (bs.take (i + 1))=List.zipWith f (as.take i) (bs.take i)++[f a b]:=by
  have h1:=(List.getElem?_eq_some_iff.mp ha)
  have h2:=(List.getElem?_eq_some_iff.mp hb)
  obtain ⟨l1,e1⟩:=h1
  obtain ⟨l2,e2⟩:=h2
  rw [List.take_succ,List.take_succ,ha,hb,List.zipWith_append (by rw [List.length_take,List.length_take];omega)]
  rfl
def qR (K:PySem.W.Frag) (T:gG):Sp:=fun vs H Q _=>∃ (v:V) (b:Addr) (ls:List Lic) (cs:List Int),vs=[v,.ref b]∧Den K H v (lA ls)∧SqL K H b (cs.map V.int)∧ls.length=cs.length∧ls.length≤1000∧TabsOk T H∧lC T H (fun xs=>xs=(iD ls cs).map V.int) Q
theorem Gj {f f1:Addr} {fd fd1:FuncData} (D:Df K mg "wants_of" dG ["roll","calls"] f fd) (B:Blt mg) (jt:Df K mg "most_of" ig ["one"] f1 fd1) (Et:bT P w K mg base CX0 1 f1 fd1 ["one"] (zN K)) :
    bT P w K mg base CX0 2 f fd ["roll","calls"] (qR K T):=by
  refine D.F.ok vA (fun vs H Q E h=>?_) (fun cdv A outer s H vs Q E hr h=>?_)
  · obtain ⟨_,_,_,_,rfl,_⟩:=h;rfl
  · obtain ⟨v,b,ls,cs,rfl,hd,hb,hlc,hlen,tk,q⟩:=h
    obtain ⟨a,xs,rfl,hL,hds⟩:=hd.gU
    have hxl:xs.length=ls.length:=by rw [hds.length,List.length_map]
    refine ⟨_,(aD (bx (gK (ao dG) rfl ["roll","calls"] rfl ["one","call"] [none,none] (by decide +kernel) (by decide +kernel) (by decide +kernel) rfl (tV rfl B.zip (ak (pv 0) (ak (pv 1) au))) (fun _ _ _=>(oO (K:=K) (n:=2) rfl rfl (bh (aK (i:=0) (show (["one","call"]:List Str).Nodup by decide +kernel) rfl (Or.inl rfl)) (bh (aK (i:=1) (show (["one","call"]:List Str).Nodup by decide +kernel) rfl (Or.inl rfl)) iC)))) (fun _ _ _=>gk) (fun _ _ _=>(aG (Ej rfl) rfl B.min PyProof.Rows.boot_min (ak (pv 1) (ak (aH Et (hr.mono (by decide)) rfl jt.m jt.F.kp jt.b .nil bI (ak (pv 0) au)) au))))))),?_⟩
    have O:=Ow.refl tk
    refine ⟨_,rfl,_,rfl,a,b,_,_,rfl,hL,hb,fun acc hacc=>?_⟩
    refine rQ (K:=K) (fun i τ H'=>Iv (∃ (v0 v1:Option V),τ=[v0,v1]∧Ow T H H' [(acc,.lst ((List.zipWith (fun l c=>min c l.most) (ls.take i) (cs.take i)).map V.int))])) (by rw [List.length_map];omega)
      ⟨trivial,none,none,rfl,O.mk' hacc rfl⟩ (fun i τ H' _ ⟨_,_,_,_,O⟩=>⟨O.same.seq hL,O.same.seq hb⟩) ?_ ?_
    · rintro i x y t τ H' hx hy ⟨-,v0,v1,rfl,O⟩ ht
      obtain ⟨z,hz,rfl⟩:=ints_get hy
      obtain ⟨al,l,rfl,hl,hT⟩:=hds.mV hx
      have hi:=(List.getElem?_eq_some_iff.mp hz).1
      walk_at "nw"
      refine ⟨t,_,rfl,O.sqT 0,rfl,_,_,rfl,_,_,rfl,rfl,?_⟩
      refine YX ?_
      refine ⟨_,rfl,_,rfl,al,l,rfl,hT.mo O.same,_,_,rfl,?_⟩
      refine ⟨_,O.get 1,aR (by rw [List.length_map,List.length_zipWith,List.length_take];omega),?_⟩
      walk_at "pt"
      refine ⟨trivial,_,_,rfl,?_⟩
      rw [Fj _ hl hz,List.map_append,← Vk]
      exact O.tail
    · rintro τ H' ⟨-,v0,v1,rfl,O⟩
      refine O.ret 0 rfl q ?_
      rw [hxl,List.take_of_length_le (Nat.le_refl _),List.take_of_length_le (by omega)];rfl
abbrev cR:Stmt:=top 34
theorem iJ:aQ ["free","ways","counts","way","reach"] ["free","ways"] (ao cR):=⟨rfl,rfl,rfl,by decide +kernel,rfl,by decide +kernel,by decide +kernel⟩
def wU (K:PySem.W.Frag) (T:gG):Sp:=fun vs H Q _=>∃ (a:Addr) (v:V) (fs:List Int) (ws:List (List Int)),vs=[.ref a,v]∧SqL K H a (fs.map V.int)∧fs.length≤1000∧Den K H v (xP ws)∧(∀ w∈ws,Tn.WOk fs.length w)∧TabsOk T H ∧
  lC T H (fun xs=>xs=(Tn.bumps (List.replicate fs.length 0) (ws.map fun w=>(w,1))).map V.int) Q
theorem Gu {f:Addr} {fd:FuncData} (D:Df K mg "count_ways" cR ["free","ways"] f fd) (B:Blt mg):bT P w K mg base CX0 1 f fd ["free","ways"] (wU K T):=by
  refine D.F.ok iJ (fun vs H Q E h=>?_) (fun cdv A outer s H vs Q E hr h=>?_)
  · obtain ⟨_,_,_,_,rfl,_⟩:=h;rfl
  · obtain ⟨a,v,fs,ws,rfl,hA,hfl,hd,hws,tk,q⟩:=h
    obtain ⟨b,xs,rfl,hL,hds⟩:=hd.gU
    have hxl:xs.length=ws.length:=by rw [hds.length,List.length_map]
    refine ⟨_,(aA (aO (i:=2) iJ.nd rfl (Or.inl rfl) (aL tX (eH (ak aq au)) (aG aV rfl B.len PySem.boot_len (ak (pv 0) au))))
      (aA (iZ PassesOwn.never rfl (cB (pv 1)) (aK (i:=3) iJ.nd rfl (Or.inl rfl))
        (aD (iZ PassesOwn.never rfl (cB (pv 3)) (aK (i:=4) iJ.nd rfl (Or.inl rfl))
          (aD (mK (pv 2) (pv 4) j8 aq um set_list)))))
      (aD (bx (pv 2))))),?_⟩
    refine aah ?_
    intro zu0 zu1 zu2 zu3
    have O:=Ow.refl tk
    have s0:=O.same
    walk_at "w"
    intro l1 h1
    walk_at "nw"
    walk_at "w"
    refine ⟨l1,_,_,rfl,rfl,O.get 0,by rw [List.length_map];omega,by rw [List.length_map];omega,fU (by rw [List.length_map,Int.toNat_natCast];simp;omega),fun lc hlc=>?_⟩
    walk_at "nw"
    rw [List.length_map,Int.toNat_natCast,jM] at O
    have O:=O.two
    refine ⟨_,rfl,b,rfl,⟨_,O.same.seq hL⟩,?_⟩
    refine gD (K:=K) (xs:=xs) (fun i σ H'=>Iv (∃ v3 v4:Option V,σ=[some (.ref a),some (.ref b),some (.ref lc),v3,v4]∧Ow T H H' [(lc,.lst ((Tn.bumps (List.replicate fs.length 0) ((ws.take i).map fun w=>(w,1))).map V.int))]))
      ⟨trivial,none,none,rfl,O⟩ (fun i σ H' _ ⟨_,_,_,_,O⟩=>O.same.seq hL) ?_ ?_
    · rintro i x σ H2 hx ⟨-,v3,v4,rfl,O⟩
      obtain ⟨wa,w,rfl,hw,hW⟩:=hds.Q9 hx
      have ok:=hws w (List.mem_of_getElem? hw)
      have hnext:Tn.bumps (List.replicate fs.length 0) ((ws.take (i + 1)).map fun w=>(w,(1:Int)))=Tn.bump (Tn.bumps (List.replicate fs.length 0) ((ws.take i).map fun w=>(w,1))) w 1:=by
        rw [List.take_add_one,hw,List.map_append];exact Tn.mX _ _ _
      have hcl:(Tn.bumps (List.replicate fs.length 0) ((ws.take i).map fun w=>(w,(1:Int)))).length=fs.length:=by rw [Tn.jf,List.length_replicate]
      generalize Tn.bumps (List.replicate fs.length 0) ((ws.take i).map fun w=>(w,(1:Int)))=cur at O hnext hcl
      refine ⟨_,rfl,wa,rfl,⟨_,O.same.seq hW⟩,?_⟩
      refine gD (K:=K) (xs:=w.map V.int) (fun j σ H'=>Iv (∃ v4:Option V,σ=[some (.ref a),some (.ref b),some (.ref lc),some (.ref wa),v4]∧Ow T H H' [(lc,.lst ((Tn.bump cur (w.take j) 1).map V.int))]))
        ⟨trivial,v4,rfl,O⟩ (fun i σ H' _ ⟨_,_,_,O⟩=>O.same.seq hW) ?_ ?_
      · rintro j y σ H3 hy ⟨-,v4,rfl,O⟩
        obtain ⟨z,hz,rfl⟩:=ints_get hy
        obtain ⟨z0,z1⟩:=ok.2 z (List.mem_of_getElem? hz)
        obtain ⟨zn,rfl⟩:=Int.eq_ofNat_of_zero_le z0
        have hbl:(Tn.bump cur (w.take j) 1).length=fs.length:=by rw [Tn.gW,hcl]
        refine ⟨_,rfl,_,rfl,lc,_,zn,_,rfl,rfl,O.sq 0,by rw [List.getElem?_map,bN (by omega)];rfl,?_⟩
        refine ⟨_,_,rfl,rfl,lc,_,_,zn,rfl,rfl,O.get 0,jP (by rw [List.length_map];omega),?_⟩
        walk_at "pt"
        refine ⟨trivial,_,rfl,?_⟩
        rw [mj hz,Int.toNat_natCast,List.map_set];exact O
      · rintro σ H3 ⟨-,v4,rfl,O⟩
        rw [List.length_map,List.take_of_length_le (Nat.le_refl _)] at O
        refine ⟨trivial,_,_,rfl,?_⟩
        rw [hnext];exact O
    rintro σ H2 ⟨-,v3,v4,rfl,O⟩
    refine ⟨_,rfl,O.ret 0 rfl q ?_⟩
    rw [hxl,List.take_of_length_le (Nat.le_refl _)]
abbrev bO:Stmt:=top 35
theorem jj:aQ ["free","ways","rests","counts","shares"] ["free","ways","rests"] (ao bO):=⟨rfl,rfl,rfl,by decide +kernel,rfl,by decide +kernel,by decide +kernel⟩
def Uk (K:PySem.W.Frag) (T:gG):Sp:=fun vs H Q _=>∃ (a b:Addr) (v:V) (fs rs:List Int) (ws:List (List Int)),vs=[.ref a,v,.ref b]∧SqL K H a (fs.map V.int)∧Den K H v (xP ws)∧SqL K H b (rs.map V.int)∧fs.length≤1000∧rs.length≤1000∧ws.length≤1000 ∧
  (∀ w∈ws,Tn.WOk fs.length w)∧TabsOk T H∧∀ (M:Int) (H':Hp),bf T H H'→Tn.WT fs (Tn.bumps (List.replicate fs.length 0) (ws.map fun w=>(w,1))) rs M→Q (.int M) H'
theorem ZK {f f1:Addr} {fd fd1:FuncData} (D:Df K mg "whole_turns" bO ["free","ways","rests"] f fd) (B:Blt mg) (fH:Df K mg "count_ways" cR ["free","ways"] f1 fd1) (uR:bT P w K mg base CX0 1 f1 fd1 ["free","ways"] (wU K T)) :
    bT P w K mg base CX0 2 f fd ["free","ways","rests"] (Uk K T):=by
  refine D.F.ok jj (fun vs H Q E h=>?_) (fun cdv A outer s H vs Q E hr h=>?_)
  · obtain ⟨_,_,_,_,_,_,rfl,_⟩:=h;rfl
  · obtain ⟨a,b,v,fs,rs,ws,rfl,hA,hd,hB,hfl,hrl,hwl,hws,tk,q⟩:=h
    refine ⟨_,(aA (aO (i:=3) jj.nd rfl (Or.inl rfl) (aH uR (hr.mono (by decide)) rfl fH.m fH.F.kp fH.b .nil bI (ak (pv 0) (ak (pv 1) au))))
      (aA (iR (i:=4) (ao bO) rfl ["free","ways","rests","counts","shares"] rfl ["drops","count"] [none,none] (by decide +kernel) (by decide +kernel) (by decide +kernel) rfl jj.nd rfl rfl (tV rfl B.zip (ak (pv 0) (ak (pv 3) au))) (fun _ _ _=>(oO (K:=K) (n:=2) rfl rfl (bh (aK (i:=0) (show (["drops","count"]:List Str).Nodup by decide +kernel) rfl (Or.inl rfl)) (bh (aK (i:=1) (show (["drops","count"]:List Str).Nodup by decide +kernel) rfl (Or.inl rfl)) iC)))) (fun _ _ _=>(oJ (cA Gh (pv 1) aq (dJ _)))) (fun _ _ _=>(aL jm (pv 0) (pv 1))) rfl)
      (aD (bx (aG (Ek rfl) rfl B.max PyProof.Rows.boot_max (ak aq (ak (Rq rfl rfl B.min (aL tZ (jc dZ rfl B.list PyProof.Rows.boot_list (ak (pv 2) au)) (pv 4))) au))))))),?_⟩
    refine Zm ?_
    intro zu0 zu1
    have O:=Ow.refl tk
    have s0:=O.same
    refine ⟨_,rfl,_,rfl,a,v,fs,ws,rfl,hA,hfl,hd,hws,tk,O.ur fun lc H2 xs O e=>?_⟩
    subst e
    have hcb:=Tn.cw_bound hws
    have hcl:(Tn.bumps (List.replicate fs.length 0) (ws.map fun w=>(w,(1:Int)))).length=fs.length:=by rw [Tn.jf,List.length_replicate]
    generalize Tn.bumps (List.replicate fs.length 0) (ws.map fun w=>(w,(1:Int)))=cs at O hcb hcl q
    refine ⟨_,rfl,_,rfl,a,lc,_,_,rfl,O.same.seq hA,O.sq 0,fun acc hacc=>?_⟩
    refine rQ (K:=K) (fun i τ H'=>Iv (∃ (v0 v1:Option V),τ=[v0,v1]∧Ow T H H' [(acc,.lst ((Tn.shares (fs.take i) (cs.take i)).map V.int)),(lc,.lst (cs.map V.int))])) (by rw [List.length_map,List.length_map];omega)
      ⟨trivial,none,none,rfl,O.mk' hacc rfl⟩ (fun i τ H' _ ⟨_,_,_,_,O⟩=>⟨O.same.seq hA,O.sq 1⟩) ?_ ?_
    · rintro i x y t τ H' hx hy ⟨-,v0,v1,rfl,O⟩ ht
      obtain ⟨z,hz,rfl⟩:=ints_get hx
      obtain ⟨c,hc,rfl⟩:=ints_get hy
      have hi:=(List.getElem?_eq_some_iff.mp hz).1
      have hcm:=hcb c (List.mem_of_getElem? hc)
      have hnext:=Tn.vp hz hc
      have hsl:(Tn.shares (fs.take i) (cs.take i)).length≤1000:=by
        unfold Tn.shares
        rw [List.length_map]
        refine Nat.le_trans (List.length_filter_le _ _) ?_
        rw [List.length_zip,List.length_take];omega
      walk_at "nw"
      refine ⟨t,_,rfl,O.sqT 0,rfl,_,_,rfl,_,_,rfl,rfl,?_⟩
      refine ⟨_,rfl,_,_,rfl,rfl,_,rfl,ifD (fun hp=>?_) fun hp=>?_⟩
      · rw [if_pos hp] at hnext
        refine ⟨_,rfl,_,rfl,_,_,rfl,rfl,⟨hp,by omega⟩,?_⟩
        refine ⟨_,O.get 1,aR (by rw [List.length_map];omega),?_⟩
        walk_at "pt"
        refine ⟨trivial,_,_,rfl,?_⟩
        rw [hnext,List.map_append];exact O.tail
      · rw [if_neg hp,List.append_nil] at hnext
        refine ⟨trivial,_,_,rfl,?_⟩
        rw [hnext];exact O.tail
    rintro τ H' ⟨-,v0,v1,rfl,O⟩
    rw [List.length_map,List.take_of_length_le (Nat.le_refl _),List.take_of_length_le (by omega)] at O
    have hsl:(Tn.shares fs cs).length≤1000:=by
      unfold Tn.shares
      rw [List.length_map]
      refine Nat.le_trans (List.length_filter_le _ _) ?_
      rw [List.length_zip];omega
    refine ⟨_,rfl,b,_,rfl,.inl (O.same.seq hB),fun lr hlr=>?_⟩
    walk_at "nw"
    refine ⟨_,rfl,lr,acc,_,_,rfl,rfl,O.get 0,O.get 1,fU (by rw [List.length_map,List.length_map];omega),fun l2 hl2=>?_⟩
    walk_at "nw"
    rw [← List.map_append] at O
    refine ⟨l2,rs++Tn.shares fs cs,rfl,O.sq 0,fun e0=>?_,fun m hm hle=>?_⟩
    · exact ⟨_,_,rfl,q _ _ O.same (.inl ⟨e0,rfl⟩)⟩
    · refine ⟨_,_,rfl,q _ _ O.same (.inr ⟨m,hm,hle,?_⟩)⟩
      by_cases h:m > 0
      · rw [if_pos h];omega
      · rw [if_neg h];omega
abbrev lO:Stmt:=top 36
theorem Aa:aQ ["left","way","drops","reach"] ["left","way","drops"] (ao lO):=⟨rfl,rfl,rfl,by decide +kernel,rfl,by decide +kernel,by decide +kernel⟩
def vh (K:PySem.W.Frag) (T:gG):Sp:=fun vs H Q _=>∃ (a b:Addr) (fs w:List Int) (c:Int) (Hb:Hp),vs=[.ref a,.ref b,.int c]∧Ow T Hb H [(a,.lst (fs.map V.int))]∧SqL K Hb b (w.map V.int)∧Tn.WOk fs.length w ∧
  ∀ H',Ow T Hb H' [(a,.lst ((Tn.bump fs w (-c)).map V.int))]→Q .non H'
theorem RD {f:Addr} {fd:FuncData} (D:Df K mg "draw" lO ["left","way","drops"] f fd):bT P w K mg base CX0 1 f fd ["left","way","drops"] (vh K T):=by
  refine D.F.ok Aa (fun vs H Q E h=>?_) (fun cdv A outer s H vs Q E hr h=>?_)
  · obtain ⟨_,_,_,_,_,_,rfl,_⟩:=h;rfl
  · obtain ⟨a,b,fs,w,c,Hb,rfl,O,hW,ok,q⟩:=h
    refine ⟨_,(aD (iZ PassesOwn.never rfl (cB (pv 1)) (aK (i:=3) Aa.nd rfl (Or.inl rfl))
        (aD (mK (pv 0) (pv 3) j8 (pv 2) Vi set_list)))),?_⟩
    refine sl_8 ?_
    intro zu0
    refine ⟨_,rfl,b,rfl,⟨_,O.same.seq hW⟩,?_⟩
    refine gD (K:=K) (xs:=w.map V.int) (fun j σ H'=>Iv (∃ v3:Option V,σ=[some (.ref a),some (.ref b),some (.int c),v3]∧Ow T Hb H' [(a,.lst ((Tn.bump fs (w.take j) (-c)).map V.int))]))
      ⟨trivial,none,rfl,O⟩ (fun i σ H' _ ⟨_,_,_,O⟩=>O.same.seq hW) ?_ ?_
    · rintro j y σ H3 hy ⟨-,v4,rfl,O⟩
      obtain ⟨z,hz,rfl⟩:=ints_get hy
      obtain ⟨z0,z1⟩:=ok.2 z (List.mem_of_getElem? hz)
      obtain ⟨zn,rfl⟩:=Int.eq_ofNat_of_zero_le z0
      have hbl:(Tn.bump fs (w.take j) (-c)).length=fs.length:=Tn.gW _ _ _
      refine ⟨_,rfl,_,rfl,a,_,zn,_,rfl,rfl,O.sq 0,by rw [List.getElem?_map,bN (by omega)];rfl,?_⟩
      refine ⟨_,rfl,_,_,rfl,rfl,a,_,_,zn,rfl,rfl,O.get 0,jP (by rw [List.length_map];omega),?_⟩
      walk_at "pt"
      refine ⟨trivial,_,rfl,?_⟩
      rw [mj hz,Int.toNat_natCast,List.map_set];exact O
    · rintro σ H3 ⟨-,v4,rfl,O⟩
      rw [List.length_map,List.take_of_length_le (Nat.le_refl _)] at O
      exact q _ O
abbrev aU:Stmt:=top 37
theorem cW:aQ ["left","ways","rests","takes","going","unmet","turns","taker"] ["left","ways","rests","takes","going"] (ao aU):=⟨rfl,rfl,rfl,by decide +kernel,rfl,by decide +kernel,by decide +kernel⟩
structure aaw (K:PySem.W.Frag) (T:gG) (H Hb:Hp) (a b t g:Addr) (v:V) (fs rs xs:List Int) (ws:List (List Int)) (gs:List Nat):Prop where
  O:Ow T Hb H [(a,.lst (fs.map V.int)),(t,.lst (xs.map V.int))]
  d0:Den K Hb v (xP ws)
  d1:SqL K Hb b (rs.map V.int)
  d2:SqL K Hb g ((Tn.asI gs).map V.int)
  rl:rs.length=ws.length
  xl:xs.length=ws.length
  gn:∀ k∈gs,k<ws.length
  nd:gs.Nodup
  wok:∀ w∈ws,Tn.WOk fs.length w
  fl:fs.length≤1000
  wl:ws.length≤1000
  gl:gs.length≤1000
def Ul (K:PySem.W.Frag) (T:gG):Sp:=fun vs H Q _=>∃ (a b t g:Addr) (v:V) (fs rs xs:List Int) (ws:List (List Int)) (gs:List Nat) (Hb:Hp),vs=[.ref a,v,.ref b,.ref t,.ref g]∧aaw K T H Hb a b t g v fs rs xs ws gs ∧
  ∀ (M:Int) (H':Hp),Tn.WT fs (Tn.Fg fs.length ws gs) (Tn.unmet rs xs gs) M→Ow T Hb H' [(a,.lst ((Tn.bumps fs (gs.map fun k=>(Tn.fW ws k,-M))).map V.int)),(t,.lst ((Tn.bump xs (Tn.asI gs) M).map V.int))]→Q .non H'
theorem vP {ws:List (List Int)} {k:Nat} (h:k<ws.length):ws[k]?=some (Tn.fW ws k):=by
  unfold Tn.fW;rw [List.getD_eq_getElem?_getD,List.getElem?_eq_getElem h];rfl
theorem ZL {f f1 f2:Addr} {fd fd1 fd2:FuncData} (D:Df K mg "take_whole_turns" aU ["left","ways","rests","takes","going"] f fd) (B:Blt mg)
    (eE:Df K mg "whole_turns" bO ["free","ways","rests"] f1 fd1) (su:bT P w K mg base CX0 2 f1 fd1 ["free","ways","rests"] (Uk K T))
    (jY:Df K mg "draw" lO ["left","way","drops"] f2 fd2) (Ew:bT P w K mg base CX0 1 f2 fd2 ["left","way","drops"] (vh K T)) :
    bT P w K mg base CX0 3 f fd ["left","ways","rests","takes","going"] (Ul K T):=by
  refine D.F.ok cW (fun vs H Q E h=>?_) (fun cdv A outer s H vs Q E hr h=>?_)
  · obtain ⟨_,_,_,_,_,_,_,_,_,_,_,rfl,_⟩:=h;rfl
  · obtain ⟨a,b,t,g,v,fs,rs,xs,ws,gs,Hb,rfl,⟨O,d0,d1,d2,rl,xl,gn,nd,wok,fl,wl,gl⟩,q⟩:=h
    obtain ⟨va,vs,rfl,hV,hds⟩:=d0.gU
    have hil:((Tn.asI gs).map V.int).length=gs.length:=by rw [List.length_map,Tn.dz]
    refine ⟨_,(aA (iR (i:=5) (ao aU) rfl ["left","ways","rests","takes","going","unmet","turns","taker"] rfl ["taker","rests","takes"] [none,some 2,some 3] (by decide +kernel) (by decide +kernel) (by decide +kernel) rfl cW.nd rfl rfl (cB (pv 4)) (fun _ _ _=>(aK (i:=0) (show (["taker","rests","takes"]:List Str).Nodup by decide +kernel) rfl (Or.inl rfl))) (fun _ _ _=>gk) (fun _ _ _=>(aL qj (aX (gB (K:=K) rfl) (pv 1) (pv 0) (fun _ _=>rfl)) (aX (gB (K:=K) rfl) (pv 2) (pv 0) (fun _ _=>rfl)))) rfl)
      (aA (aO (i:=6) cW.nd rfl (Or.inl rfl) (aH su (hr.mono (by decide)) rfl eE.m eE.F.kp eE.b .nil bI (ak (pv 0) (ak (gK (ao aU) rfl ["left","ways","rests","takes","going","unmet","turns","taker"] rfl ["taker","ways"] [none,some 1] (by decide +kernel) (by decide +kernel) (by decide +kernel) rfl (cB (pv 4)) (fun _ _ _=>(aK (i:=0) (show (["taker","ways"]:List Str).Nodup by decide +kernel) rfl (Or.inl rfl))) (fun _ _ _=>gk) (fun _ _ _=>(aX (gB (K:=K) rfl) (pv 1) (pv 0) (fun _ _=>rfl)))) (ak (pv 5) au)))))
      (aD (iZ PassesOwn.never rfl (cB (pv 4)) (aK (i:=7) cW.nd rfl (Or.inl rfl))
        (aA (gJ (aH Ew (hr.mono (by decide)) rfl jY.m jY.F.kp jY.b .nil bI (ak (pv 0) (ak (aX aJ (pv 1) (pv 7) (fun _ _=>rfl)) (ak (pv 6) au)))))
        (aD (mK (pv 3) (pv 7) j8 (pv 6) um set_list))))))),?_⟩
    refine sl_9 ?_
    intro zu0 zu1 zu2 zu3
    /- unmet -/
    refine ⟨_,rfl,g,rfl,⟨_,O.same.seq d2⟩,fun lu hlu=>?_⟩
    refine dY (K:=K) (xs:=(Tn.asI gs).map V.int) (fun i τ H'=>Iv (∃ v0:Option V,τ=[v0,some (.ref b),some (.ref t)]∧Ow T Hb H' [(lu,.lst ((Tn.unmet rs xs (gs.take i)).map V.int)),(a,.lst (fs.map V.int)),(t,.lst (xs.map V.int))]))
      ⟨trivial,none,rfl,O.mk' hlu rfl⟩ (fun i τ H' _ ⟨_,_,_,O⟩=>O.same.seq d2) ?_ ?_
    · rintro i y τ H2 hy ⟨-,v0,rfl,O⟩
      obtain ⟨z,hz,rfl⟩:=ints_get hy
      obtain ⟨k,hk,rfl⟩:=Tn.je hz
      have hkn:=gn k (List.mem_of_getElem? hk)
      have hi:=(List.getElem?_eq_some_iff.mp hk).1
      refine yU ?_
      refine ⟨_,rfl,_,rfl,b,_,_,_,rfl,rfl,O.same.seq d1,eO (bN (by omega)),_,rfl,_,rfl,t,_,_,_,rfl,rfl,O.sq 2,eO (bN (by omega)),_,_,rfl,rfl,?_⟩
      refine ⟨_,O.get 0,aR (by rw [List.length_map];unfold Tn.unmet;rw [List.length_map,List.length_take];omega),?_⟩
      walk_at "pt"
      refine ⟨trivial,_,rfl,?_⟩
      rw [Tn.yc hk,List.map_append];exact O
    rintro τ H2 ⟨-,v0,rfl,O⟩
    rw [hil,List.take_of_length_le (Nat.le_refl _)] at O
    have hul:(Tn.unmet rs xs gs).length=gs.length:=by unfold Tn.unmet;rw [List.length_map]
    /- whole_turns(left, .., unmet) -/
    refine ⟨_,rfl,_,rfl,g,rfl,⟨_,O.same.seq d2⟩,fun lw hlw=>?_⟩
    refine dY (K:=K) (xs:=(Tn.asI gs).map V.int) (fun i τ H'=>Iv (∃ (v0:Option V) (us:List V),τ=[v0,some (.ref va)]∧dN K Hb us ((gs.take i).map fun k=>jU (Tn.fW ws k))∧Ow T Hb H' [(lw,.lst us),(lu,.lst ((Tn.unmet rs xs gs).map V.int)),(a,.lst (fs.map V.int)),(t,.lst (xs.map V.int))]))
      ⟨trivial,none,[],rfl,.nil,O.mk' hlw rfl⟩ (fun i τ H' _ ⟨_,_,_,_,_,O⟩=>O.same.seq d2) ?_ ?_
    · rintro i y τ H3 hy ⟨-,v0,us,rfl,hus,O⟩
      obtain ⟨z,hz,rfl⟩:=ints_get hy
      obtain ⟨k,hk,rfl⟩:=Tn.je hz
      have hkn:=gn k (List.mem_of_getElem? hk)
      have hi:=(List.getElem?_eq_some_iff.mp hk).1
      obtain ⟨wa,hwa,hW⟩:=hds.zf (vP hkn)
      refine yU ?_
      refine ⟨_,rfl,_,rfl,va,_,_,_,rfl,rfl,O.same.seq hV,jB hwa,?_⟩
      refine ⟨_,O.get 0,aR (by rw [hus.length,List.length_map,List.length_take];omega),?_⟩
      walk_at "pt"
      refine ⟨trivial,_,us++[.ref wa],rfl,?_,O⟩
      rw [Tn.gA hk]
      exact hus.append (.cons (Den.ints hW) .nil)
    rintro τ H3 ⟨-,v0,us,rfl,hus,O⟩
    rw [hil,List.take_of_length_le (Nat.le_refl _)] at hus
    have hus':dN K Hb us ((gs.map fun k=>Tn.fW ws k).map jU):=by rw [List.map_map];exact hus
    refine ⟨_,rfl,a,lu,.ref lw,fs,Tn.unmet rs xs gs,gs.map fun k=>Tn.fW ws k,rfl,O.sq 2,.list (O.sq 0) (hus'.mo O.same),O.sq 1,fl,by omega,by rw [List.length_map];omega,fun w hw=>?_,O.same.t1,fun M H4 sm hM=>?_⟩
    · obtain ⟨k,hk,rfl⟩:=List.mem_map.mp hw
      exact wok _ (Tn.oX (gn k hk))
    have hM:Tn.WT fs (Tn.Fg fs.length ws gs) (Tn.unmet rs xs gs) M:=by
      unfold Tn.Fg
      rw [List.map_map] at hM
      exact hM
    have O:=((O.pQ sm).tail).tail
    /- the loop -/
    refine ⟨_,rfl,g,rfl,⟨_,O.same.seq d2⟩,?_⟩
    refine gD (K:=K) (xs:=(Tn.asI gs).map V.int) (fun i σ H'=>Iv (∃ v7:Option V,σ=[some (.ref a),some (.ref va),some (.ref b),some (.ref t),some (.ref g),some (.ref lu),some (.int M),v7] ∧
      Ow T Hb H' [(a,.lst ((Tn.bumps fs ((gs.take i).map fun k=>(Tn.fW ws k,-M))).map V.int)),(t,.lst ((Tn.bump xs (Tn.asI (gs.take i)) M).map V.int))]))
      ⟨trivial,none,rfl,O⟩ (fun i σ H' _ ⟨_,_,_,O⟩=>O.same.seq d2) ?_ ?_
    · rintro i y σ H5 hy ⟨-,v7,rfl,O⟩
      obtain ⟨z,hz,rfl⟩:=ints_get hy
      obtain ⟨k,hk,rfl⟩:=Tn.je hz
      have hkn:=gn k (List.mem_of_getElem? hk)
      obtain ⟨wa,hwa,hW⟩:=hds.zf (vP hkn)
      have hn1:Tn.bumps fs ((gs.take (i + 1)).map fun k=>(Tn.fW ws k,-M))=Tn.bump (Tn.bumps fs ((gs.take i).map fun k=>(Tn.fW ws k,-M))) (Tn.fW ws k) (-M):=by
        rw [Tn.gA hk];exact Tn.mX _ _ _
      have hl1:(Tn.bumps fs ((gs.take i).map fun k=>(Tn.fW ws k,-M))).length=fs.length:=Tn.jf _ _
      have hl2:(Tn.bump xs (Tn.asI (gs.take i)) M).length=ws.length:=by rw [Tn.gW];exact xl
      have hn2:Tn.bump xs (Tn.asI (gs.take (i + 1))) M=(Tn.bump xs (Tn.asI (gs.take i)) M).set k ((Tn.bump xs (Tn.asI (gs.take i)) M).getD k 0 + M):=by
        rw [← Tn.uo,← Tn.uo,mj hz,Int.toNat_natCast]
      obtain ⟨H1,O1,s1,hB,back⟩:=Ow.lend (A:=[(a,.lst ((Tn.bumps fs ((gs.take i).map fun k=>(Tn.fW ws k,-M))).map V.int))]) (B:=[(t,.lst ((Tn.bump xs (Tn.asI (gs.take i)) M).map V.int))]) O
      refine ⟨_,rfl,_,rfl,_,rfl,va,_,_,_,rfl,rfl,O.same.seq hV,jB hwa,_,rfl,a,wa,_,_,M,H1,rfl,O1,hW.mo s1,by rw [hl1];exact wok _ (Tn.oX hkn),fun H6 O6=>?_⟩
      have O:=back _ _ O6
      refine ⟨_,rfl,_,rfl,t,_,k,_,rfl,rfl,O.sq 1,by rw [List.getElem?_map,bN (by omega)];rfl,_,rfl,_,_,rfl,rfl,t,_,_,k,rfl,rfl,O.get 1,jP (by rw [List.length_map];omega),?_⟩
      walk_at "pt"
      refine ⟨trivial,_,rfl,?_⟩
      rw [hn1,hn2,List.map_set];exact O
    rintro σ H5 ⟨-,v7,rfl,O⟩
    rw [hil,List.take_of_length_le (Nat.le_refl _)] at O
    exact q M _ hM O
abbrev bC:Stmt:=top 38
theorem iB:aQ ["left","ways","rests","takes","going","still","taker"] ["left","ways","rests","takes","going"] (ao bC):=⟨rfl,rfl,rfl,by decide +kernel,rfl,by decide +kernel,by decide +kernel⟩
def Um (K:PySem.W.Frag) (T:gG):Sp:=fun vs H Q _=>∃ (a b t g:Addr) (v:V) (fs rs xs:List Int) (ws:List (List Int)) (gs:List Nat) (Hb:Hp),vs=[.ref a,v,.ref b,.ref t,.ref g]∧aaw K T H Hb a b t g v fs rs xs ws gs ∧
  ∀ (l:Addr) (H':Hp),Ow T Hb H' [(l,.lst ((Tn.asI (Tn.iz ws rs gs (fs,xs,[])).2.2).map V.int)),(a,.lst ((Tn.iz ws rs gs (fs,xs,[])).1.map V.int)),(t,.lst ((Tn.iz ws rs gs (fs,xs,[])).2.1.map V.int))]→Q (.ref l) H'
theorem TY {w l:List Int}:((w.map fun r:Int=>decide (0<l.getD r.toNat 0)).all id)=w.all (fun r=>decide (0<l.getD r.toNat 0)):=by rw [List.all_map];rfl
theorem ZM {f f2:Addr} {fd fd2:FuncData} (D:Df K mg "take_one_turn" bC ["left","ways","rests","takes","going"] f fd) (B:Blt mg)
    (jY:Df K mg "draw" lO ["left","way","drops"] f2 fd2) (Ew:bT P w K mg base CX0 1 f2 fd2 ["left","way","drops"] (vh K T)) :
    bT P w K mg base CX0 2 f fd ["left","ways","rests","takes","going"] (Um K T):=by
  refine D.F.ok iB (fun vs H Q E h=>?_) (fun cdv A outer s H vs Q E hr h=>?_)
  · obtain ⟨_,_,_,_,_,_,_,_,_,_,_,rfl,_⟩:=h;rfl
  · obtain ⟨a,b,t,g,v,fs,rs,xs,ws,gs,Hb,rfl,⟨O,d0,d1,d2,rl,xl,gn,nd,wok,fl,wl,gl⟩,q⟩:=h
    obtain ⟨va,vs,rfl,hV,hds⟩:=d0.gU
    have hil:((Tn.asI gs).map V.int).length=gs.length:=by rw [List.length_map,Tn.dz]
    refine ⟨_,(aA (aO (i:=5) iB.nd rfl (Or.inl rfl) (eH au))
      (aA (iZ PassesOwn.never rfl (cB (pv 4)) (aK (i:=6) iB.nd rfl (Or.inl rfl))
        (aD (jN (PW.pt (pw_and (cA UJ (aX aJ (pv 3) (pv 6) (fun _ _=>rfl)) (aX aJ (pv 2) (pv 6) (fun _ _=>rfl)) (dJ _)) (pw_and1 (gq (aG (Hy rfl) rfl B.all PyProof.Rows.boot_all (ak (gK (ao bC) rfl ["left","ways","rests","takes","going","still","taker"] rfl ["reach","left"] [none,some 0] (by decide +kernel) (by decide +kernel) (by decide +kernel) rfl (cB (aX aJ (pv 1) (pv 6) (fun _ _=>rfl))) (fun _ _ _=>(aK (i:=0) (show (["reach","left"]:List Str).Nodup by decide +kernel) rfl (Or.inl rfl))) (fun _ _ _=>gk) (fun _ _ _=>(rB Gh (aX (gB (K:=K) rfl) (pv 1) (pv 0) (fun _ _=>rfl)) aq (dJ _)))) au))))))
          (aA (gJ (aH Ew (hr.mono (by decide)) rfl jY.m jY.F.kp jY.b .nil bI (ak (pv 0) (ak (aX aJ (pv 1) (pv 6) (fun _ _=>rfl)) (ak aq au)))))
          (aA (mK (pv 3) (pv 6) j8 aq um set_list)
          (aD (gJ (oU PySem.F.plainAttrs_list PySem.F.slot_list_append PySem.F.type_list_append dX (pv 5) (ak (pv 6) au))))))
          eV)))
      (aD (bx (pv 5))))),?_⟩
    refine Zy ?_
    intro zu0 zu1 zu2 zu3 zu4 zu5
    refine ⟨szl,fun ls hls=>?_⟩
    walk_at "nw"
    refine ⟨_,rfl,g,rfl,⟨_,O.same.seq d2⟩,?_⟩
    refine gD (K:=K) (xs:=(Tn.asI gs).map V.int) (fun i σ H'=>Iv (∃ v6:Option V,σ=[some (.ref a),some (.ref va),some (.ref b),some (.ref t),some (.ref g),some (.ref ls),v6] ∧
      Ow T Hb H' [(ls,.lst ((Tn.asI (Tn.iz ws rs (gs.take i) (fs,xs,[])).2.2).map V.int)),(a,.lst ((Tn.iz ws rs (gs.take i) (fs,xs,[])).1.map V.int)),(t,.lst ((Tn.iz ws rs (gs.take i) (fs,xs,[])).2.1.map V.int))]))
      ⟨trivial,none,rfl,O⟩ (fun i σ H' _ ⟨_,_,_,O⟩=>O.same.seq d2) ?_ ?_
    · rintro i y σ H5 hy ⟨-,v7,rfl,O⟩
      obtain ⟨z,hz,rfl⟩:=ints_get hy
      obtain ⟨k,hk,rfl⟩:=Tn.je hz
      have hkn:=gn k (List.mem_of_getElem? hk)
      have hi:=(List.getElem?_eq_some_iff.mp hk).1
      obtain ⟨wa,hwa,hW⟩:=hds.zf (vP hkn)
      have hnext:=Tn.yg (ws:=ws) (rs:=rs) (s:=(fs,xs,[])) hk
      have hlen:=Tn.sO ws rs (gs.take i) (fs,xs,[])
      rw [hnext]
      generalize Tn.iz ws rs (gs.take i) (fs,xs,[])=S at O hlen ⊢
      obtain ⟨l,x,st⟩:=S
      obtain ⟨hl1,hl2,hl3⟩:=hlen
      have hl1:l.length=fs.length:=hl1
      have hl2:x.length=xs.length:=hl2
      have hl3:st.length≤i:=by
        have:st.length≤0 + (gs.take i).length:=hl3
        rw [List.length_take] at this;omega
      have O:Ow T Hb H5 [(ls,.lst ((Tn.asI st).map V.int)),(a,.lst (l.map V.int)),(t,.lst (x.map V.int))]:=O
      have ok:=wok _ (Tn.oX hkn)
      have no:¬ (x.getD k 0<rs.getD k 0∧(Tn.fW ws k).all (fun r=>decide (0<l.getD r.toNat 0))=true)→Tn.step1 ws rs (l,x,st) k=(l,x,st):=fun h=>if_neg h
      have yes:(x.getD k 0<rs.getD k 0∧(Tn.fW ws k).all (fun r=>decide (0<l.getD r.toNat 0))=true)→Tn.step1 ws rs (l,x,st) k=(Tn.bump l (Tn.fW ws k) (-1),x.set k (x.getD k 0 + 1),st++[k]):=fun h=>if_pos h
      generalize Tn.step1 ws rs (l,x,st) k=S' at no yes ⊢
      refine ⟨_,rfl,_,rfl,t,_,_,_,rfl,rfl,O.sq 2,eO (bN (by omega)),_,rfl,_,rfl,b,_,_,_,rfl,rfl,O.same.seq d1,eO (bN (by omega)),_,_,rfl,rfl,_,rfl,ifD (fun hc1=>?_) fun hc1=>?_⟩
      · refine ⟨_,rfl,_,rfl,va,_,_,_,rfl,rfl,O.same.seq hV,jB hwa,wa,rfl,⟨_,O.same.seq hW⟩,fun lb hlb=>?_⟩
        refine dY (K:=K) (xs:=(Tn.fW ws k).map V.int) (fun j τ H'=>Iv (∃ v0:Option V,τ=[v0,some (.ref a)]∧Ow T Hb H' [(lb,.lst ((((Tn.fW ws k).take j).map fun r:Int=>decide (0<l.getD r.toNat 0)).map V.bl)),(ls,.lst ((Tn.asI st).map V.int)),(a,.lst (l.map V.int)),(t,.lst (x.map V.int))]))
          ⟨trivial,none,rfl,O.mk' hlb rfl⟩ (fun i τ H' _ ⟨_,_,_,O⟩=>O.same.seq hW) ?_ ?_
        · rintro j y τ H6 hy ⟨-,v0,rfl,O⟩
          obtain ⟨r,hr,rfl⟩:=ints_get hy
          have hj:=(List.getElem?_eq_some_iff.mp hr).1
          obtain ⟨r0,r1⟩:=ok.2 r (List.mem_of_getElem? hr)
          refine yU ?_
          refine ⟨_,rfl,_,rfl,a,_,_,_,rfl,rfl,O.sq 2,bR r0 (by omega),_,_,rfl,rfl,?_⟩
          refine ⟨_,O.get 0,aR (by rw [List.length_map,List.length_map,List.length_take];have:=ok.len;omega),?_⟩
          walk_at "pt"
          refine ⟨trivial,_,rfl,?_⟩
          rw [Tn.gA hr,List.map_append];exact O
        rintro τ H6 ⟨-,v0,rfl,O⟩
        rw [List.length_map,List.take_of_length_le (Nat.le_refl _)] at O
        refine ⟨lb,_,rfl,O.sq 0,?_⟩
        rw [TY]
        have O:=O.tail
        refine ⟨_,rfl,ifB (fun hc2=>?_) fun hc2=>?_⟩
        · rw [yes ⟨hc1,hc2⟩]
          obtain ⟨H1,O1,s1,hB,back⟩:=Ow.lend (A:=[(a,.lst (l.map V.int))]) (B:=[(ls,.lst ((Tn.asI st).map V.int)),(t,.lst (x.map V.int))]) (O.pull 1)
          refine ⟨_,rfl,_,rfl,_,rfl,va,_,_,_,rfl,rfl,O.same.seq hV,jB hwa,a,wa,l,_,1,H1,rfl,O1,hW.mo s1,by rw [hl1];exact ok,fun H7 O7=>?_⟩
          have O:=back _ _ O7
          have O:Ow T Hb H7 [(a,.lst ((Tn.bump l (Tn.fW ws k) (-1)).map V.int)),(ls,.lst ((Tn.asI st).map V.int)),(t,.lst (x.map V.int))]:=O
          refine ⟨_,rfl,_,rfl,t,_,k,_,rfl,rfl,O.sq 2,by rw [List.getElem?_map,bN (by omega)];rfl,_,_,rfl,rfl,t,_,_,k,rfl,rfl,O.get 2,jP (by rw [List.length_map];omega),?_⟩
          walk_at "pt"
          refine ⟨_,rfl,.inl ⟨rfl,_,O.sq 1⟩,_,rfl,ls,_,_,rfl,rfl,O.get 1,aR (by rw [List.length_map,Tn.dz];omega),?_⟩
          walk_at "pt"
          refine ⟨trivial,_,rfl,?_⟩
          have O:=O.pull 1
          show Ow T Hb _ [(ls,.lst ((Tn.asI (st++[k])).map V.int)),(a,.lst ((Tn.bump l (Tn.fW ws k) (-1)).map V.int)),(t,.lst ((x.set k (x.getD k 0 + 1)).map V.int))]
          rw [List.map_set]
          unfold Tn.asI
          rw [List.map_append,List.map_append]
          exact O
        · rw [no fun z=>by rw [z.2] at hc2;cases hc2]
          exact ⟨trivial,_,rfl,O⟩
      · refine nF ?_
        rw [no fun z=>hc1 z.1]
        exact ⟨trivial,_,rfl,O⟩
    rintro σ H5 ⟨-,v7,rfl,O⟩
    rw [hil,List.take_of_length_le (Nat.le_refl _)] at O
    exact ⟨_,rfl,q _ _ O⟩
abbrev cQ:Stmt:=top 39
theorem fY:aQ ["free","ways","rests","left","takes","going"] ["free","ways","rests"] (ao cQ):=⟨rfl,rfl,rfl,by decide +kernel,rfl,by decide +kernel,by decide +kernel⟩
def Uq (K:PySem.W.Frag) (T:gG):Sp:=fun vs H Q _=>∃ (a b:Addr) (v:V) (fs rs:List Int) (ws:List (List Int)),vs=[.ref a,v,.ref b]∧SqL K H a (fs.map V.int)∧Den K H v (xP ws)∧SqL K H b (rs.map V.int)∧rs.length=ws.length∧fs.length≤1000∧ws.length<64 ∧
  (∀ w∈ws,Tn.WOk fs.length w)∧(∀ x∈fs,0≤x)∧(∀ x∈rs,0≤x)∧TabsOk T H ∧
  ∀ (l lt ll:Addr) (xs left:List Int) (t:Int) (H':Hp),Ow T H H' [(l,.tup [.ref lt,.ref ll]),(lt,.lst (xs.map V.int)),(ll,.lst (left.map V.int))]→Tn.pJ fs ws rs left xs [] t→Q (.ref l) H'
theorem ZQ {f f1 f2:Addr} {fd fd1 fd2:FuncData} (D:Df K mg "deal_turns" cQ ["free","ways","rests"] f fd) (B:Blt mg)
    (bL:Df K mg "take_whole_turns" aU ["left","ways","rests","takes","going"] f1 fd1) (mD:bT P w K mg base CX0 3 f1 fd1 ["left","ways","rests","takes","going"] (Ul K T))
    (cM:Df K mg "take_one_turn" bC ["left","ways","rests","takes","going"] f2 fd2) (pK:bT P w K mg base CX0 2 f2 fd2 ["left","ways","rests","takes","going"] (Um K T)) :
    bT P w K mg base CX0 4 f fd ["free","ways","rests"] (Uq K T):=by
  refine D.F.ok fY (fun vs H Q E h=>?_) (fun cdv A outer s H vs Q E hr h=>?_)
  · obtain ⟨_,_,_,_,_,_,rfl,_⟩:=h;rfl
  · obtain ⟨a,b,v,fs,rs,ws,rfl,hA,d0,hB,rl,fl,wl,wok,hf,hrs,tk,q⟩:=h
    obtain ⟨va,vs,rfl,hV,hds⟩:=d0.gU
    have hvl:vs.length=ws.length:=by rw [hds.length,List.length_map]
    refine ⟨_,(aA (aO (i:=3) fY.nd rfl (Or.inl rfl) (jc dZ rfl B.list PyProof.Rows.boot_list (ak (pv 0) au)))
      (aA (aO (i:=4) fY.nd rfl (Or.inl rfl) (aL tX (eH (ak aq au)) (aG aV rfl B.len PySem.boot_len (ak (pv 1) au))))
      (aA (aO (i:=5) fY.nd rfl (Or.inl rfl) (tW rfl rfl B.list rfl B.range (ak (aG aV rfl B.len PySem.boot_len (ak (pv 1) au)) au)))
      (aA (rm PassesOwn.never (Gb (pv 5) (fun _=>rfl))
        (aA (gJ (aH mD (hr.mono (by decide)) rfl bL.m bL.F.kp bL.b .nil bI (ak (pv 3) (ak (pv 1) (ak (pv 2) (ak (pv 4) (ak (pv 5) au)))))))
        (aD (aO (i:=5) fY.nd rfl (Or.inl rfl) (aH pK (hr.mono (by decide)) rfl cM.m cM.F.kp cM.b .nil bI (ak (pv 3) (ak (pv 1) (ak (pv 2) (ak (pv 4) (ak (pv 5) au))))))))))
      (aD (bx (kj (ak (pv 4) (ak (pv 3) au))))))))),?_⟩
    refine Zx ?_
    intro zu0 zu1 zu2 zu3 zu4 zu5
    have O:=Ow.refl tk
    refine ⟨_,rfl,a,_,rfl,.inl (O.same.seq hA),fun ll hll=>?_⟩
    walk_at "nw"
    refine ⟨szl,fun l1 h1=>?_⟩
    walk_at "nw"
    refine ⟨_,rfl,va,_,rfl,.inl (O.same.seq hV),l1,_,_,rfl,rfl,O.get 0,by omega,by omega,fU (by rw [hvl,Int.toNat_natCast];simp;omega),fun lt hlt=>?_⟩
    walk_at "nw"
    rw [hvl,Int.toNat_natCast,jM] at O
    have O:=O.two
    refine ⟨_,rfl,va,_,rfl,.inl (O.same.seq hV),ws.length,by rw [hvl],wl,fun lg hlg=>?_⟩
    walk_at "nw"
    have eg:gH ws.length=(Tn.asI (List.range ws.length)).map V.int:=by unfold gH Tn.asI;rw [List.map_map];rfl
    rw [eg] at O
    refine ⟨fun m σ H'=>Iv (∃ (lg:Addr) (gs:List Nat) (l xs:List Int) (t:Int),σ=[some (.ref a),some (.ref va),some (.ref b),some (.ref ll),some (.ref lt),some (.ref lg)]∧Tn.pJ fs ws rs l xs gs t∧m=(Tn.rem rs xs ws.length + (gs.length:Int)).toNat ∧
      Ow T H H' [(lg,.lst ((Tn.asI gs).map V.int)),(lt,.lst (xs.map V.int)),(ll,.lst (l.map V.int))]),⟨_,trivial,lg,_,fs,_,0,rfl,Tn.pJ.start hf hrs wok,rfl,O⟩,?_⟩
    rintro m σ H2 ⟨-,lg,gs,l,xs,t,rfl,LI,rfl,O⟩
    have nd:=Tn.eX LI.srt
    have gn:∀ k∈gs,k<ws.length:=fun k hk=>(LI.going k hk).1
    have gl:gs.length≤1000:=by
      have:gs.length≤ws.length:=by
        have:=List.Nodup.length_le_of_subset (l₂:=List.range ws.length) nd fun k hk=>List.mem_range.mpr (gn k hk)
        simpa using this
      omega
    refine ⟨_,rfl,_,.inl ⟨_,O.sq 0,rfl⟩,ifB (fun hc=>?_) fun hc=>?_⟩
    · have hne:0<gs.length:=by
        cases gs with
        | nil=>simp [Tn.asI] at hc
        | cons x gs=>simp
      refine ⟨_,fun σ' H' h=>h,?_⟩
      obtain ⟨H1,O1,s1,hBk,back⟩:=Ow.lend (A:=[(ll,.lst (l.map V.int)),(lt,.lst (xs.map V.int))]) (B:=[(lg,.lst ((Tn.asI gs).map V.int))]) (((O.pull 1).pull 2))
      refine ⟨_,rfl,_,rfl,_,rfl,_,rfl,_,rfl,ll,b,lt,lg,.ref va,l,rs,xs,ws,gs,H1,rfl,⟨O1,.list (hV.mo s1) (hds.mo s1),hB.mo s1,SqL.of (hBk (lg,.lst ((Tn.asI gs).map V.int)) (by simp)),rl,LI.xl,gn,nd,by rw [LI.ll];exact wok,by rw [LI.ll];exact fl,by omega,gl⟩,fun M H3 hM O3=>?_⟩
      rw [LI.ll] at hM
      have L2:=LI.whole hf wok hM
      have M0:=hM.nn
      have rw1:=Tn.Af LI M0
      have O:=back _ _ O3
      have hll2:=L2.ll
      obtain ⟨L3,hsum⟩:=L2.one wok
      obtain ⟨H4,O4,s4,hBk4,back4⟩:=Ow.lend (A:=[(ll,.lst ((Tn.bumps l (gs.map fun k=>(Tn.fW ws k,-M))).map V.int)),(lt,.lst ((Tn.bump xs (Tn.asI gs) M).map V.int))]) (B:=[(lg,.lst ((Tn.asI gs).map V.int))]) O
      refine ⟨_,rfl,_,rfl,_,rfl,_,rfl,_,rfl,ll,b,lt,lg,.ref va,_,rs,_,ws,gs,H4,rfl,⟨O4,.list (hV.mo s4) (hds.mo s4),hB.mo s4,SqL.of (hBk4 (lg,.lst ((Tn.asI gs).map V.int)) (by simp)),rl,L2.xl,gn,nd,by rw [L2.ll];exact wok,by rw [L2.ll];exact fl,by omega,gl⟩,fun l5 H5 O5=>?_⟩
      have O:=back4 _ _ O5
      have O:=(O.del 3)
      have O:=O.pull 2
      have O:=(O.pull 1)
      refine ⟨_,?_,trivial,l5,_,_,_,_,rfl,L3,rfl,?_⟩
      · have a1:=L3.Ie
        have a2:=LI.Ie
        omega
      · exact O
    · have hg:gs=[]:=by
        cases gs with
        | nil=>rfl
        | cons x gs=>simp [Tn.asI] at hc
      subst hg
      refine ⟨_,rfl,_,rfl,szl,fun l5 hl5=>?_⟩
      walk_at "nw"
      exact q l5 lt ll xs l t _ (O.two) LI
abbrev cZ:Stmt:=top 27
theorem tH:aQ ["one"] ["one"] (ao cZ):=⟨rfl,rfl,rfl,by decide +kernel,rfl,by decide +kernel,by decide +kernel⟩
def zR (K:PySem.W.Frag):Sp:=fun vs H Q _=>∃ (t:Addr) (l:Lic),vs=[.ref t]∧SqT K H t (zp l)∧Q (.int l.day) H
theorem U6 {f:Addr} {fd:FuncData} (D:Df K mg "day_filed" cZ ["one"] f fd):bT P w K mg base CX0 1 f fd ["one"] (zR K):=by
  refine D.F.ok tH (fun vs H Q E h=>?_) (fun cdv A outer s H vs Q E hr h=>?_)
  · obtain ⟨_,_,rfl,_⟩:=h;rfl
  · obtain ⟨t,l,rfl,hT,q⟩:=h
    refine ⟨_,(aD (bx (aX jD (pv 0) aq (fun _ _=>rfl)))),?_⟩
    exact ⟨_,rfl,t,_,0,_,rfl,rfl,hT,rfl,q⟩
abbrev iK:Stmt:=top 30
theorem zY:aQ ["roll"] ["roll"] (ao iK):=⟨rfl,rfl,rfl,by decide +kernel,rfl,by decide +kernel,by decide +kernel⟩
def bF:Pos × Str:=(⟨70,40,70,88⟩,"ranked.<locals>.<lambda>")
def TT2 (P:Addr) (T:gG):Prop:=(P,bF.1,bF.2)∈T∧(T.map (·.1)).Nodup
def rP (ls:List Lic):Nat→Int:=fun k=>(ls[k]?.map Lic.day).getD 0
theorem DR {ls:List Lic} {k:Nat} {l:Lic} (h:ls[k]?=some l):rP ls k=l.day:=by unfold rP;rw [h];rfl
def sY (K:PySem.W.Frag) (T:gG):Sp:=fun vs H Q _=>∃ (v:V) (ls:List Lic),vs=[v]∧Den K H v (lA ls)∧ls.length<64∧TabsOk T H ∧
  lC T H (fun xs=>∃ p,xs=p.map (fun (i:Nat)=>V.int (i:Int))∧Tn.Rk (rP ls) ls.length p) Q
def T9 (day:Nat→Int) (i:Nat):Int:=64 * day i + (i:Int)
theorem GJ {day:Nat→Int} {i j:Nat} (hi:i<64) (hj:j<64):HT.lexLt [day i,(i:Int)] [day j,(j:Int)]=decide (T9 day i<T9 day j):=by
  unfold T9
  rw [HT.jr,HT.jr,HT.lU]
  rw [Bool.eq_iff_iff]
  split
  · split
    · simp only [Bool.false_eq_true,decide_eq_true_eq,false_iff];omega
    · simp only [decide_eq_true_eq];omega
  · simp only [decide_eq_true_eq];omega
theorem Aw {f fW:Addr} {fd fdW:FuncData} {pT cT:Addr} {T:gG} (D:Df K mg "ranked" iK ["roll"] f fd) (hcd:fd.code=.ref cT) (hhd:PySem.W.codeHdIn K cT pT=true) (hT:TT2 pT T) (hbm:BM mg base) (B:Blt mg)
    (cj:Df K mg "day_filed" cZ ["one"] fW fdW) (lD:bT P w K mg base CX0 1 fW fdW ["one"] (zR K)):bT P w K mg base CX0 5 f fd ["roll"] (sY K T):=by
  refine D.F.okC hcd zY (fun vs H Q E h=>?_) (fun A outer s H vs Q E hr h=>?_)
  · obtain ⟨_,_,rfl,_⟩:=h;rfl
  · obtain ⟨v,ls,rfl,hd,h64,tk,q⟩:=h
    obtain ⟨va,vs,rfl,hV,d0⟩:=hd.gU
    have hvl:vs.length=ls.length:=by rw [d0.length,List.length_map]
    refine ⟨_,(aD (bx (nA (P:=pT) (c:=cT) (p:="number") (ao iK) rfl ["roll"] rfl ["roll"] [some 0] (by decide +kernel) (by decide +kernel) (by decide +kernel) rfl hbm rfl hhd (xq (hr.mono (by decide))) rfl B.sorted rfl B.range (ak (aG aV rfl B.len PySem.boot_len (ak (pv 0) au)) au) (fun A f cv s H hh hd hu=>(kj (ak (aH lD (xg (hr.mono (by decide)) hh hd hu) rfl cj.m cj.F.kp cj.b .nil bI (ak (aX (gB (K:=K) rfl) (pv 1) (pv 0) (fun _ _=>rfl)) au)) (ak (pv 0) au)))) (fun _ _ _ _=>rfl)))),?_⟩
    refine ⟨_,rfl,va,_,rfl,.inl hV,ls.length,by rw [hvl],h64,tk _ hT.1,fun H2 k1 k2 t2=>?_⟩
    have sT:bf T H H2:=bf.tab tk hT.1 hT.2 k1 t2
    refine ⟨fun i ts H3=>bf T H2 H3∧ts.length=i∧∀ (j:Nat) (t:Addr),ts[j]?=some t→H3 t=some (.tup ([rP ls j,(j:Int)].map V.int)),fun i=>[rP ls i,(i:Int)],T9 (rP ls),1,⟨bf.refl sT.t1,rfl,fun j t e=>by simp at e⟩,?_,?_,fun _ _=>rfl,fun i j hi hj=>GJ (by omega) (by omega),?_,?_⟩
    · rintro i ts H3 hi ⟨s3,htl,h3⟩
      refine ⟨fun c' e=>s3.keep c' _ e fun ps z=>(by cases z),?_⟩
      obtain ⟨al,hal,hTl⟩:=d0.Bp (List.getElem?_eq_getElem hi)
      have hTl:=hTl.mo (sT.trans s3)
      have edl:=DR (List.getElem?_eq_getElem hi)
      refine ⟨_,rfl,_,rfl,va,_,(i:Int),_,rfl,rfl,(sT.trans s3).seq hV,jB hal,al,_,rfl,hTl,?_⟩
      refine ⟨_,rfl,(by show 2≤sizeLine;decide),fun t ht=>⟨t,rfl,?_⟩⟩
      have nt:H2 t=none:=s3.free ht
      refine ⟨s3.upd nt (.inl ht),by rw [List.length_append,htl];rfl,fun j t' e=>?_⟩
      by_cases hj:j<ts.length
      · rw [List.getElem?_append_left hj] at e
        have h4':=h3 j t' e
        rw [aN (bD h4' ht)];exact h4'
      · rw [List.getElem?_append_right (by omega)] at e
        have hj0:j - ts.length=0:=by
          have:=(List.getElem?_eq_some_iff.mp e).1
          simp at this;omega
        have hji:j=i:=by omega
        rw [hj0] at e
        simp at e
        subst e
        subst hji
        rw [bB,edl];rfl
    · rintro ts H3 ⟨_,_,h3⟩
      exact h3
    · intro i j hi hj hij e
      unfold T9 at e
      omega
    · rintro ts H3 D' ys ⟨s3,_,_⟩ hD ⟨p,hp,rfl,ho⟩
      have hbl:(gH ls.length).length=ls.length:=by unfold gH;simp
      rw [hbl] at hp
      refine q D' _ _ ((sT.trans s3).upd ((sT.trans s3).free hD) (.inl hD)) ((sT.trans s3).free hD) bB ⟨p,?_,hp,?_⟩
      · refine List.map_congr_left fun i hi=>?_
        have hi':i<ls.length:=List.mem_range.mp (hp.mem_iff.mp hi)
        show (gH ls.length).getD i .non=_
        unfold gH
        rw [List.getD_eq_getElem?_getD,List.getElem?_map,List.getElem?_range hi'];rfl
      · refine List.Pairwise.imp_of_mem (fun {a b} ha hb hab=>?_) ho
        have ha:=List.mem_range.mp (hp.mem_iff.mp ha)
        have hb:=List.mem_range.mp (hp.mem_iff.mp hb)
        unfold T9 at hab
        omega
abbrev dR:Stmt:=top 31
theorem jJ:aQ ["roll","groups","number"] ["roll"] (ao dR):=⟨rfl,rfl,rfl,by decide +kernel,rfl,by decide +kernel,by decide +kernel⟩
abbrev Pg:=Addr × Int × List Nat
def EY (ps:List Pg):List (Addr × HO):=ps.map fun p=>(p.1,.lst ((Tn.asI p.2.2).map V.int))
def kvG (ps:List Pg):List (Key × V):=ps.map fun p=>(Sum.inl p.2.1,V.ref p.1)
def tu (K:PySem.W.Frag) (T:gG):Sp:=fun vs H Q _=>∃ (v:V) (ls:List Lic),vs=[v]∧Den K H v (lA ls)∧ls.length<64∧TabsOk T H ∧
  ∀ (l:Addr) (H':Hp) (ps:List Pg) (p:List Nat),Ow T H H' ((l,.lst (ps.map fun p=>V.ref p.1)) :: EY ps)→Tn.Rk (rP ls) ls.length p→Tn.Grp (rP ls) p (ps.map (·.2))→Q (.ref l) H'
theorem GR {ps:List Pg} {d:Int} {v:V} (h:uX (kvG ps) (Sum.inl d)=some v):∃ (j:Nat) (p:Pg),ps[j]?=some p∧p.2.1=d∧v=.ref p.1:=by
  unfold uX kvG at h
  rw [List.find?_map,Option.map_map] at h
  cases e:ps.find? ((fun kv:Key × V=>decide (kv.1=Sum.inl d)) ∘ fun p:Pg=>(Sum.inl p.2.1,V.ref p.1)) with
  | none=>rw [e] at h;cases h
  | some p =>
    rw [e] at h
    obtain ⟨j,hj⟩:=List.getElem?_of_mem (List.mem_of_find?_eq_some e)
    have hp:=List.find?_some e
    simp only [Function.comp,decide_eq_true_eq] at hp
    exact ⟨j,p,hj,Sum.inl.inj hp,(Option.some.inj h).symm⟩
theorem GX {ps:List Pg} {d:Int} (h:uX (kvG ps) (Sum.inl d)=none):∀ p∈ps,p.2.1≠d:=fun p hp e=>by
  unfold uX kvG at h
  rw [Option.map_eq_none_iff,List.find?_eq_none] at h
  have:=h _ (List.mem_map_of_mem hp)
  simp [e] at this
theorem Bq {ps:List Pg} {j:Nat} {p:Pg} (h:ps[j]?=some p):(EY ps)[j]?=some (p.1,.lst ((Tn.asI p.2.2).map V.int)):=by
  unfold EY;rw [List.getElem?_map,h];rfl
theorem ni {α β:Type} {f:α→β}:∀ {ps:List α} {j:Nat} {p q:α},ps[j]?=some p→f q=f p→(ps.set j q).map f=ps.map f
  | [],_,_,_,h,_=>by simp at h
  | a :: ps,0,p,q,h,e=>by
    have:a=p:=by simpa using h
    subst this
    simp [e]
  | a :: ps,j + 1,p,q,h,e=>by
    rw [List.set_cons_succ,List.map_cons,List.map_cons,ni (by simpa using h) e]
theorem Ay {f f1 f2:Addr} {fd fd1 fd2:FuncData} (D:Df K mg "groups_of" dR ["roll"] f fd) (B:Blt mg)
    (cj:Df K mg "day_filed" cZ ["one"] f1 fd1) (lD:bT P w K mg base CX0 1 f1 fd1 ["one"] (zR K))
    (j9:Df K mg "ranked" iK ["roll"] f2 fd2) (HJ:bT P w K mg base CX0 5 f2 fd2 ["roll"] (sY K T)):bT P w K mg base CX0 6 f fd ["roll"] (tu K T):=by
  refine D.F.ok jJ (fun vs H Q E h=>?_) (fun cdv A outer s H vs Q E hr h=>?_)
  · obtain ⟨_,_,rfl,_⟩:=h;rfl
  · obtain ⟨v,ls,rfl,hd,h64,tk,q⟩:=h
    obtain ⟨va,vs,rfl,hV,d0⟩:=hd.gU
    have hvl:vs.length=ls.length:=by rw [d0.length,List.length_map]
    refine ⟨_,(aA (aO (i:=1) jJ.nd rfl (Or.inl rfl) Gg)
      (aA (iZ PassesOwn.never rfl (cB (aH HJ (hr.mono (by decide)) rfl j9.m j9.F.kp j9.b .nil bI (ak (pv 0) au))) (aK (i:=2) jJ.nd rfl (Or.inl rfl))
        (aD (gJ (oU PySem.F.plainAttrs_list PySem.F.slot_list_append PySem.F.type_list_append dX (Rr (pv 1) (aH lD (hr.mono (by decide)) rfl cj.m cj.F.kp cj.b .nil bI (ak (aX aJ (pv 0) (pv 2) (fun _ _=>rfl)) au)) (eH au) ⟨rfl,rfl,rfl,rfl⟩) (ak (pv 2) au)))))
      (aD (bx (vG rfl rfl B.list (pv 1)))))),?_⟩
    refine Zw ?_
    intro zu0 zu1 zu2
    have O:=Ow.refl tk
    intro dg hdg
    walk_at "nw"
    refine ⟨_,rfl,.ref va,ls,rfl,hd.mR O.same,h64,O.same.t1,O.ur fun lt H2 xs O ⟨p,ep,hp⟩=>?_⟩
    subst ep
    refine ⟨lt,rfl,⟨_,O.sq 0⟩,?_⟩
    refine gD (K:=K) (xs:=p.map fun (i:Nat)=>V.int (i:Int)) (fun i σ H'=>Iv (∃ (v2:Option V) (ps:List Pg),σ=[some (.ref va),some (.ref dg),v2]∧ps.length≤i ∧
      Ow T H H' ((lt,.lst (p.map fun (i:Nat)=>V.int (i:Int))) :: (dg,.dK (kvG ps)) :: EY ps)∧Tn.Grp (rP ls) (p.take i) (ps.map (·.2))))
      ⟨trivial,none,[],rfl,Nat.le_refl _,O,Tn.Grp.start _⟩ (fun i σ H' _ ⟨_,_,_,_,_,O,_⟩=>O.sq 0) ?_ ?_
    · rintro i y σ H3 hy ⟨-,v2,ps,rfl,hpl,O,G⟩
      rw [List.getElem?_map] at hy
      obtain ⟨k,hk,rfl⟩:∃ k,p[i]?=some k∧y=V.int (k:Int):=by
        cases e:p[i]? with
        | none=>rw [e] at hy;cases hy
        | some j=>rw [e] at hy;exact ⟨j,rfl,(Option.some.inj hy).symm⟩
      have hi:=(List.getElem?_eq_some_iff.mp hk).1
      have hpn:=hp.len
      have hkl:=hp.lt (List.mem_of_getElem? hk)
      have hbe:=hp.before hk
      obtain ⟨al,hal,hTl⟩:=d0.Bp (List.getElem?_eq_getElem hkl)
      have edl:=DR (List.getElem?_eq_getElem hkl)
      have hvk:vs[k]?=some (.ref al):=hal
      refine ⟨_,rfl,dg,rfl,.inl ⟨_,.inl (O.get 1)⟩,_,rfl,_,rfl,va,_,(k:Int),_,rfl,rfl,O.same.seq hV,jB hvk,al,_,rfl,hTl.mo O.same,?_⟩
      rw [← edl]
      refine ⟨szl,fun l1 h1=>?_⟩
      walk_at "nw"
      refine ⟨kvG ps,Sum.inl (rP ls k),O.get 2,rfl,?_,fun v hv=>?_,fun hn=>?_⟩
      · unfold kvG
        exact aR (by rw [List.length_map];omega)
      · have O:=O.tail
        obtain ⟨j,pj,hj,ej,rfl⟩:=GR hv
        have hgj:(ps.map (·.2))[j]?=some pj.2:=by rw [List.getElem?_map,hj];rfl
        have lat:((lt,HO.lst (p.map fun (i:Nat)=>V.int (i:Int))) :: (dg,HO.dK (kvG ps)) :: EY ps)[j + 2]?=some (pj.1,.lst ((Tn.asI pj.2.2).map V.int)):=by
          rw [List.getElem?_cons_succ,List.getElem?_cons_succ];exact Bq hj
        have hgl:pj.2.2.length≤1000:=by
          have hs:pj.2.2.Sublist (p.take i):=by rw [← G.flat];exact Tn.nR (List.mem_map_of_mem (List.mem_of_getElem? hgj))
          have:=hs.length_le
          rw [List.length_take] at this;omega
        refine ⟨.inl ⟨rfl,_,SqL.of (O.get (j + 2) lat)⟩,_,rfl,pj.1,_,_,rfl,rfl,O.get (j + 2) lat,aR (by rw [List.length_map,Tn.dz];omega),?_⟩
        generalize hE:upd _ _ _=Hn
        have O:=Ow.vB O (j + 2) lat hE rfl
        clear hE
        refine ⟨trivial,_,ps.set j (pj.1,pj.2.1,pj.2.2++[k]),rfl,by rw [List.length_set];omega,?_,?_⟩
        · rw [show kvG (ps.set j (pj.1,pj.2.1,pj.2.2++[k]))=kvG ps from ni hj rfl]
          rw [List.set_cons_succ,List.set_cons_succ] at O
          unfold EY
          rw [List.map_set]
          unfold EY at O
          simp only [Tn.asI,List.map_append,List.map_cons,List.map_nil]
          exact O
        · rw [Tn.bM hk,List.map_set]
          exact G.more hgj ej hbe
      · rw [Ga _ hn]
        walk_at "pt"
        refine ⟨.inl ⟨rfl,_,O.sq 0⟩,_,rfl,l1,_,_,rfl,rfl,O.get 0,aR (by simp),?_⟩
        walk_at "pt"
        refine ⟨trivial,_,ps++[(l1,rP ls k,[k])],rfl,by rw [List.length_append];simp;omega,?_,?_⟩
        · unfold kvG EY
          rw [List.map_append,List.map_append]
          unfold kvG EY at O
          refine O.perm ?_
          have e:((lt,HO.lst (p.map fun (i:Nat)=>V.int (i:Int))) :: (dg,HO.dK (ps.map (fun p=>((Sum.inl p.2.1:Key),V.ref p.1))++[(l1,rP ls k,[k])].map (fun p:Pg=>((Sum.inl p.2.1:Key),V.ref p.1)))) :: (ps.map (fun p=>(p.1,HO.lst ((Tn.asI p.2.2).map V.int)))++[(l1,rP ls k,[k])].map (fun p:Pg=>(p.1,HO.lst ((Tn.asI p.2.2).map V.int)))))
            = ((lt,HO.lst (p.map fun (i:Nat)=>V.int (i:Int))) :: (dg,HO.dK (ps.map (fun p=>((Sum.inl p.2.1:Key),V.ref p.1))++[(Sum.inl (rP ls k),V.ref l1)])) :: ps.map (fun p=>(p.1,HO.lst ((Tn.asI p.2.2).map V.int))))++[(l1,HO.lst ([]++[V.int (k:Int)]))]:=rfl
          rw [e]
          exact List.perm_append_comm
        · rw [Tn.bM hk,List.map_append]
          exact G.new (fun g hg=>by
            obtain ⟨p',hp',rfl⟩:=List.mem_map.mp hg
            exact GX hn p' hp') hbe
    · rintro σ H3 ⟨-,v2,ps,rfl,hpl,O,G⟩
      rw [List.length_map,List.take_of_length_le (Nat.le_refl _)] at G
      refine ⟨_,rfl,dg,kvG ps,rfl,.inl (O.get 1),fun l hl=>?_⟩
      walk_at "nw"
      have e:(kvG ps).map (·.2)=ps.map fun p=>V.ref p.1:=by unfold kvG;rw [List.map_map];rfl
      rw [e] at O
      exact q l _ ps p (O.sub ((List.Sublist.cons _ (List.Sublist.cons _ (List.Sublist.refl _))).cons₂ _)) hp G
abbrev jL:Stmt:=top 41
theorem jk:aQ ["below","springs","roll","calls","free","wants","takes","group","ways","dealt","number","take"] ["below","springs","roll","calls"] (ao jL):=⟨rfl,rfl,rfl,by decide +kernel,rfl,by decide +kernel,by decide +kernel⟩
def uW (r:List Int) (ls:List Lic):Nat→List Int:=Tn.fW (ls.map fun l=>Rv.jq r l.start l.back)
theorem mF {r:List Int} {ls:List Lic} {k:Nat} {l:Lic} (h:ls[k]?=some l):uW r ls k=Rv.jq r l.start l.back:=by
  unfold uW Tn.fW;rw [List.getD_eq_getElem?_getD,List.getElem?_map,h];rfl
def ji (r:List Int) (l:Lic):Prop:=pU r l∧0≤l.most
theorem Ra {r:List Int} (hR:Rv.dB r) {ls:List Lic} (h:∀ l∈ls,ji r l) {k:Nat} (hk:k<ls.length):Tn.WOk r.length (uW r ls k):=by
  obtain ⟨h0,h1,_⟩:=(h _ (List.getElem_mem hk)).1
  rw [mF (List.getElem?_eq_getElem hk)]
  exact Rv.nM hR h0 h1
structure Ez (r s:List Int) (ls:List Lic) (cs xs:List Int):Prop where
  len:xs.length=ls.length
  fit:Tn.Fit ls.length (Tn.fF (Rv.nats r s)) (uW r ls) (Tn.fX (iD ls cs)) (Tn.fX xs)
  shown:Tn.pH ls.length (Tn.fF (Rv.nats r s)) (uW r ls) (rP ls) (Tn.fX (iD ls cs)) (Tn.fX xs)
theorem RQ {r s:List Int} (h:∀ x∈s,0≤x) (i:Int):0≤Rv.qt r s i:=by
  have key:∀ (n:Nat) (f:Nat→Int),(∀ j,j<n→0≤f j)→0≤Rv.tot n f:=by
    intro n f
    induction n with
    | zero=>intro _;exact Int.le_refl _
    | succ n ih =>
      intro hf
      have:=ih fun j hj=>hf j (by omega)
      have:=hf n (by omega)
      show 0≤Rv.tot n f + f n
      omega
  refine key _ _ fun j _=>?_
  by_cases hj:j<s.length
  · have:=h _ (Tn.lY hj)
    split
    · exact this
    · exact Int.le_refl _
  · rw [List.getD_eq_getElem?_getD,List.getElem?_eq_none (by omega)]
    split <;> exact Int.le_refl _
theorem RP {r s:List Int} (h:∀ x∈s,0≤x):∀ x∈Rv.nats r s,0≤x:=fun x hx=>by
  obtain ⟨i,_,rfl⟩:=List.mem_map.mp hx
  exact RQ h _
theorem pZ {ls:List Lic} {cs:List Int} (h:ls.length=cs.length):(iD ls cs).length=ls.length:=by
  unfold iD;rw [List.length_zipWith];omega
theorem zj {r:List Int} {ls:List Lic} {cs:List Int} (h:∀ l∈ls,ji r l) (hc:∀ c∈cs,0≤c):∀ x∈iD ls cs,0≤x:=fun x hx=>by
  obtain ⟨k,hk⟩:=List.getElem?_of_mem hx
  unfold iD at hk
  rw [List.getElem?_zipWith] at hk
  cases e1:ls[k]? with
  | none=>rw [e1] at hk;simp at hk
  | some l =>
    cases e2:cs[k]? with
    | none=>rw [e1,e2] at hk;simp at hk
    | some c =>
      rw [e1,e2] at hk
      have:=(h l (List.mem_of_getElem? e1)).2
      have:=hc c (List.mem_of_getElem? e2)
      have:x=min c l.most:=(Option.some.inj hk).symm
      omega
def vm (K:PySem.W.Frag) (T:gG):Sp:=fun vs H Q _=>∃ (a b c:Addr) (v:V) (r s:List Int) (ls:List Lic) (cs:List Int),vs=[.ref a,.ref b,v,.ref c]∧Ib K H a r∧SqL K H b (s.map V.int)∧s.length=r.length∧(∀ x∈s,0≤x)∧Den K H v (lA ls)∧ls.length<64∧SqL K H c (cs.map V.int)∧ls.length=cs.length∧(∀ l∈ls,ji r l)∧(∀ c∈cs,0≤c)∧TabsOk T H ∧
  lC T H (fun ys=>∃ xs,ys=xs.map V.int∧Ez r s ls cs xs) Q
theorem RG {f f1 f2 f3 f4 f5:Addr} {fd fd1 fd2 fd3 fd4 fd5:FuncData} (D:Df K mg "deal" jL ["below","springs","roll","calls"] f fd) (B:Blt mg)
    (aZ:Df K mg "natural_of" bV ["below","springs"] f1 fd1) (iy:bT P w K mg base CX0 6 f1 fd1 ["below","springs"] (wN K T))
    (cL:Df K mg "wants_of" dG ["roll","calls"] f2 fd2) (mY:bT P w K mg base CX0 2 f2 fd2 ["roll","calls"] (qR K T))
    (gO:Df K mg "groups_of" dR ["roll"] f3 fd3) (wj:bT P w K mg base CX0 6 f3 fd3 ["roll"] (tu K T))
    (aY:Df K mg "reaches_of" bU ["below","one"] f4 fd4) (iw:bT P w K mg base CX0 3 f4 fd4 ["below","one"] (j5 K))
    (fD:Df K mg "deal_turns" cQ ["free","ways","rests"] f5 fd5) (uQ:bT P w K mg base CX0 4 f5 fd5 ["free","ways","rests"] (Uq K T)) :
    bT P w K mg base CX0 7 f fd ["below","springs","roll","calls"] (vm K T):=by
  refine D.F.ok jk (fun vs H Q E h=>?_) (fun cdv A outer s H vs Q E hr h=>?_)
  · obtain ⟨_,_,_,_,_,_,_,_,rfl,_⟩:=h;rfl
  · obtain ⟨a,b,c,v,r,sp,ls,cs,rfl,⟨hA,hR,h64⟩,hB,hsl,hsn,hd,hl64,hC,hlc,ok,hcn,tk,q⟩:=h
    obtain ⟨va,vs,rfl,hV,d0⟩:=hd.gU
    have hvl:vs.length=ls.length:=by rw [d0.length,List.length_map]
    refine ⟨_,(aA (aO (i:=4) jk.nd rfl (Or.inl rfl) (aH iy (hr.mono (by decide)) rfl aZ.m aZ.F.kp aZ.b .nil bI (ak (pv 0) (ak (pv 1) au))))
      (aA (aO (i:=5) jk.nd rfl (Or.inr rfl) (aH mY (hr.mono (by decide)) rfl cL.m cL.F.kp cL.b .nil bI (ak (pv 2) (ak (pv 3) au))))
      (aA (aO (i:=6) jk.nd rfl (Or.inl rfl) (aL tX (eH (ak aq au)) (aG aV rfl B.len PySem.boot_len (ak (pv 2) au))))
      (aA (iZ PassesOwn.never rfl (cB (aH wj (hr.mono (by decide)) rfl gO.m gO.F.kp gO.b .nil bI (ak (pv 2) au))) (aK (i:=7) jk.nd rfl (Or.inl rfl))
        (aA (iR (i:=8) (ao jL) rfl ["below","springs","roll","calls","free","wants","takes","group","ways","dealt","number","take"] rfl ["number","below","roll"] [none,some 0,some 2] (by decide +kernel) (by decide +kernel) (by decide +kernel) rfl jk.nd rfl rfl (cB (pv 7)) (fun _ _ _=>(aK (i:=0) (show (["number","below","roll"]:List Str).Nodup by decide +kernel) rfl (Or.inl rfl))) (fun _ _ _=>gk) (fun _ _ _=>(aH iw (hr.mono (by decide)) rfl aY.m aY.F.kp aY.b .nil bI (ak (pv 1) (ak (aX (gB (K:=K) rfl) (pv 2) (pv 0) (fun _ _=>rfl)) au)))) rfl)
        (aA (oM (aH uQ (hr.mono (by decide)) rfl fD.m fD.F.kp fD.b .nil bI (ak (pv 4) (ak (pv 8) (ak (gK (ao jL) rfl ["below","springs","roll","calls","free","wants","takes","group","ways","dealt","number","take"] rfl ["number","wants"] [none,some 5] (by decide +kernel) (by decide +kernel) (by decide +kernel) rfl (cB (pv 7)) (fun _ _ _=>(aK (i:=0) (show (["number","wants"]:List Str).Nodup by decide +kernel) rfl (Or.inl rfl))) (fun _ _ _=>gk) (fun _ _ _=>(aX (gB (K:=K) rfl) (pv 1) (pv 0) (fun _ _=>rfl)))) au)))) (nq rfl (bh (aK (i:=9) jk.nd rfl (Or.inl rfl)) (bh (aK (i:=4) jk.nd rfl (Or.inl rfl)) iC))))
        (aD (iZ PassesOwn.never rfl (tV rfl B.zip (ak (pv 7) (ak (pv 9) au))) (nq rfl (bh (aK (i:=10) jk.nd rfl (Or.inl rfl)) (bh (aK (i:=11) jk.nd rfl (Or.inl rfl)) iC)))
          (aD (oM (pv 11) (Al (pv 6) (pv 10) set_list))))))))
      (aD (bx (pv 6))))))),?_⟩
    refine Zv ?_
    intro zu0 zu1 zu2 zu3 zu4 zu5 zu6 zu7
    have O:=Ow.refl tk
    refine ⟨_,rfl,_,rfl,a,b,r,sp,rfl,⟨hA,hR,h64⟩,hB,hsl,tk,O.ur fun lf H1 ys O e=>?_⟩
    subst e
    refine ⟨_,rfl,_,rfl,.ref va,c,ls,cs,rfl,hd.mR O.same,O.same.seq hC,hlc,by omega,O.same.t1,O.ur fun lw H2 ys O e=>?_⟩
    subst e
    have hnl:(Rv.nats r sp).length=r.length:=(Rv.oV r sp).len
    have hnn:=RP (r:=r) hsn
    have hwl:=pZ hlc
    have hwn:=zj ok hcn
    have hW:=fun k (hk:k<ls.length)=>Ra hR ok hk
    have hwk:∀ k,k<ls.length→0≤Tn.fX (iD ls cs) k:=fun k hk=>hwn _ (Tn.lY (by omega))
    generalize hwa:iD ls cs=wa at O hwl hwn hwk
    refine ⟨szl,fun l1 h1=>?_⟩
    walk_at "nw"
    refine ⟨_,rfl,va,_,rfl,.inl (O.same.seq hV),l1,_,_,rfl,rfl,O.get 0,by omega,by omega,fU (by rw [Int.toNat_natCast];simp;omega),fun lt hlt=>?_⟩
    walk_at "nw"
    rw [Int.toNat_natCast,jM,hvl] at O
    have O:=O.two
    refine ⟨_,rfl,.ref va,ls,rfl,hd.mR O.same,hl64,O.same.t1,fun lg H3 ps p OG R G=>?_⟩
    have nin:∀ q∈((lg,HO.lst (ps.map fun p=>V.ref p.1)) :: EY ps),∀ z∈[(lt,HO.lst ((List.replicate ls.length 0).map V.int)),(lw,.lst (wa.map V.int)),(lf,.lst ((Rv.nats r sp).map V.int))],z.1≠q.1:=fun q hq z hz e=>by
      have h1:=OG.new q hq
      have h2:=O.at_ z hz
      rw [e,h1] at h2;cases h2
    obtain ⟨Hb,O,sb,kb⟩:=(O.pQ OG.same).reb
    have hG:SqL K Hb lg (ps.map fun p=>V.ref p.1):=SqL.of (kb lg _ (OG.get 0) (nin _ List.mem_cons_self))
    have hP:∀ (j:Nat) (pj:Pg),ps[j]?=some pj→SqL K Hb pj.1 ((Tn.asI pj.2.2).map V.int):=fun j pj hj=>by
      have:=Bq hj
      have hm:=List.mem_of_getElem? this
      exact SqL.of (kb _ _ (OG.at_ _ (List.mem_cons_of_mem _ hm)) (nin _ (List.mem_cons_of_mem _ hm)))
    clear nin kb OG
    have hA:=sb.seq hA
    have hV:=sb.seq hV
    have d0:=d0.mo sb
    refine ⟨lg,rfl,⟨_,O.same.seq hG⟩,?_⟩
    refine gD (K:=K) (xs:=ps.map fun p=>V.ref p.1) (fun j σ H'=>Iv (∃ (lf:Addr) (v7 v8 v9 v10 v11:Option V) (xs fl:List Int),σ=[some (.ref a),some (.ref b),some (.ref va),some (.ref c),some (.ref lf),some (.ref lw),some (.ref lt),v7,v8,v9,v10,v11] ∧
      Ow T Hb H' [(lt,.lst (xs.map V.int)),(lw,.lst (wa.map V.int)),(lf,.lst (fl.map V.int))]∧Tn.yX ls.length (Rv.nats r sp) (uW r ls) (rP ls) (Tn.fX wa) (ps.map (·.2)) j xs fl))
      ⟨trivial,lf,none,none,none,none,none,_,_,rfl,O,Tn.yX.start _ hwk hnn⟩ (fun i σ H' _ ⟨_,_,_,_,_,_,_,_,_,_,O,_⟩=>O.same.seq hG) ?_ ?_
    · rintro j y σ H4 hy ⟨-,lf,v7,v8,v9,v10,v11,xs,fl,rfl,O,GI⟩
      rw [List.getElem?_map] at hy
      obtain ⟨pj,hj,rfl⟩:∃ pj,ps[j]?=some pj∧y=V.ref pj.1:=by
        cases e:ps[j]? with
        | none=>rw [e] at hy;cases hy
        | some j=>rw [e] at hy;exact ⟨j,rfl,(Option.some.inj hy).symm⟩
      have hgj:(ps.map (·.2))[j]?=some pj.2:=by rw [List.getElem?_map,hj];rfl
      have hPj:=hP j pj hj
      have up:=G.up R (List.mem_of_getElem? hgj)
      have nd:=Tn.eX up
      have hlt:∀ k∈pj.2.2,k<ls.length:=fun k hk=>R.lt (by rw [← G.flat];exact List.mem_flatten.mpr ⟨pj.2.2,List.mem_map_of_mem (List.mem_of_getElem? hgj),hk⟩)
      have hgl:pj.2.2.length≤ls.length:=by
        have hs:pj.2.2.Sublist p:=by rw [← G.flat];exact Tn.nR (List.mem_map_of_mem (List.mem_of_getElem? hgj))
        have:=hs.length_le
        rw [R.len] at this;exact this
      have hfl:=GI.fll
      have hxl:=GI.xl
      have hfn:=GI.nn hnn
      /- ways -/
      refine ⟨_,rfl,pj.1,rfl,⟨_,O.same.seq hPj⟩,fun acc hacc=>?_⟩
      refine dY (K:=K) (xs:=(Tn.asI pj.2.2).map V.int) (fun i τ H'=>Iv (∃ (v0:Option V) (Hc:Hp) (us:List V),τ=[v0,some (.ref a),some (.ref va)]∧Ow T Hc H' [(acc,.lst us),(lt,.lst (xs.map V.int)),(lw,.lst (wa.map V.int)),(lf,.lst (fl.map V.int))]∧bf T Hb Hc∧dN K Hc us ((pj.2.2.take i).map fun k=>jU (uW r ls k))))
        ⟨trivial,none,Hb,[],rfl,O.mk' hacc rfl,bf.refl O.same.t0,.nil⟩ (fun i τ H' _ ⟨_,_,_,_,_,O,sc,_⟩=>(sc.trans O.same).seq hPj) ?_ ?_
      · rintro i y τ H5 hy ⟨-,v0,Hc,us,rfl,O,sc,d1⟩
        obtain ⟨z,hz,rfl⟩:=ints_get hy
        obtain ⟨k,hk,rfl⟩:=Tn.je hz
        have hi:=(List.getElem?_eq_some_iff.mp hk).1
        have hkl:=hlt k (List.mem_of_getElem? hk)
        obtain ⟨al,hal,hTl⟩:=d0.Bp (List.getElem?_eq_getElem hkl)
        refine yU ?_
        refine ⟨_,rfl,_,rfl,_,rfl,va,_,(k:Int),_,rfl,rfl,(sc.trans O.same).seq hV,jB hal,a,al,r,_,rfl,(sc.trans O.same).seq hA,hR,by omega,hTl.mo (sc.trans O.same),(ok _ (List.getElem_mem hkl)).1,O.got fun lx H6 ys O e=>?_⟩
        subst e
        refine ⟨_,O.get 1,aR (by rw [d1.length,List.length_map,List.length_take];omega),?_⟩
        walk_at "pt"
        obtain ⟨Hn2,O,sn,en2⟩:=O.frz
        refine ⟨trivial,_,Hn2,us++[.ref lx],rfl,O,sc.trans sn,?_⟩
        rw [Tn.gA hk]
        refine (d1.mo sn).append (.cons ?_ .nil)
        rw [mF (List.getElem?_eq_getElem hkl)]
        exact Den.ints (SqL.of en2)
      rintro τ H5 ⟨-,v0,Hc,us,rfl,O,sc,d1⟩
      rw [List.length_map,Tn.dz,List.take_of_length_le (Nat.le_refl _)] at d1
      /- rests -/
      refine ⟨_,rfl,_,rfl,_,rfl,pj.1,rfl,⟨_,(sc.trans O.same).seq hPj⟩,fun ac2 hac2=>?_⟩
      refine dY (K:=K) (xs:=(Tn.asI pj.2.2).map V.int) (fun i τ H'=>Iv (∃ (v0:Option V),τ=[v0,some (.ref lw)]∧Ow T Hc H' [(ac2,.lst (((pj.2.2.take i).map (Tn.fX wa)).map V.int)),(acc,.lst us),(lt,.lst (xs.map V.int)),(lw,.lst (wa.map V.int)),(lf,.lst (fl.map V.int))]))
        ⟨trivial,none,rfl,O.mk' hac2 rfl⟩ (fun i τ H' _ ⟨_,_,_,O⟩=>(sc.trans O.same).seq hPj) ?_ ?_
      · rintro i y τ H6 hy ⟨-,v0,rfl,O⟩
        obtain ⟨z,hz,rfl⟩:=ints_get hy
        obtain ⟨k,hk,rfl⟩:=Tn.je hz
        have hi:=(List.getElem?_eq_some_iff.mp hk).1
        have hkl:=hlt k (List.mem_of_getElem? hk)
        refine yU ?_
        refine ⟨_,rfl,_,rfl,lw,_,(k:Int),_,rfl,rfl,O.sq 3,eO (bN (ns:=wa) (k:=k) (by omega)),?_⟩
        refine ⟨_,O.get 0,aR (by rw [List.length_map,List.length_map,List.length_take];omega),?_⟩
        walk_at "pt"
        refine ⟨trivial,_,rfl,?_⟩
        rw [Tn.gA hk,List.map_append];exact O
      rintro τ H6 ⟨-,v0,rfl,O⟩
      rw [List.length_map,Tn.dz,List.take_of_length_le (Nat.le_refl _)] at O
      have dws:dN K Hc us ((pj.2.2.map (uW r ls)).map jU):=by rw [List.map_map];exact d1
      refine ⟨lf,ac2,.ref acc,fl,pj.2.2.map (Tn.fX wa),pj.2.2.map (uW r ls),rfl,O.sq 4,.list (O.sq 1) (dws.mo O.same),O.sq 0,by rw [List.length_map,List.length_map],by omega,by rw [List.length_map];omega,fun w hw=>?_,hfn,fun x hx=>?_,O.same.t1,fun l lt2 ll ys left t H7 OD L=>?_⟩
      · obtain ⟨k,hk,rfl⟩:=List.mem_map.mp hw
        rw [hfl,hnl]
        exact hW k (hlt k hk)
      · obtain ⟨k,hk,rfl⟩:=List.mem_map.mp hx
        exact hwk k (hlt k hk)
      have O:=O.join OD
      walk_at "jn"
      refine ⟨l,_,rfl,O.sqT 0,rfl,_,_,rfl,_,_,rfl,rfl,?_⟩
      have O:=((((O.del 0).del 2).del 2).del 4)
      walk_at "er"
      have hyl:ys.length=pj.2.2.length:=by rw [L.xl,List.length_map]
      refine ⟨_,rfl,_,rfl,pj.1,lt2,_,_,rfl,(sc.trans O.same).seq hPj,O.sq 0,?_⟩
      refine Du (K:=K) (fun i σ H'=>Iv (∃ (v10 v11:Option V) (cur:List Int),σ=[some (.ref a),some (.ref b),some (.ref va),some (.ref c),some (.ref ll),some (.ref lw),some (.ref lt),some (.ref pj.1),some (.ref acc),some (.ref lt2),v10,v11]∧cur.length=ls.length∧(∀ k,Tn.fX cur k=Tn.over (Tn.fX xs) (pj.2.2.take i) (Tn.fX ys) k) ∧
        Ow T Hc H' [(lt2,.lst (ys.map V.int)),(ll,.lst (left.map V.int)),(lt,.lst (cur.map V.int)),(lw,.lst (wa.map V.int))])) (by rw [List.length_map,List.length_map,Tn.dz];omega)
        ⟨trivial,_,_,xs,rfl,hxl,fun k=>by rw [List.take_zero,Tn.jz (by simp)],O⟩ (fun i σ H' _ ⟨_,_,_,_,_,_,_,O⟩=>⟨(sc.trans O.same).seq hPj,O.sq 0⟩) ?_ ?_
      · rintro i x y t' σ H8 hx hy ⟨-,v10,v11,cur,rfl,hcl,hov,O⟩ ht
        obtain ⟨z,hz,rfl⟩:=ints_get hx
        obtain ⟨k,hk,rfl⟩:=Tn.je hz
        obtain ⟨u,hu,rfl⟩:=ints_get hy
        have hkl:=hlt k (List.mem_of_getElem? hk)
        walk_at "nw"
        refine ⟨t',_,rfl,O.sqT 0,rfl,_,_,rfl,_,_,rfl,rfl,?_⟩
        refine ⟨_,rfl,_,rfl,_,rfl,lt,_,_,k,rfl,rfl,O.get 3,jP (by rw [List.length_map];omega),?_⟩
        walk_at "pt"
        have O:=O.tail
        refine ⟨trivial,_,_,cur.set k u,rfl,by rw [List.length_set];exact hcl,fun m=>?_,by rw [List.map_set];exact O⟩
        rw [Tn.Ar nd hk m,← hov m]
        unfold Tn.fX
        rw [Tn.rJ (by omega)]
        by_cases hm:m=k
        · rw [if_pos hm,if_pos hm,List.getD_eq_getElem?_getD,hu];rfl
        · rw [if_neg hm,if_neg hm]
      · rintro σ H8 ⟨-,v10,v11,cur,rfl,hcl,hov,O⟩
        rw [List.length_map,Tn.dz,List.take_of_length_le (Nat.le_refl _)] at hov
        have O:=(O.base sc).tail
        have O:=O.pull 2
        walk_at "er"
        have O:=O.pull 2
        walk_at "er"
        refine ⟨trivial,ll,_,_,_,_,_,cur,left,rfl,O,?_⟩
        exact GI.step G R hgj (by rw [hnl];exact hW) L hcl hov
    · rintro σ H4 ⟨-,lf,v7,v8,v9,v10,v11,xs,fl,rfl,O,GI⟩
      rw [List.length_map] at GI
      have GI:Tn.yX ls.length (Rv.nats r sp) (uW r ls) (rP ls) (Tn.fX wa) (ps.map (·.2)) (ps.map (·.2)).length xs fl:=by rw [List.length_map];exact GI
      obtain ⟨F1,F2⟩:=GI.finish G R
      rw [← hwa] at F1 F2
      exact ⟨_,rfl,(O.base sb).ret 0 rfl q ⟨xs,rfl,GI.xl,F1,F2⟩⟩
abbrev eZ:Stmt:=top 43
theorem iV:aQ ["below","roll","takes","holds","one","take","reach"] ["below","roll","takes"] (ao eZ):=⟨rfl,rfl,rfl,by decide +kernel,rfl,by decide +kernel,by decide +kernel⟩
def lX (r:List Int) (ls:List Lic) (xs:List Int):List Int:=Tn.bumps (List.replicate r.length 0) ((ls.zip xs).map fun p=>(Rv.jq r p.1.start p.1.back,p.2))
def wQ (K:PySem.W.Frag) (T:gG):Sp:=fun vs H Q _=>∃ (a b:Addr) (v:V) (r:List Int) (ls:List Lic) (xs:List Int),vs=[.ref a,v,.ref b]∧SqL K H a (r.map V.int)∧Rv.dB r∧r.length≤900∧Den K H v (lA ls)∧SqL K H b (xs.map V.int)∧ls.length=xs.length∧(∀ l∈ls,pU r l)∧TabsOk T H ∧
  lC T H (fun ys=>ys=(lX r ls xs).map V.int) Q
theorem Fo {ls:List Lic} {xs:List Int} {i:Nat} {l:Lic} {x:Int} (hl:ls[i]?=some l) (hx:xs[i]?=some x):(ls.take (i + 1)).zip (xs.take (i + 1))=(ls.take i).zip (xs.take i)++[(l,x)]:=by
  have h1:=(List.getElem?_eq_some_iff.mp hl).1
  have h2:=(List.getElem?_eq_some_iff.mp hx).1
  rw [Tn.bM hl,Tn.bM hx,List.zip_append (by rw [List.length_take,List.length_take];omega)];rfl
theorem yL {r:List Int} {ls:List Lic} {xs:List Int} {i:Nat} {l:Lic} {x:Int} (hl:ls[i]?=some l) (hx:xs[i]?=some x):lX r (ls.take (i + 1)) (xs.take (i + 1))=Tn.bump (lX r (ls.take i) (xs.take i)) (Rv.jq r l.start l.back) x:=by
  unfold lX
  rw [Fo hl hx,List.map_append];exact Tn.mX _ _ _
theorem lW (r:List Int) (ls:List Lic) (xs:List Int):(lX r ls xs).length=r.length:=by unfold lX;rw [Tn.jf,List.length_replicate]
theorem Gq {f f1:Addr} {fd fd1:FuncData} (D:Df K mg "holds_of" eZ ["below","roll","takes"] f fd) (B:Blt mg) (aY:Df K mg "reaches_of" bU ["below","one"] f1 fd1) (iw:bT P w K mg base CX0 3 f1 fd1 ["below","one"] (j5 K)) :
    bT P w K mg base CX0 4 f fd ["below","roll","takes"] (wQ K T):=by
  refine D.F.ok iV (fun vs H Q E h=>?_) (fun cdv A outer s H vs Q E hr h=>?_)
  · obtain ⟨_,_,_,_,_,_,rfl,_⟩:=h;rfl
  · obtain ⟨a,b,v,r,ls,xs,rfl,hA,hR,hn,hd,hB,hlx,ok,tk,q⟩:=h
    obtain ⟨va,vs,rfl,hV,hds⟩:=hd.gU
    have hvl:vs.length=ls.length:=by rw [hds.length,List.length_map]
    refine ⟨_,(aA (aO (i:=3) iV.nd rfl (Or.inl rfl) (aL tX (eH (ak aq au)) (aG aV rfl B.len PySem.boot_len (ak (pv 0) au))))
      (aA (iZ PassesOwn.never rfl (tV rfl B.zip (ak (pv 1) (ak (pv 2) au))) (nq rfl (bh (aK (i:=4) iV.nd rfl (Or.inl rfl)) (bh (aK (i:=5) iV.nd rfl (Or.inl rfl)) iC)))
        (aD (iZ PassesOwn.never rfl (cB (aH iw (hr.mono (by decide)) rfl aY.m aY.F.kp aY.b .nil bI (ak (pv 0) (ak (pv 4) au)))) (aK (i:=6) iV.nd rfl (Or.inl rfl))
          (aD (mK (pv 3) (pv 6) j8 (pv 5) um set_list)))))
      (aD (bx (pv 3))))),?_⟩
    refine aah ?_
    intro zu0 zu1 zu2 zu3
    have O:=Ow.refl tk
    refine ⟨szl,fun l1 h1=>?_⟩
    walk_at "nw"
    refine ⟨_,rfl,a,_,rfl,.inl (O.same.seq hA),l1,_,_,rfl,rfl,O.get 0,by rw [List.length_map];omega,by rw [List.length_map];omega,fU (by rw [List.length_map,Int.toNat_natCast];simp;omega),fun lh hlh=>?_⟩
    walk_at "nw"
    rw [List.length_map,Int.toNat_natCast,jM] at O
    have O:=O.two
    refine ⟨_,rfl,_,rfl,va,b,_,_,rfl,O.same.seq hV,O.same.seq hB,?_⟩
    refine Du (K:=K) (fun i σ H'=>Iv (∃ v4 v5 v6:Option V,σ=[some (.ref a),some (.ref va),some (.ref b),some (.ref lh),v4,v5,v6]∧Ow T H H' [(lh,.lst ((lX r (ls.take i) (xs.take i)).map V.int))])) (by rw [List.length_map];omega)
      ⟨trivial,none,none,none,rfl,O⟩ (fun i σ H' _ ⟨_,_,_,_,_,O⟩=>⟨O.same.seq hV,O.same.seq hB⟩) ?_ ?_
    · rintro i x y t σ H2 hx hy ⟨-,v4,v5,v6,rfl,O⟩ ht
      obtain ⟨z,hz,rfl⟩:=ints_get hy
      obtain ⟨al,l,rfl,hl,hT⟩:=hds.mV hx
      have okl:=ok l (List.mem_of_getElem? hl)
      have wok:=Rv.nM hR (b:=l.back) okl.1 okl.2.1
      have hnext:=yL (r:=r) hl hz
      have hcl:=lW r (ls.take i) (xs.take i)
      generalize lX r (ls.take i) (xs.take i)=cur at O hnext hcl
      walk_at "nw"
      refine ⟨t,_,rfl,O.sqT 0,rfl,_,_,rfl,_,_,rfl,rfl,?_⟩
      refine ⟨_,rfl,_,rfl,a,al,r,l,rfl,O.same.seq hA,hR,hn,hT.mo O.same,okl,O.got fun lw H3 ws O e=>?_⟩
      subst e
      have O:=O.two
      generalize Rv.jq r l.start l.back=w at O wok hnext
      refine ⟨lw,rfl,⟨_,O.sq 0⟩,?_⟩
      refine gD (K:=K) (xs:=w.map V.int) (fun j σ H'=>Iv (∃ v6:Option V,σ=[some (.ref a),some (.ref va),some (.ref b),some (.ref lh),some (.ref al),some (.int z),v6]∧Ow T H H' [(lw,.lst (w.map V.int)),(lh,.lst ((Tn.bump cur (w.take j) z).map V.int))]))
        ⟨trivial,v6,rfl,O⟩ (fun i σ H' _ ⟨_,_,_,O⟩=>O.sq 0) ?_ ?_
      · rintro j y σ H4 hy ⟨-,v6,rfl,O⟩
        obtain ⟨u,hu,rfl⟩:=ints_get hy
        obtain ⟨u0,u1⟩:=wok.2 u (List.mem_of_getElem? hu)
        obtain ⟨un,rfl⟩:=Int.eq_ofNat_of_zero_le u0
        have hbl:(Tn.bump cur (w.take j) z).length=r.length:=by rw [Tn.gW,hcl]
        refine ⟨_,rfl,_,rfl,lh,_,un,_,rfl,rfl,O.sq 1,by rw [List.getElem?_map,bN (by omega)];rfl,?_⟩
        refine ⟨_,rfl,_,_,rfl,rfl,lh,_,_,un,rfl,rfl,O.get 1,jP (by rw [List.length_map];omega),?_⟩
        walk_at "pt"
        refine ⟨trivial,_,rfl,?_⟩
        rw [mj hu,Int.toNat_natCast,List.map_set];exact O
      · rintro σ H4 ⟨-,v6,rfl,O⟩
        rw [List.length_map,List.take_of_length_le (Nat.le_refl _)] at O
        refine ⟨trivial,_,_,_,rfl,?_⟩
        rw [hnext];exact O.tail
    rintro σ H2 ⟨-,v4,v5,v6,rfl,O⟩
    refine ⟨_,rfl,O.ret 0 rfl q ?_⟩
    rw [hvl,List.take_of_length_le (Nat.le_refl _),List.take_of_length_le (by omega)]
abbrev gb:Stmt:=top 44
theorem qg:aQ ["below","springs","roll","takes","natural"] ["below","springs","roll","takes"] (ao gb):=⟨rfl,rfl,rfl,by decide +kernel,rfl,by decide +kernel,by decide +kernel⟩
def pP (r s:List Int) (ls:List Lic) (xs:List Int):List Int:=List.zipWith (fun x y=>x - y) (Rv.nats r s) (lX r ls xs)
def Gy (ls:List Lic) (xs:List Int):List Rv.Mv:=(ls.zip xs).map fun p=>(p.1.start,p.1.back,p.2)
theorem Gw {ls:List Lic} {xs:List Int} (h:ls.length=xs.length):(Gy ls xs).length=ls.length:=by
  unfold Gy;rw [List.length_map,List.length_zip];omega
theorem Gx {ls:List Lic} {xs:List Int} {i:Nat} {l:Lic} {x:Int} (hl:ls[i]?=some l) (hx:xs[i]?=some x):(Gy ls xs)[i]?=some (l.start,l.back,x):=by
  unfold Gy
  have e:(ls.zip xs)[i]?=some (l,x):=List.getElem?_zip_eq_some.mpr ⟨hl,hx⟩
  rw [List.getElem?_map,e];rfl
theorem rE (r s:List Int):(Rv.nats r s).length=r.length:=(Rv.oV r s).len
theorem uw (r s:List Int) (ls:List Lic) (xs:List Int):(pP r s ls xs).length=r.length:=by
  unfold pP;rw [List.length_zipWith,rE,lW,Nat.min_self]
theorem R5 {r:List Int} {ls:List Lic} {xs:List Int} (hR:Rv.dB r) (h:∀ l∈ls,pU r l) (i:Nat):(lX r ls xs).getD i 0=Rv.RT r (Gy ls xs) (i:Int):=by
  unfold lX Gy Rv.RT
  rw [Tn.jV (fun p hp=>?_) i,List.map_map,List.map_map]
  · have:(List.replicate r.length (0:Int)).getD i 0=0:=by
      rw [List.getD_eq_getElem?_getD,List.getElem?_replicate];split <;> rfl
    rw [this,Int.zero_add];rfl
  · obtain ⟨q,hq,rfl⟩:=List.mem_map.mp hp
    obtain ⟨h0,h1,_⟩:=h _ (List.of_mem_zip hq).1
    rw [List.length_replicate]
    exact Rv.nM hR h0 h1
theorem Hh {r:List Int} (s:List Int) {ls:List Lic} {xs:List Int} (hR:Rv.dB r) (h:∀ l∈ls,pU r l):pP r s ls xs=Rv.aav r s (Gy ls xs):=by
  refine Rv.Fl.ext (n:=r.length) (g:=fun i=>Rv.qt r s (i:Int) - Rv.RT r (Gy ls xs) (i:Int)) ⟨uw ..,fun i hi=>?_⟩ (Rv.Dy r s _)
  unfold pP
  rw [List.getElem?_zipWith,(Rv.oV r s).at_ i hi,bN (ns:=lX r ls xs) (by rw [lW];exact hi),R5 hR h]
def zQ (K:PySem.W.Frag) (T:gG):Sp:=fun vs H Q _=>∃ (a b c:Addr) (v:V) (r s:List Int) (ls:List Lic) (xs:List Int),vs=[.ref a,.ref b,v,.ref c]∧Ib K H a r∧SqL K H b (s.map V.int)∧s.length=r.length∧Den K H v (lA ls)∧SqL K H c (xs.map V.int)∧ls.length=xs.length∧(∀ l∈ls,pU r l)∧TabsOk T H ∧
  lC T H (fun ys=>ys=(pP r s ls xs).map V.int) Q
theorem yN {ys zs:List Int} {i:Nat} {a b:Int} (ha:ys[i]?=some a) (hb:zs[i]?=some b):List.zipWith (fun x y=>x - y) (ys.take (i + 1)) (zs.take (i + 1))=List.zipWith (fun x y:Int=>x - y) (ys.take i) (zs.take i)++[a - b]:=by
  have h1:=(List.getElem?_eq_some_iff.mp ha).1
  have h2:=(List.getElem?_eq_some_iff.mp hb).1
  rw [Tn.bM ha,Tn.bM hb,List.zipWith_append (by rw [List.length_take,List.length_take];omega)];rfl
theorem Rz {f f1 f2:Addr} {fd fd1 fd2:FuncData} (D:Df K mg "free_of" gb ["below","springs","roll","takes"] f fd) (B:Blt mg)
    (aZ:Df K mg "natural_of" bV ["below","springs"] f1 fd1) (iy:bT P w K mg base CX0 6 f1 fd1 ["below","springs"] (wN K T))
    (iT:Df K mg "holds_of" eZ ["below","roll","takes"] f2 fd2) (yR:bT P w K mg base CX0 4 f2 fd2 ["below","roll","takes"] (wQ K T)) :
    bT P w K mg base CX0 7 f fd ["below","springs","roll","takes"] (zQ K T):=by
  refine D.F.ok qg (fun vs H Q E h=>?_) (fun cdv A outer s H vs Q E hr h=>?_)
  · obtain ⟨_,_,_,_,_,_,_,_,rfl,_⟩:=h;rfl
  · obtain ⟨a,b,c,v,r,sp,ls,xs,rfl,⟨hA,hR,h64⟩,hB,hsl,hd,hC,hlx,ok,tk,q⟩:=h
    refine ⟨_,(aA (aO (i:=4) qg.nd rfl (Or.inl rfl) (aH iy (hr.mono (by decide)) rfl aZ.m aZ.F.kp aZ.b .nil bI (ak (pv 0) (ak (pv 1) au))))
      (aD (bx (gK (ao gb) rfl ["below","springs","roll","takes","natural"] rfl ["flow","held"] [none,none] (by decide +kernel) (by decide +kernel) (by decide +kernel) rfl (tV rfl B.zip (ak (pv 4) (ak (aH yR (hr.mono (by decide)) rfl iT.m iT.F.kp iT.b .nil bI (ak (pv 0) (ak (pv 2) (ak (pv 3) au)))) au))) (fun _ _ _=>(oO (K:=K) (n:=2) rfl rfl (bh (aK (i:=0) (show (["flow","held"]:List Str).Nodup by decide +kernel) rfl (Or.inl rfl)) (bh (aK (i:=1) (show (["flow","held"]:List Str).Nodup by decide +kernel) rfl (Or.inl rfl)) iC)))) (fun _ _ _=>gk) (fun _ _ _=>(aL qj (pv 0) (pv 1))))))),?_⟩
    refine aai ?_
    intro zu0
    have O:=Ow.refl tk
    refine ⟨_,rfl,_,rfl,a,b,r,sp,rfl,⟨hA,hR,h64⟩,hB,hsl,tk,O.ur fun ln H1 ys O e=>?_⟩
    subst e
    refine ⟨_,rfl,_,rfl,_,rfl,_,rfl,a,c,v,r,ls,xs,rfl,O.same.seq hA,hR,by omega,hd.mR O.same,O.same.seq hC,hlx,ok,O.same.t1,O.ur fun lh H2 zs O e=>?_⟩
    subst e
    refine ⟨ln,lh,_,_,rfl,O.sq 1,O.sq 0,fun acc hacc=>?_⟩
    have hnl:=rE r sp
    have hhl:=lW r ls xs
    refine rQ (K:=K) (fun i τ H'=>Iv (∃ (v0 v1:Option V),τ=[v0,v1]∧Ow T H H' [(acc,.lst ((List.zipWith (fun x y:Int=>x - y) ((Rv.nats r sp).take i) ((lX r ls xs).take i)).map V.int)),(lh,.lst ((lX r ls xs).map V.int)),(ln,.lst ((Rv.nats r sp).map V.int))])) (by rw [List.length_map,List.length_map];omega)
      ⟨trivial,none,none,rfl,O.mk' hacc rfl⟩ (fun i τ H' _ ⟨_,_,_,_,O⟩=>⟨O.sq 2,O.sq 1⟩) ?_ ?_
    · rintro i x y t τ H' hx hy ⟨-,v0,v1,rfl,O⟩ ht
      obtain ⟨z,hz,rfl⟩:=ints_get hy
      obtain ⟨u,hu,rfl⟩:=ints_get hx
      have hi:=(List.getElem?_eq_some_iff.mp hz).1
      walk_at "nw"
      refine ⟨t,_,rfl,O.sqT 0,rfl,_,_,rfl,_,_,rfl,rfl,?_⟩
      refine YX ?_
      refine ⟨_,rfl,_,rfl,_,_,rfl,rfl,?_⟩
      refine ⟨_,O.get 1,aR (by rw [List.length_map,List.length_zipWith,List.length_take];omega),?_⟩
      walk_at "pt"
      refine ⟨trivial,_,_,rfl,?_⟩
      rw [yN hu hz,List.map_append]
      exact O.tail
    · rintro τ H' ⟨-,v0,v1,rfl,O⟩
      refine O.ret 0 rfl q ?_
      rw [List.length_map,List.take_of_length_le (Nat.le_refl _),List.take_of_length_le (by omega)];rfl
theorem pF (g:List Nat) (k:Nat):(Tn.asI (g++[k])).map V.int=(Tn.asI g).map V.int++[V.int (k:Int)]:=by
  unfold Tn.asI;rw [List.map_append,List.map_append];rfl
theorem Bd {r:List Int} {ls:List Lic} {xs:List Int} (h:ls.length=xs.length) (i:Int):Rv.RT r (Gy ls xs) i=Tn.hold ls.length (uW r ls) (Tn.fX xs) i:=by
  unfold Rv.RT Tn.hold
  rw [← Rv.zA,Rv.qN,List.length_map,Gw h]
  refine Tn.bw fun k hk=>?_
  have e:=List.getElem?_eq_getElem hk
  rw [List.getD_eq_getElem?_getD,List.getElem?_map,Gx e (bN (ns:=xs) (by omega)),mF e];rfl
theorem xJ {r s:List Int} {ls:List Lic} {xs:List Int} (hR:Rv.dB r) (ok:∀ l∈ls,pU r l) (h:ls.length=xs.length) {i:Nat} (hi:i<r.length):(pP r s ls xs).getD i 0=Tn.fF (Rv.nats r s) (i:Int) - Tn.hold ls.length (uW r ls) (Tn.fX xs) (i:Int):=by
  rw [Hh s hR ok,(Rv.Dy r s _).getD hi,Bd h,Rv.Dz (by omega) (by omega)]
def m5 (fl:List Int) (n:Nat):List Nat:=(List.range n).filter fun i=>decide (fl.getD i 0=0)
theorem nU (fl:List Int) (n:Nat):m5 fl (n + 1)=m5 fl n++(if fl.getD n 0=0 then [n] else []):=by
  unfold m5;rw [List.range_succ,List.filter_append]
  congr 1
  by_cases h:fl.getD n 0=0
  · rw [if_pos h,List.filter_cons,List.filter_nil,if_pos (decide_eq_true h)]
  · rw [if_neg h,List.filter_cons,List.filter_nil,if_neg (by rw [decide_eq_true_iff];exact h)]
theorem pY (fl:List Int) (n:Nat):(m5 fl n).length≤n:=by
  unfold m5;refine Nat.le_trans (List.length_filter_le _ _) (by rw [List.length_range];exact Nat.le_refl _)
abbrev iM:Stmt:=top 46
theorem zZ:aQ ["below","springs","roll","takes"] ["below","springs","roll","takes"] (ao iM):=⟨rfl,rfl,rfl,by decide +kernel,rfl,by decide +kernel,by decide +kernel⟩
def HX (K:PySem.W.Frag) (T:gG):Sp:=fun vs H Q _=>∃ (a b c:Addr) (v:V) (r s:List Int) (ls:List Lic) (xs:List Int),vs=[.ref a,.ref b,v,.ref c]∧Ib K H a r∧SqL K H b (s.map V.int)∧s.length=r.length∧Den K H v (lA ls)∧SqL K H c (xs.map V.int)∧ls.length=xs.length∧(∀ l∈ls,pU r l)∧TabsOk T H ∧
  lC T H (fun ys=>ys=(Tn.asI (m5 (pP r s ls xs) r.length)).map V.int) Q
theorem U4 {f f1:Addr} {fd fd1:FuncData} (D:Df K mg "dry_of" iM ["below","springs","roll","takes"] f fd) (B:Blt mg)
    (ju:Df K mg "free_of" gb ["below","springs","roll","takes"] f1 fd1) (Eu:bT P w K mg base CX0 7 f1 fd1 ["below","springs","roll","takes"] (zQ K T)):bT P w K mg base CX0 8 f fd ["below","springs","roll","takes"] (HX K T):=by
  refine D.F.ok zZ (fun vs H Q E h=>?_) (fun cdv A outer s H vs Q E hr h=>?_)
  · obtain ⟨_,_,_,_,_,_,_,_,rfl,_⟩:=h;rfl
  · obtain ⟨a,b,c,v,r,sp,ls,xs,rfl,⟨hA,hR,h64⟩,hB,hsl,hd,hC,hlx,ok,tk,q⟩:=h
    refine ⟨_,(aD (bx (gK (ao iM) rfl ["below","springs","roll","takes"] rfl ["reach","drops"] [none,none] (by decide +kernel) (by decide +kernel) (by decide +kernel) rfl (vD rfl B.enumerate (ak (aH Eu (hr.mono (by decide)) rfl ju.m ju.F.kp ju.b .nil bI (ak (pv 0) (ak (pv 1) (ak (pv 2) (ak (pv 3) au))))) au)) (fun _ _ _=>(oO (K:=K) (n:=2) rfl rfl (bh (aK (i:=0) (show (["reach","drops"]:List Str).Nodup by decide +kernel) rfl (Or.inl rfl)) (bh (aK (i:=1) (show (["reach","drops"]:List Str).Nodup by decide +kernel) rfl (Or.inl rfl)) iC)))) (fun _ _ _=>(oJ (cA pN (pv 1) aq (dJ _)))) (fun _ _ _=>(pv 0))))),?_⟩
    have O:=Ow.refl tk
    refine ⟨_,rfl,_,rfl,_,rfl,_,rfl,a,b,c,v,r,sp,ls,xs,rfl,⟨hA,hR,h64⟩,hB,hsl,hd,hC,hlx,ok,tk,O.ur fun lf H1 ys O e=>?_⟩
    subst e
    have hfl:=uw r sp ls xs
    generalize pP r sp ls xs=fl at O hfl q
    refine ⟨lf,_,rfl,O.sq 0,fun acc hacc=>?_⟩
    refine uG (K:=K) (xs:=fl.map V.int) (fun i τ H'=>Iv (∃ (v0 v1:Option V),τ=[v0,v1]∧Ow T H H' [(acc,.lst ((Tn.asI (m5 fl i)).map V.int)),(lf,.lst (fl.map V.int))]))
      ⟨trivial,none,none,rfl,O.mk' hacc rfl⟩ (fun i τ H' _ ⟨_,_,_,_,O⟩=>O.sq 1) ?_ ?_
    · rintro i y t' τ H3 hy ⟨-,v0,v1,rfl,O⟩ ht'
      obtain ⟨u,hu,rfl⟩:=ints_get hy
      have hi:=(List.getElem?_eq_some_iff.mp hu).1
      have eu:fl.getD i 0=u:=by rw [List.getD_eq_getElem?_getD,hu];rfl
      have hzl:=pY fl i
      walk_at "nw"
      refine ⟨t',_,rfl,O.sqT 0,rfl,_,_,rfl,_,_,rfl,rfl,?_⟩
      have O:=O.tail
      refine ⟨_,rfl,rfl,_,rfl,ifI (fun h1=>?_) fun h1=>⟨trivial,_,_,rfl,by rw [nU,eu,if_neg h1,List.append_nil];exact O⟩⟩
      refine ⟨_,rfl,_,O.get 0,aR (by rw [List.length_map,Tn.dz];omega),?_⟩
      walk_at "pt"
      refine ⟨trivial,_,_,rfl,?_⟩
      rw [nU,eu,if_pos h1,pF];exact O
    · rintro τ H3 ⟨-,v0,v1,rfl,O⟩
      rw [List.length_map,hfl] at O
      exact O.ret 0 rfl q rfl
theorem FP {X:Cx} {K:PySem.W.Frag} (h:X.K=K):SlR X (aal K):=h ▸ kW
abbrev jl:Stmt:=top 47
theorem FZ:aQ ["reaches","others"] ["reaches","others"] (ao jl):=⟨rfl,rfl,rfl,by decide +kernel,rfl,by decide +kernel,by decide +kernel⟩
def qT (K:PySem.W.Frag) (T:gG):Sp:=fun vs H Q _=>∃ (a b:Addr) (xs ys:List Int),vs=[.ref a,.ref b]∧SqL K H a (xs.map V.int)∧SqL K H b (ys.map V.int)∧xs.length≤900∧TabsOk T H∧∀ H',bf T H H'→Q (.bl (Rv.fO xs ys)) H'
abbrev cY:Stmt:=top 48
theorem tG:aQ ["below","reaches"] ["below","reaches"] (ao cY):=⟨rfl,rfl,rfl,by decide +kernel,rfl,by decide +kernel,by decide +kernel⟩
def sZ (K:PySem.W.Frag) (T:gG):Sp:=fun vs H Q _=>∃ (a b:Addr) (r xs:List Int),vs=[.ref a,.ref b]∧Ib K H a r∧SqL K H b (xs.map V.int)∧xs.length<64∧(∀ x∈xs,0≤x∧x<(r.length:Int))∧TabsOk T H ∧
  lC T H (fun ys=>ys=(Tn.asI (Rv.vL r xs r.length)).map V.int) Q
theorem Gp {f:Addr} {fd:FuncData} (D:Df K mg "meets" jl ["reaches","others"] f fd) (B:Blt mg):bT P w K mg base CX0 1 f fd ["reaches","others"] (qT K T):=by
  refine D.F.ok FZ (fun vs H Q E h=>?_) (fun cdv A outer s H vs Q E hr h=>?_)
  · obtain ⟨_,_,_,_,rfl,_⟩:=h;rfl
  · obtain ⟨a,b,xs,ys,rfl,hA,hB,hn,tk,q⟩:=h
    refine ⟨_,(aD (bx (aG (xT rfl) rfl B.any PyProof.Rows.boot_any (ak (gK (ao jl) rfl ["reaches","others"] rfl ["reach","others"] [none,some 1] (by decide +kernel) (by decide +kernel) (by decide +kernel) rfl (cB (pv 0)) (fun _ _ _=>(aK (i:=0) (show (["reach","others"]:List Str).Nodup by decide +kernel) rfl (Or.inl rfl))) (fun _ _ _=>gk) (fun _ _ _=>(rB (yF (K:=K) rfl) (pv 0) (pv 1) (by rfl)))) au)))),?_⟩
    have O:=Ow.refl tk
    refine ⟨_,rfl,a,rfl,⟨_,hA⟩,fun acc hacc=>?_⟩
    refine dY (K:=K) (xs:=xs.map V.int) (fun i τ H'=>Iv (∃ (v0:Option V),τ=[v0,some (.ref b)]∧Ow T H H' [(acc,.lst (((xs.take i).map fun x=>decide (x∈ys)).map V.bl))])) ⟨trivial,none,rfl,O.mk' hacc rfl⟩ (fun i τ H' _ ⟨_,_,_,O⟩=>O.same.seq hA) ?_ ?_
    · rintro i y τ H3 hy ⟨-,v0,rfl,O⟩
      obtain ⟨z,hz,rfl⟩:=ints_get hy
      refine yU ?_
      refine ⟨_,rfl,_,rfl,b,_,rfl,.inl (O.same.seq hB),rfl,ux _,?_⟩
      rw [if_neg Bool.false_ne_true,BK]
      refine ⟨_,O.get 0,aR (by rw [List.length_map,List.length_map,List.length_take];omega),?_⟩
      walk_at "pt"
      refine ⟨trivial,_,rfl,?_⟩
      rw [Tn.bM hz,List.map_append,List.map_append];exact O
    rintro τ H3 ⟨-,v0,rfl,O⟩
    rw [List.length_map,List.take_of_length_le (Nat.le_refl _)] at O
    refine ⟨acc,_,rfl,O.sq 0,?_⟩
    rw [List.any_map]
    exact q _ O.same
theorem Ax {f f1 f2:Addr} {fd fd1 fd2:FuncData} (D:Df K mg "lowest_of" cY ["below","reaches"] f fd) (B:Blt mg)
    (cJ:Df K mg "way_of" gR ["below","reach"] f1 fd1) (mC:bT P w K mg base CX0 1 f1 fd1 ["below","reach"] (wJ K))
    (jh:Df K mg "meets" jl ["reaches","others"] f2 fd2) (vZ:bT P w K mg base CX0 1 f2 fd2 ["reaches","others"] (qT K T)):bT P w K mg base CX0 2 f fd ["below","reaches"] (sZ K T):=by
  refine D.F.ok tG (fun vs H Q E h=>?_) (fun cdv A outer s H vs Q E hr h=>?_)
  · obtain ⟨_,_,_,_,rfl,_⟩:=h;rfl
  · obtain ⟨a,b,r,xs,rfl,⟨hA,hR,h64⟩,hB,hx64,hx,tk,q⟩:=h
    refine ⟨_,(aD (bx (gK (ao cY) rfl ["below","reaches"] rfl ["reach","reaches","below"] [none,some 1,some 0] (by decide +kernel) (by decide +kernel) (by decide +kernel) rfl (cB (yE rfl rfl B.sorted rfl B.set (ak (pv 1) au))) (fun _ _ _=>(aK (i:=0) (show (["reach","reaches","below"]:List Str).Nodup by decide +kernel) rfl (Or.inl rfl))) (fun _ _ _=>(oJ (tR (gq (aH vZ (hr.mono (by decide)) rfl jh.m jh.F.kp jh.b .nil bI (ak (jy (FP (K:=K) rfl) (aH mC (hr.mono (by decide)) rfl cJ.m cJ.F.kp cJ.b .nil bI (ak (pv 2) (ak (pv 0) au))) (jO aq) mL) (ak (pv 1) au))))))) (fun _ _ _=>(pv 0))))),?_⟩
    have O:=Ow.refl tk
    refine ⟨_,rfl,b,xs,rfl,hB,hx64,fun lm ms hlm hrise hmem hml=>?_⟩
    walk_at "nw"
    refine ⟨lm,rfl,⟨_,O.sq 0⟩,fun acc hacc=>?_⟩
    refine dY (K:=K) (xs:=ms.map V.int) (fun i τ H'=>Iv (∃ (v0:Option V),τ=[v0,some (.ref b),some (.ref a)]∧Ow T H H' [(acc,.lst (((ms.take i).filter fun x=>!Rv.fO ((Rv.walk r x).drop 1) xs).map V.int)),(lm,.lst (ms.map V.int))])) ⟨trivial,none,rfl,O.mk' hacc rfl⟩ (fun i τ H' _ ⟨_,_,_,O⟩=>O.sq 1) ?_ ?_
    · rintro i y τ H3 hy ⟨-,v0,rfl,O⟩
      obtain ⟨z,hz,rfl⟩:=ints_get hy
      obtain ⟨z0,z1⟩:=hx z ((hmem z).mp (List.mem_of_getElem? hz))
      have hi:=(List.getElem?_eq_some_iff.mp hz).1
      refine ⟨_,rfl,_,rfl,a,r,z,rfl,O.same.seq hA,hR,z0,z1,by omega,O.got fun lw H4 ws O e=>?_⟩
      subst e
      refine ⟨1,rfl,lw,_,rfl,O.sq 0,fun l2 hl2=>?_⟩
      walk_at "nw"
      rw [show uF ((Rv.walk r z).map V.int) (some 1) none=((Rv.walk r z).drop 1).map V.int from Hv _ 1] at O
      refine ⟨_,rfl,l2,b,_,xs,rfl,O.sq 0,O.same.seq hB,by have:=Rv.lF r z;rw [List.length_drop];omega,O.same.t1,fun H5 sm=>?_⟩
      have O:=((O.pQ sm).tail).tail
      refine ⟨_,rfl,?_⟩
      have hfil:(ms.take (i + 1)).filter (fun x=>!Rv.fO ((Rv.walk r x).drop 1) xs)=(ms.take i).filter (fun x=>!Rv.fO ((Rv.walk r x).drop 1) xs)++(if Rv.fO ((Rv.walk r z).drop 1) xs=true then [] else [z]):=by
        rw [Tn.bM hz,List.filter_append]
        congr 1
        rw [List.filter_cons,List.filter_nil]
        cases Rv.fO ((Rv.walk r z).drop 1) xs <;> rfl
      cases hm:Rv.fO ((Rv.walk r z).drop 1) xs with
      | true =>
        rw [hm,if_pos rfl,List.append_nil] at hfil
        exact ⟨trivial,_,rfl,by rw [hfil];exact O⟩
      | false =>
        rw [hm,if_neg Bool.false_ne_true] at hfil
        refine ⟨_,rfl,_,O.get 0,aR (by rw [List.length_map];have h1:=List.length_filter_le (fun x=>!Rv.fO ((Rv.walk r x).drop 1) xs) (ms.take i);rw [List.length_take] at h1;omega),?_⟩
        walk_at "pt"
        refine ⟨trivial,_,rfl,?_⟩
        rw [hfil,List.map_append];exact O
    rintro τ H3 ⟨-,v0,rfl,O⟩
    rw [List.length_map,List.take_of_length_le (Nat.le_refl _),Rv.Va hx hrise hmem] at O
    exact O.ret 0 rfl q rfl
theorem ZG {x y z w:Int} (hx:0≤x) (hy:0≤y) (hz:0≤z) (h0:0≤w) (h1:w<3):∃ v,atI [V.int x,V.int y,V.int z] w=some (V.int v)∧0≤v:=by
  rcases (by omega:w=0∨w=1∨w=2) with e | e | e <;> subst e
  · exact ⟨x,rfl,hx⟩
  · exact ⟨y,rfl,hy⟩
  · exact ⟨z,rfl,hz⟩
theorem rD {s:List Int} {v:Int} (h:∀ x∈s,0≤x) (hv:0≤v):∀ x∈s++[v],0≤x:=fun x hx=>by
  rcases List.mem_append.mp hx with e | e
  · exact h x e
  · have:x=v:=by simpa using e
    rw [this];exact hv
theorem Hl {c:Int} {n:Nat} {x:Int} (h:x∈Fd c n):0≤x∧x<4294967291:=by
  obtain ⟨i,_,rfl⟩:=List.mem_map.mp h
  exact ⟨QS _ _,YB _ _⟩
abbrev bW:Stmt:=top 56
theorem iY:aQ ["cell","size","kind","found","x"] ["cell","size","kind"] (ao bW):=⟨rfl,rfl,rfl,by decide +kernel,rfl,by decide +kernel,by decide +kernel⟩
def qd (T:gG):Sp:=fun vs H Q _=>∃ (c kd:Int) (n:Nat),vs=[.int c,.int (n:Int),.int kd]∧n≤900∧TabsOk T H∧lC T H (fun xs=>∃ s:List Int,xs=s.map V.int∧s.length=n∧∀ x∈s,0≤x) Q
theorem yG {f f1:Addr} {fd fd1:FuncData} (D:Df K mg "_law_springs" bW ["cell","size","kind"] f fd) (B:Blt mg)
    (aM:Df K mg "_law_mixed" bG ["cell","many"] f1 fd1) (d8:bT P w K mg base CX0 2 f1 fd1 ["cell","many"] oA):bT P w K mg base CX0 3 f fd ["cell","size","kind"] (qd T):=by
  refine D.F.ok iY (fun vs H Q E h=>?_) (fun cdv A outer s H vs Q E hr h=>?_)
  · obtain ⟨_,_,_,rfl,_⟩:=h;rfl
  · obtain ⟨c,kd,n,rfl,hn,tk,q⟩:=h
    refine ⟨_,(aA (aO (i:=3) iY.nd rfl (Or.inl rfl) (eH au))
      (aA (iZ PassesOwn.never rfl (cB (aH d8 (hr.mono (by decide)) rfl aM.m aM.F.kp aM.b .nil bI (ak (pv 0) (ak (pv 1) au)))) (aK (i:=4) iY.nd rfl (Or.inl rfl))
        (aD (jN (cA pN (pv 2) aq (dJ _))
          (aD (gJ (oU PySem.F.plainAttrs_list PySem.F.slot_list_append PySem.F.type_list_append dX (pv 3) (ak (aL bK (pv 4) aq) au))))
          (aD (jN (cA pN (pv 2) aq (dJ _))
            (aD (gJ (oU PySem.F.plainAttrs_list PySem.F.slot_list_append PySem.F.type_list_append dX (pv 3) (ak (aL bK (aL eU (pv 0) (aL iu (pv 4) aq)) (aL eU (aL ql aq aq) aq)) au))))
            (aD (gJ (oU PySem.F.plainAttrs_list PySem.F.slot_list_append PySem.F.type_list_append dX (pv 3) (ak (aX aJ (eH (ak aq (ak aq (ak (aL bK (aL iu (pv 4) aq) (aL eU (aL ql aq aq) aq)) au)))) (aL bK (aL jm (pv 4) aq) aq) (fun _ _=>rfl)) au)))))))))
      (aD (bx (pv 3))))),?_⟩
    refine Zu ?_
    intro zu0 zu1 zu2 zu3 zu4 zu5 zu6
    have O:=Ow.refl tk
    refine ⟨szl,fun lf hlf=>?_⟩
    walk_at "nw"
    refine ⟨_,rfl,_,rfl,c,_,rfl,by omega,by omega,O.got fun lx H2 xs O e=>?_⟩
    obtain ⟨ys,rfl,hy⟩:=e
    have hyl:ys.length=n:=by rw [hy,lZ];omega
    refine ⟨lx,rfl,⟨_,O.sq 0⟩,?_⟩
    refine gD (K:=K) (xs:=ys.map V.int) (fun i σ H'=>Iv (∃ (v4:Option V) (s:List Int),σ=[some (.int c),some (.int (n:Int)),some (.int kd),some (.ref lf),v4]∧s.length=i∧(∀ x∈s,0≤x)∧Ow T H H' [(lx,.lst (ys.map V.int)),(lf,.lst (s.map V.int))]))
      ⟨trivial,none,[],rfl,rfl,(fun x hx=>nomatch hx),O⟩ (fun i σ H' _ ⟨_,_,_,_,_,_,O⟩=>O.sq 0) ?_ ?_
    · rintro i y σ H3 hy' ⟨-,v4,s,rfl,hs,hsn,O⟩
      obtain ⟨z,hz,rfl⟩:=ints_get hy'
      have hi:=(List.getElem?_eq_some_iff.mp hz).1
      obtain ⟨z0,z1⟩:0≤z∧z<4294967291:=Hl (by rw [← hy];exact List.mem_of_getElem? hz)
      walk_at "go"
      · walk_at "app"
        rw [nQ] at O
        exact ⟨trivial,_,_,rfl,by rw [List.length_append,hs];rfl,rD hsn (Int.emod_nonneg _ (by decide)),O⟩
      · walk_at "app"
        rw [nQ] at O
        exact ⟨trivial,_,_,rfl,by rw [List.length_append,hs];rfl,rD hsn (Int.emod_nonneg _ (by decide)),O⟩
      · intro l3 h3
        walk_at "nw"
        have m0:0≤z * 7919 % (10 ^ (12:Int).toNat + 1):=Int.emod_nonneg _ (by decide)
        obtain ⟨v,hv,v0⟩:=ZG (x:=0) (y:=3) (z:=z * 7919 % (10 ^ (12:Int).toNat + 1)) (w:=z / 5 % 3) (by decide) (by decide) m0 (by omega) (by omega)
        refine ⟨_,rfl,_,_,rfl,rfl,⟨by decide,by decide⟩,_,_,rfl,rfl,(by show (0:Int)<3;decide),l3,_,_,_,rfl,rfl,O.sq 0,hv,?_⟩
        have O:=O.tail
        walk_at "app"
        rw [nQ] at O
        exact ⟨trivial,_,_,rfl,by rw [List.length_append,hs];rfl,rD hsn v0,O⟩
    · rintro σ H3 ⟨-,v4,s,rfl,hs,hsn,O⟩
      rw [List.length_map] at hs
      exact ⟨_,rfl,O.ret 1 rfl q ⟨s,rfl,by omega,hsn⟩⟩
abbrev fj:Stmt:=top 57
theorem kY:aQ ["below","reach","way"] ["below","reach"] (ao fj):=⟨rfl,rfl,rfl,by decide +kernel,rfl,by decide +kernel,by decide +kernel⟩
def zP (K:PySem.W.Frag) (T:gG):Sp:=fun vs H Q _=>∃ (a:Addr) (r:List Int) (p:Int),vs=[.ref a,.int p]∧SqL K H a (r.map V.int)∧Rv.dB r∧0≤p∧p<r.length∧r.length≤900∧TabsOk T H∧lC T H (fun xs=>xs=(Rv.walk r p).map V.int) Q
theorem Ry {f:Addr} {fd:FuncData} {T:gG} (D:Df K mg "_law_way" fj ["below","reach"] f fd):bT P w K mg base CX0 1 f fd ["below","reach"] (zP K T):=by
  refine D.F.ok kY (fun vs H Q E h=>?_) (fun cdv A outer s H vs Q E hr h=>?_)
  · obtain ⟨a,r,p,rfl,_⟩:=h;rfl
  · obtain ⟨a,r,p,rfl,hS,hR,p0,p1,hn,tk,q⟩:=h
    refine ⟨_,(aA (aO (i:=2) kY.nd rfl (Or.inl rfl) (eH au))
      (aA (rm PassesOwn.never (cA vI (pv 1) (rA lJ aq) (dJ _))
        (aA (gJ (oU PySem.F.plainAttrs_list PySem.F.slot_list_append PySem.F.type_list_append dX (pv 2) (ak (pv 1) au)))
        (aD (aO (i:=1) kY.nd rfl (Or.inl rfl) (aX aJ (pv 0) (pv 1) (fun _ _=>rfl))))))
      (aD (bx (pv 2))))),?_⟩
    refine Zt ?_
    intro zu0 zu1 zu2 zu3
    have O:=Ow.refl tk
    refine ⟨szl,fun lw hlw=>?_⟩
    walk_at "nw"
    refine ⟨fun m σ H2=>∃ (pre:List Int) (z:Int),σ=[some (.ref a),some (.int z),some (.ref lw)]∧Ow T H H2 [(lw,.lst (pre.map V.int))]∧(z=-1∨(0≤z∧z<r.length))∧pre++Rv.walk r z=Rv.walk r p∧m=Rv.mea r z,
      ⟨_,[],p,rfl,O,.inr ⟨p0,p1⟩,rfl,rfl⟩,?_⟩
    rintro m σ H2 ⟨pre,z,rfl,O,hz,e,rfl⟩
    refine ⟨_,rfl,_,rfl,rfl,_,rfl,?_⟩
    rcases hz with rfl | ⟨z0,z1⟩
    · refine R0 rfl ?_
      rw [Rv.iH,List.append_nil] at e
      exact ⟨_,rfl,O.ret 0 rfl q (by rw [e])⟩
    · have hd:(!decide (V.int z=V.int (-1)))=true:=by
        have:¬ z=-1:=by omega
        simp [this]
      rw [hd]
      refine Io ?_
      have hlen:pre.length + (Rv.walk r z).length≤r.length + 1:=by
        have:=Rv.lF r p
        rw [← e,List.length_append] at this;exact this
      refine ⟨fun σ' H'=>∃ m',m'<Rv.mea r z∧∃ (pre:List Int) (z:Int),σ'=[some (.ref a),some (.int z),some (.ref lw)]∧Ow T H H' [(lw,.lst (pre.map V.int))]∧(z=-1∨(0≤z∧z<r.length))∧pre++Rv.walk r z=Rv.walk r p∧m'=Rv.mea r z,fun _ _ x=>x,?_⟩
      have g:=Rv.jo z0 z1
      refine ⟨_,rfl,.inl ⟨rfl,_,O.sq 0⟩,_,rfl,lw,_,_,rfl,rfl,O.get 0,aR (by rw [List.length_map];omega),?_⟩
      walk_at "pt"
      refine ⟨_,rfl,_,rfl,a,_,_,_,rfl,rfl,O.same.seq hS,lV z0 g,?_⟩
      refine ⟨_,Rv.Ij hR z0 z1,pre++[z],Rv.nxt r z,rfl,?_,hR.step z0 z1,?_,rfl⟩
      · rw [List.map_append];exact O
      · rw [List.append_assoc]
        show pre++(z :: Rv.walk r (Rv.nxt r z))=_
        rw [← Rv.bJ hR z0 z1];exact e
abbrev cV:Stmt:=top 58
theorem cX:aQ ["cell","size","far","kind","xs","most","call"] ["cell","size","far","kind"] (ao cV):=⟨rfl,rfl,rfl,by decide +kernel,rfl,by decide +kernel,by decide +kernel⟩
def wR (T:gG):Sp:=fun vs H Q _=>∃ (c far kd:Int) (n:Nat),vs=[.int c,.int (n:Int),.int far,.int kd]∧1≤n∧n≤900∧0≤far∧TabsOk T H ∧
  ∀ (t t2:Addr) (H':Hp) (l:Lic) (ca:Int),Ow T H H' [(t,.tup [.ref t2,.int ca]),(t2,.tup (zp l))]→0≤l.start→l.start<(n:Int)→l.back=-1→0≤l.most→0≤l.day→0≤ca→Q (.ref t) H'
theorem Gs {f f1:Addr} {fd fd1:FuncData} (D:Df K mg "_law_drawn" cV ["cell","size","far","kind"] f fd) (B:Blt mg)
    (aM:Df K mg "_law_mixed" bG ["cell","many"] f1 fd1) (d8:bT P w K mg base CX0 2 f1 fd1 ["cell","many"] oA):bT P w K mg base CX0 3 f fd ["cell","size","far","kind"] (wR T):=by
  refine D.F.ok cX (fun vs H Q E h=>?_) (fun cdv A outer s H vs Q E hr h=>?_)
  · obtain ⟨_,_,_,_,rfl,_⟩:=h;rfl
  · obtain ⟨c,far,kd,n,rfl,n1,n9,hfar,tk,q⟩:=h
    refine ⟨_,(aA (aO (i:=4) cX.nd rfl (Or.inl rfl) (aH d8 (hr.mono (by decide)) rfl aM.m aM.F.kp aM.b .nil bI (ak (pv 0) (ak aq au))))
      (aA (aO (i:=5) cX.nd rfl (Or.inl rfl) (aL bK (aX aJ (pv 4) aq (fun _ _=>rfl)) aq))
      (aA (aO (i:=6) cX.nd rfl (Or.inl rfl) (aL bK (aX aJ (pv 4) aq (fun _ _=>rfl)) aq))
      (oK (jN (cA Gh (pv 3) aq (dJ _))
        (aA (aO (i:=5) cX.nd rfl (Or.inl rfl) (aL bK (aL eU (aL iu (pv 0) aq) (aL iu (aX aJ (pv 4) aq (fun _ _=>rfl)) aq)) (aL eU (aL ql aq aq) aq)))
        (aD (aO (i:=6) cX.nd rfl (Or.inl rfl) (aL bK (aL iu (aX aJ (pv 4) aq (fun _ _=>rfl)) aq) (aL eU (aL ql aq aq) aq)))))
        eV)
      (oK (jN (cA pN (aL bK (aX aJ (pv 4) aq (fun _ _=>rfl)) aq) aq (dJ _))
        (aD (aO (i:=6) cX.nd rfl (Or.inl rfl) (aL ql aq aq)))
        eV)
      (aD (bx (kj (ak (kj (ak (aL iu (aL bK (aX aJ (pv 4) aq (fun _ _=>rfl)) aq) (pv 2)) (ak (aL bK (aX aJ (pv 4) aq (fun _ _=>rfl)) (pv 1)) (ak (rA lJ aq) (ak (pv 5) au))))) (ak (pv 6) au)))))))))),?_⟩
    refine Zr ?_
    intro zu0 zu1 zu2 zu3 zu4 zu5 zu6 zu7
    have O:=Ow.refl tk
    have s0:=O.same
    refine ⟨_,rfl,c,6,rfl,by omega,by omega,O.got fun lx H2 xs O e=>?_⟩
    obtain ⟨ys,rfl,hy⟩:=e
    have hyl:ys.length=6:=by rw [hy,lZ];rfl
    have hyn:∀ k,0≤ys.getD k 0:=fun k=>by rw [hy];exact vQ
    have nn:(0:Int)<(n:Int):=by omega
    clear hy
    walk_at "w"
    have a0:0≤ys.getD (3:Int).toNat 0 % 7:=Int.emod_nonneg _ (by decide)
    have a1:0≤ys.getD (4:Int).toNat 0 % 7:=Int.emod_nonneg _ (by decide)
    refine ⟨fun σ H'=>Iv (∃ (mo ca:Int),σ=[some (.int c),some (.int (n:Int)),some (.int far),some (.int kd),some (.ref lx),some (.int mo),some (.int ca)]∧0≤mo∧0≤ca∧H'=H2),?_,?_⟩
    · walk_at "go"
      · exact ⟨trivial,_,_,rfl,Int.emod_nonneg _ (by decide),Int.emod_nonneg _ (by decide),rfl⟩
      · exact ⟨trivial,_,_,rfl,a0,a1,rfl⟩
    rintro σ H3 ⟨-,mo,ca,rfl,m0,ca0,rfl⟩
    refine ⟨fun σ H'=>Iv (∃ (ca:Int),σ=[some (.int c),some (.int (n:Int)),some (.int far),some (.int kd),some (.ref lx),some (.int mo),some (.int ca)]∧0≤ca∧H'=H3),?_,?_⟩
    · walk_at "go"
      · exact ⟨trivial,_,rfl,by decide,rfl⟩
      · exact ⟨trivial,_,rfl,ca0,rfl⟩
    rintro σ H4 ⟨-,ca,rfl,ca0,rfl⟩
    have d0:0≤ys.getD (0:Int).toNat 0 % 4 * far:=Int.mul_nonneg (Int.emod_nonneg _ (by decide)) hfar
    have p0:=Int.emod_nonneg (ys.getD (1:Int).toNat 0) (show (n:Int)≠0 by omega)
    have p1:=Int.emod_lt_of_pos (ys.getD (1:Int).toNat 0) nn
    walk_at "w"
    intro t2 h2
    walk_at "nw"
    walk_at "w"
    intro t ht
    walk_at "nw"
    have O:=O.del 2
    walk_at "er"
    exact q t t2 _ ⟨_,_,_,_⟩ ca O p0 p1 rfl m0 d0 ca0
theorem ZF {x w:Int} (hx:2≤x) (hx2:x≤40) (h0:0≤w) (h1:w<8):∃ n:Nat,atI [V.int 2,V.int 3,V.int 5,V.int 8,V.int 12,V.int 7,V.int 4,V.int x] w=some (V.int (n:Int))∧2≤n∧n≤40:=by
  rcases (by omega:w=0∨w=1∨w=2∨w=3∨w=4∨w=5∨w=6∨w=7) with e | e | e | e | e | e | e | e <;> subst e
  · exact ⟨2,rfl,by omega,by omega⟩
  · exact ⟨3,rfl,by omega,by omega⟩
  · exact ⟨5,rfl,by omega,by omega⟩
  · exact ⟨8,rfl,by omega,by omega⟩
  · exact ⟨12,rfl,by omega,by omega⟩
  · exact ⟨7,rfl,by omega,by omega⟩
  · exact ⟨4,rfl,by omega,by omega⟩
  · exact ⟨x.toNat,by rw [Int.toNat_of_nonneg (by omega)];rfl,by omega,by omega⟩
theorem Ig {x y:Int} {w:Int} (h0:0≤w) (h1:w<2) (hx:0≤x) (hy:0≤y) {k:Nat} (hxk:x<k) (hyk:y<k):∃ j:Nat,atI [V.int x,V.int y] w=some (V.int (j:Int))∧j<k:=by
  rcases (by omega:w=0∨w=1) with e | e <;> subst e
  · exact ⟨x.toNat,by rw [Int.toNat_of_nonneg hx];rfl,by omega⟩
  · exact ⟨y.toNat,by rw [Int.toNat_of_nonneg hy];rfl,by omega⟩
theorem Ri (a:Int) (n:Nat):(1 + a % 2 * ((n:Int) - 2))=1∨(1 + a % 2 * ((n:Int) - 2))=(n:Int) - 1:=by
  rcases Int.emod_two_eq a with e | e
  · rw [e,Int.zero_mul];exact .inl rfl
  · rw [e,Int.one_mul]
    right;omega
theorem Ia {b:List Int} {i j:Nat} {y:Int} (hy:0≤y) (h:∃ x,b[i]?=some x∧0≤x):∃ x,(b.set j y)[i]?=some x∧0≤x:=by
  obtain ⟨x,h1,h2⟩:=h
  have hi:=(List.getElem?_eq_some_iff.mp h1).1
  by_cases e:j=i
  · subst e
    exact ⟨y,by rw [List.getElem?_set_self hi],hy⟩
  · exact ⟨x,by rw [List.getElem?_set_ne e];exact h1,h2⟩
abbrev cG:Stmt:=top 55
theorem cD:aQ ["cell","size","xs","step","spots","below","k","number"] ["cell"] (ao cG):=⟨rfl,rfl,rfl,by decide +kernel,rfl,by decide +kernel,by decide +kernel⟩
def zM (T:gG):Sp:=fun vs H Q _=>∃ (c:Int),vs=[.int c]∧TabsOk T H∧lC T H (fun xs=>∃ r,xs=r.map V.int∧Rv.dB r∧2≤r.length∧r.length≤40∧∃ p:Nat,∃ x,r[p]?=some x∧0≤x) Q
theorem Ru {f f1:Addr} {fd fd1:FuncData} (D:Df K mg "_law_river" cG ["cell"] f fd) (B:Blt mg)
    (aM:Df K mg "_law_mixed" bG ["cell","many"] f1 fd1) (d8:bT P w K mg base CX0 2 f1 fd1 ["cell","many"] oA):bT P w K mg base CX0 3 f fd ["cell"] (zM T):=by
  refine D.F.ok cD (fun vs H Q E h=>?_) (fun cdv A outer s H vs Q E hr h=>?_)
  · obtain ⟨_,rfl,_⟩:=h;rfl
  · obtain ⟨c,rfl,tk,q⟩:=h
    change ∃ t,PSs _ (_ :: _) t∧_
    generalize hc0:Expr.Constant (Const.int 2) 0 ⟨166,12,166,13⟩=a0
    have hA0:∀ X:Cx,PE X a0 (tC (.int 2)):=fun X=>by rw [← hc0];exact aq
    have hN0:∀ (es:List Expr) (env:Env),starEach (a0 :: es) env=(false,eval a0 env) :: starEach es env:=fun es env=>by rw [← hc0];rfl
    generalize hc1:Expr.Constant (Const.int 3) 0 ⟨166,15,166,16⟩=a1
    have hA1:∀ X:Cx,PE X a1 (tC (.int 3)):=fun X=>by rw [← hc1];exact aq
    have hN1:∀ (es:List Expr) (env:Env),starEach (a1 :: es) env=(false,eval a1 env) :: starEach es env:=fun es env=>by rw [← hc1];rfl
    generalize hc2:Expr.Constant (Const.int 5) 0 ⟨166,18,166,19⟩=a2
    have hA2:∀ X:Cx,PE X a2 (tC (.int 5)):=fun X=>by rw [← hc2];exact aq
    have hN2:∀ (es:List Expr) (env:Env),starEach (a2 :: es) env=(false,eval a2 env) :: starEach es env:=fun es env=>by rw [← hc2];rfl
    generalize hc3:Expr.Constant (Const.int 8) 0 ⟨166,21,166,22⟩=a3
    have hA3:∀ X:Cx,PE X a3 (tC (.int 8)):=fun X=>by rw [← hc3];exact aq
    have hN3:∀ (es:List Expr) (env:Env),starEach (a3 :: es) env=(false,eval a3 env) :: starEach es env:=fun es env=>by rw [← hc3];rfl
    generalize hc4:Expr.Constant (Const.int 12) 0 ⟨166,24,166,26⟩=a4
    have hA4:∀ X:Cx,PE X a4 (tC (.int 12)):=fun X=>by rw [← hc4];exact aq
    have hN4:∀ (es:List Expr) (env:Env),starEach (a4 :: es) env=(false,eval a4 env) :: starEach es env:=fun es env=>by rw [← hc4];rfl
    generalize hc5:Expr.Constant (Const.int 7) 0 ⟨166,28,166,29⟩=a5
    have hA5:∀ X:Cx,PE X a5 (tC (.int 7)):=fun X=>by rw [← hc5];exact aq
    have hN5:∀ (es:List Expr) (env:Env),starEach (a5 :: es) env=(false,eval a5 env) :: starEach es env:=fun es env=>by rw [← hc5];rfl
    generalize hc6:Expr.Constant (Const.int 4) 0 ⟨166,31,166,32⟩=a6
    have hA6:∀ X:Cx,PE X a6 (tC (.int 4)):=fun X=>by rw [← hc6];exact aq
    have hN6:∀ (es:List Expr) (env:Env),starEach (a6 :: es) env=(false,eval a6 env) :: starEach es env:=fun es env=>by rw [← hc6];rfl
    refine ⟨_,(aA (aO (i:=1) cD.nd rfl (Or.inr rfl) (aX aJ (eH (ak (hA0 _) (ak (hA1 _) (ak (hA2 _) (ak (hA3 _) (ak (hA4 _) (ak (hA5 _) (ak (hA6 _) (ak (aL qj aq (aL bK (aL jm (pv 0) aq) aq)) au) (hN6 _ _)) (hN5 _ _)) (hN4 _ _)) (hN3 _ _)) (hN2 _ _)) (hN1 _ _)) (hN0 _ _))) (aL bK (pv 0) aq) (fun _ _=>rfl)))
      (aA (aO (i:=2) cD.nd rfl (Or.inr rfl) (aH d8 (hr.mono (by decide)) rfl aM.m aM.F.kp aM.b .nil bI (ak (aL jm (pv 0) aq) (ak (aL eU (pv 1) aq) au))))
      (aA (aO (i:=3) cD.nd rfl (Or.inr rfl) (aL eU aq (aL iu (aL bK (aX aJ (pv 2) aq (fun _ _=>rfl)) aq) (aL qj (pv 1) aq))))
      (aA (iR (i:=4) (ao cG) rfl ["cell","size","xs","step","spots","below","k","number"] rfl ["k","size","xs","step"] [none,some 1,some 2,some 3] (by decide +kernel) (by decide +kernel) (by decide +kernel) rfl cD.nd rfl rfl (oN rfl B.range (ak (pv 1) au)) (fun _ _ _=>(aK (i:=0) (show (["k","size","xs","step"]:List Str).Nodup by decide +kernel) rfl (Or.inl rfl))) (fun _ _ _=>gk) (fun _ _ _=>(aL bK (aL eU (aX (gB (K:=K) rfl) (pv 2) aq (fun _ _=>rfl)) (aL iu (pv 3) (pv 0))) (pv 1))) rfl)
      (aA (aO (i:=5) cD.nd rfl (Or.inl rfl) (aL tX (eH (ak (rA lJ aq) au)) (pv 1)))
      (aA (iZ PassesOwn.never rfl (Ak rfl B.range (ak aq (ak (pv 1) au))) (aK (i:=6) cD.nd rfl (Or.inl rfl))
        (aA (aO (i:=7) cD.nd rfl (Or.inl rfl) (aX aJ (pv 2) (aL eU (pv 6) aq) (fun _ _=>rfl)))
        (aD (jN (PW.pt (pw_or (cA Gh (aL bK (pv 7) aq) aq (dJ _)) (pw_or1 (cA pN (pv 6) aq (dJ _)))))
          (aD (oM (aX aJ (pv 4) (aX aJ (eH (ak (aL qj (pv 6) aq) (ak (aL bK (aL jm (pv 7) aq) (pv 6)) au))) (aL bK (aL jm (pv 7) aq) aq) (fun _ _=>rfl)) (fun _ _=>rfl)) (Al (pv 5) (aX aJ (pv 4) (pv 6) (fun _ _=>rfl)) set_list)))
          eV))))
      (aD (bx (pv 5))))))))),?_⟩
    refine Zq ?_
    intro zu0 zu1 zu2 zu3 zu4 zu5 zu6 zu7 zu8
    have O:=Ow.refl tk
    have c0:=Int.emod_nonneg c (show (8:Int)≠0 by decide)
    have c1:=Int.emod_lt_of_pos c (show (0:Int)<8 by decide)
    have e0:=Int.emod_nonneg (c / 8) (show (39:Int)≠0 by decide)
    have e1:=Int.emod_lt_of_pos (c / 8) (show (0:Int)<39 by decide)
    refine ⟨_,rfl,_,_,rfl,rfl,⟨by decide,by decide⟩,_,_,rfl,rfl,(by show (0:Int)<39;decide),_,_,rfl,rfl,szl,fun l1 h1=>?_⟩
    walk_at "nw"
    obtain ⟨n,hv,n1,n40⟩:=ZF (x:=40 - c / 8 % 39) (by omega) (by omega) c0 c1
    refine ⟨_,rfl,_,_,rfl,rfl,(by show (0:Int)<8;decide),l1,_,_,_,rfl,rfl,O.sq 0,hv,?_⟩
    have O:=O.tail
    refine ⟨_,rfl,_,_,rfl,rfl,⟨by decide,by decide⟩,_,rfl,_,_,rfl,rfl,_,_,rfl,by omega,by omega,O.got fun lx H2 xs O e=>?_⟩
    obtain ⟨ys,rfl,hy⟩:=e
    have hyl:ys.length=n + 2:=by rw [hy,lZ];omega
    have hyn:∀ k,0≤ys.getD k 0:=fun k=>by rw [hy];exact vQ
    have hst:=Ri (ys.getD (0:Int).toNat 0) n
    refine ⟨_,rfl,lx,_,0,_,rfl,rfl,O.sq 0,bR (by omega) (by omega),_,_,rfl,rfl,(by show (0:Int)<2;decide),_,rfl,_,_,rfl,rfl,_,_,rfl,rfl,.inl ⟨by omega,by omega⟩,_,_,rfl,rfl,?_⟩
    dsimp only
    generalize (1 + ys.getD (0:Int).toNat 0 % 2 * ((n:Int) - 2))=st at hst
    have nn:(0:Int)<(n:Int):=by omega
    refine ⟨_,rfl,(n:Int),rfl,by omega,by omega,fun acc hacc=>?_⟩
    refine mW (fun i τ H'=>Iv (∃ (v0:Option V),τ=[v0,some (.int (n:Int)),some (.ref lx),some (.int st)]∧Ow T H H' [(acc,.lst ((Rv.spots n (ys.getD (1:Int).toNat 0) st i).map V.int)),(lx,.lst (ys.map V.int))])) ⟨trivial,none,rfl,O.mk' hacc rfl⟩ ?_ ?_
    · rintro i τ H3 hi ⟨-,v0,rfl,O⟩
      rw [show (0:Int) + (i:Int)=(i:Int) by omega]
      refine yU ?_
      refine ⟨_,rfl,lx,_,1,_,rfl,rfl,O.sq 1,bR (by omega) (by omega),_,rfl,_,rfl,_,_,rfl,rfl,.inl ⟨by omega,by omega⟩,_,_,rfl,rfl,_,rfl,_,_,rfl,rfl,nn,?_⟩
      refine ⟨_,O.get 0,aR (by rw [List.length_map,Rv.zK];omega),?_⟩
      walk_at "pt"
      refine ⟨trivial,_,rfl,?_⟩
      rw [Rv.yr,List.map_append];exact O
    rintro τ H3 ⟨-,v0,rfl,O⟩
    rw [Int.toNat_natCast] at O
    generalize ys.getD (1:Int).toNat 0=x1 at O
    refine ⟨_,rfl,szl,fun l2 h2=>?_⟩
    walk_at "nw"
    refine ⟨_,rfl,l2,_,_,rfl,rfl,O.get 0,by omega,by omega,fU (by rw [Int.toNat_natCast];simp;omega),fun lb hlb=>?_⟩
    walk_at "nw"
    rw [Int.toNat_natCast,jM] at O
    have O:=O.two
    refine ⟨_,rfl,1,(n:Int),rfl,⟨by omega,by omega,by omega,by omega⟩,?_⟩
    rw [show ((n:Int) - 1).toNat=n - 1 by omega]
    refine Dv (n:=n - 1) (fun i σ H'=>Iv (∃ (v6 v7:Option V) (b:List Int),σ=[some (.int c),some (.int (n:Int)),some (.ref lx),some (.int st),some (.ref acc),some (.ref lb),v6,v7]∧Rv.Lnk n (Rv.spot n x1 st) (i + 1) b∧(1≤i→∃ x,b[(Rv.spot n x1 st 1).toNat]?=some x∧0≤x) ∧
      Ow T H H' [(lb,.lst (b.map V.int)),(acc,.lst ((Rv.spots n x1 st n).map V.int)),(lx,.lst (ys.map V.int))])) ⟨trivial,none,none,_,rfl,Rv.Lnk.start _ _,(fun z=>absurd z (by decide)),O⟩ ?_ ?_
    · rintro i σ H3 hi ⟨-,v6,v7,b,rfl,L,hF,O⟩
      rw [show (1:Int) + (i:Int)=((i + 1:Nat):Int) by omega]
      have hz:0≤ys.getD (((i + 1:Nat):Int) + 1).toNat 0:=hyn _
      refine ⟨_,rfl,_,rfl,_,_,rfl,rfl,lx,_,_,_,rfl,rfl,O.sq 2,bR (by omega) (by omega),?_⟩
      generalize ys.getD (((i + 1:Nat):Int) + 1).toNat 0=z at hz
      refine ⟨_,rfl,_,_,rfl,rfl,(by show (0:Int)<7;decide),_,_,rfl,rfl,_,rfl,ifD (fun hc=>?_) fun hc=>?_⟩
      · have m0:=Int.emod_nonneg (z / 14) (show ((i + 1:Nat):Int)≠0 by omega)
        have m1:=Int.emod_lt_of_pos (z / 14) (show (0:Int)<((i + 1:Nat):Int) by omega)
        obtain ⟨j,hj,hjk⟩:=Ig (x:=((i + 1:Nat):Int) - 1) (y:=z / 14 % ((i + 1:Nat):Int)) (w:=z / 7 % 2) (by omega) (by omega) (by omega) m0 (k:=i + 1) (by omega) m1
        refine ⟨_,rfl,_,rfl,_,_,rfl,rfl,_,rfl,_,_,rfl,rfl,⟨by decide,by decide⟩,_,rfl,_,_,rfl,rfl,(by show (0:Int)<((i + 1:Nat):Int);omega),szl,fun l3 h3=>?_⟩
        walk_at "nw"
        refine ⟨_,rfl,_,_,rfl,rfl,⟨by decide,by decide⟩,_,_,rfl,rfl,(by show (0:Int)<2;decide),l3,_,_,_,rfl,rfl,O.sq 0,hj,acc,_,_,_,rfl,rfl,O.sq 2,eO (Rv.nO (by omega)),?_⟩
        have O:=O.tail
        have s0:=Rv.ou (x:=x1) (s:=st) nn (i + 1)
        have s1:=Rv.vg (x:=x1) (s:=st) nn (i + 1)
        refine ⟨_,rfl,_,rfl,_,rfl,acc,_,_,_,rfl,rfl,O.sq 1,eO (Rv.nO (by omega)),lb,_,_,_,rfl,rfl,O.get 0,Vh s0 (by rw [List.length_map,L.len];exact s1),?_⟩
        walk_at "pt"
        refine ⟨trivial,_,_,_,rfl,L.turn (by omega) hjk s0,fun _=>?_,?_⟩
        · have sj:=Rv.ou (x:=x1) (s:=st) nn j
          by_cases c1:1≤i
          · exact Ia sj (hF c1)
          · have:i=0:=by omega
            subst this
            exact ⟨_,by rw [List.getElem?_set_self (by rw [L.len];omega)],sj⟩
        · rw [List.map_set];exact O
      · refine ⟨_,rfl,rfl,_,rfl,ifI (fun hc1=>?_) fun hc1=>⟨trivial,_,_,b,rfl,L.skip,fun _=>hF (by omega),O⟩⟩
        have m0:=Int.emod_nonneg (z / 14) (show ((i + 1:Nat):Int)≠0 by omega)
        have m1:=Int.emod_lt_of_pos (z / 14) (show (0:Int)<((i + 1:Nat):Int) by omega)
        obtain ⟨j,hj,hjk⟩:=Ig (x:=((i + 1:Nat):Int) - 1) (y:=z / 14 % ((i + 1:Nat):Int)) (w:=z / 7 % 2) (by omega) (by omega) (by omega) m0 (k:=i + 1) (by omega) m1
        refine ⟨_,rfl,_,rfl,_,_,rfl,rfl,_,rfl,_,_,rfl,rfl,⟨by decide,by decide⟩,_,rfl,_,_,rfl,rfl,(by show (0:Int)<((i + 1:Nat):Int);omega),szl,fun l3 h3=>?_⟩
        walk_at "nw"
        refine ⟨_,rfl,_,_,rfl,rfl,⟨by decide,by decide⟩,_,_,rfl,rfl,(by show (0:Int)<2;decide),l3,_,_,_,rfl,rfl,O.sq 0,hj,acc,_,_,_,rfl,rfl,O.sq 2,eO (Rv.nO (by omega)),?_⟩
        have O:=O.tail
        have s0:=Rv.ou (x:=x1) (s:=st) nn (i + 1)
        have s1:=Rv.vg (x:=x1) (s:=st) nn (i + 1)
        refine ⟨_,rfl,_,rfl,_,rfl,acc,_,_,_,rfl,rfl,O.sq 1,eO (Rv.nO (by omega)),lb,_,_,_,rfl,rfl,O.get 0,Vh s0 (by rw [List.length_map,L.len];exact s1),?_⟩
        walk_at "pt"
        refine ⟨trivial,_,_,_,rfl,L.turn (by omega) hjk s0,fun _=>?_,?_⟩
        · have sj:=Rv.ou (x:=x1) (s:=st) nn j
          by_cases c1:1≤i
          · exact Ia sj (hF c1)
          · have:i=0:=by omega
            subst this
            exact ⟨_,by rw [List.getElem?_set_self (by rw [L.len];omega)],sj⟩
        · rw [List.map_set];exact O
    · rintro σ H3 ⟨-,v6,v7,b,rfl,L,hF,O⟩
      refine ⟨_,rfl,O.ret 0 rfl q ⟨b,rfl,L.Zz (Rv.ou nn) (Rv.vg nn) (fun j k hj hk h=>Rv.FN nn hst (by omega) (by omega) h) (by omega),by rw [L.len];exact n1,by rw [L.len];exact n40,_,hF (by omega)⟩⟩
abbrev cP:Stmt:=top 28
theorem qX:aQ ["one"] ["one"] (ao cP):=⟨rfl,rfl,rfl,by decide +kernel,rfl,by decide +kernel,by decide +kernel⟩
def Uo (K:PySem.W.Frag):Sp:=fun vs H Q _=>∃ (t:Addr) (l:Lic),vs=[.ref t]∧SqT K H t (zp l)∧Q (.bl (!decide (l.back=-1))) H
abbrev d9:Stmt:=top 49
theorem iW:aQ ["below","springs","roll","calls","dry","lowest","numbers","natural","wants","total"] ["below","springs","roll","calls"] (ao d9):=⟨rfl,rfl,rfl,by decide +kernel,rfl,by decide +kernel,by decide +kernel⟩
def pO (r:List Int) (ls:List Lic) (L:List Int) (n:Nat):List Nat:=(List.range n).filter fun k=>!Rv.fO (uW r ls k) L
theorem qp (r:List Int) (ls:List Lic) (L:List Int) (n:Nat):pO r ls L (n + 1)=pO r ls L n++(if Rv.fO (uW r ls n) L=true then [] else [n]):=by
  unfold pO;rw [List.range_succ,List.filter_append]
  congr 1
  by_cases h:Rv.fO (uW r ls n) L=true
  · rw [if_pos h,List.filter_cons,List.filter_nil,if_neg (by rw [h];decide)]
  · rw [if_neg h,List.filter_cons,List.filter_nil,if_pos (by rw [Bool.not_eq_true] at h;rw [h];rfl)]
theorem uc (r:List Int) (ls:List Lic) (L:List Int) (n:Nat):(pO r ls L n).length≤n:=by
  unfold pO;refine Nat.le_trans (List.length_filter_le _ _) (by rw [List.length_range];exact Nat.le_refl _)
abbrev YS (r s:List Int) (ls:List Lic) (xs:List Int):List Int:=Tn.asI (m5 (pP r s ls xs) r.length)
abbrev QV (r s:List Int) (ls:List Lic) (xs:List Int):List Int:=Tn.asI (Rv.vL r (YS r s ls xs) r.length)
theorem rO (r s:List Int) (ls:List Lic) (xs:List Int):∀ x∈YS r s ls xs,0≤x∧x<(r.length:Int):=fun x hx=>by
  obtain ⟨j,hj,rfl⟩:=List.mem_map.mp hx
  have:=List.mem_range.mp (List.mem_filter.mp hj).1
  omega
theorem yq (r:List Int) (p b:Int):(Rv.jq r p b).length≤r.length + 1:=by
  unfold Rv.jq
  split
  · exact Rv.lF r p
  · exact Nat.le_trans (List.takeWhile_sublist _).length_le (Rv.lF r p)
theorem Uj (xs:List Int):Tn.gY xs.length (Tn.fX xs)=xs.sum:=by
  rw [← Rv.zA,Rv.qN];rfl
theorem DW {r s:List Int} {ls:List Lic} {cs xs:List Int} (hR:Rv.dB r) (ok:∀ l∈ls,pU r l) (hb:∀ l∈ls,l.back=-1) (D:Ez r s ls cs xs) :
    ((QV r s ls xs).map fun z=>(Rv.nats r s).getD z.toNat 0).sum + ((pO r ls (QV r s ls xs) ls.length).map fun k=>(iD ls cs).getD k 0).sum=xs.sum:=by
  have hl:=D.len
  rw [← Uj xs,hl]
  refine Rv.Tv (st:=fun k=>((ls[k]?).map Lic.start).getD 0) (want:=fun k=>(iD ls cs).getD k 0) hR (rO r s ls xs) (fun k hk=>?_) (fun z hz=>?_) fun k hk=>?_
  · have e:=List.getElem?_eq_getElem hk
    obtain ⟨h0,h1,_⟩:=ok _ (List.getElem_mem hk)
    rw [e,mF e]
    refine ⟨h0,h1,?_⟩
    unfold Rv.jq
    rw [if_pos (hb _ (List.getElem_mem hk))];rfl
  · obtain ⟨j,hj,rfl⟩:=List.mem_map.mp hz
    obtain ⟨j1,j2⟩:=List.mem_filter.mp hj
    have hjl:=List.mem_range.mp j1
    have e:=xJ (s:=s) hR ok hl.symm hjl
    rw [of_decide_eq_true j2,Rv.Dz (by omega) (by omega)] at e
    show (Rv.nats r s).getD (j:Int).toNat 0=_
    rw [Int.toNat_natCast,(Rv.oV r s).getD hjl]
    omega
  · have h1:=D.fit.le k hk
    rcases Int.lt_or_le (Tn.fX xs k) (Tn.fX (iD ls cs) k) with c | c
    · obtain ⟨z,hz,he,_⟩:=D.shown k hk c
      refine .inr ⟨z,hz,?_⟩
      have e:=List.getElem?_eq_getElem hk
      rw [mF e] at hz
      obtain ⟨h0,h1,_⟩:=ok _ (List.getElem_mem hk)
      obtain ⟨z0,z1⟩:=(Rv.nM hR h0 h1).2 z hz
      obtain ⟨zn,rfl⟩:=Int.eq_ofNat_of_zero_le z0
      have hzl:zn<r.length:=by omega
      have e2:=xJ (s:=s) hR ok hl.symm hzl
      refine List.mem_map.mpr ⟨zn,List.mem_filter.mpr ⟨List.mem_range.mpr hzl,decide_eq_true ?_⟩,rfl⟩
      rw [e2];omega
    · exact .inl (Int.le_antisymm h1 c)
def vo (K:PySem.W.Frag) (T:gG) (cN:Addr):Sp:=fun vs H Q E=>∃ (a b c:Addr) (v:V) (r s:List Int) (ls:List Lic) (cs:List Int),vs=[.ref a,.ref b,v,.ref c]∧Ib K H a r∧SqL K H b (s.map V.int)∧s.length=r.length∧(∀ x∈s,0≤x)∧Den K H v (lA ls)∧ls.length<64∧SqL K H c (cs.map V.int)∧ls.length=cs.length∧(∀ l∈ls,ji r l)∧(∀ c∈cs,0≤c)∧TabsOk T H ∧
  ((∃ l∈ls,l.back≠-1)→∀ (e:Addr) (H':Hp),bf T H H'→H' e=none→E (.ref cN) (some e) H') ∧
  ((∀ l∈ls,l.back=-1)→∀ (t lo nu:Addr) (H':Hp) (xs:List Int),Ez r s ls cs xs→Ow T H H' [(t,.tup [.int xs.sum,.ref lo,.ref nu]),(nu,.lst ((Tn.asI (pO r ls (QV r s ls xs) ls.length)).map V.int)),(lo,.lst ((QV r s ls xs).map V.int))]→Q (.ref t) H')
theorem ZP {f:Addr} {fd:FuncData} (D:Df K mg "gives_back" cP ["one"] f fd) (C:Mth mg):bT P w K mg base CX0 1 f fd ["one"] (Uo K):=by
  obtain ⟨tM,hMOUTH⟩:=C.MOUTH
  refine D.F.ok qX (fun vs H Q E h=>?_) (fun cdv A outer s H vs Q E hr h=>?_)
  · obtain ⟨_,_,rfl,_⟩:=h;rfl
  · obtain ⟨t,l,rfl,hT,q⟩:=h
    refine ⟨_,(aD (bx (rB vI (aX jD (pv 0) aq (fun _ _=>rfl)) (oR (v:=.int (-1)) rfl hMOUTH ⟨_,rfl⟩) (dJ _)))),?_⟩
    refine ⟨_,rfl,t,_,2,_,rfl,rfl,hT,rfl,rfl,?_⟩
    rw [show decide (V.int l.back=V.int (-1))=decide (l.back=-1) from by simp]
    exact q
theorem RJ {f f1 f2 f3 f4 f5 f6 f7 f8 cN:Addr} {fd fd1 fd2 fd3 fd4 fd5 fd6 fd7 fd8:FuncData} (D:Df K mg "cut_of" d9 ["below","springs","roll","calls"] f fd) (B:Blt mg) (X_NoCut:jE K mg "NoCut" cN)
    (fC:Df K mg "gives_back" cP ["one"] f1 fd1) (uP:bT P w K mg base CX0 1 f1 fd1 ["one"] (Uo K))
    (jZ:Df K mg "deal" jL ["below","springs","roll","calls"] f2 fd2) (Ey:bT P w K mg base CX0 7 f2 fd2 ["below","springs","roll","calls"] (vm K T))
    (kh:Df K mg "dry_of" iM ["below","springs","roll","takes"] f3 fd3) (HN:bT P w K mg base CX0 8 f3 fd3 ["below","springs","roll","takes"] (HX K T))
    (gM:Df K mg "lowest_of" cY ["below","reaches"] f4 fd4) (wg:bT P w K mg base CX0 2 f4 fd4 ["below","reaches"] (sZ K T))
    (aY:Df K mg "reaches_of" bU ["below","one"] f5 fd5) (iw:bT P w K mg base CX0 3 f5 fd5 ["below","one"] (j5 K))
    (jh:Df K mg "meets" jl ["reaches","others"] f6 fd6) (vZ:bT P w K mg base CX0 1 f6 fd6 ["reaches","others"] (qT K T))
    (aZ:Df K mg "natural_of" bV ["below","springs"] f7 fd7) (iy:bT P w K mg base CX0 6 f7 fd7 ["below","springs"] (wN K T))
    (cL:Df K mg "wants_of" dG ["roll","calls"] f8 fd8) (mY:bT P w K mg base CX0 2 f8 fd8 ["roll","calls"] (qR K T)):bT P w K mg base (CXE P w) 9 f fd ["below","springs","roll","calls"] (vo K T cN):=by
  refine D.F.okX iW (fun vs H Q E h=>?_) (fun cdv A outer s H vs Q E hr h=>?_)
  · obtain ⟨_,_,_,_,_,_,_,_,rfl,_⟩:=h;rfl
  · obtain ⟨a,b,c,v,r,sp,ls,cs,rfl,⟨hA,hR,h64⟩,hB,hsl,hsn,hd,hl64,hC,hlc,ok,hcn,tk,qx,q⟩:=h
    obtain ⟨va,vs,rfl,hV,d0⟩:=hd.gU
    have hvl:vs.length=ls.length:=by rw [d0.length,List.length_map]
    have ok1:∀ l∈ls,pU r l:=fun l hl=>(ok l hl).1
    refine ⟨_,(aA (jN (gq (aG (xT rfl) rfl B.any PyProof.Rows.boot_any (ak (gK (ao d9) rfl ["below","springs","roll","calls","dry","lowest","numbers","natural","wants","total"] rfl ["one"] [none] (by decide +kernel) (by decide +kernel) (by decide +kernel) rfl (cB (pv 2)) (fun _ _ _=>(aK (i:=0) (show (["one"]:List Str).Nodup by decide +kernel) rfl (Or.inl rfl))) (fun _ _ _=>gk) (fun _ _ _=>(aH uP (hr.mono (by decide)) rfl fC.m fC.F.kp fC.b .nil bI (ak (pv 0) au)))) au)))
        (aD (Gd TV rfl (fun _ _ z=>z) rfl X_NoCut.m X_NoCut.q (ak Ux au)))
        eV)
      (aA (aO (i:=4) iW.nd rfl (Or.inl rfl) (aH HN (hr.mono (by decide)) rfl kh.m kh.F.kp kh.b .nil bI (ak (pv 0) (ak (pv 1) (ak (pv 2) (ak (aH Ey (hr.mono (by decide)) rfl jZ.m jZ.F.kp jZ.b .nil bI (ak (pv 0) (ak (pv 1) (ak (pv 2) (ak (pv 3) au))))) au))))))
      (aA (aO (i:=5) iW.nd rfl (Or.inr rfl) (aH wg (hr.mono (by decide)) rfl gM.m gM.F.kp gM.b .nil bI (ak (pv 0) (ak (pv 4) au))))
      (aA (iR (i:=6) (ao d9) rfl ["below","springs","roll","calls","dry","lowest","numbers","natural","wants","total"] rfl ["number","one","lowest","below"] [none,none,some 5,some 0] (by decide +kernel) (by decide +kernel) (by decide +kernel) rfl iW.nd rfl rfl (vD rfl B.enumerate (ak (pv 2) au)) (fun _ _ _=>(oO (K:=K) (n:=2) rfl rfl (bh (aK (i:=0) (show (["number","one","lowest","below"]:List Str).Nodup by decide +kernel) rfl (Or.inl rfl)) (bh (aK (i:=1) (show (["number","one","lowest","below"]:List Str).Nodup by decide +kernel) rfl (Or.inl rfl)) iC)))) (fun _ _ _=>(oJ (tR (gq (aH vZ (hr.mono (by decide)) rfl jh.m jh.F.kp jh.b .nil bI (ak (aH iw (hr.mono (by decide)) rfl aY.m aY.F.kp aY.b .nil bI (ak (pv 3) (ak (pv 1) au))) (ak (pv 2) au))))))) (fun _ _ _=>(pv 0)) rfl)
      (aA (aO (i:=7) iW.nd rfl (Or.inr rfl) (aH iy (hr.mono (by decide)) rfl aZ.m aZ.F.kp aZ.b .nil bI (ak (pv 0) (ak (pv 1) au))))
      (aA (aO (i:=8) iW.nd rfl (Or.inr rfl) (aH mY (hr.mono (by decide)) rfl cL.m cL.F.kp cL.b .nil bI (ak (pv 2) (ak (pv 3) au))))
      (aA (aO (i:=9) iW.nd rfl (Or.inl rfl) (aL eU (aG (rW rfl) rfl B.sum PyProof.Rows.boot_sum (ak (gK (ao d9) rfl ["below","springs","roll","calls","dry","lowest","numbers","natural","wants","total"] rfl ["reach","natural"] [none,some 7] (by decide +kernel) (by decide +kernel) (by decide +kernel) rfl (cB (pv 5)) (fun _ _ _=>(aK (i:=0) (show (["reach","natural"]:List Str).Nodup by decide +kernel) rfl (Or.inl rfl))) (fun _ _ _=>gk) (fun _ _ _=>(aX (gB (K:=K) rfl) (pv 1) (pv 0) (fun _ _=>rfl)))) au)) (aG (rW rfl) rfl B.sum PyProof.Rows.boot_sum (ak (gK (ao d9) rfl ["below","springs","roll","calls","dry","lowest","numbers","natural","wants","total"] rfl ["number","wants"] [none,some 8] (by decide +kernel) (by decide +kernel) (by decide +kernel) rfl (cB (pv 6)) (fun _ _ _=>(aK (i:=0) (show (["number","wants"]:List Str).Nodup by decide +kernel) rfl (Or.inl rfl))) (fun _ _ _=>gk) (fun _ _ _=>(aX (gB (K:=K) rfl) (pv 1) (pv 0) (fun _ _=>rfl)))) au))))
      (aD (bx (kj (ak (pv 9) (ak (pv 5) (ak (pv 6) au))))))))))))),?_⟩
    refine Zo ?_
    intro zu0 zu1 zu2 zu3 zu4 zu5 zu6 zu7
    have O:=Ow.refl tk
    refine ⟨_,rfl,va,rfl,⟨_,hV⟩,fun acc hacc=>?_⟩
    refine dY (K:=K) (xs:=vs) (fun i τ H'=>Iv (∃ (v0:Option V),τ=[v0]∧Ow T H H' [(acc,.lst (((ls.take i).map fun l:Lic=>!decide (l.back=-1)).map V.bl))])) ⟨trivial,none,rfl,O.mk' hacc rfl⟩ (fun i τ H' _ ⟨_,_,_,O⟩=>O.same.seq hV) ?_ ?_
    · rintro i y τ H3 hy ⟨-,v0,rfl,O⟩
      obtain ⟨al,l,rfl,hl,hT⟩:=d0.mV hy
      refine yU ?_
      refine ⟨_,rfl,al,l,rfl,hT.mo O.same,?_⟩
      refine ⟨_,O.get 0,aR (by rw [List.length_map,List.length_map,List.length_take];omega),?_⟩
      walk_at "pt"
      refine ⟨trivial,_,rfl,?_⟩
      rw [Tn.bM hl,List.map_append,List.map_append];exact O
    rintro τ H3 ⟨-,v0,rfl,O⟩
    rw [hvl,List.take_of_length_le (Nat.le_refl _)] at O
    refine ⟨acc,_,rfl,O.sq 0,?_⟩
    by_cases hback:∃ l∈ls,l.back≠-1
    · rw [show (ls.map fun l:Lic=>!decide (l.back=-1)).any id=true from by
        rw [List.any_map,List.any_eq_true]
        obtain ⟨l,hl,hb⟩:=hback
        exact ⟨l,hl,by simp [hb]⟩]
      refine ⟨_,rfl,Io ?_⟩
      refine ⟨szl,fun e he=>?_⟩
      exact qx hback e _ O.same he
    have hback:∀ l∈ls,l.back=-1:=fun l hl=>Classical.byContradiction fun n=>hback ⟨l,hl,n⟩
    have q:=q hback
    rw [show (ls.map fun l:Lic=>!decide (l.back=-1)).any id=false from by
      rw [List.any_map,List.any_eq_false]
      intro l hl
      simp [hback l hl]]
    refine ⟨_,rfl,nF ?_⟩
    have O:=O.tail
    refine ⟨_,rfl,_,rfl,_,rfl,_,rfl,_,rfl,_,rfl,_,rfl,a,b,c,.ref va,r,sp,ls,cs,rfl,⟨O.same.seq hA,hR,h64⟩,O.same.seq hB,hsl,hsn,hd.mR O.same,hl64,O.same.seq hC,hlc,ok,hcn,O.same.t1,O.ur fun lt H4 ys O e=>?_⟩
    obtain ⟨xs,rfl,DL⟩:=e
    have hxl:=DL.len
    refine ⟨a,b,lt,.ref va,r,sp,ls,xs,rfl,⟨O.same.seq hA,hR,h64⟩,O.same.seq hB,hsl,hd.mR O.same,O.sq 0,hxl.symm,ok1,O.same.t1,O.ur fun ly H5 ys O e=>?_⟩
    subst e
    have hyl:(YS r sp ls xs).length<64:=by have:=pY (pP r sp ls xs) r.length;rw [Tn.dz];omega
    refine ⟨_,rfl,_,rfl,a,ly,r,_,rfl,⟨O.same.seq hA,hR,h64⟩,O.sq 0,hyl,rO r sp ls xs,O.same.t1,O.ur fun lo H6 ys O e=>?_⟩
    subst e
    have O:=(O.del 1).del 1
    walk_at "er"
    have tot:=DW hR ok1 hback DL
    have hcl:(QV r sp ls xs).length≤64:=by have:=Rv.GD r (YS r sp ls xs) r.length;rw [Tn.dz];omega
    have hcr:∀ x∈QV r sp ls xs,0≤x∧x<(r.length:Int):=fun x hx=>rO r sp ls xs x (Rv.ug ((Rv.oW (rO r sp ls xs) x).mp hx))
    have q:=fun t nu H'=>q t lo nu H' xs DL
    have O:Ow T H _ [(lo,.lst ((QV r sp ls xs).map V.int))]:=O
    generalize QV r sp ls xs=L at O tot hcl hcr q
    /- numbers -/
    refine ⟨_,rfl,va,_,rfl,O.same.seq hV,fun nu hnu=>?_⟩
    refine uG (K:=K) (xs:=vs) (fun i τ H'=>Iv (∃ (v0 v1:Option V),τ=[v0,v1,some (.ref lo),some (.ref a)]∧Ow T H H' [(nu,.lst ((Tn.asI (pO r ls L i)).map V.int)),(lo,.lst (L.map V.int))]))
      ⟨trivial,none,none,rfl,O.mk' hnu rfl⟩ (fun i τ H' _ ⟨_,_,_,_,O⟩=>O.same.seq hV) ?_ ?_
    · rintro i y t' τ H7 hy ⟨-,v0,v1,rfl,O⟩ ht'
      obtain ⟨al,l,rfl,hl,hT⟩:=d0.mV hy
      have hi:=(List.getElem?_eq_some_iff.mp hl).1
      have hnl:=uc r ls L i
      walk_at "nw"
      refine ⟨t',_,rfl,O.sqT 0,rfl,_,_,rfl,_,_,rfl,rfl,?_⟩
      have O:=O.tail
      refine ⟨_,rfl,_,rfl,a,al,r,l,rfl,O.same.seq hA,hR,by omega,hT.mo O.same,ok1 l (List.mem_of_getElem? hl),O.got fun lw H8 ws O e=>?_⟩
      subst e
      refine ⟨_,rfl,lw,lo,_,_,rfl,O.sq 0,O.sq 2,by have:=yq r l.start l.back;omega,O.same.t1,fun H9 sm=>?_⟩
      have O:=(O.pQ sm).tail
      refine ⟨_,rfl,?_⟩
      have ew:uW r ls i=Rv.jq r l.start l.back:=mF hl
      cases hm:Rv.fO (Rv.jq r l.start l.back) L with
      | true=>exact ⟨trivial,_,_,rfl,by rw [qp,ew,if_pos hm,List.append_nil];exact O⟩
      | false =>
        refine ⟨_,rfl,_,O.get 0,aR (by rw [List.length_map,Tn.dz];omega),?_⟩
        walk_at "pt"
        refine ⟨trivial,_,_,rfl,?_⟩
        rw [qp,ew,if_neg (by rw [hm];decide),pF];exact O
    rintro τ H7 ⟨-,v0,v1,rfl,O⟩
    rw [hvl] at O
    refine ⟨_,rfl,_,rfl,a,b,r,sp,rfl,⟨O.same.seq hA,hR,h64⟩,O.same.seq hB,hsl,O.same.t1,O.ur fun ln H8 ys O e=>?_⟩
    subst e
    refine ⟨_,rfl,_,rfl,.ref va,c,ls,cs,rfl,hd.mR O.same,O.same.seq hC,hlc,by omega,O.same.t1,O.ur fun lw H9 ys O e=>?_⟩
    subst e
    have hnl:(Rv.nats r sp).length=r.length:=rE r sp
    have hwl:=pZ hlc
    have hmr:∀ k∈pO r ls L ls.length,k<ls.length:=fun k hk=>List.mem_range.mp (List.mem_filter.mp hk).1
    have hml:=uc r ls L ls.length
    generalize hne:pO r ls L ls.length=N at O tot hmr hml
    refine ⟨_,rfl,lo,rfl,⟨_,O.sq 3⟩,fun l1 hl1=>?_⟩
    refine dY (K:=K) (xs:=L.map V.int) (fun i τ H'=>Iv (∃ (v0:Option V),τ=[v0,some (.ref ln)]∧Ow T H H' [(l1,.lst (((L.take i).map fun z=>(Rv.nats r sp).getD z.toNat 0).map V.int)),(lw,.lst ((iD ls cs).map V.int)),(ln,.lst ((Rv.nats r sp).map V.int)),(nu,.lst ((Tn.asI N).map V.int)),(lo,.lst (L.map V.int))])) ⟨trivial,none,rfl,O.mk' hl1 rfl⟩ (fun i τ H' _ ⟨_,_,_,O⟩=>O.sq 4) ?_ ?_
    · rintro i y τ H10 hy ⟨-,v0,rfl,O⟩
      obtain ⟨z,hz,rfl⟩:=ints_get hy
      obtain ⟨z0,z1⟩:=hcr z (List.mem_of_getElem? hz)
      have hi:=(List.getElem?_eq_some_iff.mp hz).1
      refine yU ?_
      refine ⟨_,rfl,_,rfl,ln,_,_,_,rfl,rfl,O.sq 2,bR z0 (by rw [hnl];exact z1),?_⟩
      refine ⟨_,O.get 0,aR (by rw [List.length_map,List.length_map,List.length_take];omega),?_⟩
      walk_at "pt"
      refine ⟨trivial,_,rfl,?_⟩
      rw [Tn.bM hz,List.map_append,List.map_append];exact O
    rintro τ H10 ⟨-,v0,rfl,O⟩
    rw [List.length_map,List.take_of_length_le (Nat.le_refl _)] at O
    refine ⟨l1,_,rfl,O.sq 0,?_⟩
    have O:=O.tail
    refine ⟨_,rfl,nu,rfl,⟨_,O.sq 2⟩,fun l2 hl2=>?_⟩
    refine dY (K:=K) (xs:=(Tn.asI N).map V.int) (fun i τ H'=>Iv (∃ (v0:Option V),τ=[v0,some (.ref lw)]∧Ow T H H' [(l2,.lst (((N.take i).map fun k=>(iD ls cs).getD k 0).map V.int)),(lw,.lst ((iD ls cs).map V.int)),(ln,.lst ((Rv.nats r sp).map V.int)),(nu,.lst ((Tn.asI N).map V.int)),(lo,.lst (L.map V.int))])) ⟨trivial,none,rfl,O.mk' hl2 rfl⟩ (fun i τ H' _ ⟨_,_,_,O⟩=>O.sq 3) ?_ ?_
    · rintro i y τ H11 hy ⟨-,v0,rfl,O⟩
      obtain ⟨z,hz,rfl⟩:=ints_get hy
      have hz2:∃ k,N[i]?=some k∧z=(k:Int):=by
        unfold Tn.asI at hz
        rw [List.getElem?_map] at hz
        cases e:N[i]? with
        | none=>rw [e] at hz;cases hz
        | some k=>rw [e] at hz;exact ⟨k,rfl,(Option.some.inj hz).symm⟩
      obtain ⟨kk,hk,rfl⟩:=hz2
      have hkl:=hmr kk (List.mem_of_getElem? hk)
      refine yU ?_
      refine ⟨_,rfl,_,rfl,lw,_,_,_,rfl,rfl,O.sq 1,eO (bN (ns:=iD ls cs) (k:=kk) (by omega)),?_⟩
      refine ⟨_,O.get 0,aR (by rw [List.length_map,List.length_map,List.length_take];omega),?_⟩
      walk_at "pt"
      refine ⟨trivial,_,rfl,?_⟩
      rw [Tn.bM hk,List.map_append,List.map_append];exact O
    rintro τ H11 ⟨-,v0,rfl,O⟩
    rw [List.length_map,Tn.dz,List.take_of_length_le (Nat.le_refl _)] at O
    refine ⟨l2,_,rfl,O.sq 0,_,_,rfl,rfl,?_⟩
    dsimp only
    rw [tot]
    have O:=((O.del 0).del 0).del 0
    walk_at "er"
    refine ⟨_,rfl,_,rfl,_,rfl,szl,fun t ht=>?_⟩
    walk_at "nw"
    exact q t nu _ (by rw [hne];exact O)
structure Er (K:PySem.W.Frag) (cN cS:Addr) (os:List Addr):Prop where
  mS:PySem.W.exmOne K (.ref cN) (.ref cS)=some true
  no:∀ c∈os,PySem.W.kitOne K (.ref cN) (.ref c)=some false
  kN:PySem.W.kitOne K (.ref cN) (.ref cN)=some true
  kV:PySem.W.kitOne K (.ref cN) (.type "ValueError")=some true
abbrev bA:Stmt:=top 61
theorem lN:aQ ["e"] ["e"] (ao bA):=⟨rfl,rfl,rfl,by decide +kernel,rfl,by decide +kernel,by decide +kernel⟩
def wM (cN:Addr):Sp:=fun vs H Q _=>∃ (e:Addr),vs=[.ref e]∧H e=some (.ext (XAt e cN))∧Q (.bl false) H
theorem Gn {f cN cS cNoPaper cNoDay cNoHolder cNoLicence cNoNumber cNoPond cNoReach cNoRiver cNoRow cNotAlone cNotYours cTooMuch cFull cFixed cHarms:Addr} {fd:FuncData} (D:Df K mg "_law_other_name" bA ["e"] f fd) (B:Blt mg) (X_NoCut:jE K mg "NoCut" cN) (X_NoPaper:jE K mg "NoPaper" cNoPaper) (X_NoDay:jE K mg "NoDay" cNoDay) (X_NoHolder:jE K mg "NoHolder" cNoHolder) (X_NoLicence:jE K mg "NoLicence" cNoLicence) (X_NoNumber:jE K mg "NoNumber" cNoNumber) (X_NoPond:jE K mg "NoPond" cNoPond) (X_NoReach:jE K mg "NoReach" cNoReach) (X_NoRiver:jE K mg "NoRiver" cNoRiver) (X_NoRow:jE K mg "NoRow" cNoRow) (X_NotAlone:jE K mg "NotAlone" cNotAlone) (X_NotYours:jE K mg "NotYours" cNotYours) (X_TooMuch:jE K mg "TooMuch" cTooMuch) (X_Full:jE K mg "Full" cFull) (X_Fixed:jE K mg "Fixed" cFixed) (X_Harms:jE K mg "Harms" cHarms) (TT:Er K cN cS [cNoPaper,cNoDay,cNoHolder,cNoLicence,cNoNumber,cNoPond,cNoReach,cNoRiver,cNoRow,cNotAlone,cNotYours,cTooMuch,cFull,cFixed,cHarms]):bT P w K mg base CX0 1 f fd ["e"] (wM cN):=by
  refine D.F.ok lN (fun vs H Q E h=>?_) (fun cdv A outer s H vs Q E hr h=>?_)
  · obtain ⟨_,rfl,_⟩:=h;rfl
  · obtain ⟨e,rfl,hX,q⟩:=h
    have no:=TT.no
    simp only [List.mem_cons,List.not_mem_nil,or_false,forall_eq_or_imp,forall_eq] at no
    obtain ⟨nNoPaper,nNoDay,nNoHolder,nNoLicence,nNoNumber,nNoPond,nNoReach,nNoRiver,nNoRow,nNotAlone,nNotYours,nTooMuch,nFull,nFixed,nHarms⟩:=no
    refine ⟨_,(aA (jN (PW.pt (pw_or (gq (aG aW rfl B.isinstance PyProof.Rows.boot_isinstance (ak (pv 0) (ak (iG rfl X_NoPaper.m) au)))) (pw_or (gq (aG aW rfl B.isinstance PyProof.Rows.boot_isinstance (ak (pv 0) (ak (iG rfl X_NoDay.m) au)))) (pw_or (gq (aG aW rfl B.isinstance PyProof.Rows.boot_isinstance (ak (pv 0) (ak (iG rfl X_NoHolder.m) au)))) (pw_or1 (gq (aG aW rfl B.isinstance PyProof.Rows.boot_isinstance (ak (pv 0) (ak (iG rfl X_NoLicence.m) au)))))))))
        (aD (bx Ao))
        eV)
      (aA (jN (PW.pt (pw_or (gq (aG aW rfl B.isinstance PyProof.Rows.boot_isinstance (ak (pv 0) (ak (iG rfl X_NoNumber.m) au)))) (pw_or (gq (aG aW rfl B.isinstance PyProof.Rows.boot_isinstance (ak (pv 0) (ak (iG rfl X_NoPond.m) au)))) (pw_or (gq (aG aW rfl B.isinstance PyProof.Rows.boot_isinstance (ak (pv 0) (ak (iG rfl X_NoReach.m) au)))) (pw_or1 (gq (aG aW rfl B.isinstance PyProof.Rows.boot_isinstance (ak (pv 0) (ak (iG rfl X_NoRiver.m) au)))))))))
        (aD (bx Ao))
        eV)
      (aA (jN (PW.pt (pw_or (gq (aG aW rfl B.isinstance PyProof.Rows.boot_isinstance (ak (pv 0) (ak (iG rfl X_NoRow.m) au)))) (pw_or (gq (aG aW rfl B.isinstance PyProof.Rows.boot_isinstance (ak (pv 0) (ak (iG rfl X_NotAlone.m) au)))) (pw_or (gq (aG aW rfl B.isinstance PyProof.Rows.boot_isinstance (ak (pv 0) (ak (iG rfl X_NotYours.m) au)))) (pw_or1 (gq (aG aW rfl B.isinstance PyProof.Rows.boot_isinstance (ak (pv 0) (ak (iG rfl X_TooMuch.m) au)))))))))
        (aD (bx Ao))
        eV)
      (aD (bx (Uy (aG aW rfl B.isinstance PyProof.Rows.boot_isinstance (ak (pv 0) (ak (iG rfl X_Full.m) au))) (Uy (aG aW rfl B.isinstance PyProof.Rows.boot_isinstance (ak (pv 0) (ak (iG rfl X_Fixed.m) au))) (Am (aG aW rfl B.isinstance PyProof.Rows.boot_isinstance (ak (pv 0) (ak (iG rfl X_Harms.m) au))))))))))),?_⟩
    refine Zn ?_
    intro zu0 zu1 zu2 zu3 zu4 zu5
    refine ⟨_,rfl,e,cN,_,_,false,rfl,hX,X_NoCut.x,.inr ⟨_,rfl,rfl⟩,nNoPaper,_,rfl,nF ?_⟩
    refine ⟨_,rfl,e,cN,_,_,false,rfl,hX,X_NoCut.x,.inr ⟨_,rfl,rfl⟩,nNoDay,_,rfl,nF ?_⟩
    refine ⟨_,rfl,e,cN,_,_,false,rfl,hX,X_NoCut.x,.inr ⟨_,rfl,rfl⟩,nNoHolder,_,rfl,nF ?_⟩
    refine ⟨_,rfl,e,cN,_,_,false,rfl,hX,X_NoCut.x,.inr ⟨_,rfl,rfl⟩,nNoLicence,_,rfl,nF ?_⟩
    refine ⟨_,rfl,e,cN,_,_,false,rfl,hX,X_NoCut.x,.inr ⟨_,rfl,rfl⟩,nNoNumber,_,rfl,nF ?_⟩
    refine ⟨_,rfl,e,cN,_,_,false,rfl,hX,X_NoCut.x,.inr ⟨_,rfl,rfl⟩,nNoPond,_,rfl,nF ?_⟩
    refine ⟨_,rfl,e,cN,_,_,false,rfl,hX,X_NoCut.x,.inr ⟨_,rfl,rfl⟩,nNoReach,_,rfl,nF ?_⟩
    refine ⟨_,rfl,e,cN,_,_,false,rfl,hX,X_NoCut.x,.inr ⟨_,rfl,rfl⟩,nNoRiver,_,rfl,nF ?_⟩
    refine ⟨_,rfl,e,cN,_,_,false,rfl,hX,X_NoCut.x,.inr ⟨_,rfl,rfl⟩,nNoRow,_,rfl,nF ?_⟩
    refine ⟨_,rfl,e,cN,_,_,false,rfl,hX,X_NoCut.x,.inr ⟨_,rfl,rfl⟩,nNotAlone,_,rfl,nF ?_⟩
    refine ⟨_,rfl,e,cN,_,_,false,rfl,hX,X_NoCut.x,.inr ⟨_,rfl,rfl⟩,nNotYours,_,rfl,nF ?_⟩
    refine ⟨_,rfl,e,cN,_,_,false,rfl,hX,X_NoCut.x,.inr ⟨_,rfl,rfl⟩,nTooMuch,_,rfl,nF ?_⟩
    refine ⟨_,rfl,e,cN,_,_,false,rfl,hX,X_NoCut.x,.inr ⟨_,rfl,rfl⟩,nFull,_,rfl,nF ?_⟩
    refine ⟨_,rfl,e,cN,_,_,false,rfl,hX,X_NoCut.x,.inr ⟨_,rfl,rfl⟩,nFixed,_,rfl,nF ?_⟩
    exact ⟨_,rfl,e,cN,_,_,false,rfl,hX,X_NoCut.x,.inr ⟨_,rfl,rfl⟩,nHarms,q⟩
abbrev bY:Stmt:=top 62
theorem fZ:aQ ["below","springs","roll","calls","caught","e"] ["below","springs","roll","calls"] (ao bY):=⟨rfl,rfl,rfl,by decide +kernel,rfl,by decide +kernel,by decide +kernel⟩
def wL (K:PySem.W.Frag) (T:gG):Sp:=fun vs H Q _=>∃ (a b c:Addr) (v:V) (r s:List Int) (ls:List Lic) (cs:List Int),vs=[.ref a,.ref b,v,.ref c]∧Ib K H a r∧SqL K H b (s.map V.int)∧s.length=r.length∧(∀ x∈s,0≤x)∧Den K H v (lA ls)∧ls.length<64∧SqL K H c (cs.map V.int)∧ls.length=cs.length∧(∀ l∈ls,ji r l)∧(∀ c∈cs,0≤c)∧TabsOk T H∧(∃ l∈ls,l.back≠-1)∧∀ H',bf T H H'→Q (.bl true) H'
theorem Gm {f f1 f2 cN cS:Addr} {os:List Addr} {fd fd1 fd2:FuncData} (D:Df K mg "_law_refused" bY ["below","springs","roll","calls"] f fd) (B:Blt mg) (X_NoCut:jE K mg "NoCut" cN) (X_SluiceError:jE K mg "SluiceError" cS) (TT:Er K cN cS os)
    (gF:Df K mg "cut_of" d9 ["below","springs","roll","calls"] f1 fd1) (sE:bT P w K mg base (CXE P w) 9 f1 fd1 ["below","springs","roll","calls"] (vo K T cN))
    (cg:Df K mg "_law_other_name" bA ["e"] f2 fd2) (mZ:bT P w K mg base CX0 1 f2 fd2 ["e"] (wM cN)):bT P w K mg base CX0 10 f fd ["below","springs","roll","calls"] (wL K T):=by
  refine D.F.ok fZ (fun vs H Q E h=>?_) (fun cdv A outer s H vs Q E hr h=>?_)
  · obtain ⟨_,_,_,_,_,_,_,_,rfl,_⟩:=h;rfl
  · obtain ⟨a,b,c,v,r,sp,ls,cs,rfl,hI,hB,hsl,hsn,hd,hl64,hC,hlc,ok,hcn,tk,hb,q⟩:=h
    refine ⟨_,(aA (aO (i:=4) fZ.nd rfl (Or.inl rfl) Uz)
      (aA (Uv (i:=5) ⟨rfl,rfl,rfl⟩ rfl (Q0 (Q5 (Q6 sE (hr.mono (by decide)) rfl gF.m gF.F.kp gF.b .nil (ak (pv 0) (ak (pv 1) (ak (pv 2) (ak (pv 3) au))))))) rfl X_SluiceError.m fZ.nd rfl rfl (fun e =>
        (aD (aO (i:=4) fZ.nd rfl (Or.inl rfl) (pv 5)))))
      (aD (bx (Aq (aG aW rfl B.isinstance PyProof.Rows.boot_isinstance (ak (pv 4) (ak (iG rfl X_NoCut.m) au))) (Aq (aG aW rfl B.isinstance PyProof.Rows.boot_isinstance (ak (pv 4) (ak (rC (v:=.ty "ValueError") rfl B.ValueError TQ rfl) au))) (Am (Ih (aH mZ (hr.mono (by decide)) rfl cg.m cg.F.kp cg.b .nil bI (ak (pv 4) au)))))))))),?_⟩
    refine Zm ?_
    intro zu0 zu1
    refine ⟨_,rfl,_,rfl,_,rfl,_,rfl,a,b,c,v,r,sp,ls,cs,rfl,hI,hB,hsl,hsn,hd,hl64,hC,hlc,ok,hcn,tk,fun _ e H' s' he=>⟨cN,e,rfl,rfl,TT.mS,?_⟩,fun hn=>absurd hb fun ⟨l,hl,h1⟩=>h1 (hn l hl)⟩
    refine ⟨_,rfl,?_⟩
    have hX:(upd H' e (.ext (XAt e cN))) e=some (.ext (XAt e cN)):=bB
    have sX:bf T H (upd H' e (.ext (XAt e cN))):=s'.upd (s'.free he) (.inl he)
    generalize upd H' e (.ext (XAt e cN))=H2 at hX sX
    refine ⟨_,rfl,e,cN,_,_,true,rfl,hX,X_NoCut.x,.inr ⟨_,rfl,rfl⟩,TT.kN,_,rfl,Io ?_⟩
    refine ⟨_,rfl,e,cN,_,_,true,rfl,hX,X_NoCut.x,.inl ⟨_,rfl,rfl⟩,TT.kV,_,rfl,Io ?_⟩
    exact ⟨_,rfl,e,rfl,hX,_,rfl,q H2 sX⟩
abbrev bQ:Stmt:=top 59
theorem dD:aQ ["cell","below","far","xs","tops","way","back","most"] ["cell","below","far"] (ao bQ):=⟨rfl,rfl,rfl,by decide +kernel,rfl,by decide +kernel,by decide +kernel⟩
def HW (K:PySem.W.Frag) (T:gG):Sp:=fun vs H Q _=>∃ (a:Addr) (r:List Int) (c far:Int),vs=[.int c,.ref a,.int far]∧SqL K H a (r.map V.int)∧Rv.dB r∧r.length≤40∧(∃ p:Nat,∃ x,r[p]?=some x∧0≤x)∧0≤far∧TabsOk T H ∧
  ∀ (t t2:Addr) (H':Hp) (l:Lic) (ca:Int),Ow T H H' [(t,.tup [.ref t2,.int ca]),(t2,.tup (zp l))]→ji r l→0≤l.day→l.back≠-1→0≤ca→Q (.ref t) H'
def pL (r:List Int) (n:Nat):List Nat:=(List.range n).filter fun i=>!decide (r.getD i 0=-1)
theorem p8 (r:List Int) (n:Nat):pL r (n + 1)=pL r n++(if r.getD n 0=-1 then [] else [n]):=by
  unfold pL;rw [List.range_succ,List.filter_append]
  congr 1
  by_cases h:r.getD n 0=-1
  · rw [if_pos h,List.filter_cons,List.filter_nil,if_neg (by rw [decide_eq_true h];decide)]
  · rw [if_neg h,List.filter_cons,List.filter_nil,if_pos (by rw [decide_eq_false h];rfl)]
theorem sU (r:List Int) (n:Nat):(pL r n).length≤n:=by
  unfold pL;refine Nat.le_trans (List.length_filter_le _ _) (by rw [List.length_range];exact Nat.le_refl _)
theorem U3 {f f1 f2:Addr} {fd fd1 fd2:FuncData} (D:Df K mg "_law_giving" bQ ["cell","below","far"] f fd) (B:Blt mg)
    (aM:Df K mg "_law_mixed" bG ["cell","many"] f1 fd1) (d8:bT P w K mg base CX0 2 f1 fd1 ["cell","many"] oA)
    (iU:Df K mg "_law_way" fj ["below","reach"] f2 fd2) (yS:bT P w K mg base CX0 1 f2 fd2 ["below","reach"] (zP K T)):bT P w K mg base CX0 3 f fd ["cell","below","far"] (HW K T):=by
  refine D.F.ok dD (fun vs H Q E h=>?_) (fun cdv A outer s H vs Q E hr h=>?_)
  · obtain ⟨_,_,_,_,rfl,_⟩:=h;rfl
  · obtain ⟨a,r,c,far,rfl,hA,hR,r40,⟨pp,px,hp1,hp2⟩,hfar,tk,q⟩:=h
    have hml:(r.map V.int).length=r.length:=List.length_map _
    refine ⟨_,(aA (aO (i:=3) dD.nd rfl (Or.inl rfl) (aH d8 (hr.mono (by decide)) rfl aM.m aM.F.kp aM.b .nil bI (ak (pv 0) (ak aq au))))
      (aA (iR (i:=4) (ao bQ) rfl ["cell","below","far","xs","tops","way","back","most"] rfl ["reach","below"] [none,some 1] (by decide +kernel) (by decide +kernel) (by decide +kernel) rfl dD.nd rfl rfl (oN rfl B.range (ak (aG aV rfl B.len PySem.boot_len (ak (pv 1) au)) au)) (fun _ _ _=>(aK (i:=0) (show (["reach","below"]:List Str).Nodup by decide +kernel) rfl (Or.inl rfl))) (fun _ _ _=>(oJ (cA vI (aX (gB (K:=K) rfl) (pv 1) (pv 0) (fun _ _=>rfl)) (rA lJ aq) (dJ _)))) (fun _ _ _=>(pv 0)) rfl)
      (aA (aO (i:=5) dD.nd rfl (Or.inl rfl) (aH yS (hr.mono (by decide)) rfl iU.m iU.F.kp iU.b .nil bI (ak (pv 1) (ak (aX aJ (pv 4) (aL bK (aX aJ (pv 3) aq (fun _ _=>rfl)) (aG aV rfl B.len PySem.boot_len (ak (pv 4) au))) (fun _ _=>rfl)) au))))
      (aA (aO (i:=6) dD.nd rfl (Or.inl rfl) (aX aJ (pv 5) (aL eU aq (aL bK (aX aJ (pv 3) aq (fun _ _=>rfl)) (aL qj (aG aV rfl B.len PySem.boot_len (ak (pv 5) au)) aq))) (fun _ _=>rfl)))
      (aA (aO (i:=7) dD.nd rfl (Or.inl rfl) (aL eU (aL bK (aL iu (aX aJ (pv 3) aq (fun _ _=>rfl)) aq) (aL ql aq aq)) aq))
      (aD (bx (kj (ak (kj (ak (aL iu (aL bK (aX aJ (pv 3) aq (fun _ _=>rfl)) aq) (pv 2)) (ak (aX aJ (pv 5) aq (fun _ _=>rfl)) (ak (pv 6) (ak (aX aJ (eH (ak aq (ak (pv 7) (ak (pv 7) (ak aq au))))) (aL bK (pv 0) aq) (fun _ _=>rfl)) au))))) (ak (aX aJ (eH (ak (pv 7) (ak aq (ak (aL bK (aX aJ (pv 3) aq (fun _ _=>rfl)) aq) (ak aq au))))) (aL bK (pv 0) aq) (fun _ _=>rfl)) au)))))))))),?_⟩
    refine Zk ?_
    intro zu0 zu1 zu2 zu3 zu4
    have O:=Ow.refl tk
    refine ⟨_,rfl,c,5,rfl,by omega,by omega,O.got fun lx H2 xs O e=>?_⟩
    obtain ⟨ys,rfl,hy⟩:=e
    have hyl:ys.length=5:=by rw [hy,lZ];rfl
    have hyn:∀ k,0≤ys.getD k 0:=fun k=>by rw [hy];exact vQ
    clear hy
    refine ⟨_,rfl,a,_,rfl,.inl (O.same.seq hA),_,rfl,by rw [hml];omega,by rw [hml];omega,fun lt hlt=>?_⟩
    rw [hml,Int.toNat_natCast]
    refine mW (fun i τ H'=>Iv (∃ (v0:Option V),τ=[v0,some (.ref a)]∧Ow T H H' [(lt,.lst ((Tn.asI (pL r i)).map V.int)),(lx,.lst (ys.map V.int))])) ⟨trivial,none,rfl,O.mk' hlt rfl⟩ ?_ ?_
    · rintro i τ H3 hi ⟨-,v0,rfl,O⟩
      rw [show (0:Int) + (i:Int)=(i:Int) by omega]
      have htl:=sU r i
      refine ⟨_,rfl,_,rfl,a,_,_,_,rfl,rfl,O.same.seq hA,eO (bN (ns:=r) (k:=i) (by omega)),1,rfl,rfl,_,rfl,ifN (ifI (fun h1=>⟨trivial,_,rfl,by rw [p8,if_pos h1,List.append_nil];exact O⟩) fun h1=>?_)⟩
      refine ⟨_,rfl,_,O.get 0,aR (by rw [List.length_map,Tn.dz];omega),?_⟩
      walk_at "pt"
      refine ⟨trivial,_,rfl,?_⟩
      rw [p8,if_neg h1,pF];exact O
    rintro τ H3 ⟨-,v0,rfl,O⟩
    have hpl:=(List.getElem?_eq_some_iff.mp hp1).1
    have hm1:pp∈pL r r.length:=List.mem_filter.mpr ⟨List.mem_range.mpr hpl,by
      rw [List.getD_eq_getElem?_getD,hp1]
      show (!decide (px=-1))=true
      rw [decide_eq_false (by omega)];rfl⟩
    have hpos:0<(pL r r.length).length:=List.length_pos_of_mem hm1
    have hall:∀ k∈pL r r.length,k<r.length∧r.getD k 0≠-1:=fun k hk=>by
      obtain ⟨h1,h2⟩:=List.mem_filter.mp hk
      refine ⟨List.mem_range.mp h1,fun z=>?_⟩
      rw [decide_eq_true z] at h2
      cases h2
    have htl:=sU r r.length
    generalize pL r r.length=tp at O hpos hall htl
    have g0:=Int.emod_nonneg (ys.getD (0:Int).toNat 0) (show (tp.length:Int)≠0 by omega)
    have g1:=Int.emod_lt_of_pos (ys.getD (0:Int).toNat 0) (show (0:Int)<(tp.length:Int) by omega)
    have htm:((Tn.asI tp).map V.int).length=tp.length:=by rw [List.length_map,Tn.dz]
    refine ⟨_,rfl,_,rfl,_,rfl,lx,_,0,_,rfl,rfl,O.sq 1,bR (by omega) (by omega),_,rfl,lt,_,rfl,.inl (O.sq 0),_,_,rfl,rfl,(by rw [htm];omega),?_⟩
    dsimp only
    rw [htm]
    generalize ys.getD (0:Int).toNat 0 % (tp.length:Int)=gi at g0 g1
    obtain ⟨gn,rfl⟩:=Int.eq_ofNat_of_zero_le g0
    obtain ⟨st,hst⟩:∃ st,tp[gn]?=some st:=⟨_,List.getElem?_eq_getElem (by omega)⟩
    obtain ⟨st1,st2⟩:=hall st (List.mem_of_getElem? hst)
    have hat:(Tn.asI tp)[gn]?=some (st:Int):=by unfold Tn.asI;rw [List.getElem?_map,hst];rfl
    refine ⟨lt,_,_,_,rfl,rfl,O.sq 0,eO hat,a,r,(st:Int),rfl,O.same.seq hA,hR,by omega,by omega,by omega,O.same.t1,O.ur fun lw H4 ws O e=>?_⟩
    subst e
    have hn0:Rv.nxt r (st:Int)=r.getD st 0:=by
      have:=Rv.jo (r:=r) (p:=(st:Int)) (by omega) (by omega)
      rw [Int.toNat_natCast] at this
      rw [List.getD_eq_getElem?_getD,this];rfl
    have hnx:0≤Rv.nxt r (st:Int)∧Rv.nxt r (st:Int)<r.length:=by
      rcases hR.step (p:=(st:Int)) (by omega) (by omega) with e | e
      · exact absurd (hn0.symm.trans e) st2
      · exact e
    have hwc:Rv.walk r (st:Int)=(st:Int) :: Rv.walk r (Rv.nxt r (st:Int)):=Rv.bJ hR (by omega) (by omega)
    have hw2:1<(Rv.walk r (st:Int)).length:=by
      rw [hwc,Rv.bJ hR hnx.1 hnx.2];simp
    have hw0:(Rv.walk r (st:Int))[0]?=some (st:Int):=by rw [hwc];rfl
    have hwm:(((Rv.walk r (st:Int)).map V.int).length:Int)=((Rv.walk r (st:Int)).length:Int):=by rw [List.length_map]
    have j0:=Int.emod_nonneg (ys.getD (1:Int).toNat 0) (show ((Rv.walk r (st:Int)).length:Int) - 1≠0 by omega)
    have j1:=Int.emod_lt_of_pos (ys.getD (1:Int).toNat 0) (show (0:Int)<((Rv.walk r (st:Int)).length:Int) - 1 by omega)
    refine ⟨_,rfl,_,rfl,lx,_,1,_,rfl,rfl,O.sq 2,bR (by omega) (by omega),_,rfl,lw,_,rfl,.inl (O.sq 0),_,_,rfl,rfl,_,_,rfl,rfl,(by rw [hwm];omega),_,_,rfl,rfl,?_⟩
    dsimp only
    rw [hwm]
    have hbm:(Rv.walk r (st:Int)).getD (1 + ys.getD (1:Int).toNat 0 % (((Rv.walk r (st:Int)).length:Int) - 1)).toNat 0∈Rv.walk r (st:Int):=getD_mem' (by omega)
    refine ⟨lw,_,_,_,rfl,rfl,O.sq 0,bR (by omega) (by omega),?_⟩
    generalize (Rv.walk r (st:Int)).getD (1 + ys.getD (1:Int).toNat 0 % (((Rv.walk r (st:Int)).length:Int) - 1)).toNat 0=bk at hbm
    have hb0:=(Rv.wA hR (st:Int) (by omega) (by omega) bk hbm).1
    have m0:0≤ys.getD (2:Int).toNat 0 * 7919 % 10 ^ (12:Int).toNat + 1:=by have:=Int.emod_nonneg (ys.getD (2:Int).toNat 0 * 7919) (show (10:Int) ^ (12:Int).toNat≠0 by decide);omega
    walk_at "w"
    dsimp only
    generalize ys.getD (2:Int).toNat 0 * 7919 % 10 ^ (12:Int).toNat + 1=mo at m0
    have d0:0≤ys.getD (3:Int).toNat 0 % 4 * far:=Int.mul_nonneg (Int.emod_nonneg _ (by decide)) hfar
    have nn4:∀ (u v w x:Int) (j:Nat),0≤u→0≤v→0≤w→0≤x→0≤[u,v,w,x].getD j 0:=fun u v w x j hu hv hw hx=>by
      match j with
      | 0=>exact hu
      | 1=>exact hv
      | 2=>exact hw
      | 3=>exact hx
      | _ + 4=>exact Int.le_refl 0
    intro l1 h1
    walk_at "nw"
    walk_at "w"
    try dsimp only
    have u0:=nn4 0 mo mo 0 (c % 4).toNat (Int.le_refl 0) m0 m0 (Int.le_refl 0)
    generalize [0,mo,mo,0].getD (c % 4).toNat 0=m1 at u0
    have O:=O.tail
    intro t2 h2
    walk_at "nw"
    walk_at "w"
    intro l2 h3
    walk_at "nw"
    walk_at "w"
    try dsimp only
    have w0:=nn4 mo 0 (ys.getD (4:Int).toNat 0 % 9) 0 (c % 4).toNat m0 (Int.le_refl 0) (Int.emod_nonneg _ (by decide)) (Int.le_refl 0)
    generalize [mo,0,ys.getD (4:Int).toNat 0 % 9,0].getD (c % 4).toNat 0=ca at w0
    have O:=O.tail
    intro t ht
    walk_at "nw"
    have O:=((O.del 2).del 2).del 2
    walk_at "er"
    exact q t t2 _ ⟨_,_,_,_⟩ ca O ⟨⟨by show (0:Int)≤(st:Int);omega,by show (st:Int)<(r.length:Int);omega,.inr hbm⟩,u0⟩ d0 (by show bk≠-1;omega) w0
abbrev dU:Stmt:=top 60
theorem eY:aQ ["roll","below","cell","found","k","one","back"] ["roll","below","cell"] (ao dU):=⟨rfl,rfl,rfl,by decide +kernel,rfl,by decide +kernel,by decide +kernel⟩
def zO (K:PySem.W.Frag) (T:gG):Sp:=fun vs H Q _=>∃ (a b:Addr) (c:Int) (r:List Int) (us:List V) (ls:List Lic),vs=[.ref b,.ref a,.int c]∧SqL K H a (r.map V.int)∧Rv.dB r∧r.length≤40∧SqL K H b us∧dN K H us (ls.map xO)∧1≤ls.length∧ls.length<64∧(∀ l∈ls,ji r l∧0≤l.day)∧(∃ l∈ls,l.back≠-1)∧TabsOk T H ∧
  ∀ (lf:Addr) (Hb H':Hp) (vs:List V) (ms:List Lic),bf T H Hb→Ow T Hb H' [(lf,.lst vs)]→dN K Hb vs (ms.map xO)→ms.length=ls.length→(∀ l∈ms,ji r l∧0≤l.day)→(∃ l∈ms,l.back≠-1)→Q (.ref lf) H'
theorem Rx {f:Addr} {fd:FuncData} (D:Df K mg "_law_more" dU ["roll","below","cell"] f fd) (B:Blt mg):bT P w K mg base CX0 1 f fd ["roll","below","cell"] (zO K T):=by
  refine D.F.ok eY (fun vs H Q E h=>?_) (fun cdv A outer s H vs Q E hr h=>?_)
  · obtain ⟨_,_,_,_,_,_,rfl,_⟩:=h;rfl
  · obtain ⟨a,b,c,r,us,ls,rfl,hA,hR,r40,hB,d0,l1,l64,hok,hgb,tk,q⟩:=h
    have hul:us.length=ls.length:=by rw [d0.length,List.length_map]
    refine ⟨_,(aA (aO (i:=3) eY.nd rfl (Or.inl rfl) (eH au))
      (aA (iZ PassesOwn.never rfl (vD rfl B.enumerate (ak (pv 0) au)) (nq rfl (bh (aK (i:=4) eY.nd rfl (Or.inl rfl)) (bh (aK (i:=5) eY.nd rfl (Or.inl rfl)) iC)))
        (aA (aO (i:=6) eY.nd rfl (Or.inl rfl) (aX jD (pv 5) aq (fun _ _=>rfl)))
        (oK (jN (PW.pt (pw_and (cA vI (aX aJ (pv 1) (aX jD (pv 5) aq (fun _ _=>rfl)) (fun _ _=>rfl)) (rA lJ aq) (dJ _)) (pw_and1 (PW.pt (pw_or (cA pN (aL bK (pv 2) aq) aq (dJ _)) (pw_or1 (PW.pt (pw_and (cA pN (aL bK (pv 2) aq) aq (dJ _)) (pw_and1 (cA pN (pv 4) (aL bK (aL jm (pv 2) aq) (aG aV rfl B.len PySem.boot_len (ak (pv 0) au))) (dJ _)))))))))))
          (aD (aO (i:=6) eY.nd rfl (Or.inl rfl) (aX aJ (pv 1) (aX jD (pv 5) aq (fun _ _=>rfl)) (fun _ _=>rfl))))
          eV)
        (aD (gJ (oU PySem.F.plainAttrs_list PySem.F.slot_list_append PySem.F.type_list_append dX (pv 3) (ak (kj (ak (aX jD (pv 5) aq (fun _ _=>rfl)) (ak (aX jD (pv 5) aq (fun _ _=>rfl)) (ak (pv 6) (ak (aX jD (pv 5) aq (fun _ _=>rfl)) au))))) au)))))))
      (aD (bx (pv 3))))),?_⟩
    refine Zj ?_
    intro zu0 zu1 zu2 zu3 zu4 zu5
    have O:=Ow.refl tk
    refine ⟨szl,fun lf hlf=>?_⟩
    walk_at "nw"
    refine ⟨_,rfl,b,_,rfl,O.same.seq hB,?_⟩
    refine Hi (K:=K) (xs:=us) (fun i σ H'=>Iv (∃ (Hb:Hp) (vs:List V) (ms:List Lic) (v4 v5 v6:Option V),σ=[some (.ref b),some (.ref a),some (.int c),some (.ref lf),v4,v5,v6]∧Ow T Hb H' [(lf,.lst vs)]∧bf T H Hb∧dN K Hb vs (ms.map xO)∧ms.length=i∧(∀ l∈ms,ji r l∧0≤l.day)∧∀ (j:Nat) (l m:Lic),ls[j]?=some l→ms[j]?=some m→l.back≠-1→m.back≠-1))
      ⟨trivial,H,[],[],none,none,none,rfl,O,bf.refl tk,.nil,rfl,(fun l hl=>nomatch hl),fun j l m _ h=>by simp at h⟩ (fun _ _ _ _ ⟨_,_,_,_,_,_,_,_,O,s1,_⟩=>(s1.trans O.same).seq hB) ?_ ?_
    · rintro i y t' σ H3 hy ⟨-,Hb,vs,ms,v4,v5,v6,rfl,O,s1,d1,hml,hm1,hm2⟩ ht'
      obtain ⟨al,l,rfl,hl,hT⟩:=d0.mV hy
      have hi:=(List.getElem?_eq_some_iff.mp hl).1
      obtain ⟨⟨hlo,hmo⟩,hda⟩:=hok l (List.mem_of_getElem? hl)
      walk_at "nw"
      refine ⟨t',_,rfl,O.sqT 0,rfl,_,_,rfl,_,_,rfl,rfl,?_⟩
      have O:=O.tail
      have hT:=hT.mo s1
      refine ⟨_,rfl,al,_,2,_,rfl,rfl,hT.mo O.same,rfl,?_⟩
      have gx:=Rv.jo hlo.1 hlo.2.1
      have hsx:r.getD l.start.toNat 0≠-1→Rv.Stop r l.start (r.getD l.start.toNat 0):=fun h1=>by
        have e:r.getD l.start.toNat 0=Rv.nxt r l.start:=by rw [List.getD_eq_getElem?_getD,gx];rfl
        rw [e] at h1 ⊢
        rcases hR.step hlo.1 hlo.2.1 with z | z
        · exact absurd z h1
        · refine .inr ?_
          rw [Rv.bJ hR hlo.1 hlo.2.1]
          exact List.mem_cons_of_mem _ (Rv.zm hR z.1 z.2)
      refine ⟨fun σ H'=>Iv (∃ (bk:Int),σ=[some (.ref b),some (.ref a),some (.int c),some (.ref lf),some (.int (i:Int)),some (.ref al),some (.int bk)]∧Rv.Stop r l.start bk∧(l.back≠-1→bk≠-1)∧Ow T Hb H' [(lf,.lst vs)]),?_,?_⟩
      · refine ⟨_,rfl,_,rfl,al,_,1,_,rfl,rfl,hT.mo O.same,rfl,a,_,_,_,rfl,rfl,(s1.trans O.same).seq hA,bR hlo.1 hlo.2.1,1,rfl,rfl,_,rfl,ifN (ifI (fun h1=>nF ⟨trivial,_,rfl,hlo.2.2,(fun z=>z),O⟩) fun h1=>?_)⟩
        refine ⟨_,rfl,_,_,rfl,rfl,(by show (0:Int)<3;decide),rfl,_,rfl,ifI (fun h2=>⟨_,rfl,_,rfl,al,_,1,_,rfl,rfl,hT.mo O.same,rfl,a,_,_,_,rfl,rfl,(s1.trans O.same).seq hA,bR hlo.1 hlo.2.1,trivial,_,rfl,hsx h1,(fun _=>h1),O⟩) fun h2=>?_⟩
        refine ⟨_,rfl,_,_,rfl,rfl,(by show (0:Int)<3;decide),rfl,_,rfl,ifI (fun h3=>?_) fun h3=>nF ⟨trivial,_,rfl,hlo.2.2,(fun z=>z),O⟩⟩
        exact ⟨_,rfl,_,rfl,_,_,rfl,rfl,⟨by decide,by decide⟩,_,rfl,b,_,rfl,.inl ((s1.trans O.same).seq hB),_,_,rfl,rfl,(by show (0:Int)<(us.length:Int);omega),rfl,_,rfl,ifI (fun h4=>⟨_,rfl,_,rfl,al,_,1,_,rfl,rfl,hT.mo O.same,rfl,a,_,_,_,rfl,rfl,(s1.trans O.same).seq hA,bR hlo.1 hlo.2.1,trivial,_,rfl,hsx h1,(fun _=>h1),O⟩) fun h4=>⟨trivial,_,rfl,hlo.2.2,(fun z=>z),O⟩⟩
      clear O
      rintro σ H5 ⟨-,bk,rfl,hst,hbk,O⟩
      refine ⟨_,rfl,.inl ⟨rfl,_,O.sq 0⟩,_,rfl,al,_,0,_,rfl,rfl,hT.mo O.same,rfl,_,rfl,al,_,1,_,rfl,rfl,hT.mo O.same,rfl,_,rfl,_,rfl,al,_,3,_,rfl,rfl,hT.mo O.same,rfl,szl,fun t ht=>?_⟩
      walk_at "nw"
      have hvl:vs.length=ms.length:=by rw [d1.length,List.length_map]
      refine ⟨lf,_,_,rfl,rfl,O.get 1,aR (by omega),?_⟩
      walk_at "pt"
      obtain ⟨Hn2,O,sn,en⟩:=O.frz
      refine ⟨trivial,Hn2,vs++[.ref t],ms++[⟨l.day,l.start,bk,l.most⟩],_,_,_,rfl,O,s1.trans sn,?_,by rw [List.length_append,hml];rfl,fun x hx=>?_,fun j l9 m9 hl9 hm9 hb9=>?_⟩
      · rw [List.map_append]
        exact (d1.mo sn).append (.cons (Den.lic (SqT.of en)) .nil)
      · rcases List.mem_append.mp hx with e | e
        · exact hm1 x e
        · have:x=⟨l.day,l.start,bk,l.most⟩:=by simpa using e
          rw [this];exact ⟨⟨⟨hlo.1,hlo.2.1,hst⟩,hmo⟩,hda⟩
      · rcases Nat.lt_trichotomy j ms.length with e | e | e
        · rw [List.getElem?_append_left e] at hm9
          exact hm2 j l9 m9 hl9 hm9 hb9
        · subst e
          rw [hml,hl] at hl9
          cases hl9
          simp at hm9
          rw [← hm9];exact hbk hb9
        · rw [List.getElem?_eq_none (by rw [List.length_append];simp;omega)] at hm9
          cases hm9
    rintro σ H3 ⟨-,Hb,vs,ms,v4,v5,v6,rfl,O,s1,d1,hml,hm1,hm2⟩
    rw [hul] at hml
    refine ⟨_,rfl,q lf Hb _ vs ms s1 O d1 hml hm1 ?_⟩
    obtain ⟨l,hl,hb⟩:=hgb
    obtain ⟨j,hj,rfl⟩:=List.getElem_of_mem hl
    have hj2:j<ms.length:=by omega
    exact ⟨ms[j],List.getElem_mem hj2,hm2 j _ _ (List.getElem?_eq_getElem hj) (List.getElem?_eq_getElem hj2) hb⟩
theorem Hr {ls:List Lic} (h:∀ l∈ls,0≤l.day) (k:Nat):0≤rP ls k:=by
  unfold rP
  cases e:ls[k]? with
  | none=>exact Int.le_refl _
  | some l=>exact h l (List.mem_of_getElem? e)
theorem Hq {r s:List Int} {ls:List Lic} {cs xs ys:List Int} (hd:∀ l∈ls,0≤l.day) (a:Ez r s ls cs xs) (b:Ez r s ls cs ys):ys=xs:=by
  have xl:=a.len
  have yl:=b.len
  refine List.ext_getElem? fun i=>?_
  by_cases hi:i<ls.length
  · have:=Tn.unique (fun k _=>Hr hd k) b.fit b.shown a.fit a.shown i hi
    rw [bN (ns:=ys) (by omega),bN (ns:=xs) (by omega)]
    exact congrArg some this
  · rw [List.getElem?_eq_none (by omega),List.getElem?_eq_none (by omega)]
abbrev oG:Stmt:=top 63
theorem gZ:aQ ["script","below","kind","springs","far","roll","calls","cell","one","call","at","handed","found"] ["script"] (ao oG):=⟨rfl,rfl,rfl,by decide +kernel,rfl,by decide +kernel,by decide +kernel⟩
def wO (K:PySem.W.Frag) (T:gG):Sp:=fun vs H Q _=>∃ (a:Addr) (ns:List Int),vs=[.ref a]∧SqL K H a (ns.map V.int)∧ns.length≤63∧TabsOk T H∧∀ H',Q (.bl true) H'
theorem Ik (K:PySem.W.Frag):PySem.W.kitOne K (.type "tuple") (.type "tuple")=some true:=by rfl
theorem GQ {P:Lic→Prop} {ls:List Lic} {l:Lic} (h:∀ l∈ls,P l) (hl:P l):∀ x∈ls++[l],P x:=fun x hx=>by
  rcases List.mem_append.mp hx with e | e
  · exact h x e
  · have:x=l:=by simpa using e
    rw [this];exact hl
def RN (l:Lic):Lic:=⟨l.day,l.start,-1,l.most⟩
theorem uE (xs:List V) (j:Nat):uF xs (some (j:Int)) none=xs.drop j:=by
  unfold uF
  rw [HT.wV,HT.mJ]
  rcases Nat.le_total j xs.length with h | h
  · rw [Nat.min_eq_left h,List.take_of_length_le (by rw [List.length_drop];exact Nat.le_refl _)]
  · rw [Nat.min_eq_right h,List.drop_of_length_le (Nat.le_refl _),List.drop_of_length_le h];simp
theorem U0 {f f1 f2 f3 f4 f5 f6 f7 f8 f9 f10 cN:Addr} {fd fd1 fd2 fd3 fd4 fd5 fd6 fd7 fd8 fd9 fd10:FuncData} (D:Df K mg "law" oG ["script"] f fd) (B:Blt mg)
    (aF:Df K mg "_law_cell_at" bZ ["script","k"] f1 fd1) (cH:bT P w K mg base CX0 1 f1 fd1 ["script","k"] (zT K))
    (fL:Df K mg "_law_river" cG ["cell"] f2 fd2) (uU:bT P w K mg base CX0 3 f2 fd2 ["cell"] (zM T))
    (dH:Df K mg "_law_springs" bW ["cell","size","kind"] f3 fd3) (pW:bT P w K mg base CX0 3 f3 fd3 ["cell","size","kind"] (qd T))
    (fM:Df K mg "_law_drawn" cV ["cell","size","far","kind"] f4 fd4) (uV:bT P w K mg base CX0 3 f4 fd4 ["cell","size","far","kind"] (wR T))
    (eG:Df K mg "_law_giving" bQ ["cell","below","far"] f5 fd5) (sG:bT P w K mg base CX0 3 f5 fd5 ["cell","below","far"] (HW K T))
    (gP:Df K mg "_law_more" dU ["roll","below","cell"] f9 fd9) (wu:bT P w K mg base CX0 1 f9 fd9 ["roll","below","cell"] (zO K T))
    (dI:Df K mg "_law_refused" bY ["below","springs","roll","calls"] f10 fd10) (pX:bT P w K mg base CX0 10 f10 fd10 ["below","springs","roll","calls"] (wL K T))
    (gF:Df K mg "cut_of" d9 ["below","springs","roll","calls"] f8 fd8) (sE:bT P w K mg base (CXE P w) 9 f8 fd8 ["below","springs","roll","calls"] (vo K T cN))
    (jZ:Df K mg "deal" jL ["below","springs","roll","calls"] f6 fd6) (Ey:bT P w K mg base CX0 7 f6 fd6 ["below","springs","roll","calls"] (vm K T))
    (fJ:Df K mg "_law_whole" cU ["found"] f7 fd7) (uT:bT P w K mg base CX0 1 f7 fd7 ["found"] wI):bT P w K mg base CX0 11 f fd ["script"] (wO K T):=by
  refine D.F.ok gZ (fun vs H Q E h=>?_) (fun cdv A outer s H vs Q E hr h=>?_)
  · obtain ⟨_,_,rfl,_⟩:=h;rfl
  · obtain ⟨a,ns,rfl,hS,hlen,tk,k⟩:=h
    have hu:=hr.units
    refine ⟨_,(aA (aO (i:=1) gZ.nd rfl (Or.inl rfl) (aH uU (hr.mono (by decide)) rfl fL.m fL.F.kp fL.b .nil bI (ak (aH cH (hr.mono (by decide)) rfl aF.m aF.F.kp aF.b .nil bI (ak (pv 0) (ak aq au))) au)))
      (aA (aO (i:=2) gZ.nd rfl (Or.inl rfl) (aL bK (aH cH (hr.mono (by decide)) rfl aF.m aF.F.kp aF.b .nil bI (ak (pv 0) (ak aq au))) aq))
      (aA (aO (i:=3) gZ.nd rfl (Or.inl rfl) (aH pW (hr.mono (by decide)) rfl dH.m dH.F.kp dH.b .nil bI (ak (aH cH (hr.mono (by decide)) rfl aF.m aF.F.kp aF.b .nil bI (ak (pv 0) (ak aq au))) (ak (aG aV rfl B.len PySem.boot_len (ak (pv 1) au)) (ak (pv 2) au)))))
      (aA (aO (i:=4) gZ.nd rfl (Or.inl rfl) (aL eU aq (aL bK (aL jm (aH cH (hr.mono (by decide)) rfl aF.m aF.F.kp aF.b .nil bI (ak (pv 0) (ak aq au))) aq) aq)))
      (aA (aO (i:=5) gZ.nd rfl (Or.inl rfl) (eH au))
      (aA (aO (i:=6) gZ.nd rfl (Or.inl rfl) (eH au))
      (aA (iZ PassesOwn.never rfl (cB (jy kW (pv 0) (jO aq) (jO aq))) (aK (i:=7) gZ.nd rfl (Or.inl rfl))
        (aA (oM (aH uV (hr.mono (by decide)) rfl fM.m fM.F.kp fM.b .nil bI (ak (pv 7) (ak (aG aV rfl B.len PySem.boot_len (ak (pv 1) au)) (ak (pv 4) (ak (pv 2) au))))) (nq rfl (bh (aK (i:=8) gZ.nd rfl (Or.inl rfl)) (bh (aK (i:=9) gZ.nd rfl (Or.inl rfl)) iC))))
        (aA (gJ (oU PySem.F.plainAttrs_list PySem.F.slot_list_append PySem.F.type_list_append dX (pv 5) (ak (pv 8) au)))
        (aD (gJ (oU PySem.F.plainAttrs_list PySem.F.slot_list_append PySem.F.type_list_append dX (pv 6) (ak (pv 9) au)))))))
      (aA (oM (aH sG (hr.mono (by decide)) rfl eG.m eG.F.kp eG.b .nil bI (ak (aH cH (hr.mono (by decide)) rfl aF.m aF.F.kp aF.b .nil bI (ak (pv 0) (ak aq au))) (ak (pv 1) (ak (pv 4) au)))) (nq rfl (bh (aK (i:=8) gZ.nd rfl (Or.inl rfl)) (bh (aK (i:=9) gZ.nd rfl (Or.inl rfl)) iC))))
      (aA (aO (i:=10) gZ.nd rfl (Or.inl rfl) (aL bK (aL jm (aH cH (hr.mono (by decide)) rfl aF.m aF.F.kp aF.b .nil bI (ak (pv 0) (ak aq au))) aq) (aL eU (aG aV rfl B.len PySem.boot_len (ak (pv 5) au)) aq)))
      (aA (aO (i:=5) gZ.nd rfl (Or.inl rfl) (aH wu (hr.mono (by decide)) rfl gP.m gP.F.kp gP.b .nil bI (ak (aL tZ (aL tZ (jy kW (pv 5) mL (jO (pv 10))) (eH (ak (pv 8) au))) (jy kW (pv 5) (jO (pv 10)) mL)) (ak (pv 1) (ak (aL jm (aH cH (hr.mono (by decide)) rfl aF.m aF.F.kp aF.b .nil bI (ak (pv 0) (ak aq au))) aq) au)))))
      (aA (aO (i:=6) gZ.nd rfl (Or.inl rfl) (aL tZ (aL tZ (jy kW (pv 6) mL (jO (pv 10))) (eH (ak (pv 9) au))) (jy kW (pv 6) (jO (pv 10)) mL)))
      (aA (aO (i:=11) gZ.nd rfl (Or.inl rfl) (eH (ak (jc dZ rfl B.list PyProof.Rows.boot_list (ak (pv 1) au)) (ak (jc dZ rfl B.list PyProof.Rows.boot_list (ak (pv 3) au)) (ak (jc dZ rfl B.list PyProof.Rows.boot_list (ak (pv 5) au)) (ak (jc dZ rfl B.list PyProof.Rows.boot_list (ak (pv 6) au)) au))))))
      (aA (jN (PW.pt (pw_or (tR (gq (aH pX (hr.mono (by decide)) rfl dI.m dI.F.kp dI.b .nil bI (ak (aX aJ (pv 11) aq (fun _ _=>rfl)) (ak (aX aJ (pv 11) aq (fun _ _=>rfl)) (ak (aX aJ (pv 11) aq (fun _ _=>rfl)) (ak (aX aJ (pv 11) aq (fun _ _=>rfl)) au))))))) (pw_or1 (cA (UG hu) (pv 11) (eH (ak (pv 1) (ak (pv 3) (ak (pv 5) (ak (pv 6) au))))) (dJ _)))))
        (aD (bx Ao))
        eV)
      (aA (oM (gK (ao oG) rfl ["script","below","kind","springs","far","roll","calls","cell","one","call","at","handed","found"] rfl ["line"] [none] (by decide +kernel) (by decide +kernel) (by decide +kernel) rfl (cB (pv 5)) (fun _ _ _=>(aK (i:=0) (show (["line"]:List Str).Nodup by decide +kernel) rfl (Or.inl rfl))) (fun _ _ _=>gk) (fun _ _ _=>(kj (ak (aX (vO (K:=K) rfl) (pv 0) aq (fun _ _=>rfl)) (ak (aX (vO (K:=K) rfl) (pv 0) aq (fun _ _=>rfl)) (ak (rA lJ aq) (ak (aX (vO (K:=K) rfl) (pv 0) aq (fun _ _=>rfl)) au))))))) (Al (pv 11) aq set_list))
      (aA (aO (i:=12) gZ.nd rfl (Or.inl rfl) (aH sE (hr.mono (by decide)) rfl gF.m gF.F.kp gF.b .nil ZJ (ak (aX aJ (pv 11) aq (fun _ _=>rfl)) (ak (aX aJ (pv 11) aq (fun _ _=>rfl)) (ak (aX aJ (pv 11) aq (fun _ _=>rfl)) (ak (aX aJ (pv 11) aq (fun _ _=>rfl)) au))))))
      (aA (jN (PW.pt (pw_or (tR (gq (aG lB rfl B.isinstance PyProof.Rows.boot_isinstance (ak (pv 12) (ak (rC (v:=.ty "tuple") rfl B.tuple PyProof.Rows.boot_tuple rfl) au))))) (pw_or (cA vI (aG aV rfl B.len PySem.boot_len (ak (pv 12) au)) aq (dJ _)) (pw_or1 (tR (gq (aH uT (hr.mono (by decide)) rfl fJ.m fJ.F.kp fJ.b .nil bI (ak (aX jD (pv 12) aq (fun _ _=>rfl)) au))))))))
        (aD (bx Ao))
        eV)
      (aD (bx (rB pN (aX jD (pv 12) aq (fun _ _=>rfl)) (aG (rW rfl) rfl B.sum PyProof.Rows.boot_sum (ak (aH Ey (hr.mono (by decide)) rfl jZ.m jZ.F.kp jZ.b .nil bI (ak (aX aJ (pv 11) aq (fun _ _=>rfl)) (ak (aX aJ (pv 11) aq (fun _ _=>rfl)) (ak (aX aJ (pv 11) aq (fun _ _=>rfl)) (ak (aX aJ (pv 11) aq (fun _ _=>rfl)) au))))) au)) (dJ _)))))))))))))))))))),?_⟩
    refine Zi ?_
    intro zu0 zu1 zu2 zu3 zu4 zu5 zu6 zu7 zu8 zu9 zu10 zu11 zu12 zu13 zu14 zu15 zu16 zu17 zu18 zu19 zu20
    have O:=Ow.refl tk
    have s0:=O.same
    refine ⟨_,rfl,a,ns,0,rfl,hS,_,rfl,tk,O.ur fun lv H1 rs O e=>?_⟩
    obtain ⟨r,rfl,hR,r2,r40,hfl⟩:=e
    have r1:1≤r.length:=by omega
    have hml:(r.map V.int).length=r.length:=List.length_map _
    refine ⟨_,rfl,a,ns,2,rfl,O.same.seq hS,_,_,rfl,rfl,(by show (0:Int)<3;decide),?_⟩
    dsimp only
    generalize ns.getD 2 0 % 3=kd
    refine ⟨_,rfl,a,ns,1,rfl,O.same.seq hS,_,rfl,lv,_,rfl,.inl (O.sq 0),_,rfl,_,kd,r.length,by rw [hml];rfl,by omega,O.same.t1,O.ur fun lg H2 ss O e=>?_⟩
    obtain ⟨sp,rfl,hsl,hsn⟩:=e
    refine ⟨_,rfl,a,ns,2,rfl,O.same.seq hS,_,_,rfl,rfl,⟨by decide,by decide⟩,_,_,rfl,rfl,(by show (0:Int)<333333;decide),_,_,rfl,rfl,?_⟩
    dsimp only
    have hfar:0≤1 + ns.getD 2 0 / 3 % 333333:=by omega
    generalize 1 + ns.getD 2 0 / 3 % 333333=far at hfar
    refine ⟨szl,fun lr hlr=>?_⟩
    walk_at "nw"
    refine ⟨szl,fun lc hlc=>?_⟩
    walk_at "nw"
    refine ⟨_,rfl,4,rfl,24,rfl,a,_,rfl,O.same.seq hS,fun lq hlq=>?_⟩
    walk_at "nw"
    rw [show uF (ns.map V.int) (some 4) (some 24)=((ns.drop 4).take 20).map V.int from YD ns 4 24] at O
    have hql:((ns.drop 4).take 20).length≤20:=by rw [List.length_take];omega
    generalize (ns.drop 4).take 20=qs at O hql
    refine ⟨lq,rfl,⟨_,O.sq 0⟩,?_⟩
    refine gD (K:=K) (xs:=qs.map V.int) (fun i σ H'=>Iv (∃ (Hb:Hp) (vs:List V) (ls:List Lic) (cs:List Int) (v7 v8 v9:Option V),σ=[some (.ref a),some (.ref lv),some (.int kd),some (.ref lg),some (.int far),some (.ref lr),some (.ref lc),v7,v8,v9,none,none,none] ∧
      Ow T Hb H' [(lq,.lst (qs.map V.int)),(lc,.lst (cs.map V.int)),(lr,.lst vs),(lg,.lst (sp.map V.int)),(lv,.lst (r.map V.int))]∧bf T H Hb∧dN K Hb vs (ls.map xO)∧ls.length=i∧cs.length=i∧(∀ l∈ls,ji r l∧0≤l.day)∧∀ c∈cs,0≤c))
      ⟨trivial,H,[],[],[],none,none,none,rfl,O,s0,.nil,rfl,rfl,(fun l hl=>nomatch hl),fun l hl=>nomatch hl⟩ (fun i σ H' _ ⟨_,_,_,_,_,_,_,_,_,O,_⟩=>O.sq 0) ?_ ?_
    · rintro i y σ H4 hy ⟨-,Hb,vs,ls,cs,v7,v8,v9,rfl,O,s0,d0,hli,hci,hok,hcn⟩
      obtain ⟨z,hz,rfl⟩:=ints_get hy
      have hi:=(List.getElem?_eq_some_iff.mp hz).1
      have hvl:vs.length=ls.length:=by rw [d0.length,List.length_map]
      refine ⟨_,rfl,_,rfl,lv,_,rfl,.inl (O.sq 4),_,rfl,_,rfl,z,far,kd,r.length,by rw [hml];rfl,r1,by omega,hfar,O.same.t1,fun t t2 H5 l ca OD l0 l1 l2 l3 l4 c0=>?_⟩
      have O:=O.join OD
      walk_at "jn"
      refine ⟨t,_,rfl,O.sqT 0,rfl,_,_,rfl,_,_,rfl,rfl,?_⟩
      have O:=O.tail
      walk_at "w"
      walk_at "app"
      walk_at "w"
      walk_at "app"
      rw [nQ] at O
      obtain ⟨Hn2,O,sn,en⟩:=O.Tg 0
      walk_at "mo"
      refine ⟨trivial,Hn2,vs++[.ref t2],ls++[l],cs++[ca],_,_,_,rfl,O,s0,?_,by rw [List.length_append,hli];rfl,by rw [List.length_append,hci];rfl,GQ hok ⟨⟨⟨l0,l1,.inl l2⟩,l3⟩,l4⟩,rD hcn c0⟩
      rw [List.map_append]
      exact d0.append (.cons (Den.lic (SqT.of en)) .nil)
    rintro σ H4 ⟨-,Hb,vs,ls,cs,v7,v8,v9,rfl,O,s0,d0,hli,hci,hok,hcn⟩
    rw [List.length_map] at hli hci
    have hvl:vs.length=ls.length:=by rw [d0.length,List.length_map]
    have O:=O.tail
    have hlc:ls.length=cs.length:=by omega
    have dr:∀ (H':Hp) (v:Addr),bf T Hb H'→SqL K H' v vs→Den K H' (.ref v) (lA ls):=fun H' v sm h=>.list h (d0.mo sm)
    have hok2:∀ l∈ls,ji r l:=fun l hl=>(hok l hl).1
    refine ⟨_,rfl,a,ns,3,rfl,(s0.trans O.same).seq hS,_,rfl,_,rfl,lv,r,_,far,rfl,O.sq 3,hR,r40,hfl,hfar,O.same.t1,fun t t2 H5 l ca OD g1 g2 g3 g4=>?_⟩
    have O:=O.join OD
    walk_at "jn"
    refine ⟨t,_,rfl,O.sqT 0,rfl,_,_,rfl,_,_,rfl,rfl,?_⟩
    have O:=O.tail
    have a0:=Int.emod_nonneg (ns.getD 3 0 / 12) (show (vs.length:Int) + 1≠0 by omega)
    have a1:=Int.emod_lt_of_pos (ns.getD 3 0 / 12) (show (0:Int)<(vs.length:Int) + 1 by omega)
    refine ⟨_,rfl,a,ns,3,rfl,(s0.trans O.same).seq hS,_,_,rfl,rfl,⟨by decide,by decide⟩,_,rfl,lr,_,rfl,.inl (O.sq 2),_,_,rfl,rfl,_,_,rfl,rfl,(by omega),?_⟩
    dsimp only
    generalize ns.getD 3 0 / 12 % ((vs.length:Int) + 1)=at0 at a0 a1
    obtain ⟨at1,rfl⟩:=Int.eq_ofNat_of_zero_le a0
    refine ⟨_,rfl,_,rfl,(at1:Int),rfl,lr,_,rfl,O.sq 2,fun l1 hl1=>?_⟩
    walk_at "nw"
    rw [uz] at O
    refine ⟨_,rfl,szl,fun l2 hl2=>?_⟩
    walk_at "nw"
    refine ⟨l1,l2,_,_,rfl,rfl,O.get 1,O.get 0,fU (by rw [List.length_take];simp;omega),fun l3 hl3=>?_⟩
    walk_at "nw"
    have O:=(O.del 1).del 1
    walk_at "er"
    refine ⟨_,rfl,_,rfl,(at1:Int),rfl,lr,_,rfl,O.sq 3,fun l4 hl4=>?_⟩
    walk_at "nw"
    rw [uE] at O
    refine ⟨l3,l4,_,_,rfl,rfl,O.get 1,O.get 0,fU (by simp only [List.length_append,List.length_take,List.length_drop,List.length_cons,List.length_nil];omega),fun l5 hl5=>?_⟩
    walk_at "nw"
    have O:=(O.del 1).del 1
    walk_at "er"
    obtain ⟨Hn2,O,sn,en⟩:=O.Tg 1
    walk_at "mo"
    have dns:dN K Hn2 (vs.take at1++[.ref t2]++vs.drop at1) ((ls.take at1++[l]++ls.drop at1).map xO):=by
      rw [List.map_append,List.map_append,List.map_take,List.map_drop]
      exact ((d0.take at1).append (.cons (Den.lic (SqT.of en)) .nil)).append (d0.drop at1)
    have nl:(ls.take at1++[l]++ls.drop at1).length=ls.length + 1:=by
      simp only [List.length_append,List.length_take,List.length_drop,List.length_cons,List.length_nil];omega
    have nok:∀ x∈ls.take at1++[l]++ls.drop at1,ji r x∧0≤x.day:=fun x hx=>by
      rcases List.mem_append.mp hx with e | e
      · rcases List.mem_append.mp e with e | e
        · exact hok x (List.mem_of_mem_take e)
        · have:x=l:=by simpa using e
          rw [this];exact ⟨g1,g2⟩
      · exact hok x (List.mem_of_mem_drop e)
    have nbk:∃ x∈ls.take at1++[l]++ls.drop at1,x.back≠-1:=⟨l,by simp,g3⟩
    refine ⟨_,rfl,_,rfl,a,ns,3,rfl,(s0.trans O.same).seq hS,_,_,rfl,rfl,⟨by decide,by decide⟩,lv,l5,_,r,_,_,rfl,O.sq 4,hR,r40,O.sq 0,dns.mo O.same,by omega,by omega,nok,nbk,O.same.t1,fun lf Hm H6 vs' ms sm OF dF lm okm bkm=>?_⟩
    have hv:SqL K Hm lv (r.map V.int):=(O.pQ sm).sq 4
    have hg:SqL K Hm lg (sp.map V.int):=(O.pQ sm).sq 3
    have hc:SqL K Hm lc (cs.map V.int):=(O.pQ sm).sq 1
    have s1:bf T H Hm:=s0.trans (O.same.trans sm)
    clear O dns nok nbk d0 dr hok hok2
    have O:=OF
    clear OF
    have vml:vs'.length=ms.length:=by rw [dF.length,List.length_map]
    refine ⟨_,rfl,_,rfl,(at1:Int),rfl,lc,_,rfl,hc.mo O.same,fun l1 hl1=>?_⟩
    walk_at "nw"
    rw [uz] at O
    refine ⟨_,rfl,szl,fun l2 hl2=>?_⟩
    walk_at "nw"
    refine ⟨l1,l2,_,_,rfl,rfl,O.get 1,O.get 0,fU (by rw [List.length_take,List.length_map];simp;omega),fun l3 hl3=>?_⟩
    walk_at "nw"
    have O:=(O.del 1).del 1
    walk_at "er"
    refine ⟨_,rfl,_,rfl,(at1:Int),rfl,lc,_,rfl,hc.mo O.same,fun l4 hl4=>?_⟩
    walk_at "nw"
    rw [uE] at O
    refine ⟨l3,l4,_,_,rfl,rfl,O.get 1,O.get 0,fU (by simp only [List.length_append,List.length_take,List.length_drop,List.length_map,List.length_cons,List.length_nil];omega),fun l8 hl8=>?_⟩
    walk_at "nw"
    have O:=(O.del 1).del 1
    walk_at "er"
    have cl:(cs.take at1++[ca]++cs.drop at1).length=cs.length + 1:=by
      simp only [List.length_append,List.length_take,List.length_drop,List.length_cons,List.length_nil];omega
    have cn2:∀ x∈cs.take at1++[ca]++cs.drop at1,0≤x:=fun x hx=>by
      rcases List.mem_append.mp hx with e | e
      · rcases List.mem_append.mp e with e | e
        · exact hcn x (List.mem_of_mem_take e)
        · have:x=ca:=by simpa using e
          rw [this];exact g4
      · exact hcn x (List.mem_of_mem_drop e)
    rw [show (cs.map V.int).take at1++[V.int ca]++(cs.map V.int).drop at1=(cs.take at1++[ca]++cs.drop at1).map V.int by rw [List.map_append,List.map_append,List.map_take,List.map_drop];rfl] at O
    generalize cs.take at1++[ca]++cs.drop at1=cs' at O cl cn2
    have mlc:ms.length=cs'.length:=by omega
    have dr:∀ (H':Hp) (v:Addr),bf T Hm H'→SqL K H' v vs'→Den K H' (.ref v) (lA ms):=fun H' v sm h=>.list h (dF.mo sm)
    /- handed -/
    refine ⟨_,rfl,lv,_,rfl,.inl (hv.mo O.same),fun la hla=>?_⟩
    walk_at "nw"
    refine ⟨_,rfl,lg,_,rfl,.inl (hg.mo O.same),fun lj hlj=>?_⟩
    walk_at "nw"
    refine ⟨_,rfl,lf,_,rfl,.inl (O.sq 3),fun lb hlb=>?_⟩
    walk_at "nw"
    refine ⟨_,rfl,l8,_,rfl,.inl (O.sq 3),fun le hle=>?_⟩
    walk_at "nw"
    refine ⟨szl,fun lh hlh=>?_⟩
    walk_at "nw"
    refine ⟨_,rfl,lh,_,0,_,rfl,rfl,O.sq 0,rfl,_,rfl,lh,_,1,_,rfl,rfl,O.sq 0,rfl,_,rfl,lh,_,2,_,rfl,rfl,O.sq 0,rfl,_,rfl,lh,_,3,_,rfl,rfl,O.sq 0,rfl,?_⟩
    refine ⟨la,lj,le,.ref lb,r,sp,ms,cs',rfl,⟨O.sq 4,hR,by omega⟩,O.sq 3,hsl,hsn,dr _ lb O.same (O.sq 2),by omega,O.sq 1,mlc,(fun l hl=>(okm l hl).1),cn2,O.same.t1,bkm,fun H7 sm7=>?_⟩
    have O:=O.pQ sm7
    refine ⟨_,rfl,nF ?_⟩
    have hsh:Sh 3 (.list [jU r,jU sp,lA ms,jU cs']):=Sh.four (Sh.ints 1 r) (Sh.ints 1 sp) (Sh.roll 0 ms) (Sh.ints 1 cs')
    have dh:∀ (H':Hp) (x u t v w:Addr),bf T Hm H'→SqL K H' x [.ref u,.ref t,.ref v,.ref w]→SqL K H' u (r.map V.int)→SqL K H' t (sp.map V.int)→SqL K H' v vs'→SqL K H' w (cs'.map V.int)→Den K H' (.ref x) (.list [jU r,jU sp,lA ms,jU cs']) :=
      fun H' x u t v w sm h1 h2 h5 h3 h4=>.list h1 (.cons (Den.ints h2) (.cons (Den.ints h5) (.cons (.list h3 (dF.mo sm)) (.cons (Den.ints h4) .nil))))
    refine ⟨_,rfl,_,rfl,_,rfl,_,rfl,_,rfl,szl,fun l9 h9=>?_⟩
    walk_at "nw"
    refine ⟨_,_,dh _ lh la lj lb le O.same (O.sq 1) (O.sq 5) (O.sq 4) (O.sq 3) (O.sq 2),dh _ l9 lv lg lf l8 O.same (O.sq 0) (hv.mo O.same) (hg.mo O.same) (O.sq 7) (O.sq 6),hsh.ok (by decide),hsh.ok (by decide),?_⟩
    have O:=O.tail
    refine ⟨_,rfl,?_⟩
    rw [if_pos rfl,Hj hsh]
    refine nF ?_
    refine ⟨_,rfl,lf,rfl,⟨_,O.sq 6⟩,fun ln hln=>?_⟩
    refine dY (K:=K) (xs:=vs') (fun i τ H'=>Iv (∃ (v0:Option V) (Hc:Hp) (us:List V),τ=[v0]∧Ow T Hc H' [(ln,.lst us),(lh,.lst [.ref la,.ref lj,.ref lb,.ref le]),(le,.lst (cs'.map V.int)),(lb,.lst vs'),(lj,.lst (sp.map V.int)),(la,.lst (r.map V.int)),(l8,.lst (cs'.map V.int)),(lf,.lst vs')]∧bf T Hm Hc∧dN K Hc us ((ms.take i).map fun l=>xO (RN l))))
      ⟨trivial,none,Hm,[],rfl,O.mk' hln rfl,bf.refl (O.same.t0),.nil⟩ (fun i τ H' _ ⟨_,_,_,_,_,O,_⟩=>O.sq 7) ?_ ?_
    · rintro i y τ H9 hy ⟨-,v0,Hc,us,rfl,O,sc,d0⟩
      obtain ⟨al,l,rfl,hl9,hT⟩:=dF.mV hy
      have hi:=(List.getElem?_eq_some_iff.mp hl9).1
      have ul:us.length≤i:=by rw [d0.length,List.length_map,List.length_take];omega
      have hT2:=hT.mo (sc.trans O.same)
      refine yU ?_
      refine ⟨_,rfl,al,_,0,_,rfl,rfl,hT2,rfl,_,rfl,al,_,1,_,rfl,rfl,hT2,rfl,1,rfl,_,rfl,al,_,3,_,rfl,rfl,hT2,rfl,szl,fun t3 ht3=>?_⟩
      walk_at "nw"
      refine ⟨_,O.get 1,aR (by omega),?_⟩
      walk_at "pt"
      obtain ⟨Hn3,O,sn,en⟩:=O.Tg 0
      walk_at "mo"
      refine ⟨trivial,_,Hn3,us++[.ref t3],rfl,O,sc.trans sn,?_⟩
      rw [Tn.bM hl9,List.map_append]
      exact d0.append (.cons (Den.lic (l:=RN l) (SqT.of en)) .nil)
    rintro τ H9 ⟨-,v0,Hc,us,rfl,O,sc,d0⟩
    rw [vml,List.take_of_length_le (Nat.le_refl _)] at d0
    have d0:dN K Hc us ((ms.map RN).map xO):=by rw [List.map_map];exact d0
    refine ⟨_,rfl,?_⟩
    refine Ii O 1 rfl (jP (j:=2) (by show 2<4;decide)) fun H10 O=>?_
    dsimp only [List.set_cons_succ,List.set_cons_zero] at O
    have O:Ow T Hc H10 [(ln,.lst us),(lh,.lst [.ref la,.ref lj,.ref ln,.ref le]),(le,.lst (cs'.map V.int)),(lb,.lst vs'),(lj,.lst (sp.map V.int)),(la,.lst (r.map V.int)),(l8,.lst (cs'.map V.int)),(lf,.lst vs')]:=O
    have dr2:∀ (H':Hp) (v:Addr),bf T Hc H'→SqL K H' v us→Den K H' (.ref v) (lA (ms.map RN)):=fun H' v sm h=>.list h (d0.mo sm)
    have nb:∀ l∈ms.map RN,(ji r l∧0≤l.day)∧l.back=-1:=fun l hl=>by
      obtain ⟨m,hm,rfl⟩:=List.mem_map.mp hl
      obtain ⟨⟨⟨a1,a2,a3⟩,a4⟩,a5⟩:=okm m hm
      exact ⟨⟨⟨⟨a1,a2,.inl rfl⟩,a4⟩,a5⟩,rfl⟩
    have nbl:(ms.map RN).length=ms.length:=List.length_map _
    generalize ms.map RN=ms2 at d0 dr2 nb nbl
    have nb1:∀ l∈ms2,ji r l:=fun l hl=>(nb l hl).1.1
    have nb2:∀ l∈ms2,0≤l.day:=fun l hl=>(nb l hl).1.2
    refine ⟨_,rfl,lh,_,0,_,rfl,rfl,O.sq 1,rfl,_,rfl,lh,_,1,_,rfl,rfl,O.sq 1,rfl,_,rfl,lh,_,2,_,rfl,rfl,O.sq 1,rfl,_,rfl,lh,_,3,_,rfl,rfl,O.sq 1,rfl,?_⟩
    refine ⟨la,lj,le,.ref ln,r,sp,ms2,cs',rfl,⟨O.sq 5,hR,by omega⟩,O.sq 4,hsl,hsn,dr2 _ ln O.same (O.sq 0),by omega,O.sq 2,by omega,nb1,cn2,O.same.t1,(fun ⟨l,hl,hb⟩=>absurd (nb l hl).2 hb),fun _ t9 lo nu H11 xs DX OD=>?_⟩
    have O:=O.join OD
    walk_at "jn"
    refine ⟨_,rfl,_,_,_,true,rfl,.tup (O.get 0),Ik K,_,rfl,nF ?_⟩
    refine ⟨_,rfl,t9,_,rfl,.inr (O.sqT 0),rfl,_,rfl,ifN (ifI (fun _=>?_) fun hc=>absurd rfl hc)⟩
    refine ⟨_,rfl,t9,_,0,_,rfl,rfl,O.sqT 0,rfl,_,rfl,_,rfl,nF ?_⟩
    refine ⟨_,rfl,t9,_,0,_,rfl,rfl,O.sqT 0,rfl,_,rfl,lh,_,0,_,rfl,rfl,O.sq 4,rfl,_,rfl,lh,_,1,_,rfl,rfl,O.sq 4,rfl,_,rfl,lh,_,2,_,rfl,rfl,O.sq 4,rfl,_,rfl,lh,_,3,_,rfl,rfl,O.sq 4,rfl,?_⟩
    refine ⟨la,lj,le,.ref ln,r,sp,ms2,cs',rfl,⟨O.sq 8,hR,by omega⟩,O.sq 7,hsl,hsn,dr2 _ ln O.same (O.sq 3),by omega,O.sq 5,by omega,nb1,cn2,O.same.t1,O.ur fun lf2 H12 ys O e=>?_⟩
    obtain ⟨xs2,rfl,DX2⟩:=e
    have ex:xs2=xs:=Hq nb2 DX DX2
    subst ex
    refine ⟨lf2,_,rfl,O.sq 0,rfl,?_⟩
    rw [decide_eq_true rfl]
    exact k _
theorem kO {K:PySem.W.Frag} {x qual:Str} {st:Stmt} {f:Addr} {fd:FuncData} {n0:Str} (F:Fun K x qual st f fd) (h:∀ (kV doc pm:Value) (an:Option Addr) (cdv ct u0:Value),bindArgs (PySem.W.fnOf x qual (aC st) (aB st) (ao st) .none kV doc pm an cdv ct) ⟨[u0],[]⟩=pure (([n0]:List Str).zip [u0])):Binds K fd [n0] [] :=
  F.binds (ps:=[n0]) fun kV doc pm an cdv ct us hl=>match us,hl with | [u0],_=>h kV doc pm an cdv ct u0
theorem jW {K:PySem.W.Frag} {x qual:Str} {st:Stmt} {f:Addr} {fd:FuncData} {n0 n1:Str} (F:Fun K x qual st f fd) (h:∀ (kV doc pm:Value) (an:Option Addr) (cdv ct u0 u1:Value),bindArgs (PySem.W.fnOf x qual (aC st) (aB st) (ao st) .none kV doc pm an cdv ct) ⟨[u0,u1],[]⟩=pure (([n0,n1]:List Str).zip [u0,u1])):Binds K fd [n0,n1] [] :=
  F.binds (ps:=[n0,n1]) fun kV doc pm an cdv ct us hl=>match us,hl with | [u0,u1],_=>h kV doc pm an cdv ct u0 u1
theorem nC {K:PySem.W.Frag} {x qual:Str} {st:Stmt} {f:Addr} {fd:FuncData} {n0 n1 n2:Str} (F:Fun K x qual st f fd) (h:∀ (kV doc pm:Value) (an:Option Addr) (cdv ct u0 u1 u2:Value),bindArgs (PySem.W.fnOf x qual (aC st) (aB st) (ao st) .none kV doc pm an cdv ct) ⟨[u0,u1,u2],[]⟩=pure (([n0,n1,n2]:List Str).zip [u0,u1,u2])):Binds K fd [n0,n1,n2] [] :=
  F.binds (ps:=[n0,n1,n2]) fun kV doc pm an cdv ct us hl=>match us,hl with | [u0,u1,u2],_=>h kV doc pm an cdv ct u0 u1 u2
theorem qH {K:PySem.W.Frag} {x qual:Str} {st:Stmt} {f:Addr} {fd:FuncData} {n0 n1 n2 n3:Str} (F:Fun K x qual st f fd) (h:∀ (kV doc pm:Value) (an:Option Addr) (cdv ct u0 u1 u2 u3:Value),bindArgs (PySem.W.fnOf x qual (aC st) (aB st) (ao st) .none kV doc pm an cdv ct) ⟨[u0,u1,u2,u3],[]⟩=pure (([n0,n1,n2,n3]:List Str).zip [u0,u1,u2,u3])):Binds K fd [n0,n1,n2,n3] [] :=
  F.binds (ps:=[n0,n1,n2,n3]) fun kV doc pm an cdv ct us hl=>match us,hl with | [u0,u1,u2,u3],_=>h kV doc pm an cdv ct u0 u1 u2 u3
theorem QW {K:PySem.W.Frag} {x qual:Str} {st:Stmt} {f:Addr} {fd:FuncData} {n0 n1 n2 n3 n4:Str} (F:Fun K x qual st f fd) (h:∀ (kV doc pm:Value) (an:Option Addr) (cdv ct u0 u1 u2 u3 u4:Value),bindArgs (PySem.W.fnOf x qual (aC st) (aB st) (ao st) .none kV doc pm an cdv ct) ⟨[u0,u1,u2,u3,u4],[]⟩=pure (([n0,n1,n2,n3,n4]:List Str).zip [u0,u1,u2,u3,u4])):Binds K fd [n0,n1,n2,n3,n4] [] :=
  F.binds (ps:=[n0,n1,n2,n3,n4]) fun kV doc pm an cdv ct us hl=>match us,hl with | [u0,u1,u2,u3,u4],_=>h kV doc pm an cdv ct u0 u1 u2 u3 u4
theorem all_mk {l:PySem.W.OpenLaw} {w:World} {K:PySem.W.Frag} {h:Heap} {mg:Str→Option Value} {fa f0 f1 f2 f3 f4 f5 f6 f7 f8 f9 f10 f11 f12 f13 f14 f15 f16 f17 f18 f19 f20 f21 f22 f23 f24 f25 f26 f27 f28 f29 f30 f31 f32 f33 f34 f35 f36 cX_SluiceError cX_NoRiver cX_NoReach cX_NoLicence cX_NoNumber cX_NoHolder cX_NotYours cX_NotAlone cX_TooMuch cX_Full cX_NoPaper cX_NoCut cX_NoPond cX_NoDay cX_Fixed cX_Harms cX_NoRow pT0 cT0 pT1 cT1:Addr} (X:K.In h) (G:h.Ns mainGlobals mg) (hfa:mg "law"=some (.ref fa))
    {od0 an0 od1 an1 od2 an2 od3 an3 od4 an4 od5 an5 od6 an6 od7 an7 od8 an8 od9 an9 od10 an10 od11 an11 od12 an12 od13 an13 od14 an14 od15 an15 od16 an16 od17 an17 od18 an18 od19 an19 od20 an20 od21 an21 od22 an22 od23 an23 od24 an24 od25 an25 od26 an26 od27 an27 od28 an28 od29 an29 od30 an30 od31 an31 od32 an32 od33 an33 od34 an34 od35 an35 od36 an36:Option Addr} {sl0 sl1 sl2 sl3 sl4 sl5 sl6 sl7 sl8 sl9 sl10 sl11 sl12 sl13 sl14 sl15 sl16 sl17 sl18 sl19 sl20 sl21 sl22 sl23 sl24 sl25 sl26 sl27 sl28 sl29 sl30 sl31 sl32 sl33 sl34 sl35 sl36:Array (Option Value)} {oc0 kV0 dc0 pm0 cd0 ct0 oc1 kV1 dc1 pm1 ct1 oc2 kV2 dc2 pm2 cd2 ct2 oc3 kV3 dc3 pm3 cd3 ct3 oc4 kV4 dc4 pm4 cd4 ct4 oc5 kV5 dc5 pm5 cd5 ct5 oc6 kV6 dc6 pm6 cd6 ct6 oc7 kV7 dc7 pm7 cd7 ct7 oc8 kV8 dc8 pm8 ct8 oc9 kV9 dc9 pm9 cd9 ct9 oc10 kV10 dc10 pm10 cd10 ct10 oc11 kV11 dc11 pm11 cd11 ct11 oc12 kV12 dc12 pm12 cd12 ct12 oc13 kV13 dc13 pm13 cd13 ct13 oc14 kV14 dc14 pm14 cd14 ct14 oc15 kV15 dc15 pm15 cd15 ct15 oc16 kV16 dc16 pm16 cd16 ct16 oc17 kV17 dc17 pm17 cd17 ct17 oc18 kV18 dc18 pm18 cd18 ct18 oc19 kV19 dc19 pm19 cd19 ct19 oc20 kV20 dc20 pm20 cd20 ct20 oc21 kV21 dc21 pm21 cd21 ct21 oc22 kV22 dc22 pm22 cd22 ct22 oc23 kV23 dc23 pm23 cd23 ct23 oc24 kV24 dc24 pm24 cd24 ct24 oc25 kV25 dc25 pm25 cd25 ct25 oc26 kV26 dc26 pm26 cd26 ct26 oc27 kV27 dc27 pm27 cd27 ct27 oc28 kV28 dc28 pm28 cd28 ct28 oc29 kV29 dc29 pm29 cd29 ct29 oc30 kV30 dc30 pm30 cd30 ct30 oc31 kV31 dc31 pm31 cd31 ct31 oc32 kV32 dc32 pm32 cd32 ct32 oc33 kV33 dc33 pm33 cd33 ct33 oc34 kV34 dc34 pm34 cd34 ct34 oc35 kV35 dc35 pm35 cd35 ct35 oc36 kV36 dc36 pm36 cd36 ct36:Value} {t0:Tok}
    (a0:PySem.W.nsIn K mainGlobals "way_of"=some (some (.ref f0))) (l0:K.lookup f0=some ⟨oc0,od0,.func (PySem.W.fnOf "way_of" "way_of" (aC gR) (aB gR) (ao gR) .none kV0 dc0 pm0 an0 cd0 ct0),sl0⟩) (c0:PySem.W.codeIn K cd0 "way_of"=true) (k0:PySem.W.keepIn K (.ref f0)=true)
    (a1:PySem.W.nsIn K mainGlobals "tops_first"=some (some (.ref f1))) (l1:K.lookup f1=some ⟨oc1,od1,.func (PySem.W.fnOf "tops_first" "tops_first" (aC cF) (aB cF) (ao cF) .none kV1 dc1 pm1 an1 (.ref cT1) ct1),sl1⟩) (c1:PySem.W.codeIn K (.ref cT1) "tops_first"=true) (k1:PySem.W.keepIn K (.ref f1)=true)
    (a2:PySem.W.nsIn K mainGlobals "stretch_of"=some (some (.ref f2))) (l2:K.lookup f2=some ⟨oc2,od2,.func (PySem.W.fnOf "stretch_of" "stretch_of" (aC cO) (aB cO) (ao cO) .none kV2 dc2 pm2 an2 cd2 ct2),sl2⟩) (c2:PySem.W.codeIn K cd2 "stretch_of"=true) (k2:PySem.W.keepIn K (.ref f2)=true)
    (a3:PySem.W.nsIn K mainGlobals "natural_of"=some (some (.ref f3))) (l3:K.lookup f3=some ⟨oc3,od3,.func (PySem.W.fnOf "natural_of" "natural_of" (aC bV) (aB bV) (ao bV) .none kV3 dc3 pm3 an3 cd3 ct3),sl3⟩) (c3:PySem.W.codeIn K cd3 "natural_of"=true) (k3:PySem.W.keepIn K (.ref f3)=true)
    (a4:PySem.W.nsIn K mainGlobals "reaches_of"=some (some (.ref f4))) (l4:K.lookup f4=some ⟨oc4,od4,.func (PySem.W.fnOf "reaches_of" "reaches_of" (aC bU) (aB bU) (ao bU) .none kV4 dc4 pm4 an4 cd4 ct4),sl4⟩) (c4:PySem.W.codeIn K cd4 "reaches_of"=true) (k4:PySem.W.keepIn K (.ref f4)=true)
    (a5:PySem.W.nsIn K mainGlobals "day_filed"=some (some (.ref f5))) (l5:K.lookup f5=some ⟨oc5,od5,.func (PySem.W.fnOf "day_filed" "day_filed" (aC cZ) (aB cZ) (ao cZ) .none kV5 dc5 pm5 an5 cd5 ct5),sl5⟩) (c5:PySem.W.codeIn K cd5 "day_filed"=true) (k5:PySem.W.keepIn K (.ref f5)=true)
    (a6:PySem.W.nsIn K mainGlobals "gives_back"=some (some (.ref f6))) (l6:K.lookup f6=some ⟨oc6,od6,.func (PySem.W.fnOf "gives_back" "gives_back" (aC cP) (aB cP) (ao cP) .none kV6 dc6 pm6 an6 cd6 ct6),sl6⟩) (c6:PySem.W.codeIn K cd6 "gives_back"=true) (k6:PySem.W.keepIn K (.ref f6)=true)
    (a7:PySem.W.nsIn K mainGlobals "most_of"=some (some (.ref f7))) (l7:K.lookup f7=some ⟨oc7,od7,.func (PySem.W.fnOf "most_of" "most_of" (aC ig) (aB ig) (ao ig) .none kV7 dc7 pm7 an7 cd7 ct7),sl7⟩) (c7:PySem.W.codeIn K cd7 "most_of"=true) (k7:PySem.W.keepIn K (.ref f7)=true)
    (a8:PySem.W.nsIn K mainGlobals "ranked"=some (some (.ref f8))) (l8:K.lookup f8=some ⟨oc8,od8,.func (PySem.W.fnOf "ranked" "ranked" (aC iK) (aB iK) (ao iK) .none kV8 dc8 pm8 an8 (.ref cT0) ct8),sl8⟩) (c8:PySem.W.codeIn K (.ref cT0) "ranked"=true) (k8:PySem.W.keepIn K (.ref f8)=true)
    (a9:PySem.W.nsIn K mainGlobals "groups_of"=some (some (.ref f9))) (l9:K.lookup f9=some ⟨oc9,od9,.func (PySem.W.fnOf "groups_of" "groups_of" (aC dR) (aB dR) (ao dR) .none kV9 dc9 pm9 an9 cd9 ct9),sl9⟩) (c9:PySem.W.codeIn K cd9 "groups_of"=true) (k9:PySem.W.keepIn K (.ref f9)=true)
    (a10:PySem.W.nsIn K mainGlobals "wants_of"=some (some (.ref f10))) (l10:K.lookup f10=some ⟨oc10,od10,.func (PySem.W.fnOf "wants_of" "wants_of" (aC dG) (aB dG) (ao dG) .none kV10 dc10 pm10 an10 cd10 ct10),sl10⟩) (c10:PySem.W.codeIn K cd10 "wants_of"=true) (k10:PySem.W.keepIn K (.ref f10)=true)
    (a11:PySem.W.nsIn K mainGlobals "count_ways"=some (some (.ref f11))) (l11:K.lookup f11=some ⟨oc11,od11,.func (PySem.W.fnOf "count_ways" "count_ways" (aC cR) (aB cR) (ao cR) .none kV11 dc11 pm11 an11 cd11 ct11),sl11⟩) (c11:PySem.W.codeIn K cd11 "count_ways"=true) (k11:PySem.W.keepIn K (.ref f11)=true)
    (a12:PySem.W.nsIn K mainGlobals "whole_turns"=some (some (.ref f12))) (l12:K.lookup f12=some ⟨oc12,od12,.func (PySem.W.fnOf "whole_turns" "whole_turns" (aC bO) (aB bO) (ao bO) .none kV12 dc12 pm12 an12 cd12 ct12),sl12⟩) (c12:PySem.W.codeIn K cd12 "whole_turns"=true) (k12:PySem.W.keepIn K (.ref f12)=true)
    (a13:PySem.W.nsIn K mainGlobals "draw"=some (some (.ref f13))) (l13:K.lookup f13=some ⟨oc13,od13,.func (PySem.W.fnOf "draw" "draw" (aC lO) (aB lO) (ao lO) .none kV13 dc13 pm13 an13 cd13 ct13),sl13⟩) (c13:PySem.W.codeIn K cd13 "draw"=true) (k13:PySem.W.keepIn K (.ref f13)=true)
    (a14:PySem.W.nsIn K mainGlobals "take_whole_turns"=some (some (.ref f14))) (l14:K.lookup f14=some ⟨oc14,od14,.func (PySem.W.fnOf "take_whole_turns" "take_whole_turns" (aC aU) (aB aU) (ao aU) .none kV14 dc14 pm14 an14 cd14 ct14),sl14⟩) (c14:PySem.W.codeIn K cd14 "take_whole_turns"=true) (k14:PySem.W.keepIn K (.ref f14)=true)
    (a15:PySem.W.nsIn K mainGlobals "take_one_turn"=some (some (.ref f15))) (l15:K.lookup f15=some ⟨oc15,od15,.func (PySem.W.fnOf "take_one_turn" "take_one_turn" (aC bC) (aB bC) (ao bC) .none kV15 dc15 pm15 an15 cd15 ct15),sl15⟩) (c15:PySem.W.codeIn K cd15 "take_one_turn"=true) (k15:PySem.W.keepIn K (.ref f15)=true)
    (a16:PySem.W.nsIn K mainGlobals "deal_turns"=some (some (.ref f16))) (l16:K.lookup f16=some ⟨oc16,od16,.func (PySem.W.fnOf "deal_turns" "deal_turns" (aC cQ) (aB cQ) (ao cQ) .none kV16 dc16 pm16 an16 cd16 ct16),sl16⟩) (c16:PySem.W.codeIn K cd16 "deal_turns"=true) (k16:PySem.W.keepIn K (.ref f16)=true)
    (a17:PySem.W.nsIn K mainGlobals "deal"=some (some (.ref f17))) (l17:K.lookup f17=some ⟨oc17,od17,.func (PySem.W.fnOf "deal" "deal" (aC jL) (aB jL) (ao jL) .none kV17 dc17 pm17 an17 cd17 ct17),sl17⟩) (c17:PySem.W.codeIn K cd17 "deal"=true) (k17:PySem.W.keepIn K (.ref f17)=true)
    (a18:PySem.W.nsIn K mainGlobals "holds_of"=some (some (.ref f18))) (l18:K.lookup f18=some ⟨oc18,od18,.func (PySem.W.fnOf "holds_of" "holds_of" (aC eZ) (aB eZ) (ao eZ) .none kV18 dc18 pm18 an18 cd18 ct18),sl18⟩) (c18:PySem.W.codeIn K cd18 "holds_of"=true) (k18:PySem.W.keepIn K (.ref f18)=true)
    (a19:PySem.W.nsIn K mainGlobals "free_of"=some (some (.ref f19))) (l19:K.lookup f19=some ⟨oc19,od19,.func (PySem.W.fnOf "free_of" "free_of" (aC gb) (aB gb) (ao gb) .none kV19 dc19 pm19 an19 cd19 ct19),sl19⟩) (c19:PySem.W.codeIn K cd19 "free_of"=true) (k19:PySem.W.keepIn K (.ref f19)=true)
    (a20:PySem.W.nsIn K mainGlobals "dry_of"=some (some (.ref f20))) (l20:K.lookup f20=some ⟨oc20,od20,.func (PySem.W.fnOf "dry_of" "dry_of" (aC iM) (aB iM) (ao iM) .none kV20 dc20 pm20 an20 cd20 ct20),sl20⟩) (c20:PySem.W.codeIn K cd20 "dry_of"=true) (k20:PySem.W.keepIn K (.ref f20)=true)
    (a21:PySem.W.nsIn K mainGlobals "meets"=some (some (.ref f21))) (l21:K.lookup f21=some ⟨oc21,od21,.func (PySem.W.fnOf "meets" "meets" (aC jl) (aB jl) (ao jl) .none kV21 dc21 pm21 an21 cd21 ct21),sl21⟩) (c21:PySem.W.codeIn K cd21 "meets"=true) (k21:PySem.W.keepIn K (.ref f21)=true)
    (a22:PySem.W.nsIn K mainGlobals "lowest_of"=some (some (.ref f22))) (l22:K.lookup f22=some ⟨oc22,od22,.func (PySem.W.fnOf "lowest_of" "lowest_of" (aC cY) (aB cY) (ao cY) .none kV22 dc22 pm22 an22 cd22 ct22),sl22⟩) (c22:PySem.W.codeIn K cd22 "lowest_of"=true) (k22:PySem.W.keepIn K (.ref f22)=true)
    (a23:PySem.W.nsIn K mainGlobals "cut_of"=some (some (.ref f23))) (l23:K.lookup f23=some ⟨oc23,od23,.func (PySem.W.fnOf "cut_of" "cut_of" (aC d9) (aB d9) (ao d9) .none kV23 dc23 pm23 an23 cd23 ct23),sl23⟩) (c23:PySem.W.codeIn K cd23 "cut_of"=true) (k23:PySem.W.keepIn K (.ref f23)=true)
    (a24:PySem.W.nsIn K mainGlobals "_law_cell_at"=some (some (.ref f24))) (l24:K.lookup f24=some ⟨oc24,od24,.func (PySem.W.fnOf "_law_cell_at" "_law_cell_at" (aC bZ) (aB bZ) (ao bZ) .none kV24 dc24 pm24 an24 cd24 ct24),sl24⟩) (c24:PySem.W.codeIn K cd24 "_law_cell_at"=true) (k24:PySem.W.keepIn K (.ref f24)=true)
    (a25:PySem.W.nsIn K mainGlobals "_law_whole"=some (some (.ref f25))) (l25:K.lookup f25=some ⟨oc25,od25,.func (PySem.W.fnOf "_law_whole" "_law_whole" (aC cU) (aB cU) (ao cU) .none kV25 dc25 pm25 an25 cd25 ct25),sl25⟩) (c25:PySem.W.codeIn K cd25 "_law_whole"=true) (k25:PySem.W.keepIn K (.ref f25)=true)
    (a26:PySem.W.nsIn K mainGlobals "_law_draw"=some (some (.ref f26))) (l26:K.lookup f26=some ⟨oc26,od26,.func (PySem.W.fnOf "_law_draw" "_law_draw" (aC dW) (aB dW) (ao dW) .none kV26 dc26 pm26 an26 cd26 ct26),sl26⟩) (c26:PySem.W.codeIn K cd26 "_law_draw"=true) (k26:PySem.W.keepIn K (.ref f26)=true)
    (a27:PySem.W.nsIn K mainGlobals "_law_mixed"=some (some (.ref f27))) (l27:K.lookup f27=some ⟨oc27,od27,.func (PySem.W.fnOf "_law_mixed" "_law_mixed" (aC bG) (aB bG) (ao bG) .none kV27 dc27 pm27 an27 cd27 ct27),sl27⟩) (c27:PySem.W.codeIn K cd27 "_law_mixed"=true) (k27:PySem.W.keepIn K (.ref f27)=true)
    (a28:PySem.W.nsIn K mainGlobals "_law_river"=some (some (.ref f28))) (l28:K.lookup f28=some ⟨oc28,od28,.func (PySem.W.fnOf "_law_river" "_law_river" (aC cG) (aB cG) (ao cG) .none kV28 dc28 pm28 an28 cd28 ct28),sl28⟩) (c28:PySem.W.codeIn K cd28 "_law_river"=true) (k28:PySem.W.keepIn K (.ref f28)=true)
    (a29:PySem.W.nsIn K mainGlobals "_law_springs"=some (some (.ref f29))) (l29:K.lookup f29=some ⟨oc29,od29,.func (PySem.W.fnOf "_law_springs" "_law_springs" (aC bW) (aB bW) (ao bW) .none kV29 dc29 pm29 an29 cd29 ct29),sl29⟩) (c29:PySem.W.codeIn K cd29 "_law_springs"=true) (k29:PySem.W.keepIn K (.ref f29)=true)
    (a30:PySem.W.nsIn K mainGlobals "_law_way"=some (some (.ref f30))) (l30:K.lookup f30=some ⟨oc30,od30,.func (PySem.W.fnOf "_law_way" "_law_way" (aC fj) (aB fj) (ao fj) .none kV30 dc30 pm30 an30 cd30 ct30),sl30⟩) (c30:PySem.W.codeIn K cd30 "_law_way"=true) (k30:PySem.W.keepIn K (.ref f30)=true)
    (a31:PySem.W.nsIn K mainGlobals "_law_drawn"=some (some (.ref f31))) (l31:K.lookup f31=some ⟨oc31,od31,.func (PySem.W.fnOf "_law_drawn" "_law_drawn" (aC cV) (aB cV) (ao cV) .none kV31 dc31 pm31 an31 cd31 ct31),sl31⟩) (c31:PySem.W.codeIn K cd31 "_law_drawn"=true) (k31:PySem.W.keepIn K (.ref f31)=true)
    (a32:PySem.W.nsIn K mainGlobals "_law_giving"=some (some (.ref f32))) (l32:K.lookup f32=some ⟨oc32,od32,.func (PySem.W.fnOf "_law_giving" "_law_giving" (aC bQ) (aB bQ) (ao bQ) .none kV32 dc32 pm32 an32 cd32 ct32),sl32⟩) (c32:PySem.W.codeIn K cd32 "_law_giving"=true) (k32:PySem.W.keepIn K (.ref f32)=true)
    (a33:PySem.W.nsIn K mainGlobals "_law_more"=some (some (.ref f33))) (l33:K.lookup f33=some ⟨oc33,od33,.func (PySem.W.fnOf "_law_more" "_law_more" (aC dU) (aB dU) (ao dU) .none kV33 dc33 pm33 an33 cd33 ct33),sl33⟩) (c33:PySem.W.codeIn K cd33 "_law_more"=true) (k33:PySem.W.keepIn K (.ref f33)=true)
    (a34:PySem.W.nsIn K mainGlobals "_law_other_name"=some (some (.ref f34))) (l34:K.lookup f34=some ⟨oc34,od34,.func (PySem.W.fnOf "_law_other_name" "_law_other_name" (aC bA) (aB bA) (ao bA) .none kV34 dc34 pm34 an34 cd34 ct34),sl34⟩) (c34:PySem.W.codeIn K cd34 "_law_other_name"=true) (k34:PySem.W.keepIn K (.ref f34)=true)
    (a35:PySem.W.nsIn K mainGlobals "_law_refused"=some (some (.ref f35))) (l35:K.lookup f35=some ⟨oc35,od35,.func (PySem.W.fnOf "_law_refused" "_law_refused" (aC bY) (aB bY) (ao bY) .none kV35 dc35 pm35 an35 cd35 ct35),sl35⟩) (c35:PySem.W.codeIn K cd35 "_law_refused"=true) (k35:PySem.W.keepIn K (.ref f35)=true)
    (a36:PySem.W.nsIn K mainGlobals "law"=some (some (.ref f36))) (l36:K.lookup f36=some ⟨oc36,od36,.func (PySem.W.fnOf "law" "law" (aC oG) (aB oG) (ao oG) .none kV36 dc36 pm36 an36 cd36 ct36),sl36⟩) (c36:PySem.W.codeIn K cd36 "law"=true) (k36:PySem.W.keepIn K (.ref f36)=true)
    (e0:PySem.W.nsIn K mainGlobals "MOUTH"=some (some (.int (-1) t0)))
    (z_len:PySem.W.nsIn K mainGlobals "len"=some none)
    (z_range:PySem.W.nsIn K mainGlobals "range"=some none)
    (z_list:PySem.W.nsIn K mainGlobals "list"=some none)
    (z_isinstance:PySem.W.nsIn K mainGlobals "isinstance"=some none)
    (z_bool:PySem.W.nsIn K mainGlobals "bool"=some none)
    (z_int:PySem.W.nsIn K mainGlobals "int"=some none)
    (z_all:PySem.W.nsIn K mainGlobals "all"=some none)
    (z_min:PySem.W.nsIn K mainGlobals "min"=some none)
    (z_max:PySem.W.nsIn K mainGlobals "max"=some none)
    (z_sum:PySem.W.nsIn K mainGlobals "sum"=some none)
    (z_sorted:PySem.W.nsIn K mainGlobals "sorted"=some none)
    (z_zip:PySem.W.nsIn K mainGlobals "zip"=some none)
    (z_tuple:PySem.W.nsIn K mainGlobals "tuple"=some none)
    (z_str:PySem.W.nsIn K mainGlobals "str"=some none)
    (z_any:PySem.W.nsIn K mainGlobals "any"=some none)
    (z_enumerate:PySem.W.nsIn K mainGlobals "enumerate"=some none)
    (z_reversed:PySem.W.nsIn K mainGlobals "reversed"=some none)
    (z_abs:PySem.W.nsIn K mainGlobals "abs"=some none)
    (z_ValueError:PySem.W.nsIn K mainGlobals "ValueError"=some none)
    (z_set:PySem.W.nsIn K mainGlobals "set"=some none)
    (n_SluiceError:PySem.W.nsIn K mainGlobals "SluiceError"=some (some (.ref cX_SluiceError))) (q_SluiceError:PySem.W.excIn K cX_SluiceError pR "ValueError.__new__"=true)
    (xa_SluiceError:PySem.W.findIn K (.ref cX_SluiceError) "__getattribute__"=some (some (.builtin "BaseException.__getattribute__"))) (xb_SluiceError:PySem.W.findIn K (.ref cX_SluiceError) "__getattr__"=some none) (xc_SluiceError:PySem.W.findIn K (.ref cX_SluiceError) "__class__"=some (some (.builtin "object.__class__")))
    (xd_SluiceError:PySem.W.specialIn K (.builtin "object.__class__") "__get__"=some (some (.builtin "getset_descriptor.__get__"))) (xe_SluiceError:PySem.W.takesIn K (.builtin "object.__class__")=some true) (xf_SluiceError:PySem.W.mroIn K cX_SluiceError (.type "object")=some true) (xg_SluiceError:PySem.W.mroIn K cX_SluiceError (.type "BaseException")=some true) (xh_SluiceError:(PySem.W.clsIn K cX_SluiceError).isSome=true)
    (n_NoRiver:PySem.W.nsIn K mainGlobals "NoRiver"=some (some (.ref cX_NoRiver))) (q_NoRiver:PySem.W.excIn K cX_NoRiver pR "ValueError.__new__"=true)
    (xa_NoRiver:PySem.W.findIn K (.ref cX_NoRiver) "__getattribute__"=some (some (.builtin "BaseException.__getattribute__"))) (xb_NoRiver:PySem.W.findIn K (.ref cX_NoRiver) "__getattr__"=some none) (xc_NoRiver:PySem.W.findIn K (.ref cX_NoRiver) "__class__"=some (some (.builtin "object.__class__")))
    (xd_NoRiver:PySem.W.specialIn K (.builtin "object.__class__") "__get__"=some (some (.builtin "getset_descriptor.__get__"))) (xe_NoRiver:PySem.W.takesIn K (.builtin "object.__class__")=some true) (xf_NoRiver:PySem.W.mroIn K cX_NoRiver (.type "object")=some true) (xg_NoRiver:PySem.W.mroIn K cX_NoRiver (.type "BaseException")=some true) (xh_NoRiver:(PySem.W.clsIn K cX_NoRiver).isSome=true)
    (n_NoReach:PySem.W.nsIn K mainGlobals "NoReach"=some (some (.ref cX_NoReach))) (q_NoReach:PySem.W.excIn K cX_NoReach pR "ValueError.__new__"=true)
    (xa_NoReach:PySem.W.findIn K (.ref cX_NoReach) "__getattribute__"=some (some (.builtin "BaseException.__getattribute__"))) (xb_NoReach:PySem.W.findIn K (.ref cX_NoReach) "__getattr__"=some none) (xc_NoReach:PySem.W.findIn K (.ref cX_NoReach) "__class__"=some (some (.builtin "object.__class__")))
    (xd_NoReach:PySem.W.specialIn K (.builtin "object.__class__") "__get__"=some (some (.builtin "getset_descriptor.__get__"))) (xe_NoReach:PySem.W.takesIn K (.builtin "object.__class__")=some true) (xf_NoReach:PySem.W.mroIn K cX_NoReach (.type "object")=some true) (xg_NoReach:PySem.W.mroIn K cX_NoReach (.type "BaseException")=some true) (xh_NoReach:(PySem.W.clsIn K cX_NoReach).isSome=true)
    (n_NoLicence:PySem.W.nsIn K mainGlobals "NoLicence"=some (some (.ref cX_NoLicence))) (q_NoLicence:PySem.W.excIn K cX_NoLicence pR "ValueError.__new__"=true)
    (xa_NoLicence:PySem.W.findIn K (.ref cX_NoLicence) "__getattribute__"=some (some (.builtin "BaseException.__getattribute__"))) (xb_NoLicence:PySem.W.findIn K (.ref cX_NoLicence) "__getattr__"=some none) (xc_NoLicence:PySem.W.findIn K (.ref cX_NoLicence) "__class__"=some (some (.builtin "object.__class__")))
    (xd_NoLicence:PySem.W.specialIn K (.builtin "object.__class__") "__get__"=some (some (.builtin "getset_descriptor.__get__"))) (xe_NoLicence:PySem.W.takesIn K (.builtin "object.__class__")=some true) (xf_NoLicence:PySem.W.mroIn K cX_NoLicence (.type "object")=some true) (xg_NoLicence:PySem.W.mroIn K cX_NoLicence (.type "BaseException")=some true) (xh_NoLicence:(PySem.W.clsIn K cX_NoLicence).isSome=true)
    (n_NoNumber:PySem.W.nsIn K mainGlobals "NoNumber"=some (some (.ref cX_NoNumber))) (q_NoNumber:PySem.W.excIn K cX_NoNumber pR "ValueError.__new__"=true)
    (xa_NoNumber:PySem.W.findIn K (.ref cX_NoNumber) "__getattribute__"=some (some (.builtin "BaseException.__getattribute__"))) (xb_NoNumber:PySem.W.findIn K (.ref cX_NoNumber) "__getattr__"=some none) (xc_NoNumber:PySem.W.findIn K (.ref cX_NoNumber) "__class__"=some (some (.builtin "object.__class__")))
    (xd_NoNumber:PySem.W.specialIn K (.builtin "object.__class__") "__get__"=some (some (.builtin "getset_descriptor.__get__"))) (xe_NoNumber:PySem.W.takesIn K (.builtin "object.__class__")=some true) (xf_NoNumber:PySem.W.mroIn K cX_NoNumber (.type "object")=some true) (xg_NoNumber:PySem.W.mroIn K cX_NoNumber (.type "BaseException")=some true) (xh_NoNumber:(PySem.W.clsIn K cX_NoNumber).isSome=true)
    (n_NoHolder:PySem.W.nsIn K mainGlobals "NoHolder"=some (some (.ref cX_NoHolder))) (q_NoHolder:PySem.W.excIn K cX_NoHolder pR "ValueError.__new__"=true)
    (xa_NoHolder:PySem.W.findIn K (.ref cX_NoHolder) "__getattribute__"=some (some (.builtin "BaseException.__getattribute__"))) (xb_NoHolder:PySem.W.findIn K (.ref cX_NoHolder) "__getattr__"=some none) (xc_NoHolder:PySem.W.findIn K (.ref cX_NoHolder) "__class__"=some (some (.builtin "object.__class__")))
    (xd_NoHolder:PySem.W.specialIn K (.builtin "object.__class__") "__get__"=some (some (.builtin "getset_descriptor.__get__"))) (xe_NoHolder:PySem.W.takesIn K (.builtin "object.__class__")=some true) (xf_NoHolder:PySem.W.mroIn K cX_NoHolder (.type "object")=some true) (xg_NoHolder:PySem.W.mroIn K cX_NoHolder (.type "BaseException")=some true) (xh_NoHolder:(PySem.W.clsIn K cX_NoHolder).isSome=true)
    (n_NotYours:PySem.W.nsIn K mainGlobals "NotYours"=some (some (.ref cX_NotYours))) (q_NotYours:PySem.W.excIn K cX_NotYours pR "ValueError.__new__"=true)
    (xa_NotYours:PySem.W.findIn K (.ref cX_NotYours) "__getattribute__"=some (some (.builtin "BaseException.__getattribute__"))) (xb_NotYours:PySem.W.findIn K (.ref cX_NotYours) "__getattr__"=some none) (xc_NotYours:PySem.W.findIn K (.ref cX_NotYours) "__class__"=some (some (.builtin "object.__class__")))
    (xd_NotYours:PySem.W.specialIn K (.builtin "object.__class__") "__get__"=some (some (.builtin "getset_descriptor.__get__"))) (xe_NotYours:PySem.W.takesIn K (.builtin "object.__class__")=some true) (xf_NotYours:PySem.W.mroIn K cX_NotYours (.type "object")=some true) (xg_NotYours:PySem.W.mroIn K cX_NotYours (.type "BaseException")=some true) (xh_NotYours:(PySem.W.clsIn K cX_NotYours).isSome=true)
    (n_NotAlone:PySem.W.nsIn K mainGlobals "NotAlone"=some (some (.ref cX_NotAlone))) (q_NotAlone:PySem.W.excIn K cX_NotAlone pR "ValueError.__new__"=true)
    (xa_NotAlone:PySem.W.findIn K (.ref cX_NotAlone) "__getattribute__"=some (some (.builtin "BaseException.__getattribute__"))) (xb_NotAlone:PySem.W.findIn K (.ref cX_NotAlone) "__getattr__"=some none) (xc_NotAlone:PySem.W.findIn K (.ref cX_NotAlone) "__class__"=some (some (.builtin "object.__class__")))
    (xd_NotAlone:PySem.W.specialIn K (.builtin "object.__class__") "__get__"=some (some (.builtin "getset_descriptor.__get__"))) (xe_NotAlone:PySem.W.takesIn K (.builtin "object.__class__")=some true) (xf_NotAlone:PySem.W.mroIn K cX_NotAlone (.type "object")=some true) (xg_NotAlone:PySem.W.mroIn K cX_NotAlone (.type "BaseException")=some true) (xh_NotAlone:(PySem.W.clsIn K cX_NotAlone).isSome=true)
    (n_TooMuch:PySem.W.nsIn K mainGlobals "TooMuch"=some (some (.ref cX_TooMuch))) (q_TooMuch:PySem.W.excIn K cX_TooMuch pR "ValueError.__new__"=true)
    (xa_TooMuch:PySem.W.findIn K (.ref cX_TooMuch) "__getattribute__"=some (some (.builtin "BaseException.__getattribute__"))) (xb_TooMuch:PySem.W.findIn K (.ref cX_TooMuch) "__getattr__"=some none) (xc_TooMuch:PySem.W.findIn K (.ref cX_TooMuch) "__class__"=some (some (.builtin "object.__class__")))
    (xd_TooMuch:PySem.W.specialIn K (.builtin "object.__class__") "__get__"=some (some (.builtin "getset_descriptor.__get__"))) (xe_TooMuch:PySem.W.takesIn K (.builtin "object.__class__")=some true) (xf_TooMuch:PySem.W.mroIn K cX_TooMuch (.type "object")=some true) (xg_TooMuch:PySem.W.mroIn K cX_TooMuch (.type "BaseException")=some true) (xh_TooMuch:(PySem.W.clsIn K cX_TooMuch).isSome=true)
    (n_Full:PySem.W.nsIn K mainGlobals "Full"=some (some (.ref cX_Full))) (q_Full:PySem.W.excIn K cX_Full pR "ValueError.__new__"=true)
    (xa_Full:PySem.W.findIn K (.ref cX_Full) "__getattribute__"=some (some (.builtin "BaseException.__getattribute__"))) (xb_Full:PySem.W.findIn K (.ref cX_Full) "__getattr__"=some none) (xc_Full:PySem.W.findIn K (.ref cX_Full) "__class__"=some (some (.builtin "object.__class__")))
    (xd_Full:PySem.W.specialIn K (.builtin "object.__class__") "__get__"=some (some (.builtin "getset_descriptor.__get__"))) (xe_Full:PySem.W.takesIn K (.builtin "object.__class__")=some true) (xf_Full:PySem.W.mroIn K cX_Full (.type "object")=some true) (xg_Full:PySem.W.mroIn K cX_Full (.type "BaseException")=some true) (xh_Full:(PySem.W.clsIn K cX_Full).isSome=true)
    (n_NoPaper:PySem.W.nsIn K mainGlobals "NoPaper"=some (some (.ref cX_NoPaper))) (q_NoPaper:PySem.W.excIn K cX_NoPaper pR "ValueError.__new__"=true)
    (xa_NoPaper:PySem.W.findIn K (.ref cX_NoPaper) "__getattribute__"=some (some (.builtin "BaseException.__getattribute__"))) (xb_NoPaper:PySem.W.findIn K (.ref cX_NoPaper) "__getattr__"=some none) (xc_NoPaper:PySem.W.findIn K (.ref cX_NoPaper) "__class__"=some (some (.builtin "object.__class__")))
    (xd_NoPaper:PySem.W.specialIn K (.builtin "object.__class__") "__get__"=some (some (.builtin "getset_descriptor.__get__"))) (xe_NoPaper:PySem.W.takesIn K (.builtin "object.__class__")=some true) (xf_NoPaper:PySem.W.mroIn K cX_NoPaper (.type "object")=some true) (xg_NoPaper:PySem.W.mroIn K cX_NoPaper (.type "BaseException")=some true) (xh_NoPaper:(PySem.W.clsIn K cX_NoPaper).isSome=true)
    (n_NoCut:PySem.W.nsIn K mainGlobals "NoCut"=some (some (.ref cX_NoCut))) (q_NoCut:PySem.W.excIn K cX_NoCut pR "ValueError.__new__"=true)
    (xa_NoCut:PySem.W.findIn K (.ref cX_NoCut) "__getattribute__"=some (some (.builtin "BaseException.__getattribute__"))) (xb_NoCut:PySem.W.findIn K (.ref cX_NoCut) "__getattr__"=some none) (xc_NoCut:PySem.W.findIn K (.ref cX_NoCut) "__class__"=some (some (.builtin "object.__class__")))
    (xd_NoCut:PySem.W.specialIn K (.builtin "object.__class__") "__get__"=some (some (.builtin "getset_descriptor.__get__"))) (xe_NoCut:PySem.W.takesIn K (.builtin "object.__class__")=some true) (xf_NoCut:PySem.W.mroIn K cX_NoCut (.type "object")=some true) (xg_NoCut:PySem.W.mroIn K cX_NoCut (.type "BaseException")=some true) (xh_NoCut:(PySem.W.clsIn K cX_NoCut).isSome=true)
    (n_NoPond:PySem.W.nsIn K mainGlobals "NoPond"=some (some (.ref cX_NoPond))) (q_NoPond:PySem.W.excIn K cX_NoPond pR "ValueError.__new__"=true)
    (xa_NoPond:PySem.W.findIn K (.ref cX_NoPond) "__getattribute__"=some (some (.builtin "BaseException.__getattribute__"))) (xb_NoPond:PySem.W.findIn K (.ref cX_NoPond) "__getattr__"=some none) (xc_NoPond:PySem.W.findIn K (.ref cX_NoPond) "__class__"=some (some (.builtin "object.__class__")))
    (xd_NoPond:PySem.W.specialIn K (.builtin "object.__class__") "__get__"=some (some (.builtin "getset_descriptor.__get__"))) (xe_NoPond:PySem.W.takesIn K (.builtin "object.__class__")=some true) (xf_NoPond:PySem.W.mroIn K cX_NoPond (.type "object")=some true) (xg_NoPond:PySem.W.mroIn K cX_NoPond (.type "BaseException")=some true) (xh_NoPond:(PySem.W.clsIn K cX_NoPond).isSome=true)
    (n_NoDay:PySem.W.nsIn K mainGlobals "NoDay"=some (some (.ref cX_NoDay))) (q_NoDay:PySem.W.excIn K cX_NoDay pR "ValueError.__new__"=true)
    (xa_NoDay:PySem.W.findIn K (.ref cX_NoDay) "__getattribute__"=some (some (.builtin "BaseException.__getattribute__"))) (xb_NoDay:PySem.W.findIn K (.ref cX_NoDay) "__getattr__"=some none) (xc_NoDay:PySem.W.findIn K (.ref cX_NoDay) "__class__"=some (some (.builtin "object.__class__")))
    (xd_NoDay:PySem.W.specialIn K (.builtin "object.__class__") "__get__"=some (some (.builtin "getset_descriptor.__get__"))) (xe_NoDay:PySem.W.takesIn K (.builtin "object.__class__")=some true) (xf_NoDay:PySem.W.mroIn K cX_NoDay (.type "object")=some true) (xg_NoDay:PySem.W.mroIn K cX_NoDay (.type "BaseException")=some true) (xh_NoDay:(PySem.W.clsIn K cX_NoDay).isSome=true)
    (n_Fixed:PySem.W.nsIn K mainGlobals "Fixed"=some (some (.ref cX_Fixed))) (q_Fixed:PySem.W.excIn K cX_Fixed pR "ValueError.__new__"=true)
    (xa_Fixed:PySem.W.findIn K (.ref cX_Fixed) "__getattribute__"=some (some (.builtin "BaseException.__getattribute__"))) (xb_Fixed:PySem.W.findIn K (.ref cX_Fixed) "__getattr__"=some none) (xc_Fixed:PySem.W.findIn K (.ref cX_Fixed) "__class__"=some (some (.builtin "object.__class__")))
    (xd_Fixed:PySem.W.specialIn K (.builtin "object.__class__") "__get__"=some (some (.builtin "getset_descriptor.__get__"))) (xe_Fixed:PySem.W.takesIn K (.builtin "object.__class__")=some true) (xf_Fixed:PySem.W.mroIn K cX_Fixed (.type "object")=some true) (xg_Fixed:PySem.W.mroIn K cX_Fixed (.type "BaseException")=some true) (xh_Fixed:(PySem.W.clsIn K cX_Fixed).isSome=true)
    (n_Harms:PySem.W.nsIn K mainGlobals "Harms"=some (some (.ref cX_Harms))) (q_Harms:PySem.W.excIn K cX_Harms pR "ValueError.__new__"=true)
    (xa_Harms:PySem.W.findIn K (.ref cX_Harms) "__getattribute__"=some (some (.builtin "BaseException.__getattribute__"))) (xb_Harms:PySem.W.findIn K (.ref cX_Harms) "__getattr__"=some none) (xc_Harms:PySem.W.findIn K (.ref cX_Harms) "__class__"=some (some (.builtin "object.__class__")))
    (xd_Harms:PySem.W.specialIn K (.builtin "object.__class__") "__get__"=some (some (.builtin "getset_descriptor.__get__"))) (xe_Harms:PySem.W.takesIn K (.builtin "object.__class__")=some true) (xf_Harms:PySem.W.mroIn K cX_Harms (.type "object")=some true) (xg_Harms:PySem.W.mroIn K cX_Harms (.type "BaseException")=some true) (xh_Harms:(PySem.W.clsIn K cX_Harms).isSome=true)
    (n_NoRow:PySem.W.nsIn K mainGlobals "NoRow"=some (some (.ref cX_NoRow))) (q_NoRow:PySem.W.excIn K cX_NoRow pR "ValueError.__new__"=true)
    (xa_NoRow:PySem.W.findIn K (.ref cX_NoRow) "__getattribute__"=some (some (.builtin "BaseException.__getattribute__"))) (xb_NoRow:PySem.W.findIn K (.ref cX_NoRow) "__getattr__"=some none) (xc_NoRow:PySem.W.findIn K (.ref cX_NoRow) "__class__"=some (some (.builtin "object.__class__")))
    (xd_NoRow:PySem.W.specialIn K (.builtin "object.__class__") "__get__"=some (some (.builtin "getset_descriptor.__get__"))) (xe_NoRow:PySem.W.takesIn K (.builtin "object.__class__")=some true) (xf_NoRow:PySem.W.mroIn K cX_NoRow (.type "object")=some true) (xg_NoRow:PySem.W.mroIn K cX_NoRow (.type "BaseException")=some true) (xh_NoRow:(PySem.W.clsIn K cX_NoRow).isSome=true)
    (m_NoCut_SluiceError:PySem.W.exmOne K (.ref cX_NoCut) (.ref cX_SluiceError)=some true)
    (i_NoCut_NoRiver:PySem.W.kitOne K (.ref cX_NoCut) (.ref cX_NoRiver)=some false)
    (i_NoCut_NoReach:PySem.W.kitOne K (.ref cX_NoCut) (.ref cX_NoReach)=some false)
    (i_NoCut_NoLicence:PySem.W.kitOne K (.ref cX_NoCut) (.ref cX_NoLicence)=some false)
    (i_NoCut_NoNumber:PySem.W.kitOne K (.ref cX_NoCut) (.ref cX_NoNumber)=some false)
    (i_NoCut_NoHolder:PySem.W.kitOne K (.ref cX_NoCut) (.ref cX_NoHolder)=some false)
    (i_NoCut_NotYours:PySem.W.kitOne K (.ref cX_NoCut) (.ref cX_NotYours)=some false)
    (i_NoCut_NotAlone:PySem.W.kitOne K (.ref cX_NoCut) (.ref cX_NotAlone)=some false)
    (i_NoCut_TooMuch:PySem.W.kitOne K (.ref cX_NoCut) (.ref cX_TooMuch)=some false)
    (i_NoCut_Full:PySem.W.kitOne K (.ref cX_NoCut) (.ref cX_Full)=some false)
    (i_NoCut_NoPaper:PySem.W.kitOne K (.ref cX_NoCut) (.ref cX_NoPaper)=some false)
    (i_NoCut_NoPond:PySem.W.kitOne K (.ref cX_NoCut) (.ref cX_NoPond)=some false)
    (i_NoCut_NoDay:PySem.W.kitOne K (.ref cX_NoCut) (.ref cX_NoDay)=some false)
    (i_NoCut_Fixed:PySem.W.kitOne K (.ref cX_NoCut) (.ref cX_Fixed)=some false)
    (i_NoCut_Harms:PySem.W.kitOne K (.ref cX_NoCut) (.ref cX_Harms)=some false)
    (i_NoCut_NoRow:PySem.W.kitOne K (.ref cX_NoCut) (.ref cX_NoRow)=some false)
    (i_NoCut_NoCut:PySem.W.kitOne K (.ref cX_NoCut) (.ref cX_NoCut)=some true)
    (i_NoCut_ValueError:PySem.W.kitOne K (.ref cX_NoCut) (.type "ValueError")=some true)
    (y0:PySem.W.codeHdIn K cT0 pT0=true)
    (y1:PySem.W.codeHdIn K cT1 pT1=true)
    (dd0_1:pT0≠pT1)
    : ∃ fd:FuncData,(∀ (s:Shared) (v:Value),BindsTo s fd ⟨[v],[]⟩ [("script",v)])∧∀ base:Heap,K.In base→base.Ns mainGlobals mg→BM mg base→bT l.prog w K mg base CX0 11 fa fd ["script"] (wO K [(pT0,bF.1,bF.2),(pT1,cI.1,cI.2)]):=by
  have e:=hfa.symm.trans (PySem.W.mg_of X G a36)
  cases e
  have B:Blt mg:=⟨PySem.W.mg_none_of X G z_len,PySem.W.mg_none_of X G z_range,PySem.W.mg_none_of X G z_list,PySem.W.mg_none_of X G z_isinstance,PySem.W.mg_none_of X G z_bool,PySem.W.mg_none_of X G z_int,PySem.W.mg_none_of X G z_all,PySem.W.mg_none_of X G z_min,PySem.W.mg_none_of X G z_max,PySem.W.mg_none_of X G z_sum,PySem.W.mg_none_of X G z_sorted,PySem.W.mg_none_of X G z_zip,PySem.W.mg_none_of X G z_tuple,PySem.W.mg_none_of X G z_str,PySem.W.mg_none_of X G z_any,PySem.W.mg_none_of X G z_enumerate,PySem.W.mg_none_of X G z_reversed,PySem.W.mg_none_of X G z_abs,PySem.W.mg_none_of X G z_ValueError,PySem.W.mg_none_of X G z_set⟩
  have h_MOUTH:∃ t,mg "MOUTH"=some (.int (-1) t):=⟨_,PySem.W.mg_of X G e0⟩
  have X_SluiceError:jE K mg "SluiceError" cX_SluiceError:=⟨PySem.W.mg_of X G n_SluiceError,q_SluiceError,⟨xa_SluiceError,xb_SluiceError,xc_SluiceError,xd_SluiceError,xe_SluiceError,xf_SluiceError,xg_SluiceError,xh_SluiceError⟩⟩
  have X_NoRiver:jE K mg "NoRiver" cX_NoRiver:=⟨PySem.W.mg_of X G n_NoRiver,q_NoRiver,⟨xa_NoRiver,xb_NoRiver,xc_NoRiver,xd_NoRiver,xe_NoRiver,xf_NoRiver,xg_NoRiver,xh_NoRiver⟩⟩
  have X_NoReach:jE K mg "NoReach" cX_NoReach:=⟨PySem.W.mg_of X G n_NoReach,q_NoReach,⟨xa_NoReach,xb_NoReach,xc_NoReach,xd_NoReach,xe_NoReach,xf_NoReach,xg_NoReach,xh_NoReach⟩⟩
  have X_NoLicence:jE K mg "NoLicence" cX_NoLicence:=⟨PySem.W.mg_of X G n_NoLicence,q_NoLicence,⟨xa_NoLicence,xb_NoLicence,xc_NoLicence,xd_NoLicence,xe_NoLicence,xf_NoLicence,xg_NoLicence,xh_NoLicence⟩⟩
  have X_NoNumber:jE K mg "NoNumber" cX_NoNumber:=⟨PySem.W.mg_of X G n_NoNumber,q_NoNumber,⟨xa_NoNumber,xb_NoNumber,xc_NoNumber,xd_NoNumber,xe_NoNumber,xf_NoNumber,xg_NoNumber,xh_NoNumber⟩⟩
  have X_NoHolder:jE K mg "NoHolder" cX_NoHolder:=⟨PySem.W.mg_of X G n_NoHolder,q_NoHolder,⟨xa_NoHolder,xb_NoHolder,xc_NoHolder,xd_NoHolder,xe_NoHolder,xf_NoHolder,xg_NoHolder,xh_NoHolder⟩⟩
  have X_NotYours:jE K mg "NotYours" cX_NotYours:=⟨PySem.W.mg_of X G n_NotYours,q_NotYours,⟨xa_NotYours,xb_NotYours,xc_NotYours,xd_NotYours,xe_NotYours,xf_NotYours,xg_NotYours,xh_NotYours⟩⟩
  have X_NotAlone:jE K mg "NotAlone" cX_NotAlone:=⟨PySem.W.mg_of X G n_NotAlone,q_NotAlone,⟨xa_NotAlone,xb_NotAlone,xc_NotAlone,xd_NotAlone,xe_NotAlone,xf_NotAlone,xg_NotAlone,xh_NotAlone⟩⟩
  have X_TooMuch:jE K mg "TooMuch" cX_TooMuch:=⟨PySem.W.mg_of X G n_TooMuch,q_TooMuch,⟨xa_TooMuch,xb_TooMuch,xc_TooMuch,xd_TooMuch,xe_TooMuch,xf_TooMuch,xg_TooMuch,xh_TooMuch⟩⟩
  have X_Full:jE K mg "Full" cX_Full:=⟨PySem.W.mg_of X G n_Full,q_Full,⟨xa_Full,xb_Full,xc_Full,xd_Full,xe_Full,xf_Full,xg_Full,xh_Full⟩⟩
  have X_NoPaper:jE K mg "NoPaper" cX_NoPaper:=⟨PySem.W.mg_of X G n_NoPaper,q_NoPaper,⟨xa_NoPaper,xb_NoPaper,xc_NoPaper,xd_NoPaper,xe_NoPaper,xf_NoPaper,xg_NoPaper,xh_NoPaper⟩⟩
  have X_NoCut:jE K mg "NoCut" cX_NoCut:=⟨PySem.W.mg_of X G n_NoCut,q_NoCut,⟨xa_NoCut,xb_NoCut,xc_NoCut,xd_NoCut,xe_NoCut,xf_NoCut,xg_NoCut,xh_NoCut⟩⟩
  have X_NoPond:jE K mg "NoPond" cX_NoPond:=⟨PySem.W.mg_of X G n_NoPond,q_NoPond,⟨xa_NoPond,xb_NoPond,xc_NoPond,xd_NoPond,xe_NoPond,xf_NoPond,xg_NoPond,xh_NoPond⟩⟩
  have X_NoDay:jE K mg "NoDay" cX_NoDay:=⟨PySem.W.mg_of X G n_NoDay,q_NoDay,⟨xa_NoDay,xb_NoDay,xc_NoDay,xd_NoDay,xe_NoDay,xf_NoDay,xg_NoDay,xh_NoDay⟩⟩
  have X_Fixed:jE K mg "Fixed" cX_Fixed:=⟨PySem.W.mg_of X G n_Fixed,q_Fixed,⟨xa_Fixed,xb_Fixed,xc_Fixed,xd_Fixed,xe_Fixed,xf_Fixed,xg_Fixed,xh_Fixed⟩⟩
  have X_Harms:jE K mg "Harms" cX_Harms:=⟨PySem.W.mg_of X G n_Harms,q_Harms,⟨xa_Harms,xb_Harms,xc_Harms,xd_Harms,xe_Harms,xf_Harms,xg_Harms,xh_Harms⟩⟩
  have X_NoRow:jE K mg "NoRow" cX_NoRow:=⟨PySem.W.mg_of X G n_NoRow,q_NoRow,⟨xa_NoRow,xb_NoRow,xc_NoRow,xd_NoRow,xe_NoRow,xf_NoRow,xg_NoRow,xh_NoRow⟩⟩
  have F0:=bH (st:=gR) l0 c0 k0
  have cJ:Df K mg "way_of" gR ["below","reach"] _ _:=⟨F0,jW F0 (fun _ _ _ _ _ _ _ _=>rfl),PySem.W.mg_of X G a0⟩
  have F1:=bH (st:=cF) l1 c1 k1
  have fu:Df K mg "tops_first" cF ["below"] _ _:=⟨F1,kO F1 (fun _ _ _ _ _ _ _=>rfl),PySem.W.mg_of X G a1⟩
  have F2:=bH (st:=cO) l2 c2 k2
  have fB:Df K mg "stretch_of" cO ["below","start","stop"] _ _:=⟨F2,nC F2 (fun _ _ _ _ _ _ _ _ _=>rfl),PySem.W.mg_of X G a2⟩
  have F3:=bH (st:=bV) l3 c3 k3
  have aZ:Df K mg "natural_of" bV ["below","springs"] _ _:=⟨F3,jW F3 (fun _ _ _ _ _ _ _ _=>rfl),PySem.W.mg_of X G a3⟩
  have F4:=bH (st:=bU) l4 c4 k4
  have aY:Df K mg "reaches_of" bU ["below","one"] _ _:=⟨F4,jW F4 (fun _ _ _ _ _ _ _ _=>rfl),PySem.W.mg_of X G a4⟩
  have F5:=bH (st:=cZ) l5 c5 k5
  have cj:Df K mg "day_filed" cZ ["one"] _ _:=⟨F5,kO F5 (fun _ _ _ _ _ _ _=>rfl),PySem.W.mg_of X G a5⟩
  have F6:=bH (st:=cP) l6 c6 k6
  have fC:Df K mg "gives_back" cP ["one"] _ _:=⟨F6,kO F6 (fun _ _ _ _ _ _ _=>rfl),PySem.W.mg_of X G a6⟩
  have F7:=bH (st:=ig) l7 c7 k7
  have jt:Df K mg "most_of" ig ["one"] _ _:=⟨F7,kO F7 (fun _ _ _ _ _ _ _=>rfl),PySem.W.mg_of X G a7⟩
  have F8:=bH (st:=iK) l8 c8 k8
  have j9:Df K mg "ranked" iK ["roll"] _ _:=⟨F8,kO F8 (fun _ _ _ _ _ _ _=>rfl),PySem.W.mg_of X G a8⟩
  have F9:=bH (st:=dR) l9 c9 k9
  have gO:Df K mg "groups_of" dR ["roll"] _ _:=⟨F9,kO F9 (fun _ _ _ _ _ _ _=>rfl),PySem.W.mg_of X G a9⟩
  have F10:=bH (st:=dG) l10 c10 k10
  have cL:Df K mg "wants_of" dG ["roll","calls"] _ _:=⟨F10,jW F10 (fun _ _ _ _ _ _ _ _=>rfl),PySem.W.mg_of X G a10⟩
  have F11:=bH (st:=cR) l11 c11 k11
  have fH:Df K mg "count_ways" cR ["free","ways"] _ _:=⟨F11,jW F11 (fun _ _ _ _ _ _ _ _=>rfl),PySem.W.mg_of X G a11⟩
  have F12:=bH (st:=bO) l12 c12 k12
  have eE:Df K mg "whole_turns" bO ["free","ways","rests"] _ _:=⟨F12,nC F12 (fun _ _ _ _ _ _ _ _ _=>rfl),PySem.W.mg_of X G a12⟩
  have F13:=bH (st:=lO) l13 c13 k13
  have jY:Df K mg "draw" lO ["left","way","drops"] _ _:=⟨F13,nC F13 (fun _ _ _ _ _ _ _ _ _=>rfl),PySem.W.mg_of X G a13⟩
  have F14:=bH (st:=aU) l14 c14 k14
  have bL:Df K mg "take_whole_turns" aU ["left","ways","rests","takes","going"] _ _:=⟨F14,QW F14 (fun _ _ _ _ _ _ _ _ _ _ _=>rfl),PySem.W.mg_of X G a14⟩
  have F15:=bH (st:=bC) l15 c15 k15
  have cM:Df K mg "take_one_turn" bC ["left","ways","rests","takes","going"] _ _:=⟨F15,QW F15 (fun _ _ _ _ _ _ _ _ _ _ _=>rfl),PySem.W.mg_of X G a15⟩
  have F16:=bH (st:=cQ) l16 c16 k16
  have fD:Df K mg "deal_turns" cQ ["free","ways","rests"] _ _:=⟨F16,nC F16 (fun _ _ _ _ _ _ _ _ _=>rfl),PySem.W.mg_of X G a16⟩
  have F17:=bH (st:=jL) l17 c17 k17
  have jZ:Df K mg "deal" jL ["below","springs","roll","calls"] _ _:=⟨F17,qH F17 (fun _ _ _ _ _ _ _ _ _ _=>rfl),PySem.W.mg_of X G a17⟩
  have F18:=bH (st:=eZ) l18 c18 k18
  have iT:Df K mg "holds_of" eZ ["below","roll","takes"] _ _:=⟨F18,nC F18 (fun _ _ _ _ _ _ _ _ _=>rfl),PySem.W.mg_of X G a18⟩
  have F19:=bH (st:=gb) l19 c19 k19
  have ju:Df K mg "free_of" gb ["below","springs","roll","takes"] _ _:=⟨F19,qH F19 (fun _ _ _ _ _ _ _ _ _ _=>rfl),PySem.W.mg_of X G a19⟩
  have F20:=bH (st:=iM) l20 c20 k20
  have kh:Df K mg "dry_of" iM ["below","springs","roll","takes"] _ _:=⟨F20,qH F20 (fun _ _ _ _ _ _ _ _ _ _=>rfl),PySem.W.mg_of X G a20⟩
  have F21:=bH (st:=jl) l21 c21 k21
  have jh:Df K mg "meets" jl ["reaches","others"] _ _:=⟨F21,jW F21 (fun _ _ _ _ _ _ _ _=>rfl),PySem.W.mg_of X G a21⟩
  have F22:=bH (st:=cY) l22 c22 k22
  have gM:Df K mg "lowest_of" cY ["below","reaches"] _ _:=⟨F22,jW F22 (fun _ _ _ _ _ _ _ _=>rfl),PySem.W.mg_of X G a22⟩
  have F23:=bH (st:=d9) l23 c23 k23
  have gF:Df K mg "cut_of" d9 ["below","springs","roll","calls"] _ _:=⟨F23,qH F23 (fun _ _ _ _ _ _ _ _ _ _=>rfl),PySem.W.mg_of X G a23⟩
  have F24:=bH (st:=bZ) l24 c24 k24
  have aF:Df K mg "_law_cell_at" bZ ["script","k"] _ _:=⟨F24,jW F24 (fun _ _ _ _ _ _ _ _=>rfl),PySem.W.mg_of X G a24⟩
  have F25:=bH (st:=cU) l25 c25 k25
  have fJ:Df K mg "_law_whole" cU ["found"] _ _:=⟨F25,kO F25 (fun _ _ _ _ _ _ _=>rfl),PySem.W.mg_of X G a25⟩
  have F26:=bH (st:=dW) l26 c26 k26
  have gQ:Df K mg "_law_draw" dW ["cell","k"] _ _:=⟨F26,jW F26 (fun _ _ _ _ _ _ _ _=>rfl),PySem.W.mg_of X G a26⟩
  have F27:=bH (st:=bG) l27 c27 k27
  have aM:Df K mg "_law_mixed" bG ["cell","many"] _ _:=⟨F27,jW F27 (fun _ _ _ _ _ _ _ _=>rfl),PySem.W.mg_of X G a27⟩
  have F28:=bH (st:=cG) l28 c28 k28
  have fL:Df K mg "_law_river" cG ["cell"] _ _:=⟨F28,kO F28 (fun _ _ _ _ _ _ _=>rfl),PySem.W.mg_of X G a28⟩
  have F29:=bH (st:=bW) l29 c29 k29
  have dH:Df K mg "_law_springs" bW ["cell","size","kind"] _ _:=⟨F29,nC F29 (fun _ _ _ _ _ _ _ _ _=>rfl),PySem.W.mg_of X G a29⟩
  have F30:=bH (st:=fj) l30 c30 k30
  have iU:Df K mg "_law_way" fj ["below","reach"] _ _:=⟨F30,jW F30 (fun _ _ _ _ _ _ _ _=>rfl),PySem.W.mg_of X G a30⟩
  have F31:=bH (st:=cV) l31 c31 k31
  have fM:Df K mg "_law_drawn" cV ["cell","size","far","kind"] _ _:=⟨F31,qH F31 (fun _ _ _ _ _ _ _ _ _ _=>rfl),PySem.W.mg_of X G a31⟩
  have F32:=bH (st:=bQ) l32 c32 k32
  have eG:Df K mg "_law_giving" bQ ["cell","below","far"] _ _:=⟨F32,nC F32 (fun _ _ _ _ _ _ _ _ _=>rfl),PySem.W.mg_of X G a32⟩
  have F33:=bH (st:=dU) l33 c33 k33
  have gP:Df K mg "_law_more" dU ["roll","below","cell"] _ _:=⟨F33,nC F33 (fun _ _ _ _ _ _ _ _ _=>rfl),PySem.W.mg_of X G a33⟩
  have F34:=bH (st:=bA) l34 c34 k34
  have cg:Df K mg "_law_other_name" bA ["e"] _ _:=⟨F34,kO F34 (fun _ _ _ _ _ _ _=>rfl),PySem.W.mg_of X G a34⟩
  have F35:=bH (st:=bY) l35 c35 k35
  have dI:Df K mg "_law_refused" bY ["below","springs","roll","calls"] _ _:=⟨F35,qH F35 (fun _ _ _ _ _ _ _ _ _ _=>rfl),PySem.W.mg_of X G a35⟩
  have F36:=bH (st:=oG) l36 c36 k36
  have aae:Df K mg "law" oG ["script"] _ _:=⟨F36,kO F36 (fun _ _ _ _ _ _ _=>rfl),PySem.W.mg_of X G a36⟩
  refine ⟨PySem.W.fnOf "law" "law" (aC oG) (aB oG) (ao oG) .none kV36 dc36 pm36 an36 cd36 ct36,fun s v=>.of_eq rfl,fun base _ _ hbm=>?_⟩
  have C:Mth mg:=⟨h_MOUTH⟩
  have nd:([(pT0,bF.1,bF.2),(pT1,cI.1,cI.2)].map (·.1)).Nodup:=by
    show ([pT0,pT1]:List Addr).Nodup
    simp [dd0_1]
  have hT:TT1 pT1 [(pT0,bF.1,bF.2),(pT1,cI.1,cI.2)]:=⟨List.mem_cons_of_mem _ List.mem_cons_self,nd⟩
  have hT2:TT2 pT0 [(pT0,bF.1,bF.2),(pT1,cI.1,cI.2)]:=⟨List.mem_cons_self,nd⟩
  clear nd
  generalize ([(pT0,bF.1,bF.2),(pT1,cI.1,cI.2)]:gG)=T at hT hT2 ⊢
  have T8:Er K cX_NoCut cX_SluiceError [cX_NoPaper,cX_NoDay,cX_NoHolder,cX_NoLicence,cX_NoNumber,cX_NoPond,cX_NoReach,cX_NoRiver,cX_NoRow,cX_NotAlone,cX_NotYours,cX_TooMuch,cX_Full,cX_Fixed,cX_Harms]:=⟨m_NoCut_SluiceError,by
    simp only [List.mem_cons,List.not_mem_nil,or_false,forall_eq_or_imp,forall_eq]
    exact ⟨i_NoCut_NoPaper,i_NoCut_NoDay,i_NoCut_NoHolder,i_NoCut_NoLicence,i_NoCut_NoNumber,i_NoCut_NoPond,i_NoCut_NoReach,i_NoCut_NoRiver,i_NoCut_NoRow,i_NoCut_NotAlone,i_NoCut_NotYours,i_NoCut_TooMuch,i_NoCut_Full,i_NoCut_Fixed,i_NoCut_Harms⟩,i_NoCut_NoCut,i_NoCut_ValueError⟩
  have g1:=RK (P:=l.prog) (w:=w) (base:=base) aF B
  have g2:=U5 (P:=l.prog) (w:=w) (K:=K) (base:=base) gQ
  have g3:=RB aM B gQ g2
  have g4:=Gi (P:=l.prog) (w:=w) (base:=base) fJ B
  have g5:=UL (P:=l.prog) (w:=w) (base:=base) cJ C
  have g6:=Gk fB C cJ g5
  have g7:=yH aY fB g6
  have g8:=Rt (T:=T) fu rfl y1 hT hbm B cJ g5
  have g9:=UW aZ B C fu g8
  have g10:=Rw (P:=l.prog) (w:=w) (base:=base) jt
  have g11:=Gj (T:=T) cL B jt g10
  have g12:=Gu (P:=l.prog) (w:=w) (base:=base) (T:=T) fH B
  have g13:=ZK eE B fH g12
  have g14:=RD (P:=l.prog) (w:=w) (base:=base) (T:=T) jY
  have g15:=ZL bL B eE g13 jY g14
  have g16:=ZM cM B jY g14
  have g17:=ZQ fD B bL g15 cM g16
  have g18:=U6 (P:=l.prog) (w:=w) (base:=base) cj
  have g19:=Aw (T:=T) j9 rfl y0 hT2 hbm B cj g18
  have g20:=Ay gO B cj g18 j9 g19
  have g21:=RG jZ B aZ g9 cL g11 gO g20 aY g7 fD g17
  have g22:=Ru (T:=T) fL B aM g3
  have g23:=yG (T:=T) dH B aM g3
  have g24:=Ry (P:=l.prog) (w:=w) (base:=base) (T:=T) iU
  have g25:=Gs (T:=T) fM B aM g3
  have g31:=Gq (T:=T) iT B aY g7
  have g32:=Rz ju B aZ g9 iT g31
  have g33:=U4 kh B ju g32
  have g34:=Gp (P:=l.prog) (w:=w) (base:=base) (T:=T) jh B
  have g35:=Ax gM B cJ g5 jh g34
  have g36:=ZP (P:=l.prog) (w:=w) (base:=base) fC C
  have g37:=RJ gF B X_NoCut fC g36 jZ g21 kh g33 gM g35 aY g7 jh g34 aZ g9 cL g11
  have g38:=Gn (P:=l.prog) (w:=w) (base:=base) cg B X_NoCut X_NoPaper X_NoDay X_NoHolder X_NoLicence X_NoNumber X_NoPond X_NoReach X_NoRiver X_NoRow X_NotAlone X_NotYours X_TooMuch X_Full X_Fixed X_Harms T8
  have g39:=Gm dI B X_NoCut X_SluiceError T8 gF g37 cg g38
  have g40:=U3 (T:=T) eG B aM g3 iU g24
  have g41:=Rx (P:=l.prog) (w:=w) (base:=base) (T:=T) gP B
  exact U0 aae B aF g1 fL g22 dH g23 fM g25 eG g40 gP g41 dI g39 gF g37 jZ g21 fJ g4
def codeOf (K:PySem.W.Frag) (x:Str):Addr:=match PySem.W.nsIn K mainGlobals x with
  | some (some (.ref f))=>match K.lookup f with
    | some ⟨_,_,.func fd,_⟩=>match fd.code with
      | .ref c=>c
      | _=>0
    | _=>0
  | _=>0
theorem Ea {K:PySem.W.Frag} {P:Addr} (x:Str) (h:PySem.W.codeHdIn K (codeOf K x) P=true):∃ c,PySem.W.codeHdIn K c P=true:=⟨_,h⟩
theorem walk {l:PySem.W.OpenLaw} {q:Program} {loose:List Str} {XP:(Str→Option Value)→Heap→Prop} {YP:World→Heap→Prop} {d:DefRec} {K:Params→PySem.W.Frag} {P0 P1:Addr} (hn:l.most=some 63) (hdf:d.params.defaults=[])
    (hY:∀ (w:World) (h:Heap),YP w h→(K w.params).In h) (hYt:∀ (w:World) (h:Heap),YP w h→∀ P∈([P0,P1]:List Addr),h.get? P=some (PySem.W.tabObj #[])) (hts:∀ (w:World),∀ P∈([P0,P1]:List Addr),(K w.params).lookup P=none∧∃ c,PySem.W.codeHdIn (K w.params) c P=true)
    (F:∀ (w:World) (mg:Str→Option Value) (fa:Addr) (h:Heap),(K w.params).In h→h.Ns mainGlobals mg→mg d.name=some (.ref fa) →
      ∃ fd:FuncData,(∀ (s:Shared) (u:Value),BindsTo s fd ⟨[u],[]⟩ [("script",u)])∧∀ base:Heap,(K w.params).In base→base.Ns mainGlobals mg→BM mg base→bT l.prog w (K w.params) mg base CX0 11 fa fd ["script"] (wO (K w.params) [(P0,bF.1,bF.2),(P1,cI.1,cI.2)])) :
    PySem.W.WalkO q loose XP YP l.row.toRowW d [] (fun f vs=>PySem.call f vs) :=
  L2.Ft (n:=63) (k:=11) (x:="script") (CX:=fun _=>CX0) (sp:=fun w=>wO (K w.params) [(P0,bF.1,bF.2),(P1,cI.1,cI.2)]) (ts:=([P0,P1]:List Addr)) hn (by decide) hdf ⟨rfl,by decide,by decide⟩ hY hYt hts F (fun _ H a ns hl _ hT hS=>⟨a,ns,rfl,hS,hl,fun t ht=>.inl (hT t.1 (by simp only [List.mem_cons,List.not_mem_nil,or_false] at ht ⊢;(try rcases ht with rfl | ht) <;> (try subst ht) <;> simp)),fun _=>rfl⟩) fun _ _ _ _ _ z=>z
end My
open PySem PySem.W PyProof.Rows
set_option maxRecDepth 100000 in
set_option maxHeartbeats 0 in
theorem PySem.Challenge.cw_sluice_k33_cut_refused_holds : PySem.Challenge.rw_sluice_k33_cut_refused.Holds := by
  w_on;o_law
  refine PySem.W.holds_open (q:=My.qv) (loose:=My.w5) (Xt:=(fun s=>PySem.W.xlAt My.qv [] s && PySem.W.recOk (PySem.W.RowW.records PySem.Challenge.rw_sluice_k33_cut_refused.row.toRowW) s)) (XP:=PySem.W.XL My.qv []) (Yf:=PySem.W.Hook.obs (PySem.W.kmHook My.Kf My.asK My.hkE My.tsK)) (Ya:=PySem.W.Hook.val (PySem.W.kmHook My.Kf My.asK My.hkE My.tsK)) (YP:=PySem.W.Hook.says (PySem.W.kmHook My.Kf My.asK My.hkE My.tsK)) (N:=9690) My.hlE (PySem.W.Hook.of (PySem.W.kmHook My.Kf My.asK My.hkE My.tsK)) (PySem.W.Hook.keeps (PySem.W.kmHook My.Kf My.asK My.hkE My.tsK)) (fun s e=>PySem.W.xl_of s (Bool.and_eq_true_iff.mp e).1) PySem.W.XL.keeps (by rfl) (by rfl) (by rfl) (fun s e=>PySem.W.recFacts_of (Bool.and_eq_true_iff.mp e).2) (by rfl) (by first | assumption | decide +kernel) (by decide +kernel) ⟨rfl,rfl,rfl,rfl,rfl,by decide +kernel⟩ ?hw ?hc
  case hw=>w_witness2
  k_fill
  refine' My.walk (l:=PySem.Challenge.rw_sluice_k33_cut_refused) rfl rfl (fun w h Y=>PySem.W.km_in_of Y) (fun w h Y=>PySem.W.km_tabs_of Y) ?hts ?F
  case F =>
    intro w mg fa h KX G hmg
    refine' My.all_mk KX G hmg ?a0 ?l0 ?c0 ?k0 ?a1 ?l1 ?c1 ?k1 ?a2 ?l2 ?c2 ?k2 ?a3 ?l3 ?c3 ?k3 ?a4 ?l4 ?c4 ?k4 ?a5 ?l5 ?c5 ?k5 ?a6 ?l6 ?c6 ?k6 ?a7 ?l7 ?c7 ?k7 ?a8 ?l8 ?c8 ?k8 ?a9 ?l9 ?c9 ?k9 ?a10 ?l10 ?c10 ?k10 ?a11 ?l11 ?c11 ?k11 ?a12 ?l12 ?c12 ?k12 ?a13 ?l13 ?c13 ?k13 ?a14 ?l14 ?c14 ?k14 ?a15 ?l15 ?c15 ?k15 ?a16 ?l16 ?c16 ?k16 ?a17 ?l17 ?c17 ?k17 ?a18 ?l18 ?c18 ?k18 ?a19 ?l19 ?c19 ?k19 ?a20 ?l20 ?c20 ?k20 ?a21 ?l21 ?c21 ?k21 ?a22 ?l22 ?c22 ?k22 ?a23 ?l23 ?c23 ?k23 ?a24 ?l24 ?c24 ?k24 ?a25 ?l25 ?c25 ?k25 ?a26 ?l26 ?c26 ?k26 ?a27 ?l27 ?c27 ?k27 ?a28 ?l28 ?c28 ?k28 ?a29 ?l29 ?c29 ?k29 ?a30 ?l30 ?c30 ?k30 ?a31 ?l31 ?c31 ?k31 ?a32 ?l32 ?c32 ?k32 ?a33 ?l33 ?c33 ?k33 ?a34 ?l34 ?c34 ?k34 ?a35 ?l35 ?c35 ?k35 ?a36 ?l36 ?c36 ?k36 ?e0 ?z_len ?z_range ?z_list ?z_isinstance ?z_bool ?z_int ?z_all ?z_min ?z_max ?z_sum ?z_sorted ?z_zip ?z_tuple ?z_str ?z_any ?z_enumerate ?z_reversed ?z_abs ?z_ValueError ?z_set ?n_SluiceError ?q_SluiceError ?xa_SluiceError ?xb_SluiceError ?xc_SluiceError ?xd_SluiceError ?xe_SluiceError ?xf_SluiceError ?xg_SluiceError ?xh_SluiceError ?n_NoRiver ?q_NoRiver ?xa_NoRiver ?xb_NoRiver ?xc_NoRiver ?xd_NoRiver ?xe_NoRiver ?xf_NoRiver ?xg_NoRiver ?xh_NoRiver ?n_NoReach ?q_NoReach ?xa_NoReach ?xb_NoReach ?xc_NoReach ?xd_NoReach ?xe_NoReach ?xf_NoReach ?xg_NoReach ?xh_NoReach ?n_NoLicence ?q_NoLicence ?xa_NoLicence ?xb_NoLicence ?xc_NoLicence ?xd_NoLicence ?xe_NoLicence ?xf_NoLicence ?xg_NoLicence ?xh_NoLicence ?n_NoNumber ?q_NoNumber ?xa_NoNumber ?xb_NoNumber ?xc_NoNumber ?xd_NoNumber ?xe_NoNumber ?xf_NoNumber ?xg_NoNumber ?xh_NoNumber ?n_NoHolder ?q_NoHolder ?xa_NoHolder ?xb_NoHolder ?xc_NoHolder ?xd_NoHolder ?xe_NoHolder ?xf_NoHolder ?xg_NoHolder ?xh_NoHolder ?n_NotYours ?q_NotYours ?xa_NotYours ?xb_NotYours ?xc_NotYours ?xd_NotYours ?xe_NotYours ?xf_NotYours ?xg_NotYours ?xh_NotYours ?n_NotAlone ?q_NotAlone ?xa_NotAlone ?xb_NotAlone ?xc_NotAlone ?xd_NotAlone ?xe_NotAlone ?xf_NotAlone ?xg_NotAlone ?xh_NotAlone ?n_TooMuch ?q_TooMuch ?xa_TooMuch ?xb_TooMuch ?xc_TooMuch ?xd_TooMuch ?xe_TooMuch ?xf_TooMuch ?xg_TooMuch ?xh_TooMuch ?n_Full ?q_Full ?xa_Full ?xb_Full ?xc_Full ?xd_Full ?xe_Full ?xf_Full ?xg_Full ?xh_Full ?n_NoPaper ?q_NoPaper ?xa_NoPaper ?xb_NoPaper ?xc_NoPaper ?xd_NoPaper ?xe_NoPaper ?xf_NoPaper ?xg_NoPaper ?xh_NoPaper ?n_NoCut ?q_NoCut ?xa_NoCut ?xb_NoCut ?xc_NoCut ?xd_NoCut ?xe_NoCut ?xf_NoCut ?xg_NoCut ?xh_NoCut ?n_NoPond ?q_NoPond ?xa_NoPond ?xb_NoPond ?xc_NoPond ?xd_NoPond ?xe_NoPond ?xf_NoPond ?xg_NoPond ?xh_NoPond ?n_NoDay ?q_NoDay ?xa_NoDay ?xb_NoDay ?xc_NoDay ?xd_NoDay ?xe_NoDay ?xf_NoDay ?xg_NoDay ?xh_NoDay ?n_Fixed ?q_Fixed ?xa_Fixed ?xb_Fixed ?xc_Fixed ?xd_Fixed ?xe_Fixed ?xf_Fixed ?xg_Fixed ?xh_Fixed ?n_Harms ?q_Harms ?xa_Harms ?xb_Harms ?xc_Harms ?xd_Harms ?xe_Harms ?xf_Harms ?xg_Harms ?xh_Harms ?n_NoRow ?q_NoRow ?xa_NoRow ?xb_NoRow ?xc_NoRow ?xd_NoRow ?xe_NoRow ?xf_NoRow ?xg_NoRow ?xh_NoRow ?m_NoCut_SluiceError ?i_NoCut_NoRiver ?i_NoCut_NoReach ?i_NoCut_NoLicence ?i_NoCut_NoNumber ?i_NoCut_NoHolder ?i_NoCut_NotYours ?i_NoCut_NotAlone ?i_NoCut_TooMuch ?i_NoCut_Full ?i_NoCut_NoPaper ?i_NoCut_NoPond ?i_NoCut_NoDay ?i_NoCut_Fixed ?i_NoCut_Harms ?i_NoCut_NoRow ?i_NoCut_NoCut ?i_NoCut_ValueError ?y0 ?y1 ?dd0_1
    (case a0=>k_is)
    (case l0=>k_is)
    (case c0=>k_is)
    (case k0=>k_is)
    (case a1=>k_is)
    (case l1=>k_is)
    (case c1=>k_is)
    (case k1=>k_is)
    (case a2=>k_is)
    (case l2=>k_is)
    (case c2=>k_is)
    (case k2=>k_is)
    (case a3=>k_is)
    (case l3=>k_is)
    (case c3=>k_is)
    (case k3=>k_is)
    (case a4=>k_is)
    (case l4=>k_is)
    (case c4=>k_is)
    (case k4=>k_is)
    (case a5=>k_is)
    (case l5=>k_is)
    (case c5=>k_is)
    (case k5=>k_is)
    (case a6=>k_is)
    (case l6=>k_is)
    (case c6=>k_is)
    (case k6=>k_is)
    (case a7=>k_is)
    (case l7=>k_is)
    (case c7=>k_is)
    (case k7=>k_is)
    (case a8=>k_is)
    (case l8=>k_is)
    (case c8=>k_is)
    (case k8=>k_is)
    (case a9=>k_is)
    (case l9=>k_is)
    (case c9=>k_is)
    (case k9=>k_is)
    (case a10=>k_is)
    (case l10=>k_is)
    (case c10=>k_is)
    (case k10=>k_is)
    (case a11=>k_is)
    (case l11=>k_is)
    (case c11=>k_is)
    (case k11=>k_is)
    (case a12=>k_is)
    (case l12=>k_is)
    (case c12=>k_is)
    (case k12=>k_is)
    (case a13=>k_is)
    (case l13=>k_is)
    (case c13=>k_is)
    (case k13=>k_is)
    (case a14=>k_is)
    (case l14=>k_is)
    (case c14=>k_is)
    (case k14=>k_is)
    (case a15=>k_is)
    (case l15=>k_is)
    (case c15=>k_is)
    (case k15=>k_is)
    (case a16=>k_is)
    (case l16=>k_is)
    (case c16=>k_is)
    (case k16=>k_is)
    (case a17=>k_is)
    (case l17=>k_is)
    (case c17=>k_is)
    (case k17=>k_is)
    (case a18=>k_is)
    (case l18=>k_is)
    (case c18=>k_is)
    (case k18=>k_is)
    (case a19=>k_is)
    (case l19=>k_is)
    (case c19=>k_is)
    (case k19=>k_is)
    (case a20=>k_is)
    (case l20=>k_is)
    (case c20=>k_is)
    (case k20=>k_is)
    (case a21=>k_is)
    (case l21=>k_is)
    (case c21=>k_is)
    (case k21=>k_is)
    (case a22=>k_is)
    (case l22=>k_is)
    (case c22=>k_is)
    (case k22=>k_is)
    (case a23=>k_is)
    (case l23=>k_is)
    (case c23=>k_is)
    (case k23=>k_is)
    (case a24=>k_is)
    (case l24=>k_is)
    (case c24=>k_is)
    (case k24=>k_is)
    (case a25=>k_is)
    (case l25=>k_is)
    (case c25=>k_is)
    (case k25=>k_is)
    (case a26=>k_is)
    (case l26=>k_is)
    (case c26=>k_is)
    (case k26=>k_is)
    (case a27=>k_is)
    (case l27=>k_is)
    (case c27=>k_is)
    (case k27=>k_is)
    (case a28=>k_is)
    (case l28=>k_is)
    (case c28=>k_is)
    (case k28=>k_is)
    (case a29=>k_is)
    (case l29=>k_is)
    (case c29=>k_is)
    (case k29=>k_is)
    (case a30=>k_is)
    (case l30=>k_is)
    (case c30=>k_is)
    (case k30=>k_is)
    (case a31=>k_is)
    (case l31=>k_is)
    (case c31=>k_is)
    (case k31=>k_is)
    (case a32=>k_is)
    (case l32=>k_is)
    (case c32=>k_is)
    (case k32=>k_is)
    (case a33=>k_is)
    (case l33=>k_is)
    (case c33=>k_is)
    (case k33=>k_is)
    (case a34=>k_is)
    (case l34=>k_is)
    (case c34=>k_is)
    (case k34=>k_is)
    (case a35=>k_is)
    (case l35=>k_is)
    (case c35=>k_is)
    (case k35=>k_is)
    (case a36=>k_is)
    (case l36=>k_is)
    (case c36=>k_is)
    (case k36=>k_is)
    (case e0=>k_is)
    (case z_len=>k_is)
    (case z_range=>k_is)
    (case z_list=>k_is)
    (case z_isinstance=>k_is)
    (case z_bool=>k_is)
    (case z_int=>k_is)
    (case z_all=>k_is)
    (case z_min=>k_is)
    (case z_max=>k_is)
    (case z_sum=>k_is)
    (case z_sorted=>k_is)
    (case z_zip=>k_is)
    (case z_tuple=>k_is)
    (case z_str=>k_is)
    (case z_any=>k_is)
    (case z_enumerate=>k_is)
    (case z_reversed=>k_is)
    (case z_abs=>k_is)
    (case z_ValueError=>k_is)
    (case z_set=>k_is)
    (case n_SluiceError=>k_is)
    (case q_SluiceError=>(first | k_is | kernel_rfl))
    (case xa_SluiceError=>(first | k_is | kernel_rfl))
    (case xb_SluiceError=>(first | k_is | kernel_rfl))
    (case xc_SluiceError=>(first | k_is | kernel_rfl))
    (case xd_SluiceError=>(first | k_is | kernel_rfl))
    (case xe_SluiceError=>(first | k_is | kernel_rfl))
    (case xf_SluiceError=>(first | k_is | kernel_rfl))
    (case xg_SluiceError=>(first | k_is | kernel_rfl))
    (case xh_SluiceError=>(first | k_is | kernel_rfl))
    (case n_NoRiver=>k_is)
    (case q_NoRiver=>(first | k_is | kernel_rfl))
    (case xa_NoRiver=>(first | k_is | kernel_rfl))
    (case xb_NoRiver=>(first | k_is | kernel_rfl))
    (case xc_NoRiver=>(first | k_is | kernel_rfl))
    (case xd_NoRiver=>(first | k_is | kernel_rfl))
    (case xe_NoRiver=>(first | k_is | kernel_rfl))
    (case xf_NoRiver=>(first | k_is | kernel_rfl))
    (case xg_NoRiver=>(first | k_is | kernel_rfl))
    (case xh_NoRiver=>(first | k_is | kernel_rfl))
    (case n_NoReach=>k_is)
    (case q_NoReach=>(first | k_is | kernel_rfl))
    (case xa_NoReach=>(first | k_is | kernel_rfl))
    (case xb_NoReach=>(first | k_is | kernel_rfl))
    (case xc_NoReach=>(first | k_is | kernel_rfl))
    (case xd_NoReach=>(first | k_is | kernel_rfl))
    (case xe_NoReach=>(first | k_is | kernel_rfl))
    (case xf_NoReach=>(first | k_is | kernel_rfl))
    (case xg_NoReach=>(first | k_is | kernel_rfl))
    (case xh_NoReach=>(first | k_is | kernel_rfl))
    (case n_NoLicence=>k_is)
    (case q_NoLicence=>(first | k_is | kernel_rfl))
    (case xa_NoLicence=>(first | k_is | kernel_rfl))
    (case xb_NoLicence=>(first | k_is | kernel_rfl))
    (case xc_NoLicence=>(first | k_is | kernel_rfl))
    (case xd_NoLicence=>(first | k_is | kernel_rfl))
    (case xe_NoLicence=>(first | k_is | kernel_rfl))
    (case xf_NoLicence=>(first | k_is | kernel_rfl))
    (case xg_NoLicence=>(first | k_is | kernel_rfl))
    (case xh_NoLicence=>(first | k_is | kernel_rfl))
    (case n_NoNumber=>k_is)
    (case q_NoNumber=>(first | k_is | kernel_rfl))
    (case xa_NoNumber=>(first | k_is | kernel_rfl))
    (case xb_NoNumber=>(first | k_is | kernel_rfl))
    (case xc_NoNumber=>(first | k_is | kernel_rfl))
    (case xd_NoNumber=>(first | k_is | kernel_rfl))
    (case xe_NoNumber=>(first | k_is | kernel_rfl))
    (case xf_NoNumber=>(first | k_is | kernel_rfl))
    (case xg_NoNumber=>(first | k_is | kernel_rfl))
    (case xh_NoNumber=>(first | k_is | kernel_rfl))
    (case n_NoHolder=>k_is)
    (case q_NoHolder=>(first | k_is | kernel_rfl))
    (case xa_NoHolder=>(first | k_is | kernel_rfl))
    (case xb_NoHolder=>(first | k_is | kernel_rfl))
    (case xc_NoHolder=>(first | k_is | kernel_rfl))
    (case xd_NoHolder=>(first | k_is | kernel_rfl))
    (case xe_NoHolder=>(first | k_is | kernel_rfl))
    (case xf_NoHolder=>(first | k_is | kernel_rfl))
    (case xg_NoHolder=>(first | k_is | kernel_rfl))
    (case xh_NoHolder=>(first | k_is | kernel_rfl))
    (case n_NotYours=>k_is)
    (case q_NotYours=>(first | k_is | kernel_rfl))
    (case xa_NotYours=>(first | k_is | kernel_rfl))
    (case xb_NotYours=>(first | k_is | kernel_rfl))
    (case xc_NotYours=>(first | k_is | kernel_rfl))
    (case xd_NotYours=>(first | k_is | kernel_rfl))
    (case xe_NotYours=>(first | k_is | kernel_rfl))
    (case xf_NotYours=>(first | k_is | kernel_rfl))
    (case xg_NotYours=>(first | k_is | kernel_rfl))
    (case xh_NotYours=>(first | k_is | kernel_rfl))
    (case n_NotAlone=>k_is)
    (case q_NotAlone=>(first | k_is | kernel_rfl))
    (case xa_NotAlone=>(first | k_is | kernel_rfl))
    (case xb_NotAlone=>(first | k_is | kernel_rfl))
    (case xc_NotAlone=>(first | k_is | kernel_rfl))
    (case xd_NotAlone=>(first | k_is | kernel_rfl))
    (case xe_NotAlone=>(first | k_is | kernel_rfl))
    (case xf_NotAlone=>(first | k_is | kernel_rfl))
    (case xg_NotAlone=>(first | k_is | kernel_rfl))
    (case xh_NotAlone=>(first | k_is | kernel_rfl))
    (case n_TooMuch=>k_is)
    (case q_TooMuch=>(first | k_is | kernel_rfl))
    (case xa_TooMuch=>(first | k_is | kernel_rfl))
    (case xb_TooMuch=>(first | k_is | kernel_rfl))
    (case xc_TooMuch=>(first | k_is | kernel_rfl))
    (case xd_TooMuch=>(first | k_is | kernel_rfl))
    (case xe_TooMuch=>(first | k_is | kernel_rfl))
    (case xf_TooMuch=>(first | k_is | kernel_rfl))
    (case xg_TooMuch=>(first | k_is | kernel_rfl))
    (case xh_TooMuch=>(first | k_is | kernel_rfl))
    (case n_Full=>k_is)
    (case q_Full=>(first | k_is | kernel_rfl))
    (case xa_Full=>(first | k_is | kernel_rfl))
    (case xb_Full=>(first | k_is | kernel_rfl))
    (case xc_Full=>(first | k_is | kernel_rfl))
    (case xd_Full=>(first | k_is | kernel_rfl))
    (case xe_Full=>(first | k_is | kernel_rfl))
    (case xf_Full=>(first | k_is | kernel_rfl))
    (case xg_Full=>(first | k_is | kernel_rfl))
    (case xh_Full=>(first | k_is | kernel_rfl))
    (case n_NoPaper=>k_is)
    (case q_NoPaper=>(first | k_is | kernel_rfl))
    (case xa_NoPaper=>(first | k_is | kernel_rfl))
    (case xb_NoPaper=>(first | k_is | kernel_rfl))
    (case xc_NoPaper=>(first | k_is | kernel_rfl))
    (case xd_NoPaper=>(first | k_is | kernel_rfl))
    (case xe_NoPaper=>(first | k_is | kernel_rfl))
    (case xf_NoPaper=>(first | k_is | kernel_rfl))
    (case xg_NoPaper=>(first | k_is | kernel_rfl))
    (case xh_NoPaper=>(first | k_is | kernel_rfl))
    (case n_NoCut=>k_is)
    (case q_NoCut=>(first | k_is | kernel_rfl))
    (case xa_NoCut=>(first | k_is | kernel_rfl))
    (case xb_NoCut=>(first | k_is | kernel_rfl))
    (case xc_NoCut=>(first | k_is | kernel_rfl))
    (case xd_NoCut=>(first | k_is | kernel_rfl))
    (case xe_NoCut=>(first | k_is | kernel_rfl))
    (case xf_NoCut=>(first | k_is | kernel_rfl))
    (case xg_NoCut=>(first | k_is | kernel_rfl))
    (case xh_NoCut=>(first | k_is | kernel_rfl))
    (case n_NoPond=>k_is)
    (case q_NoPond=>(first | k_is | kernel_rfl))
    (case xa_NoPond=>(first | k_is | kernel_rfl))
    (case xb_NoPond=>(first | k_is | kernel_rfl))
    (case xc_NoPond=>(first | k_is | kernel_rfl))
    (case xd_NoPond=>(first | k_is | kernel_rfl))
    (case xe_NoPond=>(first | k_is | kernel_rfl))
    (case xf_NoPond=>(first | k_is | kernel_rfl))
    (case xg_NoPond=>(first | k_is | kernel_rfl))
    (case xh_NoPond=>(first | k_is | kernel_rfl))
    (case n_NoDay=>k_is)
    (case q_NoDay=>(first | k_is | kernel_rfl))
    (case xa_NoDay=>(first | k_is | kernel_rfl))
    (case xb_NoDay=>(first | k_is | kernel_rfl))
    (case xc_NoDay=>(first | k_is | kernel_rfl))
    (case xd_NoDay=>(first | k_is | kernel_rfl))
    (case xe_NoDay=>(first | k_is | kernel_rfl))
    (case xf_NoDay=>(first | k_is | kernel_rfl))
    (case xg_NoDay=>(first | k_is | kernel_rfl))
    (case xh_NoDay=>(first | k_is | kernel_rfl))
    (case n_Fixed=>k_is)
    (case q_Fixed=>(first | k_is | kernel_rfl))
    (case xa_Fixed=>(first | k_is | kernel_rfl))
    (case xb_Fixed=>(first | k_is | kernel_rfl))
    (case xc_Fixed=>(first | k_is | kernel_rfl))
    (case xd_Fixed=>(first | k_is | kernel_rfl))
    (case xe_Fixed=>(first | k_is | kernel_rfl))
    (case xf_Fixed=>(first | k_is | kernel_rfl))
    (case xg_Fixed=>(first | k_is | kernel_rfl))
    (case xh_Fixed=>(first | k_is | kernel_rfl))
    (case n_Harms=>k_is)
    (case q_Harms=>(first | k_is | kernel_rfl))
    (case xa_Harms=>(first | k_is | kernel_rfl))
    (case xb_Harms=>(first | k_is | kernel_rfl))
    (case xc_Harms=>(first | k_is | kernel_rfl))
    (case xd_Harms=>(first | k_is | kernel_rfl))
    (case xe_Harms=>(first | k_is | kernel_rfl))
    (case xf_Harms=>(first | k_is | kernel_rfl))
    (case xg_Harms=>(first | k_is | kernel_rfl))
    (case xh_Harms=>(first | k_is | kernel_rfl))
    (case n_NoRow=>k_is)
    (case q_NoRow=>(first | k_is | kernel_rfl))
    (case xa_NoRow=>(first | k_is | kernel_rfl))
    (case xb_NoRow=>(first | k_is | kernel_rfl))
    (case xc_NoRow=>(first | k_is | kernel_rfl))
    (case xd_NoRow=>(first | k_is | kernel_rfl))
    (case xe_NoRow=>(first | k_is | kernel_rfl))
    (case xf_NoRow=>(first | k_is | kernel_rfl))
    (case xg_NoRow=>(first | k_is | kernel_rfl))
    (case xh_NoRow=>(first | k_is | kernel_rfl))
    (case m_NoCut_SluiceError=>(first | k_is | kernel_rfl))
    (case i_NoCut_NoRiver=>(first | k_is | kernel_rfl))
    (case i_NoCut_NoReach=>(first | k_is | kernel_rfl))
    (case i_NoCut_NoLicence=>(first | k_is | kernel_rfl))
    (case i_NoCut_NoNumber=>(first | k_is | kernel_rfl))
    (case i_NoCut_NoHolder=>(first | k_is | kernel_rfl))
    (case i_NoCut_NotYours=>(first | k_is | kernel_rfl))
    (case i_NoCut_NotAlone=>(first | k_is | kernel_rfl))
    (case i_NoCut_TooMuch=>(first | k_is | kernel_rfl))
    (case i_NoCut_Full=>(first | k_is | kernel_rfl))
    (case i_NoCut_NoPaper=>(first | k_is | kernel_rfl))
    (case i_NoCut_NoPond=>(first | k_is | kernel_rfl))
    (case i_NoCut_NoDay=>(first | k_is | kernel_rfl))
    (case i_NoCut_Fixed=>(first | k_is | kernel_rfl))
    (case i_NoCut_Harms=>(first | k_is | kernel_rfl))
    (case i_NoCut_NoRow=>(first | k_is | kernel_rfl))
    (case i_NoCut_NoCut=>(first | k_is | kernel_rfl))
    (case i_NoCut_ValueError=>(first | k_is | kernel_rfl))
    (case y0=>kernel_rfl)
    (case y1=>kernel_rfl)
    (case dd0_1=>(first | decide | (intro h;cases h) | (intro h;simp at h)))
  case hts =>
    intro w P hP
    simp only [List.mem_cons,List.not_mem_nil,or_false] at hP
    rcases hP with rfl | rfl
    · exact ⟨by kernel_rfl,My.Ea "ranked" (by kernel_rfl)⟩
    · exact ⟨by kernel_rfl,My.Ea "tops_first" (by kernel_rfl)⟩
