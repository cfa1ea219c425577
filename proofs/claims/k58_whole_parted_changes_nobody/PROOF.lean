import PyProof.Rows.All
import Wide.All
import OpenK.AllK
import Wide.FinOn
import Lean
import PyProof.EqAt
import PyProof.EqKinds
import PyProof.TupleCall
import KE.KSortTup
import PySem.Challenge.RW_sluice_k58_whole_parted_changes_nobody
set_option Elab.async false
set_option linter.all false
set_option maxRecDepth 100000
set_option maxHeartbeats 4000000
local macro_rules | `(tactic| omega) => `(tactic| first | lia | omega (splitDisjunctions := true))
namespace L2
open PySem
def inClass (s:Stmt) (j:Nat):Stmt:=match s with
  | .ClassDef _ _ _ body _ _ _ _ _ _ _=>body.getD j (.Pass ⟨0,0,0,0⟩)
  | _=>.Pass ⟨0,0,0,0⟩
def aA (s:Stmt):Arguments:=match s with
  | .FunctionDef _ a _ _ _ _ _ _ _ _=>a
  | _=>{ posonlyargs:=[],args:=[],vararg:=none,kwonlyargs:=[],kw_defaults:=[],kwarg:=none,defaults:=[] }
def aq (s:Stmt):List Stmt:=match s with
  | .FunctionDef _ _ b _ _ _ _ _ _ _=>b
  | _=>[]
def ao (s:Stmt):Scope:=match s with
  | .FunctionDef _ _ _ _ _ _ sc _ _ _=>sc
  | _=>{ kind:=.function,names:=[],isGenerator:=false,isCoroutine:=false }
end L2
namespace My
open PySem L2
noncomputable def top0 (i:Nat):Stmt:=PySem.Challenge.pw_sluice_k58_whole_parted_changes_nobody.main.body.getD i (.Pass ⟨0,0,0,0⟩)
noncomputable def en (P:Params) (x:Str) (t:Tok) (v:Value):DictEntry:=⟨PyData.keyHash P x,.str x t,v⟩
noncomputable section
def tq (a:Array Value):Obj:={ cls:=.type "tuple",data:=.seq a }
def fc (a:Array Value):Obj:={ cls:=.type "code",data:=.fields a }
def cp (n:Nat):Value:=.str "/claim/cut.py" n
def pr0 (x:Str) (i:Nat):Obj:={ cls:=.none,data:=.func { name:=x,qualname:=x,params:=aA (top0 i),body:=.stmts (aq (top0 i)),scope:=ao (top0 i),globals:=0,closure:=[],defaults:=.none,kwdefaults:=.none } }
def YW (P:Params):Obj:={ cls:=.type "dict",data:=Data.dict #[en P "__name__" 1 (.str "builtins" 160),en P "__doc__" 2 (.builtin "builtins.__doc__:str#opaque"),en P "__package__" 3 (.builtin "builtins.__package__:str#opaque"),en P "__loader__" 4 (.builtin "builtins.__loader__:shared#opaque"),en P "__spec__" 5 (.builtin "builtins.__spec__#opaque"),en P "__build_class__" 6 (.builtin "__build_class__"),en P "__import__" 7 (.builtin "__import__"),en P "abs" 8 (.builtin "abs"),en P "all" 9 (.builtin "all"),en P "any" 10 (.builtin "any"),en P "ascii" 11 (.builtin "ascii"),en P "bin" 12 (.builtin "bin"),en P "breakpoint" 13 (.builtin "breakpoint"),en P "callable" 14 (.builtin "callable"),en P "chr" 15 (.builtin "chr"),en P "compile" 16 (.builtin "compile"),en P "delattr" 17 (.builtin "delattr"),en P "dir" 18 (.builtin "dir"),en P "divmod" 19 (.builtin "divmod"),en P "eval" 20 (.builtin "eval"),en P "exec" 21 (.builtin "exec"),en P "format" 22 (.builtin "format"),en P "getattr" 23 (.builtin "getattr"),en P "globals" 24 (.builtin "globals"),en P "hasattr" 25 (.builtin "hasattr"),en P "hash" 26 (.builtin "hash"),en P "hex" 27 (.builtin "hex"),en P "id" 28 (.builtin "id"),en P "input" 29 (.builtin "input"),en P "isinstance" 30 (.builtin "isinstance"),en P "issubclass" 31 (.builtin "issubclass"),en P "iter" 32 (.builtin "iter"),en P "aiter" 33 (.builtin "aiter"),en P "len" 34 (.builtin "len"),en P "locals" 35 (.builtin "locals"),en P "max" 36 (.builtin "max"),en P "min" 37 (.builtin "min"),en P "next" 38 (.builtin "next"),en P "anext" 39 (.builtin "anext"),en P "oct" 40 (.builtin "oct"),en P "ord" 41 (.builtin "ord"),en P "pow" 42 (.builtin "pow"),en P "print" 43 (.builtin "print"),en P "repr" 44 (.builtin "repr"),en P "round" 45 (.builtin "round"),en P "setattr" 46 (.builtin "setattr"),en P "sorted" 47 (.builtin "sorted"),en P "sum" 48 (.builtin "sum"),en P "vars" 49 (.builtin "vars"),en P "None" 50 .none,en P "Ellipsis" 51 .ellipsis,en P "NotImplemented" 52 .notImplemented,en P "False" 53 (.bool false),en P "True" 54 (.bool true),en P "bool" 55 (.type "bool"),en P "memoryview" 56 (.type "memoryview"),en P "bytearray" 57 (.type "bytearray"),en P "bytes" 58 (.type "bytes"),en P "classmethod" 59 (.type "classmethod"),en P "complex" 60 (.type "complex"),en P "dict" 61 (.type "dict"),en P "enumerate" 62 (.type "enumerate"),en P "filter" 63 (.type "filter"),en P "float" 64 (.type "float"),en P "frozenset" 65 (.type "frozenset"),en P "property" 66 (.type "property"),en P "int" 67 (.type "int"),en P "list" 68 (.type "list"),en P "map" 69 (.type "map"),en P "object" 70 (.type "object"),en P "range" 71 (.type "range"),en P "reversed" 72 (.type "reversed"),en P "set" 73 (.type "set"),en P "slice" 74 (.type "slice"),en P "staticmethod" 75 (.type "staticmethod"),en P "str" 76 (.type "str"),en P "super" 77 (.type "super"),en P "tuple" 78 (.type "tuple"),en P "type" 79 (.type "type"),en P "zip" 80 (.type "zip"),en P "__debug__" 81 (.bool true),en P "BaseException" 82 (.type "BaseException"),en P "BaseExceptionGroup" 83 (.type "BaseExceptionGroup"),en P "Exception" 84 (.type "Exception"),en P "GeneratorExit" 85 (.type "GeneratorExit"),en P "KeyboardInterrupt" 86 (.type "KeyboardInterrupt"),en P "SystemExit" 87 (.type "SystemExit"),en P "ArithmeticError" 88 (.type "ArithmeticError"),en P "AssertionError" 89 (.type "AssertionError"),en P "AttributeError" 90 (.type "AttributeError"),en P "BufferError" 91 (.type "BufferError"),en P "EOFError" 92 (.type "EOFError"),en P "ImportError" 93 (.type "ImportError"),en P "LookupError" 94 (.type "LookupError"),en P "MemoryError" 95 (.type "MemoryError"),en P "NameError" 96 (.type "NameError"),en P "OSError" 97 (.type "OSError"),en P "ReferenceError" 98 (.type "ReferenceError"),en P "RuntimeError" 99 (.type "RuntimeError"),en P "StopAsyncIteration" 100 (.type "StopAsyncIteration"),en P "StopIteration" 101 (.type "StopIteration"),en P "SyntaxError" 102 (.type "SyntaxError"),en P "SystemError" 103 (.type "SystemError"),en P "TypeError" 104 (.type "TypeError"),en P "ValueError" 105 (.type "ValueError"),en P "Warning" 106 (.type "Warning"),en P "FloatingPointError" 107 (.type "FloatingPointError"),en P "OverflowError" 108 (.type "OverflowError"),en P "ZeroDivisionError" 109 (.type "ZeroDivisionError"),en P "BytesWarning" 110 (.type "BytesWarning"),en P "DeprecationWarning" 111 (.type "DeprecationWarning"),en P "EncodingWarning" 112 (.type "EncodingWarning"),en P "FutureWarning" 113 (.type "FutureWarning"),en P "ImportWarning" 114 (.type "ImportWarning"),en P "PendingDeprecationWarning" 115 (.type "PendingDeprecationWarning"),en P "ResourceWarning" 116 (.type "ResourceWarning"),en P "RuntimeWarning" 117 (.type "RuntimeWarning"),en P "SyntaxWarning" 118 (.type "SyntaxWarning"),en P "UnicodeWarning" 119 (.type "UnicodeWarning"),en P "UserWarning" 120 (.type "UserWarning"),en P "BlockingIOError" 121 (.type "BlockingIOError"),en P "ChildProcessError" 122 (.type "ChildProcessError"),en P "ConnectionError" 123 (.type "ConnectionError"),en P "FileExistsError" 124 (.type "FileExistsError"),en P "FileNotFoundError" 125 (.type "FileNotFoundError"),en P "InterruptedError" 126 (.type "InterruptedError"),en P "IsADirectoryError" 127 (.type "IsADirectoryError"),en P "NotADirectoryError" 128 (.type "NotADirectoryError"),en P "PermissionError" 129 (.type "PermissionError"),en P "ProcessLookupError" 130 (.type "ProcessLookupError"),en P "TimeoutError" 131 (.type "TimeoutError"),en P "IndentationError" 132 (.type "IndentationError"),en P "_IncompleteInputError" 133 (.type "_IncompleteInputError"),en P "IndexError" 134 (.type "IndexError"),en P "KeyError" 135 (.type "KeyError"),en P "ModuleNotFoundError" 136 (.type "ModuleNotFoundError"),en P "NotImplementedError" 137 (.type "NotImplementedError"),en P "PythonFinalizationError" 138 (.type "PythonFinalizationError"),en P "RecursionError" 139 (.type "RecursionError"),en P "UnboundLocalError" 140 (.type "UnboundLocalError"),en P "UnicodeError" 141 (.type "UnicodeError"),en P "BrokenPipeError" 142 (.type "BrokenPipeError"),en P "ConnectionAbortedError" 143 (.type "ConnectionAbortedError"),en P "ConnectionRefusedError" 144 (.type "ConnectionRefusedError"),en P "ConnectionResetError" 145 (.type "ConnectionResetError"),en P "TabError" 146 (.type "TabError"),en P "UnicodeDecodeError" 147 (.type "UnicodeDecodeError"),en P "UnicodeEncodeError" 148 (.type "UnicodeEncodeError"),en P "UnicodeTranslateError" 149 (.type "UnicodeTranslateError"),en P "ExceptionGroup" 150 (.type "ExceptionGroup"),en P "EnvironmentError" 151 (.type "OSError"),en P "IOError" 152 (.type "OSError"),en P "open" 153 (.builtin "open"),en P "quit" 154 (.builtin "builtins.quit#opaque"),en P "exit" 155 (.builtin "builtins.exit#opaque"),en P "copyright" 156 (.builtin "builtins.copyright#opaque"),en P "credits" 157 (.builtin "builtins.credits#opaque"),en P "license" 158 (.builtin "builtins.license#opaque"),en P "help" 159 (.builtin "builtins.help#opaque")] 159 }
def YS (P:Params):Obj:={ cls:=.type "dict",data:=Data.dict #[en P "builtins" 162 (.ref 4),en P "__main__" 163 (.ref 5)] 2 }
def Vx (P:Params):Obj:={ cls:=.none,data:=Data.dict #[] }
def Z0 (P:Params):Obj:={ cls:=.type "dict",data:=Data.dict #[en P "__name__" 165 (.str "__main__" 164),en P "__doc__" 166 .none,en P "__package__" 167 .none,en P "__loader__" 168 (.builtin "__main__.__loader__#opaque"),en P "__spec__" 169 .none,en P "__annotations__" 170 (.ref 6),en P "__builtins__" 171 (.ref 4),en P "__file__" 173 (cp 172),en P "__cached__" 174 .none] 9 }
def XH (P:Params):Obj:={ cls:=.type "module",dict:=some 0 }
def Xp (P:Params):Obj:={ cls:=.type "module",dict:=some 3 }
def Xi (P:Params):Obj:={ cls:=.type "dict",data:=Data.dict #[] }
def Xb (P:Params):Obj:=(tq #[])
def W4 (P:Params):Obj:={ cls:=.none,data:=Data.fields #[] }
def Iw (P:Params):Obj:=(fc #[.str "<module>" 176,.str "<module>" 177,cp 178,.int 1 0,.int 0 0,.int 0 0,.int 0 0,.int 0 0,.ref 7,.bool false,.int 175 0,.ref 8,.none,.none,.none,.none,.int 179 0,.int 1 0,cp 180])
def Io (P:Params):Obj:={ cls:=.type "frame",slots:=#[some (.ref 9),some (.ref 3),some (.ref 3),none,some (.str "__main__" 164),none,some (.ref 0)] }
def KQ (P:Params):Obj:=(tq #[])
def YT (P:Params):Obj:={ cls:=.none,data:=Data.fields #[] }
def KN (P:Params):Obj:=(fc #[.str "<module>" 182,.str "<module>" 183,cp 184,.int 1 0,.int 0 0,.int 0 0,.int 0 0,.int 0 0,.ref 11,.bool false,.int 181 0,.ref 12,.none,.none,.none,.none,.int 185 0,.int 1 0,cp 186])
def KJ (P:Params):Obj:={ cls:=.type "frame",slots:=#[some (.ref 13),some (.ref 3),some (.ref 3),none,some (.str "__main__" 164),none,some (.ref 0)] }
def Z2 (P:Params):Obj:={ cls:=.type "dict",data:=Data.dict #[en P "__name__" 165 (.str "sluice.rolls" 502),en P "__doc__" 166 .none,en P "__package__" 167 .none,en P "__loader__" 168 (.builtin "__main__.__loader__#opaque"),en P "__spec__" 169 .none,en P "__annotations__" 170 (.ref 6),en P "__builtins__" 171 (.ref 4),en P "__file__" 173 (cp 172),en P "__cached__" 174 .none,en P "_wall" 193 (.ref 21),en P "MOST_WATER" 197 (.int 1000000000000 196),en P "LONGEST_NAME" 199 (.int 8 198),en P "LETTERS" 201 (.str "abcdefghijklmnopqrstuvwxyz" 200),en P "is_water" 208 (.ref 28),en P "is_name" 214 (.ref 33),en P "SluiceError" 234 (.ref 43),en P "NoRiver" 250 (.ref 56),en P "NoReach" 266 (.ref 68),en P "NoLicence" 282 (.ref 80),en P "NoNumber" 298 (.ref 92),en P "NoHolder" 314 (.ref 104),en P "NotYours" 330 (.ref 116),en P "NotAlone" 346 (.ref 128),en P "TooMuch" 362 (.ref 140),en P "Full" 378 (.ref 152),en P "MOST_REACHES" 382 (.int 40 381),en P "MOUTH" 385 (.int (-1) 384),en P "comes_to_mouth" 395 (.ref 161),en P "is_river" 401 (.ref 166),en P "way_of" 410 (.ref 173),en P "tops_first" 418 (.ref 180),en P "stretch_of" 428 (.ref 187),en P "LAST_DAY" 432 (.int 1000000 431),en P "is_licence" 444 (.ref 194),en P "reaches_of" 456 (.ref 201),en P "day_filed" 463 (.ref 208),en P "most_of" 470 (.ref 215),en P "with_most" 478 (.ref 222),en P "ranked" 486 (.ref 229),en P "groups_of" 495 (.ref 236),en P "wants_of" 501 (.ref 241),en P "MOST_LICENCES" 505 (.int 60 504),en P "look_at_name" 512 (.ref 248),en P "Roll" 690 (.ref 383)] 44 }
def Z1 (P:Params):Obj:={ cls:=.none,data:=Data.fields #[.int 1 0,.int 0 0,.ref 20,.int 8 0,.int 0 0,.ref 27,.int 10 0,.int 0 0,.ref 32,.int 13 0,.int 0 0,.ref 39,.int 15 0,.int 0 0,.ref 52,.int 17 0,.int 0 0,.ref 64,.int 19 0,.int 0 0,.ref 76,.int 21 0,.int 0 0,.ref 88,.int 23 0,.int 0 0,.ref 100,.int 25 0,.int 0 0,.ref 112,.int 27 0,.int 0 0,.ref 124,.int 29 0,.int 0 0,.ref 136,.int 31 0,.int 0 0,.ref 148,.int 36 0,.int 0 0,.ref 160,.int 43 0,.int 0 0,.ref 165,.int 49 0,.int 0 0,.ref 172,.int 54 0,.int 0 0,.ref 179,.int 56 0,.int 0 0,.ref 186,.int 65 0,.int 0 0,.ref 193,.int 70 0,.int 0 0,.ref 200,.int 73 0,.int 0 0,.ref 207,.int 75 0,.int 0 0,.ref 214,.int 77 0,.int 0 0,.ref 221,.int 79 0,.int 0 0,.ref 228,.int 81 0,.int 0 0,.ref 235,.int 86 0,.int 0 0,.ref 240,.int 90 0,.int 0 0,.ref 247,.int 93 0,.int 0 0,.ref 254] }
def Vc (P:Params):Obj:=(tq #[])
def YQ (P:Params):Obj:={ cls:=.none,data:=Data.fields #[] }
def Vb (P:Params):Obj:=(tq #[.str "k" 190])
def Va (P:Params):Obj:=(tq #[])
def YM (P:Params):Obj:=(pr0 "_wall" 0)
def U9 (P:Params):Obj:=(fc #[.str "_wall" 187,.str "_wall" 188,cp 189,.int 1 0,.int 1 0,.int 0 0,.int 0 0,.int 3 0,.ref 15,.bool true,.int 181 0,.ref 16,.none,.ref 17,.ref 18,.ref 19,.int 191 0,.int 1 0,cp 192])
def U8 (P:Params):Obj:=⟨.type "function",none,.func (PySem.W.fnOf "_wall" "_wall" (aA (top0 0)) (aq (top0 0)) (ao (top0 0)) .none .none .none (.str "__main__" 164) none (.ref 20) .none),#[]⟩
def U7 (P:Params):Obj:=(tq #[])
def YL (P:Params):Obj:={ cls:=.none,data:=Data.fields #[] }
def U6 (P:Params):Obj:=(tq #[.str "amount" 205])
def U5 (P:Params):Obj:=(tq #[])
def YK (P:Params):Obj:=(pr0 "is_water" 5)
def U4 (P:Params):Obj:=(fc #[.str "is_water" 202,.str "is_water" 203,cp 204,.int 8 0,.int 1 0,.int 0 0,.int 0 0,.int 3 0,.ref 22,.bool true,.int 181 0,.ref 23,.none,.ref 24,.ref 25,.ref 26,.int 206 0,.int 8 0,cp 207])
def U3 (P:Params):Obj:=⟨.type "function",none,.func (PySem.W.fnOf "is_water" "is_water" (aA (top0 5)) (aq (top0 5)) (ao (top0 5)) .none .none .none (.str "sluice.bounds" 194) none (.ref 27) .none),#[]⟩
def U0 (P:Params):Obj:=(tq #[])
def YJ (P:Params):Obj:={ cls:=.none,data:=Data.fields #[] }
def YH (P:Params):Obj:=(pr0 "is_name" 6)
def UW (P:Params):Obj:=(fc #[.str "is_name" 209,.str "is_name" 210,cp 211,.int 10 0,.int 1 0,.int 0 0,.int 0 0,.int 3 0,.ref 29,.bool true,.int 181 0,.ref 30,.none,.none,.none,.ref 31,.int 212 0,.int 10 0,cp 213])
def UL (P:Params):Obj:=⟨.type "function",none,.func (PySem.W.fnOf "is_name" "is_name" (aA (top0 6)) (aq (top0 6)) (ao (top0 6)) .none .none .none (.str "sluice.bounds" 194) none (.ref 32) .none),#[]⟩
def UJ (P:Params):Obj:=(tq #[.type "ValueError"])
def Yz (P:Params):Obj:={ cls:=.type "builtin_function_or_method",data:=Data.fields #[.builtin "type.__prepare__",.type "type"] }
def Yv (P:Params):Obj:={ cls:=.type "dict",data:=Data.dict #[en P "__module__" 224 (.str "sluice.errors" 215),en P "__qualname__" 226 (.str "SluiceError" 225),en P "__firstlineno__" 228 (.int 13 227),en P "__static_attributes__" 229 (.ref 41)] 4 }
def Yq (P:Params):Obj:=(tq #[])
def Ym (P:Params):Obj:={ cls:=.none,data:=Data.fields #[] }
def Yh (P:Params):Obj:=(fc #[.str "SluiceError" 219,.str "SluiceError" 220,cp 221,.int 13 0,.int 0 0,.int 0 0,.int 0 0,.int 0 0,.ref 37,.bool false,.int 181 0,.ref 38,.none,.none,.none,.none,.int 222 0,.int 13 0,cp 223])
def Yd (P:Params):Obj:={ cls:=.type "frame",slots:=#[some (.ref 39),some (.ref 3),some (.ref 36),none,some (.str "sluice.errors" 215),none,some (.ref 0)] }
def UG (P:Params):Obj:=(tq #[])
def Uz (P:Params):Obj:={ cls:=.type "dict",data:=Data.dict #[en P "__module__" 224 (.str "sluice.errors" 215),en P "__firstlineno__" 228 (.int 13 227),en P "__static_attributes__" 229 (.ref 41),en P "__weakref__" 231 (.ref 44),en P "__doc__" 232 .none] 3 }
def Uy (P:Params):Obj:={ cls:=.type "type",data:=Data.cls { name:="SluiceError",bases:=[.type "ValueError"],mro:=[.ref 43,.type "ValueError",.type "Exception",.type "BaseException",.type "object"],ns:=42,qualname:="SluiceError",subclasses:=[.ref 56,.ref 68,.ref 80,.ref 92,.ref 104,.ref 116,.ref 128,.ref 140,.ref 152] },slots:=#[some (.ref 34),none,some (.str "SluiceError" 217),some (.str "SluiceError" 225),some (.builtin "ValueError.__new__"),some (.bool true)] }
def Ux (P:Params):Obj:={ cls:=.type "getset_descriptor",data:=Data.fields #[.str "__weakref__" 230,.ref 43,.builtin "ExceptionGroup.__weakref__",.none] }
def Xz (P:Params):Obj:={ cls:=.type "super",data:=Data.fields #[.ref 43,.ref 43,.ref 43] }
def Xy (P:Params):Obj:={ cls:=.type "builtin_function_or_method",data:=Data.fields #[.builtin "object.__init_subclass__",.ref 43] }
def Uw (P:Params):Obj:=(tq #[.ref 43])
def Xx (P:Params):Obj:={ cls:=.type "builtin_function_or_method",data:=Data.fields #[.builtin "type.__prepare__",.type "type"] }
def Xw (P:Params):Obj:={ cls:=.type "dict",data:=Data.dict #[en P "__module__" 242 (.str "sluice.errors" 215),en P "__qualname__" 244 (.str "NoRiver" 243),en P "__firstlineno__" 246 (.int 15 245),en P "__static_attributes__" 247 (.ref 54)] 4 }
def Xv (P:Params):Obj:=(tq #[])
def Xu (P:Params):Obj:={ cls:=.none,data:=Data.fields #[] }
def Xr (P:Params):Obj:=(fc #[.str "NoRiver" 237,.str "NoRiver" 238,cp 239,.int 15 0,.int 0 0,.int 0 0,.int 0 0,.int 0 0,.ref 50,.bool false,.int 181 0,.ref 51,.none,.none,.none,.none,.int 240 0,.int 15 0,cp 241])
def Xq (P:Params):Obj:={ cls:=.type "frame",slots:=#[some (.ref 52),some (.ref 3),some (.ref 49),none,some (.str "sluice.errors" 215),none,some (.ref 0)] }
def Uv (P:Params):Obj:=(tq #[])
def Uu (P:Params):Obj:={ cls:=.type "dict",data:=Data.dict #[en P "__module__" 242 (.str "sluice.errors" 215),en P "__firstlineno__" 246 (.int 15 245),en P "__static_attributes__" 247 (.ref 54),en P "__doc__" 248 .none] 2 }
def Ut (P:Params):Obj:={ cls:=.type "type",data:=Data.cls { name:="NoRiver",bases:=[.ref 43],mro:=[.ref 56,.ref 43,.type "ValueError",.type "Exception",.type "BaseException",.type "object"],ns:=55,qualname:="NoRiver" },slots:=#[some (.ref 47),none,some (.str "NoRiver" 235),some (.str "NoRiver" 243),some (.builtin "ValueError.__new__"),some (.bool true)] }
def Xo (P:Params):Obj:={ cls:=.type "super",data:=Data.fields #[.ref 56,.ref 56,.ref 56] }
def Xn (P:Params):Obj:={ cls:=.type "builtin_function_or_method",data:=Data.fields #[.builtin "object.__init_subclass__",.ref 56] }
def Us (P:Params):Obj:=(tq #[.ref 43])
def Xm (P:Params):Obj:={ cls:=.type "builtin_function_or_method",data:=Data.fields #[.builtin "type.__prepare__",.type "type"] }
def Xl (P:Params):Obj:={ cls:=.type "dict",data:=Data.dict #[en P "__module__" 258 (.str "sluice.errors" 215),en P "__qualname__" 260 (.str "NoReach" 259),en P "__firstlineno__" 262 (.int 17 261),en P "__static_attributes__" 263 (.ref 66)] 4 }
def Xk (P:Params):Obj:=(tq #[])
def Xj (P:Params):Obj:={ cls:=.none,data:=Data.fields #[] }
def Xh (P:Params):Obj:=(fc #[.str "NoReach" 253,.str "NoReach" 254,cp 255,.int 17 0,.int 0 0,.int 0 0,.int 0 0,.int 0 0,.ref 62,.bool false,.int 181 0,.ref 63,.none,.none,.none,.none,.int 256 0,.int 17 0,cp 257])
def Xg (P:Params):Obj:={ cls:=.type "frame",slots:=#[some (.ref 64),some (.ref 3),some (.ref 61),none,some (.str "sluice.errors" 215),none,some (.ref 0)] }
def Ur (P:Params):Obj:=(tq #[])
def Uq (P:Params):Obj:={ cls:=.type "dict",data:=Data.dict #[en P "__module__" 258 (.str "sluice.errors" 215),en P "__firstlineno__" 262 (.int 17 261),en P "__static_attributes__" 263 (.ref 66),en P "__doc__" 264 .none] 2 }
def Uo (P:Params):Obj:={ cls:=.type "type",data:=Data.cls { name:="NoReach",bases:=[.ref 43],mro:=[.ref 68,.ref 43,.type "ValueError",.type "Exception",.type "BaseException",.type "object"],ns:=67,qualname:="NoReach" },slots:=#[some (.ref 59),none,some (.str "NoReach" 251),some (.str "NoReach" 259),some (.builtin "ValueError.__new__"),some (.bool true)] }
def Xf (P:Params):Obj:={ cls:=.type "super",data:=Data.fields #[.ref 68,.ref 68,.ref 68] }
def Xe (P:Params):Obj:={ cls:=.type "builtin_function_or_method",data:=Data.fields #[.builtin "object.__init_subclass__",.ref 68] }
def Um (P:Params):Obj:=(tq #[.ref 43])
def Xd (P:Params):Obj:={ cls:=.type "builtin_function_or_method",data:=Data.fields #[.builtin "type.__prepare__",.type "type"] }
def Xc (P:Params):Obj:={ cls:=.type "dict",data:=Data.dict #[en P "__module__" 274 (.str "sluice.errors" 215),en P "__qualname__" 276 (.str "NoLicence" 275),en P "__firstlineno__" 278 (.int 19 277),en P "__static_attributes__" 279 (.ref 78)] 4 }
def Xa (P:Params):Obj:=(tq #[])
def W9 (P:Params):Obj:={ cls:=.none,data:=Data.fields #[] }
def W8 (P:Params):Obj:=(fc #[.str "NoLicence" 269,.str "NoLicence" 270,cp 271,.int 19 0,.int 0 0,.int 0 0,.int 0 0,.int 0 0,.ref 74,.bool false,.int 181 0,.ref 75,.none,.none,.none,.none,.int 272 0,.int 19 0,cp 273])
def W7 (P:Params):Obj:={ cls:=.type "frame",slots:=#[some (.ref 76),some (.ref 3),some (.ref 73),none,some (.str "sluice.errors" 215),none,some (.ref 0)] }
def Ul (P:Params):Obj:=(tq #[])
def Uk (P:Params):Obj:={ cls:=.type "dict",data:=Data.dict #[en P "__module__" 274 (.str "sluice.errors" 215),en P "__firstlineno__" 278 (.int 19 277),en P "__static_attributes__" 279 (.ref 78),en P "__doc__" 280 .none] 2 }
def Uj (P:Params):Obj:={ cls:=.type "type",data:=Data.cls { name:="NoLicence",bases:=[.ref 43],mro:=[.ref 80,.ref 43,.type "ValueError",.type "Exception",.type "BaseException",.type "object"],ns:=79,qualname:="NoLicence" },slots:=#[some (.ref 71),none,some (.str "NoLicence" 267),some (.str "NoLicence" 275),some (.builtin "ValueError.__new__"),some (.bool true)] }
def W6 (P:Params):Obj:={ cls:=.type "super",data:=Data.fields #[.ref 80,.ref 80,.ref 80] }
def W5 (P:Params):Obj:={ cls:=.type "builtin_function_or_method",data:=Data.fields #[.builtin "object.__init_subclass__",.ref 80] }
def Ui (P:Params):Obj:=(tq #[.ref 43])
def W3 (P:Params):Obj:={ cls:=.type "builtin_function_or_method",data:=Data.fields #[.builtin "type.__prepare__",.type "type"] }
def W2 (P:Params):Obj:={ cls:=.type "dict",data:=Data.dict #[en P "__module__" 290 (.str "sluice.errors" 215),en P "__qualname__" 292 (.str "NoNumber" 291),en P "__firstlineno__" 294 (.int 21 293),en P "__static_attributes__" 295 (.ref 90)] 4 }
def W0 (P:Params):Obj:=(tq #[])
def WY (P:Params):Obj:={ cls:=.none,data:=Data.fields #[] }
def WX (P:Params):Obj:=(fc #[.str "NoNumber" 285,.str "NoNumber" 286,cp 287,.int 21 0,.int 0 0,.int 0 0,.int 0 0,.int 0 0,.ref 86,.bool false,.int 181 0,.ref 87,.none,.none,.none,.none,.int 288 0,.int 21 0,cp 289])
def WW (P:Params):Obj:={ cls:=.type "frame",slots:=#[some (.ref 88),some (.ref 3),some (.ref 85),none,some (.str "sluice.errors" 215),none,some (.ref 0)] }
def Uh (P:Params):Obj:=(tq #[])
def Ug (P:Params):Obj:={ cls:=.type "dict",data:=Data.dict #[en P "__module__" 290 (.str "sluice.errors" 215),en P "__firstlineno__" 294 (.int 21 293),en P "__static_attributes__" 295 (.ref 90),en P "__doc__" 296 .none] 2 }
def Ue (P:Params):Obj:={ cls:=.type "type",data:=Data.cls { name:="NoNumber",bases:=[.ref 43],mro:=[.ref 92,.ref 43,.type "ValueError",.type "Exception",.type "BaseException",.type "object"],ns:=91,qualname:="NoNumber" },slots:=#[some (.ref 83),none,some (.str "NoNumber" 283),some (.str "NoNumber" 291),some (.builtin "ValueError.__new__"),some (.bool true)] }
def WR (P:Params):Obj:={ cls:=.type "super",data:=Data.fields #[.ref 92,.ref 92,.ref 92] }
def Sw (P:Params):Obj:={ cls:=.type "builtin_function_or_method",data:=Data.fields #[.builtin "object.__init_subclass__",.ref 92] }
def Iu (P:Params):Obj:=(tq #[.ref 43])
def Sv (P:Params):Obj:={ cls:=.type "builtin_function_or_method",data:=Data.fields #[.builtin "type.__prepare__",.type "type"] }
def Ss (P:Params):Obj:={ cls:=.type "dict",data:=Data.dict #[en P "__module__" 306 (.str "sluice.errors" 215),en P "__qualname__" 308 (.str "NoHolder" 307),en P "__firstlineno__" 310 (.int 23 309),en P "__static_attributes__" 311 (.ref 102)] 4 }
def Sq (P:Params):Obj:=(tq #[])
def Sg (P:Params):Obj:={ cls:=.none,data:=Data.fields #[] }
def Sd (P:Params):Obj:=(fc #[.str "NoHolder" 301,.str "NoHolder" 302,cp 303,.int 23 0,.int 0 0,.int 0 0,.int 0 0,.int 0 0,.ref 98,.bool false,.int 181 0,.ref 99,.none,.none,.none,.none,.int 304 0,.int 23 0,cp 305])
def R9 (P:Params):Obj:={ cls:=.type "frame",slots:=#[some (.ref 100),some (.ref 3),some (.ref 97),none,some (.str "sluice.errors" 215),none,some (.ref 0)] }
def Ir (P:Params):Obj:=(tq #[])
def Ip (P:Params):Obj:={ cls:=.type "dict",data:=Data.dict #[en P "__module__" 306 (.str "sluice.errors" 215),en P "__firstlineno__" 310 (.int 23 309),en P "__static_attributes__" 311 (.ref 102),en P "__doc__" 312 .none] 2 }
def Im (P:Params):Obj:={ cls:=.type "type",data:=Data.cls { name:="NoHolder",bases:=[.ref 43],mro:=[.ref 104,.ref 43,.type "ValueError",.type "Exception",.type "BaseException",.type "object"],ns:=103,qualname:="NoHolder" },slots:=#[some (.ref 95),none,some (.str "NoHolder" 299),some (.str "NoHolder" 307),some (.builtin "ValueError.__new__"),some (.bool true)] }
def R8 (P:Params):Obj:={ cls:=.type "super",data:=Data.fields #[.ref 104,.ref 104,.ref 104] }
def R7 (P:Params):Obj:={ cls:=.type "builtin_function_or_method",data:=Data.fields #[.builtin "object.__init_subclass__",.ref 104] }
def Il (P:Params):Obj:=(tq #[.ref 43])
def R6 (P:Params):Obj:={ cls:=.type "builtin_function_or_method",data:=Data.fields #[.builtin "type.__prepare__",.type "type"] }
def R5 (P:Params):Obj:={ cls:=.type "dict",data:=Data.dict #[en P "__module__" 322 (.str "sluice.errors" 215),en P "__qualname__" 324 (.str "NotYours" 323),en P "__firstlineno__" 326 (.int 25 325),en P "__static_attributes__" 327 (.ref 114)] 4 }
def R4 (P:Params):Obj:=(tq #[])
def R3 (P:Params):Obj:={ cls:=.none,data:=Data.fields #[] }
def R0 (P:Params):Obj:=(fc #[.str "NotYours" 317,.str "NotYours" 318,cp 319,.int 25 0,.int 0 0,.int 0 0,.int 0 0,.int 0 0,.ref 110,.bool false,.int 181 0,.ref 111,.none,.none,.none,.none,.int 320 0,.int 25 0,cp 321])
def RZ (P:Params):Obj:={ cls:=.type "frame",slots:=#[some (.ref 112),some (.ref 3),some (.ref 109),none,some (.str "sluice.errors" 215),none,some (.ref 0)] }
def Ik (P:Params):Obj:=(tq #[])
def Ij (P:Params):Obj:={ cls:=.type "dict",data:=Data.dict #[en P "__module__" 322 (.str "sluice.errors" 215),en P "__firstlineno__" 326 (.int 25 325),en P "__static_attributes__" 327 (.ref 114),en P "__doc__" 328 .none] 2 }
def Ii (P:Params):Obj:={ cls:=.type "type",data:=Data.cls { name:="NotYours",bases:=[.ref 43],mro:=[.ref 116,.ref 43,.type "ValueError",.type "Exception",.type "BaseException",.type "object"],ns:=115,qualname:="NotYours" },slots:=#[some (.ref 107),none,some (.str "NotYours" 315),some (.str "NotYours" 323),some (.builtin "ValueError.__new__"),some (.bool true)] }
def RX (P:Params):Obj:={ cls:=.type "super",data:=Data.fields #[.ref 116,.ref 116,.ref 116] }
def RW (P:Params):Obj:={ cls:=.type "builtin_function_or_method",data:=Data.fields #[.builtin "object.__init_subclass__",.ref 116] }
def Ih (P:Params):Obj:=(tq #[.ref 43])
def RV (P:Params):Obj:={ cls:=.type "builtin_function_or_method",data:=Data.fields #[.builtin "type.__prepare__",.type "type"] }
def RT (P:Params):Obj:={ cls:=.type "dict",data:=Data.dict #[en P "__module__" 338 (.str "sluice.errors" 215),en P "__qualname__" 340 (.str "NotAlone" 339),en P "__firstlineno__" 342 (.int 27 341),en P "__static_attributes__" 343 (.ref 126)] 4 }
def RQ (P:Params):Obj:=(tq #[])
def RP (P:Params):Obj:={ cls:=.none,data:=Data.fields #[] }
def RN (P:Params):Obj:=(fc #[.str "NotAlone" 333,.str "NotAlone" 334,cp 335,.int 27 0,.int 0 0,.int 0 0,.int 0 0,.int 0 0,.ref 122,.bool false,.int 181 0,.ref 123,.none,.none,.none,.none,.int 336 0,.int 27 0,cp 337])
def RM (P:Params):Obj:={ cls:=.type "frame",slots:=#[some (.ref 124),some (.ref 3),some (.ref 121),none,some (.str "sluice.errors" 215),none,some (.ref 0)] }
def Ig (P:Params):Obj:=(tq #[])
def Ie (P:Params):Obj:={ cls:=.type "dict",data:=Data.dict #[en P "__module__" 338 (.str "sluice.errors" 215),en P "__firstlineno__" 342 (.int 27 341),en P "__static_attributes__" 343 (.ref 126),en P "__doc__" 344 .none] 2 }
def Ib (P:Params):Obj:={ cls:=.type "type",data:=Data.cls { name:="NotAlone",bases:=[.ref 43],mro:=[.ref 128,.ref 43,.type "ValueError",.type "Exception",.type "BaseException",.type "object"],ns:=127,qualname:="NotAlone" },slots:=#[some (.ref 119),none,some (.str "NotAlone" 331),some (.str "NotAlone" 339),some (.builtin "ValueError.__new__"),some (.bool true)] }
def RK (P:Params):Obj:={ cls:=.type "super",data:=Data.fields #[.ref 128,.ref 128,.ref 128] }
def RJ (P:Params):Obj:={ cls:=.type "builtin_function_or_method",data:=Data.fields #[.builtin "object.__init_subclass__",.ref 128] }
def Ia (P:Params):Obj:=(tq #[.ref 43])
def RG (P:Params):Obj:={ cls:=.type "builtin_function_or_method",data:=Data.fields #[.builtin "type.__prepare__",.type "type"] }
def RD (P:Params):Obj:={ cls:=.type "dict",data:=Data.dict #[en P "__module__" 354 (.str "sluice.errors" 215),en P "__qualname__" 356 (.str "TooMuch" 355),en P "__firstlineno__" 358 (.int 29 357),en P "__static_attributes__" 359 (.ref 138)] 4 }
def RB (P:Params):Obj:=(tq #[])
def Rz (P:Params):Obj:={ cls:=.none,data:=Data.fields #[] }
def Ry (P:Params):Obj:=(fc #[.str "TooMuch" 349,.str "TooMuch" 350,cp 351,.int 29 0,.int 0 0,.int 0 0,.int 0 0,.int 0 0,.ref 134,.bool false,.int 181 0,.ref 135,.none,.none,.none,.none,.int 352 0,.int 29 0,cp 353])
def Rx (P:Params):Obj:={ cls:=.type "frame",slots:=#[some (.ref 136),some (.ref 3),some (.ref 133),none,some (.str "sluice.errors" 215),none,some (.ref 0)] }
def HY (P:Params):Obj:=(tq #[])
def HX (P:Params):Obj:={ cls:=.type "dict",data:=Data.dict #[en P "__module__" 354 (.str "sluice.errors" 215),en P "__firstlineno__" 358 (.int 29 357),en P "__static_attributes__" 359 (.ref 138),en P "__doc__" 360 .none] 2 }
def HW (P:Params):Obj:={ cls:=.type "type",data:=Data.cls { name:="TooMuch",bases:=[.ref 43],mro:=[.ref 140,.ref 43,.type "ValueError",.type "Exception",.type "BaseException",.type "object"],ns:=139,qualname:="TooMuch" },slots:=#[some (.ref 131),none,some (.str "TooMuch" 347),some (.str "TooMuch" 355),some (.builtin "ValueError.__new__"),some (.bool true)] }
def Rw (P:Params):Obj:={ cls:=.type "super",data:=Data.fields #[.ref 140,.ref 140,.ref 140] }
def Ru (P:Params):Obj:={ cls:=.type "builtin_function_or_method",data:=Data.fields #[.builtin "object.__init_subclass__",.ref 140] }
def HS (P:Params):Obj:=(tq #[.ref 43])
def Rt (P:Params):Obj:={ cls:=.type "builtin_function_or_method",data:=Data.fields #[.builtin "type.__prepare__",.type "type"] }
def Rr (P:Params):Obj:={ cls:=.type "dict",data:=Data.dict #[en P "__module__" 370 (.str "sluice.errors" 215),en P "__qualname__" 372 (.str "Full" 371),en P "__firstlineno__" 374 (.int 31 373),en P "__static_attributes__" 375 (.ref 150)] 4 }
def Rq (P:Params):Obj:=(tq #[])
def Rp (P:Params):Obj:={ cls:=.none,data:=Data.fields #[] }
def Ro (P:Params):Obj:=(fc #[.str "Full" 365,.str "Full" 366,cp 367,.int 31 0,.int 0 0,.int 0 0,.int 0 0,.int 0 0,.ref 146,.bool false,.int 181 0,.ref 147,.none,.none,.none,.none,.int 368 0,.int 31 0,cp 369])
def Rn (P:Params):Obj:={ cls:=.type "frame",slots:=#[some (.ref 148),some (.ref 3),some (.ref 145),none,some (.str "sluice.errors" 215),none,some (.ref 0)] }
def HN (P:Params):Obj:=(tq #[])
def HJ (P:Params):Obj:={ cls:=.type "dict",data:=Data.dict #[en P "__module__" 370 (.str "sluice.errors" 215),en P "__firstlineno__" 374 (.int 31 373),en P "__static_attributes__" 375 (.ref 150),en P "__doc__" 376 .none] 2 }
def HF (P:Params):Obj:={ cls:=.type "type",data:=Data.cls { name:="Full",bases:=[.ref 43],mro:=[.ref 152,.ref 43,.type "ValueError",.type "Exception",.type "BaseException",.type "object"],ns:=151,qualname:="Full" },slots:=#[some (.ref 143),none,some (.str "Full" 363),some (.str "Full" 371),some (.builtin "ValueError.__new__"),some (.bool true)] }
def Rm (P:Params):Obj:={ cls:=.type "super",data:=Data.fields #[.ref 152,.ref 152,.ref 152] }
def Rj (P:Params):Obj:={ cls:=.type "builtin_function_or_method",data:=Data.fields #[.builtin "object.__init_subclass__",.ref 152] }
def HD (P:Params):Obj:=(tq #[])
def Ri (P:Params):Obj:={ cls:=.none,data:=Data.fields #[] }
def HB (P:Params):Obj:=(tq #[.str "below" 389,.str "start" 390,.str "reach" 391,.str "step" 392])
def Hz (P:Params):Obj:=(tq #[])
def Rh (P:Params):Obj:=(pr0 "comes_to_mouth" 21)
def Hx (P:Params):Obj:=(fc #[.str "comes_to_mouth" 386,.str "comes_to_mouth" 387,cp 388,.int 36 0,.int 2 0,.int 0 0,.int 0 0,.int 3 0,.ref 155,.bool true,.int 181 0,.ref 156,.none,.ref 157,.ref 158,.ref 159,.int 393 0,.int 36 0,cp 394])
def Hw (P:Params):Obj:=⟨.type "function",none,.func (PySem.W.fnOf "comes_to_mouth" "comes_to_mouth" (aA (top0 21)) (aq (top0 21)) (ao (top0 21)) .none .none .none (.str "sluice.rivers" 379) none (.ref 160) .none),#[]⟩
def Hv (P:Params):Obj:=(tq #[])
def Rg (P:Params):Obj:={ cls:=.none,data:=Data.fields #[] }
def Rf (P:Params):Obj:=(pr0 "is_river" 22)
def Hu (P:Params):Obj:=(fc #[.str "is_river" 396,.str "is_river" 397,cp 398,.int 43 0,.int 1 0,.int 0 0,.int 0 0,.int 3 0,.ref 162,.bool true,.int 181 0,.ref 163,.none,.none,.none,.ref 164,.int 399 0,.int 43 0,cp 400])
def Ht (P:Params):Obj:=⟨.type "function",none,.func (PySem.W.fnOf "is_river" "is_river" (aA (top0 22)) (aq (top0 22)) (ao (top0 22)) .none .none .none (.str "sluice.rivers" 379) none (.ref 165) .none),#[]⟩
def Hs (P:Params):Obj:=(tq #[])
def Rc (P:Params):Obj:={ cls:=.none,data:=Data.fields #[] }
def Hr (P:Params):Obj:=(tq #[.str "below" 405,.str "reach" 406,.str "way" 407])
def Hq (P:Params):Obj:=(tq #[])
def Rb (P:Params):Obj:=(pr0 "way_of" 23)
def Ho (P:Params):Obj:=(fc #[.str "way_of" 402,.str "way_of" 403,cp 404,.int 49 0,.int 2 0,.int 0 0,.int 0 0,.int 3 0,.ref 167,.bool true,.int 181 0,.ref 168,.none,.ref 169,.ref 170,.ref 171,.int 408 0,.int 49 0,cp 409])
def Hl (P:Params):Obj:=⟨.type "function",none,.func (PySem.W.fnOf "way_of" "way_of" (aA (top0 23)) (aq (top0 23)) (ao (top0 23)) .none .none .none (.str "sluice.rivers" 379) none (.ref 172) .none),#[]⟩
def Hj (P:Params):Obj:=(tq #[])
def Ra (P:Params):Obj:={ cls:=.none,data:=Data.fields #[] }
def Hi (P:Params):Obj:=(tq #[.str "below" 414])
def Hh (P:Params):Obj:=(tq #[.str "below" 415])
def Q9 (P:Params):Obj:=(pr0 "tops_first" 24)
def Hg (P:Params):Obj:=(fc #[.str "tops_first" 411,.str "tops_first" 412,cp 413,.int 54 0,.int 1 0,.int 0 0,.int 0 0,.int 3 0,.ref 174,.bool true,.int 181 0,.ref 175,.none,.ref 176,.ref 177,.ref 178,.int 416 0,.int 54 0,cp 417])
def Hf (P:Params):Obj:=⟨.type "function",none,.func (PySem.W.fnOf "tops_first" "tops_first" (aA (top0 24)) (aq (top0 24)) (ao (top0 24)) .none .none .none (.str "sluice.rivers" 379) none (.ref 179) .none),#[]⟩
def G9 (P:Params):Obj:=(tq #[])
def Q8 (P:Params):Obj:={ cls:=.none,data:=Data.fields #[] }
def G8 (P:Params):Obj:=(tq #[.str "below" 422,.str "start" 423,.str "stop" 424,.str "way" 425])
def G7 (P:Params):Obj:=(tq #[])
def Q7 (P:Params):Obj:=(pr0 "stretch_of" 25)
def G6 (P:Params):Obj:=(fc #[.str "stretch_of" 419,.str "stretch_of" 420,cp 421,.int 56 0,.int 3 0,.int 0 0,.int 0 0,.int 3 0,.ref 181,.bool true,.int 181 0,.ref 182,.none,.ref 183,.ref 184,.ref 185,.int 426 0,.int 56 0,cp 427])
def G5 (P:Params):Obj:=⟨.type "function",none,.func (PySem.W.fnOf "stretch_of" "stretch_of" (aA (top0 25)) (aq (top0 25)) (ao (top0 25)) .none .none .none (.str "sluice.rivers" 379) none (.ref 186) .none),#[]⟩
def G4 (P:Params):Obj:=(tq #[])
def Q6 (P:Params):Obj:={ cls:=.none,data:=Data.fields #[] }
def G3 (P:Params):Obj:=(tq #[.str "below" 436,.str "one" 437,.str "day" 438,.str "start" 439,.str "back" 440,.str "most" 441])
def GZ (P:Params):Obj:=(tq #[])
def Q5 (P:Params):Obj:=(pr0 "is_licence" 28)
def GX (P:Params):Obj:=(fc #[.str "is_licence" 433,.str "is_licence" 434,cp 435,.int 65 0,.int 2 0,.int 0 0,.int 0 0,.int 3 0,.ref 188,.bool true,.int 181 0,.ref 189,.none,.ref 190,.ref 191,.ref 192,.int 442 0,.int 65 0,cp 443])
def GR (P:Params):Obj:=⟨.type "function",none,.func (PySem.W.fnOf "is_licence" "is_licence" (aA (top0 28)) (aq (top0 28)) (ao (top0 28)) .none .none .none (.str "sluice.licences" 429) none (.ref 193) .none),#[]⟩
def GQ (P:Params):Obj:=(tq #[])
def Q0 (P:Params):Obj:={ cls:=.none,data:=Data.fields #[] }
def GP (P:Params):Obj:=(tq #[.str "below" 448,.str "one" 449,.str "day" 450,.str "start" 451,.str "back" 452,.str "most" 453])
def GK (P:Params):Obj:=(tq #[])
def QZ (P:Params):Obj:=(pr0 "reaches_of" 29)
def GJ (P:Params):Obj:=(fc #[.str "reaches_of" 445,.str "reaches_of" 446,cp 447,.int 70 0,.int 2 0,.int 0 0,.int 0 0,.int 3 0,.ref 195,.bool true,.int 181 0,.ref 196,.none,.ref 197,.ref 198,.ref 199,.int 454 0,.int 70 0,cp 455])
def GF (P:Params):Obj:=⟨.type "function",none,.func (PySem.W.fnOf "reaches_of" "reaches_of" (aA (top0 29)) (aq (top0 29)) (ao (top0 29)) .none .none .none (.str "sluice.licences" 429) none (.ref 200) .none),#[]⟩
def GD (P:Params):Obj:=(tq #[])
def QX (P:Params):Obj:={ cls:=.none,data:=Data.fields #[] }
def GC (P:Params):Obj:=(tq #[.str "one" 460])
def Gz (P:Params):Obj:=(tq #[])
def QW (P:Params):Obj:=(pr0 "day_filed" 30)
def Gy (P:Params):Obj:=(fc #[.str "day_filed" 457,.str "day_filed" 458,cp 459,.int 73 0,.int 1 0,.int 0 0,.int 0 0,.int 3 0,.ref 202,.bool true,.int 181 0,.ref 203,.none,.ref 204,.ref 205,.ref 206,.int 461 0,.int 73 0,cp 462])
def Gx (P:Params):Obj:=⟨.type "function",none,.func (PySem.W.fnOf "day_filed" "day_filed" (aA (top0 30)) (aq (top0 30)) (ao (top0 30)) .none .none .none (.str "sluice.licences" 429) none (.ref 207) .none),#[]⟩
def Gw (P:Params):Obj:=(tq #[])
def QV (P:Params):Obj:={ cls:=.none,data:=Data.fields #[] }
def Gv (P:Params):Obj:=(tq #[.str "one" 467])
def Gu (P:Params):Obj:=(tq #[])
def QT (P:Params):Obj:=(pr0 "most_of" 31)
def Gs (P:Params):Obj:=(fc #[.str "most_of" 464,.str "most_of" 465,cp 466,.int 75 0,.int 1 0,.int 0 0,.int 0 0,.int 3 0,.ref 209,.bool true,.int 181 0,.ref 210,.none,.ref 211,.ref 212,.ref 213,.int 468 0,.int 75 0,cp 469])
def Gq (P:Params):Obj:=⟨.type "function",none,.func (PySem.W.fnOf "most_of" "most_of" (aA (top0 31)) (aq (top0 31)) (ao (top0 31)) .none .none .none (.str "sluice.licences" 429) none (.ref 214) .none),#[]⟩
def Gp (P:Params):Obj:=(tq #[])
def QS (P:Params):Obj:={ cls:=.none,data:=Data.fields #[] }
def Gn (P:Params):Obj:=(tq #[.str "one" 474,.str "most" 475])
def Gm (P:Params):Obj:=(tq #[])
def QM (P:Params):Obj:=(pr0 "with_most" 32)
def Gk (P:Params):Obj:=(fc #[.str "with_most" 471,.str "with_most" 472,cp 473,.int 77 0,.int 2 0,.int 0 0,.int 0 0,.int 3 0,.ref 216,.bool true,.int 181 0,.ref 217,.none,.ref 218,.ref 219,.ref 220,.int 476 0,.int 77 0,cp 477])
def Gj (P:Params):Obj:=⟨.type "function",none,.func (PySem.W.fnOf "with_most" "with_most" (aA (top0 32)) (aq (top0 32)) (ao (top0 32)) .none .none .none (.str "sluice.licences" 429) none (.ref 221) .none),#[]⟩
def Gi (P:Params):Obj:=(tq #[])
def QL (P:Params):Obj:={ cls:=.none,data:=Data.fields #[] }
def Gh (P:Params):Obj:=(tq #[.str "roll" 482])
def Gg (P:Params):Obj:=(tq #[.str "roll" 483])
def QK (P:Params):Obj:=(pr0 "ranked" 33)
def Gf (P:Params):Obj:=(fc #[.str "ranked" 479,.str "ranked" 480,cp 481,.int 79 0,.int 1 0,.int 0 0,.int 0 0,.int 3 0,.ref 223,.bool true,.int 181 0,.ref 224,.none,.ref 225,.ref 226,.ref 227,.int 484 0,.int 79 0,cp 485])
def Ge (P:Params):Obj:=⟨.type "function",none,.func (PySem.W.fnOf "ranked" "ranked" (aA (top0 33)) (aq (top0 33)) (ao (top0 33)) .none .none .none (.str "sluice.licences" 429) none (.ref 228) .none),#[]⟩
def Gd (P:Params):Obj:=(tq #[])
def QJ (P:Params):Obj:={ cls:=.none,data:=Data.fields #[] }
def Gb (P:Params):Obj:=(tq #[.str "roll" 490,.str "groups" 491,.str "number" 492])
def Ga (P:Params):Obj:=(tq #[])
def QH (P:Params):Obj:=(pr0 "groups_of" 34)
def FZ (P:Params):Obj:=(fc #[.str "groups_of" 487,.str "groups_of" 488,cp 489,.int 81 0,.int 1 0,.int 0 0,.int 0 0,.int 3 0,.ref 230,.bool true,.int 181 0,.ref 231,.none,.ref 232,.ref 233,.ref 234,.int 493 0,.int 81 0,cp 494])
def FW (P:Params):Obj:=⟨.type "function",none,.func (PySem.W.fnOf "groups_of" "groups_of" (aA (top0 34)) (aq (top0 34)) (ao (top0 34)) .none .none .none (.str "sluice.licences" 429) none (.ref 235) .none),#[]⟩
def FT (P:Params):Obj:=(tq #[])
def QG (P:Params):Obj:={ cls:=.none,data:=Data.fields #[] }
def QF (P:Params):Obj:=(pr0 "wants_of" 35)
def FQ (P:Params):Obj:=(fc #[.str "wants_of" 496,.str "wants_of" 497,cp 498,.int 86 0,.int 2 0,.int 0 0,.int 0 0,.int 3 0,.ref 237,.bool true,.int 181 0,.ref 238,.none,.none,.none,.ref 239,.int 499 0,.int 86 0,cp 500])
def FP (P:Params):Obj:=⟨.type "function",none,.func (PySem.W.fnOf "wants_of" "wants_of" (aA (top0 35)) (aq (top0 35)) (ao (top0 35)) .none .none .none (.str "sluice.licences" 429) none (.ref 240) .none),#[]⟩
def FN (P:Params):Obj:=(tq #[])
def QD (P:Params):Obj:={ cls:=.none,data:=Data.fields #[] }
def FJ (P:Params):Obj:=(tq #[.str "name" 509])
def Fz (P:Params):Obj:=(tq #[])
def QC (P:Params):Obj:=(pr0 "look_at_name" 38)
def Fy (P:Params):Obj:=(fc #[.str "look_at_name" 506,.str "look_at_name" 507,cp 508,.int 90 0,.int 1 0,.int 0 0,.int 0 0,.int 3 0,.ref 242,.bool true,.int 181 0,.ref 243,.none,.ref 244,.ref 245,.ref 246,.int 510 0,.int 90 0,cp 511])
def Fx (P:Params):Obj:=⟨.type "function",none,.func (PySem.W.fnOf "look_at_name" "look_at_name" (aA (top0 38)) (aq (top0 38)) (ao (top0 38)) .none .none .none (.str "sluice.rolls" 502) none (.ref 247) .none),#[]⟩
def QB (P:Params):Obj:=(tq #[])
def Qz (P:Params):Obj:={ cls:=.type "builtin_function_or_method",data:=Data.fields #[.builtin "type.__prepare__",.type "type"] }
def Qy (P:Params):Obj:={ cls:=.type "dict",data:=Data.dict #[en P "__module__" 520 (.str "sluice.rolls" 502),en P "__qualname__" 522 (.str "Roll" 521),en P "__firstlineno__" 524 (.int 93 523),en P "__init__" 532 (.ref 262),en P "today" 539 (.ref 269),en P "roll" 546 (.ref 276),en P "holders" 553 (.ref 283),en P "deeds" 560 (.ref 290),en P "turn" 567 (.ref 297),en P "file" 580 (.ref 305),en P "sell" 590 (.ref 312),en P "part" 602 (.ref 319),en P "drop" 611 (.ref 326),en P "move" 621 (.ref 333),en P "look_move" 630 (.ref 340),en P "lapse" 638 (.ref 347),en P "enter" 647 (.ref 354),en P "is_alone" 653 (.ref 359),en P "look_at_number" 661 (.ref 366),en P "look_at_holder" 670 (.ref 373),en P "look_at_room" 677 (.ref 380),en P "__static_attributes__" 683 (.ref 381)] 22 }
def Qx (P:Params):Obj:=(tq #[])
def Qw (P:Params):Obj:={ cls:=.none,data:=Data.fields #[.int 95 0,.int 4 0,.ref 261,.int 104 0,.int 4 0,.ref 268,.int 107 0,.int 4 0,.ref 275,.int 110 0,.int 4 0,.ref 282,.int 113 0,.int 4 0,.ref 289,.int 116 0,.int 4 0,.ref 296,.int 120 0,.int 4 0,.ref 304,.int 130 0,.int 4 0,.ref 311,.int 133 0,.int 4 0,.ref 318,.int 146 0,.int 4 0,.ref 325,.int 151 0,.int 4 0,.ref 332,.int 154 0,.int 4 0,.ref 339,.int 157 0,.int 4 0,.ref 346,.int 160 0,.int 4 0,.ref 353,.int 165 0,.int 4 0,.ref 358,.int 170 0,.int 4 0,.ref 365,.int 174 0,.int 4 0,.ref 372,.int 179 0,.int 4 0,.ref 379] }
def Qv (P:Params):Obj:=(fc #[.str "Roll" 515,.str "Roll" 516,cp 517,.int 93 0,.int 0 0,.int 0 0,.int 0 0,.int 0 0,.ref 252,.bool false,.int 181 0,.ref 253,.none,.none,.none,.none,.int 518 0,.int 93 0,cp 519])
def Qu (P:Params):Obj:={ cls:=.type "frame",slots:=#[some (.ref 254),some (.ref 3),some (.ref 251),none,some (.str "sluice.rolls" 502),none,some (.ref 0)] }
def Fw (P:Params):Obj:=(tq #[])
def Qt (P:Params):Obj:={ cls:=.none,data:=Data.fields #[] }
def Fv (P:Params):Obj:=(tq #[.str "self" 528,.str "below" 529])
def Ft (P:Params):Obj:=(tq #[])
def Qs (P:Params):Obj:={ cls:=.none,data:=.func { name:="__init__",qualname:="Roll.__init__",params:=aA (inClass (top0 39) 0),body:=.stmts (aq (inClass (top0 39) 0)),scope:=ao (inClass (top0 39) 0),globals:=0,closure:=[],defaults:=.none,kwdefaults:=.none } }
def Fq (P:Params):Obj:=(fc #[.str "__init__" 525,.str "Roll.__init__" 526,cp 527,.int 95 0,.int 2 0,.int 0 0,.int 0 0,.int 3 0,.ref 256,.bool true,.int 181 0,.ref 257,.none,.ref 258,.ref 259,.ref 260,.int 530 0,.int 95 0,cp 531])
def Fp (P:Params):Obj:=⟨.type "function",none,.func (PySem.W.fnOf "__init__" "Roll.__init__" (aA (inClass (top0 39) 0)) (aq (inClass (top0 39) 0)) (ao (inClass (top0 39) 0)) .none .none .none (.str "sluice.rolls" 502) none (.ref 261) .none),#[]⟩
def Fo (P:Params):Obj:=(tq #[])
def Qq (P:Params):Obj:={ cls:=.none,data:=Data.fields #[] }
def Fj (P:Params):Obj:=(tq #[.str "self" 536])
def Fi (P:Params):Obj:=(tq #[])
def Qp (P:Params):Obj:={ cls:=.none,data:=.func { name:="today",qualname:="Roll.today",params:=aA (inClass (top0 39) 1),body:=.stmts (aq (inClass (top0 39) 1)),scope:=ao (inClass (top0 39) 1),globals:=0,closure:=[],defaults:=.none,kwdefaults:=.none } }
def Fg (P:Params):Obj:=(fc #[.str "today" 533,.str "Roll.today" 534,cp 535,.int 104 0,.int 1 0,.int 0 0,.int 0 0,.int 3 0,.ref 263,.bool true,.int 181 0,.ref 264,.none,.ref 265,.ref 266,.ref 267,.int 537 0,.int 104 0,cp 538])
def Fe (P:Params):Obj:=⟨.type "function",none,.func (PySem.W.fnOf "today" "Roll.today" (aA (inClass (top0 39) 1)) (aq (inClass (top0 39) 1)) (ao (inClass (top0 39) 1)) .none .none .none (.str "sluice.rolls" 502) none (.ref 268) .none),#[]⟩
def Fd (P:Params):Obj:=(tq #[])
def Qo (P:Params):Obj:={ cls:=.none,data:=Data.fields #[] }
def Fb (P:Params):Obj:=(tq #[.str "self" 543])
def EY (P:Params):Obj:=(tq #[])
def Qn (P:Params):Obj:={ cls:=.none,data:=.func { name:="roll",qualname:="Roll.roll",params:=aA (inClass (top0 39) 2),body:=.stmts (aq (inClass (top0 39) 2)),scope:=ao (inClass (top0 39) 2),globals:=0,closure:=[],defaults:=.none,kwdefaults:=.none } }
def Ez (P:Params):Obj:=(fc #[.str "roll" 540,.str "Roll.roll" 541,cp 542,.int 107 0,.int 1 0,.int 0 0,.int 0 0,.int 3 0,.ref 270,.bool true,.int 181 0,.ref 271,.none,.ref 272,.ref 273,.ref 274,.int 544 0,.int 107 0,cp 545])
def Ey (P:Params):Obj:=⟨.type "function",none,.func (PySem.W.fnOf "roll" "Roll.roll" (aA (inClass (top0 39) 2)) (aq (inClass (top0 39) 2)) (ao (inClass (top0 39) 2)) .none .none .none (.str "sluice.rolls" 502) none (.ref 275) .none),#[]⟩
def Ew (P:Params):Obj:=(tq #[])
def Qm (P:Params):Obj:={ cls:=.none,data:=Data.fields #[] }
def Eu (P:Params):Obj:=(tq #[.str "self" 550])
def Et (P:Params):Obj:=(tq #[])
def Ql (P:Params):Obj:={ cls:=.none,data:=.func { name:="holders",qualname:="Roll.holders",params:=aA (inClass (top0 39) 3),body:=.stmts (aq (inClass (top0 39) 3)),scope:=ao (inClass (top0 39) 3),globals:=0,closure:=[],defaults:=.none,kwdefaults:=.none } }
def Es (P:Params):Obj:=(fc #[.str "holders" 547,.str "Roll.holders" 548,cp 549,.int 110 0,.int 1 0,.int 0 0,.int 0 0,.int 3 0,.ref 277,.bool true,.int 181 0,.ref 278,.none,.ref 279,.ref 280,.ref 281,.int 551 0,.int 110 0,cp 552])
def Er (P:Params):Obj:=⟨.type "function",none,.func (PySem.W.fnOf "holders" "Roll.holders" (aA (inClass (top0 39) 3)) (aq (inClass (top0 39) 3)) (ao (inClass (top0 39) 3)) .none .none .none (.str "sluice.rolls" 502) none (.ref 282) .none),#[]⟩
def Ep (P:Params):Obj:=(tq #[])
def Qk (P:Params):Obj:={ cls:=.none,data:=Data.fields #[] }
def Eo (P:Params):Obj:=(tq #[.str "self" 557])
def En (P:Params):Obj:=(tq #[])
def Qj (P:Params):Obj:={ cls:=.none,data:=.func { name:="deeds",qualname:="Roll.deeds",params:=aA (inClass (top0 39) 4),body:=.stmts (aq (inClass (top0 39) 4)),scope:=ao (inClass (top0 39) 4),globals:=0,closure:=[],defaults:=.none,kwdefaults:=.none } }
def Em (P:Params):Obj:=(fc #[.str "deeds" 554,.str "Roll.deeds" 555,cp 556,.int 113 0,.int 1 0,.int 0 0,.int 0 0,.int 3 0,.ref 284,.bool true,.int 181 0,.ref 285,.none,.ref 286,.ref 287,.ref 288,.int 558 0,.int 113 0,cp 559])
def El (P:Params):Obj:=⟨.type "function",none,.func (PySem.W.fnOf "deeds" "Roll.deeds" (aA (inClass (top0 39) 4)) (aq (inClass (top0 39) 4)) (ao (inClass (top0 39) 4)) .none .none .none (.str "sluice.rolls" 502) none (.ref 289) .none),#[]⟩
def Ek (P:Params):Obj:=(tq #[])
def Qi (P:Params):Obj:={ cls:=.none,data:=Data.fields #[] }
def Ej (P:Params):Obj:=(tq #[.str "self" 564])
def Ei (P:Params):Obj:=(tq #[])
def Qh (P:Params):Obj:={ cls:=.none,data:=.func { name:="turn",qualname:="Roll.turn",params:=aA (inClass (top0 39) 5),body:=.stmts (aq (inClass (top0 39) 5)),scope:=ao (inClass (top0 39) 5),globals:=0,closure:=[],defaults:=.none,kwdefaults:=.none } }
def Eh (P:Params):Obj:=(fc #[.str "turn" 561,.str "Roll.turn" 562,cp 563,.int 116 0,.int 1 0,.int 0 0,.int 0 0,.int 3 0,.ref 291,.bool true,.int 181 0,.ref 292,.none,.ref 293,.ref 294,.ref 295,.int 565 0,.int 116 0,cp 566])
def Ef (P:Params):Obj:=⟨.type "function",none,.func (PySem.W.fnOf "turn" "Roll.turn" (aA (inClass (top0 39) 5)) (aq (inClass (top0 39) 5)) (ao (inClass (top0 39) 5)) .none .none .none (.str "sluice.rolls" 502) none (.ref 296) .none),#[]⟩
def Ed (P:Params):Obj:=(tq #[.none])
def Ec (P:Params):Obj:=(tq #[])
def Qg (P:Params):Obj:={ cls:=.none,data:=Data.fields #[] }
def Eb (P:Params):Obj:=(tq #[.str "self" 571,.str "holder" 572,.str "start" 573,.str "most" 574,.str "back" 575,.str "stop" 576,.str "one" 577])
def Ea (P:Params):Obj:=(tq #[])
def Qf (P:Params):Obj:={ cls:=.none,data:=.func { name:="file",qualname:="Roll.file",params:=aA (inClass (top0 39) 6),body:=.stmts (aq (inClass (top0 39) 6)),scope:=ao (inClass (top0 39) 6),globals:=0,closure:=[],defaults:=.none,kwdefaults:=.none } }
def DY (P:Params):Obj:=(fc #[.str "file" 568,.str "Roll.file" 569,cp 570,.int 120 0,.int 5 0,.int 0 0,.int 0 0,.int 3 0,.ref 299,.bool true,.int 181 0,.ref 300,.none,.ref 301,.ref 302,.ref 303,.int 578 0,.int 120 0,cp 579])
def DX (P:Params):Obj:=⟨.type "function",none,.func (PySem.W.fnOf "file" "Roll.file" (aA (inClass (top0 39) 6)) (aq (inClass (top0 39) 6)) (ao (inClass (top0 39) 6)) (.ref 298) .none .none (.str "sluice.rolls" 502) none (.ref 304) .none),#[]⟩
def DW (P:Params):Obj:=(tq #[])
def Qe (P:Params):Obj:={ cls:=.none,data:=Data.fields #[] }
def DR (P:Params):Obj:=(tq #[.str "self" 584,.str "number" 585,.str "holder" 586,.str "to" 587])
def DQ (P:Params):Obj:=(tq #[])
def Qd (P:Params):Obj:={ cls:=.none,data:=.func { name:="sell",qualname:="Roll.sell",params:=aA (inClass (top0 39) 7),body:=.stmts (aq (inClass (top0 39) 7)),scope:=ao (inClass (top0 39) 7),globals:=0,closure:=[],defaults:=.none,kwdefaults:=.none } }
def DP (P:Params):Obj:=(fc #[.str "sell" 581,.str "Roll.sell" 582,cp 583,.int 130 0,.int 4 0,.int 0 0,.int 0 0,.int 3 0,.ref 306,.bool true,.int 181 0,.ref 307,.none,.ref 308,.ref 309,.ref 310,.int 588 0,.int 130 0,cp 589])
def DN (P:Params):Obj:=⟨.type "function",none,.func (PySem.W.fnOf "sell" "Roll.sell" (aA (inClass (top0 39) 7)) (aq (inClass (top0 39) 7)) (ao (inClass (top0 39) 7)) .none .none .none (.str "sluice.rolls" 502) none (.ref 311) .none),#[]⟩
def DK (P:Params):Obj:=(tq #[])
def Qc (P:Params):Obj:={ cls:=.none,data:=Data.fields #[] }
def DG (P:Params):Obj:=(tq #[.str "self" 594,.str "number" 595,.str "holder" 596,.str "most" 597,.str "to" 598,.str "one" 599])
def Dz (P:Params):Obj:=(tq #[])
def Qa (P:Params):Obj:={ cls:=.none,data:=.func { name:="part",qualname:="Roll.part",params:=aA (inClass (top0 39) 8),body:=.stmts (aq (inClass (top0 39) 8)),scope:=ao (inClass (top0 39) 8),globals:=0,closure:=[],defaults:=.none,kwdefaults:=.none } }
def Dy (P:Params):Obj:=(fc #[.str "part" 591,.str "Roll.part" 592,cp 593,.int 133 0,.int 5 0,.int 0 0,.int 0 0,.int 3 0,.ref 313,.bool true,.int 181 0,.ref 314,.none,.ref 315,.ref 316,.ref 317,.int 600 0,.int 133 0,cp 601])
def Dw (P:Params):Obj:=⟨.type "function",none,.func (PySem.W.fnOf "part" "Roll.part" (aA (inClass (top0 39) 8)) (aq (inClass (top0 39) 8)) (ao (inClass (top0 39) 8)) .none .none .none (.str "sluice.rolls" 502) none (.ref 318) .none),#[]⟩
def Dv (P:Params):Obj:=(tq #[])
def PX (P:Params):Obj:={ cls:=.none,data:=Data.fields #[] }
def Du (P:Params):Obj:=(tq #[.str "self" 606,.str "number" 607,.str "holder" 608])
def Dt (P:Params):Obj:=(tq #[])
def PN (P:Params):Obj:={ cls:=.none,data:=.func { name:="drop",qualname:="Roll.drop",params:=aA (inClass (top0 39) 9),body:=.stmts (aq (inClass (top0 39) 9)),scope:=ao (inClass (top0 39) 9),globals:=0,closure:=[],defaults:=.none,kwdefaults:=.none } }
def Ds (P:Params):Obj:=(fc #[.str "drop" 603,.str "Roll.drop" 604,cp 605,.int 146 0,.int 3 0,.int 0 0,.int 0 0,.int 3 0,.ref 320,.bool true,.int 181 0,.ref 321,.none,.ref 322,.ref 323,.ref 324,.int 609 0,.int 146 0,cp 610])
def Dr (P:Params):Obj:=⟨.type "function",none,.func (PySem.W.fnOf "drop" "Roll.drop" (aA (inClass (top0 39) 9)) (aq (inClass (top0 39) 9)) (ao (inClass (top0 39) 9)) .none .none .none (.str "sluice.rolls" 502) none (.ref 325) .none),#[]⟩
def Dq (P:Params):Obj:=(tq #[])
def PL (P:Params):Obj:={ cls:=.none,data:=Data.fields #[] }
def Dp (P:Params):Obj:=(tq #[.str "self" 615,.str "number" 616,.str "holder" 617,.str "start" 618])
def Dn (P:Params):Obj:=(tq #[])
def PK (P:Params):Obj:={ cls:=.none,data:=.func { name:="move",qualname:="Roll.move",params:=aA (inClass (top0 39) 10),body:=.stmts (aq (inClass (top0 39) 10)),scope:=ao (inClass (top0 39) 10),globals:=0,closure:=[],defaults:=.none,kwdefaults:=.none } }
def Dl (P:Params):Obj:=(fc #[.str "move" 612,.str "Roll.move" 613,cp 614,.int 151 0,.int 4 0,.int 0 0,.int 0 0,.int 3 0,.ref 327,.bool true,.int 181 0,.ref 328,.none,.ref 329,.ref 330,.ref 331,.int 619 0,.int 151 0,cp 620])
def Dk (P:Params):Obj:=⟨.type "function",none,.func (PySem.W.fnOf "move" "Roll.move" (aA (inClass (top0 39) 10)) (aq (inClass (top0 39) 10)) (ao (inClass (top0 39) 10)) .none .none .none (.str "sluice.rolls" 502) none (.ref 332) .none),#[]⟩
def Dj (P:Params):Obj:=(tq #[])
def PJ (P:Params):Obj:={ cls:=.none,data:=Data.fields #[] }
def Di (P:Params):Obj:=(tq #[.str "self" 625,.str "number" 626,.str "start" 627])
def Dh (P:Params):Obj:=(tq #[])
def PB (P:Params):Obj:={ cls:=.none,data:=.func { name:="look_move",qualname:="Roll.look_move",params:=aA (inClass (top0 39) 11),body:=.stmts (aq (inClass (top0 39) 11)),scope:=ao (inClass (top0 39) 11),globals:=0,closure:=[],defaults:=.none,kwdefaults:=.none } }
def Dg (P:Params):Obj:=(fc #[.str "look_move" 622,.str "Roll.look_move" 623,cp 624,.int 154 0,.int 3 0,.int 0 0,.int 0 0,.int 3 0,.ref 334,.bool true,.int 181 0,.ref 335,.none,.ref 336,.ref 337,.ref 338,.int 628 0,.int 154 0,cp 629])
def Dd (P:Params):Obj:=⟨.type "function",none,.func (PySem.W.fnOf "look_move" "Roll.look_move" (aA (inClass (top0 39) 11)) (aq (inClass (top0 39) 11)) (ao (inClass (top0 39) 11)) .none .none .none (.str "sluice.rolls" 502) none (.ref 339) .none),#[]⟩
def Dc (P:Params):Obj:=(tq #[])
def Py (P:Params):Obj:={ cls:=.none,data:=Data.fields #[] }
def CZ (P:Params):Obj:=(tq #[.str "self" 634,.str "numbers" 635])
def CV (P:Params):Obj:=(tq #[])
def Px (P:Params):Obj:={ cls:=.none,data:=.func { name:="lapse",qualname:="Roll.lapse",params:=aA (inClass (top0 39) 12),body:=.stmts (aq (inClass (top0 39) 12)),scope:=ao (inClass (top0 39) 12),globals:=0,closure:=[],defaults:=.none,kwdefaults:=.none } }
def CT (P:Params):Obj:=(fc #[.str "lapse" 631,.str "Roll.lapse" 632,cp 633,.int 157 0,.int 2 0,.int 0 0,.int 0 0,.int 3 0,.ref 341,.bool true,.int 181 0,.ref 342,.none,.ref 343,.ref 344,.ref 345,.int 636 0,.int 157 0,cp 637])
def CQ (P:Params):Obj:=⟨.type "function",none,.func (PySem.W.fnOf "lapse" "Roll.lapse" (aA (inClass (top0 39) 12)) (aq (inClass (top0 39) 12)) (ao (inClass (top0 39) 12)) .none .none .none (.str "sluice.rolls" 502) none (.ref 346) .none),#[]⟩
def CP (P:Params):Obj:=(tq #[])
def Pu (P:Params):Obj:={ cls:=.none,data:=Data.fields #[] }
def CK (P:Params):Obj:=(tq #[.str "self" 642,.str "one" 643,.str "holder" 644])
def CJ (P:Params):Obj:=(tq #[])
def Pr (P:Params):Obj:={ cls:=.none,data:=.func { name:="enter",qualname:="Roll.enter",params:=aA (inClass (top0 39) 13),body:=.stmts (aq (inClass (top0 39) 13)),scope:=ao (inClass (top0 39) 13),globals:=0,closure:=[],defaults:=.none,kwdefaults:=.none } }
def CG (P:Params):Obj:=(fc #[.str "enter" 639,.str "Roll.enter" 640,cp 641,.int 160 0,.int 3 0,.int 0 0,.int 0 0,.int 3 0,.ref 348,.bool true,.int 181 0,.ref 349,.none,.ref 350,.ref 351,.ref 352,.int 645 0,.int 160 0,cp 646])
def Cz (P:Params):Obj:=⟨.type "function",none,.func (PySem.W.fnOf "enter" "Roll.enter" (aA (inClass (top0 39) 13)) (aq (inClass (top0 39) 13)) (ao (inClass (top0 39) 13)) .none .none .none (.str "sluice.rolls" 502) none (.ref 353) .none),#[]⟩
def Cy (P:Params):Obj:=(tq #[])
def Pq (P:Params):Obj:={ cls:=.none,data:=Data.fields #[] }
def Pn (P:Params):Obj:={ cls:=.none,data:=.func { name:="is_alone",qualname:="Roll.is_alone",params:=aA (inClass (top0 39) 14),body:=.stmts (aq (inClass (top0 39) 14)),scope:=ao (inClass (top0 39) 14),globals:=0,closure:=[],defaults:=.none,kwdefaults:=.none } }
def Cw (P:Params):Obj:=(fc #[.str "is_alone" 648,.str "Roll.is_alone" 649,cp 650,.int 165 0,.int 2 0,.int 0 0,.int 0 0,.int 3 0,.ref 355,.bool true,.int 181 0,.ref 356,.none,.none,.none,.ref 357,.int 651 0,.int 165 0,cp 652])
def Cv (P:Params):Obj:=⟨.type "function",none,.func (PySem.W.fnOf "is_alone" "Roll.is_alone" (aA (inClass (top0 39) 14)) (aq (inClass (top0 39) 14)) (ao (inClass (top0 39) 14)) .none .none .none (.str "sluice.rolls" 502) none (.ref 358) .none),#[]⟩
def Cu (P:Params):Obj:=(tq #[])
def Pk (P:Params):Obj:={ cls:=.none,data:=Data.fields #[] }
def Cr (P:Params):Obj:=(tq #[.str "self" 657,.str "number" 658])
def Cq (P:Params):Obj:=(tq #[])
def Pj (P:Params):Obj:={ cls:=.none,data:=.func { name:="look_at_number",qualname:="Roll.look_at_number",params:=aA (inClass (top0 39) 15),body:=.stmts (aq (inClass (top0 39) 15)),scope:=ao (inClass (top0 39) 15),globals:=0,closure:=[],defaults:=.none,kwdefaults:=.none } }
def Cp (P:Params):Obj:=(fc #[.str "look_at_number" 654,.str "Roll.look_at_number" 655,cp 656,.int 170 0,.int 2 0,.int 0 0,.int 0 0,.int 3 0,.ref 360,.bool true,.int 181 0,.ref 361,.none,.ref 362,.ref 363,.ref 364,.int 659 0,.int 170 0,cp 660])
def Cm (P:Params):Obj:=⟨.type "function",none,.func (PySem.W.fnOf "look_at_number" "Roll.look_at_number" (aA (inClass (top0 39) 15)) (aq (inClass (top0 39) 15)) (ao (inClass (top0 39) 15)) .none .none .none (.str "sluice.rolls" 502) none (.ref 365) .none),#[]⟩
def Ck (P:Params):Obj:=(tq #[])
def Ph (P:Params):Obj:={ cls:=.none,data:=Data.fields #[] }
def Cj (P:Params):Obj:=(tq #[.str "self" 665,.str "number" 666,.str "holder" 667])
def Ci (P:Params):Obj:=(tq #[])
def Pb (P:Params):Obj:={ cls:=.none,data:=.func { name:="look_at_holder",qualname:="Roll.look_at_holder",params:=aA (inClass (top0 39) 16),body:=.stmts (aq (inClass (top0 39) 16)),scope:=ao (inClass (top0 39) 16),globals:=0,closure:=[],defaults:=.none,kwdefaults:=.none } }
def Cg (P:Params):Obj:=(fc #[.str "look_at_holder" 662,.str "Roll.look_at_holder" 663,cp 664,.int 174 0,.int 3 0,.int 0 0,.int 0 0,.int 3 0,.ref 367,.bool true,.int 181 0,.ref 368,.none,.ref 369,.ref 370,.ref 371,.int 668 0,.int 174 0,cp 669])
def Ce (P:Params):Obj:=⟨.type "function",none,.func (PySem.W.fnOf "look_at_holder" "Roll.look_at_holder" (aA (inClass (top0 39) 16)) (aq (inClass (top0 39) 16)) (ao (inClass (top0 39) 16)) .none .none .none (.str "sluice.rolls" 502) none (.ref 372) .none),#[]⟩
def Cd (P:Params):Obj:=(tq #[])
def Pa (P:Params):Obj:={ cls:=.none,data:=Data.fields #[] }
def Ca (P:Params):Obj:=(tq #[.str "self" 674])
def BZ (P:Params):Obj:=(tq #[])
def O9 (P:Params):Obj:={ cls:=.none,data:=.func { name:="look_at_room",qualname:="Roll.look_at_room",params:=aA (inClass (top0 39) 17),body:=.stmts (aq (inClass (top0 39) 17)),scope:=ao (inClass (top0 39) 17),globals:=0,closure:=[],defaults:=.none,kwdefaults:=.none } }
def BX (P:Params):Obj:=(fc #[.str "look_at_room" 671,.str "Roll.look_at_room" 672,cp 673,.int 179 0,.int 1 0,.int 0 0,.int 0 0,.int 3 0,.ref 374,.bool true,.int 181 0,.ref 375,.none,.ref 376,.ref 377,.ref 378,.int 675 0,.int 179 0,cp 676])
def BW (P:Params):Obj:=⟨.type "function",none,.func (PySem.W.fnOf "look_at_room" "Roll.look_at_room" (aA (inClass (top0 39) 17)) (aq (inClass (top0 39) 17)) (ao (inClass (top0 39) 17)) .none .none .none (.str "sluice.rolls" 502) none (.ref 379) .none),#[]⟩
def BR (P:Params):Obj:=(tq #[.str "below" 678,.str "day" 679,.str "done" 680,.str "licences" 681,.str "names" 682])
def BP (P:Params):Obj:={ cls:=.type "dict",data:=Data.dict #[en P "__module__" 520 (.str "sluice.rolls" 502),en P "__firstlineno__" 524 (.int 93 523),en P "__init__" 532 (.ref 262),en P "today" 539 (.ref 269),en P "roll" 546 (.ref 276),en P "holders" 553 (.ref 283),en P "deeds" 560 (.ref 290),en P "turn" 567 (.ref 297),en P "file" 580 (.ref 305),en P "sell" 590 (.ref 312),en P "part" 602 (.ref 319),en P "drop" 611 (.ref 326),en P "move" 621 (.ref 333),en P "look_move" 630 (.ref 340),en P "lapse" 638 (.ref 347),en P "enter" 647 (.ref 354),en P "is_alone" 653 (.ref 359),en P "look_at_number" 661 (.ref 366),en P "look_at_holder" 670 (.ref 373),en P "look_at_room" 677 (.ref 380),en P "__static_attributes__" 683 (.ref 381),en P "__dict__" 685 (.ref 384),en P "__weakref__" 687 (.ref 385),en P "__doc__" 688 .none] 4 }
def BL (P:Params):Obj:={ cls:=.type "type",data:=Data.cls { name:="Roll",bases:=[.type "object"],mro:=[.ref 383,.type "object"],ns:=382,qualname:="Roll" },slots:=#[none,none,some (.str "Roll" 513),some (.str "Roll" 521),some (.builtin "object.__new__"),some (.bool true)] }
def BK (P:Params):Obj:={ cls:=.type "getset_descriptor",data:=Data.fields #[.str "__dict__" 684,.ref 383,.builtin "function.__dict__",.builtin "function.__dict__#set"] }
def BJ (P:Params):Obj:={ cls:=.type "getset_descriptor",data:=Data.fields #[.str "__weakref__" 686,.ref 383,.builtin "ExceptionGroup.__weakref__",.none] }
def O8 (P:Params):Obj:={ cls:=.type "super",data:=Data.fields #[.ref 383,.ref 383,.ref 383] }
def OJ (P:Params):Obj:={ cls:=.type "builtin_function_or_method",data:=Data.fields #[.builtin "object.__init_subclass__",.ref 383] }
def Oz (P:Params):Obj:={ cls:=.type "dict",data:=Data.dict #[en P "__name__" 165 (.str "law_sluice_k58_whole_parted_changes_nobody" 764),en P "__doc__" 166 .none,en P "__package__" 167 .none,en P "__loader__" 168 (.builtin "__main__.__loader__#opaque"),en P "__spec__" 169 .none,en P "__annotations__" 170 (.ref 6),en P "__builtins__" 171 (.ref 4),en P "__file__" 173 (cp 172),en P "__cached__" 174 .none,en P "_wall" 193 (.ref 21),en P "MOST_WATER" 197 (.int 1000000000000 196),en P "LONGEST_NAME" 199 (.int 8 198),en P "LETTERS" 201 (.str "abcdefghijklmnopqrstuvwxyz" 200),en P "is_water" 208 (.ref 28),en P "is_name" 214 (.ref 33),en P "SluiceError" 234 (.ref 43),en P "NoRiver" 250 (.ref 56),en P "NoReach" 266 (.ref 68),en P "NoLicence" 282 (.ref 80),en P "NoNumber" 298 (.ref 92),en P "NoHolder" 314 (.ref 104),en P "NotYours" 330 (.ref 116),en P "NotAlone" 346 (.ref 128),en P "TooMuch" 362 (.ref 140),en P "Full" 378 (.ref 152),en P "MOST_REACHES" 382 (.int 40 381),en P "MOUTH" 385 (.int (-1) 384),en P "comes_to_mouth" 395 (.ref 161),en P "is_river" 401 (.ref 166),en P "way_of" 410 (.ref 173),en P "tops_first" 418 (.ref 180),en P "stretch_of" 428 (.ref 187),en P "LAST_DAY" 432 (.int 1000000 431),en P "is_licence" 444 (.ref 194),en P "reaches_of" 456 (.ref 201),en P "day_filed" 463 (.ref 208),en P "most_of" 470 (.ref 215),en P "with_most" 478 (.ref 222),en P "ranked" 486 (.ref 229),en P "groups_of" 495 (.ref 236),en P "wants_of" 501 (.ref 241),en P "MOST_LICENCES" 505 (.int 60 504),en P "look_at_name" 512 (.ref 248),en P "Roll" 690 (.ref 383),en P "natural_of" 702 (.ref 394),en P "count_ways" 715 (.ref 401),en P "whole_turns" 721 (.ref 406),en P "draw" 731 (.ref 413),en P "take_whole_turns" 737 (.ref 418),en P "take_one_turn" 743 (.ref 423),en P "deal_turns" 755 (.ref 430),en P "deal" 763 (.ref 435),en P "_law_cell_at" 773 (.ref 442),en P "_law_whole" 780 (.ref 449),en P "_law_draw" 789 (.ref 456),en P "_law_draws" 795 (.ref 461),en P "_law_river" 801 (.ref 466),en P "_law_way" 810 (.ref 473),en P "_law_amount" 818 (.ref 480),en P "_law_file" 831 (.ref 487),en P "_law_split" 843 (.ref 494),en P "law" 849 (.ref 499)] 62 }
def YG (P:Params):Obj:={ cls:=.none,data:=Data.fields #[.int 1 0,.int 0 0,.ref 20,.int 8 0,.int 0 0,.ref 27,.int 10 0,.int 0 0,.ref 32,.int 13 0,.int 0 0,.ref 39,.int 15 0,.int 0 0,.ref 52,.int 17 0,.int 0 0,.ref 64,.int 19 0,.int 0 0,.ref 76,.int 21 0,.int 0 0,.ref 88,.int 23 0,.int 0 0,.ref 100,.int 25 0,.int 0 0,.ref 112,.int 27 0,.int 0 0,.ref 124,.int 29 0,.int 0 0,.ref 136,.int 31 0,.int 0 0,.ref 148,.int 36 0,.int 0 0,.ref 160,.int 43 0,.int 0 0,.ref 165,.int 49 0,.int 0 0,.ref 172,.int 54 0,.int 0 0,.ref 179,.int 56 0,.int 0 0,.ref 186,.int 65 0,.int 0 0,.ref 193,.int 70 0,.int 0 0,.ref 200,.int 73 0,.int 0 0,.ref 207,.int 75 0,.int 0 0,.ref 214,.int 77 0,.int 0 0,.ref 221,.int 79 0,.int 0 0,.ref 228,.int 81 0,.int 0 0,.ref 235,.int 86 0,.int 0 0,.ref 240,.int 90 0,.int 0 0,.ref 247,.int 93 0,.int 0 0,.ref 254,.int 183 0,.int 0 0,.ref 393,.int 190 0,.int 0 0,.ref 400,.int 196 0,.int 0 0,.ref 405,.int 200 0,.int 0 0,.ref 412,.int 203 0,.int 0 0,.ref 417,.int 209 0,.int 0 0,.ref 422,.int 217 0,.int 0 0,.ref 429,.int 226 0,.int 0 0,.ref 434,.int 237 0,.int 0 0,.ref 441,.int 241 0,.int 0 0,.ref 448,.int 243 0,.int 0 0,.ref 455,.int 246 0,.int 0 0,.ref 460,.int 248 0,.int 0 0,.ref 465,.int 257 0,.int 0 0,.ref 472,.int 262 0,.int 0 0,.ref 479,.int 264 0,.int 0 0,.ref 486,.int 273 0,.int 0 0,.ref 493,.int 279 0,.int 0 0,.ref 498] }
def Ox (P:Params):Obj:=(tq #[])
def YF (P:Params):Obj:={ cls:=.none,data:=Data.fields #[] }
def Ov (P:Params):Obj:=(tq #[.str "below" 696,.str "springs" 697,.str "flows" 698,.str "reach" 699])
def Ou (P:Params):Obj:=(tq #[])
def YD (P:Params):Obj:=(pr0 "natural_of" 41)
def Ot (P:Params):Obj:=(fc #[.str "natural_of" 693,.str "natural_of" 694,cp 695,.int 183 0,.int 2 0,.int 0 0,.int 0 0,.int 3 0,.ref 388,.bool true,.int 181 0,.ref 389,.none,.ref 390,.ref 391,.ref 392,.int 700 0,.int 183 0,cp 701])
def Oq (P:Params):Obj:=⟨.type "function",none,.func (PySem.W.fnOf "natural_of" "natural_of" (aA (top0 41)) (aq (top0 41)) (ao (top0 41)) .none .none .none (.str "sluice.flows" 691) none (.ref 393) .none),#[]⟩
def Oo (P:Params):Obj:=(tq #[])
def YC (P:Params):Obj:={ cls:=.none,data:=Data.fields #[] }
def Om (P:Params):Obj:=(tq #[.str "free" 708,.str "ways" 709,.str "counts" 710,.str "way" 711,.str "reach" 712])
def Ol (P:Params):Obj:=(tq #[])
def YB (P:Params):Obj:=(pr0 "count_ways" 43)
def Oj (P:Params):Obj:=(fc #[.str "count_ways" 705,.str "count_ways" 706,cp 707,.int 190 0,.int 2 0,.int 0 0,.int 0 0,.int 3 0,.ref 395,.bool true,.int 181 0,.ref 396,.none,.ref 397,.ref 398,.ref 399,.int 713 0,.int 190 0,cp 714])
def Oi (P:Params):Obj:=⟨.type "function",none,.func (PySem.W.fnOf "count_ways" "count_ways" (aA (top0 43)) (aq (top0 43)) (ao (top0 43)) .none .none .none (.str "sluice.turns" 703) none (.ref 400) .none),#[]⟩
def Oh (P:Params):Obj:=(tq #[])
def Yy (P:Params):Obj:={ cls:=.none,data:=Data.fields #[] }
def Yx (P:Params):Obj:=(pr0 "whole_turns" 44)
def Og (P:Params):Obj:=(fc #[.str "whole_turns" 716,.str "whole_turns" 717,cp 718,.int 196 0,.int 3 0,.int 0 0,.int 0 0,.int 3 0,.ref 402,.bool true,.int 181 0,.ref 403,.none,.none,.none,.ref 404,.int 719 0,.int 196 0,cp 720])
def Oe (P:Params):Obj:=⟨.type "function",none,.func (PySem.W.fnOf "whole_turns" "whole_turns" (aA (top0 44)) (aq (top0 44)) (ao (top0 44)) .none .none .none (.str "sluice.turns" 703) none (.ref 405) .none),#[]⟩
def Od (P:Params):Obj:=(tq #[])
def Yw (P:Params):Obj:={ cls:=.none,data:=Data.fields #[] }
def Oc (P:Params):Obj:=(tq #[.str "left" 725,.str "way" 726,.str "drops" 727,.str "reach" 728])
def Ob (P:Params):Obj:=(tq #[])
def Yu (P:Params):Obj:=(pr0 "draw" 45)
def Oa (P:Params):Obj:=(fc #[.str "draw" 722,.str "draw" 723,cp 724,.int 200 0,.int 3 0,.int 0 0,.int 0 0,.int 3 0,.ref 407,.bool true,.int 181 0,.ref 408,.none,.ref 409,.ref 410,.ref 411,.int 729 0,.int 200 0,cp 730])
def N8 (P:Params):Obj:=⟨.type "function",none,.func (PySem.W.fnOf "draw" "draw" (aA (top0 45)) (aq (top0 45)) (ao (top0 45)) .none .none .none (.str "sluice.turns" 703) none (.ref 412) .none),#[]⟩
def N7 (P:Params):Obj:=(tq #[])
def Yt (P:Params):Obj:={ cls:=.none,data:=Data.fields #[] }
def Ys (P:Params):Obj:=(pr0 "take_whole_turns" 46)
def N6 (P:Params):Obj:=(fc #[.str "take_whole_turns" 732,.str "take_whole_turns" 733,cp 734,.int 203 0,.int 5 0,.int 0 0,.int 0 0,.int 3 0,.ref 414,.bool true,.int 181 0,.ref 415,.none,.none,.none,.ref 416,.int 735 0,.int 203 0,cp 736])
def N5 (P:Params):Obj:=⟨.type "function",none,.func (PySem.W.fnOf "take_whole_turns" "take_whole_turns" (aA (top0 46)) (aq (top0 46)) (ao (top0 46)) .none .none .none (.str "sluice.turns" 703) none (.ref 417) .none),#[]⟩
def NZ (P:Params):Obj:=(tq #[])
def Yr (P:Params):Obj:={ cls:=.none,data:=Data.fields #[] }
def Yp (P:Params):Obj:=(pr0 "take_one_turn" 47)
def NT (P:Params):Obj:=(fc #[.str "take_one_turn" 738,.str "take_one_turn" 739,cp 740,.int 209 0,.int 5 0,.int 0 0,.int 0 0,.int 3 0,.ref 419,.bool true,.int 181 0,.ref 420,.none,.none,.none,.ref 421,.int 741 0,.int 209 0,cp 742])
def NQ (P:Params):Obj:=⟨.type "function",none,.func (PySem.W.fnOf "take_one_turn" "take_one_turn" (aA (top0 47)) (aq (top0 47)) (ao (top0 47)) .none .none .none (.str "sluice.turns" 703) none (.ref 422) .none),#[]⟩
def NP (P:Params):Obj:=(tq #[])
def Yo (P:Params):Obj:={ cls:=.none,data:=Data.fields #[] }
def NK (P:Params):Obj:=(tq #[.str "free" 747,.str "ways" 748,.str "rests" 749,.str "left" 750,.str "takes" 751,.str "going" 752])
def Nz (P:Params):Obj:=(tq #[])
def Yn (P:Params):Obj:=(pr0 "deal_turns" 48)
def Ny (P:Params):Obj:=(fc #[.str "deal_turns" 744,.str "deal_turns" 745,cp 746,.int 217 0,.int 3 0,.int 0 0,.int 0 0,.int 3 0,.ref 424,.bool true,.int 181 0,.ref 425,.none,.ref 426,.ref 427,.ref 428,.int 753 0,.int 217 0,cp 754])
def Nx (P:Params):Obj:=⟨.type "function",none,.func (PySem.W.fnOf "deal_turns" "deal_turns" (aA (top0 48)) (aq (top0 48)) (ao (top0 48)) .none .none .none (.str "sluice.turns" 703) none (.ref 429) .none),#[]⟩
def Nv (P:Params):Obj:=(tq #[])
def Yl (P:Params):Obj:={ cls:=.none,data:=Data.fields #[] }
def Yk (P:Params):Obj:=(pr0 "deal" 50)
def Nu (P:Params):Obj:=(fc #[.str "deal" 758,.str "deal" 759,cp 760,.int 226 0,.int 4 0,.int 0 0,.int 0 0,.int 3 0,.ref 431,.bool true,.int 181 0,.ref 432,.none,.none,.none,.ref 433,.int 761 0,.int 226 0,cp 762])
def Nt (P:Params):Obj:=⟨.type "function",none,.func (PySem.W.fnOf "deal" "deal" (aA (top0 50)) (aq (top0 50)) (ao (top0 50)) .none .none .none (.str "sluice.dealing" 756) none (.ref 434) .none),#[]⟩
def Nr (P:Params):Obj:=(tq #[])
def Yj (P:Params):Obj:={ cls:=.none,data:=Data.fields #[] }
def Nq (P:Params):Obj:=(tq #[.str "script" 769,.str "k" 770])
def Np (P:Params):Obj:=(tq #[])
def Yi (P:Params):Obj:=(pr0 "_law_cell_at" 52)
def Nm (P:Params):Obj:=(fc #[.str "_law_cell_at" 766,.str "_law_cell_at" 767,cp 768,.int 237 0,.int 2 0,.int 0 0,.int 0 0,.int 3 0,.ref 436,.bool true,.int 181 0,.ref 437,.none,.ref 438,.ref 439,.ref 440,.int 771 0,.int 237 0,cp 772])
def Nk (P:Params):Obj:=⟨.type "function",none,.func (PySem.W.fnOf "_law_cell_at" "_law_cell_at" (aA (top0 52)) (aq (top0 52)) (ao (top0 52)) .none .none .none (.str "law_sluice_k58_whole_parted_changes_nobody" 764) none (.ref 441) .none),#[]⟩
def Nj (P:Params):Obj:=(tq #[])
def Yg (P:Params):Obj:={ cls:=.none,data:=Data.fields #[] }
def Ni (P:Params):Obj:=(tq #[.str "found" 777])
def Nh (P:Params):Obj:=(tq #[])
def Ye (P:Params):Obj:=(pr0 "_law_whole" 53)
def Ng (P:Params):Obj:=(fc #[.str "_law_whole" 774,.str "_law_whole" 775,cp 776,.int 241 0,.int 1 0,.int 0 0,.int 0 0,.int 3 0,.ref 443,.bool true,.int 181 0,.ref 444,.none,.ref 445,.ref 446,.ref 447,.int 778 0,.int 241 0,cp 779])
def Nf (P:Params):Obj:=⟨.type "function",none,.func (PySem.W.fnOf "_law_whole" "_law_whole" (aA (top0 53)) (aq (top0 53)) (ao (top0 53)) .none .none .none (.str "law_sluice_k58_whole_parted_changes_nobody" 764) none (.ref 448) .none),#[]⟩
def Nb (P:Params):Obj:=(tq #[])
def Yc (P:Params):Obj:={ cls:=.none,data:=Data.fields #[] }
def M9 (P:Params):Obj:=(tq #[.str "cell" 784,.str "place" 785,.str "spot" 786])
def M8 (P:Params):Obj:=(tq #[])
def Yb (P:Params):Obj:=(pr0 "_law_draw" 54)
def M7 (P:Params):Obj:=(fc #[.str "_law_draw" 781,.str "_law_draw" 782,cp 783,.int 243 0,.int 2 0,.int 0 0,.int 0 0,.int 3 0,.ref 450,.bool true,.int 181 0,.ref 451,.none,.ref 452,.ref 453,.ref 454,.int 787 0,.int 243 0,cp 788])
def M6 (P:Params):Obj:=⟨.type "function",none,.func (PySem.W.fnOf "_law_draw" "_law_draw" (aA (top0 54)) (aq (top0 54)) (ao (top0 54)) .none .none .none (.str "law_sluice_k58_whole_parted_changes_nobody" 764) none (.ref 455) .none),#[]⟩
def M5 (P:Params):Obj:=(tq #[])
def X8 (P:Params):Obj:={ cls:=.none,data:=Data.fields #[] }
def X7 (P:Params):Obj:=(pr0 "_law_draws" 55)
def M4 (P:Params):Obj:=(fc #[.str "_law_draws" 790,.str "_law_draws" 791,cp 792,.int 246 0,.int 2 0,.int 0 0,.int 0 0,.int 3 0,.ref 457,.bool true,.int 181 0,.ref 458,.none,.none,.none,.ref 459,.int 793 0,.int 246 0,cp 794])
def MP (P:Params):Obj:=⟨.type "function",none,.func (PySem.W.fnOf "_law_draws" "_law_draws" (aA (top0 55)) (aq (top0 55)) (ao (top0 55)) .none .none .none (.str "law_sluice_k58_whole_parted_changes_nobody" 764) none (.ref 460) .none),#[]⟩
def MN (P:Params):Obj:=(tq #[])
def X6 (P:Params):Obj:={ cls:=.none,data:=Data.fields #[] }
def X5 (P:Params):Obj:=(pr0 "_law_river" 56)
def MK (P:Params):Obj:=(fc #[.str "_law_river" 796,.str "_law_river" 797,cp 798,.int 248 0,.int 1 0,.int 0 0,.int 0 0,.int 3 0,.ref 462,.bool true,.int 181 0,.ref 463,.none,.none,.none,.ref 464,.int 799 0,.int 248 0,cp 800])
def MJ (P:Params):Obj:=⟨.type "function",none,.func (PySem.W.fnOf "_law_river" "_law_river" (aA (top0 56)) (aq (top0 56)) (ao (top0 56)) .none .none .none (.str "law_sluice_k58_whole_parted_changes_nobody" 764) none (.ref 465) .none),#[]⟩
def MF (P:Params):Obj:=(tq #[])
def X4 (P:Params):Obj:={ cls:=.none,data:=Data.fields #[] }
def Mz (P:Params):Obj:=(tq #[.str "below" 805,.str "reach" 806,.str "found" 807])
def Mx (P:Params):Obj:=(tq #[])
def X3 (P:Params):Obj:=(pr0 "_law_way" 57)
def Mw (P:Params):Obj:=(fc #[.str "_law_way" 802,.str "_law_way" 803,cp 804,.int 257 0,.int 2 0,.int 0 0,.int 0 0,.int 3 0,.ref 467,.bool true,.int 181 0,.ref 468,.none,.ref 469,.ref 470,.ref 471,.int 808 0,.int 257 0,cp 809])
def Mu (P:Params):Obj:=⟨.type "function",none,.func (PySem.W.fnOf "_law_way" "_law_way" (aA (top0 57)) (aq (top0 57)) (ao (top0 57)) .none .none .none (.str "law_sluice_k58_whole_parted_changes_nobody" 764) none (.ref 472) .none),#[]⟩
def Mt (P:Params):Obj:=(tq #[])
def XS (P:Params):Obj:={ cls:=.none,data:=Data.fields #[] }
def Ms (P:Params):Obj:=(tq #[.str "number" 814,.str "kind" 815])
def Mr (P:Params):Obj:=(tq #[])
def XR (P:Params):Obj:=(pr0 "_law_amount" 58)
def Mq (P:Params):Obj:=(fc #[.str "_law_amount" 811,.str "_law_amount" 812,cp 813,.int 262 0,.int 2 0,.int 0 0,.int 0 0,.int 3 0,.ref 474,.bool true,.int 181 0,.ref 475,.none,.ref 476,.ref 477,.ref 478,.int 816 0,.int 262 0,cp 817])
def Mp (P:Params):Obj:=⟨.type "function",none,.func (PySem.W.fnOf "_law_amount" "_law_amount" (aA (top0 58)) (aq (top0 58)) (ao (top0 58)) .none .none .none (.str "law_sluice_k58_whole_parted_changes_nobody" 764) none (.ref 479) .none),#[]⟩
def Ml (P:Params):Obj:=(tq #[])
def XQ (P:Params):Obj:={ cls:=.none,data:=Data.fields #[] }
def Mj (P:Params):Obj:=(tq #[.str "one" 822,.str "xs" 823,.str "below" 824,.str "least" 825,.str "start" 826,.str "far" 827,.str "most" 828])
def Mi (P:Params):Obj:=(tq #[])
def XM (P:Params):Obj:=(pr0 "_law_file" 59)
def Mh (P:Params):Obj:=(fc #[.str "_law_file" 819,.str "_law_file" 820,cp 821,.int 264 0,.int 4 0,.int 0 0,.int 0 0,.int 3 0,.ref 481,.bool true,.int 181 0,.ref 482,.none,.ref 483,.ref 484,.ref 485,.int 829 0,.int 264 0,cp 830])
def Mg (P:Params):Obj:=⟨.type "function",none,.func (PySem.W.fnOf "_law_file" "_law_file" (aA (top0 59)) (aq (top0 59)) (ao (top0 59)) .none .none .none (.str "law_sluice_k58_whole_parted_changes_nobody" 764) none (.ref 486) .none),#[]⟩
def Mf (P:Params):Obj:=(tq #[])
def XJ (P:Params):Obj:={ cls:=.none,data:=Data.fields #[] }
def Ma (P:Params):Obj:=(tq #[.str "call" 835,.str "most" 836,.str "piece" 837,.str "number" 838,.str "least" 839,.str "there" 840])
def LR (P:Params):Obj:=(tq #[])
def XF (P:Params):Obj:=(pr0 "_law_split" 60)
def LQ (P:Params):Obj:=(fc #[.str "_law_split" 832,.str "_law_split" 833,cp 834,.int 273 0,.int 4 0,.int 0 0,.int 0 0,.int 3 0,.ref 488,.bool true,.int 181 0,.ref 489,.none,.ref 490,.ref 491,.ref 492,.int 841 0,.int 273 0,cp 842])
def LK (P:Params):Obj:=⟨.type "function",none,.func (PySem.W.fnOf "_law_split" "_law_split" (aA (top0 60)) (aq (top0 60)) (ao (top0 60)) .none .none .none (.str "law_sluice_k58_whole_parted_changes_nobody" 764) none (.ref 493) .none),#[]⟩
def LC (P:Params):Obj:=(tq #[])
def XD (P:Params):Obj:={ cls:=.none,data:=Data.fields #[] }
def XC (P:Params):Obj:=(pr0 "law" 61)
def Lz (P:Params):Obj:=(fc #[.str "law" 844,.str "law" 845,cp 846,.int 279 0,.int 1 0,.int 0 0,.int 0 0,.int 3 0,.ref 495,.bool true,.int 181 0,.ref 496,.none,.none,.none,.ref 497,.int 847 0,.int 279 0,cp 848])
def Ly (P:Params):Obj:=⟨.type "function",none,.func (PySem.W.fnOf "law" "law" (aA (top0 61)) (aq (top0 61)) (ao (top0 61)) .none .none .none (.str "law_sluice_k58_whole_parted_changes_nobody" 764) none (.ref 498) .none),#[]⟩
def H0:Params→Heap:=fun P=>{ objs:=⟨YW P :: YS P :: Vx P :: Z0 P :: XH P :: Xp P :: Xi P :: Xb P :: W4 P :: Iw P :: Io P :: []⟩ }
def Ha:Params→Heap:=fun P=>{ objs:=⟨YW P :: YS P :: Vx P :: Z0 P :: XH P :: Xp P :: Xi P :: Xb P :: W4 P :: Iw P :: Io P :: KQ P :: YT P :: KN P :: KJ P :: []⟩ }
def Hb:Params→Heap:=fun P=>{ objs:=⟨YW P :: YS P :: Vx P :: Z0 P :: XH P :: Xp P :: Xi P :: Xb P :: W4 P :: Iw P :: Io P :: KQ P :: YT P :: KN P :: KJ P :: []⟩ }
def Hm:Params→Heap:=fun P=>{ objs:=⟨YW P :: YS P :: Vx P :: Z2 P :: XH P :: Xp P :: Xi P :: Xb P :: W4 P :: Iw P :: Io P :: KQ P :: Z1 P :: KN P :: KJ P :: Vc P :: YQ P :: Vb P :: Va P :: YM P :: U9 P :: U8 P :: U7 P :: YL P :: U6 P :: U5 P :: YK P :: U4 P :: U3 P :: U0 P :: YJ P :: YH P :: UW P :: UL P :: UJ P :: Yz P :: Yv P :: Yq P :: Ym P :: Yh P :: Yd P :: UG P :: Uz P :: Uy P :: Ux P :: Xz P :: Xy P :: Uw P :: Xx P :: Xw P :: Xv P :: Xu P :: Xr P :: Xq P :: Uv P :: Uu P :: Ut P :: Xo P :: Xn P :: Us P :: Xm P :: Xl P :: Xk P :: Xj P :: Xh P :: Xg P :: Ur P :: Uq P :: Uo P :: Xf P :: Xe P :: Um P :: Xd P :: Xc P :: Xa P :: W9 P :: W8 P :: W7 P :: Ul P :: Uk P :: Uj P :: W6 P :: W5 P :: Ui P :: W3 P :: W2 P :: W0 P :: WY P :: WX P :: WW P :: Uh P :: Ug P :: Ue P :: WR P :: Sw P :: Iu P :: Sv P :: Ss P :: Sq P :: Sg P :: Sd P :: R9 P :: Ir P :: Ip P :: Im P :: R8 P :: R7 P :: Il P :: R6 P :: R5 P :: R4 P :: R3 P :: R0 P :: RZ P :: Ik P :: Ij P :: Ii P :: RX P :: RW P :: Ih P :: RV P :: RT P :: RQ P :: RP P :: RN P :: RM P :: Ig P :: Ie P :: Ib P :: RK P :: RJ P :: Ia P :: RG P :: RD P :: RB P :: Rz P :: Ry P :: Rx P :: HY P :: HX P :: HW P :: Rw P :: Ru P :: HS P :: Rt P :: Rr P :: Rq P :: Rp P :: Ro P :: Rn P :: HN P :: HJ P :: HF P :: Rm P :: Rj P :: HD P :: Ri P :: HB P :: Hz P :: Rh P :: Hx P :: Hw P :: Hv P :: Rg P :: Rf P :: Hu P :: Ht P :: Hs P :: Rc P :: Hr P :: Hq P :: Rb P :: Ho P :: Hl P :: Hj P :: Ra P :: Hi P :: Hh P :: Q9 P :: Hg P :: Hf P :: G9 P :: Q8 P :: G8 P :: G7 P :: Q7 P :: G6 P :: G5 P :: G4 P :: Q6 P :: G3 P :: GZ P :: Q5 P :: GX P :: GR P :: GQ P :: Q0 P :: GP P :: GK P :: QZ P :: GJ P :: GF P :: GD P :: QX P :: GC P :: Gz P :: QW P :: Gy P :: Gx P :: Gw P :: QV P :: Gv P :: Gu P :: QT P :: Gs P :: Gq P :: Gp P :: QS P :: Gn P :: Gm P :: QM P :: Gk P :: Gj P :: Gi P :: QL P :: Gh P :: Gg P :: QK P :: Gf P :: Ge P :: Gd P :: QJ P :: Gb P :: Ga P :: QH P :: FZ P :: FW P :: FT P :: QG P :: QF P :: FQ P :: FP P :: FN P :: QD P :: FJ P :: Fz P :: QC P :: Fy P :: Fx P :: QB P :: Qz P :: Qy P :: Qx P :: Qw P :: Qv P :: Qu P :: Fw P :: Qt P :: Fv P :: Ft P :: Qs P :: Fq P :: Fp P :: Fo P :: Qq P :: Fj P :: Fi P :: Qp P :: Fg P :: Fe P :: Fd P :: Qo P :: Fb P :: EY P :: Qn P :: Ez P :: Ey P :: Ew P :: Qm P :: Eu P :: Et P :: Ql P :: Es P :: Er P :: Ep P :: Qk P :: Eo P :: En P :: Qj P :: Em P :: El P :: Ek P :: Qi P :: Ej P :: Ei P :: Qh P :: Eh P :: Ef P :: Ed P :: Ec P :: Qg P :: Eb P :: Ea P :: Qf P :: DY P :: DX P :: DW P :: Qe P :: DR P :: DQ P :: Qd P :: DP P :: DN P :: DK P :: Qc P :: DG P :: Dz P :: Qa P :: Dy P :: Dw P :: Dv P :: PX P :: Du P :: Dt P :: PN P :: Ds P :: Dr P :: Dq P :: PL P :: Dp P :: Dn P :: PK P :: Dl P :: Dk P :: Dj P :: PJ P :: Di P :: Dh P :: PB P :: Dg P :: Dd P :: Dc P :: Py P :: CZ P :: CV P :: Px P :: CT P :: CQ P :: CP P :: Pu P :: CK P :: CJ P :: Pr P :: CG P :: Cz P :: Cy P :: Pq P :: Pn P :: Cw P :: Cv P :: Cu P :: Pk P :: Cr P :: Cq P :: Pj P :: Cp P :: Cm P :: Ck P :: Ph P :: Cj P :: Ci P :: Pb P :: Cg P :: Ce P :: Cd P :: Pa P :: Ca P :: BZ P :: O9 P :: BX P :: BW P :: BR P :: BP P :: BL P :: BK P :: BJ P :: O8 P :: OJ P :: []⟩ }
def H1:Params→Heap:=fun P=>{ objs:=⟨YW P :: YS P :: Vx P :: Oz P :: XH P :: Xp P :: Xi P :: Xb P :: W4 P :: Iw P :: Io P :: KQ P :: YG P :: KN P :: KJ P :: Vc P :: YQ P :: Vb P :: Va P :: YM P :: U9 P :: U8 P :: U7 P :: YL P :: U6 P :: U5 P :: YK P :: U4 P :: U3 P :: U0 P :: YJ P :: YH P :: UW P :: UL P :: UJ P :: Yz P :: Yv P :: Yq P :: Ym P :: Yh P :: Yd P :: UG P :: Uz P :: Uy P :: Ux P :: Xz P :: Xy P :: Uw P :: Xx P :: Xw P :: Xv P :: Xu P :: Xr P :: Xq P :: Uv P :: Uu P :: Ut P :: Xo P :: Xn P :: Us P :: Xm P :: Xl P :: Xk P :: Xj P :: Xh P :: Xg P :: Ur P :: Uq P :: Uo P :: Xf P :: Xe P :: Um P :: Xd P :: Xc P :: Xa P :: W9 P :: W8 P :: W7 P :: Ul P :: Uk P :: Uj P :: W6 P :: W5 P :: Ui P :: W3 P :: W2 P :: W0 P :: WY P :: WX P :: WW P :: Uh P :: Ug P :: Ue P :: WR P :: Sw P :: Iu P :: Sv P :: Ss P :: Sq P :: Sg P :: Sd P :: R9 P :: Ir P :: Ip P :: Im P :: R8 P :: R7 P :: Il P :: R6 P :: R5 P :: R4 P :: R3 P :: R0 P :: RZ P :: Ik P :: Ij P :: Ii P :: RX P :: RW P :: Ih P :: RV P :: RT P :: RQ P :: RP P :: RN P :: RM P :: Ig P :: Ie P :: Ib P :: RK P :: RJ P :: Ia P :: RG P :: RD P :: RB P :: Rz P :: Ry P :: Rx P :: HY P :: HX P :: HW P :: Rw P :: Ru P :: HS P :: Rt P :: Rr P :: Rq P :: Rp P :: Ro P :: Rn P :: HN P :: HJ P :: HF P :: Rm P :: Rj P :: HD P :: Ri P :: HB P :: Hz P :: Rh P :: Hx P :: Hw P :: Hv P :: Rg P :: Rf P :: Hu P :: Ht P :: Hs P :: Rc P :: Hr P :: Hq P :: Rb P :: Ho P :: Hl P :: Hj P :: Ra P :: Hi P :: Hh P :: Q9 P :: Hg P :: Hf P :: G9 P :: Q8 P :: G8 P :: G7 P :: Q7 P :: G6 P :: G5 P :: G4 P :: Q6 P :: G3 P :: GZ P :: Q5 P :: GX P :: GR P :: GQ P :: Q0 P :: GP P :: GK P :: QZ P :: GJ P :: GF P :: GD P :: QX P :: GC P :: Gz P :: QW P :: Gy P :: Gx P :: Gw P :: QV P :: Gv P :: Gu P :: QT P :: Gs P :: Gq P :: Gp P :: QS P :: Gn P :: Gm P :: QM P :: Gk P :: Gj P :: Gi P :: QL P :: Gh P :: Gg P :: QK P :: Gf P :: Ge P :: Gd P :: QJ P :: Gb P :: Ga P :: QH P :: FZ P :: FW P :: FT P :: QG P :: QF P :: FQ P :: FP P :: FN P :: QD P :: FJ P :: Fz P :: QC P :: Fy P :: Fx P :: QB P :: Qz P :: Qy P :: Qx P :: Qw P :: Qv P :: Qu P :: Fw P :: Qt P :: Fv P :: Ft P :: Qs P :: Fq P :: Fp P :: Fo P :: Qq P :: Fj P :: Fi P :: Qp P :: Fg P :: Fe P :: Fd P :: Qo P :: Fb P :: EY P :: Qn P :: Ez P :: Ey P :: Ew P :: Qm P :: Eu P :: Et P :: Ql P :: Es P :: Er P :: Ep P :: Qk P :: Eo P :: En P :: Qj P :: Em P :: El P :: Ek P :: Qi P :: Ej P :: Ei P :: Qh P :: Eh P :: Ef P :: Ed P :: Ec P :: Qg P :: Eb P :: Ea P :: Qf P :: DY P :: DX P :: DW P :: Qe P :: DR P :: DQ P :: Qd P :: DP P :: DN P :: DK P :: Qc P :: DG P :: Dz P :: Qa P :: Dy P :: Dw P :: Dv P :: PX P :: Du P :: Dt P :: PN P :: Ds P :: Dr P :: Dq P :: PL P :: Dp P :: Dn P :: PK P :: Dl P :: Dk P :: Dj P :: PJ P :: Di P :: Dh P :: PB P :: Dg P :: Dd P :: Dc P :: Py P :: CZ P :: CV P :: Px P :: CT P :: CQ P :: CP P :: Pu P :: CK P :: CJ P :: Pr P :: CG P :: Cz P :: Cy P :: Pq P :: Pn P :: Cw P :: Cv P :: Cu P :: Pk P :: Cr P :: Cq P :: Pj P :: Cp P :: Cm P :: Ck P :: Ph P :: Cj P :: Ci P :: Pb P :: Cg P :: Ce P :: Cd P :: Pa P :: Ca P :: BZ P :: O9 P :: BX P :: BW P :: BR P :: BP P :: BL P :: BK P :: BJ P :: O8 P :: OJ P :: Ox P :: YF P :: Ov P :: Ou P :: YD P :: Ot P :: Oq P :: Oo P :: YC P :: Om P :: Ol P :: YB P :: Oj P :: Oi P :: Oh P :: Yy P :: Yx P :: Og P :: Oe P :: Od P :: Yw P :: Oc P :: Ob P :: Yu P :: Oa P :: N8 P :: N7 P :: Yt P :: Ys P :: N6 P :: N5 P :: NZ P :: Yr P :: Yp P :: NT P :: NQ P :: NP P :: Yo P :: NK P :: Nz P :: Yn P :: Ny P :: Nx P :: Nv P :: Yl P :: Yk P :: Nu P :: Nt P :: Nr P :: Yj P :: Nq P :: Np P :: Yi P :: Nm P :: Nk P :: Nj P :: Yg P :: Ni P :: Nh P :: Ye P :: Ng P :: Nf P :: Nb P :: Yc P :: M9 P :: M8 P :: Yb P :: M7 P :: M6 P :: M5 P :: X8 P :: X7 P :: M4 P :: MP P :: MN P :: X6 P :: X5 P :: MK P :: MJ P :: MF P :: X4 P :: Mz P :: Mx P :: X3 P :: Mw P :: Mu P :: Mt P :: XS P :: Ms P :: Mr P :: XR P :: Mq P :: Mp P :: Ml P :: XQ P :: Mj P :: Mi P :: XM P :: Mh P :: Mg P :: Mf P :: XJ P :: Ma P :: LR P :: XF P :: LQ P :: LK P :: LC P :: XD P :: XC P :: Lz P :: Ly P :: []⟩ }
def Kf:Params→PySem.W.Frag:=fun P=>(nat_lit 2,Vx P) ::
 (nat_lit 3,Oz P) ::
 (nat_lit 15,Vc P) ::
 (nat_lit 17,Vb P) ::
 (nat_lit 18,Va P) ::
 (nat_lit 20,U9 P) ::
 (nat_lit 21,U8 P) ::
 (nat_lit 22,U7 P) ::
 (nat_lit 24,U6 P) ::
 (nat_lit 25,U5 P) ::
 (nat_lit 27,U4 P) ::
 (nat_lit 28,U3 P) ::
 (nat_lit 29,U0 P) ::
 (nat_lit 32,UW P) ::
 (nat_lit 33,UL P) ::
 (nat_lit 34,UJ P) ::
 (nat_lit 41,UG P) ::
 (nat_lit 42,Uz P) ::
 (nat_lit 43,Uy P) ::
 (nat_lit 44,Ux P) ::
 (nat_lit 47,Uw P) ::
 (nat_lit 54,Uv P) ::
 (nat_lit 55,Uu P) ::
 (nat_lit 56,Ut P) ::
 (nat_lit 59,Us P) ::
 (nat_lit 66,Ur P) ::
 (nat_lit 67,Uq P) ::
 (nat_lit 68,Uo P) ::
 (nat_lit 71,Um P) ::
 (nat_lit 78,Ul P) ::
 (nat_lit 79,Uk P) ::
 (nat_lit 80,Uj P) ::
 (nat_lit 83,Ui P) ::
 (nat_lit 90,Uh P) ::
 (nat_lit 91,Ug P) ::
 (nat_lit 92,Ue P) ::
 (nat_lit 95,Iu P) ::
 (nat_lit 102,Ir P) ::
 (nat_lit 103,Ip P) ::
 (nat_lit 104,Im P) ::
 (nat_lit 107,Il P) ::
 (nat_lit 114,Ik P) ::
 (nat_lit 115,Ij P) ::
 (nat_lit 116,Ii P) ::
 (nat_lit 119,Ih P) ::
 (nat_lit 126,Ig P) ::
 (nat_lit 127,Ie P) ::
 (nat_lit 128,Ib P) ::
 (nat_lit 131,Ia P) ::
 (nat_lit 138,HY P) ::
 (nat_lit 139,HX P) ::
 (nat_lit 140,HW P) ::
 (nat_lit 143,HS P) ::
 (nat_lit 150,HN P) ::
 (nat_lit 151,HJ P) ::
 (nat_lit 152,HF P) ::
 (nat_lit 155,HD P) ::
 (nat_lit 157,HB P) ::
 (nat_lit 158,Hz P) ::
 (nat_lit 160,Hx P) ::
 (nat_lit 161,Hw P) ::
 (nat_lit 162,Hv P) ::
 (nat_lit 165,Hu P) ::
 (nat_lit 166,Ht P) ::
 (nat_lit 167,Hs P) ::
 (nat_lit 169,Hr P) ::
 (nat_lit 170,Hq P) ::
 (nat_lit 172,Ho P) ::
 (nat_lit 173,Hl P) ::
 (nat_lit 174,Hj P) ::
 (nat_lit 176,Hi P) ::
 (nat_lit 177,Hh P) ::
 (nat_lit 179,Hg P) ::
 (nat_lit 180,Hf P) ::
 (nat_lit 181,G9 P) ::
 (nat_lit 183,G8 P) ::
 (nat_lit 184,G7 P) ::
 (nat_lit 186,G6 P) ::
 (nat_lit 187,G5 P) ::
 (nat_lit 188,G4 P) ::
 (nat_lit 190,G3 P) ::
 (nat_lit 191,GZ P) ::
 (nat_lit 193,GX P) ::
 (nat_lit 194,GR P) ::
 (nat_lit 195,GQ P) ::
 (nat_lit 197,GP P) ::
 (nat_lit 198,GK P) ::
 (nat_lit 200,GJ P) ::
 (nat_lit 201,GF P) ::
 (nat_lit 202,GD P) ::
 (nat_lit 204,GC P) ::
 (nat_lit 205,Gz P) ::
 (nat_lit 207,Gy P) ::
 (nat_lit 208,Gx P) ::
 (nat_lit 209,Gw P) ::
 (nat_lit 211,Gv P) ::
 (nat_lit 212,Gu P) ::
 (nat_lit 214,Gs P) ::
 (nat_lit 215,Gq P) ::
 (nat_lit 216,Gp P) ::
 (nat_lit 218,Gn P) ::
 (nat_lit 219,Gm P) ::
 (nat_lit 221,Gk P) ::
 (nat_lit 222,Gj P) ::
 (nat_lit 223,Gi P) ::
 (nat_lit 225,Gh P) ::
 (nat_lit 226,Gg P) ::
 (nat_lit 228,Gf P) ::
 (nat_lit 229,Ge P) ::
 (nat_lit 230,Gd P) ::
 (nat_lit 232,Gb P) ::
 (nat_lit 233,Ga P) ::
 (nat_lit 235,FZ P) ::
 (nat_lit 236,FW P) ::
 (nat_lit 237,FT P) ::
 (nat_lit 240,FQ P) ::
 (nat_lit 241,FP P) ::
 (nat_lit 242,FN P) ::
 (nat_lit 244,FJ P) ::
 (nat_lit 245,Fz P) ::
 (nat_lit 247,Fy P) ::
 (nat_lit 248,Fx P) ::
 (nat_lit 256,Fw P) ::
 (nat_lit 258,Fv P) ::
 (nat_lit 259,Ft P) ::
 (nat_lit 261,Fq P) ::
 (nat_lit 262,Fp P) ::
 (nat_lit 263,Fo P) ::
 (nat_lit 265,Fj P) ::
 (nat_lit 266,Fi P) ::
 (nat_lit 268,Fg P) ::
 (nat_lit 269,Fe P) ::
 (nat_lit 270,Fd P) ::
 (nat_lit 272,Fb P) ::
 (nat_lit 273,EY P) ::
 (nat_lit 275,Ez P) ::
 (nat_lit 276,Ey P) ::
 (nat_lit 277,Ew P) ::
 (nat_lit 279,Eu P) ::
 (nat_lit 280,Et P) ::
 (nat_lit 282,Es P) ::
 (nat_lit 283,Er P) ::
 (nat_lit 284,Ep P) ::
 (nat_lit 286,Eo P) ::
 (nat_lit 287,En P) ::
 (nat_lit 289,Em P) ::
 (nat_lit 290,El P) ::
 (nat_lit 291,Ek P) ::
 (nat_lit 293,Ej P) ::
 (nat_lit 294,Ei P) ::
 (nat_lit 296,Eh P) ::
 (nat_lit 297,Ef P) ::
 (nat_lit 298,Ed P) ::
 (nat_lit 299,Ec P) ::
 (nat_lit 301,Eb P) ::
 (nat_lit 302,Ea P) ::
 (nat_lit 304,DY P) ::
 (nat_lit 305,DX P) ::
 (nat_lit 306,DW P) ::
 (nat_lit 308,DR P) ::
 (nat_lit 309,DQ P) ::
 (nat_lit 311,DP P) ::
 (nat_lit 312,DN P) ::
 (nat_lit 313,DK P) ::
 (nat_lit 315,DG P) ::
 (nat_lit 316,Dz P) ::
 (nat_lit 318,Dy P) ::
 (nat_lit 319,Dw P) ::
 (nat_lit 320,Dv P) ::
 (nat_lit 322,Du P) ::
 (nat_lit 323,Dt P) ::
 (nat_lit 325,Ds P) ::
 (nat_lit 326,Dr P) ::
 (nat_lit 327,Dq P) ::
 (nat_lit 329,Dp P) ::
 (nat_lit 330,Dn P) ::
 (nat_lit 332,Dl P) ::
 (nat_lit 333,Dk P) ::
 (nat_lit 334,Dj P) ::
 (nat_lit 336,Di P) ::
 (nat_lit 337,Dh P) ::
 (nat_lit 339,Dg P) ::
 (nat_lit 340,Dd P) ::
 (nat_lit 341,Dc P) ::
 (nat_lit 343,CZ P) ::
 (nat_lit 344,CV P) ::
 (nat_lit 346,CT P) ::
 (nat_lit 347,CQ P) ::
 (nat_lit 348,CP P) ::
 (nat_lit 350,CK P) ::
 (nat_lit 351,CJ P) ::
 (nat_lit 353,CG P) ::
 (nat_lit 354,Cz P) ::
 (nat_lit 355,Cy P) ::
 (nat_lit 358,Cw P) ::
 (nat_lit 359,Cv P) ::
 (nat_lit 360,Cu P) ::
 (nat_lit 362,Cr P) ::
 (nat_lit 363,Cq P) ::
 (nat_lit 365,Cp P) ::
 (nat_lit 366,Cm P) ::
 (nat_lit 367,Ck P) ::
 (nat_lit 369,Cj P) ::
 (nat_lit 370,Ci P) ::
 (nat_lit 372,Cg P) ::
 (nat_lit 373,Ce P) ::
 (nat_lit 374,Cd P) ::
 (nat_lit 376,Ca P) ::
 (nat_lit 377,BZ P) ::
 (nat_lit 379,BX P) ::
 (nat_lit 380,BW P) ::
 (nat_lit 381,BR P) ::
 (nat_lit 382,BP P) ::
 (nat_lit 383,BL P) ::
 (nat_lit 384,BK P) ::
 (nat_lit 385,BJ P) ::
 (nat_lit 388,Ox P) ::
 (nat_lit 390,Ov P) ::
 (nat_lit 391,Ou P) ::
 (nat_lit 393,Ot P) ::
 (nat_lit 394,Oq P) ::
 (nat_lit 395,Oo P) ::
 (nat_lit 397,Om P) ::
 (nat_lit 398,Ol P) ::
 (nat_lit 400,Oj P) ::
 (nat_lit 401,Oi P) ::
 (nat_lit 402,Oh P) ::
 (nat_lit 405,Og P) ::
 (nat_lit 406,Oe P) ::
 (nat_lit 407,Od P) ::
 (nat_lit 409,Oc P) ::
 (nat_lit 410,Ob P) ::
 (nat_lit 412,Oa P) ::
 (nat_lit 413,N8 P) ::
 (nat_lit 414,N7 P) ::
 (nat_lit 417,N6 P) ::
 (nat_lit 418,N5 P) ::
 (nat_lit 419,NZ P) ::
 (nat_lit 422,NT P) ::
 (nat_lit 423,NQ P) ::
 (nat_lit 424,NP P) ::
 (nat_lit 426,NK P) ::
 (nat_lit 427,Nz P) ::
 (nat_lit 429,Ny P) ::
 (nat_lit 430,Nx P) ::
 (nat_lit 431,Nv P) ::
 (nat_lit 434,Nu P) ::
 (nat_lit 435,Nt P) ::
 (nat_lit 436,Nr P) ::
 (nat_lit 438,Nq P) ::
 (nat_lit 439,Np P) ::
 (nat_lit 441,Nm P) ::
 (nat_lit 442,Nk P) ::
 (nat_lit 443,Nj P) ::
 (nat_lit 445,Ni P) ::
 (nat_lit 446,Nh P) ::
 (nat_lit 448,Ng P) ::
 (nat_lit 449,Nf P) ::
 (nat_lit 450,Nb P) ::
 (nat_lit 452,M9 P) ::
 (nat_lit 453,M8 P) ::
 (nat_lit 455,M7 P) ::
 (nat_lit 456,M6 P) ::
 (nat_lit 457,M5 P) ::
 (nat_lit 460,M4 P) ::
 (nat_lit 461,MP P) ::
 (nat_lit 462,MN P) ::
 (nat_lit 465,MK P) ::
 (nat_lit 466,MJ P) ::
 (nat_lit 467,MF P) ::
 (nat_lit 469,Mz P) ::
 (nat_lit 470,Mx P) ::
 (nat_lit 472,Mw P) ::
 (nat_lit 473,Mu P) ::
 (nat_lit 474,Mt P) ::
 (nat_lit 476,Ms P) ::
 (nat_lit 477,Mr P) ::
 (nat_lit 479,Mq P) ::
 (nat_lit 480,Mp P) ::
 (nat_lit 481,Ml P) ::
 (nat_lit 483,Mj P) ::
 (nat_lit 484,Mi P) ::
 (nat_lit 486,Mh P) ::
 (nat_lit 487,Mg P) ::
 (nat_lit 488,Mf P) ::
 (nat_lit 490,Ma P) ::
 (nat_lit 491,LR P) ::
 (nat_lit 493,LQ P) ::
 (nat_lit 494,LK P) ::
 (nat_lit 495,LC P) ::
 (nat_lit 498,Lz P) ::
 (nat_lit 499,Ly P) :: []
def asK:List Addr:=[2,3,15,17,18,20,21,22,24,25,27,28,29,32,33,34,41,42,43,44,47,54,55,56,59,66,67,68,71,78,79,80,83,90,91,92,95,102,103,104,107,114,115,116,119,126,127,128,131,138,139,140,143,150,151,152,155,157,158,160,161,162,165,166,167,169,170,172,173,174,176,177,179,180,181,183,184,186,187,188,190,191,193,194,195,197,198,200,201,202,204,205,207,208,209,211,212,214,215,216,218,219,221,222,223,225,226,228,229,230,232,233,235,236,237,240,241,242,244,245,247,248,256,258,259,261,262,263,265,266,268,269,270,272,273,275,276,277,279,280,282,283,284,286,287,289,290,291,293,294,296,297,298,299,301,302,304,305,306,308,309,311,312,313,315,316,318,319,320,322,323,325,326,327,329,330,332,333,334,336,337,339,340,341,343,344,346,347,348,350,351,353,354,355,358,359,360,362,363,365,366,367,369,370,372,373,374,376,377,379,380,381,382,383,384,385,388,390,391,393,394,395,397,398,400,401,402,405,406,407,409,410,412,413,414,417,418,419,422,423,424,426,427,429,430,431,434,435,436,438,439,441,442,443,445,446,448,449,450,452,453,455,456,457,460,461,462,465,466,467,469,470,472,473,474,476,477,479,480,481,483,484,486,487,488,490,491,493,494,495,498,499]
def tsK:List Addr:=[175,224]
theorem hkE:∀ P,asK=(Kf P).map (·.1):=fun _=>by kernel_rfl
def qv:Program:={ PySem.Challenge.pw_sluice_k58_whole_parted_changes_nobody with main:={ PySem.Challenge.pw_sluice_k58_whole_parted_changes_nobody.main with body:=[top0 61] } }
def xr:List Str:=("_wall":Str) :: ("MOST_WATER":Str) :: ("LONGEST_NAME":Str) :: ("LETTERS":Str) :: ("is_water":Str) :: ("is_name":Str) :: ("SluiceError":Str) :: ("NoRiver":Str) :: ("NoReach":Str) :: ("NoLicence":Str) :: ("NoNumber":Str) :: ("NoHolder":Str) :: ("NotYours":Str) :: ("NotAlone":Str) :: ("TooMuch":Str) :: ("Full":Str) :: ("MOST_REACHES":Str) :: ("MOUTH":Str) :: ("comes_to_mouth":Str) :: ("is_river":Str) :: ("way_of":Str) :: ("tops_first":Str) :: ("stretch_of":Str) :: ("LAST_DAY":Str) :: ("is_licence":Str) :: ("reaches_of":Str) :: ("day_filed":Str) :: ("most_of":Str) :: ("with_most":Str) :: ("ranked":Str) :: ("groups_of":Str) :: ("wants_of":Str) :: ("MOST_LICENCES":Str) :: ("look_at_name":Str) :: ("Roll":Str) :: ("natural_of":Str) :: ("count_ways":Str) :: ("whole_turns":Str) :: ("draw":Str) :: ("take_whole_turns":Str) :: ("take_one_turn":Str) :: ("deal_turns":Str) :: ("deal":Str) :: ("_law_cell_at":Str) :: ("_law_whole":Str) :: ("_law_draw":Str) :: ("_law_draws":Str) :: ("_law_river":Str) :: ("_law_way":Str) :: ("_law_amount":Str) :: ("_law_file":Str) :: ("_law_split":Str) :: []
end
theorem hp1:∀ w:World,(PySem.W.fencedOpening PySem.treeTable PySem.Challenge.rw_sluice_k58_whole_parted_changes_nobody.row.toRowW.prog w 8266).map (fun s=>(s.heap,s.gens,s.drawn,s.toks))=some (H0 w.params,#[],{},181):=by
  intro w;kernel_rfl
theorem hp2:∀ w:World,((H0 w.params).isNs mainGlobals && (#[]:Array GenState).size == 0,(H0 w.params).objs.size,(H0 w.params).nsMap mainGlobals "__annotations__")=(true,11,some (Value.ref 6)):=by
  intro w;kernel_rfl
def evT:Env:={ scope:=PySem.Challenge.rw_sluice_k58_whole_parted_changes_nobody.row.toRowW.prog.main.scope,locals:=mainNs,globals:=mainNs,cells:=[],code:=Value.ref 13,frame:=some 14 }
def cT:Code:=.body (PySem.W.behindTheImports PySem.Challenge.rw_sluice_k58_whole_parted_changes_nobody.row.toRowW.prog) evT
theorem hp3a:∀ (w:World) (os:OsState),PySem.W.topGo PySem.treeTable PySem.Challenge.rw_sluice_k58_whole_parted_changes_nobody.row.toRowW.prog w 11 (some (Value.ref 6)) 12 ⟨H0 w.params,#[],{},181,os⟩ (PySem.W.topStub PySem.Challenge.rw_sluice_k58_whole_parted_changes_nobody.row.toRowW.prog)=some (⟨Ha w.params,#[],{},187,os⟩,⟨denote PySem.treeTable cT,cT,({ line:=0,col:=0,endLine:=0,endCol:=0 }:Pos),[PySem.W.topFrame ({ line:=0,col:=0,endLine:=0,endCol:=0 }:Pos)]⟩):=by
  intro w os;kernel_rfl
theorem hp3b:∀ (w:World) (os:OsState),PySem.W.segRun PySem.treeTable PySem.Challenge.rw_sluice_k58_whole_parted_changes_nobody.row.toRowW.prog w 11 (some (Value.ref 6)) 1 20 ⟨Ha w.params,#[],{},187,os⟩ (PySem.W.blockOf (PySem.W.behindTheImports PySem.Challenge.rw_sluice_k58_whole_parted_changes_nobody.row.toRowW.prog) evT cT ({ line:=0,col:=0,endLine:=0,endCol:=0 }:Pos) [PySem.W.topFrame ({ line:=0,col:=0,endLine:=0,endCol:=0 }:Pos)])=some (.next,⟨Hb w.params,#[],{},187,os⟩,cT,({ line:=0,col:=0,endLine:=0,endCol:=0 }:Pos)):=by
  intro w os;kernel_rfl
theorem hp3c:∀ (w:World) (os:OsState),PySem.W.segRun PySem.treeTable PySem.Challenge.rw_sluice_k58_whole_parted_changes_nobody.row.toRowW.prog w 11 (some (Value.ref 6)) 1 3701 ⟨Hb w.params,#[],{},187,os⟩ (PySem.W.piecesOf ((PySem.W.behindTheImports PySem.Challenge.rw_sluice_k58_whole_parted_changes_nobody.row.toRowW.prog).take 40) evT cT ({ line:=0,col:=0,endLine:=0,endCol:=0 }:Pos) [PySem.W.topFrame ({ line:=0,col:=0,endLine:=0,endCol:=0 }:Pos)])=some (.next,⟨Hm w.params,#[],{},691,os⟩,cT,({ line:=93,col:=0,endLine:=181,endCol:=67 }:Pos)):=by
  intro w os;kernel_rfl
theorem hp3d:∀ (w:World) (os:OsState),PySem.W.topRun PySem.treeTable PySem.Challenge.rw_sluice_k58_whole_parted_changes_nobody.row.toRowW.prog w 11 (some (Value.ref 6)) 769 ⟨Hm w.params,#[],{},691,os⟩ (PySem.W.restOf ((PySem.W.behindTheImports PySem.Challenge.rw_sluice_k58_whole_parted_changes_nobody.row.toRowW.prog).drop 40) evT cT ({ line:=93,col:=0,endLine:=181,endCol:=67 }:Pos) [PySem.W.topFrame ({ line:=0,col:=0,endLine:=0,endCol:=0 }:Pos)])=some ⟨H1 w.params,#[],{},850,os⟩:=by
  intro w os;kernel_rfl
theorem hp3:∀ (w:World) (os:OsState),PySem.W.topRun PySem.treeTable PySem.Challenge.rw_sluice_k58_whole_parted_changes_nobody.row.toRowW.prog w 11 (some (Value.ref 6)) (12 + (20 + (3701 + 769))) ⟨H0 w.params,#[],{},181,os⟩ (PySem.W.topStub PySem.Challenge.rw_sluice_k58_whole_parted_changes_nobody.row.toRowW.prog)=some ⟨H1 w.params,#[],{},850,os⟩:=fun w os=>PySem.W.go_top (hp3a w os) (PySem.W.piece_block (hp3b w os) (by
  have h:=PySem.W.piece_app (hp3c w os) (hp3d w os)
  rwa [List.take_append_drop] at h))
theorem hp4:∀ w:World,(fun os=>((PySem.W.staticsOk (importedModules PySem.Challenge.rw_sluice_k58_whole_parted_changes_nobody.row.toRowW.prog.main.body) (H0 w.params) (H1 w.params) && PySem.W.namesBound PySem.Challenge.rw_sluice_k58_whole_parted_changes_nobody.row.toRowW.prog (H1 w.params) && PySem.W.gensDone ⟨H1 w.params,#[],{},850,os⟩ && PySem.W.laidKept (H0 w.params) (H1 w.params)),PySem.W.openSeen qv xr (importedModules PySem.Challenge.rw_sluice_k58_whole_parted_changes_nobody.row.toRowW.prog.main.body) (fun s=>PySem.W.xlAt My.qv [] s && PySem.W.recOk (PySem.W.RowW.records PySem.Challenge.rw_sluice_k58_whole_parted_changes_nobody.row.toRowW) s) true ⟨H1 w.params,#[],{},850,os⟩,(PySem.W.Hook.obs (PySem.W.kmHook My.Kf My.asK My.hkE My.tsK)) ⟨H1 w.params,#[],{},850,os⟩))=fun _=>(true,PySem.W.openGood qv xr,(PySem.W.Hook.val (PySem.W.kmHook My.Kf My.asK My.hkE My.tsK)) w):=by
  intro w;kernel_rfl
theorem hlE:PySem.W.LeftO PySem.Challenge.rw_sluice_k58_whole_parted_changes_nobody.row.toRowW.prog qv My.xr (fun s=>PySem.W.xlAt My.qv [] s && PySem.W.recOk (PySem.W.RowW.records PySem.Challenge.rw_sluice_k58_whole_parted_changes_nobody.row.toRowW) s) (PySem.W.Hook.obs (PySem.W.kmHook My.Kf My.asK My.hkE My.tsK)) (PySem.W.Hook.val (PySem.W.kmHook My.Kf My.asK My.hkE My.tsK)) 8266:=PySem.W.LeftO.of_pieces hp1 hp2 hp3 (by decide) hp4
end My
namespace L2
open PySem PySem.Spec PyProof.Rows
abbrev Key:=Sum Int Str
def yF:Key→Value→Bool
  | .inl k,v=>Value.isInt k v
  | .inr x,v=>Value.isStrOf x v
def keyH (w:World):Key→Int
  | .inl k=>hashInt k
  | .inr x=>hashStr w x
theorem dB:∀ {k:Key} {v:Value},yF k v=true→(∃ i t,k=Sum.inl i∧v=Value.int i t)∨(∃ x t,k=Sum.inr x∧v=Value.str x t)
  | .inl i,v,h=>by
    obtain ⟨t,e⟩:=Value.isInt_shape (k:=i) (v:=v) h
    exact .inl ⟨i,t,rfl,e⟩
  | .inr x,v,h=>by
    obtain ⟨t,e⟩:=Value.isStrOf_shape (x:=x) (v:=v) h
    exact .inr ⟨x,t,rfl,e⟩
theorem Br (i:Int) (t:Tok):yF (.inl i) (.int i t)=true:=by simp [yF,Value.isInt]
theorem Bq (x:Str) (t:Tok):yF (.inr x) (.str x t)=true:=by simp [yF,Value.isStrOf]
theorem Ww (a b:Int):decide ((Sum.inl a:Key)=Sum.inl b)=(a == b):=by
  by_cases e:a=b
  · subst e;simp
  · have h:¬ (Sum.inl a:Key)=Sum.inl b:=fun q=>e (Sum.inl.inj q)
    rw [decide_eq_false h]
    exact (beq_eq_false_iff_ne.mpr e).symm
theorem Ws (a b:Str):decide ((Sum.inr a:Key)=Sum.inr b)=decide (a=b):=by
  by_cases e:a=b
  · subst e;simp
  · have h:¬ (Sum.inr a:Key)=Sum.inr b:=fun q=>e (Sum.inr.inj q)
    rw [decide_eq_false h,decide_eq_false e]
theorem Wv (a:Int) (b:Str):decide ((Sum.inl a:Key)=Sum.inr b)=false:=decide_eq_false (fun q=>nomatch q)
theorem Wt (a:Str) (b:Int):decide ((Sum.inr a:Key)=Sum.inl b)=false:=decide_eq_false (fun q=>nomatch q)
def eN (prog:Program) (w:World):PySem.KeyKind prog w Key where
  is:=yF
  hash:=keyH w
  inj:=fun v a b ha hb=>by
    rcases dB ha with ⟨i,t,rfl,rfl⟩ | ⟨x,t,rfl,rfl⟩
    · rcases dB hb with ⟨j,u,rfl,e⟩ | ⟨y,u,rfl,e⟩
      · injection e with e1 _;rw [e1]
      · exact nomatch e
    · rcases dB hb with ⟨j,u,rfl,e⟩ | ⟨y,u,rfl,e⟩
      · exact nomatch e
      · injection e with e1 _;rw [e1]
  byValue:=fun k v h=>by
    rcases dB h with ⟨i,t,rfl,rfl⟩ | ⟨x,t,rfl,rfl⟩ <;> rfl
  pyHash:=fun hv h=>by
    rcases dB hv with ⟨i,t,rfl,rfl⟩ | ⟨x,t,rfl,rfl⟩
    · exact wpAny_pyHash_int h
    · exact wpAny_pyHash_str h
  eqBool:=fun hu hv h=>by
    rcases dB hu with ⟨i,t,rfl,rfl⟩ | ⟨x,t,rfl,rfl⟩
    · rcases dB hv with ⟨j,u,rfl,rfl⟩ | ⟨y,u,rfl,rfl⟩
      · rw [Ww] at h;exact wpAny_eqBool_int h
      · rw [Wv] at h;exact SeqAt.EqAt.int_str i t y u _ _ _ _ h
    · rcases dB hv with ⟨j,u,rfl,rfl⟩ | ⟨y,u,rfl,rfl⟩
      · rw [Wt] at h;exact SeqAt.EqAt.str_int x t j u _ _ _ _ h
      · rw [Ws] at h;exact wpAny_eqBool_str h
  «strs»:=fun k x t v h=>by
    rcases dB h with ⟨i,u,rfl,e⟩ | ⟨y,u,rfl,e⟩
    · exact nomatch e
    · injection e with e1 _
      subst e1
      cases v <;> rfl
theorem vL (prog:Program) (w:World) (i:Int) (t:Tok):(eN prog w).is (.inl i) (.int i t)=true:=Br i t
theorem vK (prog:Program) (w:World) (x:Str) (t:Tok):(eN prog w).is (.inr x) (.str x t)=true:=Bq x t
end L2
namespace L2
open PySem PySem.Spec PyProof.Rows
inductive V where
  | non | bl (b:Bool) | int (i:Int) | str (x:Str) | byt (b:Array UInt8) | flt (b:UInt64) | ref (a:Addr) | ty (n:String)
  deriving DecidableEq
def RelV:V→Value→Prop
  | .non,u=>u=Value.none
  | .bl b,u=>u=Value.bool b
  | .int i,u=>∃ t,u=Value.int i t
  | .str x,u=>∃ t,u=Value.str x t
  | .byt b,u=>∃ t,u=Value.bytes b t
  | .flt b,u=>∃ t,u=Value.float b t
  | .ref a,u=>u=Value.ref a
  | .ty n,u=>u=Value.type n
abbrev Vals:List V→List Value→Prop:=Paired RelV
theorem Vals.length {xs:List V} {us:List Value} (r:Vals xs us):xs.length=us.length:=Paired.length r
theorem Vals.get:∀ {xs:List V} {us:List Value} {i:Nat} {x:V},Vals xs us→xs[i]?=some x→∃ u,us[i]?=some u∧RelV x u
  | _,_,_,_,.nil,e=>by simp at e
  | _,_,0,_,.cons r _,e=>by simp at e;subst e;exact ⟨_,rfl,r⟩
  | _,_,i + 1,x,.cons _ t,e=>by
    obtain ⟨u,h1,h2⟩:=Vals.get (i:=i) (x:=x) t (by simpa using e)
    exact ⟨u,by simpa using h1,h2⟩
theorem Vals.set {x:V} {u:Value} (r:RelV x u):∀ {xs:List V} {us:List Value} (i:Nat),Vals xs us→Vals (xs.set i x) (us.set i u)
  | _,_,_,.nil=>.nil
  | _,_,0,.cons _ t=>.cons r t
  | _,_,i + 1,.cons q t=>.cons q (Vals.set r i t)
theorem Vals.append:∀ {xs ys:List V} {us ws:List Value},Vals xs us→Vals ys ws→Vals (xs++ys) (us++ws)
  | _,_,_,_,.nil,s=>s
  | _,_,_,_,.cons r t,s=>.cons r (Vals.append t s)
theorem Vals.take:∀ {xs:List V} {us:List Value} (n:Nat),Vals xs us→Vals (xs.take n) (us.take n)
  | _,_,0,_=>.nil
  | _,_,_ + 1,.nil=>.nil
  | _,_,n + 1,.cons r t=>.cons r (Vals.take n t)
theorem Vals.drop:∀ {xs:List V} {us:List Value} (n:Nat),Vals xs us→Vals (xs.drop n) (us.drop n)
  | _,_,0,r=>r
  | _,_,_ + 1,.nil=>.nil
  | _,_,n + 1,.cons _ t=>Vals.drop n t
def Jt:Option V→Option Value→Prop
  | some v,some u=>RelV v u
  | none,none=>True
  | _,_=>False
def KV {κ:Type}:List (κ × V)→List (κ × Value)→Prop:=Paired fun (p:κ × V) (q:κ × Value)=>p.1=q.1∧RelV p.2 q.2
def kV:Key→V
  | .inl i=>.int i
  | .inr x=>.str x
inductive HO where
  /-- a list -/
  | lst (xs:List V)
  /-- a tuple (never changes) -/
  | tup (xs:List V)
  /-- a dict whose keys are ints and texts; one whose keys are tuples of ints and texts (the empty one is both) -/
  | dK (kvs:List (Key × V)) | dT (kvs:List (List Key × V))
  /-- a set of ints: its members, its size -/
  | set (S:Int→Bool) (n:Nat)
  /-- an instance of the class at C, its dict at dx, its attributes -/
  | ins (C dx:Addr) (fs:List (Str × V))
  /-- the dict of the instance at x -/
  | own (x:Addr)
  /-- the dict of an exception -/
  | xd (fs:List (Str × V))
  /-- a bound method, f of x -/
  | met (f x:Addr)
  /-- a range object lo, lo + 1, .. below hi -/
  | rng (lo hi:Int)
  /-- a thing that is known to the object (the script; a dict while a loop walks it): read, never written while it is so -/
  | frz (o:Obj) (u:HO)
  /-- a code object's table -/
  | tbl (ps:Array Value)
  /-- any other thing, by what is true of its one object (a def of one's own: SetO a S n := HO.ext fun h => ..) -/
  | ext (φ:Heap→Prop)
abbrev Hp:=Addr→Option HO
def upd (H:Hp) (a:Addr) (o:HO):Hp:=fun b=>if b=a then some o else H b
theorem bf {H:Hp} {a:Addr} {o:HO}:upd H a o a=some o:=by unfold upd;rw [if_pos rfl]
theorem aN {H:Hp} {a b:Addr} {o:HO} (h:b≠a):upd H a o b=H b:=by unfold upd;rw [if_neg h]
theorem bO {H:Hp} {a b:Addr} {o:HO} (h:H a=some o) (h':H b=none):a≠b:=by
  intro e;subst e;rw [h] at h';cases h'
section
variable (P:Program) (w:World)
def eO (H:Hp) (h:Heap) (a:Addr):HO→Prop
  | .lst xs=>xs.length≤sizeLine∧∃ (its:List Value) (n:Nat),Vals xs its∧h.get? a=some { cls:=.type "list",data:=.seq its.toArray n }
  | .tup xs=>xs.length≤sizeLine∧∃ its:List Value,Vals xs its∧IsTup h a its.toArray
  | .dK kvs=>kvs.length≤sizeLine∧(a == sysModules)=false∧∃ vs,KV kvs vs∧h.DictOf (eN P w) a vs
  | .dT kvs=>kvs.length≤sizeLine∧(a == sysModules)=false∧∃ xs:List (List Key × Addr × Value),
      Paired (fun (p:List Key × V) (q:List Key × Addr × Value)=>p.1=q.1∧H q.2.1=some (.tup (p.1.map kV))∧RelV p.2 q.2.2) kvs xs ∧
      ∃ o es ep,h.get? a=some o∧o.ExactDict∧o.data=.dict es ep∧es.toList=xs.map (entryOfKey (tupleKind (eN P w)))∧(xs.map (·.1)).Nodup
  | .set S n=>h.SetOf (intKind P w) a S n
  | .ins C dx fs=>H dx=some (.own a)∧fs.length≤1000∧dx≠a∧h.get? a=some (PySem.W.instObj C dx) ∧
      ∃ mA,h.Ns1 dx mA∧(∀ f,Jt (fs.lookup f) (mA f))∧PySem.Within mA (fs.map (·.1))
  | .own _=>∃ o,h.get? a=some o
  | .xd fs=>∃ mA,h.Ns1 a mA∧∀ f,Jt (fs.lookup f) (mA f)
  | .rng lo hi=>∃ t u v,h.get? a=some { cls:=.type "range",data:=.fields #[.int lo t,.int hi u,.int 1 v] }
  | .frz o u=>h.get? a=some o∧eO H h a u
  | .tbl ps=>h.get? a=some { cls:=.none,data:=.fields ps }
  | .met f x=>h.get? a=some (PySem.W.methodObj (.ref f) (.ref x))
  | .ext φ=>φ h∧(∃ o,h.get? a=some o)∧∀ h1 h2:Heap,φ h1→(∀ o,h1.get? a=some o→h2.get? a=some o)→φ h2
def HOk (H:Hp) (h:Heap):Prop:=∀ a o,H a=some o→eO P w H h a o
end
section
variable {P:Program} {w:World} {H H':Hp} {h h':Heap} {a:Addr} {o:HO}
theorem eO.lt (x:eO P w H h a o):a<h.objs.size:=by
  cases o with
  | lst xs=>obtain ⟨_,_,_,_,e⟩:=x;exact Heap.lt_size e
  | tup xs=>obtain ⟨_,_,_,p⟩:=x;exact p.lt
  | dK kvs=>obtain ⟨_,_,_,_,o,_,_,e,_⟩:=x;exact Heap.lt_size e
  | dT kvs=>obtain ⟨_,_,_,_,o,_,_,e,_⟩:=x;exact Heap.lt_size e
  | set S n=>obtain ⟨o,_,_,_,e,_⟩:=x;exact Heap.lt_size e
  | ins C dx fs=>obtain ⟨_,_,_,e,_⟩:=x;exact Heap.lt_size e
  | own y=>obtain ⟨_,e⟩:=x;exact Heap.lt_size e
  | xd fs=>obtain ⟨_,⟨_,_,_,e,_⟩,_⟩:=x;exact Heap.lt_size e
  | rng lo hi=>obtain ⟨_,_,_,e⟩:=x;exact Heap.lt_size e
  | frz ob u=>obtain ⟨e,_⟩:=x;exact Heap.lt_size e
  | tbl ps=>exact Heap.lt_size (show h.get? a=some _ from x)
  | met f y=>exact Heap.lt_size (show h.get? a=some _ from x)
  | ext φ=>obtain ⟨_,⟨_,e⟩,_⟩:=x;exact Heap.lt_size e
theorem Paired.aam {α β:Type} {F G:α→β→Prop}:∀ {l₁:List α} {l₂:List β},Paired F l₁ l₂→(∀ a b,F a b→G a b)→Paired G l₁ l₂
  | _,_,.nil,_=>.nil
  | _,_,.cons r t,f=>.cons (f _ _ r) (Paired.aam t f)
theorem eO.stay (x:eO P w H h a o) (k:∀ b u,(b=a∨H b=some (.own a))→h.get? b=some u→h'.get? b=some u)
    (ho:∀ b,H b=some (.own a)→H' b=some (.own a)) (ht:∀ b xs,H b=some (.tup xs)→H' b=some (.tup xs)):eO P w H' h' a o:=by
  induction o with
  | lst xs=>obtain ⟨z,its,n,r,e⟩:=x;exact ⟨z,its,n,r,k _ _ (.inl rfl) e⟩
  | tup xs=>obtain ⟨z,its,r,ob,e,c⟩:=x;exact ⟨z,its,r,ob,k _ _ (.inl rfl) e,c⟩
  | dK kvs=>obtain ⟨z,y,vs,r,ob,es,ep,e,c⟩:=x;exact ⟨z,y,vs,r,ob,es,ep,k _ _ (.inl rfl) e,c⟩
  | dT kvs =>
    obtain ⟨z,y,xs,r,ob,es,ep,e,c⟩:=x
    exact ⟨z,y,xs,Paired.aam r fun p q z=>⟨z.1,ht _ _ z.2.1,z.2.2⟩,ob,es,ep,k _ _ (.inl rfl) e,c⟩
  | set S n=>obtain ⟨ob,es,ep,t,e,c⟩:=x;exact ⟨ob,es,ep,t,k _ _ (.inl rfl) e,c⟩
  | ins C dx fs =>
    obtain ⟨d,z,ne,e,mA,⟨od,es,ep,e2,c⟩,r⟩:=x
    exact ⟨ho _ d,z,ne,k _ _ (.inl rfl) e,mA,⟨od,es,ep,k _ _ (.inr d) e2,c⟩,r⟩
  | own y=>obtain ⟨ob,e⟩:=x;exact ⟨ob,k _ _ (.inl rfl) e⟩
  | xd fs=>obtain ⟨mA,⟨od,es,ep,e,c⟩,r⟩:=x;exact ⟨mA,⟨od,es,ep,k _ _ (.inl rfl) e,c⟩,r⟩
  | rng lo hi=>obtain ⟨t,u,v,e⟩:=x;exact ⟨t,u,v,k _ _ (.inl rfl) e⟩
  | frz ob u ih=>obtain ⟨e,q⟩:=x;exact ⟨k _ _ (.inl rfl) e,ih q⟩
  | tbl ps =>
    have e:h.get? a=some { cls:=.none,data:=.fields ps }:=x
    show h'.get? a=some { cls:=.none,data:=.fields ps }
    exact k a _ (.inl rfl) e
  | met f y =>
    have e:h.get? a=some (PySem.W.methodObj (.ref f) (.ref y)):=x
    show h'.get? a=some (PySem.W.methodObj (.ref f) (.ref y))
    exact k a _ (.inl rfl) e
  | ext φ=>obtain ⟨p,⟨o,e⟩,st⟩:=x;exact ⟨st _ _ p fun o q=>k _ _ (.inl rfl) q,⟨o,k _ _ (.inl rfl) e⟩,st⟩
theorem HOk.lt (x:HOk P w H h) (e:H a=some o):a<h.objs.size:=(x a o e).lt
theorem HOk.fresh (x:HOk P w H h) (e:h.objs.size≤a):H a=none:=by
  cases q:H a with
  | none=>rfl
  | some u=>exact absurd (Nat.lt_of_lt_of_le (x.lt q) e) (Nat.lt_irrefl _)
theorem HOk.kept (x:HOk P w H h) (k:∀ b u,h.get? b=some u→h'.get? b=some u):HOk P w H h':=fun a o e =>
  (x a o e).stay (fun b u _ q=>k b u q) (fun _ q=>q) fun _ _ q=>q
theorem HOk.laid (x:HOk P w H h) (k:∀ b u,h.get? b=some u→h'.get? b=some u) (hp:h.objs.size≤a) (new:eO P w (upd H a o) h' a o):HOk P w (upd H a o) h':=fun b u e=>by
  have hn:=x.fresh hp
  by_cases hb:b=a
  · subst hb;rw [bf] at e;cases e;exact new
  · rw [aN hb] at e
    exact (x b u e).stay (fun c v _ q=>k c v q) (fun c q=>by rw [aN (bO q hn)];exact q) fun c xs q=>by rw [aN (bO q hn)];exact q
end
def Rd (H:Hp) (a:Addr) (u:HO):Prop:=H a=some u∨∃ o,H a=some (.frz o u)
theorem Rd.ok {P:Program} {w:World} {H:Hp} {h:Heap} {a:Addr} {u:HO} (r:Rd H a u) (x:HOk P w H h):eO P w H h a u:=by
  rcases r with r | ⟨o,r⟩
  · exact x a u r
  · obtain ⟨_,q⟩:=x a _ r
    exact q
def Mut:Option HO→Prop
  | some (.lst _)=>True
  | some (.dK _)=>True
  | some (.dT _)=>True
  | some (.set _ _)=>True
  | some (.ins _ _ _)=>True
  | some (.ext _)=>True
  | _=>False
section
variable {P:Program} {w:World} {H:Hp} {h h':Heap} {x e:Addr} {o':HO}
theorem HOk.write (ok:HOk P w H h) (mu:Mut (H x)) (he:e=x∨H e=some (.own x)) (k:∀ b u,b≠e→h.get? b=some u→h'.get? b=some u) (heo:∃ u,h'.get? e=some u)
    (new:eO P w (upd H x o') h' x o'):HOk P w (upd H x o') h':=fun b u q=>by
  have nown:∀ c y,H c=some (.own y)→c≠x:=fun c y r z=>by subst z;rw [r] at mu;exact mu
  have ntup:∀ c xs,H c=some (.tup xs)→c≠x:=fun c xs r z=>by subst z;rw [r] at mu;exact mu
  by_cases hb:b=x
  · subst hb;rw [bf] at q;cases q;exact new
  · rw [aN hb] at q
    by_cases hbe:b=e
    · have q':H b=some (.own x):=by
        rcases he with z | z
        · exact absurd (hbe.trans z) hb
        · rw [hbe];exact z
      rw [q] at q';cases q'
      obtain ⟨v,hv⟩:=heo
      exact ⟨v,by rw [hbe];exact hv⟩
    · refine (ok b u q).stay (fun c v hc r=>k c v ?_ r) (fun c r=>by rw [aN (nown c b r)];exact r) fun c xs r=>by rw [aN (ntup c xs r)];exact r
      rcases hc with rfl | hc
      · exact hbe
      · rintro rfl
        rcases he with z | z
        · exact nown c b hc z
        · rw [hc] at z;cases z;exact hb rfl
end
structure Un (fs ex:List Addr) (H H':Hp) (h h':Heap):Prop where
  keep:∀ b o,h.get? b=some o→H b=none→b ∉ fs→b ∉ ex→h'.get? b=some o
  slot:∀ b o,h.get? b=some o→H b=none→b∈fs→b ∉ ex→∃ sl,h'.get? b=some { o with slots:=sl }
  free:∀ b o,h.get? b=some o→H b=none→b ∉ ex→H' b=none
  there:∀ b o,h.get? b=some o→b ∉ ex→∃ o',h'.get? b=some o'
  tups:∀ b xs,H b=some (.tup xs)→H' b=some (.tup xs)
  frzs:∀ b o u,H b=some (.frz o u)→H' b=some (.frz o u)
  tbls:∀ b ps,H b=some (.tbl ps)→∃ more,H' b=some (.tbl (ps++more))
section
variable {fs fs' ex ex':List Addr} {H H1 H2:Hp} {h h1 h2 h':Heap} {a x e:Addr} {o:HO}
theorem Un.any (u:Un fs ex H H1 h h1) {b:Addr} {ob:Obj} (q:h.get? b=some ob) (n:H b=none) (hx:b ∉ ex):∃ sl,h1.get? b=some { ob with slots:=sl }:=by
  by_cases hb:b∈fs
  · exact u.slot b ob q n hb hx
  · exact ⟨ob.slots,u.keep b ob q n hb hx⟩
theorem Un.kept (k:∀ b u,h.get? b=some u→h'.get? b=some u):Un fs ex H H h h' :=
  ⟨fun b ob q _ _ _=>k b ob q,fun b ob q _ _ _=>⟨ob.slots,k b ob q⟩,fun _ _ _ n _=>n,fun b ob q _=>⟨ob,k b ob q⟩,fun _ _ q=>q,fun _ _ _ q=>q,fun _ ps q=>⟨#[],by rw [q];simp⟩⟩
theorem Un.refl:Un fs ex H H h h:=Un.kept fun _ _ q=>q
theorem Un.laid (k:∀ b u,h.get? b=some u→h'.get? b=some u) (hp:h.objs.size≤a) (hn:H a=none):Un fs ex H (upd H a o) h h' where
  keep:=fun b u q _ _ _=>k b u q
  slot:=fun b u q _ _ _=>⟨u.slots,k b u q⟩
  free:=fun b u q n _=>by rw [aN (Nat.ne_of_lt (Nat.lt_of_lt_of_le (Heap.lt_size q) hp))];exact n
  there:=fun b u q _=>⟨u,k b u q⟩
  tups:=fun b xs q=>by rw [aN (bO q hn)];exact q
  frzs:=fun b u xs q=>by rw [aN (bO q hn)];exact q
  tbls:=fun b ps q=>⟨#[],by rw [aN (bO q hn),q];simp⟩
theorem Un.write (mu:Mut (H x)) (he:e=x∨H e=some (.own x)) (k:∀ b u,b≠e→h.get? b=some u→h'.get? b=some u) (heo:∃ u,h'.get? e=some u):Un fs ex H (upd H x o) h h':=by
  have hx:∀ b,H b=none→b≠x:=fun b n z=>by subst z;rw [n] at mu;exact mu
  have hb:∀ b,H b=none→b≠e:=fun b n z=>by
    subst z
    rcases he with r | r
    · exact hx b n r
    · rw [n] at r;cases r
  have hm:∀ b u,H b=some u→¬ Mut (some u)→b≠x:=fun b u q nm z=>by subst z;rw [q] at mu;exact nm mu
  refine ⟨fun b u q n _ _=>k b u (hb b n) q,fun b u q n _ _=>⟨u.slots,k b u (hb b n) q⟩,fun b u q n _=>by rw [aN (hx b n)];exact n,fun b u q _=>?_,
    fun b xs q=>by rw [aN (hm b _ q fun z=>z)];exact q,fun b u xs q=>by rw [aN (hm b _ q fun z=>z)];exact q,fun b ps q=>⟨#[],by rw [aN (hm b _ q fun z=>z),q];simp⟩⟩
  by_cases hbe:b=e
  · subst hbe;exact heo
  · exact ⟨u,k b u hbe q⟩
end
def trk (h:Heap) (H:Hp):List Addr:=(List.range h.objs.size).filter fun a=>(H a).isSome
def Jy (h:Heap) (H:Hp):Heap:=PySem.W.hideAll h (trk h H)
theorem Iz (h:Heap) (H:Hp):(Jy h H).objs.size=h.objs.size:=PySem.W.hideAll_size _ _
theorem KR {h:Heap} {H:Hp} {b:Addr} {o:Obj} (e:h.get? b=some o) (n:H b=none):(Jy h H).get? b=some o :=
  PySem.W.hideAll_get _ e fun hm=>by
    have q:(H b).isSome=true:=(List.mem_filter.mp hm).2
    rw [n] at q;simp at q
theorem T3 {h:Heap} {H:Hp} {b:Addr} {o:Obj} (e:(Jy h H).get? b=some o):h.get? b=some o∧H b=none:=by
  have e':h.get? b=some o:=PySem.W.of_hideAll (trk h H) e
  refine ⟨e',?_⟩
  cases q:H b with
  | none=>rfl
  | some x =>
    have hm:b∈trk h H:=List.mem_filter.mpr ⟨List.mem_range.mpr (Heap.lt_size e'),by simp [q]⟩
    have z:(Jy h H).get? b=none:=PySem.W.hideAll_none (trk h H) hm
    rw [z] at e;cases e
end L2
namespace L2
open PySem PySem.Spec PyProof.Rows
structure Mod (K:PySem.W.Frag) (mg:Str→Option Value) (base:Heap):Prop where
  kin:K.In base
  glob:base.Ns mainGlobals mg
  blt:∃ mb,base.Ns builtinsNs mb∧∀ x:Str,x≠"__name__"→mb x=bootBuiltins x
  nolimit:base.NoLimit
structure Cx where
  prog:Program
  w:World
  K:PySem.W.Frag
  mg:Str→Option Value
  base:Heap
  A:Around
  N:List Str
  s₀:Shared
  H₀:Hp
  env:Env
  outer:List Env
  stack:List Env
  ex:List Addr
  fn:Str→Bool
  calm:Bool
  pn:List (Addr × Obj)
  xe:Value→Shared→Prop
def frs (l:List Env):List Addr:=l.filterMap (·.frame)
abbrev Cx.fs (X:Cx):List Addr:=frs X.outer
def Vis (sc:Scope) (x:Str):Prop:=sc.names.lookup x=some .local∨sc.names.lookup x=some .cell∨sc.names.lookup x=some .free
def Loc (sc:Scope) (x:Str):Prop:=sc.names.lookup x=some .local∨sc.names.lookup x=some .cell
def Look (env:Env) (h:Heap) (m:Str→Option Value) (x:Str) (u:Value):Prop :=
  (env.kindOf x=some .local∧m x=some u)∨((env.kindOf x=some .cell∨env.kindOf x=some .free)∧∃ c,env.cells.lookup x=some c∧h.IsCell c (some u))
structure Cx.Ok (X:Cx):Prop where
  mod:Mod X.K X.mg X.base
  kind:X.env.scope.kind=.function
  glob:X.env.globals=mainGlobals
  blt:X.env.builtins=builtinsNs
  above:X.s₀.heap.objs.size≤X.env.locals
  inj:∀ x y c,X.env.cells.lookup x=some c→X.env.cells.lookup y=some c→x=y
  has:∀ x,(X.env.kindOf x=some .cell∨X.env.kindOf x=some .free)→∃ c,X.env.cells.lookup x=some c
  cab:∀ x c,X.fn x=true→X.env.cells.lookup x=some c→X.s₀.heap.objs.size≤c
  hd:X.calm=true→X.A.handled=none
  frames:X.A.frames=some X.stack
  stk:X.stack=X.outer∨(X.stack=X.env :: X.outer∧X.env.frame=some X.env.locals)
  exf:∀ b∈X.ex,b≠X.env.locals∧∀ x c,X.env.cells.lookup x=some c→c≠b
  bs:∀ b o,X.base.get? b=some o→X.s₀.heap.get? b=some o∧X.H₀ b=none
  bsz:X.base.objs.size≤X.s₀.heap.objs.size
  noex:∀ b o,X.base.get? b=some o→b ∉ X.ex
  exfs:∀ b∈X.ex,b ∉ X.fs
  yR:X.s₀.heap.FunFrames X.base X.outer
  frf:∀ b∈X.fs,X.H₀ b=none
structure Inv (X:Cx) (pins:List (Addr × Obj)) (σ:List (Option V)) (H:Hp) (s:Shared):Prop where
  ok:X.Ok
  os:s.os=X.s₀.os
  bare:AllBare s.gens
  base:Un X.fs X.ex X.H₀ H X.s₀.heap s.heap
  loc:∃ m,s.heap.Ns X.env.locals m∧∀ (i:Nat) (x:Str) (v:V),X.N[i]?=some x→σ[i]?=some (some v)→Vis X.env.scope x→∃ u,RelV v u∧Look X.env s.heap m x u
  cell:∀ x c,X.env.cells.lookup x=some c→∃ v,s.heap.IsCell c v
  free:H X.env.locals=none
  freeC:∀ x c,X.env.cells.lookup x=some c→H c=none
  pin:∀ p∈X.pn++pins,s.heap.get? p.1=some p.2∧H p.1=none∧p.1≠X.env.locals∧p.1 ∉ X.fs∧∀ v,p.2.data≠.cell v
  hok:HOk X.prog X.w H s.heap
  len:σ.length=X.N.length
section
variable {X:Cx} {pins:List (Addr × Obj)} {σ:List (Option V)} {H H':Hp} {s:Shared} {h':Heap}
theorem Cx.Ok.nofr (ok:X.Ok) {b:Addr} {o:Obj} (e:X.base.get? b=some o):b ∉ X.fs:=fun hb=>by
  have:=(ok.yR.mem hb).1
  rw [e] at this;cases this
theorem Inv.bs (I:Inv X pins σ H s):∀ b o,X.base.get? b=some o→s.heap.get? b=some o∧H b=none:=fun b o e =>
  ⟨I.base.keep b o (I.ok.bs b o e).1 (I.ok.bs b o e).2 (I.ok.nofr e) (I.ok.noex b o e),I.base.free b o (I.ok.bs b o e).1 (I.ok.bs b o e).2 (I.ok.noex b o e)⟩
theorem Inv.bk (I:Inv X pins σ H s):∀ b o,X.base.get? b=some o→s.heap.get? b=some o:=fun b o e=>(I.bs b o e).1
theorem Inv.mod (I:Inv X pins σ H s):Mod X.K X.mg X.base:=I.ok.mod
theorem Inv.kIn (I:Inv X pins σ H s):X.K.In s.heap:=I.ok.mod.kin.keeps I.bk
theorem Inv.nolimit (I:Inv X pins σ H s):s.heap.NoLimit:=I.ok.mod.nolimit.keeps I.bk
theorem Inv.lt (I:Inv X pins σ H s):X.env.locals<s.heap.objs.size:=let ⟨_,hn,_⟩:=I.loc;hn.lt
theorem Inv.sz (I:Inv X pins σ H s):X.s₀.heap.objs.size≤s.heap.objs.size:=Nat.le_trans I.ok.above (Nat.le_of_lt I.lt)
theorem Inv.nofs (I:Inv X pins σ H s) {a:Addr} (h:s.heap.objs.size≤a):a ∉ X.fs:=fun hb=>by
  obtain ⟨_,o,ho,_⟩:=I.ok.yR.mem hb
  exact absurd (Nat.lt_of_lt_of_le (Heap.lt_size ho) (Nat.le_trans I.sz h)) (Nat.lt_irrefl _)
theorem Inv.cne (I:Inv X pins σ H s):∀ x c,X.env.cells.lookup x=some c→c≠X.env.locals:=fun x c e z=>by
  obtain ⟨v,o,ho,hd⟩:=I.cell x c e
  obtain ⟨m,⟨o',es,ep,ho',hd',_⟩,_⟩:=I.loc
  rw [z,ho'] at ho;cases ho;rw [hd'] at hd;cases hd
theorem Inv.yR (I:Inv X pins σ H s):s.heap.FunFrames X.base X.outer:=by
  have all:∀ (l:List Env),(∀ b∈frs l,b∈X.fs)→X.s₀.heap.FunFrames X.base l→s.heap.FunFrames X.base l:=by
    intro l
    induction l with
    | nil=>intro _ _;trivial
    | cons env r ih =>
      intro hs hl
      obtain ⟨hk,⟨L,o,hf,hn,ho,hd⟩,hr⟩:=hl
      have hL:L∈X.fs:=hs L (by unfold frs;rw [List.filterMap_cons,hf];exact List.mem_cons_self)
      obtain ⟨sl,e⟩:=I.base.slot L o ho (I.ok.frf L hL) hL fun z=>I.ok.exfs L z hL
      exact ⟨hk,⟨L,_,hf,hn,e,hd⟩,ih (fun b hb=>hs b (by unfold frs;rw [List.filterMap_cons,hf];exact List.mem_cons_of_mem _ hb)) hr⟩
  exact all X.outer (fun _ hb=>hb) I.ok.yR
theorem Inv.stack (I:Inv X pins σ H s):s.heap.FunFrames X.base X.stack:=by
  rcases I.ok.stk with e | ⟨e,hf⟩
  · rw [e];exact I.yR
  · rw [e]
    obtain ⟨m,hn,_⟩:=I.loc
    refine .cons (by rw [I.ok.kind];decide) hf hn ?_ I.yR
    exact Heap.get?_none_of_le (Nat.le_trans I.ok.bsz I.ok.above)
theorem Inv.zB (I:Inv X pins σ H s):∀ b∈frs X.stack,b∈X.env.locals :: X.fs:=fun b hb=>by
  rcases I.ok.stk with e | ⟨e,hf⟩
  · rw [e] at hb;exact List.mem_cons_of_mem _ hb
  · rw [e] at hb
    unfold frs at hb
    rw [List.filterMap_cons,hf] at hb
    exact hb
theorem Inv.qN (I:Inv X pins σ H s):∀ b∈frs X.stack,H b=none:=fun b hb=>by
  rcases List.mem_cons.mp (I.zB b hb) with e | hb
  · rw [e];exact I.free
  · obtain ⟨_,o,ho,_⟩:=I.ok.yR.mem hb
    exact I.base.free b o ho (I.ok.frf b hb) fun z=>I.ok.exfs b z hb
theorem Inv.step {g':Array GenState} {t':Nat} {d':Drawn} {ch:List Addr} (I:Inv X pins σ H s)
    (hch:∀ b∈ch,(b∈X.ex∨X.s₀.heap.objs.size≤b)∧b≠X.env.locals∧(∀ x c,X.env.cells.lookup x=some c→c≠b)∧∀ p∈X.pn++pins,p.1≠b)
    (keep:∀ b o,b≠X.env.locals→b ∉ X.fs→b ∉ ch→s.heap.get? b=some o→H b=none→h'.get? b=some o)
    (slot:∀ b o,b≠X.env.locals→b∈X.fs→b ∉ ch→s.heap.get? b=some o→H b=none→∃ sl,h'.get? b=some { o with slots:=sl }) (free:∀ b o,b ∉ ch→s.heap.get? b=some o→H b=none→H' b=none)
    (there:∀ b o,b ∉ ch→s.heap.get? b=some o→∃ o',h'.get? b=some o')
    (tups:∀ b xs,H b=some (.tup xs)→H' b=some (.tup xs)) (frzs:∀ b o u,H b=some (.frz o u)→H' b=some (.frz o u)) (tbls:∀ b ps,H b=some (.tbl ps)→∃ more,H' b=some (.tbl (ps++more)))
    (ns:∀ m,s.heap.Ns X.env.locals m→h'.Ns X.env.locals m) (hok:HOk X.prog X.w H' h') (hg:AllBare g') :
    Inv X pins σ H' { s with heap:=h',gens:=g',drawn:=d',toks:=t' }:=by
  have neL:∀ b o,X.s₀.heap.get? b=some o→b≠X.env.locals:=fun b o e=>Nat.ne_of_lt (Nat.lt_of_lt_of_le (Heap.lt_size e) I.ok.above)
  have neC:∀ b o,X.s₀.heap.get? b=some o→b ∉ X.ex→b ∉ ch:=fun b o e hx hb=>by
    rcases (hch b hb).1 with z | z
    · exact hx z
    · exact absurd (Nat.lt_of_lt_of_le (Heap.lt_size e) z) (Nat.lt_irrefl _)
  have cellK:∀ x c,X.env.cells.lookup x=some c→∀ v,s.heap.IsCell c v→h'.IsCell c v:=fun x c e v ⟨o,ho,hd⟩=>by
    have nch:c ∉ ch:=fun z=>(hch c z).2.2.1 x c e rfl
    by_cases hc:c∈X.fs
    · obtain ⟨sl,q⟩:=slot c o (I.cne x c e) hc nch ho (I.freeC x c e)
      exact ⟨_,q,hd⟩
    · exact ⟨o,keep c o (I.cne x c e) hc nch ho (I.freeC x c e),hd⟩
  refine ⟨I.ok,I.os,hg,⟨fun b o e n hb hx=>?_,fun b o e n hb hx=>?_,fun b o e n hx=>?_,fun b o e hx=>?_,fun b xs e=>tups b xs (I.base.tups b xs e),fun b o xs e=>frzs b o xs (I.base.frzs b o xs e),fun b ps e=>?_⟩,?_,fun x c e=>?_,?_,fun x c e=>?_,fun p hp=>?_,hok,I.len⟩
  · exact keep b o (neL b o e) hb (neC b o e hx) (I.base.keep b o e n hb hx) (I.base.free b o e n hx)
  · obtain ⟨sl,e1⟩:=I.base.slot b o e n hb hx
    obtain ⟨sl',e2⟩:=slot b _ (neL b o e) hb (neC b o e hx) e1 (I.base.free b o e n hx)
    exact ⟨sl',e2⟩
  · obtain ⟨o',e1⟩:=I.base.there b o e hx
    exact free b o' (neC b o e hx) e1 (I.base.free b o e n hx)
  · obtain ⟨o',e1⟩:=I.base.there b o e hx
    exact there b o' (neC b o e hx) e1
  · obtain ⟨m1,e1⟩:=I.base.tbls b ps e
    obtain ⟨m2,e2⟩:=tbls b _ e1
    exact ⟨m1++m2,by rw [e2,Array.append_assoc]⟩
  · obtain ⟨m,hn,hl⟩:=I.loc
    refine ⟨m,ns m hn,fun i x v e1 e2 e3=>?_⟩
    obtain ⟨u,r,l⟩:=hl i x v e1 e2 e3
    refine ⟨u,r,?_⟩
    rcases l with l | ⟨k,c,e,z⟩
    · exact .inl l
    · exact .inr ⟨k,c,e,cellK x c e _ z⟩
  · obtain ⟨v,z⟩:=I.cell x c e
    exact ⟨v,cellK x c e v z⟩
  · obtain ⟨m,⟨o,_,_,ho,_⟩,_⟩:=I.loc
    exact free _ o (fun z=>(hch _ z).2.1 rfl) ho I.free
  · obtain ⟨v,o,ho,hd⟩:=I.cell x c e
    exact free c o (fun z=>(hch c z).2.2.1 x c e rfl) ho (I.freeC x c e)
  · obtain ⟨e,n,ne,nf,d⟩:=I.pin p hp
    have nch:p.1 ∉ ch:=fun z=>(hch p.1 z).2.2.2 p hp rfl
    exact ⟨keep p.1 p.2 ne nf nch e n,free p.1 p.2 nch e n,ne,nf,d⟩
theorem Inv.un {t':Nat} (I:Inv X pins σ H s) (u:Un X.fs [] H H' s.heap h') (hok:HOk X.prog X.w H' h'):Inv X pins σ H' { s with heap:=h',toks:=t' }:=by
  obtain ⟨m,⟨o,es,ep,ho,r⟩,_⟩:=id I.loc
  obtain ⟨sl,hL⟩:=u.any ho I.free (by simp)
  exact I.step (g':=s.gens) (d':=s.drawn) (ch:=[]) (fun _ z=>nomatch z) (fun b o _ hb _ e n=>u.keep b o e n hb (by simp)) (fun b o _ hb _ e n=>u.slot b o e n hb (by simp)) (fun b o _ e n=>u.free b o e n (by simp)) (fun b o _ e=>u.there b o e (by simp)) u.tups u.frzs u.tbls (fun m' hm=>by
    obtain ⟨o',es',ep',ho',r'⟩:=hm
    rw [ho] at ho';cases ho'
    exact ⟨_,es',ep',hL,r'⟩) hok I.bare
theorem Inv.call {g':Array GenState} {t':Nat} {d':Drawn} {ch:List Addr} (I:Inv X pins σ H s) (u:Un (frs X.stack) ch H H' s.heap h') (hok:HOk X.prog X.w H' h') (hg:AllBare g')
    (hch:∀ b∈ch,(b∈X.ex∨X.s₀.heap.objs.size≤b)∧b≠X.env.locals∧(∀ x c,X.env.cells.lookup x=some c→c≠b)∧∀ p∈X.pn++pins,p.1≠b) :
    Inv X pins σ H' { s with heap:=h',gens:=g',drawn:=d',toks:=t' }:=by
  obtain ⟨m,⟨o,es,ep,ho,r⟩,_⟩:=id I.loc
  obtain ⟨sl,hL⟩:=u.any ho I.free fun z=>(hch _ z).2.1 rfl
  exact I.step (ch:=ch) hch (fun b o hL hb hc e n=>u.keep b o e n (fun z=>(List.mem_cons.mp (I.zB b z)).elim hL hb) hc) (fun b o _ _ hc e n=>u.any e n hc) (fun b o hc e n=>u.free b o e n hc) (fun b o hc e=>u.there b o e hc) u.tups u.frzs u.tbls (fun m' hm=>by
    obtain ⟨o',es',ep',ho',r'⟩:=hm
    rw [ho] at ho';cases ho'
    exact ⟨_,es',ep',hL,r'⟩) hok hg
theorem Inv.turned {t':Nat} {it:Addr} (I:Inv X pins σ H s) (k:∀ b o,b≠it→s.heap.get? b=some o→h'.get? b=some o) (hn:H it=none) (hL:it≠X.env.locals)
    (h1:it∈X.ex∨X.s₀.heap.objs.size≤it) (h2:∀ x c,X.env.cells.lookup x=some c→c≠it) (h3:∀ p∈X.pn++pins,p.1≠it):Inv X pins σ H { s with heap:=h',toks:=t' }:=by
  have nit:∀ b u,H b=some u→b≠it:=fun b u e z=>by rw [z,hn] at e;cases e
  refine I.step (g':=s.gens) (d':=s.drawn) (ch:=[it]) (fun b hb=>?_) (fun b o _ _ hc e _=>k b o (fun z=>hc (by simp [z])) e) (fun b o _ _ hc e _=>⟨o.slots,k b o (fun z=>hc (by simp [z])) e⟩) (fun _ _ _ _ n=>n)
    (fun b o hc e=>⟨o,k b o (fun z=>hc (by simp [z])) e⟩) (fun _ _ e=>e) (fun _ _ _ e=>e) (fun b ps e=>⟨#[],by rw [e];simp⟩) (fun m hm=>?_) (fun b u e=>?_) I.bare
  · have e:b=it:=by simpa using hb
    subst e
    exact ⟨h1,hL,h2,h3⟩
  · obtain ⟨o,es,ep,ho,r⟩:=hm
    exact ⟨o,es,ep,k _ o (Ne.symm hL) ho,r⟩
  · refine (I.hok b u e).stay (fun c v hc q=>k c v ?_ q) (fun _ q=>q) fun _ _ q=>q
    rcases hc with z | z
    · rw [z];exact nit b u e
    · exact nit c _ z
theorem Inv.tok (I:Inv X pins σ H s) (t:Nat):Inv X pins σ H { s with toks:=t }:=I.un (h':=s.heap) (t':=t) Un.refl I.hok
theorem Inv.kept {t':Nat} (I:Inv X pins σ H s) (k:∀ b u,s.heap.get? b=some u→h'.get? b=some u):Inv X pins σ H { s with heap:=h',toks:=t' }:=I.un (Un.kept k) (I.hok.kept k)
theorem Inv.laid {a:Addr} {o:HO} {t':Nat} (I:Inv X pins σ H s) (k:∀ b u,s.heap.get? b=some u→h'.get? b=some u) (hp:s.heap.objs.size≤a) (new:eO X.prog X.w (upd H a o) h' a o) :
    Inv X pins σ (upd H a o) { s with heap:=h',toks:=t' }:=I.un (Un.laid k hp (I.hok.fresh hp)) (I.hok.laid k hp new)
theorem Inv.write {x e:Addr} {o:HO} {t':Nat} (I:Inv X pins σ H s) (mu:Mut (H x)) (he:e=x∨H e=some (.own x)) (k:∀ b u,b≠e→s.heap.get? b=some u→h'.get? b=some u) (heo:∃ u,h'.get? e=some u)
    (new:eO X.prog X.w (upd H x o) h' x o):Inv X pins σ (upd H x o) { s with heap:=h',toks:=t' }:=I.un (Un.write mu he k heo) (I.hok.write mu he k heo new)
theorem Inv.vo {pins':List (Addr × Obj)} (I:Inv X pins σ H s) (h:∀ p∈pins',s.heap.get? p.1=some p.2∧H p.1=none∧p.1≠X.env.locals∧p.1 ∉ X.fs∧∀ v,p.2.data≠.cell v):Inv X pins' σ H s :=
  ⟨I.ok,I.os,I.bare,I.base,I.loc,I.cell,I.free,I.freeC,fun p hp=>(List.mem_append.mp hp).elim (fun z=>I.pin p (List.mem_append_left _ z)) (h p),I.hok,I.len⟩
theorem xg {N:List Str} (hN:N.Nodup) {i j:Nat} {x:Str} (a:N[i]?=some x) (b:N[j]?=some x):i=j:=by
  obtain ⟨h1,e1⟩:=List.getElem?_eq_some_iff.mp a
  obtain ⟨h2,e2⟩:=List.getElem?_eq_some_iff.mp b
  exact (List.getElem_inj hN).mp (e1.trans e2.symm)
theorem sW {M:Model} {A:Around} {E:Value→Shared→Prop} {i:Nat} {x:Str} {v:V} {u:Value} {Q:Unit→Shared→Prop} (I:Inv X pins σ H s) (hN:X.N.Nodup) (hi:X.N[i]?=some x) (hx:Loc X.env.scope x) (r:RelV v u)
    (h:∀ s',Inv X pins (σ.set i (some v)) H s'→(∃ a,Heap.SameBut a s.heap s'.heap∧(a=X.env.locals∨X.env.cells.lookup x=some a))→Q () s') (hf:X.fn x=true∨X.env.scope.names.lookup x=some .local:=by first | exact .inl rfl | exact .inr rfl | assumption):wpAny M A (storeName X.env x u) Q E s:=by
  obtain ⟨m,hn,hl⟩:=id I.loc
  have hcls:(X.env.scope.kind == .class || (X.env.scope.kind == .module && X.env.locals != X.env.globals))=false:=by rw [I.ok.kind];rfl
  have hiσ:i<σ.length:=by rw [I.len];exact (List.getElem?_eq_some_iff.mp hi).1
  have cne:=I.cne
  have tracked:∀ {a:Addr} {h':Heap},(∃ o,s.heap.get? a=some o∧H a=none)→Heap.SameBut a s.heap h'→HOk X.prog X.w H h':=fun {a h'} ha hs b ob e=>by
    obtain ⟨_,_,hfree⟩:=ha
    refine (I.hok b ob e).stay (fun c w' hc q=>(hs.2 c ?_).trans q) (fun _ q=>q) fun _ _ q=>q
    rintro rfl
    rcases hc with rfl | hc
    · rw [hfree] at e;cases e
    · rw [hfree] at hc;cases hc
  rcases hx with hk | hk
  · refine wpAny_storeName_local hk hn (fun h' hn' hs=>?_) hcls
    obtain ⟨oL,_,_,hoL,_⟩:=id hn
    refine h _ ⟨I.ok,I.os,I.bare,⟨fun b o e n hb hx=>?_,fun b o e n hb hx=>?_,I.base.free,fun b o e hx=>?_,I.base.tups,I.base.frzs,I.base.tbls⟩,⟨_,hn',fun j y v' e1 e2 e3=>?_⟩,fun y c e=>?_,I.free,I.freeC,fun p hp=>?_,tracked ⟨oL,hoL,I.free⟩ hs,by simpa using I.len⟩ ⟨_,hs,.inl rfl⟩
    · exact (hs.2 b (Nat.ne_of_lt (Nat.lt_of_lt_of_le (Heap.lt_size e) I.ok.above))).trans (I.base.keep b o e n hb hx)
    · obtain ⟨sl,e1⟩:=I.base.slot b o e n hb hx
      exact ⟨sl,(hs.2 b (Nat.ne_of_lt (Nat.lt_of_lt_of_le (Heap.lt_size e) I.ok.above))).trans e1⟩
    · obtain ⟨o',e1⟩:=I.base.there b o e hx
      exact ⟨o',(hs.2 b (Nat.ne_of_lt (Nat.lt_of_lt_of_le (Heap.lt_size e) I.ok.above))).trans e1⟩
    · by_cases hj:j=i
      · subst hj
        rw [hi] at e1;cases e1
        rw [List.getElem?_set_self hiσ] at e2
        cases e2
        exact ⟨u,r,.inl ⟨hk,by simp⟩⟩
      · rw [List.getElem?_set_ne (Ne.symm hj)] at e2
        obtain ⟨u',r',q⟩:=hl j y v' e1 e2 e3
        refine ⟨u',r',?_⟩
        rcases q with ⟨k,e⟩ | ⟨k,c,e,z⟩
        · refine .inl ⟨k,?_⟩
          have:y≠x:=fun e=>hj (xg hN e1 (e ▸ hi))
          simp [this,e]
        · exact .inr ⟨k,c,e,z.sameBut hs (cne y c e)⟩
    · obtain ⟨w',z⟩:=I.cell y c e
      exact ⟨w',z.sameBut hs (cne y c e)⟩
    · obtain ⟨e,n,ne,nf,d⟩:=I.pin p hp
      exact ⟨(hs.2 p.1 ne).trans e,n,ne,nf,d⟩
  · have hfn:X.fn x=true:=by
      rcases hf with z | z
      · exact z
      · rw [z] at hk;cases hk
    obtain ⟨c,hc⟩:=I.ok.has x (.inl hk)
    obtain ⟨w',z⟩:=I.cell x c hc
    refine wpAny_storeName_cell I.ok.kind hk hc z (fun h' hc' hs=>?_)
    obtain ⟨oc,hoc,hocd⟩:=id z
    refine h { s with heap:=h' } ⟨I.ok,I.os,I.bare,⟨fun b o e n hb hx=>?_,fun b o e n hb hx=>?_,I.base.free,fun b o e hx=>?_,I.base.tups,I.base.frzs,I.base.tbls⟩,⟨m,hn.sameBut hs (Ne.symm (cne x c hc)),fun j y v' e1 e2 e3=>?_⟩,fun y c' e=>?_,I.free,I.freeC,fun p hp=>?_,tracked ⟨oc,hoc,I.freeC x c hc⟩ hs,by simpa using I.len⟩ ⟨c,hs,.inr hc⟩
    · exact (hs.2 b (Nat.ne_of_lt (Nat.lt_of_lt_of_le (Heap.lt_size e) (I.ok.cab x c hfn hc)))).trans (I.base.keep b o e n hb hx)
    · obtain ⟨sl,e1⟩:=I.base.slot b o e n hb hx
      exact ⟨sl,(hs.2 b (Nat.ne_of_lt (Nat.lt_of_lt_of_le (Heap.lt_size e) (I.ok.cab x c hfn hc)))).trans e1⟩
    · obtain ⟨o',e1⟩:=I.base.there b o e hx
      exact ⟨o',(hs.2 b (Nat.ne_of_lt (Nat.lt_of_lt_of_le (Heap.lt_size e) (I.ok.cab x c hfn hc)))).trans e1⟩
    · by_cases hj:j=i
      · subst hj
        rw [hi] at e1;cases e1
        rw [List.getElem?_set_self hiσ] at e2
        cases e2
        exact ⟨u,r,.inr ⟨.inl hk,c,hc,hc'⟩⟩
      · rw [List.getElem?_set_ne (Ne.symm hj)] at e2
        obtain ⟨u',r',q⟩:=hl j y v' e1 e2 e3
        refine ⟨u',r',?_⟩
        rcases q with q | ⟨k,c',e,z'⟩
        · exact .inl q
        · refine .inr ⟨k,c',e,z'.sameBut hs ?_⟩
          rintro rfl
          exact hj (xg hN e1 (I.ok.inj _ _ _ e hc ▸ hi))
    · by_cases hcc:c'=c
      · subst hcc;exact ⟨_,hc'⟩
      · obtain ⟨w2,z2⟩:=I.cell y c' e
        exact ⟨w2,z2.sameBut hs hcc⟩
    · obtain ⟨e,n,ne,nf,d⟩:=I.pin p hp
      refine ⟨(hs.2 p.1 ?_).trans e,n,ne,nf,d⟩
      intro q
      rw [q,hoc] at e
      have q':oc=p.2:=Option.some.inj e
      exact d w' (by rw [← q'];exact hocd)
theorem wH {M:Model} {A:Around} {E:Value→Shared→Prop} {i:Nat} {x:Str} {v:V} {u:Value} {Q:Unit→Shared→Prop} (I:Inv X pins σ H s) (hN:X.N.Nodup) (hi:X.N[i]?=some x) (hx:Loc X.env.scope x) (r:RelV v u)
    (h:∀ s',Inv X pins (σ.set i (some v)) H s'→Q () s') (hf:X.fn x=true∨X.env.scope.names.lookup x=some .local:=by first | exact .inl rfl | exact .inr rfl | assumption):wpAny M A (storeName X.env x u) Q E s :=
  sW I hN hi hx r (fun s' I' _=>h s' I') hf
theorem Inv.call' {s':Shared} {ch:List Addr} (I:Inv X pins σ H s) (ho:s'.os=s.os) (u:Un (frs X.stack) ch H H' s.heap s'.heap) (hok:HOk X.prog X.w H' s'.heap) (hg:AllBare s'.gens)
    (hch:∀ b∈ch,(b∈X.ex∨X.s₀.heap.objs.size≤b)∧b≠X.env.locals∧(∀ x c,X.env.cells.lookup x=some c→c≠b)∧∀ p∈X.pn++pins,p.1≠b):Inv X pins σ H' s':=by
  obtain ⟨h',g',d',t',o'⟩:=s'
  have e:o'=s.os:=ho
  subst e
  exact I.call (g':=g') (t':=t') (d':=d') u hok hg hch
end
abbrev XK:=Value→Option Addr→Hp→Prop
abbrev St:=List (Option V)
abbrev VK:=V→Hp→Prop
abbrev TE:=St→Hp→VK→Prop
abbrev TT:=St→Hp→(Bool→Hp→Prop)→Prop
abbrev TA:=St→Hp→(List V→Hp→Prop)→Prop
structure Ends where
  nx:St→Hp→Prop
  rt:VK
  bk:St→Hp→Prop:=fun _ _=>False
  ct:St→Hp→Prop:=fun _ _=>False
abbrev TS:=Ends→St→Hp→Prop
def EP (X:Cx) (pins:List (Addr × Obj)) (σ:St) (Q:VK) (u:Value) (s':Shared):Prop:=∃ v H',Inv X pins σ H' s'∧RelV v u∧Q v H'
def TP (X:Cx) (pins:List (Addr × Obj)) (σ:St) (Q:Bool→Hp→Prop) (b:Bool) (s':Shared):Prop:=∃ H',Inv X pins σ H' s'∧Q b H'
def AP (X:Cx) (pins:List (Addr × Obj)) (σ:St) (Q:List V→Hp→Prop) (us:List Value) (s':Shared):Prop:=∃ vs H',Inv X pins σ H' s'∧Vals vs us∧Q vs H'
def SP (X:Cx) (pins:List (Addr × Obj)) (D:Ends) (f:Flow) (s':Shared):Prop :=
  match f with
  | .next=>∃ σ' H',Inv X pins σ' H' s'∧D.nx σ' H'
  | .brk=>∃ σ' H',Inv X pins σ' H' s'∧D.bk σ' H'
  | .cont=>∃ σ' H',Inv X pins σ' H' s'∧D.ct σ' H'
  | .ret u=>∃ v σ' H',Inv X pins σ' H' s'∧RelV v u∧D.rt v H'
def PE (X:Cx) (e:Expr) (t:TE):Prop :=
  ∀ (pins:List (Addr × Obj)) (s:Shared) (σ:St) (H:Hp) (Q:VK),Inv X pins σ H s→t σ H Q→wpAny (model X.prog X.w) X.A (eval e X.env) (EP X pins σ Q) X.xe s
def PT (X:Cx) (e:Expr) (t:TT):Prop :=
  ∀ (pins:List (Addr × Obj)) (s:Shared) (σ:St) (H:Hp) (Q:Bool→Hp→Prop),Inv X pins σ H s→t σ H Q→wpAny (model X.prog X.w) X.A (isTrue e X.env (eval e X.env)) (TP X pins σ Q) X.xe s
def PW (X:Cx) (e:Expr) (t:TT):Prop :=
  ∀ (whole:Sem Value) (pins:List (Addr × Obj)) (s:Shared) (σ:St) (H:Hp) (Q:Bool→Hp→Prop),Inv X pins σ H s→t σ H Q→wpAny (model X.prog X.w) X.A (isTrue e X.env whole) (TP X pins σ Q) X.xe s
theorem PW.pt {X:Cx} {e:Expr} {t:TT} (h:PW X e t):PT X e t:=h _
def PA (X:Cx) (es:List Expr) (t:TA):Prop :=
  ∀ (pos:Pos) (pins:List (Addr × Obj)) (s:Shared) (σ:St) (H:Hp) (Q:List V→Hp→Prop),Inv X pins σ H s→t σ H Q→wpAny (model X.prog X.w) X.A (spliced (backTo pos (starEach es X.env))) (AP X pins σ Q) X.xe s
def PS (X:Cx) (st:Stmt) (t:TS):Prop :=
  ∀ (pins:List (Addr × Obj)) (s:Shared) (σ:St) (H:Hp) (D:Ends),Inv X pins σ H s→t D σ H→wpAny (model X.prog X.w) X.A (exec st X.env) (SP X pins D) X.xe s
def PSs (X:Cx) (st:List Stmt) (t:TS):Prop :=
  ∀ (pins:List (Addr × Obj)) (s:Shared) (σ:St) (H:Hp) (D:Ends),Inv X pins σ H s→t D σ H→wpAny (model X.prog X.w) X.A (execs st X.env) (SP X pins D) X.xe s
theorem thn {α:Type} {t:Sem α} {Q Q':α→Shared→Prop} {M:Model} {A:Around} {E:Value→Shared→Prop} {s:Shared} (h:wpAny M A t Q E s) (hQ:∀ a s,Q a s→Q' a s):wpAny M A t Q' E s:=wpAny_mono h hQ fun _ _ x=>x
end L2
namespace L2
open PySem PySem.Spec PyProof.Rows
section
variable {X:Cx}
def Y9 (i:Nat):TE:=fun σ H Q=>∃ v,σ[i]?=some (some v)∧Q v H
def tC (v:V):TE:=fun _ H Q=>Q v H
theorem V9 {i:Nat} {x:Str} {pos:Pos} (hN:X.N[i]?=some x) (hv:Vis X.env.scope x) (hd:(x == ("__debug__":Str))=false:=by decide) (hcd:(x == ("__classdict__":Str))=false:=by decide):PE X (.Name x pos) (Y9 i):=by
  intro pins s σ H Q I h
  obtain ⟨v,e,h⟩:=h
  obtain ⟨m,hn,hl⟩:=I.loc
  obtain ⟨u,r,l⟩:=hl i x v hN e hv
  have fin:EP X pins σ Q u s:=⟨v,H,I,r,h⟩
  rcases l with ⟨hk,hm⟩ | ⟨hk,c,hc,hcell⟩
  · exact wpAny_Name (wpAny_loadName_local I.ok.kind hk hn hm fin) hd
  · rcases hk with hk | hk
    · exact wpAny_Name (wpAny_loadName_cell I.ok.kind hk hc hcell fin) hd
    · exact wpAny_Name (wpAny_loadName_free I.ok.kind hk hc hcell fin hcd) hd
theorem aD {i j pos}:PE X (.Constant (.int i) j pos) (tC (.int i)):=fun _ _ _ H _ I h=>wpAny_Constant_int ⟨.int i,H,I.tok _,⟨_,rfl⟩,h⟩
theorem vA {b j pos}:PE X (.Constant (.bool b) j pos) (tC (.bl b)):=fun _ _ _ H _ I h=>Constant_bool ⟨.bl b,H,I,rfl,h⟩
theorem Wb {j pos}:PE X (.Constant .none j pos) (tC .non):=fun _ _ _ H _ I h=>Constant_none ⟨.non,H,I,rfl,h⟩
theorem lE {x j pos}:PE X (.Constant (.str x) j pos) (tC (.str x)):=fun _ _ _ H _ I h=>Calls.Constant_str ⟨.str x,H,I.tok _,⟨_,rfl⟩,h⟩
def Gl (X:Cx) (x:Str):Prop:=X.env.kindOf x=some .globalImplicit
theorem rG {E:Value→Shared→Prop} {pins:List (Addr × Obj)} {s:Shared} {σ:St} {H:Hp} {x:Str} {u:Value} {pos:Pos} {Q:Value→Shared→Prop} (I:Inv X pins σ H s) (hg:Gl X x) (hm:X.mg x=some u) (h:Q u s)
    (hd:(x == ("__debug__":Str))=false:=by decide):wpAny (model X.prog X.w) X.A (eval (.Name x pos) X.env) Q E s :=
  Calls.Name_function_global I.ok.kind hg (Calls.loadGlobal_global (by rw [I.ok.glob];exact I.mod.glob.keeps I.bk) hm h) hd
theorem jA {E:Value→Shared→Prop} {pins:List (Addr × Obj)} {s:Shared} {σ:St} {H:Hp} {x:Str} {u:Value} {pos:Pos} {Q:Value→Shared→Prop} (I:Inv X pins σ H s) (hg:Gl X x) (hm:X.mg x=none) (hv:bootBuiltins x=some u) (h:Q u s)
    (hn:x≠"__name__":=by decide) (hd:(x == ("__debug__":Str))=false:=by decide):wpAny (model X.prog X.w) X.A (eval (.Name x pos) X.env) Q E s:=by
  obtain ⟨mb,h1,h2⟩:=I.mod.blt
  exact Calls.Name_function_global I.ok.kind hg (Calls.loadGlobal_builtin (by rw [I.ok.glob];exact I.mod.glob.keeps I.bk) hm (by rw [I.ok.blt];exact h1.keeps I.bk) ((h2 x hn).trans hv) h) hd
theorem gP {x:Str} {v:V} {u:Value} {pos:Pos} (hg:Gl X x) (hm:X.mg x=some u) (r:RelV v u) (hd:(x == ("__debug__":Str))=false:=by decide):PE X (.Name x pos) (tC v) :=
  fun _ _ _ H _ I h=>rG I hg hm ⟨v,H,I,r,h⟩ hd
theorem rD {x:Str} {v:V} {u:Value} {pos:Pos} (hg:Gl X x) (hm:X.mg x=none) (hv:bootBuiltins x=some u) (r:RelV v u) (hn:x≠"__name__":=by decide) (hd:(x == ("__debug__":Str))=false:=by decide):PE X (.Name x pos) (tC v) :=
  fun _ _ _ H _ I h=>jA I hg hm hv ⟨v,H,I,r,h⟩ hn hd
def t2I (ta tb:TE) (k:Int→Int→Hp→Prop):St→Hp→Prop:=fun σ H=>ta σ H fun x H1=>tb σ H1 fun y H2=>∃ i j,x=.int i∧y=.int j∧k i j H2
variable {a b:Expr} {ta tb:TE} {pos:Pos}
def Vt (p:Int→Int→Bool) (ta tb:TE):TE:=fun σ H Q=>t2I ta tb (fun i j H2=>Q (.bl (p i j)) H2) σ H
abbrev tLt:TE→TE→TE:=Vt fun i j=>decide (i<j)
abbrev tLe:TE→TE→TE:=Vt fun i j=>decide (i≤j)
abbrev tGt:TE→TE→TE:=Vt fun i j=>decide (j<i)
abbrev tGe:TE→TE→TE:=Vt fun i j=>decide (j≤i)
abbrev tEqI:TE→TE→TE:=Vt fun i j=>decide (i=j)
abbrev tNeI:TE→TE→TE:=Vt fun i j=>!decide (i=j)
def tB (t:TE):TT:=fun σ H Q=>t σ H fun x H1=>∃ c,x=.bl c∧Q c H1
theorem lD {e:Expr} {t:TE} (h:PE X e t) (he:∀ whole,isTrue e X.env whole=(do let v ← whole;standAt e.pos;holding [v] (truthy v)):=by intro _;rfl):PT X e (tB t):=by
  intro pins s σ H Q I hw
  refine isTrue_plain (thn (h pins s σ H _ I hw) fun v s1 ⟨x,H1,I1,r1,q1⟩=>?_) (he _)
  obtain ⟨d,rfl,q⟩:=q1
  cases r1
  exact wpAny_truthy_bool ⟨H1,I1,q⟩
variable {tA tB':TT} {rest:List Expr}
def tAnd (t u:TT):TT:=fun σ H Q=>t σ H fun c H1=>if c=true then u σ H1 Q else Q false H1
def tOr (t u:TT):TT:=fun σ H Q=>t σ H fun c H1=>if c=true then Q true H1 else u σ H1 Q
def tNot (t:TT):TT:=fun σ H Q=>t σ H fun c H1=>Q (!c) H1
theorem pw_and1 (ha:PT X a tA):PW X (.BoolOp .And [a] pos) tA:=by
  intro wh pins s σ H Q I h
  refine isTrue_and (thn (ha pins s σ H Q I h) fun c s1 e=>?_)
  cases c with
  | true=>exact isTrue_and_nil e
  | false=>exact e
theorem pw_or1 (ha:PT X a tA):PW X (.BoolOp .Or [a] pos) tA:=by
  intro wh pins s σ H Q I h
  refine isTrue_or (thn (ha pins s σ H Q I h) fun c s1 e=>?_)
  cases c with
  | false=>exact isTrue_or_nil e
  | true=>exact e
theorem pw_and (ha:PT X a tA) (hb:PW X (.BoolOp .And (b :: rest) pos) tB'):PW X (.BoolOp .And (a :: b :: rest) pos) (tAnd tA tB'):=by
  intro wh pins s σ H Q I h
  refine isTrue_and (thn (ha pins s σ H _ I h) fun c s1 ⟨H1,I1,q1⟩=>?_)
  cases c with
  | true=>exact hb wh pins s1 σ H1 Q I1 q1
  | false=>exact ⟨H1,I1,q1⟩
theorem pw_or (ha:PT X a tA) (hb:PW X (.BoolOp .Or (b :: rest) pos) tB'):PW X (.BoolOp .Or (a :: b :: rest) pos) (tOr tA tB'):=by
  intro wh pins s σ H Q I h
  refine isTrue_or (thn (ha pins s σ H _ I h) fun c s1 ⟨H1,I1,q1⟩=>?_)
  cases c with
  | true=>exact ⟨H1,I1,q1⟩
  | false=>exact hb wh pins s1 σ H1 Q I1 q1
theorem jO (ha:PT X a tA):PT X (.UnaryOp .Not a pos) (tNot tA):=by
  intro pins s σ H Q I h
  exact isTrue_not (ha pins s σ H (fun c H1=>Q (!c) H1) I h)
def Zu (ta tb:TE):TE:=fun σ H Q=>ta σ H fun x H1=>∃ c,x=.bl c∧if c=true then tb σ H1 Q else Q (.bl false) H1
def tOrV (ta tb:TE):TE:=fun σ H Q=>ta σ H fun x H1=>∃ c,x=.bl c∧if c=true then Q (.bl true) H1 else tb σ H1 Q
def Zh (ta:TE):TE:=fun σ H Q=>ta σ H fun x H1=>∃ c,x=.bl c∧Q (.bl (!c)) H1
theorem Aj {op} {t:TE} (h:PE X a t):PE X (.BoolOp op [a] pos) t:=fun pins s σ H Q I hw=>BoolOp_one (h pins s σ H Q I hw)
theorem Lk (ha:PE X a ta) (hb:PE X (.BoolOp .And (b :: rest) pos) tb):PE X (.BoolOp .And (a :: b :: rest) pos) (Zu ta tb):=by
  intro pins s σ H Q I h
  refine BoolOp_and (thn (ha pins s σ H _ I h) fun v s1 ⟨x,H1,I1,r1,q1⟩=>?_)
  obtain ⟨c,rfl,q1⟩:=q1
  cases r1
  refine wpAny_truthy_bool ?_
  cases c with
  | true=>exact hb pins s1 σ H1 Q I1 q1
  | false=>exact ⟨.bl false,H1,I1,rfl,q1⟩
theorem Zy (ha:PE X a ta) (hb:PE X (.BoolOp .Or (b :: rest) pos) tb):PE X (.BoolOp .Or (a :: b :: rest) pos) (tOrV ta tb):=by
  intro pins s σ H Q I h
  refine BoolOp_or (thn (ha pins s σ H _ I h) fun v s1 ⟨x,H1,I1,r1,q1⟩=>?_)
  obtain ⟨c,rfl,q1⟩:=q1
  cases r1
  refine wpAny_truthy_bool ?_
  cases c with
  | false=>exact hb pins s1 σ H1 Q I1 q1
  | true=>exact ⟨.bl true,H1,I1,rfl,q1⟩
theorem Wa (ha:PE X a ta):PE X (.UnaryOp .Not a pos) (Zh ta):=by
  intro pins s σ H Q I h
  refine UnaryOp_ (thn (ha pins s σ H _ I h) fun v s1 ⟨x,H1,I1,r1,q1⟩=>?_)
  obtain ⟨c,rfl,q1⟩:=q1
  cases r1
  exact not_of (wpAny_truthy_bool ⟨.bl (!c),H1,I1,rfl,q1⟩)
def tIf (t:TT) (ta tb:TE):TE:=fun σ H Q=>t σ H fun c H1=>if c=true then ta σ H1 Q else tb σ H1 Q
theorem J0 {c:Expr} (hc:PT X c tA) (ha:PE X a ta) (hb:PE X b tb):PE X (.IfExp c a b pos) (tIf tA ta tb):=by
  intro pins s σ H Q I h
  refine wpAny_IfExp (thn (hc pins s σ H _ I h) fun d s1 ⟨H1,I1,q1⟩=>?_)
  cases d with
  | true=>exact ha pins s1 σ H1 Q I1 q1
  | false=>exact hb pins s1 σ H1 Q I1 q1
end
end L2
namespace L2
open PySem PySem.Spec PyProof.Rows
def SqL (K:PySem.W.Frag) (H:Hp) (a:Addr) (xs:List V):Prop :=
  Rd H a (.lst xs) ∨
    ∃ (o:Obj) (its:Array Value) (n:Nat),K.lookup a=some o∧o.cls=.type "list"∧o.dict=none∧o.data=.seq its n∧its.size≤sizeLine∧Vals xs its.toList
def SqT (K:PySem.W.Frag) (H:Hp) (a:Addr) (xs:List V):Prop :=
  Rd H a (.tup xs) ∨
    ∃ (o:Obj) (its:Array Value) (n:Nat),K.lookup a=some o∧o.cls=.type "tuple"∧o.data=.seq its n∧its.size≤sizeLine∧Vals xs its.toList
def absV:Value→Option V
  | .none=>some .non
  | .bool b=>some (.bl b)
  | .int i _=>some (.int i)
  | .str x _=>some (.str x)
  | .bytes b _=>some (.byt b)
  | .float b _=>some (.flt b)
  | .ref a=>some (.ref a)
  | .type n=>some (.ty n)
  | _=>none
theorem RelV.abs {x:V} {u:Value} (r:RelV x u):absV u=some x:=by
  cases x with
  | non=>cases r;rfl
  | bl _=>cases r;rfl
  | int _=>obtain ⟨t,rfl⟩:=r;rfl
  | str _=>obtain ⟨t,rfl⟩:=r;rfl
  | byt _=>obtain ⟨t,rfl⟩:=r;rfl
  | flt _=>obtain ⟨t,rfl⟩:=r;rfl
  | ref _=>cases r;rfl
  | ty _=>cases r;rfl
theorem RelV.inj {x y:V} {u:Value} (r:RelV x u) (q:RelV y u):x=y:=Option.some.inj (r.abs.symm.trans q.abs)
theorem Vals.inj:∀ {xs ys:List V} {us:List Value},Vals xs us→Vals ys us→xs=ys
  | _,_,_,.nil,.nil=>rfl
  | _,_,_,.cons r t,.cons r' t'=>by rw [r.inj r',Vals.inj t t']
section
variable {X:Cx} {pins:List (Addr × Obj)} {σ:St} {H:Hp} {s:Shared} {a:Addr} {xs ys:List V}
theorem SqL.of {K:PySem.W.Frag} (h:H a=some (.lst xs)):SqL K H a xs:=.inl (.inl h)
theorem SqT.of {K:PySem.W.Frag} (h:H a=some (.tup xs)):SqT K H a xs:=.inl (.inl h)
theorem Inv.list (I:Inv X pins σ H s) (h:SqL X.K H a xs):∃ its:List Value,Vals xs its∧PlainL s.heap a its.toArray∧xs.length≤sizeLine:=by
  rcases h with h | ⟨o,its,n,hk,hc,hd,hs,hz,r⟩
  · obtain ⟨z,its,n,r,e⟩:=h.ok I.hok
    exact ⟨its,r,⟨_,n,e,rfl,rfl,rfl⟩,z⟩
  · refine ⟨its.toList,r,⟨o,n,I.kIn a o hk,hc,hd,by simpa using hs⟩,?_⟩
    have e:=r.length
    simp only [Array.length_toList] at e
    omega
theorem Inv.tuple (I:Inv X pins σ H s) (h:SqT X.K H a xs):∃ its:List Value,Vals xs its∧IsTup s.heap a its.toArray∧xs.length≤sizeLine:=by
  rcases h with h | ⟨o,its,n,hk,hc,hs,hz,r⟩
  · obtain ⟨z,its,r,p⟩:=h.ok I.hok
    exact ⟨its,r,p,z⟩
  · refine ⟨its.toList,r,⟨o,I.kIn a o hk,hc,n,by simpa using hs⟩,?_⟩
    have e:=r.length
    simp only [Array.length_toList] at e
    omega
theorem Inv.Ks (I:Inv X pins σ H s) (h:SqL X.K H a xs) (h':SqL X.K H a ys):xs=ys:=by
  obtain ⟨its,r,⟨o,n,e,_,_,d⟩,_⟩:=I.list h
  obtain ⟨its',r',⟨o',n',e',_,_,d'⟩,_⟩:=I.list h'
  rw [e] at e';cases e'
  rw [d] at d'
  injection d' with d1 _
  have:its=its':=by simpa using congrArg Array.toList d1
  subst this
  exact r.inj r'
end
abbrev Cx.wish (X:Cx) (E:Value→Shared→Prop):Cx:={ X with xe:=E }
abbrev Cx.nox (X:Cx):Cx:=X.wish fun _ _=>False
theorem Cx.Ok.wish {X:Cx} (ok:X.Ok) (E:Value→Shared→Prop):(X.wish E).Ok :=
  ⟨ok.mod,ok.kind,ok.glob,ok.blt,ok.above,ok.inj,ok.has,ok.cab,ok.hd,ok.frames,ok.stk,ok.exf,ok.bs,ok.bsz,ok.noex,ok.exfs,ok.yR,ok.frf⟩
theorem Cx.Ok.m9 {X:Cx} {E:Value→Shared→Prop} (ok:(X.wish E).Ok):X.Ok :=
  ⟨ok.mod,ok.kind,ok.glob,ok.blt,ok.above,ok.inj,ok.has,ok.cab,ok.hd,ok.frames,ok.stk,ok.exf,ok.bs,ok.bsz,ok.noex,ok.exfs,ok.yR,ok.frf⟩
section
variable {X:Cx} {pins:List (Addr × Obj)} {σ:St} {H:Hp} {s:Shared} {E:Value→Shared→Prop}
theorem Inv.wish (I:Inv X pins σ H s) (E:Value→Shared→Prop):Inv (X.wish E) pins σ H s:=⟨I.ok.wish E,I.os,I.bare,I.base,I.loc,I.cell,I.free,I.freeC,I.pin,I.hok,I.len⟩
theorem Inv.m9 (I:Inv (X.wish E) pins σ H s):Inv X pins σ H s:=⟨I.ok.m9,I.os,I.bare,I.base,I.loc,I.cell,I.free,I.freeC,I.pin,I.hok,I.len⟩
theorem SP.m9 {D:Ends} {f:Flow} {s':Shared} (h:SP (X.wish E) pins D f s'):SP X pins D f s':=by
  cases f with
  | next=>obtain ⟨σ',H',I,q⟩:=h;exact ⟨σ',H',I.m9,q⟩
  | brk=>obtain ⟨σ',H',I,q⟩:=h;exact ⟨σ',H',I.m9,q⟩
  | cont=>obtain ⟨σ',H',I,q⟩:=h;exact ⟨σ',H',I.m9,q⟩
  | ret u=>obtain ⟨v,σ',H',I,r,q⟩:=h;exact ⟨v,σ',H',I.m9,r,q⟩
theorem PSs.nox {st:List Stmt} {t:TS} (h:PSs X.nox st t):PSs X st t:=fun pins s σ H D I hw =>
  wpAny_mono (h pins s σ H D (I.wish _) hw) (fun _ _ q=>q.m9) fun _ _ z=>False.elim z
end
section
variable {X:Cx} {st:Stmt} {rest:List Stmt} {t u:TS} {e:Expr} {te:TE} {pos:Pos}
def Zi:TS:=fun D σ H=>D.nx σ H
def tSeq (t u:TS):TS:=fun D σ H=>t { D with nx:=u D } σ H
theorem cG:PSs X [] Zi:=fun _ _ σ H _ I h=>wpAny_execs_nil ⟨σ,H,I,h⟩
theorem aB (h1:PS X st t) (h2:PSs X rest u):PSs X (st :: rest) (tSeq t u):=by
  intro pins s σ H D I h
  refine wpAny_execs_cons (thn (h1 pins s σ H { D with nx:=u D } I h) fun f s1 q=>?_)
  cases f with
  | next =>
    obtain ⟨σ',H',I',q⟩:=q
    exact h2 pins s1 σ' H' D I' q
  | ret v=>exact q
  | brk=>exact q
  | cont=>exact q
theorem aC (h1:PS X st t):PSs X [st] t:=by
  intro pins s σ H D I h
  refine wpAny_execs_cons (thn (h1 pins s σ H D I h) fun f s1 q=>?_)
  cases f with
  | next=>exact wpAny_execs_nil q
  | ret v=>exact q
  | brk=>exact q
  | cont=>exact q
theorem Inv.quiet {pins:List (Addr × Obj)} {σ:St} {H:Hp} {s:Shared} (I:Inv X pins σ H s):interactive X.env=false:=by simp [interactive,I.ok.kind]
def Zm (te:TE):TS:=fun D σ H=>te σ H fun _ H1=>D.nx σ H1
theorem cj (he:PE X e te) (hs:swapsWith e none pos.line X.env=pure false:=by rfl):PS X (.Expr e pos) (Zm te):=by
  intro pins s σ H D I h
  exact wpAny_Expr_any (thn (he pins s σ H _ I h) fun v s1 ⟨x,H1,I1,r1,q1⟩=>⟨σ,H1,I1,q1⟩) I.quiet hs
def tRet (te:TE):TS:=fun D σ H=>te σ H D.rt
theorem bw (he:PE X e te):PS X (.Return (some e) pos) (tRet te):=by
  intro pins s σ H D I h
  exact wpAny_Return_some (thn (he pins s σ H _ I h) fun v s1 ⟨x,H1,I1,r1,q1⟩=>⟨x,σ,H1,I1,r1,q1⟩)
def tIfS (c:TT) (t u:TS):TS:=fun D σ H=>c σ H fun b H1=>if b=true then t D σ H1 else u D σ H1
theorem iV {c:Expr} {a b:List Stmt} {tc:TT} (hc:PT X c tc) (ha:PSs X a t) (hb:PSs X b u):PS X (.If c a b pos) (tIfS tc t u):=by
  intro pins s σ H D I h
  refine wpAny_If (thn (hc pins s σ H _ I h) fun d s1 ⟨H1,I1,q1⟩=>?_)
  cases d with
  | true=>exact ha pins s1 σ H1 D I1 q1
  | false=>exact hb pins s1 σ H1 D I1 q1
def VH:TS:=fun _ _ _=>False
theorem kO:PS X st VH:=fun _ _ _ _ _ _ h=>h.elim
end
abbrev TG:=V→St→Hp→(St→Hp→Prop)→Prop
abbrev TGs:=List V→St→Hp→(St→Hp→Prop)→Prop
def PG (X:Cx) (target:Expr) (t:TG):Prop :=
  ∀ (pins:List (Addr × Obj)) (s:Shared) (σ:St) (H:Hp) (v:V) (u:Value) (Q:St→Hp→Prop),Inv X pins σ H s→RelV v u→t v σ H Q →
    wpAny (model X.prog X.w) X.A (assign target X.env u) (fun _ s'=>∃ σ' H',Inv X pins σ' H' s'∧Q σ' H') X.xe s
def PGs (X:Cx) (ts:List Expr) (t:TGs):Prop :=
  ∀ (pins:List (Addr × Obj)) (s:Shared) (σ:St) (H:Hp) (vs:List V) (us:List Value) (Q:St→Hp→Prop),Inv X pins σ H s→Vals vs us→t vs σ H Q →
    wpAny (model X.prog X.w) X.A (assignInOrder ((assignEach ts X.env).map (·.2)) us) (fun _ s'=>∃ σ' H',Inv X pins σ' H' s'∧Q σ' H') X.xe s
abbrev Y6:=V→V→V→Hp→(Hp→Prop)→Prop
def aac (X:Cx) (t:Y6):Prop :=
  ∀ (pins:List (Addr × Obj)) (s:Shared) (σ:St) (H:Hp) (o i v:V) (ov iv u:Value) (Q:Hp→Prop),Inv X pins σ H s→RelV o ov→RelV i iv→RelV v u→t o i v H Q →
    wpAny (model X.prog X.w) X.A (setItem ov iv u) (fun _ s'=>∃ H',Inv X pins σ H' s'∧Q H') X.xe s
abbrev TIp:=V→V→Hp→VK→Prop
def PIp (X:Cx) (op:Operator) (t:TIp):Prop :=
  ∀ (pins:List (Addr × Obj)) (s:Shared) (σ:St) (H:Hp) (x y:V) (v u:Value) (Q:VK),Inv X pins σ H s→RelV x v→RelV y u→t x y H Q →
    wpAny (model X.prog X.w) X.A (inplaceOp op v u) (EP X pins σ Q) X.xe s
section
variable {X:Cx} {pos:Pos}
def KZ (i:Nat):TG:=fun v σ H Q=>Q (σ.set i (some v)) H
theorem aM {i:Nat} {x:Str} (hN:X.N.Nodup) (hi:X.N[i]?=some x) (hx:Loc X.env.scope x) (hf:X.fn x=true∨X.env.scope.names.lookup x=some .local:=by first | exact .inl rfl | exact .inr rfl | assumption):PG X (.Name x pos) (KZ i):=by
  intro pins s σ H v u Q I r h
  exact wpAny_assign_Name (wH I hN hi hx r (fun s' I'=>⟨_,H,I',h⟩) hf)
def gNil:TGs:=fun vs σ H Q=>vs=[]∧Q σ H
def Z4 (t:TG) (u:TGs):TGs:=fun vs σ H Q=>∃ v r,vs=v :: r∧t v σ H fun σ' H'=>u r σ' H' Q
theorem jJ:PGs X [] gNil:=by
  intro pins s σ H vs us Q I r h
  obtain ⟨e,h⟩:=h
  subst e
  cases r
  exact assignInOrder_nil ⟨σ,H,I,h⟩
theorem bM {e:Expr} {es:List Expr} {t:TG} {u:TGs} (h1:PG X e t) (h2:PGs X es u)
    (hs:(assignEach (e :: es) X.env).map (·.2)=assign e X.env :: (assignEach es X.env).map (·.2):=by rfl):PGs X (e :: es) (Z4 t u):=by
  intro pins s σ H vs us Q I r h
  obtain ⟨v,vr,e1,h⟩:=h
  subst e1
  cases r with
  | cons r rr =>
    rw [hs]
    refine assignInOrder_cons (thn (h1 pins s σ H _ _ _ I r h) fun _ s1 ⟨σ1,H1,I1,q1⟩=>?_)
    exact h2 pins s1 σ1 H1 _ _ Q I1 rr q1
def aao (K:PySem.W.Frag) (n:Nat) (t:TGs):TG:=fun v σ H Q=>∃ a xs,v=.ref a∧SqT K H a xs∧xs.length=n∧t xs σ H Q
theorem qg {es:List Expr} {k:Nat} {t:TGs} {n:Nat} (hc:X.calm=true) (h:PGs X es t)
    (hn:(assignEach es X.env).length=n:=by rfl) (hst:(assignEach es X.env).findIdx? (·.1)=none:=by rfl):PG X (.Tuple es k pos) (aao X.K n t):=by
  intro pins s σ H v u Q I r hw
  obtain ⟨a,xs,e1,hq,hl,hw⟩:=hw
  subst e1
  cases r
  obtain ⟨its,rv,ht,hz⟩:=I.tuple hq
  refine assign_Tuple_tuple (I.ok.hd hc) ht (by simp [hn,← hl,rv.length]) hst fun h' hx=>?_
  have I1:Inv X pins σ H { s with heap:=h' }:=I.kept (t':=s.toks) fun b o e=>hx b o (Nat.ne_of_lt (Heap.lt_size e)) e
  exact h pins _ σ H xs _ Q I1 (by simpa using rv) hw
def gSub (to ti:TE) (t:Y6):TG:=fun v σ H Q=>to σ H fun o H1=>ti σ H1 fun i H2=>t o i v H2 fun H3=>Q σ H3
theorem Ai {o i:Expr} {to ti:TE} {t:Y6} (ho:PE X o to) (hi:PE X i ti) (hs:aac X t)
    (ha:∀ v,assign (.Subscript o i pos) X.env v=(do
      let ov ← holding [v] (eval o X.env)
      let iv ← holding [v,ov] (eval i X.env)
      standAt pos
      holding [v,ov,iv] (setItem ov iv v)
      release [v,ov,iv] []):=by intro _;rfl):PG X (.Subscript o i pos) (gSub to ti t):=by
  intro pins s σ H v u Q I r h
  rw [ha]
  refine wpAny_bind (wpAny_holding (thn (ho pins s σ H _ I h) fun ov s1 ⟨x,H1,I1,r1,q1⟩=>?_))
  refine wpAny_bind (wpAny_holding (thn (hi pins s1 σ H1 _ I1 q1) fun iv s2 ⟨y,H2,I2,r2,q2⟩=>?_))
  refine wpAny_bind (wpAny_standAt (wpAny_bind (wpAny_holding (thn (hs pins s2 σ H2 x y v ov iv u _ I2 r1 r2 r q2) fun _ s3 ⟨H3,I3,q3⟩=>?_))))
  exact wpAny_release ⟨σ,H3,I3,q3⟩
def Zt (te:TE) (g:TG):TS:=fun D σ H=>te σ H fun x H1=>g x σ H1 D.nx
theorem qe {tg e:Expr} {te:TE} {g:TG} (he:PE X e te) (hg:PG X tg g) (hs:swapsWithSole [tg] e pos.line X.env=pure false:=by rfl) (hw:swappedStores [tg] e X.env=pure none:=by rfl)
    (h1:(assignEach [tg] X.env).map (·.2)=[assign tg X.env]:=by rfl):PS X (.Assign [tg] e pos) (Zt te g):=by
  intro pins s σ H D I h
  refine wpAny_Assign_stores (thn (he pins s σ H _ I h) fun v s1 ⟨x,H1,I1,r1,q1⟩=>?_) hs hw
  rw [h1]
  exact thn (hg pins s1 σ H1 x v _ I1 r1 q1) fun _ s2 q=>q
theorem bh {i:Nat} {x:Str} {e:Expr} {te:TE} {pos':Pos} (hN:X.N.Nodup) (hi:X.N[i]?=some x) (hx:Loc X.env.scope x) (he:PE X e te) (hs:swapsWith e (some (.Name x pos')) pos.line X.env=pure false:=by rfl) (hf:X.fn x=true∨X.env.scope.names.lookup x=some .local:=by first | exact .inl rfl | exact .inr rfl | assumption) :
    PS X (.Assign [.Name x pos'] e pos) (Zt te (KZ i)):=by
  intro pins s σ H D I h
  refine wpAny_Assign_Name (thn (he pins s σ H _ I h) fun v s1 ⟨y,H1,I1,r1,q1⟩=>?_) hs
  exact wH I1 hN hi hx r1 (fun s2 I2=>⟨_,H1,I2,q1⟩) hf
def Zr (to ti te:TE) (tget:V→V→Hp→VK→Prop) (tip:TIp) (tset:Y6):TS:=fun D σ H=>to σ H fun o H1=>ti σ H1 fun i H2=>tget o i H2 fun x H3=>te σ H3 fun y H4=>tip x y H4 fun z H5=>tset o i z H5 fun H6=>D.nx σ H6
def aar (X:Cx) (t:V→V→Hp→VK→Prop):Prop :=
  ∀ (pins:List (Addr × Obj)) (s:Shared) (σ:St) (H:Hp) (o i:V) (ov iv:Value) (Q:VK),Inv X pins σ H s→RelV o ov→RelV i iv→t o i H Q →
    wpAny (model X.prog X.w) X.A (getItem ov iv) (EP X pins σ Q) X.xe s
theorem oK {o i e:Expr} {to ti te:TE} {tget:V→V→Hp→VK→Prop} {tip:TIp} {tset:Y6} {op:Operator} {tpos:Pos} (ho:PE X o to) (hi:PE X i ti) (hg:aar X tget) (he:PE X e te) (hp:PIp X op tip) (hs:aac X tset)
    (ha:∀ ov iv new,augStore i ov iv new=(do holding [new,ov,iv] (setItem ov iv new);release [new,ov,iv] [];pure .next):=by intros;rfl):PS X (.AugAssign (.Subscript o i tpos) op e pos) (Zr to ti te tget tip tset):=by
  intro pins s σ H D I h
  refine wpAny_AugAssign_SubscriptAny (thn (ho pins s σ H _ I h) fun ov s1 ⟨x1,H1,I1,r1,q1⟩=>?_) ha
  refine thn (hi pins s1 σ H1 _ I1 q1) fun iv s2 ⟨x2,H2,I2,r2,q2⟩=>?_
  refine thn (hg pins s2 σ H2 x1 x2 ov iv _ I2 r1 r2 q2) fun old s3 ⟨x3,H3,I3,r3,q3⟩=>?_
  refine thn (he pins s3 σ H3 _ I3 q3) fun v s4 ⟨x4,H4,I4,r4,q4⟩=>?_
  refine thn (hp pins s4 σ H4 x3 x4 old v _ I4 r3 r4 q4) fun new s5 ⟨x5,H5,I5,r5,q5⟩=>?_
  exact thn (hs pins s5 σ H5 x1 x2 x5 ov iv new _ I5 r1 r2 r5 q5) fun _ s6 ⟨H6,I6,q6⟩=>⟨σ,H6,I6,q6⟩
def ipI (f:Int→Int→Int):TIp:=fun x y H Q=>∃ i j,x=.int i∧y=.int j∧Q (.int (f i j)) H
theorem xH:PIp X .Add (ipI fun i j=>i + j):=by
  intro pins s σ H x y v u Q I r1 r2 h
  obtain ⟨i,j,e1,e2,q⟩:=h
  subst e1;subst e2
  obtain ⟨t,rfl⟩:=r1
  obtain ⟨t',rfl⟩:=r2
  exact iadd_int ⟨.int _,H,I.tok _,⟨_,rfl⟩,q⟩
theorem WK:PIp X .Sub (ipI fun i j=>i - j):=by
  intro pins s σ H x y v u Q I r1 r2 h
  obtain ⟨i,j,e1,e2,q⟩:=h
  subst e1;subst e2
  obtain ⟨t,rfl⟩:=r1
  obtain ⟨t',rfl⟩:=r2
  exact isub_int ⟨.int _,H,I.tok _,⟨_,rfl⟩,q⟩
end
section
variable {X:Cx} {pos:Pos}
def VF (c:TT) (tb:TS):TS:=fun D σ H=>∃ W:Nat→St→Hp→Prop,(∃ m,W m σ H)∧∀ m σ H,W m σ H →
  c σ H fun b H1=>if b=true then ∃ N:St→Hp→Prop,(∀ σ' H',N σ' H'→∃ m',m'<m∧W m' σ' H')∧tb { D with nx:=N,ct:=N,bk:=D.nx } σ H1 else D.nx σ H1
theorem qZ {c:Expr} {body:List Stmt} {tc:TT} {tb:TS} (hp:PassesOwn (model X.prog X.w) X.A X.env X.xe) (hc:PT X c tc) (hb:PSs X body tb):PS X (.While c body [] pos) (VF tc tb):=by
  intro pins s σ H D I h
  obtain ⟨W,⟨m0,w0⟩,turn⟩:=h
  refine wpAny_While (codeAny_whileLoop (fun n s'=>∃ σ' H',Inv X pins σ' H' s'∧W n σ' H') ?_ m0 ⟨σ,H,I,w0⟩)
  rintro n s1 ⟨σ1,H1,I1,w1⟩
  refine wpAny_passesOwn hp (thn (hc pins s1 σ1 H1 _ I1 (turn n σ1 H1 w1)) fun b s2 ⟨H2,I2,q2⟩=>?_)
  cases b with
  | true =>
    obtain ⟨N,hN,q2⟩:=q2
    rw [if_pos rfl]
    refine wpAny_passesOwn hp (thn (hb pins s2 σ1 H2 _ I2 q2) fun f s3 q3=>?_)
    cases f with
    | next =>
      obtain ⟨σ3,H3,I3,n3⟩:=q3
      obtain ⟨m',hm,w3⟩:=hN σ3 H3 n3
      exact ⟨m',hm,σ3,H3,I3,w3⟩
    | cont =>
      obtain ⟨σ3,H3,I3,n3⟩:=q3
      obtain ⟨m',hm,w3⟩:=hN σ3 H3 n3
      exact ⟨m',hm,σ3,H3,I3,w3⟩
    | brk=>exact q3
    | ret v=>exact q3
  | false =>
    rw [if_neg Bool.false_ne_true]
    exact wpAny_execs_nil ⟨σ1,H2,I2,q2⟩
end
structure It where
  go:Nat→Hp→Prop
  yld:Nat→Hp→V→Hp→Prop
  stop:Nat→Hp→Prop
def uX (X:Cx) (pins:List (Addr × Obj)) (H:Hp) (b:Addr):Prop :=
  H b=none∧b≠X.env.locals∧b ∉ X.fs∧(b∈X.ex∨X.s₀.heap.objs.size≤b)∧(∀ x c,X.env.cells.lookup x=some c→c≠b)∧∀ p∈X.pn++pins,p.1≠b
theorem Inv.yI {X:Cx} {pins:List (Addr × Obj)} {σ:St} {H H':Hp} {s:Shared} {b:Addr} (I:Inv X pins σ H s) (hb:s.heap.objs.size≤b) (hn:H' b=none):uX X pins H' b:=by
  refine ⟨hn,Nat.ne_of_gt (Nat.lt_of_lt_of_le I.lt hb),I.nofs hb,.inr (Nat.le_trans I.sz hb),fun x c e z=>?_,fun p hp z=>?_⟩
  · obtain ⟨v,q⟩:=I.cell x c e
    exact absurd (Nat.lt_of_lt_of_le q.lt (by rw [z];exact hb)) (Nat.lt_irrefl _)
  · exact absurd (Nat.lt_of_lt_of_le (Heap.lt_size (I.pin p hp).1) (by rw [z];exact hb)) (Nat.lt_irrefl _)
structure Turn (P:Program) (w:World) (K:PySem.W.Frag) (tg:Expr) (J:It) (fp:List Addr) (it:Addr) (tn:Nat→Heap→Prop):Prop where
  mem:it∈fp
  obj:∀ i h,tn i h→∀ b∈fp,∃ o,h.get? b=some o∧∀ v,o.data≠.cell v
  keep:∀ i h h',tn i h→(∀ b∈fp,∀ o,h.get? b=some o→h'.get? b=some o)→tn i h'
  item:∀ (X:Cx),X.prog=P→X.w=w→X.K=K→X.calm=true→∀ (i:Nat) (pins:List (Addr × Obj)) (s:Shared) (σ:St) (H:Hp) (E:Value→Shared→Prop),Inv X pins σ H s→(∀ b∈fp,uX X pins H b)→tn i s.heap→J.go i H →
    wpAny (model P w) X.A (pyNext (.ref it)) (fun r s1=>∃ u,r=some u ∧
      wpAny (model P w) X.A (letOwnedTupleGo tg (.ref it) u) (fun _ s2=>∃ x H',Inv X pins σ H' s2∧RelV x u∧J.yld i H x H'∧tn (i + 1) s2.heap∧∀ b∈fp,H' b=none) E s1) E s
  done:∀ (X:Cx),X.prog=P→X.w=w→X.K=K→X.calm=true→∀ (i:Nat) (pins:List (Addr × Obj)) (s:Shared) (σ:St) (H:Hp) (E:Value→Shared→Prop),Inv X pins σ H s→(∀ b∈fp,uX X pins H b)→tn i s.heap→J.stop i H →
    wpAny (model P w) X.A (pyNext (.ref it)) (fun r s1=>r=none∧Inv X pins σ H s1) E s
  self:∀ (A:Around) (i:Nat) (s:Shared) (Q:Value→Shared→Prop) (E:Value→Shared→Prop),tn i s.heap→Q (.ref it) s→wpAny (model P w) A (pyIter (.ref it)) Q E s
abbrev TI:=St→Hp→(It→Hp→Prop)→Prop
def PIE (X:Cx) (pins:List (Addr × Obj)) (σ:St) (tg:Expr) (R:It→Hp→Prop) (itv:Value) (s2:Shared):Prop :=
  ∃ (it:Addr) (fp:List Addr) (tn:Nat→Heap→Prop) (J:It) (H':Hp),itv=.ref it∧Inv X pins σ H' s2∧Turn X.prog X.w X.K tg J fp it tn∧tn 0 s2.heap∧(∀ b∈fp,uX X pins H' b)∧R J H'
def PI (X:Cx) (tg iter:Expr) (wi:TI):Prop :=
  ∀ (pins:List (Addr × Obj)) (s:Shared) (σ:St) (H:Hp) (R:It→Hp→Prop),Inv X pins σ H s→wi σ H R →
    wpAny (model X.prog X.w) X.A (eval iter X.env) (fun v s1=>wpAny (model X.prog X.w) X.A (pyIter v) (PIE X pins σ tg R) X.xe s1) X.xe s
theorem Vd {M:Model} {A:Around} {E:Value→Shared→Prop} {s:Shared} {tg:Expr} {it:Addr} {u:Value} {o:Obj} {n:String} {vs:Array Value} {Q:Unit→Shared→Prop} (ho:s.heap.get? it=some o) (hc:o.cls=.type n) (hd:o.data=.fields vs)
    (hn:["enumerate","zip","dict_itemiterator","dict_reverseitemiterator","odict_iterator","itertools.zip_longest","itertools.pairwise"].contains n=false) (hQ:Q () s):wpAny M A (letOwnedTupleGo tg (.ref it) u) Q E s:=by
  unfold letOwnedTupleGo
  cases tg <;> first
    | exact wpAny_pure hQ
    | (cases u <;> first
        | exact wpAny_pure hQ
        | (refine wpAny_bind (wpAny_load ho ?_)
           rw [hc,hd]
           show wpAny M A (if (["enumerate","zip","dict_itemiterator","dict_reverseitemiterator","odict_iterator","itertools.zip_longest","itertools.pairwise"].contains n && vs[0]? == some (rawInt _))=true then _ else _) Q E s
           rw [if_neg (by intro h;rw [hn,Bool.false_and] at h;cases h)]
           exact wpAny_pure hQ))
def Itl (K:PySem.W.Frag) (a:Addr):It :=
  ⟨fun i H=>∃ xs x,SqL K H a xs∧xs[i]?=some x,fun i H x H'=>H'=H∧∀ xs,SqL K H a xs→xs[i]?=some x,fun i H=>∃ xs,SqL K H a xs∧xs.length≤i⟩
def Itr (lo:Int) (n:Nat):It:=⟨fun i _=>i<n,fun i H x H'=>H'=H∧x=.int (lo + i),fun i _=>n≤i⟩
theorem zj {P:Program} {w:World} {K:PySem.W.Frag} {tg:Expr} (a it:Addr):Turn P w K tg (Itl K a) [it] it (fun i h=>h.IsListIter it a i) where
  mem:=by simp
  obj:=fun i h st b hb=>by
    have e:b=it:=by simpa using hb
    subst e
    obtain ⟨o,e,c,d⟩:=st
    exact ⟨o,e,fun v z=>by rw [d] at z;cases z⟩
  keep:=fun i h h' st k=>st.at fun o e=>k it (by simp) o e
  item:=by
    intro X hP hw hK hc i pins s σ H E I hf st hg
    subst hP hw hK
    obtain ⟨xs,x,hq,hx⟩:=hg
    obtain ⟨its,rv,p,hz⟩:=I.list hq
    obtain ⟨u,hu,ru⟩:=rv.get hx
    obtain ⟨f0,f1,f2,f3,f4,f5⟩:=hf it (by simp)
    refine wpAny_pyNext_list_item st p.isList (x:=u) (by simpa using hu) fun h' st' sb=>?_
    have I1:Inv X pins σ H { s with heap:=h' }:=I.turned (t':=s.toks) (fun b o hb e=>(sb.2 b hb).trans e) f0 f1 f3 f4 f5
    obtain ⟨o,e,c,d⟩:=id st'
    exact ⟨u,rfl,Vd (s:={ s with heap:=h' }) e c d (by decide) ⟨x,H,I1,ru,⟨rfl,fun ys hy=>by rw [I.Ks hy hq];exact hx⟩,st',fun b hb=>(hf b hb).1⟩⟩
  done:=by
    intro X hP hw hK hc i pins s σ H E I hf st hg
    subst hP hw hK
    obtain ⟨xs,hq,hx⟩:=hg
    obtain ⟨its,rv,p,hz⟩:=I.list hq
    obtain ⟨f0,f1,f2,f3,f4,f5⟩:=hf it (by simp)
    have hl:=rv.length
    exact wpAny_pyNext_list_end (I.ok.hd hc) st p.isList (by simp;omega) fun h' eb=>⟨rfl,I.turned (t':=s.toks) (fun b o hb e=>eb b o hb e) f0 f1 f3 f4 f5⟩
  self:=fun _ _ _ _ _ st h=>wpAny_pyIter_listiter st h
theorem yg {P:Program} {w:World} {K:PySem.W.Frag} {tg:Expr} (it:Addr) (lo:Int) (n:Nat):Turn P w K tg (Itr lo n) [it] it (fun i h=>IsRangeIter h it (lo + (i:Nat) * 1) ((n:Int) - (i:Nat)) 1) where
  mem:=by simp
  obj:=fun i h st b hb=>by
    have e:b=it:=by simpa using hb
    subst e
    exact ⟨_,st,fun v z=>by
      have z':Data.fields _=Data.cell v:=z
      cases z'⟩
  keep:=fun i h h' st k=>k it (by simp) _ st
  item:=by
    intro X hP hw hK hc i pins s σ H E I hf st hg
    subst hP hw hK
    obtain ⟨f0,f1,f2,f3,f4,f5⟩:=hf it (by simp)
    have W:=Walks.range (prog:=X.prog) (w:=X.w) (I.ok.hd hc) it lo 1 n
    refine W.item i s _ _ hg st fun v h' tk hv st' kk=>?_
    obtain ⟨t,rfl⟩:=hv
    have I1:Inv X pins σ H { s with heap:=h',toks:=tk }:=I.turned (fun b o hb e=>kk b o (by simpa using hb) e) f0 f1 f3 f4 f5
    refine ⟨_,rfl,Vd (s:={ s with heap:=h',toks:=tk }) (n:="range_iterator") st' rfl rfl (by decide) ⟨.int (lo + i),H,I1,⟨t,?_⟩,⟨rfl,rfl⟩,st',fun b hb=>(hf b hb).1⟩⟩
    rw [Int.mul_one]
  done:=by
    intro X hP hw hK hc i pins s σ H E I hf st hg
    subst hP hw hK
    obtain ⟨f0,f1,f2,f3,f4,f5⟩:=hf it (by simp)
    exact wpAny_pyNext_range_end (I.ok.hd hc) st (by have:n≤i:=hg;omega) fun h' eb=>⟨rfl,I.turned (t':=s.toks) (fun b o hb e=>eb b o hb e) f0 f1 f3 f4 f5⟩
  self:=fun _ _ _ _ _ st h=>wpAny_pyIter_rangeiter st h
end L2
namespace L2
open PySem PySem.Spec PyProof.Rows
section
variable {X:Cx} {tg:Expr}
def ZW (K:PySem.W.Frag) (tl:TE):TI:=fun σ H R=>tl σ H fun x H1=>∃ a,x=.ref a∧(∃ xs,SqL K H1 a xs)∧R (Itl K a) H1
theorem eZ {l:Expr} {tl:TE} (hl:PE X l tl):PI X tg l (ZW X.K tl):=by
  intro pins s σ H R I h
  refine thn (hl pins s σ H _ I h) fun v s1 ⟨x,H1,I1,r1,q1⟩=>?_
  obtain ⟨a,e,⟨xs,hq⟩,q⟩:=q1
  subst e
  cases r1
  obtain ⟨its,rv,p,hz⟩:=I1.list hq
  refine wpAny_pyIter_list p.isList ?_
  refine ⟨s1.heap.objs.size,[s1.heap.objs.size],_,_,H1,rfl,I1.kept (t':=s1.toks) fun b o e=>Heap.get?_push_of_some _ e,zj a _,⟨_,Heap.get?_push_size _ rfl,rfl,rfl⟩,fun b hb=>?_,q⟩
  have e:b=s1.heap.objs.size:=by simpa using hb
  subst e
  exact I1.yI (Nat.le_refl _) (I1.hok.fresh (Nat.le_refl _))
theorem wZ {pins:List (Addr × Obj)} {σ:St} {H:Hp} {s:Shared} {R:It→Hp→Prop} {E:Value→Shared→Prop} {lo hi:Int} {t u v:Tok} {tk:Nat} (I:Inv X pins σ H s) (h1:-(2 ^ 62)≤lo) (h2:lo<2 ^ 62) (h3:-(2 ^ 62)≤hi) (h4:hi<2 ^ 62)
    (q:R (Itr lo (hi - lo).toNat) H):wpAny (model X.prog X.w) X.A (pyIter (.ref s.heap.objs.size)) (PIE X pins σ tg R) E { s with heap:=s.heap.push { cls:=.type "range",data:=.fields #[.int lo t,.int hi u,.int 1 v] },toks:=tk }:=by
  refine wpAny_pyIter_range (IsRange.new ..) (small_one h1 h2 h3 h4) ?_
  have I1:Inv X pins σ H { s with heap:=s.heap.push { cls:=.type "range",data:=.fields #[.int lo t,.int hi u,.int 1 v] },toks:=tk }:=I.kept fun b o e=>Heap.get?_push_of_some _ e
  refine ⟨(s.heap.push { cls:=.type "range",data:=.fields #[.int lo t,.int hi u,.int 1 v] }).objs.size,[(s.heap.push { cls:=.type "range",data:=.fields #[.int lo t,.int hi u,.int 1 v] }).objs.size],_,_,H,rfl,
    I1.kept (t':=tk) fun b o e=>Heap.get?_push_of_some _ e,yg _ lo (hi - lo).toNat,?_,fun b hb=>?_,q⟩
  · have e1:lo + ((0:Nat):Int) * 1=lo:=by simp
    have e2:(((hi - lo).toNat:Nat):Int) - ((0:Nat):Int)=Builtin.Range.rangeSize lo hi 1:=by rw [rangeSize_one];split <;> omega
    show IsRangeIter _ _ (lo + ((0:Nat):Int) * 1) ((((hi - lo).toNat:Nat):Int) - ((0:Nat):Int)) 1
    rw [e1,e2]
    exact Heap.get?_push_size _ rfl
  · have e:b=(s.heap.push { cls:=.type "range",data:=.fields #[.int lo t,.int hi u,.int 1 v] }).objs.size:=by simpa using hb
    subst e
    exact I1.yI (Nat.le_refl _) (I1.hok.fresh (Nat.le_refl _))
def ZV (ta:TA):TI:=fun σ H R=>ta σ H fun vs H1=>∃ j:Int,vs=[.int j]∧-(2 ^ 62)≤j∧j<2 ^ 62∧R (Itr 0 j.toNat) H1
def ZS (ta:TA):TI:=fun σ H R=>ta σ H fun vs H1=>∃ i j:Int,vs=[.int i,.int j]∧(-(2 ^ 62)≤i∧i<2 ^ 62∧-(2 ^ 62)≤j∧j<2 ^ 62)∧R (Itr i (j - i).toNat) H1
theorem j4 {a:Expr} {ta:TA} {p pos:Pos} (hg:Gl X "range") (hm:X.mg "range"=none) (ha:PA X [a] ta) (hs:starEach [a] X.env=[(false,eval a X.env)]:=by rfl):PI X tg (.Call (.Name "range" p) [a] [] pos) (ZV ta):=by
  intro pins s σ H R I h
  refine Call_ (jA I hg hm boot_range (PyProof.Rows.callWith_type1 (thn (ha pos pins s σ H _ I h) fun us s1 ⟨vs,H1,I1,r1,q1⟩=>?_) hs rfl))
  obtain ⟨j,e,q1,q2,q⟩:=q1
  subst e
  cases r1 with
  | cons r rr =>
    cases rr
    obtain ⟨t,rfl⟩:=r
    exact call_range_1 (wZ I1 (by omega) (by omega) q1 q2 (by simpa using q))
theorem Ah {a b:Expr} {ta:TA} {p pos:Pos} (hg:Gl X "range") (hm:X.mg "range"=none) (ha:PA X [a,b] ta) (hs:starEach [a,b] X.env=[(false,eval a X.env),(false,eval b X.env)]:=by rfl) (hs2:starEach [b] X.env=[(false,eval b X.env)]:=by rfl) :
    PI X tg (.Call (.Name "range" p) [a,b] [] pos) (ZS ta):=by
  intro pins s σ H R I h
  refine Call_ (jA I hg hm boot_range (PyProof.Rows.callWith_type1 (thn (ha pos pins s σ H _ I h) fun us s1 ⟨vs,H1,I1,r1,q1⟩=>?_) (by rw [hs,hs2]) (by rw [hs2];rfl)))
  obtain ⟨i,j,e,⟨q1,q2,q3,q4⟩,q⟩:=q1
  subst e
  cases r1 with
  | cons r rr =>
    cases rr with
    | cons r' rr =>
      cases rr
      obtain ⟨t,rfl⟩:=r
      obtain ⟨t',rfl⟩:=r'
      exact call_range_2 (wZ I1 q1 q2 q3 q4 q)
def tFor (wi:TI) (g:TG) (tb:TS):TS:=fun D σ H=>wi σ H fun J H1=>∃ W:Nat→Nat→St→Hp→Prop,(∃ m,W 0 m σ H1)∧∀ i m σ H,W i m σ H →
  (J.stop i H∧D.nx σ H)∨(J.go i H∧∃ N:St→Hp→Prop,(∀ σ' H',N σ' H'→∃ m',m'<m∧W (i + 1) m' σ' H')∧∀ x H',J.yld i H x H'→g x σ H' fun σ2 H2=>tb { D with nx:=N,ct:=N,bk:=D.nx } σ2 H2)
def tX (fp:List Addr) (h:Heap):List (Addr × Obj):=fp.filterMap fun b=>(h.get? b).map fun o=>(b,o)
theorem kW {fp:List Addr} {h:Heap} {b:Addr} {o:Obj} (hb:b∈fp) (e:h.get? b=some o):(b,o)∈tX fp h:=List.mem_filterMap.mpr ⟨b,hb,by rw [e];rfl⟩
theorem Az {fp:List Addr} {h:Heap} {p:Addr × Obj} (hp:p∈tX fp h):p.1∈fp∧h.get? p.1=some p.2:=by
  obtain ⟨b,hb,e⟩:=List.mem_filterMap.mp hp
  cases q:h.get? b with
  | none=>rw [q] at e;cases e
  | some o =>
    rw [q] at e
    have e':(b,o)=p:=Option.some.inj e
    subst e'
    exact ⟨hb,q⟩
theorem Inv.pinned {pins:List (Addr × Obj)} {σ:St} {H:Hp} {s:Shared} {fp:List Addr} (I:Inv X pins σ H s) (hf:∀ b∈fp,uX X pins H b) (ho:∀ b∈fp,∃ o,s.heap.get? b=some o∧∀ v,o.data≠.cell v):Inv X (pins++tX fp s.heap) σ H s :=
  I.vo fun p hp=>(List.mem_append.mp hp).elim (fun z=>I.pin p (List.mem_append_right _ z)) fun z=>by
    obtain ⟨hb,e⟩:=Az z
    obtain ⟨f0,f1,f2,_⟩:=hf p.1 hb
    obtain ⟨o,e',d⟩:=ho p.1 hb
    rw [e] at e';cases e'
    exact ⟨e,f0,f1,f2,d⟩
theorem Inv.iG {pins pl:List (Addr × Obj)} {σ:St} {H:Hp} {s:Shared} (I:Inv X (pins++pl) σ H s):Inv X pins σ H s:=I.vo fun p hp=>I.pin p (List.mem_append_right _ (List.mem_append_left _ hp))
theorem jP {iter:Expr} {body:List Stmt} {wi:TI} {g:TG} {tb:TS} {pos:Pos} (hp:PassesOwn (model X.prog X.w) X.A X.env X.xe) (hc:X.calm=true) (hi:PI X tg iter wi) (hg:PG X tg g) (hb:PSs X body tb)
    (hs:∀ x,foldedSetIterable iter X.env x=pure x:=by intro _;rfl):PS X (.For tg iter body [] pos) (tFor wi g tb):=by
  intro pins s σ H D I h
  refine wpAny_For (thn (hi pins s σ H _ I h) fun v s1 h1=>thn h1 fun itv s2 h2=>?_) hs
  obtain ⟨it,fp,tn,J,H2,e,I2,T,st2,f2,W,⟨m0,w0⟩,turn⟩:=h2
  subst e
  have stat:∀ {H':Hp},(∀ b∈fp,H' b=none)→∀ b∈fp,uX X pins H' b:=fun hn b hb=>⟨hn b hb,(f2 b hb).2⟩
  refine codeAny_forLoop_any (fun n s'=>∃ i σ' H',Inv X pins σ' H' s'∧tn i s'.heap∧(∀ b∈fp,H' b=none)∧W i n σ' H') ?_ m0 ⟨0,σ,H2,I2,st2,fun b hb=>(f2 b hb).1,w0⟩
  rintro n s3 ⟨i,σ3,H3,I3,st3,fr3,w3⟩
  rcases turn i n σ3 H3 w3 with ⟨stop,qn⟩ | ⟨go,N,hN,step⟩
  · refine wpAny_passesOwn hp (thn (T.done X rfl rfl rfl hc i pins s3 σ3 H3 X.xe I3 (stat fr3) st3 stop) fun r s4 ⟨hr,I4⟩=>?_)
    subst hr
    exact wpAny_execs_nil ⟨σ3,H3,I4,qn⟩
  · refine wpAny_passesOwn hp (thn (T.item X rfl rfl rfl hc i pins s3 σ3 H3 X.xe I3 (stat fr3) st3 go) fun r s4 ⟨u,hr,h4⟩=>?_)
    subst hr
    refine wpAny_passesOwn hp (thn h4 fun _ s5 ⟨x,H5,I5,r5,y5,st5,fr5⟩=>?_)
    have I5':=I5.pinned (stat fr5) (T.obj _ _ st5)
    refine wpAny_passesOwn hp (thn (hg _ s5 σ3 H5 x u _ I5' r5 (step x H5 y5)) fun _ s6 ⟨σ6,H6,I6,q6⟩=>?_)
    refine wpAny_passesOwn hp (thn (hb _ s6 σ6 H6 _ I6 q6) fun f s7 q7=>?_)
    have again:∀ {σ7:St} {H7:Hp},Inv X (pins++tX fp s5.heap) σ7 H7 s7→N σ7 H7→∃ m,m<n∧∃ i σ' H',Inv X pins σ' H' s7∧tn i s7.heap∧(∀ b∈fp,H' b=none)∧W i m σ' H':=fun {σ7 H7} I7 n7=>by
      obtain ⟨m',hm,w7⟩:=hN σ7 H7 n7
      refine ⟨m',hm,i + 1,σ7,H7,I7.iG,T.keep _ _ _ st5 fun b hb o e=>(I7.pin (b,o) (List.mem_append_right _ (List.mem_append_right _ (kW hb e)))).1,fun b hb=>?_,w7⟩
      obtain ⟨o,e,d⟩:=T.obj _ _ st5 b hb
      exact (I7.pin (b,o) (List.mem_append_right _ (List.mem_append_right _ (kW hb e)))).2.1
    cases f with
    | next=>obtain ⟨σ7,H7,I7,n7⟩:=q7;exact again I7 n7
    | cont=>obtain ⟨σ7,H7,I7,n7⟩:=q7;exact again I7 n7
    | brk=>obtain ⟨σ7,H7,I7,q7⟩:=q7;exact ⟨σ7,H7,I7.iG,q7⟩
    | ret v=>obtain ⟨x7,σ7,H7,I7,r7,q7⟩:=q7;exact ⟨x7,σ7,H7,I7.iG,r7,q7⟩
end
theorem jo {K:PySem.W.Frag} {a:Addr} {xs:List V} {g:TG} {tb:TS} {D:Ends} {σ:St} {H:Hp} (Pv:Nat→St→Hp→Prop) (h0:Pv 0 σ H) (hl:∀ i σ H,i≤xs.length→Pv i σ H→SqL K H a xs)
    (hs:∀ i x σ H,xs[i]?=some x→Pv i σ H→g x σ H fun σ2 H2=>tb { D with nx:=Pv (i + 1),ct:=Pv (i + 1),bk:=D.nx } σ2 H2) (hd:∀ σ H,Pv xs.length σ H→D.nx σ H) :
    ∃ W:Nat→Nat→St→Hp→Prop,(∃ m,W 0 m σ H)∧∀ i m σ H,W i m σ H →
      ((Itl K a).stop i H∧D.nx σ H)∨((Itl K a).go i H∧∃ N:St→Hp→Prop,(∀ σ' H',N σ' H'→∃ m',m'<m∧W (i + 1) m' σ' H')∧∀ x H',(Itl K a).yld i H x H'→g x σ H' fun σ2 H2=>tb { D with nx:=N,ct:=N,bk:=D.nx } σ2 H2):=by
  refine ⟨fun i m σ H=>m=xs.length - i∧i≤xs.length∧Pv i σ H,⟨xs.length,by simp,Nat.zero_le _,h0⟩,?_⟩
  rintro i m σ H ⟨rfl,hi,p⟩
  have q:=hl i σ H hi p
  by_cases hlt:i<xs.length
  · refine .inr ⟨⟨xs,xs[i],q,by simp [hlt]⟩,Pv (i + 1),fun σ' H' p'=>⟨xs.length - (i + 1),by omega,rfl,hlt,p'⟩,fun x H' y=>?_⟩
    obtain ⟨e,y⟩:=y
    subst e
    exact hs i x σ _ (y xs q) p
  · have e:i=xs.length:=by omega
    subst e
    exact .inl ⟨⟨xs,q,Nat.le_refl _⟩,hd σ H p⟩
theorem ux {lo:Int} {n:Nat} {g:TG} {tb:TS} {D:Ends} {σ:St} {H:Hp} (Pv:Nat→St→Hp→Prop) (h0:Pv 0 σ H)
    (hs:∀ i σ H,i<n→Pv i σ H→g (.int (lo + i)) σ H fun σ2 H2=>tb { D with nx:=Pv (i + 1),ct:=Pv (i + 1),bk:=D.nx } σ2 H2) (hd:∀ σ H,Pv n σ H→D.nx σ H) :
    ∃ W:Nat→Nat→St→Hp→Prop,(∃ m,W 0 m σ H)∧∀ i m σ H,W i m σ H →
      ((Itr lo n).stop i H∧D.nx σ H)∨((Itr lo n).go i H∧∃ N:St→Hp→Prop,(∀ σ' H',N σ' H'→∃ m',m'<m∧W (i + 1) m' σ' H')∧∀ x H',(Itr lo n).yld i H x H'→g x σ H' fun σ2 H2=>tb { D with nx:=N,ct:=N,bk:=D.nx } σ2 H2):=by
  refine ⟨fun i m σ H=>m=n - i∧i≤n∧Pv i σ H,⟨n,by simp,Nat.zero_le _,h0⟩,?_⟩
  rintro i m σ H ⟨rfl,hi,p⟩
  by_cases hlt:i<n
  · refine .inr ⟨hlt,Pv (i + 1),fun σ' H' p'=>⟨n - (i + 1),by omega,rfl,hlt,p'⟩,fun x H' y=>?_⟩
    obtain ⟨e,y⟩:=y
    subst e y
    exact hs i σ _ hlt p
  · have e:i=n:=by omega
    subst e
    exact .inl ⟨Nat.le_refl _,hd σ H p⟩
end L2
namespace L2
open PySem PySem.Spec PyProof.Rows
abbrev R2:=V→V→Hp→VK→Prop
def OpR (X:Cx) (f:Value→Value→Sem Value) (r:R2):Prop :=
  ∀ (pins:List (Addr × Obj)) (s:Shared) (σ:St) (H:Hp) (x y:V) (v u:Value) (Q:VK),Inv X pins σ H s→RelV x v→RelV y u→r x y H Q →
    wpAny (model X.prog X.w) X.A (f v u) (EP X pins σ Q) X.xe s
def UnR (X:Cx) (f:Value→Sem Value) (r:V→Hp→VK→Prop):Prop :=
  ∀ (pins:List (Addr × Obj)) (s:Shared) (σ:St) (H:Hp) (x:V) (v:Value) (Q:VK),Inv X pins σ H s→RelV x v→r x H Q →
    wpAny (model X.prog X.w) X.A (f v) (EP X pins σ Q) X.xe s
def pO (X:Cx) (f:Value) (r:List V→Hp→VK→Prop):Prop :=
  ∀ (pins:List (Addr × Obj)) (s:Shared) (σ:St) (H:Hp) (xs:List V) (us:List Value) (Q:VK),Inv X pins σ H s→Vals xs us→r xs H Q →
    wpAny (model X.prog X.w) X.A (call f us) (EP X pins σ Q) X.xe s
def TruR (X:Cx) (r:V→Hp→(Bool→Hp→Prop)→Prop):Prop :=
  ∀ (pins:List (Addr × Obj)) (s:Shared) (σ:St) (H:Hp) (x:V) (v:Value) (Q:Bool→Hp→Prop),Inv X pins σ H s→RelV x v→r x H Q →
    wpAny (model X.prog X.w) X.A (truthy v) (TP X pins σ Q) X.xe s
def tOp (r:R2) (ta tb:TE):TE:=fun σ H Q=>ta σ H fun x H1=>tb σ H1 fun y H2=>r x y H2 Q
def tUn (r:V→Hp→VK→Prop) (ta:TE):TE:=fun σ H Q=>ta σ H fun x H1=>r x H1 Q
def rI (C:Int→Int→Prop) (g:Int→Int→V):R2:=fun x y H Q=>∃ i j,x=.int i∧y=.int j∧C i j∧Q (g i j) H
def rI0 (g:Int→Int→V):R2:=fun x y H Q=>∃ i j,x=.int i∧y=.int j∧Q (g i j) H
def rU (g:Int→V):V→Hp→VK→Prop:=fun x H Q=>∃ i,x=.int i∧Q (g i) H
section
variable {X:Cx} {a b c:Expr} {ta tb tc:TE} {pos:Pos}
theorem Z8 (ha:PE X a ta) (hb:PE X b tb) {pins:List (Addr × Obj)} {s:Shared} {σ:St} {H:Hp} {R:V→V→Hp→Prop} (I:Inv X pins σ H s)
    (h:ta σ H fun x H1=>tb σ H1 fun y H2=>R x y H2) {Q:Value→Shared→Prop} {f:Value→Value→Sem Value}
    (hf:∀ v u s2 x y H2,Inv X pins σ H2 s2→RelV x v→RelV y u→R x y H2→wpAny (model X.prog X.w) X.A (f v u) Q X.xe s2) :
    wpAny (model X.prog X.w) X.A (eval a X.env) (fun v s₁=>wpAny (model X.prog X.w) X.A (eval b X.env) (fun u s₂=>wpAny (model X.prog X.w) X.A (f v u) Q X.xe s₂) X.xe s₁) X.xe s:=by
  refine thn (ha pins s σ H _ I h) fun v s1 ⟨x,H1,I1,r1,q1⟩=>?_
  refine thn (hb pins s1 σ H1 _ I1 q1) fun u s2 ⟨y,H2,I2,r2,q2⟩=>?_
  exact hf v u s2 x y H2 I2 r1 r2 q2
theorem bA {op:Operator} {r:R2} (ho:OpR X (binaryOp op) r) (ha:PE X a ta) (hb:PE X b tb):PE X (.BinOp a op b pos) (tOp r ta tb):=by
  intro pins s σ H Q I h
  exact wpAny_BinOp (Z8 ha hb I h fun v u s2 x y H2 I2 rx ry q=>ho pins s2 σ H2 x y v u Q I2 rx ry q)
theorem rB {op:UnaryOp} {r:V→Hp→VK→Prop} (ho:UnR X (unaryOp op) r) (ha:PE X a ta):PE X (.UnaryOp op a pos) (tUn r ta):=by
  intro pins s σ H Q I h
  exact UnaryOp_ (thn (ha pins s σ H _ I h) fun v s1 ⟨x,H1,I1,r1,q1⟩=>ho pins s1 σ H1 x v Q I1 r1 q1)
theorem opI {f:Value→Value→Sem Value} {C:Int→Int→Prop} {g:Int→Int→Int}
    (rule:∀ (i j:Int) (t u:Tok) (s:Shared) (Q:Value→Shared→Prop) (E:Value→Shared→Prop),C i j→Q (.int (g i j) s.toks) { s with toks:=s.toks + 1 }→wpAny (model X.prog X.w) X.A (f (.int i t) (.int j u)) Q E s) :
    OpR X f (rI C fun i j=>.int (g i j)):=by
  intro pins s σ H x y v u Q I rx ry h
  obtain ⟨i,j,rfl,rfl,hc,q⟩:=h
  obtain ⟨t,rfl⟩:=rx
  obtain ⟨t',rfl⟩:=ry
  exact rule i j t t' s _ _ hc ⟨.int (g i j),H,I.tok _,⟨_,rfl⟩,q⟩
theorem aal {f:Value→Value→Sem Value} {g:Int→Int→Int}
    (rule:∀ (i j:Int) (t u:Tok) (s:Shared) (Q:Value→Shared→Prop) (E:Value→Shared→Prop),Q (.int (g i j) s.toks) { s with toks:=s.toks + 1 }→wpAny (model X.prog X.w) X.A (f (.int i t) (.int j u)) Q E s) :
    OpR X f (rI0 fun i j=>.int (g i j)):=by
  intro pins s σ H x y v u Q I rx ry h
  obtain ⟨i,j,rfl,rfl,q⟩:=h
  obtain ⟨t,rfl⟩:=rx
  obtain ⟨t',rfl⟩:=ry
  exact rule i j t t' s _ _ ⟨.int (g i j),H,I.tok _,⟨_,rfl⟩,q⟩
theorem Za {f:Value→Value→Sem Value} {g:Int→Int→Bool}
    (rule:∀ (i j:Int) (t u:Tok) (s:Shared) (Q:Value→Shared→Prop) (E:Value→Shared→Prop),Q (.bool (g i j)) s→wpAny (model X.prog X.w) X.A (f (.int i t) (.int j u)) Q E s) :
    OpR X f (rI0 fun i j=>.bl (g i j)):=by
  intro pins s σ H x y v u Q I rx ry h
  obtain ⟨i,j,rfl,rfl,q⟩:=h
  obtain ⟨t,rfl⟩:=rx
  obtain ⟨t',rfl⟩:=ry
  exact rule i j t t' s _ _ ⟨.bl (g i j),H,I,rfl,q⟩
def CDiv (i j:Int):Prop:=0<j∧j<1073741824
def CPow (i j:Int):Prop:=0≤j∧j≤1000000∧i.natAbs<2 ^ 64
def aae (i j:Int):Prop:=(-(2 ^ 64)<i∧i<2 ^ 64)∨(-(2 ^ 64)<j∧j<2 ^ 64)
theorem aae.ok {i j:Int} (h:aae i j):IntMulOk i j:=by
  rcases h with ⟨h1,h2⟩ | ⟨h1,h2⟩
  · exact .of_left (intBits_le_64 h1 h2)
  · exact .of_right (intBits_le_64 h1 h2)
theorem iW:OpR X (binaryOp .Add) (rI0 fun i j=>.int (i + j)):=aal fun _ _ _ _ _ _ _ q=>add_int q
theorem lF:OpR X (binaryOp .Sub) (rI0 fun i j=>.int (i - j)):=aal fun _ _ _ _ _ _ _ q=>sub_int q
theorem oM:OpR X (binaryOp .Mult) (rI aae fun i j=>.int (i * j)):=opI fun _ _ _ _ _ _ _ hc q=>mul_int q hc.ok
theorem oN:OpR X (binaryOp .FloorDiv) (rI CDiv fun i j=>.int (i / j)):=opI fun i j _ _ _ _ _ hc q=>by
  have h1:(0:Int)<j:=hc.1
  have h2:j<1073741824:=hc.2
  exact floordiv_int (by omega) (by rw [Int.fdiv_eq_ediv_of_nonneg i (by omega)];exact q) (.inl (PyProof.noPylong_small (by omega)))
theorem gJ:OpR X (binaryOp .Mod) (rI (fun _ j=>0<j) fun i j=>.int (i % j)):=opI fun i j _ _ _ _ _ hc q=>by
  have h1:(0:Int)<j:=hc
  exact mod_int' (by omega) (by rw [Int.fmod_eq_emod_of_nonneg i (by omega)];exact q)
theorem Wc:OpR X (binaryOp .Pow) (rI CPow fun i j=>.int (i ^ j.toNat)):=opI fun _ _ _ _ _ _ _ hc q=>pow_int_small hc.1 hc.2.1 hc.2.2 q
theorem unI {f:Value→Sem Value} {g:Int→Int}
    (rule:∀ (i:Int) (t:Tok) (s:Shared) (Q:Value→Shared→Prop) (E:Value→Shared→Prop),Q (.int (g i) s.toks) { s with toks:=s.toks + 1 }→wpAny (model X.prog X.w) X.A (f (.int i t)) Q E s) :
    UnR X f (rU fun i=>.int (g i)):=by
  intro pins s σ H x v Q I rx h
  obtain ⟨i,rfl,q⟩:=h
  obtain ⟨t,rfl⟩:=rx
  exact rule i t s _ _ ⟨.int (g i),H,I.tok _,⟨_,rfl⟩,q⟩
theorem lU:UnR X (unaryOp .USub) (rU fun i=>.int (-i)):=unI fun _ _ _ _ _ q=>neg_int q
end
def aah:V→V→Bool
  | .non,.non=>true | .non,.int _=>true | .int _,.non=>true | .non,.bl _=>true | .bl _,.non=>true | .non,.str _=>true | .str _,.non=>true
  | .int _,.int _=>true | .bl _,.bl _=>true | .str _,.str _=>true | .byt _,.byt _=>true
  | .int _,.str _=>true | .str _,.int _=>true | .bl _,.str _=>true | .str _,.bl _=>true
  | _,_=>false
def rEq:R2:=fun x y H Q=>aah x y=true∧Q (.bl (decide (x=y))) H
def rNe:R2:=fun x y H Q=>aah x y=true∧Q (.bl (!decide (x=y))) H
theorem Ja {i j:Int}:decide (V.int i=V.int j)=(i == j):=by
  rw [Bool.eq_iff_iff]
  simp
theorem SJ {i j:Bool}:decide (V.bl i=V.bl j)=(i == j):=by
  rw [Bool.eq_iff_iff]
  simp
theorem IW {i j:Str}:decide (V.str i=V.str j)=(i == j):=by
  rw [Bool.eq_iff_iff]
  simp
theorem Jb {i j:Array UInt8}:decide (V.byt i=V.byt j)=(i.toList == j.toList):=by
  rw [Bool.eq_iff_iff]
  cases i
  cases j
  simp
section
variable {X:Cx} {a b c:Expr} {ta tb tc:TE} {pos:Pos}
theorem cD {pins:List (Addr × Obj)} {σ:St} {H:Hp} {s:Shared} {Q:VK} {k k':Bool} (I:Inv X pins σ H s) (q:Q (.bl k) H) (e:k=k'):EP X pins σ Q (.bool k') s:=by
  subst e
  exact ⟨.bl k,H,I,rfl,q⟩
theorem pQ:OpR X (compareOp .Eq) rEq:=by
  intro pins s σ H x y v u Q I rx ry h
  obtain ⟨hs,q⟩:=h
  cases x with
  | non =>
    cases rx
    cases y with
    | non=>cases ry;exact PySem.EqNone.eq_none_none (cD I q (by simp))
    | bl j=>cases ry;exact PySem.EqNone.eq_none_bool (cD I q (by simp))
    | int j=>obtain ⟨t',rfl⟩:=ry;exact PySem.EqNone.eq_none_int (cD I q (by simp))
    | str j=>obtain ⟨t',rfl⟩:=ry;exact PySem.EqNone.eq_none_str (cD I q (by simp))
    | _=>exact absurd (show false=true from hs) Bool.false_ne_true
  | bl i =>
    cases rx
    cases y with
    | non=>cases ry;exact PySem.EqNone.eq_bool_none (cD I q (by simp))
    | bl j=>cases ry;exact eq_bool (cD I q SJ)
    | str j=>obtain ⟨t',rfl⟩:=ry;exact PySem.EqMixed.eq_bool_str (cD I q (by simp))
    | _=>exact absurd (show false=true from hs) Bool.false_ne_true
  | int i =>
    obtain ⟨t,rfl⟩:=rx
    cases y with
    | non=>cases ry;exact PySem.EqNone.eq_int_none (cD I q (by simp))
    | int j=>obtain ⟨t',rfl⟩:=ry;exact eq_int (cD I q Ja)
    | str j=>obtain ⟨t',rfl⟩:=ry;exact PySem.EqMixed.eq_int_str (cD I q (by simp))
    | _=>exact absurd (show false=true from hs) Bool.false_ne_true
  | str i =>
    obtain ⟨t,rfl⟩:=rx
    cases y with
    | non=>cases ry;exact PySem.EqNone.eq_str_none (cD I q (by simp))
    | bl j=>cases ry;exact PySem.EqMixed.eq_str_bool (cD I q (by simp))
    | int j=>obtain ⟨t',rfl⟩:=ry;exact PySem.EqMixed.eq_str_int (cD I q (by simp))
    | str j=>obtain ⟨t',rfl⟩:=ry;exact eq_str (cD I q IW)
    | _=>exact absurd (show false=true from hs) Bool.false_ne_true
  | byt i =>
    obtain ⟨t,rfl⟩:=rx
    cases y with
    | byt j=>obtain ⟨t',rfl⟩:=ry;exact PySem.W.eq_bytes (cD I q Jb)
    | _=>exact absurd (show false=true from hs) Bool.false_ne_true
  | _=>cases y <;> exact absurd (show false=true from hs) Bool.false_ne_true
theorem vC:OpR X (compareOp .NotEq) rNe:=by
  intro pins s σ H x y v u Q I rx ry h
  obtain ⟨hs,q⟩:=h
  cases x with
  | non =>
    cases rx
    cases y with
    | non=>cases ry;exact PySem.EqNone.ne_none_none (cD I q (by simp))
    | bl j=>cases ry;exact PySem.EqNone.ne_none_bool (cD I q (by simp))
    | int j=>obtain ⟨t',rfl⟩:=ry;exact PySem.EqNone.ne_none_int (cD I q (by simp))
    | str j=>obtain ⟨t',rfl⟩:=ry;exact PySem.EqNone.ne_none_str (cD I q (by simp))
    | _=>exact absurd (show false=true from hs) Bool.false_ne_true
  | bl i =>
    cases rx
    cases y with
    | non=>cases ry;exact PySem.EqNone.ne_bool_none (cD I q (by simp))
    | bl j=>cases ry;exact ne_bool (cD I q (congrArg not SJ))
    | str j=>obtain ⟨t',rfl⟩:=ry;exact PySem.EqMixed.ne_bool_str (cD I q (by simp))
    | _=>exact absurd (show false=true from hs) Bool.false_ne_true
  | int i =>
    obtain ⟨t,rfl⟩:=rx
    cases y with
    | non=>cases ry;exact PySem.EqNone.ne_int_none (cD I q (by simp))
    | int j=>obtain ⟨t',rfl⟩:=ry;exact ne_int (cD I q (congrArg not Ja))
    | str j=>obtain ⟨t',rfl⟩:=ry;exact PySem.EqMixed.ne_int_str (cD I q (by simp))
    | _=>exact absurd (show false=true from hs) Bool.false_ne_true
  | str i =>
    obtain ⟨t,rfl⟩:=rx
    cases y with
    | non=>cases ry;exact PySem.EqNone.ne_str_none (cD I q (by simp))
    | bl j=>cases ry;exact PySem.EqMixed.ne_str_bool (cD I q (by simp))
    | int j=>obtain ⟨t',rfl⟩:=ry;exact PySem.EqMixed.ne_str_int (cD I q (by simp))
    | str j=>obtain ⟨t',rfl⟩:=ry;exact ne_str (cD I q (congrArg not IW))
    | _=>exact absurd (show false=true from hs) Bool.false_ne_true
  | byt i =>
    obtain ⟨t,rfl⟩:=rx
    cases y with
    | byt j=>obtain ⟨t',rfl⟩:=ry;exact PySem.W.ne_bytes (cD I q (congrArg not Jb))
    | _=>exact absurd (show false=true from hs) Bool.false_ne_true
  | _=>cases y <;> exact absurd (show false=true from hs) Bool.false_ne_true
theorem yw:OpR X (compareOp .Lt) (rI0 fun i j=>.bl (decide (i<j))):=Za fun _ _ _ _ _ _ _ q=>lt_int q
theorem nP:OpR X (compareOp .LtE) (rI0 fun i j=>.bl (decide (i≤j))):=Za fun _ _ _ _ _ _ _ q=>le_int q
theorem J2:OpR X (compareOp .Gt) (rI0 fun i j=>.bl (decide (j<i))):=Za fun _ _ _ _ _ _ _ q=>gt_int q
theorem ZD:OpR X (compareOp .GtE) (rI0 fun i j=>.bl (decide (j≤i))):=Za fun _ _ _ _ _ _ _ q=>ge_int q
theorem Ao:OpR X (compareOp .In) (fun x y H Q=>∃ i j,x=.str i∧y=.str j∧Q (.bl (!(Builtin.Str.occurrences j i 0 j.length 1).isEmpty)) H):=by
  intro pins s σ H x y v u Q I rx ry h
  obtain ⟨i,j,rfl,rfl,q⟩:=h
  obtain ⟨t,rfl⟩:=rx
  obtain ⟨t',rfl⟩:=ry
  exact in_str (cD I q rfl)
theorem Wf:OpR X (compareOp .Is) (fun x y H Q=>y=.non∧Q (.bl (decide (x=.non))) H):=by
  intro pins s σ H x y v u Q I rx ry h
  obtain ⟨rfl,q⟩:=h
  cases ry
  refine is_none_gen (cD I q ?_)
  cases x <;> first
    | (cases rx;rfl)
    | (obtain ⟨t,rfl⟩:=rx;rfl)
theorem cL (b:Expr) {op:CmpOp} (h:op≠.In:=by decide) (h2:op≠.NotIn:=by decide):behindInMarks op b=false:=by
  have e1:(op == CmpOp.In)=false:=by cases op <;> first | rfl | exact absurd rfl h
  have e2:(op == CmpOp.NotIn)=false:=by cases op <;> first | rfl | exact absurd rfl h2
  cases b <;> simp [behindInMarks,e1,e2]
theorem lM {op:CmpOp} {r:R2} (ho:OpR X (compareOp op) r) (ha:PE X a ta) (hb:PE X b tb) (hm:behindInMarks op b=false):PE X (.Compare a [op] [b] pos) (tOp r ta tb):=by
  intro pins s σ H Q I h
  exact wpAny_Compare1 (Z8 ha hb I h fun v u s2 x y H2 I2 rx ry q=>ho pins s2 σ H2 x y v u Q I2 rx ry q) hm
def S9 (t:TE):TT:=fun σ H Q=>t σ H fun x H'=>∃ k,x=.bl k∧Q k H'
theorem bY {op:CmpOp} {r:R2} (ho:OpR X (compareOp op) r) (ha:PE X a ta) (hb:PE X b tb) (hm:behindInMarks op b=false):PT X (.Compare a [op] [b] pos) (S9 (tOp r ta tb)):=by
  intro pins s σ H Q I h
  refine wpAny_isTrue_Compare1 (thn (ha pins s σ H _ I h) fun v s1 ⟨x,H1,I1,r1,q1⟩=>thn (hb pins s1 σ H1 _ I1 q1) fun u s2 ⟨y,H2,I2,r2,q2⟩ =>
    thn (ho pins s2 σ H2 x y v u _ I2 r1 r2 q2) fun c s3 ⟨z,H3,I3,r3,k,e,q3⟩=>?_) hm
  subst e
  cases r3
  exact wpAny_truthy_bool ⟨H3,I3,q3⟩
def Lg (r r':R2) (ta tb tc:TE):TE:=fun σ H Q=>ta σ H fun x H1=>tb σ H1 fun y H2=>r x y H2 fun z H3=>∃ k,z=.bl k ∧
  (if k=true then tc σ H3 fun w' H4=>r' y w' H4 Q else Q (.bl false) H3)
theorem rC {op op':CmpOp} {r r':R2} (ho:OpR X (compareOp op) r) (ho':OpR X (compareOp op') r') (ha:PE X a ta) (hb:PE X b tb) (hc:PE X c tc)
    (hm:lastMarks [op,op'] [b,c]=false:=by with_unfolding_all rfl):PE X (.Compare a [op,op'] [b,c] pos) (Lg r r' ta tb tc):=by
  intro pins s σ H Q I h
  refine Compare_chain (thn (ha pins s σ H _ I h) fun v s1 ⟨x,H1,I1,r1,q1⟩=>chain_link (thn (hb pins s1 σ H1 _ I1 q1) fun u s2 ⟨y,H2,I2,r2,q2⟩ =>
    thn (ho pins s2 σ H2 x y v u _ I2 r1 r2 q2) fun d s3 ⟨z,H3,I3,r3,k,e,q3⟩=>?_)) hm
  subst e
  cases r3
  refine wpAny_truthy_bool ?_
  cases k with
  | false=>exact ite_ff ⟨.bl false,H3,I3,rfl,q3⟩
  | true=>exact ite_tt (chain_last (thn (hc pins s3 σ H3 _ I3 q3) fun w' s4 ⟨z',H4,I4,r4,q4⟩=>ho' pins s4 σ H4 y z' u w' Q I4 r2 r4 q4))
theorem lZ {op op':CmpOp} {r r':R2} (ho:OpR X (compareOp op) r) (ho':OpR X (compareOp op') r') (ha:PE X a ta) (hb:PE X b tb) (hc:PE X c tc)
    (hm:lastMarks [op,op'] [b,c]=false:=by with_unfolding_all rfl):PT X (.Compare a [op,op'] [b,c] pos) (S9 (Lg r r' ta tb tc)):=by
  intro pins s σ H Q I h
  refine isTrue_chain (thn (ha pins s σ H _ I h) fun v s1 ⟨x,H1,I1,r1,q1⟩=>test_link (thn (hb pins s1 σ H1 _ I1 q1) fun u s2 ⟨y,H2,I2,r2,q2⟩ =>
    thn (ho pins s2 σ H2 x y v u _ I2 r1 r2 q2) fun d s3 ⟨z,H3,I3,r3,k,e,q3⟩=>?_)) hm
  subst e
  cases r3
  refine wpAny_truthy_bool ?_
  cases k with
  | false =>
    obtain ⟨k',e',q'⟩:=q3
    cases e'
    exact ite_ff ⟨H3,I3,q'⟩
  | true =>
    refine ite_tt (test_last (thn (hc pins s3 σ H3 _ I3 q3) fun w' s4 ⟨z',H4,I4,r4,q4⟩=>thn (ho' pins s4 σ H4 y z' u w' _ I4 r2 r4 q4) fun d' s5 ⟨z2,H5,I5,r5,k2,e2,q5⟩=>?_))
    subst e2
    cases r5
    exact wpAny_truthy_bool ⟨H5,I5,q5⟩
def aaq (K:PySem.W.Frag) (x:V) (H:Hp) (k:Bool):Prop :=
  match x with
  | .non=>k=false
  | .bl b=>k=b
  | .int i=>k=(i != 0)
  | .str y=>y.length≤sizeLine∧k=((y.length:Int) != 0)
  | .byt y=>y.size≤sizeLine∧k=((y.size:Int) != 0)
  | .ref p=>(∃ xs,SqL K H p xs∧k=!xs.isEmpty)∨(∃ xs,SqT K H p xs∧k=!xs.isEmpty)∨∃ kvs,H p=some (.dK kvs)∧k=!kvs.isEmpty
  | _=>False
theorem yH {κ:Type} {kvs:List (κ × V)} {vs:List (κ × Value)} (r:KV kvs vs):(!vs.isEmpty)=!kvs.isEmpty:=by
  cases r <;> rfl
theorem ql {xs:List V} {its:List Value} (r:Vals xs its):(!its.toArray.isEmpty)=!xs.isEmpty:=by
  cases r <;> simp
theorem nG:(sizeLine:Nat)<2 ^ 63:=by rw [sizeLine_eq];decide
theorem VD:TruR X (fun x H Q=>∃ k,aaq X.K x H k∧Q k H):=by
  intro pins s σ H x v Q I rx h
  obtain ⟨k,e,q⟩:=h
  have hl:=nG
  have hs:sizeLine=16777216:=sizeLine_eq
  cases x with
  | non =>
    cases rx
    have e':k=false:=e
    subst e'
    exact truthy_none ⟨H,I,q⟩
  | bl b =>
    cases rx
    have e':k=b:=e
    subst e'
    exact wpAny_truthy_bool ⟨H,I,q⟩
  | int i =>
    obtain ⟨t,rfl⟩:=rx
    have e':k=(i != 0):=e
    subst e'
    exact PySem.P.truthy_int ⟨H,I,q⟩
  | str y =>
    obtain ⟨t,rfl⟩:=rx
    obtain ⟨hy,e'⟩:y.length≤sizeLine∧k=((y.length:Int) != 0):=e
    subst e'
    exact PySem.P.truthy_str (by omega) ⟨H,I.tok _,q⟩
  | byt y =>
    obtain ⟨t,rfl⟩:=rx
    obtain ⟨hy,e'⟩:y.size≤sizeLine∧k=((y.size:Int) != 0):=e
    subst e'
    exact PySem.W.truthy_bytes (by omega) ⟨H,I.tok _,q⟩
  | ref p =>
    cases rx
    have e':(∃ xs,SqL X.K H p xs∧k=!xs.isEmpty)∨(∃ xs,SqT X.K H p xs∧k=!xs.isEmpty)∨∃ kvs,H p=some (.dK kvs)∧k=!kvs.isEmpty:=e
    rcases e' with ⟨xs,hx,e'⟩ | ⟨xs,hx,e'⟩ | ⟨kvs,hx,e'⟩
    · subst e'
      obtain ⟨its,r,pl,hz⟩:=I.list hx
      have hlen:=r.length
      exact wpAny_truthy_list pl.isList (by simp only [List.size_toArray];omega) ⟨H,I.tok _,by rw [ql r];exact q⟩
    · subst e'
      obtain ⟨its,r,pl,hz⟩:=I.tuple hx
      have hlen:=r.length
      exact truthy_tuple pl (by simp only [List.size_toArray];omega) ⟨H,I.tok _,by rw [ql r];exact q⟩
    · subst e'
      obtain ⟨hz,hS,vs,r,m⟩:kvs.length≤sizeLine∧(p == sysModules)=false∧∃ vs,KV kvs vs∧s.heap.DictOf (eN X.prog X.w) p vs:=I.hok p _ hx
      have hlen:kvs.length=vs.length:=Paired.length r
      exact wpAny_truthy_dict hS m (by omega) ⟨H,I.tok _,by rw [yH r];exact q⟩
  | _=>exact (show False from e).elim
theorem JZ (ha:PE X a ta) (he:∀ whole,isTrue a X.env whole=(do let v ← whole;standAt a.pos;holding [v] (truthy v))) :
    PT X a (fun σ H Q=>ta σ H fun x H'=>∃ k,aaq X.K x H' k∧Q k H'):=by
  intro pins s σ H Q I h
  exact isTrue_plain (thn (ha pins s σ H _ I h) fun v s1 ⟨x,H1,I1,r1,q1⟩=>VD pins s1 σ H1 x v Q I1 r1 q1) (he _)
theorem vals1 {x:V} {us:List Value} (r:Vals [x] us):∃ u,us=[u]∧RelV x u:=by
  cases r with
  | cons r1 r2=>cases r2;exact ⟨_,rfl,r1⟩
theorem vals2 {x y:V} {us:List Value} (r:Vals [x,y] us):∃ u w',us=[u,w']∧RelV x u∧RelV y w':=by
  cases r with
  | cons r1 r2 =>
    cases r2 with
    | cons r3 r4=>cases r4;exact ⟨_,_,rfl,r1,r3⟩
theorem pB (hc:X.calm=true):pO X (.builtin "max") (fun xs H Q=>∃ i j,xs=[.int i,.int j]∧Q (.int (if j > i then j else i)) H):=by
  intro pins s σ H xs us Q I r h
  obtain ⟨i,j,rfl,q⟩:=h
  obtain ⟨u,w',rfl,⟨t,rfl⟩,⟨t',rfl⟩⟩:=vals2 r
  refine max_two_ints (I.ok.hd hc) fun h' tk k=>⟨_,H,I.kept k,?_,q⟩
  by_cases hj:j > i
  · rw [if_pos hj,if_pos hj];exact ⟨_,rfl⟩
  · rw [if_neg hj,if_neg hj];exact ⟨_,rfl⟩
theorem uD (hc:X.calm=true):pO X (.builtin "min") (fun xs H Q=>∃ i j,xs=[.int i,.int j]∧Q (.int (if j<i then j else i)) H):=by
  intro pins s σ H xs us Q I r h
  obtain ⟨i,j,rfl,q⟩:=h
  obtain ⟨u,w',rfl,⟨t,rfl⟩,⟨t',rfl⟩⟩:=vals2 r
  refine min_two_ints (I.ok.hd hc) fun h' tk k=>⟨_,H,I.kept k,?_,q⟩
  by_cases hj:j<i
  · rw [if_pos hj,if_pos hj];exact ⟨_,rfl⟩
  · rw [if_neg hj,if_neg hj];exact ⟨_,rfl⟩
theorem Jk:pO X (.type "int") (fun xs H Q=>(∃ i,xs=[.int i]∧Q (.int i) H)∨∃ k,xs=[.bl k]∧Q (.int (if k then 1 else 0)) H):=by
  intro pins s σ H xs us Q I r h
  rcases h with ⟨i,rfl,q⟩ | ⟨k,rfl,q⟩
  · obtain ⟨u,rfl,t,rfl⟩:=vals1 r
    exact call_int_int ⟨.int i,H,I,⟨_,rfl⟩,q⟩
  · obtain ⟨u,rfl,r1⟩:=vals1 r
    cases r1
    exact call_int_bool ⟨.int (if k then 1 else 0),H,I.tok _,⟨_,rfl⟩,q⟩
end
end L2
namespace L2
open PySem PySem.Spec PyProof.Rows
structure Vr (h:Heap) (x dx C:Addr) (mA:Str→Option Value):Prop where
  obj:h.get? x=some (PySem.W.instObj C dx)
  ns:h.Ns1 dx mA
  ne:dx≠x
theorem Bh {h:Heap} {dx:Addr} {mA:Str→Option Value} (n:h.Ns1 dx mA):∃ od,h.get? dx=some od∧∀ name,PySem.W.lookIn name od=some (mA name):=by
  obtain ⟨o,es,ep,ho,hd,hk,_,hm⟩:=n
  refine ⟨o,ho,fun name=>?_⟩
  have e:=hm name
  unfold nsFind findBy at e
  rw [← Array.find?_toList] at e
  unfold PySem.W.lookIn
  rw [hd]
  dsimp only
  split
  · rename_i y q
    rw [q] at e
    exact congrArg some e
  · rename_i q
    rw [q] at e
    have a:es.toList.any (·.refKey)=false:=by
      rw [List.any_eq_false]
      intro y hy
      obtain ⟨z,t,hkey⟩:=hk y (Array.mem_toList_iff.mp hy)
      simp [DictEntry.refKey,hkey]
    have a':¬ es.toList.any (·.refKey)=true:=by rw [a];exact Bool.false_ne_true
    rw [if_neg a']
    exact congrArg some e
theorem Vr.look {h:Heap} {x dx C:Addr} {mA:Str→Option Value} (I:Vr h x dx C mA):∃ od,PySem.W.InstAt h x (PySem.W.instObj C dx) C (some od)∧∀ name,PySem.W.lookIn name od=some (mA name) :=
  let ⟨od,ho,hl⟩:=Bh I.ns
  ⟨od,⟨I.obj,rfl,rfl,ho⟩,hl⟩
section
variable {prog:Program} {w:World} {A:Around} {E:Value→Shared→Prop} {s:Shared} {K:PySem.W.Frag} {x dx C f:Addr} {mA:Str→Option Value} {name:Str} {v:Value}
theorem get_map {expr:Bool} {Q:Value→Shared→Prop} (X:K.In s.heap) (I:Vr s.heap x dx C mA) (hg:PySem.W.plainGet K C name=true) (hh:PySem.W.hasDictIn K C=true)
    (ha:PySem.W.findIn K (.ref C) name=some none) (hv:mA name=some v) (hv':PySem.W.handedIn v=true) (h:Q v { s with toks:=s.toks + 1 }) :
    wpAny (model prog w) A (getAttr (.ref x) name expr) Q E s:=by
  obtain ⟨od,J,hl⟩:=I.look
  exact PySem.W.get_value X J (PySem.W.plainGet_of hg).1 (PySem.W.findObj_own hh ha rfl (by rw [hl,hv])) hv' h
theorem KY {pl:Sem Bool} {Q:Value × List Value→Shared→Prop} (X:K.In s.heap) (I:Vr s.heap x dx C mA) (hg:PySem.W.plainGet K C name=true)
    (hf:PySem.W.findIn K (.ref C) name=some (some (.ref f))) (ht:PySem.W.isFn K (.ref f)=true) (hv:mA name=none) (h:Q (.ref f,[.ref x]) s) :
    wpAny (model prog w) A (getMethod (.ref x) name pl) Q E s:=by
  obtain ⟨od,J,hl⟩:=I.look
  exact PySem.W.method_fn X J (PySem.W.plainGet_of hg).1 (PySem.W.plainGet_of hg).2 hf (beq_iff_eq.mp ht) (by show (PySem.W.lookIn name od).map (·.isSome)=some false;rw [hl,hv];rfl) h
theorem Tf {ns:List Str} {Q:Unit→Shared→Prop} (X:K.In s.heap) (I:Vr s.heap x dx C mA)
    (hs:PySem.W.findIn K (.ref C) "__setattr__"=some (some (.builtin "object.__setattr__"))) (hp:PySem.W.plainOver K C=true) (ht:PySem.W.takerIn K C name=some none) (hh:PySem.W.hasDictIn K C=true)
    (hw:PySem.Within mA ns) (hsz:ns.length≤sizeLine)
    (h:∀ h',Vr h' x dx C (fun y=>if y=name then some v else mA y)→Heap.SameBut dx s.heap h'→Q () { s with heap:=h',toks:=s.toks + 2 }) :
    wpAny (model prog w) A (setAttr (.ref x) name v) Q E s:=by
  obtain ⟨od,J,hl⟩:=I.look
  refine PySem.W.set_plain X J hs (PySem.W.osa_open (s:={ s with toks:=s.toks + 1 }) (r:=none) X J hp ht fun b=>?_)
  obtain ⟨cd,hc,hd'⟩:=PySem.W.any_some hh
  have hx:s.heap.get? x=some ⟨.ref C,some dx,.plain,#[]⟩:=I.obj
  refine wpAny_bind (wpAny_pure (wpAny_bind (wpAny_bind (wpAny_loadPart hx (wpAny_bind (PySem.W.Looks.here (s:={ s with toks:=s.toks + 1 }) (PySem.W.looks_clsIn X hc) ?_))))))
  rw [hd']
  refine wpAny_pure (a:=some dx) (wpAny_bind (wpAny_pure (wpAny_bind ?_)))
  refine wpAny_nsSet1 (s:={ s with toks:=s.toks + 1 }) I.ns fun h' hn2 hs2=>?_
  obtain ⟨oD,esD,epD,hoD,hdD,hcD⟩:=hn2.count (PySem.Within.cons name v hw)
  refine wpAny_bind (wpAny_lookBehind hoD (by rw [hdD];exact pastItsLine_dict (Nat.le_trans hcD (by rw [List.length_cons];omega))) ?_)
  exact wpAny_pure (h _ ⟨(hs2.2 _ (Ne.symm I.ne)).trans I.obj,hn2,I.ne⟩ hs2)
theorem Kr {R:Result→Shared→Prop} {vs:List Value} {kw:List (Str × Value)} (X:K.In s.heap) (hm:PySem.W.makesIn K C=true)
    (hi:PySem.W.findIn K (.ref C) "__init__"=some (some (.ref f))) (hf:PySem.W.typeIn K (.ref f)=some (.type "function"))
    (h:codeAny (model prog w) (A.under (.builtin "type.__call__" ⟨.ref C :: vs,kw⟩)) (.call (.ref f) ⟨.ref (s.heap.objs.size + 1) :: vs,kw⟩) (PySem.W.InitBack (s.heap.objs.size + 1) R)
      { s with heap:=(s.heap.push PySem.W.emptyDict).push (PySem.W.instObj C s.heap.objs.size) }) :
    codeAny (model prog w) A (.call (.ref C) ⟨vs,kw⟩) R s:=by
  obtain ⟨hh,g,d,t,os⟩:=s
  exact PySem.W.make_core (PySem.W.makes_of X hm) (PySem.W.looks_findIn X hi) (fun self=>PySem.W.bind_fn X self hf) (.inl rfl) h
end
def sH (f:Str) (v:V):List (Str × V)→List (Str × V)
  | []=>[(f,v)]
  | (g,x) :: r=>if g=f then (g,v) :: r else (g,x) :: sH f v r
theorem oR (f g:Str) (v:V):∀ fs:List (Str × V),(sH f v fs).lookup g=if g=f then some v else fs.lookup g
  | []=>by
    show List.lookup g [(f,v)]=_
    by_cases h:g=f
    · have hb:(g == f)=true:=beq_iff_eq.mpr h
      simp only [List.lookup,hb,if_pos h]
    · have hb:(g == f)=false:=beq_eq_false_iff_ne.mpr h
      simp only [List.lookup,hb,if_neg h]
  | (k,x) :: r=>by
    have ih:=oR f g v r
    rw [show sH f v ((k,x) :: r)=(if k=f then (k,v) :: r else (k,x) :: sH f v r) from rfl]
    by_cases hk:k=f
    · rw [if_pos hk]
      by_cases h:g=k
      · have hb:(g == k)=true:=beq_iff_eq.mpr h
        simp only [List.lookup,hb,if_pos (h.trans hk)]
      · have hb:(g == k)=false:=beq_eq_false_iff_ne.mpr h
        simp only [List.lookup,hb,if_neg (fun e:g=f=>h (e.trans hk.symm))]
    · rw [if_neg hk]
      by_cases h:g=k
      · have hb:(g == k)=true:=beq_iff_eq.mpr h
        simp only [List.lookup,hb,if_neg (fun e:g=f=>hk (h.symm.trans e))]
      · have hb:(g == k)=false:=beq_eq_false_iff_ne.mpr h
        simp only [List.lookup,hb]
        exact ih
theorem oV (f:Str) (v:V):∀ fs:List (Str × V),f∈(sH f v fs).map (·.1)∧∀ g,g∈fs.map (·.1)→g∈(sH f v fs).map (·.1)
  | []=>⟨by simp [sH],fun g h=>by simp at h⟩
  | (k,x) :: r=>by
    obtain ⟨i1,i2⟩:=oV f v r
    rw [show sH f v ((k,x) :: r)=(if k=f then (k,v) :: r else (k,x) :: sH f v r) from rfl]
    by_cases hk:k=f
    · rw [if_pos hk]
      subst hk
      exact ⟨by simp,fun g h=>by simpa using h⟩
    · rw [if_neg hk]
      refine ⟨?_,fun g h=>?_⟩
      · rw [List.map_cons]
        exact List.mem_cons_of_mem _ i1
      · rw [List.map_cons] at h ⊢
        rcases List.mem_cons.mp h with e | e
        · exact List.mem_cons.mpr (.inl e)
        · exact List.mem_cons_of_mem _ (i2 g e)
theorem oU (f:Str) (v:V):∀ fs:List (Str × V),(sH f v fs).length≤fs.length + 1
  | []=>by simp [sH]
  | (k,x) :: r=>by
    have ih:=oU f v r
    rw [show sH f v ((k,x) :: r)=(if k=f then (k,v) :: r else (k,x) :: sH f v r) from rfl]
    by_cases hk:k=f
    · rw [if_pos hk,List.length_cons,List.length_cons];omega
    · rw [if_neg hk,List.length_cons,List.length_cons];omega
theorem Jt.some_of {v:V} {o:Option Value} (r:Jt (some v) o):∃ u,o=some u∧RelV v u:=by
  cases o with
  | none=>exact (show False from r).elim
  | some u=>exact ⟨u,rfl,r⟩
theorem Jt.none_of {o:Option Value} (r:Jt none o):o=none:=by
  cases o with
  | none=>rfl
  | some u=>exact (show False from r).elim
theorem IK {v:V} {u:Value} (r:RelV v u):PySem.W.handedIn u=true:=by
  cases v with
  | non=>cases (show u=Value.none from r);rfl
  | bl b=>cases (show u=Value.bool b from r);rfl
  | int i=>obtain ⟨t,e⟩:=(show ∃ t,u=Value.int i t from r);cases e;rfl
  | str x=>obtain ⟨t,e⟩:=(show ∃ t,u=Value.str x t from r);cases e;rfl
  | byt b=>obtain ⟨t,e⟩:=(show ∃ t,u=Value.bytes b t from r);cases e;rfl
  | flt b=>obtain ⟨t,e⟩:=(show ∃ t,u=Value.float b t from r);cases e;rfl
  | ref a=>cases (show u=Value.ref a from r);rfl
  | ty n=>cases (show u=Value.type n from r);rfl
section
variable {P:Program} {w:World} {H H':Hp} {h h':Heap} {a C dx:Addr} {fs fs':List (Str × V)}
theorem rJ (hok:HOk P w H h) (e:H a=some (.ins C dx fs)):∃ mA,Vr h a dx C mA∧(∀ f,Jt (fs.lookup f) (mA f))∧PySem.Within mA (fs.map (·.1))∧fs.length≤1000∧H dx=some (.own a):=by
  obtain ⟨d,z,ne,ob,mA,n,r,q⟩:=(show eO P w H h a (.ins C dx fs) from hok a _ e)
  exact ⟨mA,⟨ob,n,ne⟩,r,q,z,d⟩
end
structure Cls (K:PySem.W.Frag) (C:Addr):Prop where
  pg:PySem.W.plainGet K C Str.empty=true
  hd:PySem.W.hasDictIn K C=true
  po:PySem.W.plainOver K C=true
  sa:PySem.W.findIn K (.ref C) "__setattr__"=some (some (.builtin "object.__setattr__"))
theorem Cls.get {K:PySem.W.Frag} {C:Addr} (c:Cls K C) (f:Str):PySem.W.plainGet K C f=true:=c.pg
def jC (K:PySem.W.Frag) (C:Addr) (f:Str):Prop:=PySem.W.findIn K (.ref C) f=some none
theorem jC.taker {K:PySem.W.Frag} {C:Addr} {f:Str} (n:jC K C f):PySem.W.takerIn K C f=some none:=by
  unfold PySem.W.takerIn
  rw [show PySem.W.findIn K (.ref C) f=some none from n]
  rfl
structure Meth (K:PySem.W.Frag) (C:Addr) (m:Str) (f:Addr):Prop where
  at_:PySem.W.findIn K (.ref C) m=some (some (.ref f))
  fn:PySem.W.isFn K (.ref f)=true
  kp:PySem.W.keepIn K (.ref f)=true
section
variable {X:Cx} {pins:List (Addr × Obj)} {σ:St} {H:Hp} {s:Shared} {a C dx:Addr} {fs:List (Str × V)} {f:Str} {v:V} {A:Around} {E:Value→Shared→Prop}
theorem qu {b:Bool} {Q:Value→Shared→Prop} (I:Inv X pins σ H s) (e:H a=some (.ins C dx fs)) (c:Cls X.K C) (n:jC X.K C f) (l:fs.lookup f=some v)
    (h:∀ u s',Inv X pins σ H s'→RelV v u→Q u s'):wpAny (model X.prog X.w) A (getAttr (.ref a) f b) Q E s:=by
  obtain ⟨mA,O,r,_,_,_⟩:=rJ I.hok e
  obtain ⟨u,hu,ru⟩:=Jt.some_of (v:=v) (o:=mA f) (by rw [← l];exact r f)
  exact get_map I.kIn O (c.get f) c.hd n hu (IK ru) (h u _ (I.tok _) ru)
theorem qt {m:Str} {g:Addr} {pl:Sem Bool} {Q:Value × List Value→Shared→Prop} (I:Inv X pins σ H s) (e:H a=some (.ins C dx fs)) (c:Cls X.K C) (k:Meth X.K C m g) (l:fs.lookup m=none)
    (h:Q (.ref g,[.ref a]) s):wpAny (model X.prog X.w) A (getMethod (.ref a) m pl) Q E s:=by
  obtain ⟨mA,O,r,_,_,_⟩:=rJ I.hok e
  have hn:mA m=none:=Jt.none_of (by rw [← l];exact r m)
  exact KY I.kIn O (c.get m) k.at_ k.fn hn h
theorem qb {y:V} {u:Value} {Q:Unit→Shared→Prop} (I:Inv X pins σ H s) (e:H a=some (.ins C dx fs)) (c:Cls X.K C) (n:jC X.K C f) (hl:fs.length<1000) (ry:RelV y u)
    (h:∀ s',Inv X pins σ (upd H a (.ins C dx (sH f y fs))) s'→Q () s'):wpAny (model X.prog X.w) A (setAttr (.ref a) f u) Q E s:=by
  obtain ⟨mA,O,r,wi,_,ho⟩:=rJ I.hok e
  have hz:(fs.map (·.1)).length≤sizeLine:=by rw [List.length_map,sizeLine_eq];omega
  refine Tf I.kIn O c.sa c.po n.taker c.hd wi hz fun h' O' sb=>h _ ?_
  have hd:∃ o,h'.get? dx=some o:=let ⟨o,_,_,e',_⟩:=O'.ns;⟨o,e'⟩
  refine I.write (x:=a) (e:=dx) (by rw [e];exact True.intro) (.inr ho) (fun b q hb z=>(sb.2 b hb).trans z) hd ?_
  refine ⟨by rw [aN O.ne];exact ho,?_,O.ne,O'.obj,_,O'.ns,fun g=>?_,fun g hg=>?_⟩
  · have:=oU f y fs;omega
  · show Jt ((sH f y fs).lookup g) (if g=f then some u else mA g)
    rw [oR]
    by_cases q:g=f
    · rw [if_pos q,if_pos q];exact ry
    · rw [if_neg q,if_neg q];exact r g
  · by_cases q:g=f
    · rw [q];exact (oV f y fs).1
    · refine (oV f y fs).2 g (wi g fun z=>hg ?_)
      show (if g=f then some u else mA g)=none
      rw [if_neg q];exact z
theorem Inv.made (I:Inv X pins σ H s):Inv X pins σ (upd (upd H s.heap.objs.size (.own (s.heap.objs.size + 1))) (s.heap.objs.size + 1) (.ins C s.heap.objs.size []))
    { s with heap:=(s.heap.push PySem.W.emptyDict).push (PySem.W.instObj C s.heap.objs.size) }:=by
  have e1:(s.heap.push PySem.W.emptyDict).get? s.heap.objs.size=some PySem.W.emptyDict:=Heap.get?_push_size s.heap rfl
  have e2:((s.heap.push PySem.W.emptyDict).push (PySem.W.instObj C s.heap.objs.size)).get? (s.heap.objs.size + 1)=some (PySem.W.instObj C s.heap.objs.size):=by
    have:=Heap.get?_push_size (s.heap.push PySem.W.emptyDict) (o:=PySem.W.instObj C s.heap.objs.size) rfl
    rwa [Heap.size_push] at this
  have e3:(s.heap.push PySem.W.emptyDict).Ns s.heap.objs.size (fun _=>none):=⟨PySem.W.emptyDict,#[],_,e1,rfl,(fun e he=>absurd he (by simp)),fun _=>rfl⟩
  have I1:=I.laid (a:=s.heap.objs.size) (o:=.own (s.heap.objs.size + 1)) (h':=s.heap.push PySem.W.emptyDict) (t':=s.toks) (fun b u q=>Heap.get?_push_of_some _ q) (Nat.le_refl _) ⟨_,e1⟩
  refine I1.laid (a:=s.heap.objs.size + 1) (o:=.ins C s.heap.objs.size []) (t':=s.toks) (fun b u q=>Heap.get?_push_of_some _ q) (Nat.le_of_eq (Heap.size_push _ _)) ?_
  have ne:s.heap.objs.size≠s.heap.objs.size + 1:=Nat.ne_of_lt (Nat.lt_succ_self _)
  refine ⟨by rw [aN ne,bf],Nat.zero_le _,ne,e2,fun _=>none,(Heap.Ns1.of_empty e3).at fun o q=>Heap.get?_push_of_some _ q,fun _=>True.intro,fun y hy=>absurd rfl hy⟩
theorem Vn {prog:Program} {w:World} {env:Env} {e:Expr} {f:Str} {pos:Pos} {s:Shared} {Q:Value→Shared→Prop} (hb:attributeBase e f env (eval e env)=eval e env)
    (h:wpAny (model prog w) A (eval e env) (fun o s₁=>wpAny (model prog w) A (getAttr o f true) Q E s₁) E s):wpAny (model prog w) A (eval (.Attribute e f pos) env) Q E s :=
  Attribute_any_ h (by rw [arm_eval_Attribute,hb])
end
def tFld (K:PySem.W.Frag) (ta:TE) (f:Str):TE:=fun σ H Q=>ta σ H fun x H1=>∃ a C dx fs v,x=.ref a∧H1 a=some (.ins C dx fs)∧Cls K C∧jC K C f∧fs.lookup f=some v∧Q v H1
def sFld (K:PySem.W.Frag) (ta tv:TE) (f:Str):TS:=fun D σ H=>tv σ H fun y H1=>ta σ H1 fun x H2=>∃ a C dx fs,x=.ref a∧H2 a=some (.ins C dx fs)∧Cls K C∧jC K C f∧fs.length<1000 ∧
  D.nx σ (upd H2 a (.ins C dx (sH f y fs)))
def aas (X:Cx) (op:Operator) (rd:V→V→Hp→VK→Prop):Prop :=
  ∀ (pins:List (Addr × Obj)) (s:Shared) (σ:St) (H:Hp) (x y:V) (u v:Value) (Q:VK),Inv X pins σ H s→RelV x u→RelV y v→rd x y H Q→wpAny (model X.prog X.w) X.A (inplaceOp op u v) (EP X pins σ Q) X.xe s
def Tj (K:PySem.W.Frag) (ta tv:TE) (rd:V→V→Hp→VK→Prop) (f:Str):TS:=fun D σ H=>ta σ H fun x H1=>∃ a C dx fs v,x=.ref a∧H1 a=some (.ins C dx fs)∧Cls K C∧jC K C f∧fs.lookup f=some v ∧
  tv σ H1 fun y H2=>rd v y H2 fun z H3=>∃ dx' fs',H3 a=some (.ins C dx' fs')∧fs'.length<1000∧D.nx σ (upd H3 a (.ins C dx' (sH f z fs')))
section
variable {X:Cx} {o e value:Expr} {f:Str} {pos pos' tpos:Pos} {ta tv:TE}
theorem iC (he:PE X e ta) (hb:attributeBase e f X.env (eval e X.env)=eval e X.env):PE X (.Attribute e f pos) (tFld X.K ta f):=by
  intro pins s σ H Q I h
  refine Vn hb (thn (he pins s σ H _ I h) fun u s1 ⟨x,H1,I1,rx,a,C,dx,fs,v,ex,ea,c,n,l,q⟩=>?_)
  subst ex
  obtain rfl:u=Value.ref a:=rx
  exact qu I1 ea c n l fun u' s2 I2 ru=>⟨v,H1,I2,ru,q⟩
theorem tV (ha:PE X o ta) (hv:PE X value tv) (hs:swapsWith value (some (.Attribute o f pos')) pos.line X.env=pure false):PS X (.Assign [.Attribute o f pos'] value pos) (sFld X.K ta tv f):=by
  intro pins s σ H D I h
  refine plainObj_wpAny_Assign_Attribute (thn (hv pins s σ H _ I h) fun u s1 ⟨y,H1,I1,ry,q⟩=>thn (ha pins s1 σ H1 _ I1 q) fun ov s2 ⟨x,H2,I2,rx,a,C,dx,fs,ex,ea,c,n,l,q2⟩=>?_) hs
  subst ex
  obtain rfl:ov=Value.ref a:=rx
  exact qb I2 ea c n l ry fun s3 I3=>⟨σ,_,I3,q2⟩
theorem Ad {op:Operator} {rd:V→V→Hp→VK→Prop} (ha:PE X o ta) (hv:PE X value tv) (hop:aas X op rd):PS X (.AugAssign (.Attribute o f tpos) op value pos) (Tj X.K ta tv rd f):=by
  intro pins s σ H D I h
  refine wpAny_AugAssign_AttributeAny (thn (ha pins s σ H _ I h) fun ov s1 ⟨x,H1,I1,rx,a,C,dx,fs,v,ex,ea,c,n,l,q⟩=>?_)
  subst ex
  obtain rfl:ov=Value.ref a:=rx
  refine qu I1 ea c n l fun u s2 I2 ru=>thn (hv pins s2 σ H1 _ I2 q) fun w3 s3 ⟨y,H2,I3,ry,q3⟩=>thn (hop pins s3 σ H2 v y u w3 _ I3 ru ry q3) fun w4 s4 ⟨z,H3,I4,rz,dx',fs',ea',l',q4⟩=>?_
  exact qb I4 ea' c n l' rz fun s5 I5=>⟨σ,_,I5,q4⟩
def rAdd:V→V→Hp→VK→Prop:=fun x y H Q=>∃ i j,x=.int i∧y=.int j∧Q (.int (i + j)) H
theorem WM:aas X .Add rAdd:=by
  rintro pins s σ H x y u v Q I rx ry ⟨i,j,rfl,rfl,q⟩
  obtain ⟨t,rfl⟩:=(show ∃ t,u=Value.int i t from rx)
  obtain ⟨t',rfl⟩:=(show ∃ t',v=Value.int j t' from ry)
  exact PyProof.Rows.iadd_int ⟨.int (i + j),H,I.tok _,⟨_,rfl⟩,q⟩
end
section
variable {X:Cx} {pins:List (Addr × Obj)} {σ:St} {H:Hp} {s:Shared} {A:Around} {E:Value→Shared→Prop} {Q:Value→Shared→Prop} {c:Value} {b:Bool}
inductive xW (K:PySem.W.Frag) (H:Hp):V→Value→Prop where
  | non:xW K H .non (.type "NoneType")
  | bl (x:Bool):xW K H (.bl x) (.type "bool")
  | int (i:Int):xW K H (.int i) (.type "int")
  | str (x:Str):xW K H (.str x) (.type "str")
  | flt (x:UInt64):xW K H (.flt x) (.type "float")
  | lst {a:Addr} {xs:List V} (e:H a=some (.lst xs)):xW K H (.ref a) (.type "list")
  | frz {a:Addr} {o:Obj} {xs:List V} (e:H a=some (.frz o (.lst xs))):xW K H (.ref a) (.type "list")
  | tup {a:Addr} {xs:List V} (e:H a=some (.tup xs)):xW K H (.ref a) (.type "tuple")
  | dK {a:Addr} {kvs:List (Key × V)} (e:H a=some (.dK kvs)):xW K H (.ref a) (.type "dict")
  | dT {a:Addr} {kvs:List (List Key × V)} (e:H a=some (.dT kvs)):xW K H (.ref a) (.type "dict")
  | ins {a C dx:Addr} {fs:List (Str × V)} (e:H a=some (.ins C dx fs)) (cl:Cls K C) (ha:PySem.W.findIn K (.ref C) "__class__"=some (some (.builtin "object.__class__")))
      (hn:PySem.W.specialIn K (.builtin "object.__class__") "__get__"=some (some (.builtin "getset_descriptor.__get__"))) (htk:PySem.W.takesIn K (.builtin "object.__class__")=some true)
      (hm:PySem.W.mroIn K C (.type "object")=some true):xW K H (.ref a) (.ref C)
theorem Bt {x:V} {u t:Value} (I:Inv X pins σ H s) (rx:RelV x u) (ty:xW X.K H x t) (e:PySem.W.kitOne X.K t c=some b) (h:∀ tk,Q (.bool b) { s with toks:=tk }) :
    wpAny (model X.prog X.w) A (call (.builtin "isinstance") [u,c]) Q E s:=by
  cases ty with
  | non=>cases (show u=Value.none from rx);exact PySem.W.kia_one PySem.W.kitx_none I.kIn True.intro e (fun z=>nomatch z) h
  | bl y=>cases (show u=Value.bool y from rx);exact PySem.W.kia_one PySem.W.kitx_bool I.kIn True.intro e (fun z=>nomatch z) h
  | int i=>obtain ⟨t,q⟩:=(show ∃ t,u=Value.int i t from rx);cases q;exact PySem.W.kia_one PySem.W.kitx_int I.kIn True.intro e (fun z=>nomatch z) h
  | str y=>obtain ⟨t,q⟩:=(show ∃ t,u=Value.str y t from rx);cases q;exact PySem.W.kia_one PySem.W.kitx_str I.kIn True.intro e (fun z=>nomatch z) h
  | flt y=>obtain ⟨t,q⟩:=(show ∃ t,u=Value.float y t from rx);cases q;exact PySem.W.kia_one PySem.W.kitx_float I.kIn True.intro e (fun z=>nomatch z) h
  | @lst a xs ea =>
    cases (show u=Value.ref a from rx)
    obtain ⟨_,_,n,_,h1⟩:=(show eO X.prog X.w H s.heap a (.lst xs) from I.hok a _ ea)
    exact PySem.W.kia_one PySem.W.kitx_list I.kIn ⟨_,h1,rfl⟩ e (fun z=>nomatch z) h
  | @frz a ob xs ea =>
    cases (show u=Value.ref a from rx)
    obtain ⟨_,_,_,n,_,h1⟩:=(show eO X.prog X.w H s.heap a (.frz ob (.lst xs)) from I.hok a _ ea)
    exact PySem.W.kia_one PySem.W.kitx_list I.kIn ⟨_,h1,rfl⟩ e (fun z=>nomatch z) h
  | @tup a xs ea =>
    cases (show u=Value.ref a from rx)
    obtain ⟨_,_,_,p⟩:=(show eO X.prog X.w H s.heap a (.tup xs) from I.hok a _ ea)
    obtain ⟨o,h1,h2,_⟩:=p
    exact PySem.W.kia_one PySem.W.kitx_tuple I.kIn ⟨o,h1,h2⟩ e (fun z=>nomatch z) h
  | @dK a kvs ea =>
    cases (show u=Value.ref a from rx)
    obtain ⟨_,_,vs,_,p⟩:=(show eO X.prog X.w H s.heap a (.dK kvs) from I.hok a _ ea)
    obtain ⟨o,es,ep,h1,h2,_⟩:=p
    exact PySem.W.kia_one PySem.W.kitx_dict I.kIn ⟨o,h1,h2.1⟩ e (fun z=>nomatch z) h
  | @dT a kvs ea =>
    cases (show u=Value.ref a from rx)
    obtain ⟨_,_,xs,_,o,es,ep,h1,h2,_⟩:=(show eO X.prog X.w H s.heap a (.dT kvs) from I.hok a _ ea)
    exact PySem.W.kia_one PySem.W.kitx_dict I.kIn ⟨o,h1,h2.1⟩ e (fun z=>nomatch z) h
  | @ins a C dx fs ea cl ha hn htk hm =>
    cases (show u=Value.ref a from rx)
    obtain ⟨mA,O,_⟩:=rJ I.hok ea
    obtain ⟨od,J,_⟩:=O.look
    exact PySem.W.kia_one (PySem.W.kitx_own (cl.get _) cl.hd ha hn htk hm) I.kIn J e (fun z=>nomatch z) h
end
end L2
namespace L2
open PySem PySem.Spec PyProof.Rows
structure lQ (k:Nat) (A:Around):Prop where
  hd:A.handled=none
  dp:A.depth + 3 * k + 5<recursionLimit
  un:A.units + 16 * k + 200<cLine
theorem lQ.mono {j k:Nat} {A:Around} (r:lQ k A) (h:j≤k):lQ j A:=⟨r.hd,by have:=r.dp;omega,by have:=r.un;omega⟩
theorem lQ.deeper {k:Nat} {A:Around} (r:lQ (k + 1) A) (env:Env):lQ k (A.deeper env) :=
  ⟨r.hd,by have:=r.dp;show A.depth + 1 + 3 * k + 5<_;omega,by have:=r.un;show A.units + 3 + 16 * k + 200<_;omega⟩
theorem yE {A:Around} {C:Addr} {us:List Value} {kw:List (Str × Value)}:(A.under (.builtin "type.__call__" ⟨.ref C :: us,kw⟩)).depth=A.depth + 1:=by
  first | rfl | simp [Around.under,Code.weight,Code.isCreation,Code.isGuard,Code.isCaller,Code.frames,Code.isFrame,guardIds]
theorem yD {A:Around} {C:Addr} {us:List Value} {kw:List (Str × Value)}:(A.under (.builtin "type.__call__" ⟨.ref C :: us,kw⟩)).units=A.units + 1:=by
  first | rfl | simp [Around.under,Code.cUnits,Code.frames,Code.isFrame]
theorem lQ.make {k:Nat} {A:Around} (r:lQ (k + 1) A) (C:Addr) (us:List Value) (kw:List (Str × Value)):lQ k (A.under (.builtin "type.__call__" ⟨.ref C :: us,kw⟩)) :=
  ⟨r.hd,by have:=r.dp;rw [yE];omega,by have:=r.un;rw [yD];omega⟩
theorem lQ.depth {k:Nat} {A:Around} (r:lQ k A):A.depth<recursionLimit:=by have:=r.dp;omega
theorem lQ.units {k:Nat} {A:Around} (r:lQ k A):A.units + 64<cLine:=by have:=r.un;omega
def aaf:TA:=fun _ H Q=>Q [] H
def Zo (ta:TE) (tr:TA):TA:=fun σ H Q=>ta σ H fun x H1=>tr σ H1 fun xs H2=>Q (x :: xs) H2
section
variable {X:Cx} {e:Expr} {es:List Expr} {te:TE} {t:TA} {pos:Pos}
theorem au:PA X [] aaf:=fun _ _ _ _ H Q I h=>Calls.spliced_nil ⟨[],H,I,.nil,h⟩
theorem ak (ha:PE X e te) (hr:PA X es t) (hs:starEach (e :: es) X.env=(false,eval e X.env) :: starEach es X.env:=by rfl):PA X (e :: es) (Zo te t):=by
  intro pos pins s σ H Q I h
  rw [hs]
  show wpAny _ _ (spliced ((false,eval e X.env) :: backTo pos (starEach es X.env))) _ _ s
  refine Calls.spliced_cons (thn (ha pins s σ H _ I h) fun u s1 ⟨x,H1,I1,r1,q1⟩=>?_)
  exact thn (hr pos pins s1 σ H1 _ I1 q1) fun us s2 ⟨xs,H2,I2,r2,q2⟩=>⟨x :: xs,H2,I2,.cons r1 r2,q2⟩
def tTup (t:TA):TE:=fun σ H Q=>t σ H fun xs H1=>xs.length≤sizeLine∧∀ p,H1 p=none→Q (.ref p) (upd H1 p (.tup xs))
def tLst (t:TA):TE:=fun σ H Q=>t σ H fun xs H1=>xs.length≤sizeLine∧∀ p,H1 p=none→Q (.ref p) (upd H1 p (.lst xs))
theorem j5 {x1} (h:PA X es t):PE X (.Tuple es x1 pos) (tTup t):=by
  intro pins s σ H Q I hq
  refine wpAny_Tuple_spliced (thn (h pos pins s σ H _ I hq) fun us s1 ⟨xs,H1,I1,r,z,q⟩=>⟨by rw [← r.length];exact z,?_⟩)
  have hf:H1 s1.heap.objs.size=none:=I1.hok.fresh (Nat.le_refl _)
  refine ⟨.ref s1.heap.objs.size,upd H1 s1.heap.objs.size (.tup xs),I1.laid (t':=s1.toks) (fun b u e=>Heap.get?_push_of_some _ e) (Nat.le_refl _) ?_,rfl,q _ hf⟩
  exact ⟨z,us,r,⟨_,Heap.get?_push_size _ rfl,rfl,_,rfl⟩⟩
theorem dY (h:PA X es t):PE X (.List es pos) (tLst t):=by
  intro pins s σ H Q I hq
  refine wpAny_List_spliced (thn (h pos pins s σ H _ I hq) fun us s1 ⟨xs,H1,I1,r,z,q⟩=>⟨by rw [← r.length];exact z,?_⟩)
  have hf:H1 s1.heap.objs.size=none:=I1.hok.fresh (Nat.le_refl _)
  refine ⟨.ref s1.heap.objs.size,upd H1 s1.heap.objs.size (.lst xs),I1.laid (t':=s1.toks) (fun b u e=>Heap.get?_push_of_some _ e) (Nat.le_refl _) ?_,rfl,q _ hf⟩
  exact ⟨z,us,0,r,Heap.get?_push_size _ rfl⟩
end
abbrev Sp:=List V→Hp→VK→XK→Prop
abbrev CXT:=List Env→Hp→Shared→XK→Value→Shared→Prop
structure Vs (P:Program) (w:World) (K:PySem.W.Frag) (mg:Str→Option Value) (base:Heap) (A:Around) (outer:List Env) (s:Shared) (H:Hp):Prop where
  frames:A.frames=some outer
  mod:Mod K mg base
  bs:∀ b o,base.get? b=some o→s.heap.get? b=some o∧H b=none
  bsz:base.objs.size≤s.heap.objs.size
  yR:s.heap.FunFrames base outer
  frf:∀ b∈frs outer,H b=none
  hok:HOk P w H s.heap
  bare:AllBare s.gens
def CE (outer:List Env) (P:Program) (w:World) (H:Hp) (s:Shared) (Q:VK) (u:Value) (s':Shared):Prop :=
  ∃ v H',s'.os=s.os∧AllBare s'.gens∧Un (frs outer) [] H H' s.heap s'.heap∧HOk P w H' s'.heap∧RelV v u∧Q v H'
def CR (CX:CXT) (outer:List Env) (P:Program) (w:World) (H:Hp) (s:Shared) (Q:VK) (E:XK) (r:Result) (s':Shared):Prop :=
  match r with
  | .ok (.ret u)=>CE outer P w H s Q u s'
  | .ok _=>False
  | .error e=>CX outer H s E e s'
structure bN (P:Program) (w:World) (K:PySem.W.Frag) (mg:Str→Option Value) (base:Heap) (CX:CXT) (k:Nat) (f:Addr) (fd:FuncData) (ps:List Str) (sp:Sp):Prop where
  len:∀ vs H Q E,sp vs H Q E→vs.length=ps.length
  run:∀ (A:Around) (outer:List Env) (s:Shared) (H:Hp) (args:Args) (us:List Value) (vs:List V) (Q:VK) (E:XK),lQ k A→Vs P w K mg base A outer s H→BindsTo s fd args (ps.zip us)→Vals vs us→sp vs H Q E →
    codeAny (model P w) A (.call (.ref f) args) (CR CX outer P w H s Q E) s
theorem Vs.make {P:Program} {w:World} {K:PySem.W.Frag} {mg:Str→Option Value} {base:Heap} {A:Around} {outer:List Env} {s:Shared} {H:Hp} (e:Vs P w K mg base A outer s H) (C:Addr) (us:List Value) (kw:List (Str × Value)) :
    Vs P w K mg base (A.under (.builtin "type.__call__" ⟨.ref C :: us,kw⟩)) outer s H:=⟨by first | exact e.frames | (simpa [Around.under,Code.envs,Code.isFrame,pushEnvs] using e.frames),e.mod,e.bs,e.bsz,e.yR,e.frf,e.hok,e.bare⟩
section
variable {X:Cx} {pins:List (Addr × Obj)} {σ:St} {H:Hp} {s s':Shared}
theorem Inv.env0 (I:Inv X pins σ H s):Vs X.prog X.w X.K X.mg X.base X.A X.stack s H :=
  ⟨I.ok.frames,I.ok.mod,I.bs,Nat.le_trans I.ok.bsz I.sz,I.stack,I.qN,I.hok,I.bare⟩
theorem Inv.after {Q:VK} {u:Value} (I:Inv X pins σ H s) (h:CE X.stack X.prog X.w H s Q u s'):EP X pins σ Q u s':=by
  obtain ⟨v,H',os,bare,un,hok,r,q⟩:=h
  obtain ⟨hh,g,d,t,os'⟩:=s'
  obtain rfl:os'=s.os:=os
  exact ⟨v,H',I.call (h':=hh) (g':=g) (d':=d) (t':=t) (ch:=[]) un hok bare (fun b z=>absurd z (by simp)),r,q⟩
end
def Zq (sp:Sp) (dvs:List V) (E:XK) (t:TA):TE:=fun σ H Q=>t σ H fun vs H1=>sp (vs++dvs) H1 Q E
def VJ (C:Addr) (m:Str) (sp:Sp) (dvs:List V) (E:XK) (ta:TE) (t:TA):TE:=fun σ H Q=>ta σ H fun x H1=>∃ a dx fs,x=.ref a∧H1 a=some (.ins C dx fs)∧fs.lookup m=none ∧
  t σ H1 fun vs H2=>sp (x :: (vs++dvs)) H2 Q E
def Zk (C:Addr) (sp:Sp) (dvs:List V) (E:XK) (t:TA):TE:=fun σ H Q=>t σ H fun vs H1=>∀ x dx,H1 x=none→H1 dx=none→dx≠x →
  sp (.ref x :: (vs++dvs)) (upd (upd H1 dx (.own x)) x (.ins C dx [])) (fun v H2=>v=.non∧Q (.ref x) H2) E
def Binds (K:PySem.W.Frag) (fd:FuncData) (ps:List Str) (ds:List Value):Prop :=
  ∀ (s:Shared) (us:List Value),K.In s.heap→(us++ds).length=ps.length→BindsTo s fd ⟨us,[]⟩ (ps.zip (us++ds))
theorem Binds.all {K:PySem.W.Frag} {fd:FuncData} {ps:List Str} (h:∀ us:List Value,us.length=ps.length→bindArgs fd ⟨us,[]⟩=pure (ps.zip us)):Binds K fd ps []:=fun s us _ hl=>by
  rw [List.append_nil] at hl ⊢
  exact .of_eq (h us hl)
def Passes (CX:CXT) (X:Cx) (E:XK):Prop:=∀ (pins:List (Addr × Obj)) (σ:St) (H:Hp) (s:Shared) (e:Value) (s':Shared),Inv X pins σ H s→CX X.stack H s E e s'→X.xe e s'
section
variable {X:Cx} {CX:CXT} {k:Nat} {f C:Addr} {fd:FuncData} {ps:List Str} {sp:Sp} {dvs:List V} {ds:List Value} {E:XK} {x m:Str} {p pos apos:Pos} {e o:Expr} {es:List Expr} {ta:TE} {t:TA}
theorem z6 {pins:List (Addr × Obj)} {σ:St} {H:Hp} {s:Shared} {Q:VK} {us:List Value} {vs:List V} (F:bN X.prog X.w X.K X.mg X.base CX k f fd ps sp) (hr:lQ k X.A) (hb:Binds X.K fd ps ds) (hd:Vals dvs ds) (hx:Passes CX X E)
    (I:Inv X pins σ H s) (r:Vals vs us) (h:sp (vs++dvs) H Q E):wpAny (model X.prog X.w) X.A (call (.ref f) us) (EP X pins σ Q) X.xe s:=by
  have r2:Vals (vs++dvs) (us++ds):=r.append hd
  have hl:(us++ds).length=ps.length:=by rw [← r2.length];exact F.len _ _ _ _ h
  refine wpAny_call (codeAny_mono (F.run X.A X.stack s H ⟨us,[]⟩ (us++ds) (vs++dvs) Q E hr I.env0 (hb s us I.kIn hl) r2 h) fun r s' hq=>?_)
  cases r with
  | error e=>exact hx pins σ H s e s' I hq
  | ok fl =>
    cases fl with
    | ret u=>exact I.after hq
    | next=>exact False.elim hq
    | brk=>exact False.elim hq
    | cont=>exact False.elim hq
theorem aF (F:bN X.prog X.w X.K X.mg X.base CX k f fd ps sp) (hr:lQ k X.A) (hg:Gl X x) (hm:X.mg x=some (.ref f)) (hk:PySem.W.keepIn X.K (.ref f)=true) (hb:Binds X.K fd ps ds) (hd:Vals dvs ds) (hx:Passes CX X E)
    (ha:PA X (e :: es) t) (hdb:(x == ("__debug__":Str))=false:=by decide) (he:starEach (e :: es) X.env=(false,eval e X.env) :: starEach es X.env:=by rfl) (hpl:(backTo pos (starEach es X.env)).any (·.1)=false:=by rfl) :
    PE X (.Call (.Name x p) (e :: es) [] pos) (Zq sp dvs E t):=by
  intro pins s σ H Q I h
  refine wpAny_Call_Name_kw (rG I hg hm ?_ hdb)
  refine PySem.W.callWith_K (h₀:=X.base) I.ok.mod.kin hk (thn (ha pos pins s σ H _ I h) fun us s1 ⟨vs,H1,I1,r,q⟩=>⟨I1.kIn,?_⟩) he hpl
  exact z6 F hr hb hd hx I1 r q
theorem j6 {pl:Sem Bool} (he:PE X o ta) (c:Cls X.K C) (hm:Meth X.K C m f) (F:bN X.prog X.w X.K X.mg X.base CX k f fd ps sp) (hr:lQ k X.A) (hb:Binds X.K fd ps ds) (hd:Vals dvs ds) (hx:Passes CX X E) (ha:PA X (e :: es) t)
    (hst:starEach (e :: es) X.env=(false,eval e X.env) :: starEach es X.env:=by rfl) (hpl:(backTo pos (starEach es X.env)).any (·.1)=false:=by rfl)
    (ht:eval (.Call (.Attribute o m apos) (e :: es) [] pos) X.env=(do
      let ov ← eval o X.env
      standAt apos.atName
      let (f,first) ← holding [ov] (getMethod ov m pl)
      callWith pos f first (backTo pos (starEach (e :: es) X.env)) (backToKw pos (keywordEach [] X.env))):=by rfl) :
    PE X (.Call (.Attribute o m apos) (e :: es) [] pos) (VJ C m sp dvs E ta t):=by
  intro pins s σ H Q I h
  refine PySem.W.methodCall_KW (pl:=pl) (thn (he pins s σ H _ I h) fun u s1 ⟨x,H1,I1,rx,a,dx,fs,ex,ea,l,q⟩=>?_) ht
  subst ex
  obtain rfl:u=Value.ref a:=rx
  refine qt I1 ea c hm l ?_
  refine PySem.W.callWith_K (first:=[.ref a]) (h₀:=X.base) I.ok.mod.kin hm.kp (thn (ha pos pins s1 σ H1 _ I1 q) fun us s2 ⟨vs,H2,I2,r,q2⟩=>⟨I2.kIn,?_⟩) hst hpl
  exact z6 (us:=.ref a :: us) (vs:=.ref a :: vs) F hr hb hd hx I2 (.cons rfl r) q2
theorem mj {pl:Sem Bool} (he:PE X o ta) (c:Cls X.K C) (hm:Meth X.K C m f) (F:bN X.prog X.w X.K X.mg X.base CX k f fd ps sp) (hr:lQ k X.A) (hb:Binds X.K fd ps ds) (hd:Vals dvs ds) (hx:Passes CX X E)
    (ht:eval (.Call (.Attribute o m apos) [] [] pos) X.env=(do
      let ov ← eval o X.env
      standAt apos.atName
      let (f,first) ← holding [ov] (getMethod ov m pl)
      callWith pos f first (backTo pos (starEach [] X.env)) (backToKw pos (keywordEach [] X.env))):=by rfl) :
    PE X (.Call (.Attribute o m apos) [] [] pos) (VJ C m sp dvs E ta aaf):=by
  intro pins s σ H Q I h
  refine PySem.W.methodCall_KW (pl:=pl) (thn (he pins s σ H _ I h) fun u s1 ⟨x,H1,I1,rx,a,dx,fs,ex,ea,l,q⟩=>?_) ht
  subst ex
  obtain rfl:u=Value.ref a:=rx
  refine qt I1 ea c hm l ?_
  exact PySem.W.callWith_K0 (first:=[.ref a]) I1.kIn hm.kp (z6 (us:=[.ref a]) (vs:=[.ref a]) F hr hb hd hx I1 (.cons rfl .nil) q)
structure Mk (K:PySem.W.Frag) (C f:Addr):Prop where
  makes:PySem.W.makesIn K C=true
  init:PySem.W.findIn K (.ref C) "__init__"=some (some (.ref f))
  fn:PySem.W.isFn K (.ref f)=true
  kp:PySem.W.keepIn K (.ref C)=true
theorem JW {pins:List (Addr × Obj)} {σ:St} {H:Hp} {s:Shared} {Q:VK} {us:List Value} {vs:List V} (M:Mk X.K C f) (F:bN X.prog X.w X.K X.mg X.base CX k f fd ps sp) (hr:lQ (k + 1) X.A) (hb:Binds X.K fd ps ds) (hd:Vals dvs ds)
    (hx:Passes CX X E) (I:Inv X pins σ H s) (r:Vals vs us)
    (h:∀ x dx,H x=none→H dx=none→dx≠x→sp (.ref x :: (vs++dvs)) (upd (upd H dx (.own x)) x (.ins C dx [])) (fun v H2=>v=.non∧Q (.ref x) H2) E) :
    wpAny (model X.prog X.w) X.A (call (.ref C) us) (EP X pins σ Q) X.xe s:=by
  have hq:=h (s.heap.objs.size + 1) s.heap.objs.size (I.hok.fresh (Nat.le_succ _)) (I.hok.fresh (Nat.le_refl _)) (Nat.ne_of_lt (Nat.lt_succ_self _))
  have I2:=Inv.made (C:=C) I
  have r2:Vals (V.ref (s.heap.objs.size + 1) :: (vs++dvs)) (Value.ref (s.heap.objs.size + 1) :: (us++ds)):=.cons rfl (r.append hd)
  have hl:(Value.ref (s.heap.objs.size + 1) :: us++ds).length=ps.length:=by
    have e:=r2.length
    rw [F.len _ _ _ _ hq] at e
    exact e.symm
  refine wpAny_call (Kr (f:=f) I.kIn M.makes M.init (beq_iff_eq.mp M.fn) (codeAny_mono (F.run _ X.stack _ _ ⟨Value.ref (s.heap.objs.size + 1) :: us,[]⟩ (Value.ref (s.heap.objs.size + 1) :: (us++ds)) _ _ E (hr.make C us [])
    (I2.env0.make C us []) (hb _ (Value.ref (s.heap.objs.size + 1) :: us) I2.kIn hl) r2 hq) fun r s' hq'=>?_))
  cases r with
  | error e=>exact hx pins σ _ _ e s' I2 hq'
  | ok fl =>
    cases fl with
    | ret u =>
      obtain ⟨v,H',I3,rv,ev,q3⟩:=I2.after hq'
      subst ev
      exact ⟨rv,⟨V.ref (s.heap.objs.size + 1),H',I3,rfl,q3⟩⟩
    | next=>exact False.elim hq'
    | brk=>exact False.elim hq'
    | cont=>exact False.elim hq'
theorem Tt (M:Mk X.K C f) (F:bN X.prog X.w X.K X.mg X.base CX k f fd ps sp) (hr:lQ (k + 1) X.A) (hg:Gl X x) (hm:X.mg x=some (.ref C)) (hb:Binds X.K fd ps ds) (hd:Vals dvs ds) (hx:Passes CX X E)
    (ha:PA X (e :: es) t) (hdb:(x == ("__debug__":Str))=false:=by decide) (he:starEach (e :: es) X.env=(false,eval e X.env) :: starEach es X.env:=by rfl) (hpl:(backTo pos (starEach es X.env)).any (·.1)=false:=by rfl) :
    PE X (.Call (.Name x p) (e :: es) [] pos) (Zk C sp dvs E t):=by
  intro pins s σ H Q I h
  refine wpAny_Call_Name_kw (rG I hg hm ?_ hdb)
  refine PySem.W.callWith_K (h₀:=X.base) I.ok.mod.kin M.kp (thn (ha pos pins s σ H _ I h) fun us s1 ⟨vs,H1,I1,r,q⟩=>⟨I1.kIn,?_⟩) he hpl
  exact JW M F hr hb hd hx I1 r q
end
structure aH (N P:List Str) (sc:Scope):Prop where
  kind:sc.kind=.function
  co:sc.isCoroutine=false
  gen:sc.isGenerator=false
  nd:N.Nodup
  pre:N.take P.length=P
  par:∀ x∈P,sc.names.lookup x=some .local∨sc.names.lookup x=some .cell
  nofree:∀ y∈sc.names,y.2≠.free
theorem uG {kindOf:Str→Option NameKind} {x:Str}:∀ {binds:List (Str × Value)} {m:Str→Option Value},(∀ v,(x,v) ∉ binds)→bindL kindOf binds m x=m x
  | [],_,_=>rfl
  | (n,v) :: r,m,h=>by
    unfold bindL
    rw [uG fun w hw=>h w (List.mem_cons_of_mem _ hw)]
    split
    · have:x≠n:=by rintro rfl;exact h v List.mem_cons_self
      simp [this]
    · rfl
theorem uI {kindOf:Str→Option NameKind} {x:Str}:∀ {binds:List (Str × Value)} {m:Str→Option Value},(∀ v,(x,v) ∉ binds)→bindC kindOf binds m x=m x
  | [],_,_=>rfl
  | (n,v) :: r,m,h=>by
    unfold bindC
    rw [uI fun w hw=>h w (List.mem_cons_of_mem _ hw)]
    split
    · rfl
    · have:x≠n:=by rintro rfl;exact h v List.mem_cons_self
      simp [this]
theorem uH {kindOf:Str→Option NameKind} {x:Str} {v:Value}:∀ {P:List Str} {vs:List Value} {i:Nat} {m:Str→Option Value},P.Nodup→P[i]?=some x→vs[i]?=some v→kindOf x=some .local →
    bindL kindOf (P.zip vs) m x=some v
  | [],_,_,_,_,h,_,_=>by simp at h
  | _ :: _,[],_,_,_,_,h,_=>by simp at h
  | p :: P,w :: vs,0,m,nd,h1,h2,hk=>by
    simp at h1 h2;subst h1;subst h2
    show bindL kindOf ((p,w) :: P.zip vs) m p=_
    unfold bindL
    rw [uG fun v hv=>(List.nodup_cons.mp nd).1 (List.of_mem_zip hv).1,if_pos hk]
    simp
  | p :: P,w :: vs,i + 1,m,nd,h1,h2,hk=>by
    show bindL kindOf ((p,w) :: P.zip vs) m x=_
    unfold bindL
    exact uH (i:=i) (List.nodup_cons.mp nd).2 (by simpa using h1) (by simpa using h2) hk
theorem uJ {kindOf:Str→Option NameKind} {x:Str} {v:Value}:∀ {P:List Str} {vs:List Value} {i:Nat} {m:Str→Option Value},P.Nodup→P[i]?=some x→vs[i]?=some v→kindOf x≠some .local →
    bindC kindOf (P.zip vs) m x=some v
  | [],_,_,_,_,h,_,_=>by simp at h
  | _ :: _,[],_,_,_,_,h,_=>by simp at h
  | p :: P,w :: vs,0,m,nd,h1,h2,hk=>by
    simp at h1 h2;subst h1;subst h2
    show bindC kindOf ((p,w) :: P.zip vs) m p=_
    unfold bindC
    rw [uI fun v hv=>(List.nodup_cons.mp nd).1 (List.of_mem_zip hv).1,if_neg hk]
    simp
  | p :: P,w :: vs,i + 1,m,nd,h1,h2,hk=>by
    show bindC kindOf ((p,w) :: P.zip vs) m x=_
    unfold bindC
    exact uJ (i:=i) (List.nodup_cons.mp nd).2 (by simpa using h1) (by simpa using h2) hk
def start (N:List Str) (vs:List V):St:=vs.map some++List.replicate (N.length - vs.length) none
def Jd (CX:CXT) (P:Program) (w:World) (K:PySem.W.Frag) (mg:Str→Option Value) (base:Heap) (N:List Str) (qual:Str) (scope:Scope) (f:Addr) (cd:Value) (A:Around) (outer:List Env) (s:Shared) (H:Hp) (E:XK):Cx where
  prog:=P
  w:=w
  K:=K
  mg:=mg
  base:=base
  A:=A.deeper (envOfC qual scope s.heap.objs.size f cd)
  N:=N
  s₀:=s
  H₀:=H
  env:=envOfC qual scope s.heap.objs.size f cd
  outer:=outer
  stack:=envOfC qual scope s.heap.objs.size f cd :: outer
  ex:=[]
  calm:=true
  fn:=fun _=>true
  pn:=[]
  xe:=fun e s'=>wpAny (model P w) (A.deeper (envOfC qual scope s.heap.objs.size f cd)) (leaving (envOfC qual scope s.heap.objs.size f cd) e) (fun _ s''=>CX outer H s E e s'') (fun e' s''=>CX outer H s E e' s'') s'
theorem xU {sc:Scope} {n:Nat} {x:Str} (h:sc.names.lookup x=some .cell):∃ c,(cellsFrom n sc.names []).lookup x=some c:=by
  have q:=PySem.W.cellsFrom_some sc.names n [] (.inl h)
  exact Option.isSome_iff_exists.mp q
theorem Bu {CX:CXT} {P:Program} {w:World} {K:PySem.W.Frag} {mg:Str→Option Value} {base:Heap} {N ps:List Str} {qual:Str} {scope:Scope} {f:Addr} {cd:Value} {A:Around} {outer:List Env} {s s1:Shared} {H:Hp} {E:XK} {us:List Value} {vs:List V}
    (S:aH N ps scope) (hd:A.handled=none) (e0:Vs P w K mg base A outer s H) (hl:vs.length=ps.length) (r:Vals vs us)
    (x:InCallC s s.heap.objs.size (bindL (envOfC qual scope s.heap.objs.size f cd).kindOf (ps.zip us) fun _=>none) (cellsFrom (s.heap.objs.size + 1) scope.names []) (bindC (envOfC qual scope s.heap.objs.size f cd).kindOf (ps.zip us) fun _=>none) s1) :
    Inv (Jd CX P w K mg base N qual scope f cd A outer s H E) [] (start N vs) H s1:=by
  have hpl:ps.length≤N.length:=by have:=congrArg List.length S.pre;rw [List.length_take] at this;omega
  obtain ⟨h1,tk,rfl,hk⟩:=x.done
  have noA:∀ b:Addr,b ∉ (Jd CX P w K mg base N qual scope f cd A outer s H E).ex:=fun b z=>absurd (show b∈([]:List Addr) from z) (by simp)
  refine ⟨⟨e0.mod,S.kind,rfl,rfl,Nat.le_refl _,fun y z c h1 h2=>?_,fun y hy=>?_,fun y c _ h=>?_,fun _=>hd,Around.frames_deeper e0.frames,.inr ⟨rfl,rfl⟩,fun b z=>absurd z (noA b),e0.bs,e0.bsz,fun b _ _=>noA b,fun b z=>absurd z (noA b),e0.yR,e0.frf⟩,
    rfl,e0.bare,Un.kept hk,⟨_,x.toInCall.ns,fun i y v h1 h2 h3=>?_⟩,fun y c h=>⟨_,x.cell y c h⟩,e0.hok.fresh (Nat.le_refl _),fun y c h=>?_,fun p hp=>absurd (show p∈([]:List (Addr × Obj)) from hp) (by simp),e0.hok.kept hk,?_⟩
  · exact name_of_addr x.apart (PySem.mem_of_lookup h1) (PySem.mem_of_lookup h2)
  · have hy:scope.names.lookup y=some .cell∨scope.names.lookup y=some .free:=hy
    rcases hy with hy | hy
    · exact xU hy
    · exact absurd rfl (S.nofree _ (PySem.mem_of_lookup hy))
  · exact Nat.le_of_lt (x.above y c (PySem.mem_of_lookup h))
  · have hi:i<vs.length:=by
      unfold start at h2
      by_cases hi:i<vs.length
      · exact hi
      · rw [List.getElem?_append_right (by simpa using hi)] at h2
        rw [List.getElem?_replicate] at h2
        split at h2 <;> cases h2
    have ha:vs[i]?=some v:=by
      unfold start at h2
      rw [List.getElem?_append_left (by simpa using hi),List.getElem?_map] at h2
      cases e:vs[i]? with
      | none=>rw [e] at h2;cases h2
      | some a=>rw [e] at h2;cases h2;rfl
    obtain ⟨u,hu,rv⟩:=r.get ha
    have hp:ps[i]?=some y:=by
      rw [← S.pre,List.getElem?_take_of_lt (by omega)];exact h1
    have ndP:ps.Nodup:=by rw [← S.pre];exact S.nd.sublist (List.take_sublist _ _)
    refine ⟨u,rv,?_⟩
    rcases S.par y (List.mem_of_getElem? hp) with k | k
    · exact .inl ⟨k,uH ndP hp hu k⟩
    · obtain ⟨c,e⟩:=xU (n:=s.heap.objs.size + 1) k
      refine .inr ⟨.inl k,c,e,?_⟩
      have q:=x.cell y c e
      rw [uJ ndP hp hu (by show scope.names.lookup y≠_;rw [k];decide)] at q
      exact q
  · exact e0.hok.fresh (Nat.le_of_lt (x.above y c (PySem.mem_of_lookup h)))
  · unfold start
    show _=N.length
    rw [List.length_append,List.length_map,List.length_replicate]
    omega
theorem K3 {CX:CXT} {P:Program} {w:World} {K:PySem.W.Frag} {mg:Str→Option Value} {base:Heap} {k:Nat} {f:Addr} {name qual:Str} {params:Arguments} {body:List Stmt} {scope:Scope} {dV kV doc pm cdv ct oc:Value} {an od:Option Addr}
    {osl:Array (Option Value)} {N ps:List Str} {sp:Sp} (lk:K.lookup f=some ⟨oc,od,.func (PySem.W.fnOf name qual params body scope dV kV doc pm an cdv ct),osl⟩) (hcd:PySem.W.codeIn K cdv qual=true) (S:aH N ps scope)
    (len:∀ vs H Q E,sp vs H Q E→vs.length=ps.length)
    (hbody:∀ (A:Around) (outer:List Env) (s:Shared) (H:Hp) (vs:List V) (Q:VK) (E:XK),lQ k (A.deeper (envOfC qual scope s.heap.objs.size f cdv))→sp vs H Q E →
      ∃ t,PSs (Jd CX P w K mg base N qual scope f cdv A outer s H E) body t∧t { nx:=fun _ H'=>Q .non H',rt:=Q } (start N vs) H) :
    bN P w K mg base CX (k + 1) f (PySem.W.fnOf name qual params body scope dV kV doc pm an cdv ct) ps sp:=by
  refine ⟨len,fun A outer s H args us vs Q E hr e0 hb r hsp=>?_⟩
  have hl:=len _ _ _ _ hsp
  have KX:K.In s.heap:=e0.mod.kin.keeps fun b o e=>(e0.bs b o e).1
  have lim:s.heap.NoLimit:=e0.mod.nolimit.keeps fun b o e=>(e0.bs b o e).1
  have hkind:∀ y∈ps.zip us,scope.names.lookup y.1=some .local∨(scope.names.lookup y.1=some .cell∧((cellsFrom (s.heap.objs.size + 1) scope.names []).lookup y.1).isSome=true):=fun ⟨n,v⟩ hy=>by
    rcases S.par n (List.of_mem_zip hy).1 with q | q
    · exact .inl q
    · exact .inr ⟨q,PySem.W.cellsFrom_some _ _ _ (.inl q)⟩
  refine codeAny_call_function hr.depth (KX _ _ lk) rfl S.co S.gen rfl (PySem.W.codeRec_of KX hcd) (hb _ _ _ _ ?_)
  refine wpAny_newFunctionEnv_cells S.kind hkind fun env he s1 x=>?_
  subst he
  refine ⟨lim.keeps x.toInCall.keep,codeAny_func ?_⟩
  obtain ⟨t,ht,hq⟩:=hbody A outer s H vs Q E (hr.deeper _) hsp
  have I:Inv (Jd CX P w K mg base N qual scope f cdv A outer s H E) [] (start N vs) H s1:=Bu S hr.hd e0 hl r x
  refine wpAny_mono (ht [] s1 (start N vs) H _ I hq) (fun fl s' hs=>?_) fun e s' hs=>hs
  have fin:∀ {σ':St} {H':Hp} {v:V} {u:Value},Inv (Jd CX P w K mg base N qual scope f cdv A outer s H E) [] σ' H' s'→RelV v u→Q v H'→CE outer P w H s Q u s' :=
    fun {σ' H' v u} J rv q=>⟨v,H',J.os,J.bare,J.base,J.hok,rv,q⟩
  cases fl with
  | ret u =>
    obtain ⟨v,σ',H',J,rv,q⟩:=hs
    exact fin J rv q
  | next =>
    obtain ⟨σ',H',J,q⟩:=hs
    exact fin (v:=V.non) (u:=Value.none) J rfl q
  | brk =>
    obtain ⟨_,_,_,q⟩:=hs
    exact False.elim q
  | cont =>
    obtain ⟨_,_,_,q⟩:=hs
    exact False.elim q
end L2
namespace L2
open PySem PySem.Spec PyProof.Rows
section
variable {X:Cx} {x:Str} {p pos:Pos} {e:Expr} {es:List Expr} {t:TA} {id T:String} {r:List V→Hp→VK→Prop}
def tCB (r:List V→Hp→VK→Prop) (t:TA):TE:=fun σ H Q=>t σ H fun vs H1=>r vs H1 Q
theorem aK (hc:pO X (.builtin id) r) (hg:Gl X x) (hm:X.mg x=none) (hv:bootBuiltins x=some (.builtin id)) (ha:PA X (e :: es) t) (hn:x≠"__name__":=by decide) (hdb:(x == ("__debug__":Str))=false:=by decide)
    (he:starEach (e :: es) X.env=(false,eval e X.env) :: starEach es X.env:=by rfl) (hpl:(backTo pos (starEach es X.env)).any (·.1)=false:=by rfl):PE X (.Call (.Name x p) (e :: es) [] pos) (tCB r t):=by
  intro pins s σ H Q I h
  refine wpAny_Call_Name_kw (jA I hg hm hv ?_ hn hdb)
  exact PyProof.Rows.callWith_builtin1 (thn (ha pos pins s σ H _ I h) fun us s1 ⟨vs,H1,I1,r1,q1⟩=>hc pins s1 σ H1 vs us Q I1 r1 q1) he hpl
theorem dF (hc:pO X (.type T) r) (hg:Gl X x) (hm:X.mg x=none) (hv:bootBuiltins x=some (.type T)) (ha:PA X (e :: es) t) (hn:x≠"__name__":=by decide) (hdb:(x == ("__debug__":Str))=false:=by decide)
    (he:starEach (e :: es) X.env=(false,eval e X.env) :: starEach es X.env:=by rfl) (hpl:(backTo pos (starEach es X.env)).any (·.1)=false:=by rfl):PE X (.Call (.Name x p) (e :: es) [] pos) (tCB r t):=by
  intro pins s σ H Q I h
  refine wpAny_Call_Name_kw (jA I hg hm hv ?_ hn hdb)
  exact PyProof.Rows.callWith_type1 (thn (ha pos pins s σ H _ I h) fun us s1 ⟨vs,H1,I1,r1,q1⟩=>hc pins s1 σ H1 vs us Q I1 r1 q1) he hpl
end
end L2
namespace HT
open PySem PyProof.Rows
def lexLt:List Int→List Int→Bool
  | [],[]=>false
  | [],_ :: _=>true
  | _ :: _,[]=>false
  | x :: xs,y :: ys=>if x=y then lexLt xs ys else decide (x<y)
theorem jz (x y:Int) (xs ys:List Int):lexLt (x :: xs) (y :: ys)=if x=y then lexLt xs ys else decide (x<y):=rfl
theorem mz:lexLt [] []=false:=rfl
section
open PySem.SeqAt
open PySem.AutoSeq1 (wpAny_loadPart')
open PySem.MeetsSeq PySem.MeetsSeq2 PySem.MeetsSeq3
end
section
variable {prog:Program} {w:World} {A:Around} {E:Value→Shared→Prop} {s:Shared}
def sIx (n d:Nat):Option Int→Nat
  | none=>d
  | some v=>if v<0 then (v + (n:Int)).toNat else min v.toNat n
theorem JV (n d:Nat):sIx n d none=d:=rfl
theorem oG (n d k:Nat):sIx n d (some (k:Int))=min k n:=by
  show (if (k:Int)<0 then ((k:Int) + (n:Int)).toNat else min (k:Int).toNat n)=min k n
  rw [if_neg (by omega),Int.toNat_natCast]
end
end HT
namespace L2
open PySem PySem.Spec PyProof.Rows
abbrev TO:=St→Hp→(Option Int→Hp→Prop)→Prop
def PO (X:Cx) (e:Option Expr) (t:TO):Prop :=
  ∀ (pins:List (Addr × Obj)) (s:Shared) (σ:St) (H:Hp) (Q:Option Int→Hp→Prop),Inv X pins σ H s→t σ H Q →
    wpAny (model X.prog X.w) X.A (evalPart e X.env) (fun u s'=>∃ o H',Inv X pins σ H' s'∧IsPart u o∧Q o H') X.xe s
def Tc:TO:=fun _ H Q=>Q none H
def Zg (t:TE):TO:=fun σ H Q=>t σ H fun x H1=>∃ i,x=.int i∧Q (some i) H1
theorem intsAre_of {ns:List Int}:∀ {us:List Value},Vals (ns.map V.int) us→IntsAre us ns:=by
  induction ns with
  | nil=>intro us r;rw [List.map_nil] at r;cases r;exact .nil
  | cons n ns ih =>
    intro us r
    rw [List.map_cons] at r
    cases r with
    | cons r1 r2 =>
      obtain ⟨t,e⟩:=r1
      subst e
      exact .cons n t (ih r2)
section
variable {X:Cx} {e:Expr} {te:TE} {lo hi:Option Expr} {tl th:TO} {pos p2:Pos}
theorem mX:PO X none Tc:=by
  intro pins s σ H Q I h
  rw [evalPart_none]
  exact wpAny_pure ⟨none,H,I,.none,h⟩
theorem jt (h:PE X e te):PO X (some e) (Zg te):=by
  intro pins s σ H Q I hw
  rw [evalPart_some]
  refine thn (h pins s σ H _ I hw) fun u s1 ⟨x,H1,I1,r1,q1⟩=>?_
  obtain ⟨i,rfl,q⟩:=q1
  obtain ⟨t,rfl⟩:=r1
  exact ⟨some i,H1,I1,.int i t,q⟩
def SlR (X:Cx) (r:V→Option Int→Option Int→Hp→VK→Prop):Prop :=
  ∀ (pins:List (Addr × Obj)) (s:Shared) (σ:St) (H:Hp) (x:V) (v vl vu:Value) (lo hi:Option Int) (sl:Addr) (Q:VK),Inv X pins σ H s→RelV x v→s.heap.IsSliceOf sl vl vu .none→IsPart vl lo→IsPart vu hi→r x lo hi H Q →
    ∃ T id,typeLookup (.type T) "__getitem__"=pure (some (.builtin id))∧s.TypeIs v T∧wpAny (model X.prog X.w) X.A (getItem v (.ref sl)) (EP X pins σ Q) X.xe s
def tSl (r:V→Option Int→Option Int→Hp→VK→Prop) (te:TE) (tl th:TO):TE:=fun σ H Q=>te σ H fun x H1=>tl σ H1 fun l H2=>th σ H2 fun u H3=>r x l u H3 Q
theorem jj {r:V→Option Int→Option Int→Hp→VK→Prop} (hr:SlR X r) (he:PE X e te) (hl:PO X lo tl) (hu:PO X hi th):PE X (.Subscript e (.Slice lo hi none p2) pos) (tSl r te tl th):=by
  intro pins s σ H Q I h
  refine Subscript_ (thn (he pins s σ H _ I h) fun v s1 ⟨x,H1,I1,r1,q1⟩=>?_)
  refine wpAny_Slice (thn (hl pins s1 σ H1 _ I1 q1) fun vl s2 ⟨l,H2,I2,pl,q2⟩=>thn (hu pins s2 σ H2 _ I2 q2) fun vu s3 ⟨u,H3,I3,pu,q3⟩=>?_)
  rw [evalPart_none]
  refine wpAny_pure ?_
  have I4:Inv X pins σ H3 { s3 with heap:=s3.heap.push { cls:=.type "slice",data:=.fields #[vl,vu,.none] } }:=I3.kept (t':=s3.toks) fun b ob q=>Heap.get?_push_of_some _ q
  obtain ⟨T,id,hT,ht,hg⟩:=hr pins { s3 with heap:=s3.heap.push { cls:=.type "slice",data:=.fields #[vl,vu,.none] } } σ H3 x v vl vu l u s3.heap.objs.size Q I4 r1 (Heap.IsSliceOf.new ..) pl pu q3
  show wpAny (model X.prog X.w) X.A (subscriptTail e (.Slice lo hi none p2) v (.ref s3.heap.objs.size)) (EP X pins σ Q) X.xe { s3 with heap:=s3.heap.push { cls:=.type "slice",data:=.fields #[vl,vu,.none] } }
  exact tail_any (ops:=[.ref s3.heap.objs.size,v]) ht hT hg (by with_unfolding_all rfl)
def uW (xs:List V) (lo hi:Option Int):List V:=(xs.drop (HT.sIx xs.length 0 lo)).take (HT.sIx xs.length xs.length hi - HT.sIx xs.length 0 lo)
theorem vO (xs:List V) (lo hi:Option Int):(uW xs lo hi).length≤xs.length:=by
  unfold uW
  rw [List.length_take,List.length_drop]
  omega
end
end L2
namespace L2
open PySem PySem.Spec PyProof.Rows
def ixN (n:Nat) (i:Int):Option Nat:=if 0≤i then (if i<n then some i.toNat else none) else if -(n:Int)≤i then some (i + n).toNat else none
def atI {α:Type} (xs:List α) (i:Int):Option α:=(ixN xs.length i).bind fun j=>xs[j]?
theorem Bs {n:Nat} {i:Int} {j:Nat} (h:ixN n i=some j):seqIndex? i n=some j∧j<n∧-(n:Int)≤i∧i<n:=by
  unfold ixN at h
  by_cases h0:0≤i
  · rw [if_pos h0] at h
    by_cases h1:i<n
    · rw [if_pos h1] at h
      have e:i.toNat=j:=Option.some.inj h
      exact ⟨by rw [seqIndex_of h0 h1,e],by omega,by omega,h1⟩
    · rw [if_neg h1] at h;cases h
  · rw [if_neg h0] at h
    by_cases h1:-(n:Int)≤i
    · rw [if_pos h1] at h
      have e:(i + n).toNat=j:=Option.some.inj h
      exact ⟨by rw [seqIndex_neg (by omega) h1,e],by omega,h1,by omega⟩
    · rw [if_neg h1] at h;cases h
theorem Jr {α:Type} {xs:List α} {i:Int} {v:α} (h:atI xs i=some v):∃ j,seqIndex? i xs.length=some j∧xs[j]?=some v∧j<xs.length∧-(xs.length:Int)≤i∧i<xs.length:=by
  unfold atI at h
  cases e:ixN xs.length i with
  | none=>rw [e] at h;cases h
  | some j =>
    rw [e] at h
    obtain ⟨h1,h2,h3,h4⟩:=Bs e
    exact ⟨j,h1,h,h2,h3,h4⟩
theorem iB {α:Type} {xs:List α} {j:Nat} {v:α} (h:xs[j]?=some v):atI xs (j:Int)=some v:=by
  have hj:j<xs.length:=(List.getElem?_eq_some_iff.mp h).1
  have e:ixN xs.length (j:Int)=some j:=by
    unfold ixN
    rw [if_pos (by omega),if_pos (by omega)];simp
  unfold atI;rw [e];exact h
theorem Le {α:Type} (xs:List α) (v:α):atI (xs++[v]) (-1)=some v:=by
  have hl:(xs++[v]).length=xs.length + 1:=by simp
  have e:ixN (xs++[v]).length (-1)=some xs.length:=by
    unfold ixN
    rw [hl,if_neg (by decide),if_pos (by omega)]
    congr 1
    omega
  unfold atI
  rw [e]
  show (xs++[v])[xs.length]?=some v
  simp
def Vp (b:Expr):Prop:=∀ o i,subscripted b false o i=operate [o,i] (getItem o i)
def IxR (X:Cx) (r:R2):Prop :=
  ∀ (value slice:Expr) (pins:List (Addr × Obj)) (s:Shared) (σ:St) (H:Hp) (x y:V) (v u:Value) (Q:VK),Inv X pins σ H s→RelV x v→RelV y u→r x y H Q →
    subscripted slice false v u=operate [v,u] (getItem v u)→wpAny (model X.prog X.w) X.A (subscriptTail value slice v u) (EP X pins σ Q) X.xe s
def MtR (X:Cx) (id:String) (r:V→List V→Hp→VK→Prop):Prop :=
  ∀ (pins:List (Addr × Obj)) (s:Shared) (σ:St) (H:Hp) (x:V) (xs:List V) (v:Value) (us:List Value) (Q:VK),Inv X pins σ H s→RelV x v→Vals xs us→r x xs H Q →
    wpAny (model X.prog X.w) X.A (call (.builtin id) (v :: us)) (EP X pins σ Q) X.xe s
section
variable {X:Cx} {a b:Expr} {ta tb:TE} {pos:Pos}
theorem bx {r:R2} (hr:IxR X r) (ha:PE X a ta) (hb:PE X b tb) (hs:Vp b):PE X (.Subscript a b pos) (tOp r ta tb):=by
  intro pins s σ H Q I h
  exact Subscript_ (Z8 ha hb I h fun v u s2 x y H2 I2 rx ry q=>hr a b pins s2 σ H2 x y v u Q I2 rx ry q (hs _ _))
def aai (K:PySem.W.Frag):R2:=fun x y H Q=>∃ p xs i v,x=.ref p∧y=.int i∧SqL K H p xs∧atI xs i=some v∧Q v H
def rIxT (K:PySem.W.Frag):R2:=fun x y H Q=>∃ p xs i v,x=.ref p∧y=.int i∧SqT K H p xs∧atI xs i=some v∧Q v H
theorem aJ:IxR X (aai X.K):=by
  intro value slice pins s σ H x y v u Q I rx ry h hs
  obtain ⟨p,xs,i,z,rfl,rfl,hq,he,q⟩:=h
  cases rx
  obtain ⟨t,rfl⟩:=ry
  obtain ⟨its,r,pl,hz⟩:=I.list hq
  obtain ⟨j,h1,h2,h3,h4,h5⟩:=Jr he
  obtain ⟨w,ew,rw'⟩:=r.get h2
  have hl:=r.length
  have hn:=nG
  have fin:EP X pins σ Q w s:=⟨z,H,I,rw',q⟩
  by_cases h0:0≤i
  · have hj:i.toNat=j:=by
      rw [seqIndex_of h0 h5] at h1
      exact Option.some.inj h1
    exact item_listR pl.isList h0 (by omega) (by rw [hj];simpa using ew) fin hs
  · have hj:(i + (its.toArray.size:Int)).toNat=j:=by
      rw [seqIndex_neg (by omega) h4] at h1
      rw [List.size_toArray,← hl]
      exact Option.some.inj h1
    exact subscriptTail_builtinR (x:=w) pl.isList.typeIs slot_list_getitem.lookup
      (wpAny_getItem_list_neg (Q:=fun r s'=>r=w∧EP X pins σ Q r s') pl.isList (by omega) (by rw [List.size_toArray] <;> omega) (by omega) (by rw [hj];simpa using ew) ⟨rfl,fin⟩) hs
theorem mC:IxR X (rIxT X.K):=by
  intro value slice pins s σ H x y v u Q I rx ry h hs
  obtain ⟨p,xs,i,z,rfl,rfl,hq,he,q⟩:=h
  cases rx
  obtain ⟨t,rfl⟩:=ry
  obtain ⟨its,r,pl,hz⟩:=I.tuple hq
  obtain ⟨j,h1,h2,h3,h4,h5⟩:=Jr he
  obtain ⟨w,ew,rw'⟩:=r.get h2
  have hl:=r.length
  have hn:=nG
  have fin:EP X pins σ Q w s:=⟨z,H,I,rw',q⟩
  exact subscriptTail_builtinR (x:=w) pl.typeIs slot_tuple_getitem.lookup
    (getItem_tuple (j:=j) (Q:=fun r s'=>r=w∧EP X pins σ Q r s') pl (by omega) (by omega) (by rw [List.size_toArray,← hl];exact h1) (by simpa using ew) ⟨rfl,fin⟩) hs
theorem yC (its:List Value) (n j:Nat) (u:Value):Obj.mapSeq (·.setIfInBounds j u) { cls:=.type "list",data:=.seq its.toArray n }={ cls:=.type "list",data:=.seq (its.set j u).toArray n }:=by
  simp [Obj.mapSeq]
theorem Inv.lst {pins:List (Addr × Obj)} {σ:St} {H:Hp} {s:Shared} {p:Addr} {xs:List V} (I:Inv X pins σ H s) (h:H p=some (.lst xs)) :
    ∃ (its:List Value) (n:Nat),Vals xs its∧s.heap.get? p=some { cls:=.type "list",data:=.seq its.toArray n }∧xs.length≤sizeLine:=by
  obtain ⟨z,its,n,r,e⟩:=I.hok p _ h
  exact ⟨its,n,r,e,z⟩
theorem Inv.Wr {pins:List (Addr × Obj)} {σ:St} {H:Hp} {s:Shared} {p:Addr} {xs ys:List V} {its its':List Value} {n n':Nat} {f:Obj→Obj} (I:Inv X pins σ H s) (h:H p=some (.lst xs))
    (ho:s.heap.get? p=some { cls:=.type "list",data:=.seq its.toArray n }) (hf:f { cls:=.type "list",data:=.seq its.toArray n }={ cls:=.type "list",data:=.seq its'.toArray n' }) (r:Vals ys its') (hz:ys.length≤sizeLine) (t:Nat) :
    Inv X pins σ (upd H p (.lst ys)) { s with heap:=s.heap.update p f,toks:=t }:=by
  have e:(s.heap.update p f).get? p=some { cls:=.type "list",data:=.seq its'.toArray n' }:=by
    rw [Heap.get?_update_self f ho (by rw [hf] <;> rfl),hf]
  refine I.write (x:=p) (e:=p) (by rw [h];trivial) (.inl rfl) (fun b u hb q=>(Heap.get?_update_other _ _ (Ne.symm hb)).trans q) ⟨_,e⟩ ?_
  exact ⟨hz,its',n',r,e⟩
def V4:V→V→V→Hp→(Hp→Prop)→Prop:=fun o i v H Q=>∃ p xs k j,o=.ref p∧i=.int k∧H p=some (.lst xs)∧ixN xs.length k=some j∧Q (upd H p (.lst (xs.set j v)))
theorem set_list:aac X V4:=by
  intro pins s σ H o i v ov iv u Q I ro ri rv h
  obtain ⟨p,xs,k,j,rfl,rfl,hp,hj,q⟩:=h
  cases ro
  obtain ⟨t,rfl⟩:=ri
  obtain ⟨its,n,r,ho,hz⟩:=I.lst hp
  obtain ⟨h1,h2,h3,h4⟩:=Bs hj
  have hl:=r.length
  have hn:=nG
  have I':Inv X pins σ (upd H p (.lst (xs.set j v))) { s with heap:=s.heap.update p (Obj.mapSeq (·.setIfInBounds j u)) } :=
    I.Wr hp ho (yC its n j u) (r.set rv j) (by rw [List.length_set];exact hz) s.toks
  by_cases h0:0≤k
  · have hk:k.toNat=j:=by
      rw [seqIndex_of h0 h4] at h1
      exact Option.some.inj h1
    exact PySem.W.ki_setAt ho h0 (by omega) (by rw [List.size_toArray,← hl];exact h4) (by rw [hk];exact ⟨_,I',q⟩)
  · have hk:(k + (its.toArray.size:Int)).toNat=j:=by
      rw [seqIndex_neg (by omega) h3] at h1
      rw [List.size_toArray,← hl]
      exact Option.some.inj h1
    exact PySem.W.ki_setBack ho (by omega) (by rw [List.size_toArray,← hl];exact h3) (by omega) (by rw [hk];exact ⟨_,I',q⟩)
theorem tu (lo hi:Option Int) (n:Nat):(sliceBounds lo hi none n).1=((HT.sIx n 0 lo:Nat):Int)∧(sliceBounds lo hi none n).2.1=((HT.sIx n n hi:Nat):Int)∧(sliceBounds lo hi none n).2.2=1:=by
  refine ⟨?_,?_,rfl⟩
  · cases lo with
    | none=>simp [sliceBounds,HT.sIx]
    | some i =>
      simp only [sliceBounds,HT.sIx,Option.getD_none,show (1:Int) > 0 by decide,if_true]
      by_cases h:i<0
      · simp only [h,if_true] <;> omega
      · simp only [h,if_false] <;> omega
  · cases hi with
    | none=>simp [sliceBounds,HT.sIx]
    | some i =>
      simp only [sliceBounds,HT.sIx,Option.getD_none,show (1:Int) > 0 by decide,if_true]
      by_cases h:i<0
      · simp only [h,if_true] <;> omega
      · simp only [h,if_false] <;> omega
theorem qQ (its:List Value) (lo hi:Option Int):slicePick its.toArray lo hi none=((its.drop (HT.sIx its.length 0 lo)).take (HT.sIx its.length its.length hi - HT.sIx its.length 0 lo)).toArray:=by
  obtain ⟨h1,h2,h3⟩:=tu lo hi its.toArray.size
  unfold slicePick
  rw [h1,h2,h3]
  simp only [sliceRange_one,pick_run,List.size_toArray] <;> rfl
def rSlL (K:PySem.W.Frag):V→Option Int→Option Int→Hp→VK→Prop:=fun x lo hi H Q=>∃ a xs,x=.ref a∧SqL K H a xs∧∀ p,H p=none→Q (.ref p) (upd H p (.lst (uW xs lo hi)))
theorem jW:SlR X (rSlL X.K):=by
  intro pins s σ H x v vl vu lo hi sl Q I rx hs pl pu h
  obtain ⟨a,xs,rfl,hx,q⟩:=h
  cases rx
  obtain ⟨its,r,ht,hz⟩:=I.list hx
  have hlen:=r.length
  refine ⟨"list",_,slot_list_getitem.lookup,ht.isList.typeIs,?_⟩
  refine wpAny_getItem_list_slice ht.isList hs pl pu .none (by simp) ?_ (by rw [List.size_toArray] <;> omega)
  rw [qQ,← hlen]
  refine ⟨.ref s.heap.objs.size,_,I.laid (t':=s.toks) (o:=.lst (uW xs lo hi)) (fun b ob q=>Heap.get?_push_of_some _ q) (Nat.le_refl _) ?_,rfl,q _ (I.hok.fresh (Nat.le_refl _))⟩
  exact ⟨Nat.le_trans (vO xs lo hi) hz,_,0,(r.drop (HT.sIx xs.length 0 lo)).take (HT.sIx xs.length xs.length hi - HT.sIx xs.length 0 lo),Heap.get?_push_size _ rfl⟩
def rP:V→Bool
  | .non=>true
  | .bl _=>true
  | .int _=>true
  | .str _=>true
  | _=>false
def eqV:V→V→Bool
  | .non,.non=>true
  | .bl a,.bl b=>a == b
  | .bl a,.int b=>(if a then 1 else 0) == b
  | .int a,.bl b=>a == (if b then 1 else 0)
  | .int a,.int b=>a == b
  | .str a,.str b=>a == b
  | _,_=>false
theorem YX {A:Around} {s:Shared} {y x:V} {u v:Value} (ry:RelV y u) (rx:RelV x v) (fy:rP y=true) (fx:rP x=true):SeqAt.EqAt A s u v (eqV y x):=by
  cases y with
  | non =>
    cases ry
    cases x with
    | non=>cases rx;exact SeqAt.EqAt.same _
    | bl b=>cases rx;exact SeqAt.EqAt.none_bool b
    | int b=>obtain ⟨t,rfl⟩:=rx;exact SeqAt.EqAt.none_int b t
    | str b=>obtain ⟨t,rfl⟩:=rx;exact SeqAt.EqAt.none_str b t
    | _=>exact absurd (show false=true from fx) Bool.false_ne_true
  | bl a =>
    cases ry
    cases x with
    | non=>cases rx;exact SeqAt.EqAt.bool_none a
    | bl b=>cases rx;exact SeqAt.EqAt.bool_bool a b
    | int b=>obtain ⟨t,rfl⟩:=rx;exact SeqAt.EqAt.bool_int a b t
    | str b=>obtain ⟨t,rfl⟩:=rx;exact SeqAt.EqAt.bool_str a b t
    | _=>exact absurd (show false=true from fx) Bool.false_ne_true
  | int a =>
    obtain ⟨t',rfl⟩:=ry
    cases x with
    | non=>cases rx;exact SeqAt.EqAt.int_none a t'
    | bl b=>cases rx;exact SeqAt.EqAt.int_bool a t' b
    | int b=>obtain ⟨t,rfl⟩:=rx;exact SeqAt.EqAt.int_int a t' b t
    | str b=>obtain ⟨t,rfl⟩:=rx;exact SeqAt.EqAt.int_str a t' b t
    | _=>exact absurd (show false=true from fx) Bool.false_ne_true
  | str a =>
    obtain ⟨t',rfl⟩:=ry
    cases x with
    | non=>cases rx;exact SeqAt.EqAt.str_none a t'
    | bl b=>cases rx;exact SeqAt.EqAt.str_bool a t' b
    | int b=>obtain ⟨t,rfl⟩:=rx;exact SeqAt.EqAt.str_int a t' b t
    | str b=>obtain ⟨t,rfl⟩:=rx;exact SeqAt.EqAt.str_str a t' b t
    | _=>exact absurd (show false=true from fx) Bool.false_ne_true
  | _=>exact absurd (show false=true from fy) Bool.false_ne_true
def eqU (x:V) (u:Value):Bool:=match u with
  | .none=>eqV .non x
  | .bool b=>eqV (.bl b) x
  | .int i _=>eqV (.int i) x
  | .str z _=>eqV (.str z) x
  | _=>false
theorem Sx {x y:V} {u:Value} (r:RelV y u) (f:rP y=true):eqU x u=eqV y x:=by
  cases y with
  | non=>cases r;rfl
  | bl b=>cases r;rfl
  | int i=>obtain ⟨t,rfl⟩:=r;rfl
  | str z=>obtain ⟨t,rfl⟩:=r;rfl
  | _=>exact absurd (show false=true from f) Bool.false_ne_true
theorem pF {x:V}:∀ {xs:List V} {us:List Value},Vals xs us→xs.all rP=true→us.any (eqU x)=xs.any fun y=>eqV y x
  | _,_,.nil,_=>rfl
  | y :: xs,u :: us,.cons r t,f=>by
    rw [List.all_cons,Bool.and_eq_true] at f
    rw [List.any_cons,List.any_cons,Sx r f.1,pF t f.2]
theorem mq {A:Around} {s:Shared} {x:V} {v:Value} (rx:RelV x v) (fx:rP x=true):∀ {xs:List V} {us:List Value},Vals xs us→xs.all rP=true→∀ u∈us,SeqAt.EqAt A s u v (eqU x u)
  | _,_,.nil,_=>fun u hu=>by cases hu
  | y :: xs,u :: us,.cons r t,f=>fun u' hu=>by
    rw [List.all_cons,Bool.and_eq_true] at f
    rcases List.mem_cons.mp hu with rfl | hu
    · rw [Sx r f.1];exact YX r rx f.1 fx
    · exact mq rx fx t f.2 u' hu
def inV (x:V) (xs:List V):Bool:=xs.any fun y=>eqV y x
def rIn (K:PySem.W.Frag) (neg:Bool):R2:=fun x y H Q=>∃ p xs,y=.ref p∧(SqL K H p xs∨SqT K H p xs)∧rP x=true∧xs.all rP=true∧Q (.bl (if neg then !inV x xs else inV x xs)) H
theorem Aq:OpR X (compareOp .In) (rIn X.K false):=by
  intro pins s σ H x y v u Q I rx ry h
  obtain ⟨p,xs,rfl,hq,fx,fs,q⟩:=h
  cases ry
  rcases hq with hq | hq
  · obtain ⟨its,r,pl,hz⟩:=I.list hq
    refine SeqAt.in_listAt (eqU x) pl.isList (fun w hw=>mq rx fx r fs w (by simpa using hw)) ⟨.bl _,H,I,rfl,?_⟩
    rw [show its.toArray.any (eqU x)=its.any (eqU x) by simp,pF r fs]
    exact q
  · obtain ⟨its,r,pl,hz⟩:=I.tuple hq
    refine SeqAt.in_tupleAt (eqU x) pl (fun w hw=>mq rx fx r fs w (by simpa using hw)) ⟨.bl _,H,I,rfl,?_⟩
    rw [show its.toArray.any (eqU x)=its.any (eqU x) by simp,pF r fs]
    exact q
theorem tZ:OpR X (compareOp .NotIn) (rIn X.K true):=by
  intro pins s σ H x y v u Q I rx ry h
  obtain ⟨p,xs,rfl,hq,fx,fs,q⟩:=h
  cases ry
  rcases hq with hq | hq
  · obtain ⟨its,r,pl,hz⟩:=I.list hq
    refine SeqAt.notIn_listAt (eqU x) pl.isList (fun w hw=>mq rx fx r fs w (by simpa using hw)) ⟨.bl _,H,I,rfl,?_⟩
    rw [show its.toArray.any (eqU x)=its.any (eqU x) by simp,pF r fs]
    exact q
  · obtain ⟨its,r,pl,hz⟩:=I.tuple hq
    refine SeqAt.notIn_tupleAt (eqU x) pl (fun w hw=>mq rx fx r fs w (by simpa using hw)) ⟨.bl _,H,I,rfl,?_⟩
    rw [show its.toArray.any (eqU x)=its.any (eqU x) by simp,pF r fs]
    exact q
theorem aG:pO X (.builtin "len") (fun xs H Q=>∃ p ys,xs=[.ref p]∧(SqL X.K H p ys∨SqT X.K H p ys)∧Q (.int ys.length) H):=by
  intro pins s σ H xs us Q I r h
  obtain ⟨p,ys,rfl,hq,q⟩:=h
  obtain ⟨u,rfl,rx⟩:=vals1 r
  cases rx
  have hn:=nG
  rcases hq with hq | hq
  · obtain ⟨its,r',pl,hz⟩:=I.list hq
    have hlen:=r'.length
    exact Calls.call_len_list pl.isList (by simp only [List.size_toArray] <;> omega) ⟨.int ys.length,H,I.tok _,⟨s.toks + 1,by rw [List.size_toArray,hlen]⟩,q⟩
  · obtain ⟨its,r',pl,hz⟩:=I.tuple hq
    have hlen:=r'.length
    exact len_tuple pl (by simp only [List.size_toArray] <;> omega) ⟨.int ys.length,H,I.tok _,⟨s.toks + 1,by rw [List.size_toArray,hlen]⟩,q⟩
theorem uE:pO X (.builtin "len") (fun xs H Q=>∃ z,xs=[.str z]∧z.length≤sizeLine∧Q (.int z.length) H):=by
  intro pins s σ H xs us Q I r h
  obtain ⟨z,rfl,hz,q⟩:=h
  obtain ⟨u,rfl,t,rfl⟩:=vals1 r
  have hn:=nG
  exact len_str (by omega) ⟨.int z.length,H,I.tok _,⟨_,rfl⟩,q⟩
theorem bT:pO X (.type "list") (fun xs H Q=>∃ p ys,xs=[.ref p]∧(SqL X.K H p ys∨SqT X.K H p ys)∧∀ l,H l=none→Q (.ref l) (upd H l (.lst ys))):=by
  intro pins s σ H xs us Q I r h
  obtain ⟨p,ys,rfl,hq,q⟩:=h
  obtain ⟨u,rfl,rx⟩:=vals1 r
  cases rx
  have fin:∀ (its:List Value),Vals ys its→ys.length≤sizeLine→∀ (h':Heap) (c':Nat),(∀ b o',s.heap.get? b=some o'→h'.get? b=some o') →
      h'.get? s.heap.objs.size=some { cls:=.type "list",dict:=none,data:=.seq its.toArray c',slots:=#[] }→EP X pins σ Q (.ref s.heap.objs.size) { s with heap:=h' }:=fun its r' hz h' c' kp e =>
    ⟨.ref s.heap.objs.size,_,I.laid (t':=s.toks) kp (Nat.le_refl _) (show eO X.prog X.w _ h' _ (.lst ys) from ⟨hz,its,c',r',e⟩),rfl,q _ (I.hok.fresh (Nat.le_refl _))⟩
  rcases hq with hq | hq
  · obtain ⟨its,r',pl,hz⟩:=I.list hq
    have hlen:=r'.length
    obtain ⟨o,ho,hc,n,hd⟩:=pl.isList
    exact call_list_seq p (.inl rfl) ho hc hd (fun h' c' kp e=>fin its r' hz h' c' kp e) (by simp only [List.size_toArray] <;> omega)
  · obtain ⟨its,r',pl,hz⟩:=I.tuple hq
    have hlen:=r'.length
    obtain ⟨o,ho,hc,n,hd⟩:=pl
    exact call_list_seq p (.inr rfl) ho hc hd (fun h' c' kp e=>fin its r' hz h' c' kp e) (by simp only [List.size_toArray] <;> omega)
def tyV (K:PySem.W.Frag) (T:String) (x:V) (H:Hp):Prop:=match x with
  | .str _=>T="str"
  | .int _=>T="int"
  | .ref p=>(T="list"∧∃ xs,SqL K H p xs)∨(T="tuple"∧∃ o,K.lookup p=some o∧o.cls=.type "tuple"∧o.dict=none) ∨
      (T="dict"∧((∃ kvs,H p=some (.dK kvs))∨∃ kvs,H p=some (.dT kvs)))∨(T="set"∧∃ S n,H p=some (.set S n))
  | _=>False
theorem VB {pins:List (Addr × Obj)} {σ:St} {H:Hp} {s:Shared} {T:String} {x:V} {v:Value} (I:Inv X pins σ H s) (r:RelV x v) (ty:tyV X.K T x H) :
    s.TypeIs v T∧∀ a,v=.ref a→∃ ob,s.heap.get? a=some ob∧ob.dict=none:=by
  cases x with
  | str z =>
    obtain ⟨t,rfl⟩:=r
    cases (show T="str" from ty)
    exact ⟨typeIs_str s z t,fun _ e=>nomatch e⟩
  | int i =>
    obtain ⟨t,rfl⟩:=r
    cases (show T="int" from ty)
    exact ⟨typeIs_int s i t,fun _ e=>nomatch e⟩
  | ref p =>
    cases r
    rcases ty with ⟨rfl,xs,hq⟩ | ⟨rfl,o,hk,hc,hd⟩ | ⟨rfl,hk⟩ | ⟨rfl,S,n,hk⟩
    · obtain ⟨its,_,pl,_⟩:=I.list hq
      refine ⟨pl.isList.typeIs,fun a e=>?_⟩
      cases e
      obtain ⟨o,n,e,c,hd,_⟩:=pl
      exact ⟨o,e,hd⟩
    · refine ⟨⟨o,I.kIn p o hk,hc⟩,fun a e=>?_⟩
      cases e
      exact ⟨o,I.kIn _ o hk,hd⟩
    · have z:∃ o,s.heap.get? p=some o∧o.ExactDict:=by
        rcases hk with ⟨kvs,hk⟩ | ⟨kvs,hk⟩
        · obtain ⟨_,_,_,_,o,_,_,e,ex,_⟩:=I.hok p _ hk
          exact ⟨o,e,ex⟩
        · obtain ⟨_,_,_,_,o,_,_,e,ex,_⟩:=I.hok p _ hk
          exact ⟨o,e,ex⟩
      obtain ⟨o,e,ex⟩:=z
      refine ⟨⟨o,e,ex.1⟩,fun a e2=>?_⟩
      cases e2
      exact ⟨o,e,ex.2.1⟩
    · obtain ⟨o,_,_,_,e,ex,_⟩:=I.hok p _ hk
      refine ⟨⟨o,e,ex.1⟩,fun a e2=>?_⟩
      cases e2
      exact ⟨o,e,ex.2.1⟩
  | _=>exact False.elim ty
def tBM (K:PySem.W.Frag) (T:String) (r:V→List V→Hp→VK→Prop) (to:TE) (t:TA):TE:=fun σ H Q=>to σ H fun x H1=>tyV K T x H1∧t σ H1 fun xs H2=>r x xs H2 Q
variable {o e:Expr} {es:List Expr} {to:TE} {t:TA} {name:Str} {apos cpos:Pos} {T id:String} {r:V→List V→Hp→VK→Prop}
theorem nM (pa:PlainAttrs T) (slot:Slot T name id) (hty:typeOf (.builtin id)=pure (.type "method_descriptor")) (hm:MtR X id r) (ho:PE X o to) (ha:PA X (e :: es) t)
    (hbase:attributeBase o name X.env (eval o X.env)=eval o X.env:=by rfl)
    (hfew:((backTo cpos (starEach (e :: es) X.env)).all (fun x=>!x.1) && (backToKw cpos (keywordEach [] X.env)).all (fun x=>x.1.isSome)
      && decide ((e :: es).length + ([]:List Keyword).length + (if ([]:List Keyword).isEmpty then 0 else 1)<30))=true:=by rfl)
    (hline:(apos.endLine == cpos.line)=true:=by rfl) (hs:starEach (e :: es) X.env=(false,eval e X.env) :: starEach es X.env:=by rfl) (hplain:(backTo cpos (starEach es X.env)).any (·.1)=false:=by rfl) :
    PE X (.Call (.Attribute o name apos) (e :: es) [] cpos) (tBM X.K T r to t):=by
  intro pins s σ H Q I h
  refine wpAny_Call_method_late hbase hfew hline rfl (thn (ho pins s σ H _ I h) fun v s1 ⟨x,H1,I1,r1,ty,q1⟩=>?_)
  obtain ⟨h1,h2⟩:=VB I1 r1 ty
  refine ⟨T,id,pa,slot,hty,h1,h2,?_⟩
  have hA:=ha cpos pins s1 σ H1 _ I1 q1
  rw [hs] at hA ⊢
  refine Calls.callWith_builtin (by show (false || (backTo cpos (starEach es X.env)).any (·.1))=false;rw [hplain] <;> rfl) (Calls.evalArgs_plain ?_)
  exact thn hA fun us s2 ⟨vs,H2,I2,r2,q2⟩=>hm pins s2 σ H2 x vs v us Q I2 r1 r2 q2
end
end L2
namespace L2
open PySem PySem.Spec PyProof.Rows
def MtM (X:Cx) (id:String) (r:V→List V→Hp→VK→Prop):Prop :=
  ∀ (pins:List (Addr × Obj)) (s:Shared) (σ:St) (H:Hp) (x:V) (xs:List V) (v:Value) (us:List Value) (Q:VK),Inv X pins σ H s→RelV x v→Vals xs us→r x xs H Q →
    wpAny (model X.prog X.w) X.A (call (.builtin id) (v :: us)) (EP X pins σ Q) X.xe s
theorem Vals.one:∀ {x:V} {us:List Value},Vals [x] us→∃ u,us=[u]∧RelV x u
  | _,_,.cons r .nil=>⟨_,rfl,r⟩
theorem Vals.rep {xs:List V} {us:List Value} (h:Vals xs us):∀ k:Nat,Vals (List.replicate k xs).flatten (List.replicate k us).flatten
  | 0=>.nil
  | k + 1=>by
    rw [List.replicate_succ,List.replicate_succ,List.flatten_cons,List.flatten_cons]
    exact Vals.append h (Vals.rep h k)
theorem foldl_rep (its:List Value):∀ (k:Nat) (acc:List Value),
    List.foldl (fun x1 x2=>x1++x2) acc.toArray (List.replicate k its.toArray)=(acc++(List.replicate k its).flatten).toArray
  | 0,acc=>by simp
  | k + 1,acc=>by
    have e:acc.toArray++its.toArray=(acc++its).toArray:=by simp
    have e2:(acc++its)++(List.replicate k its).flatten=acc++(List.replicate (k + 1) its).flatten:=by
      rw [List.replicate_succ,List.flatten_cons,List.append_assoc]
    rw [← e2,← foldl_rep its k (acc++its),← e,List.replicate_succ,List.foldl_cons]
section
variable {X:Cx} {pins:List (Addr × Obj)} {σ:St} {H:Hp} {s:Shared} {l b:Addr} {xs ys zs:List V}
theorem Inv.lset {its its':List Value} {n:Nat} {f:Array Value→Array Value} {t':Nat} (I:Inv X pins σ H s) (hH:H l=some (.lst xs))
    (e:s.heap.get? l=some { cls:=.type "list",data:=.seq its.toArray n }) (hf:f its.toArray=its'.toArray) (hv:Vals ys its') (hz:ys.length≤sizeLine) :
    Inv X pins σ (upd H l (.lst ys)) { s with heap:=s.heap.update l (Obj.mapSeq f),toks:=t' }:=by
  have q:=PySem.IsL.update e f
  rw [hf] at q
  refine I.write (x:=l) (e:=l) (by rw [hH];exact trivial) (.inl rfl) (fun b' u hb hu=>(Heap.get?_update_other s.heap (Obj.mapSeq f) (Ne.symm hb)).trans hu) ⟨_,q⟩ ?_
  exact ⟨hz,its',_,hv,q⟩
theorem Inv.aan {its:List Value} {t':Nat} (I:Inv X pins σ H s) (hv:Vals ys its) (hz:ys.length≤sizeLine) :
    Inv X pins σ (upd H s.heap.objs.size (.lst ys)) { s with heap:=s.heap.push { cls:=.type "list",data:=.seq its.toArray },toks:=t' } :=
  I.laid (fun _ _ q=>Heap.get?_push_of_some _ q) (Nat.le_refl _) ⟨hz,its,0,hv,Heap.get?_push_size _ rfl⟩
theorem Inv.fresh (I:Inv X pins σ H s):H s.heap.objs.size=none:=I.hok.fresh (Nat.le_refl _)
theorem Inv.Zb (I:Inv X pins σ H s) (hH:H l=some (.lst xs)):xs.length≤sizeLine∧∃ (its:List Value) (n:Nat),Vals xs its∧xs.length=its.length∧s.heap.get? l=some { cls:=.type "list",data:=.seq its.toArray n }:=by
  obtain ⟨z,its,n,r,e⟩:=I.hok l _ hH
  exact ⟨z,its,n,r,r.length,e⟩
theorem Kp {n:Nat} (h:n≤sizeLine):Builtin.List.listTooLong n=false:=by
  unfold Builtin.List.listTooLong
  exact decide_eq_false (by omega)
end
section
variable {X:Cx}
def Tq:V→List V→Hp→VK→Prop:=fun x vs H Q=>∃ l xs y,x=.ref l∧vs=[y]∧H l=some (.lst xs)∧xs.length<sizeLine∧Q .non (upd H l (.lst (xs++[y])))
theorem dG:MtM X "list.append" Tq:=by
  intro pins s σ H x vs v us Q I rx rv h
  obtain ⟨l,xs,y,rfl,rfl,hH,hz,q⟩:=h
  cases rx
  obtain ⟨u,rfl,ru⟩:=rv.one
  obtain ⟨z,its,n,r,hl,e⟩:=I.Zb hH
  refine call_meets F.slot_list_append ⟨_,e,rfl⟩ F.entry_list_append (F.args_list_append_2 _ _) (PySem.list_append l its.toArray n u (by rw [List.size_toArray];omega)) ⟨e,?_⟩
  refine ⟨.non,_,I.lset (its':=its++[u]) hH e (by simp) (r.append (.cons ru .nil)) ?_,rfl,q⟩
  rw [List.length_append,List.length_singleton]
  omega
def rCat:R2:=fun x y H Q=>∃ l b xs zs,x=.ref l∧y=.ref b∧H l=some (.lst xs)∧H b=some (.lst zs)∧xs.length + zs.length≤sizeLine∧∀ p,H p=none→Q (.ref p) (upd H p (.lst (xs++zs)))
theorem nF:OpR X (binaryOp .Add) rCat:=by
  intro pins s σ H x y v u Q I rx ry h
  obtain ⟨l,b,xs,zs,rfl,rfl,hH,hB,hz,q⟩:=h
  cases rx
  cases ry
  obtain ⟨z,its,n,r,hl,e⟩:=I.Zb hH
  obtain ⟨z2,its2,n2,r2,hl2,e2⟩:=I.Zb hB
  refine PySem.P.add_list e e2 ?_ (by rw [List.size_toArray,List.size_toArray];omega)
  have ea:its.toArray++its2.toArray=(its++its2).toArray:=by simp
  rw [ea]
  exact ⟨.ref _,_,I.aan (t':=s.toks) (r.append r2) (by rw [List.length_append];omega),rfl,q _ I.fresh⟩
def rRep:R2:=fun x y H Q=>∃ l k xs,x=.ref l∧y=.int k∧H l=some (.lst xs)∧-(2 ^ 63)≤k∧k<2 ^ 63∧xs.length * k.toNat≤sizeLine ∧
  ∀ p,H p=none→Q (.ref p) (upd H p (.lst (List.replicate k.toNat xs).flatten))
theorem len_rep {α:Type} (xs:List α) (k:Nat):(List.replicate k xs).flatten.length=k * xs.length:=by
  induction k with
  | zero=>simp
  | succ k ih=>rw [List.replicate_succ,List.flatten_cons,List.length_append,ih,Nat.succ_mul,Nat.add_comm]
theorem Am:OpR X (binaryOp .Mult) rRep:=by
  intro pins s σ H x y v u Q I rx ry h
  obtain ⟨l,k,xs,rfl,rfl,hH,h1,h2,hz,q⟩:=h
  cases rx
  obtain ⟨t,rfl⟩:=ry
  obtain ⟨z,its,n,r,hl,e⟩:=I.Zb hH
  have hlen:its.toArray.size * k.toNat≤sizeLine:=by rw [List.size_toArray,← hl];exact hz
  have hcap:¬ its.toArray.size * k.toNat > (2 ^ 63 - 1) / 8:=by
    have:(sizeLine:Nat)≤(2 ^ 63 - 1) / 8:=by decide
    omega
  have hfit:¬ (!Builtin.List.listFitsIndex k)=true:=by
    rw [fitsIndex_both h1 h2]
    exact Bool.false_ne_true
  have hlong:¬ Builtin.List.listTooLong (its.toArray.size * k.toNat)=true:=by
    rw [Kp hlen]
    exact Bool.false_ne_true
  have hnew:List.foldl (fun x1 x2=>x1++x2) #[] (List.replicate (if its.toArray.isEmpty=true then 0 else k.toNat) its.toArray)=(List.replicate k.toNat its).flatten.toArray:=by
    have f0:∀ m:Nat,List.foldl (fun x1 x2=>x1++x2) #[] (List.replicate m its.toArray)=(List.replicate m its).flatten.toArray:=fun m=>by
      have:=foldl_rep its m []
      rw [List.nil_append] at this
      exact this
    rw [f0]
    cases its with
    | nil=>simp
    | cons a r'=>rw [if_neg (by simp)]
  refine wpAny_binaryOp_repeat_ref (T:="list") (U:="int") (by decide) ⟨_,e,rfl⟩ (fun s'=>typeIs_int s' k t) noFill_list_mul F.fills_int_mul F.slot_int_rmul repeat_list F.slot_int_index.lookup
    (call_meets F.slot_int_rmul (typeIs_int s k t) F.entry_int_rmul (F.args_int_rmul_2 _ _) (int___rmul___int_list k t l its.toArray n)
      ⟨e,rfl,⟨_,e,rfl⟩,call_meets F.slot_list_mul ⟨_,e,rfl⟩ F.entry_list_mul (F.args_list_mul_2 _ _) (AutoListH.list___mul___list_int_3 l its.toArray n k t hfit hcap hlong) ⟨e,?_⟩⟩)
  rw [hnew]
  exact ⟨.ref _,_,I.aan (t':=s.toks) (r.rep k.toNat) (by rw [len_rep,Nat.mul_comm];exact hz),rfl,q _ I.fresh⟩
end
end L2
namespace Att
open PySem PySem.W PySem.Calls PyProof.Rows
theorem oX {P:Params} {h:Heap}:∀ (ns:List Int) (vs:List Value),WellAll P h vs (ns.map WData.int)→IntsAre vs ns:=by
  intro ns
  induction ns with
  | nil =>
    intro vs w
    rw [List.map_nil] at w
    cases w
    exact .nil
  | cons n ns ih =>
    intro vs w
    rw [List.map_cons] at w
    cases w with
    | cons a b =>
      cases a
      exact .cons _ _ (ih _ b)
theorem zX {l:OpenLaw} {n:Nat} (hn:l.most=some n) {P:Params} {h:Heap} {args:List WData} {vals:List Value}
    (hpre:l.row.toRowW.claim.pre args=true) (hwl:WellAll P h vals args) :
    ∃ a vs ns,vals=[Value.ref a]∧args=[WData.list (ns.map WData.int)]∧h.get? a=some { cls:=.type "list",data:=.seq vs.toArray }∧IntsAre vs ns∧ns.length≤n:=by
  have hsh:WShape.hasAll [] args [.list .int]=true:=(pre_splitW hpre).1
  have hc:l.pre.holds [] { args:=args }=true:=(pre_splitW hpre).2
  obtain ⟨d,r,rfl,h1,h2⟩:=hasAllW_cons hsh
  obtain rfl:=hasAllW_nil h2
  obtain ⟨xs,rfl,h3⟩:=hasW_list h1
  obtain ⟨ns,rfl⟩:=items_int h3
  have hlen:ns.length≤n:=by
    unfold OpenLaw.pre at hc
    have h4:(WTm.not (.lt (.lit (.int (n:Int))) (.len (.arg 0)))).holds [] { args:=[.list (ns.map .int)] }=true:=by
      have h4:=(holds_andW hc).1
      rw [hn] at h4
      exact h4
    have h5:=condW_of h4 (w_not (w_lt w_lit (w_len_list (w_arg rfl))))
    rw [List.length_map] at h5
    refine Nat.le_of_not_lt fun q=>?_
    have q':(n:Int)<((ns.length:Nat):Int):=by omega
    first
      | (rw [decide_eq_true q'] at h5;exact absurd h5 (by decide))
      | (simp at h5;omega)
  cases hwl with
  | cons w1 w2 =>
    cases w2
    cases w1 with
    | list ho hall=>exact ⟨_,_,ns,rfl,rfl,ho,oX ns _ hall,hlen⟩
theorem Ae (l:OpenLaw) (args:List WData):l.row.toRowW.claim.post args (.bool true) args=true :=
  postW_of (r:=l.row.toRowW) (X:=(true == true))
    (show WShape.has [] (.bool true) .bool=true by first | rfl | decide | simp [WShape.has,WShape.arms,WShape.armsAll])
    (show (WTm.eq .res (.lit (.bool true))).value [] { args:=args,res:=some (.bool true),after:=args }=some (.bool (true == true)) from w_eq_bool (w_res rfl) w_lit) rfl
theorem vR {l:OpenLaw} {n:Nat} {q:Program} {loose:List Str} {XP:(Str→Option Value)→Heap→Prop} {YP:World→Heap→Prop} {d:DefRec}
    (hn:l.most=some n) (hdf:d.params.defaults=[])
    (call:∀ (w:World) (s₀ s₁:Shared) (mg mb:Str→Option Value) (fa:Addr) (o:Obj) (pm cd doc:Value) (a:Addr) (vs:List Value) (ns:List Int),
      Ground q loose [] XP w s₀ mg mb s₁.heap→YP w s₁.heap →
      s₁.heap.get? fa=some o→o.data=.func (docDef d.name d.params d.body d.scope pm cd doc)→s₁.heap.CodeRec cd d.name→mg d.name=some (.ref fa) →
      s₁.heap.get? a=some { cls:=.type "list",data:=.seq vs.toArray }→IntsAre vs ns→ns.length≤n→s₁.gens=#[] →
      codeAny (model l.prog w) callerA (.call (.ref fa) ⟨[.ref a],[]⟩) (fun r s'=>r=.ok (.ret (.bool true))∧OldK s₁.heap s'.heap∧s'.os=s₁.os∧AllBare s'.gens) s₁) :
    WalkO q loose XP YP l.row.toRowW d [] (fun f vs=>PySem.call f vs):=by
  intro w s₀ s₁ mg mb G Y fa o pm cd doc dV kV ho hd hcd hD hmg hg args vals as hpre hlay hrd hwl hlo
  obtain rfl:dV=.none:=Dflts.none hD hdf
  obtain rfl:kV=.none:=Dflts.noKw hD
  obtain ⟨a,vs,ns,rfl,rfl,hobj,hints,hlen⟩:=zX hn hpre hwl
  refine enter_call (codeAny_mono (call w s₀ s₁ mg mb fa o pm cd doc a vs ns G Y ho (fd_plain hd) hcd hmg hobj hints hlen hg) fun r s' hq=>?_)
  obtain ⟨rfl,h2,h3,h4⟩:=hq
  exact ⟨.inl ⟨.bool true,.bool true,[],rfl,fun _=>rfl,.bool true,Ae l _,fun _=>⟨List.Pairwise.nil,fun _ hm=>(nomatch hm)⟩⟩,h2,h3,h4⟩
end Att
namespace L2
open PySem PySem.Spec PyProof.Rows
theorem sS:∀ {vs:List Value} {ns:List Int},IntsAre vs ns→Vals (ns.map V.int) vs
  | _,_,.nil=>.nil
  | _,_,.cons n t h=>.cons ⟨t,rfl⟩ (sS h)
end L2
namespace L2
open PySem PySem.Spec PyProof.Rows
abbrev KOf {K:PySem.W.Frag} {h:Heap} (_:K.In h):PySem.W.Frag:=K
end L2
namespace L2
open PySem PySem.Spec PyProof.Rows
abbrev CX0:CXT:=fun _ _ _ _ _ _=>False
abbrev E0:XK:=fun _ _ _=>False
theorem bB {X:Cx}:Passes CX0 X E0:=fun _ _ _ _ _ _ _ h=>h.elim
structure Fun (K:PySem.W.Frag) (x qual:Str) (st:Stmt) (f:Addr) (fd:FuncData):Prop where
  ex:∃ (oc:Value) (od:Option Addr) (kV doc pm:Value) (an:Option Addr) (cdv ct:Value) (osl:Array (Option Value)),
    fd=PySem.W.fnOf x qual (aA st) (aq st) (ao st) .none kV doc pm an cdv ct∧K.lookup f=some ⟨oc,od,.func fd,osl⟩∧PySem.W.codeIn K cdv qual=true
  kp:PySem.W.keepIn K (.ref f)=true
variable {P:Program} {w:World} {K:PySem.W.Frag} {mg:Str→Option Value} {base:Heap} {T:eH}
theorem Fun.ok {x qual:Str} {st:Stmt} {f:Addr} {fd:FuncData} {N ps:List Str} {k:Nat} {sp:Sp} (F:Fun K x qual st f fd) (S:aH N ps (ao st)) (len:∀ vs H Q E,sp vs H Q E→vs.length=ps.length)
    (hbody:∀ (cdv:Value) (A:Around) (outer:List Env) (s:Shared) (H:Hp) (vs:List V) (Q:VK) (E:XK),lQ k (A.deeper (envOfC qual (ao st) s.heap.objs.size f cdv))→sp vs H Q E →
      ∃ t,PSs (Jd CX0 P w K mg base N qual (ao st) f cdv A outer s H E).nox (aq st) t∧t { nx:=fun _ H'=>Q .non H',rt:=Q } (start N vs) H):bN P w K mg base CX0 (k + 1) f fd ps sp:=by
  obtain ⟨oc,od,kV,doc,pm,an,cdv,ct,osl,rfl,lk,hcd⟩:=F.ex
  refine K3 lk hcd S len fun A outer s H vs Q E hr hsp=>?_
  obtain ⟨t,h,q⟩:=hbody cdv A outer s H vs Q E hr hsp
  exact ⟨t,h.nox,q⟩
theorem Fun.binds {x qual:Str} {st:Stmt} {f:Addr} {fd:FuncData} {ps:List Str} (F:Fun K x qual st f fd)
    (h:∀ (kV doc pm:Value) (an:Option Addr) (cdv ct:Value) (us:List Value),us.length=ps.length→bindArgs (PySem.W.fnOf x qual (aA st) (aq st) (ao st) .none kV doc pm an cdv ct) ⟨us,[]⟩=pure (ps.zip us)):Binds K fd ps []:=by
  obtain ⟨oc,od,kV,doc,pm,an,cdv,ct,osl,rfl,lk,hcd⟩:=F.ex
  exact .all (h kV doc pm an cdv ct)
theorem bC {x qual:Str} {st:Stmt} {f:Addr} {oc:Value} {od an:Option Addr} {osl:Array (Option Value)} {kV doc pm cdv ct:Value} (l:K.lookup f=some ⟨oc,od,.func (PySem.W.fnOf x qual (aA st) (aq st) (ao st) .none kV doc pm an cdv ct),osl⟩)
    (c:PySem.W.codeIn K cdv qual=true) (k:PySem.W.keepIn K (.ref f)=true):Fun K x qual st f (PySem.W.fnOf x qual (aA st) (aq st) (ao st) .none kV doc pm an cdv ct):=⟨⟨oc,od,kV,doc,pm,an,cdv,ct,osl,rfl,l,c⟩,k⟩
section
variable {X:Cx}
theorem pv (i:Nat) {x:Str} {pos:Pos} (hN:X.N[i]?=some x:=by rfl) (hv:Vis X.env.scope x:=by first | exact Or.inl rfl | exact Or.inr (Or.inl rfl) | exact Or.inr (Or.inr rfl)) (hd:(x == ("__debug__":Str))=false:=by decide)
    (hcd:(x == ("__classdict__":Str))=false:=by decide):PE X (.Name x pos) (Y9 i):=V9 hN hv hd hcd
end
theorem uo {A B:Prop} (h:B):if false=true then A else B:=by
  rw [if_neg Bool.false_ne_true]
  exact h
theorem yG {A B:Prop} (h:A):if true=true then A else B:=by
  rw [if_pos rfl]
  exact h
theorem WD {c A B:Prop} [Decidable c] (h1:c→A) (h2:¬ c→B):if c then A else B:=by
  by_cases h:c
  · rw [if_pos h]
    exact h1 h
  · rw [if_neg h]
    exact h2 h
theorem Ua {c A B:Prop} [Decidable c] (hc:c) (h:B):if (!decide c)=true then A else B:=by
  rw [decide_eq_true hc]
  exact uo h
def Same (H H':Hp):Prop:=∀ b o,H b=some o→H' b=some o
theorem Same.refl (H:Hp):Same H H:=fun _ _ h=>h
theorem Same.free {H H':Hp} (e:Same H H') {l:Addr} (h:H' l=Option.none):H l=Option.none:=by
  cases q:H l with
  | none=>rfl
  | some o =>
    rw [e l o q] at h
    cases h
theorem Same.seq {K:PySem.W.Frag} {H H':Hp} {a:Addr} {xs:List V} (e:Same H H') (h:SqL K H a xs):SqL K H' a xs:=by
  rcases h with (h | ⟨o,h⟩) | h
  · exact .inl (.inl (e _ _ h))
  · exact .inl (.inr ⟨o,e _ _ h⟩)
  · exact .inr h
end L2
namespace L2
open PySem PySem.Spec PyProof.Rows
def clo (cells:List (Str × Addr)):List (Str × NameKind)→List (Str × Addr)→List (Str × Addr)
  | [],cs=>cs
  | (n,k) :: r,cs=>clo cells r (if k == .free then (n,(cells.lookup n).getD 0) :: cs else cs)
theorem Ji {env:Env}:∀ (names:List (Str × NameKind)) (cs:List (Str × Addr)),(∀ y∈names,y.2=.free→∃ c,env.cells.lookup y.1=some c) →
    (forIn names cs fun (x:Str × NameKind) (r:List (Str × Addr))=>(do
      let cs:=r
      match x with
      | (name,kind) =>
        if kind == .free then do
          let c ← cellOf env name
          let cs:=(name,c) :: cs
          pure (ForInStep.yield cs)
        else pure (ForInStep.yield cs):Sem (ForInStep (List (Str × Addr)))))=pure (clo env.cells names cs)
  | [],cs,_=>rfl
  | (n,k) :: r,cs,h=>by
    rw [List.forIn_cons]
    by_cases hk:k=.free
    · subst hk
      obtain ⟨c,hc⟩:=h (n,.free) List.mem_cons_self rfl
      have e:cellOf env n=pure c:=by unfold cellOf;rw [hc]
      simp only [beq_self_eq_true,if_true,e,pure_bind]
      rw [Ji r _ fun y hy=>h y (List.mem_cons_of_mem _ hy)]
      simp [clo,hc]
    · have hb:(k == NameKind.free)=false:=by simpa using hk
      simp only [hb,Bool.false_eq_true,if_false,pure_bind]
      rw [Ji r _ fun y hy=>h y (List.mem_cons_of_mem _ hy)]
      simp [clo,hb]
theorem lJ {env:Env} {scope:Scope} (h:∀ y∈scope.names,y.2=.free→∃ c,env.cells.lookup y.1=some c):closureFor scope env=pure (clo env.cells scope.names []):=by
  unfold closureFor
  have e:=Ji (env:=env) scope.names [] h
  first
    | (rw [← e];rfl)
    | (simp only [bind_pure];exact e)
    | exact e
theorem Jh {cells:List (Str × Addr)}:∀ (names:List (Str × NameKind)) (cs:List (Str × Addr)) (p:Str × Addr),p∈clo cells names cs→p∈cs∨p.2=(cells.lookup p.1).getD 0
  | [],_,_,h=>.inl h
  | (n,k) :: r,cs,p,h=>by
    rcases Jh r _ p h with h' | h'
    · by_cases hk:(k == NameKind.free)=true
      · rw [if_pos hk] at h'
        rcases List.mem_cons.mp h' with e | e
        · subst e;exact .inr rfl
        · exact .inl e
      · rw [if_neg hk] at h';exact .inl h'
    · exact .inr h'
theorem xT {cells:List (Str × Addr)}:∀ (names:List (Str × NameKind)) (cs:List (Str × Addr)) (x:Str),(cs.lookup x).isSome=true→((clo cells names cs).lookup x).isSome=true
  | [],_,_,h=>h
  | (n,k) :: r,cs,x,h=>by
    refine xT r _ x ?_
    by_cases hk:(k == NameKind.free)=true
    · rw [if_pos hk]
      rw [List.lookup_cons]
      cases x == n with
      | true=>rfl
      | false=>exact h
    · rw [if_neg hk];exact h
theorem pA {cells:List (Str × Addr)}:∀ (names:List (Str × NameKind)) (cs:List (Str × Addr)) (x:Str),(x,NameKind.free)∈names→((clo cells names cs).lookup x).isSome=true
  | [],_,_,h=>nomatch h
  | (n,k) :: r,cs,x,h=>by
    show ((clo cells r _).lookup x).isSome=true
    rcases List.mem_cons.mp h with e | e
    · have e1:x=n:=congrArg Prod.fst e
      have e2:NameKind.free=k:=congrArg Prod.snd e
      subst e1
      subst e2
      refine xT r _ x ?_
      rw [if_pos (by decide),List.lookup_cons]
      simp
    · exact pA r _ x e
theorem Jg {cells:List (Str × Addr)} {names:List (Str × NameKind)} {x:Str} {c:Addr} (h:(clo cells names []).lookup x=some c):c=(cells.lookup x).getD 0:=by
  rcases Jh names [] _ (PySem.mem_of_lookup h) with z | z
  · exact nomatch z
  · exact z
theorem rW {cells:List (Str × Addr)}:∀ {names:List (Str × NameKind)} (cs:List (Str × Addr)) {p:Str × Addr},p∈clo cells names cs→p∈cs∨(p.1,NameKind.free)∈names
  | [],_,_,h=>.inl h
  | (n,k) :: r,cs,p,h=>by
    rcases rW (names:=r) _ h with h' | h'
    · by_cases hk:(k == NameKind.free)=true
      · rw [if_pos hk] at h'
        rcases List.mem_cons.mp h' with e | e
        · subst e
          have:k=.free:=by simpa using hk
          subst this
          exact .inr List.mem_cons_self
        · exact .inl e
      · rw [if_neg hk] at h';exact .inl h'
    · exact .inr (List.mem_cons_of_mem _ h')
def lH (X:Cx) (scope:Scope) (N:List Str) (s:Shared) (H:Hp) (ex:List Addr):Cx :=
  { X with N:=N,s₀:=s,H₀:=H,env:=compEnvC scope (clo X.env.cells scope.names []) s.heap.objs.size X.env,outer:=X.stack,stack:=X.stack,ex:=ex,fn:=fun x=>((clo X.env.cells scope.names []).lookup x).isNone,pn:=[],xe:=fun _ _=>False }
def freeOk (sc scope:Scope):Bool:=scope.names.all fun y=>(y.2 != .free) || (sc.names.lookup y.1 == some .cell) || (sc.names.lookup y.1 == some .free)
def vB (scope:Scope):Bool:=(scope.kind == .function) && (scope.names.all fun y=>y.2 != .cell) && (scope.names.all fun y=>y.2 != .local || scope.names.lookup y.1 == some .local)
def vP (scope:Scope) (N N':List Str) (cap:List (Option Nat)):Bool:=(cap.length == N'.length) && (N'.zip cap).all fun p=>match p.2 with
  | none=>true
  | some j=>N[j]? == some p.1 && scope.names.lookup p.1 == some .free
def Jj (cap:List (Option Nat)) (σ:St):St:=cap.map fun o=>o.bind fun j=>(σ[j]?).bind id
theorem lN {f:Str × NameKind→Str × NameKind} (hf:∀ y,(f y).1=y.1) (x:Str):∀ names:List (Str × NameKind),(names.map f).lookup x=(names.lookup x).map fun k=>(f (x,k)).2
  | []=>rfl
  | (n,k) :: r=>by
    have ih:=lN hf x r
    have e1:(f (n,k)).1=n:=hf (n,k)
    have e2:f (n,k)=(n,(f (n,k)).2):=Prod.ext e1 rfl
    rw [List.map_cons,e2,List.lookup_cons,List.lookup_cons]
    cases hx:x == n with
    | true =>
      have:x=n:=by simpa using hx
      subst this
      rfl
    | false=>exact ih
def rlb (env:Env):Str × NameKind→Str × NameKind:=fun (n,k)=>if (k == NameKind.free && env.scope.kind == .function && env.kindOf n == some .cell) then (n,NameKind.cell) else (n,k)
theorem z8 (env:Env) (y:Str × NameKind):(rlb env y).1=y.1:=by
  obtain ⟨n,k⟩:=y
  unfold rlb
  dsimp only
  split <;> rfl
theorem z7 (env:Env) (n:Str) (k:NameKind):(rlb env (n,k)).2=k∨((rlb env (n,k)).2=.cell∧k=.free):=by
  unfold rlb
  dsimp only
  split
  · rename_i h
    rw [Bool.and_eq_true,Bool.and_eq_true] at h
    exact .inr ⟨rfl,by simpa using h.1.1⟩
  · exact .inl rfl
theorem lY (scope:Scope) (env:Env):(relabel scope env).names=scope.names.map (rlb env):=rfl
theorem tQ {scope:Scope} {env:Env} {x:Str} (h:scope.names.lookup x=some .free):(relabel scope env).names.lookup x=some .cell∨(relabel scope env).names.lookup x=some .free:=by
  rw [lY,lN (z8 env),h]
  rcases z7 env x .free with e | ⟨e,_⟩
  · exact .inr (congrArg some e)
  · exact .inl (congrArg some e)
theorem nA {scope:Scope} {env:Env} {x:Str} {k':NameKind} (hk:k'=.cell∨k'=.free) (hn:∀ y∈scope.names,y.2≠.cell) (h:(relabel scope env).names.lookup x=some k'):(x,NameKind.free)∈scope.names:=by
  rw [lY,lN (z8 env)] at h
  cases e:scope.names.lookup x with
  | none=>rw [e] at h;cases h
  | some k =>
    rw [e] at h
    have h':(rlb env (x,k)).2=k':=Option.some.inj h
    have hm:=PySem.mem_of_lookup e
    rcases z7 env x k with z | ⟨_,z⟩
    · rw [z] at h'
      subst h'
      rcases hk with z2 | z2
      · exact absurd z2 (hn _ hm)
      · rw [z2] at hm;exact hm
    · rw [z] at hm;exact hm
def PTs (X:Cx) (ifs:List Expr) (t:TT):Prop :=
  ∀ (pins:List (Addr × Obj)) (s:Shared) (σ:St) (H:Hp) (Q:Bool→Hp→Prop),Inv X pins σ H s→t σ H Q →
    wpAny (model X.prog X.w) X.A (forIn ifs true fun c r=>if r=true then do let ok ← isTrue c X.env (eval c X.env);pure (ForInStep.yield ok) else pure (ForInStep.yield r)) (TP X pins σ Q) X.xe s
def Ze:TT:=fun _ H Q=>Q true H
theorem yX {i:Nat} {x:V} {τ:St} {H:Hp} {A B:St→Hp→Prop} (h:A (τ.set i (some x)) H):KZ i x τ H fun τ4 H4=>Ze τ4 H4 fun b H5=>if b=true then A τ4 H5 else B τ4 H5:=by
  show if true=true then A (τ.set i (some x)) H else B (τ.set i (some x)) H
  rw [if_pos rfl];exact h
theorem gM {X:Cx}:PTs X [] Ze:=fun _ _ _ H _ I h=>wpAny_tests_nil ⟨H,I,h⟩
theorem vm {X:Cx} {c:Expr} {t:TT} (h:PT X c t):PTs X [c] t:=fun pins s σ H Q I hq=>wpAny_tests_one (h pins s σ H Q I hq)
def pX (J:It) (acc:Addr) (g:TG) (tc:TT) (te:TE) (τ:St) (H1:Hp) (Q:Hp→Prop):Prop :=
  ∃ W:Nat→Nat→St→Hp→Prop,(∃ m,W 0 m τ (upd H1 acc (.lst [])))∧∀ i m τ H2,W i m τ H2→(J.stop i H2∧Q H2)∨(J.go i H2∧∃ N:St→Hp→Prop,(∀ τ' H',N τ' H'→∃ m',m'<m∧W (i + 1) m' τ' H')∧∀ x H3,J.yld i H2 x H3→g x τ H3 fun τ4 H4 =>
    tc τ4 H4 fun b H5=>if b=true then te τ4 H5 fun y H6=>∃ ys,H6 acc=some (.lst ys)∧ys.length<sizeLine∧N τ4 (upd H6 acc (.lst (ys++[y]))) else N τ4 H5)
theorem kZ {lo:Int} {n:Nat} {acc:Addr} {g:TG} {tc:TT} {te:TE} {τ:St} {H1:Hp} {Q:Hp→Prop} (Pv:Nat→St→Hp→Prop) (h0:Pv 0 τ (upd H1 acc (.lst [])))
    (hs:∀ i τ H,i<n→Pv i τ H→g (.int (lo + i)) τ H fun τ4 H4=>tc τ4 H4 fun b H5=>if b=true then te τ4 H5 fun y H6=>∃ ys,H6 acc=some (.lst ys)∧ys.length<sizeLine∧Pv (i + 1) τ4 (upd H6 acc (.lst (ys++[y]))) else Pv (i + 1) τ4 H5)
    (hd:∀ τ H,Pv n τ H→Q H):pX (Itr lo n) acc g tc te τ H1 Q:=by
  refine ⟨fun i m τ H=>m=n - i∧i≤n∧Pv i τ H,⟨n,by simp,Nat.zero_le _,h0⟩,?_⟩
  rintro i m τ H ⟨rfl,hi,p⟩
  by_cases hlt:i<n
  · refine .inr ⟨hlt,Pv (i + 1),fun τ' H' p'=>⟨n - (i + 1),by omega,rfl,hlt,p'⟩,fun x H' y=>?_⟩
    obtain ⟨e,y⟩:=y
    subst e y
    exact hs i τ _ hlt p
  · have e:i=n:=by omega
    subst e
    exact .inl ⟨Nat.le_refl _,hd τ H p⟩
theorem jc {K:PySem.W.Frag} {a:Addr} {xs:List V} {acc:Addr} {g:TG} {tc:TT} {te:TE} {τ:St} {H1:Hp} {Q:Hp→Prop} (Pv:Nat→St→Hp→Prop) (h0:Pv 0 τ (upd H1 acc (.lst []))) (hl:∀ i τ H,i≤xs.length→Pv i τ H→SqL K H a xs)
    (hs:∀ i x τ H,xs[i]?=some x→Pv i τ H→g x τ H fun τ4 H4=>tc τ4 H4 fun b H5=>if b=true then te τ4 H5 fun y H6=>∃ ys,H6 acc=some (.lst ys)∧ys.length<sizeLine∧Pv (i + 1) τ4 (upd H6 acc (.lst (ys++[y]))) else Pv (i + 1) τ4 H5)
    (hd:∀ τ H,Pv xs.length τ H→Q H):pX (Itl K a) acc g tc te τ H1 Q:=by
  refine ⟨fun i m τ H=>m=xs.length - i∧i≤xs.length∧Pv i τ H,⟨xs.length,by simp,Nat.zero_le _,h0⟩,?_⟩
  rintro i m τ H ⟨rfl,hi,p⟩
  have q:=hl i τ H hi p
  by_cases hlt:i<xs.length
  · refine .inr ⟨⟨xs,xs[i],q,by simp [hlt]⟩,Pv (i + 1),fun τ' H' p'=>⟨xs.length - (i + 1),by omega,rfl,hlt,p'⟩,fun x H' y=>?_⟩
    obtain ⟨e,y⟩:=y
    subst e
    exact hs i x τ _ (y xs q) p
  · have e:i=xs.length:=by omega
    subst e
    exact .inl ⟨⟨xs,q,Nat.le_refl _⟩,hd τ H p⟩
def Td (wi:TI) (cap:List (Option Nat)) (g:TG) (tc:TT) (te:TE):TE:=fun σ H Q=>wi σ H fun J H1=>∀ acc,H1 acc=none→pX J acc g tc te (Jj cap σ) H1 (fun H2=>Q (.ref acc) H2)
abbrev Y5 (ifs:List Expr) (env:Env):Sem Bool:=forIn ifs true fun c r=>if r=true then do let ok ← isTrue c env (eval c env);pure (ForInStep.yield ok) else pure (ForInStep.yield r)
abbrev wpQ {α:Type} (prog:Program) (w:World) (A:Around) (m:Sem α) (Q:α→Shared→Prop) (s:Shared):Prop:=wpAny (model prog w) A m Q (fun _ _=>False) s
theorem Je {prog:Program} {w:World} {A:Around} {R:Result→Shared→Prop} {s:Shared} {elt target iter:Expr} {ifs:List Expr} {scope:Scope} {pos:Pos} {it acc:Value} {env:Env} (I:Nat→Shared→Prop)
    (turn:∀ k s0,I k s0→wpQ prog w A (pyNext it) (fun r s1=>(r=none∧R (.ok .next) s1)∨∃ v,r=some v ∧
      wpQ prog w A (letOwnedTupleGo target it v) (fun _ s2=>wpQ prog w A (assign target env v) (fun _ s3=>wpQ prog w A (Y5 ifs env) (fun ok s4 =>
        (ok=false∧∃ m,m<k∧I m s4)∨(ok=true∧wpQ prog w A (eval elt env) (fun x s5=>wpQ prog w A (call (.builtin "list.append") [acc,x]) (fun _ s6=>∃ m,m<k∧I m s6) s5) s4)) s3) s2) s1) s0)
    (k:Nat) (h:I k s):codeAny (model prog w) A (.compLoop (.ListComp elt [⟨target,iter,ifs,0⟩] scope pos) 0 it acc env) R s:=by
  have quiet:∀ (e:Value) (s':Shared),False→notedBy (model prog w) A env (fun e s'=>R (.error e) s') e s':=fun _ _ z=>z.elim
  apply codeAny_loop rfl I _ k h
  intro k s0 start
  apply wpAny_noted
  rw [compTurn_list]
  apply wpAny_bind
  apply wpAny_standAt
  apply wpAny_bind
  apply wpAny_mono (turn k s0 start) _ quiet
  rintro r s1 (⟨rfl,stop⟩ | ⟨v,rfl,rest⟩)
  · exact wpAny_pure stop
  apply wpAny_bind
  apply wpAny_mono rest _ quiet
  intro _ s2 h2
  apply wpAny_bind
  apply wpAny_mono h2 _ quiet
  intro _ s3 h3
  apply wpAny_bind
  apply wpAny_mono h3 _ quiet
  rintro ok s4 (⟨rfl,skip⟩ | ⟨rfl,add⟩)
  · exact wpAny_pure ⟨rfl,skip⟩
  apply wpAny_bind
  apply wpAny_bind
  apply wpAny_mono add _ quiet
  intro x s5 h5
  apply wpAny_bind
  apply wpAny_mono h5 _ quiet
  intro _ s6 h6
  exact wpAny_pure (wpAny_pure ⟨rfl,h6⟩)
section
variable {X:Cx} {tg iter elt:Expr} {ifs:List Expr} {scope:Scope} {pos:Pos} {wi:TI} {N':List Str} {cap:List (Option Nat)} {g:TG} {tc:TT} {te:TE}
theorem qD {use:Option (Value→Sem Unit)} {R:Value→Shared→Prop} (sc:Scope) (hsc:X.env.scope=sc) (N₀:List Str) (hN₀:X.N=N₀) (f1:freeOk sc scope=true) (f2:vB scope=true) (f3:vP scope N₀ N' cap=true) (hcalm:X.calm=true)
    (hi:PI X tg iter wi)
    (hg:∀ (s:Shared) (H:Hp) (ex:List Addr),PG (lH X scope N' s H ex) tg g)
    (hc:∀ (s:Shared) (H:Hp) (ex:List Addr),PTs (lH X scope N' s H ex) ifs tc)
    (he:∀ (s:Shared) (H:Hp) (ex:List Addr),PE (lH X scope N' s H ex) elt te)
    (hs:∀ x,foldedSetIterable iter X.env x=pure x)
    {pins:List (Addr × Obj)} {s:Shared} {σ:St} {H:Hp} {Q:V→Hp→Prop} (I:Inv X pins σ H s) (h:Td wi cap g tc te σ H Q)
    (fin:∀ (acc C:Addr) (s':Shared) (H':Hp) (m:Str→Option Value),Inv X pins σ H' s'→s'.heap.Ns C m→H' C=none→C≠X.env.locals→X.s₀.heap.objs.size≤C→(∀ x c,X.env.cells.lookup x=some c→c≠C)→(∀ p∈X.pn++pins,p.1≠C)→Q (.ref acc) H' →
      compPost (model X.prog X.w) X.A X.xe use R (.ref acc) C (.ok .next) s') :
    wpAny (model X.prog X.w) X.A (comprehension (.ListComp elt [⟨tg,iter,ifs,0⟩] scope pos) scope X.env (firstIterPos [⟨tg,iter,ifs,0⟩] pos) (newList []) false (firstIter [⟨tg,iter,ifs,0⟩] X.env) use) R X.xe s:=by
  have ok:=I.ok
  have fr:∀ y∈scope.names,y.2=.free→X.env.kindOf y.1=some .cell∨X.env.kindOf y.1=some .free:=fun y hy e=>by
    have q:=List.all_eq_true.mp f1 y hy
    rw [e] at q
    have q':((sc.names.lookup y.1 == some NameKind.cell) || (sc.names.lookup y.1 == some NameKind.free))=true:=by simpa using q
    rw [Bool.or_eq_true] at q'
    unfold Env.kindOf
    rw [hsc]
    rcases q' with z | z
    · exact .inl (by simpa using z)
    · exact .inr (by simpa using z)
  obtain ⟨⟨k1,k2⟩,k3⟩:((scope.kind == .function)=true∧(scope.names.all fun y=>y.2 != .cell)=true)∧(scope.names.all fun y=>y.2 != .local || scope.names.lookup y.1 == some .local)=true:=by
    unfold vB at f2
    rw [Bool.and_eq_true,Bool.and_eq_true] at f2
    exact f2
  have hkind:scope.kind=.function:=by simpa using k1
  have hcell:∀ y∈scope.names,y.2≠.cell:=fun y hy=>by
    have q:=List.all_eq_true.mp k2 y hy
    simpa using q
  have hnames:∀ y∈scope.names,y.2=.local→scope.names.lookup y.1=some .local:=fun y hy e=>by
    have q:=List.all_eq_true.mp k3 y hy
    rw [e] at q
    simpa using q
  have hclos:closureFor scope X.env=pure (clo X.env.cells scope.names []):=lJ fun y hy e=>ok.has y.1 (fr y hy e)
  have clX:∀ x c,(clo X.env.cells scope.names []).lookup x=some c→X.env.cells.lookup x=some c:=fun x c e=>by
    have e1:=Jg e
    have hx:(x,NameKind.free)∈scope.names:=by
      rcases rW [] (PySem.mem_of_lookup e) with z | z
      · exact nomatch z
      · exact z
    obtain ⟨c',e2⟩:=ok.has x (fr (x,.free) hx rfl)
    rw [e2] at e1 ⊢
    rw [e1];rfl
  refine wpAny_comprehension_free (use:=use) rfl hs hclos hkind hnames ?_
  show wpAny (model X.prog X.w) X.A (eval iter X.env) _ X.xe s
  refine thn (hi pins s σ H _ I h) fun v s1 h1=>thn h1 fun itv s2 h2=>?_
  obtain ⟨it,fp,tn,J,H2,e,I2,T,st2,f2',h3⟩:=h2
  subst e
  refine wpAny_newObj_type ?_
  have fresh2:H2 s2.heap.objs.size=none:=I2.hok.fresh (Nat.le_refl _)
  have I3:Inv X pins σ (upd H2 s2.heap.objs.size (.lst [])) { s2 with heap:=s2.heap.push { cls:=.type "list",data:=.seq ([]:List Value).toArray } } :=
    I2.laid (t':=s2.toks) (fun b o e=>Heap.get?_push_of_some _ e) (Nat.le_refl _) ⟨Nat.zero_le _,[],0,.nil,Heap.get?_push_size _ rfl⟩
  have st3:tn 0 (s2.heap.push { cls:=.type "list",data:=.seq ([]:List Value).toArray }):=T.keep _ _ _ st2 fun b _ o e=>Heap.get?_push_of_some _ e
  have fpne:∀ b∈fp,b≠s2.heap.objs.size:=fun b hb z=>by
    obtain ⟨o,eo,_⟩:=T.obj 0 _ st2 b hb
    exact absurd (Heap.lt_size eo) (by rw [z];exact Nat.lt_irrefl _)
  have fp3:∀ b∈fp,uX X pins (upd H2 s2.heap.objs.size (.lst [])) b:=fun b hb=>by
    obtain ⟨a0,a1⟩:=f2' b hb
    exact ⟨by rw [aN (fpne b hb)];exact a0,a1⟩
  obtain ⟨W,⟨m0,w0⟩,turn⟩:=h3 s2.heap.objs.size fresh2
  generalize hacc:s2.heap.objs.size=acc at I3 fp3 w0 turn fpne ⊢
  generalize hs3:({ s2 with heap:=s2.heap.push { cls:=.type "list",data:=.seq ([]:List Value).toArray } }:Shared)=s3 at I3 ⊢
  have st3:tn 0 s3.heap:=by rw [← hs3];exact st3
  have accTr:(upd H2 acc (.lst [])) acc=some (.lst []):=bf
  refine wpAny_newFunctionEnv hcell (by intro y hy;cases hy) (fun h4 hns hsb=>?_) hkind
  have hCf:s3.heap.get? s3.heap.objs.size=none:=Heap.get?_none_of_le (Nat.le_refl _)
  have kp4:∀ b o,s3.heap.get? b=some o→h4.get? b=some o:=fun b o e=>hsb.extBut b o (Nat.ne_of_lt (Heap.lt_size e)) (Heap.get?_push_of_some _ e)
  let Y:Cx:=lH X scope N' s3 (upd H2 acc (.lst [])) fp
  have envY:Y.env=compEnvC scope (clo X.env.cells scope.names []) s3.heap.objs.size X.env:=rfl
  have okY:Y.Ok:=by
    refine ⟨ok.mod,?_,ok.glob,ok.blt,Nat.le_refl _,?_,?_,?_,ok.hd,ok.frames,.inl rfl,?_,?_,?_,?_,?_,?_,?_⟩
    · show (relabel scope X.env).kind=.function
      exact hkind
    · exact fun x y c h1 h2=>ok.inj x y c (clX x c h1) (clX y c h2)
    · intro x hx
      have hx':(relabel scope X.env).names.lookup x=some .cell∨(relabel scope X.env).names.lookup x=some .free:=hx
      have hm:(x,NameKind.free)∈scope.names:=by
        rcases hx' with z | z
        · exact nA (.inl rfl) hcell z
        · exact nA (.inr rfl) hcell z
      exact Option.isSome_iff_exists.mp (pA scope.names [] x hm)
    · intro x c hx h1
      have hx':((clo X.env.cells scope.names []).lookup x).isNone=true:=hx
      have h1':(clo X.env.cells scope.names []).lookup x=some c:=h1
      rw [h1'] at hx';cases hx'
    · intro b hb
      obtain ⟨q0,q1,q2,q3,q4,q5⟩:=fp3 b hb
      refine ⟨?_,fun x c h1=>q4 x c (clX x c h1)⟩
      obtain ⟨o,eo,_⟩:=T.obj 0 _ st3 b hb
      exact Nat.ne_of_lt (Heap.lt_size eo)
    · exact fun b o e=>I3.bs b o e
    · exact Nat.le_trans ok.bsz I3.sz
    · intro b o e hb
      obtain ⟨q0,q1,q2,q3,q4,q5⟩:=fp3 b hb
      rcases q3 with z | z
      · exact ok.noex b o e z
      · exact absurd (Nat.lt_of_lt_of_le (Heap.lt_size e) (Nat.le_trans ok.bsz z)) (Nat.lt_irrefl _)
    · intro b hb hf
      obtain ⟨q0,q1,q2,q3,q4,q5⟩:=fp3 b hb
      rcases List.mem_cons.mp (I3.zB b hf) with z | z
      · exact q1 z
      · exact q2 z
    · exact I3.stack
    · exact I3.qN
  have capl:cap.length=N'.length∧∀ p∈N'.zip cap,(match p.2 with | none=>true | some j=>N₀[j]? == some p.1 && scope.names.lookup p.1 == some .free)=true:=by
    unfold vP at f3
    rw [Bool.and_eq_true] at f3
    exact ⟨by simpa using f3.1,fun p hp=>List.all_eq_true.mp f3.2 p hp⟩
  have IY:Inv Y [] (Jj cap σ) (upd H2 acc (.lst [])) { s3 with heap:=h4,toks:=s3.toks + ([]:List (Str × Value)).length }:=by
    refine ⟨okY,rfl,I3.bare,Un.kept kp4,⟨_,hns,?_⟩,?_,?_,?_,fun p hp=>absurd (show p∈([]:List (Addr × Obj)) from hp) (by simp),I3.hok.kept kp4,?_⟩
    · intro i x v e1 e2 e3
      have e1':N'[i]?=some x:=e1
      unfold Jj at e2
      rw [List.getElem?_map] at e2
      cases ec:cap[i]? with
      | none=>rw [ec] at e2;cases e2
      | some o =>
        rw [ec] at e2
        cases o with
        | none=>cases e2
        | some j =>
          have e2':(σ[j]?).bind id=some v:=by simpa using e2
          have hz:(x,some j)∈N'.zip cap:=by
            refine List.mem_of_getElem? (i:=i) ?_
            rw [List.getElem?_zip_eq_some]
            exact ⟨e1',ec⟩
          have q:=capl.2 _ hz
          have q':(N₀[j]? == some x)=true∧(scope.names.lookup x == some NameKind.free)=true:=by simpa [Bool.and_eq_true] using q
          have q1:X.N[j]?=some x:=by rw [hN₀];simpa using q'.1
          have q2:scope.names.lookup x=some .free:=by simpa using q'.2
          have eσ:σ[j]?=some (some v):=by
            cases z:σ[j]? with
            | none=>rw [z] at e2';cases e2'
            | some y =>
              rw [z] at e2'
              have:y=some v:=e2'
              rw [this]
          have hk:=fr (x,.free) (PySem.mem_of_lookup q2) rfl
          obtain ⟨m,hn,hl⟩:=I3.loc
          have vis:Vis X.env.scope x:=by
            rcases hk with z | z
            · exact .inr (.inl z)
            · exact .inr (.inr z)
          obtain ⟨u,r,l⟩:=hl j x v q1 eσ vis
          refine ⟨u,r,.inr ⟨?_,?_⟩⟩
          · rcases tQ (scope:=scope) (env:=X.env) q2 with z | z
            · exact .inl z
            · exact .inr z
          · rcases l with ⟨kl,_⟩ | ⟨_,c,ecx,hcx⟩
            · rcases hk with z | z
              · have z':X.env.kindOf x=some .cell:=z
                rw [kl] at z';cases z'
              · have z':X.env.kindOf x=some .free:=z
                rw [kl] at z';cases z'
            · have hh:=pA (cells:=X.env.cells) scope.names [] x (PySem.mem_of_lookup q2)
              obtain ⟨c',ec'⟩:=Option.isSome_iff_exists.mp hh
              have ec2:=clX x c' ec'
              rw [ecx] at ec2
              cases ec2
              exact ⟨c,ec',hcx.keeps kp4⟩
    · intro x c e
      obtain ⟨v,z⟩:=I3.cell x c (clX x c e)
      exact ⟨v,z.keeps kp4⟩
    · exact I3.hok.fresh (Nat.le_refl _)
    · exact fun x c e=>I3.freeC x c (clX x c e)
    · show (Jj cap σ).length=N'.length
      unfold Jj
      rw [List.length_map];exact capl.1
  have fpY:∀ {H':Hp},(∀ b∈fp,H' b=none)→∀ b∈fp,uX Y [] H' b:=fun {H'} hn b hb=>by
    obtain ⟨q0,q1,q2,q3,q4,q5⟩:=fp3 b hb
    refine ⟨hn b hb,(okY.exf b hb).1,okY.exfs b hb,.inl hb,(okY.exf b hb).2,fun p hp=>absurd (show p∈([]:List (Addr × Obj)) from hp) (by simp)⟩
  have st4:tn 0 h4:=T.keep _ _ _ st3 fun b _ o e=>kp4 b o e
  have back:∀ {τ:St} {H':Hp} {s':Shared},Inv Y [] τ H' s'→Q (.ref acc) H'→compPost (model X.prog X.w) X.A X.xe use R (.ref acc) s3.heap.objs.size (.ok .next) s':=fun {τ H' s'} J q=>by
    have un:Un (frs X.stack) fp (upd H2 acc (.lst [])) H' s3.heap s'.heap:=J.base
    have IX:Inv X pins σ H' s':=I3.call' (J.os) un J.hok J.bare fun b hb=>by
      obtain ⟨q0,q1,q2,q3,q4,q5⟩:=fp3 b hb
      exact ⟨q3,q1,q4,q5⟩
    obtain ⟨m,hn,_⟩:=J.loc
    refine fin acc s3.heap.objs.size s' H' m IX hn J.free (Nat.ne_of_gt I3.lt) I3.sz (fun x c e z=>?_) (fun p hp z=>?_) q
    · obtain ⟨v,q⟩:=I3.cell x c e
      exact absurd q.lt (by rw [z];exact Nat.lt_irrefl _)
    · exact absurd (Heap.lt_size (I3.pin p hp).1) (by rw [z];exact Nat.lt_irrefl _)
  have loop:∀ s5:Shared,s5={ s3 with heap:=h4,toks:=s3.toks + ([]:List (Str × Value)).length } →
      codeAny (model X.prog X.w) X.A (.compLoop (.ListComp elt [⟨tg,iter,ifs,0⟩] scope pos) 0 (.ref it) (.ref acc) Y.env) (compPost (model X.prog X.w) X.A X.xe use R (.ref acc) s3.heap.objs.size) s5:=by
    rintro s5 rfl
    refine Je (fun n s'=>∃ i τ H',Inv Y [] τ H' s'∧tn i s'.heap∧(∀ b∈fp,H' b=none)∧W i n τ H') ?_ m0 ⟨0,_,_,IY,st4,fun b hb=>(fp3 b hb).1,w0⟩
    rintro n s6 ⟨i,τ,H6,I6,st6,fr6,w6⟩
    rcases turn i n τ H6 w6 with ⟨stop,q⟩ | ⟨go,N,hN,step⟩
    · refine wpAny_mono (T.done Y rfl rfl rfl hcalm i [] s6 τ H6 (fun _ _=>False) I6 (fpY fr6) st6 stop) (fun r s7 ⟨hr,I7⟩=>?_) fun _ _ z=>z.elim
      exact .inl ⟨hr,back I7 q⟩
    · refine wpAny_mono (T.item Y rfl rfl rfl hcalm i [] s6 τ H6 (fun _ _=>False) I6 (fpY fr6) st6 go) (fun r s6b ⟨u,hr,h7⟩=>?_) fun _ _ z=>z.elim
      refine .inr ⟨u,hr,?_⟩
      refine wpAny_mono h7 (fun _ s7 ⟨x,H7,I7,r7,y7,st7,fr7⟩=>?_) fun _ _ z=>z.elim
      have I7':=I7.pinned (fpY fr7) (T.obj _ _ st7)
      have again:∀ {τ8:St} {H8:Hp} {s8:Shared},Inv Y ([]++tX fp s7.heap) τ8 H8 s8→N τ8 H8→∃ m,m<n∧∃ i τ H',Inv Y [] τ H' s8∧tn i s8.heap∧(∀ b∈fp,H' b=none)∧W i m τ H':=fun {τ8 H8 s8} I8 n8=>by
        obtain ⟨m',hm,w8⟩:=hN τ8 H8 n8
        refine ⟨m',hm,i + 1,τ8,H8,I8.iG,T.keep _ _ _ st7 fun b hb o e=>(I8.pin (b,o) (List.mem_append_right _ (List.mem_append_right _ (kW hb e)))).1,fun b hb=>?_,w8⟩
        obtain ⟨o,e,d⟩:=T.obj _ _ st7 b hb
        exact (I8.pin (b,o) (List.mem_append_right _ (List.mem_append_right _ (kW hb e)))).2.1
      refine wpAny_mono (hg s3 (upd H2 acc (.lst [])) fp _ s7 τ H7 x u _ I7' r7 (step x H7 y7)) (fun _ s8 ⟨τ8,H8,I8,q8⟩=>?_) fun _ _ z=>z.elim
      refine wpAny_mono (hc s3 (upd H2 acc (.lst [])) fp _ s8 τ8 H8 _ I8 q8) (fun b s9 ⟨H9,I9,q9⟩=>?_) fun _ _ z=>z.elim
      cases b with
      | false =>
        rw [if_neg Bool.false_ne_true] at q9
        exact .inl ⟨rfl,again I9 q9⟩
      | true =>
        rw [if_pos rfl] at q9
        refine .inr ⟨rfl,?_⟩
        refine wpAny_mono (he s3 (upd H2 acc (.lst [])) fp _ s9 τ8 H9 _ I9 q9) (fun y s10 ⟨yv,H10,I10,r10,ys,hl,hz,q10⟩=>?_) fun _ _ z=>z.elim
        refine wpAny_mono (dG (X:=Y) _ s10 τ8 H10 (.ref acc) [yv] (.ref acc) [y] (fun v H'=>N τ8 H') I10 rfl (.cons r10 .nil) ⟨acc,ys,yv,rfl,rfl,hl,hz,q10⟩) (fun v s11 ⟨vv,H11,I11,r11,q11⟩=>?_) fun _ _ z=>z.elim
        exact again I11 q11
  exact codeAny_compStart_list (loop _ rfl) (T.self _ _ _ _ _ st4 (loop _ rfl))
theorem jK (sc:Scope) (hsc:X.env.scope=sc) (N₀:List Str) (hN₀:X.N=N₀) (N':List Str) (cap:List (Option Nat)) (f1:freeOk sc scope=true) (f2:vB scope=true) (f3:vP scope N₀ N' cap=true) (hcalm:X.calm=true)
    (hi:PI X tg iter wi)
    (hg:∀ (s:Shared) (H:Hp) (ex:List Addr),PG (lH X scope N' s H ex) tg g)
    (hc:∀ (s:Shared) (H:Hp) (ex:List Addr),PTs (lH X scope N' s H ex) ifs tc)
    (he:∀ (s:Shared) (H:Hp) (ex:List Addr),PE (lH X scope N' s H ex) elt te)
    (hs:∀ x,foldedSetIterable iter X.env x=pure x:=by intro _;rfl) :
    PE X (.ListComp elt [⟨tg,iter,ifs,0⟩] scope pos) (Td wi cap g tc te):=by
  intro pins s σ H Q I h
  rw [eval_ListComp]
  refine qD (use:=none) sc hsc N₀ hN₀ f1 f2 f3 hcalm hi hg hc he hs I h ?_
  intro acc C s' H' m IX hn hC h1 h2 h3 h4 q
  refine ⟨m,hn,fun h'' hs''=>?_⟩
  exact ⟨.ref acc,H',IX.turned (t':=s'.toks) (fun b o hb e=>(hs''.2 b hb).trans e) hC h1 (.inr h2) h3 h4,rfl,q⟩
theorem gO {i:Nat} {x:Str} {pos' spos:Pos} (sc:Scope) (hsc:X.env.scope=sc) (N₀:List Str) (hN₀:X.N=N₀) (N':List Str) (cap:List (Option Nat)) (f1:freeOk sc scope=true) (f2:vB scope=true) (f3:vP scope N₀ N' cap=true) (hcalm:X.calm=true)
    (hnd:X.N.Nodup) (hix:X.N[i]?=some x) (hx:X.env.scope.names.lookup x=some .local)
    (hi:PI X tg iter wi)
    (hg:∀ (s:Shared) (H:Hp) (ex:List Addr),PG (lH X scope N' s H ex) tg g)
    (hc:∀ (s:Shared) (H:Hp) (ex:List Addr),PTs (lH X scope N' s H ex) ifs tc)
    (he:∀ (s:Shared) (H:Hp) (ex:List Addr),PE (lH X scope N' s H ex) elt te)
    (hsw:swapsWith (.ListComp elt [⟨tg,iter,ifs,0⟩] scope pos) (some (.Name x pos')) spos.line X.env=pure true)
    (hs:∀ x,foldedSetIterable iter X.env x=pure x:=by intro _;rfl) :
    PS X (.Assign [.Name x pos'] (.ListComp elt [⟨tg,iter,ifs,0⟩] scope pos) spos) (Zt (Td wi cap g tc te) (KZ i)):=by
  intro pins s σ H D I h
  rw [exec_Assign_Name_used _ _ _ _ hsw]
  refine wpAny_bind (wpAny_standAt (wpAny_bind ?_))
  show wpAny _ X.A (do let _ ← comprehension (.ListComp elt [⟨tg,iter,ifs,0⟩] scope pos) scope X.env _ (newList []) false (firstIter [⟨tg,iter,ifs,0⟩] X.env) (some (assign (.Name x pos') X.env))) _ _ s
  refine wpAny_bind (wpAny_mono (qD (use:=some (assign (.Name x pos') X.env)) (R:=fun _ s'=>SP X pins D .next s') sc hsc N₀ hN₀ f1 f2 f3 hcalm hi hg hc he hs I h ?_) (fun _ s' hq=>wpAny_pure (wpAny_pure hq)) fun _ _ e=>e)
  intro acc C s' H' m IX hn hC h1 h2 h3 h4 q
  show wpAny _ X.A (assign (.Name x pos') X.env (.ref acc)) _ _ _
  refine wpAny_assign_Name (sW (v:=.ref acc) IX hnd hix (.inl hx) rfl (fun s2 I2 hsb=>?_) (.inr hx))
  obtain ⟨a,sb,ha⟩:=hsb
  have hCa:C≠a:=by
    rcases ha with z | z
    · rw [z];exact h1
    · exact fun w=>h3 x a z w.symm
  refine ⟨m,hn.sameBut sb hCa,fun h'' hs''=>?_⟩
  exact ⟨_,H',I2.turned (t':=s2.toks) (fun b o hb e=>(hs''.2 b hb).trans e) hC h1 (.inr h2) h3 h4,q⟩
end
end L2
namespace L2
open PySem PySem.Spec PyProof.Rows
section
variable {X:Cx}
def Zx (K:PySem.W.Frag):V→V→Hp→VK→Prop:=fun x y H Q=>∃ p xs j v,x=.ref p∧y=.int (j:Nat)∧SqL K H p xs∧xs[j]?=some v∧Q v H
theorem mD:aar X (Zx X.K):=by
  intro pins s σ H o i ov iv Q I ro ri h
  obtain ⟨p,xs,j,z,rfl,rfl,hq,he,q⟩:=h
  cases ro
  obtain ⟨t,rfl⟩:=ri
  obtain ⟨its,r,pl,hz⟩:=I.list hq
  obtain ⟨w,ew,rw'⟩:=r.get he
  have hl:=r.length
  have hn:=nG
  have hj:j<xs.length:=(List.getElem?_eq_some_iff.mp he).1
  exact wpAny_getItem_list pl.isList (by omega) (by omega) (by rw [Int.toNat_natCast];simpa using ew) ⟨z,H,I,rw',q⟩
def aaj (K:PySem.W.Frag) (neg:Bool):R2:=fun x y H Q=>∃ (a b:Addr) (ns ms:List Int),x=.ref a∧y=.ref b∧SqL K H a (ns.map V.int)∧SqL K H b (ms.map V.int)∧Q (.bl (if neg then !decide (ns=ms) else decide (ns=ms))) H
theorem jN:pO X (.builtin "isinstance") (fun xs H Q=>∃ x t c b,xs=[x,.ty c]∧xW X.K H x t∧PySem.W.kitOne X.K t (.type c)=some b∧Q (.bl b) H):=by
  intro pins s σ H xs us Q I r h
  obtain ⟨x,t,c,b,rfl,ty,e,q⟩:=h
  obtain ⟨u,w,rfl,ru,rw'⟩:=vals2 r
  obtain rfl:w=Value.type c:=rw'
  exact Bt I ru ty e fun tk=>⟨.bl b,H,I.tok tk,rfl,q⟩
theorem yu:∀ (bs:List Bool),((List.range bs.length).all fun i=>(bs[i]?).getD true)=bs.all id:=by
  intro bs
  rw [Bool.eq_iff_iff]
  simp only [List.all_eq_true,List.mem_range,id_eq]
  constructor
  · intro h b hb
    obtain ⟨i,hi,e⟩:=List.getElem_of_mem hb
    have:=h i hi
    rw [List.getElem?_eq_getElem hi,e] at this
    exact this
  · intro h i hi
    rw [List.getElem?_eq_getElem hi]
    exact h _ (List.getElem_mem hi)
theorem nW (hc:X.calm=true):pO X (.builtin "all") (fun xs H Q=>∃ (p:Addr) (bs:List Bool),xs=[.ref p]∧SqL X.K H p (bs.map V.bl)∧Q (.bl (bs.all id)) H):=by
  intro pins s σ H xs us Q I r h
  obtain ⟨p,bs,rfl,hq,q⟩:=h
  obtain ⟨u,rfl,ru⟩:=vals1 r
  cases ru
  obtain ⟨its,r1,p1,hz⟩:=I.list hq
  have hl:=p1.isList
  have hlt:p<s.heap.objs.size:=p1.lt
  have hlen:=r1.length
  rw [List.length_map] at hlen
  refine call_all_walk (wpAny_pyIter_list hl ?_)
  refine ⟨s.heap.objs.size,[s.heap.objs.size,p],[s.heap.objs.size],its.toArray.size,_,_,fun i=>(bs[i]?).getD true,rfl,Walks.list (A:=X.A.in1) (I.ok.hd hc) _ p (Nat.ne_of_lt hlt) its.toArray,
    ⟨⟨_,Heap.get?_push_size _ rfl,rfl,rfl⟩,hl.push _⟩,fun i v s' Q' E' hP hQ=>?_,fun h' tk hk=>?_⟩
  · have hP':its[i]?=some v:=by simpa using hP
    have hi:i<bs.length:=by
      have:=(List.getElem?_eq_some_iff.mp hP').1
      omega
    obtain ⟨u,eu,ru⟩:=r1.get (x:=.bl bs[i]) (by rw [List.getElem?_map,List.getElem?_eq_getElem hi];rfl)
    rw [hP'] at eu
    cases eu
    cases ru
    dsimp only at hQ
    rw [List.getElem?_eq_getElem hi] at hQ
    exact wpAny_truthy_bool hQ
  · have e:((List.range its.toArray.size).all fun i=>(bs[i]?).getD true)=bs.all id:=by
      rw [List.size_toArray,← hlen];exact yu bs
    rw [e]
    refine ⟨.bl _,H,I.kept fun b o eo=>hk b o (fun hm=>?_) (Heap.get?_push_of_some _ eo),rfl,q⟩
    rw [List.mem_singleton.mp hm] at eo
    exact Nat.lt_irrefl _ (Heap.lt_size eo)
end
end L2
namespace L2
open PySem PySem.Spec PyProof.Rows
section
variable {X:Cx} {st:Stmt} {rest:List Stmt} {t u:TS}
def Zf (t u:TS):TS:=fun D σ H=>∃ M:St→Hp→Prop,t { D with nx:=M } σ H∧∀ σ' H',M σ' H'→u D σ' H'
theorem Ac (h1:PS X st t) (h2:PSs X rest u):PSs X (st :: rest) (Zf t u):=by
  intro pins s σ H D I h
  obtain ⟨M,ha,hb⟩:=h
  refine wpAny_execs_cons (thn (h1 pins s σ H { D with nx:=M } I ha) fun f s1 q=>?_)
  cases f with
  | next =>
    obtain ⟨σ',H',I',q⟩:=q
    exact h2 pins s1 σ' H' D I' (hb σ' H' q)
  | ret v=>exact q
  | brk=>exact q
  | cont=>exact q
end
end L2
namespace L2
open PySem PySem.Spec PyProof.Rows
def Zc (H:Hp) (P:List V→Prop) (Q:VK):Prop:=∀ (l:Addr) (H':Hp) (xs:List V),Same H H'→H l=none→H' l=some (.lst xs)→P xs→Q (.ref l) H'
structure Df (K:PySem.W.Frag) (mg:Str→Option Value) (x:Str) (st:Stmt) (ps:List Str) (a:Addr) (fd:FuncData):Prop where
  F:Fun K x x st a fd
  b:Binds K fd ps []
  m:mg x=some (.ref a)
theorem Same.upd {H H':Hp} {l:Addr} {o:HO} (s:Same H H') (h:H l=none):Same H (L2.upd H' l o):=fun b u e=>by
  rw [aN (bO e h)];exact s b u e
theorem ints_get {ns:List Int} {i:Nat} {y:V} (h:(ns.map V.int)[i]?=some y):∃ z,ns[i]?=some z∧y=V.int z:=by
  rw [List.getElem?_map] at h
  cases e:ns[i]? with
  | none=>rw [e] at h;cases h
  | some z=>rw [e] at h;exact ⟨z,rfl,(Option.some.inj h).symm⟩
theorem aY {ns:List Int} {i:Nat} {z:Int} (h:ns[i]?=some z):atI (ns.map V.int) (i:Int)=some (V.int z):=iB (by rw [List.getElem?_map,h];rfl)
theorem jM {ns:List Int} {i:Int} {z:Int} (h0:0≤i) (h:ns[i.toNat]?=some z):atI (ns.map V.int) i=some (V.int z):=by
  obtain ⟨k,rfl⟩:=Int.eq_ofNat_of_zero_le h0
  exact aY (by simpa using h)
theorem lO {n j:Nat} (h:j<n):ixN n (j:Int)=some j:=by
  unfold ixN
  rw [if_pos (by omega),if_pos (by omega)];simp
theorem Tp {α:Type} (n:Nat) (x:α):(List.replicate n [x]).flatten=List.replicate n x:=by
  induction n with
  | zero=>rfl
  | succ n ih=>rw [List.replicate_succ,List.flatten_cons,ih,List.replicate_succ];rfl
theorem eX {n:Nat} (h:n≤100000):n≤sizeLine:=Nat.le_trans h (by decide)
theorem aL {n:Nat} (h:n≤100000):n<sizeLine:=Nat.lt_of_le_of_lt h (by decide)
structure Blt (mg:Str→Option Value):Prop where
  len:mg "len"=none
  range:mg "range"=none
  list:mg "list"=none
  isinstance:mg "isinstance"=none
  bool:mg "bool"=none
  int:mg "int"=none
  all:mg "all"=none
  min:mg "min"=none
  max:mg "max"=none
  sum:mg "sum"=none
  sorted:mg "sorted"=none
  zip:mg "zip"=none
  tuple:mg "tuple"=none
  str:mg "str"=none
  any:mg "any"=none
  enumerate:mg "enumerate"=none
  reversed:mg "reversed"=none
  abs:mg "abs"=none
  ValueError:mg "ValueError"=none
  set:mg "set"=none
structure Mth (mg:Str→Option Value):Prop where
  MOUTH:∃ t,mg "MOUTH"=some (.int (-1) t)
section
variable {X:Cx} {K:PySem.W.Frag}
theorem gF (h:X.K=K):IxR X (aai K):=h ▸ aJ
theorem mH (h:X.K=K):pO X (.builtin "len") (fun xs H Q=>∃ p ys,xs=[.ref p]∧(SqL K H p ys∨SqT K H p ys)∧Q (.int ys.length) H):=h ▸ aG
end
end L2
namespace L2
open PySem PySem.W PyProof.Rows
structure Arr (N:Nat) (p:Array Nat):Prop where
  size:p.size=N
  perm:p.toList.Perm (List.range N)
theorem Arr.start (N:Nat):Arr N (List.toArray (List.range N)):=⟨by simp,by simp⟩
theorem Arr.nd {N:Nat} {p:Array Nat} (h:Arr N p):p.toList.Nodup:=h.perm.nodup_iff.mpr List.nodup_range
theorem Arr.get {N:Nat} {p:Array Nat} (h:Arr N p) {i:Nat} (hi:i<N):p.toList[i]?=some (p.getD i 0):=by
  have hi':i<p.size:=by rw [h.size];exact hi
  simp [Array.getD,hi']
theorem Arr.lt {N:Nat} {p:Array Nat} (h:Arr N p) {i:Nat} (hi:i<N):p.getD i 0<N:=by
  have:=h.perm.mem_iff.mp (List.mem_of_getElem? (h.get hi))
  exact List.mem_range.mp this
theorem Arr.ne {N:Nat} {p:Array Nat} (h:Arr N p) {i j:Nat} (hi:i<N) (hj:j<N) (hij:i≠j):p.getD i 0≠p.getD j 0:=by
  intro e
  obtain ⟨a1,a2⟩:=List.getElem?_eq_some_iff.mp (h.get hi)
  obtain ⟨b1,b2⟩:=List.getElem?_eq_some_iff.mp (h.get hj)
  exact hij ((List.getElem_inj h.nd).mp (by rw [a2,b2,e]))
theorem Arr.Ba {N:Nat} {p q:Array Nat} (h:Arr N p) (hs:q.size=p.size) (hp:q.Perm p):Arr N q:=⟨hs.trans h.size,(Array.perm_iff_toList_perm.mp hp).trans h.perm⟩
theorem Arr.rev {N:Nat} {p:Array Nat} (h:Arr N p) (i j:Nat):Arr N (kas_rev p i j):=h.Ba (mirror_size _ _ _ _) (mirror_perm _ _ _ _)
theorem Arr.bub {N:Nat} {p:Array Nat} (h:Arr N p) (k d:Nat):Arr N (bubble p k d):=h.Ba (bubble_size _ _ _) (bubble_perm _ _ _)
theorem rN {p q:Array Nat} {i j:Nat} (h:p[i]?=q[j]?):p.getD i 0=q.getD j 0:=by
  rw [Array.getD_eq_getD_getElem?,Array.getD_eq_getD_getElem?,h]
theorem Aa {N:Nat} {p:Array Nat} (h:Arr N p) {n k:Nat} (hn:n≤N) (hk:k<n):(kas_rev p 0 n).getD k 0=p.getD (n - 1 - k) 0:=by
  refine rN ?_
  unfold kas_rev
  rw [getElem?_mirror (by rw [h.size];exact hn) ((n - 0) / 2) (by omega) k]
  split
  · congr 1;omega
  · congr 1;omega
theorem Jo {N:Nat} {p:Array Nat} (h:Arr N p) {k l j:Nat} (hk:k<N) (hl:l≤k):(bubble p k (k - l)).getD j 0=if j=l then p.getD k 0 else if l<j∧j≤k then p.getD (j - 1) 0 else p.getD j 0:=by
  have e:=getElem?_bubble (xs:=p) (src:=k) (by rw [h.size];exact hk) (k - l) (by omega) j
  have e1:k - (k - l)=l:=by omega
  rw [e1] at e
  by_cases h1:j=l
  · rw [if_pos h1] at e ⊢;exact rN e
  · rw [if_neg h1] at e ⊢
    by_cases h2:l<j∧j≤k
    · rw [if_pos h2] at e ⊢;exact rN e
    · rw [if_neg h2] at e ⊢;exact rN e
section
variable {N:Nat} {κ:Nat→Int} {R:Shared→Prop} {cmp:Nat→Nat→(Bool→Shared→Prop)→Shared→Prop}
def Srt (κ:Nat→Int) (p:Array Nat) (n:Nat):Prop:=∀ i j,i<j→j<n→κ (p.getD i 0)<κ (p.getD j 0)
def Dsc (κ:Nat→Int) (p:Array Nat) (n:Nat):Prop:=∀ i j,i<j→j<n→κ (p.getD j 0)<κ (p.getD i 0)
def Cmp (N:Nat) (κ:Nat→Int) (R:Shared→Prop) (cmp:Nat→Nat→(Bool→Shared→Prop)→Shared→Prop):Prop :=
  ∀ i j C s,i<N→j<N→R s→(∀ s',R s'→C (decide (κ i<κ j)) s')→cmp i j C s
def Inj (N:Nat) (κ:Nat→Int):Prop:=∀ i j,i<N→j<N→i≠j→κ i≠κ j
theorem Srt.snoc {p:Array Nat} {n:Nat} (h:Srt κ p n) (hn:1≤n) (e:κ (p.getD (n - 1) 0)<κ (p.getD n 0)):Srt κ p (n + 1):=fun i j hij hj=>by
  by_cases hjn:j=n
  · subst hjn
    by_cases hi:i=j - 1
    · rw [hi];exact e
    · have:=h i (j - 1) (by omega) (by omega)
      omega
  · exact h i j hij (by omega)
theorem Dsc.snoc {p:Array Nat} {n:Nat} (h:Dsc κ p n) (hn:1≤n) (e:κ (p.getD n 0)<κ (p.getD (n - 1) 0)):Dsc κ p (n + 1):=fun i j hij hj=>by
  by_cases hjn:j=n
  · subst hjn
    by_cases hi:i=j - 1
    · rw [hi];exact e
    · have:=h i (j - 1) (by omega) (by omega)
      omega
  · exact h i j hij (by omega)
variable (hc:Cmp N κ R cmp) (hI:Inj N κ)
include hc hI
theorem qL {p:Array Nat} (A:Arr N p) {Q:Nat→Shared→Prop}:∀ (f n:Nat) (s:Shared),1≤n→n + f=N→Srt κ p n→R s →
    (∀ m s',n≤m→m≤N→Srt κ p m→(m<N→κ (p.getD m 0)<κ (p.getD (m - 1) 0))→R s'→Q m s')→(kas_asc p f n).kasWp cmp Q s
  | 0,n,s,h1,hf,hS,r,k=>k n s (Nat.le_refl _) (by omega) hS (fun z=>by omega) r
  | f + 1,n,s,h1,hf,hS,r,k=>by
    unfold kas_asc
    refine hc _ _ _ s (A.lt (by omega)) (A.lt (by omega)) r fun s' r'=>?_
    by_cases hlt:κ (p.getD n 0)<κ (p.getD (n - 1) 0)
    · rw [decide_eq_true hlt];dsimp only;rw [if_pos rfl]
      exact k n s' (Nat.le_refl _) (by omega) hS (fun _=>hlt) r'
    · rw [decide_eq_false hlt];dsimp only;rw [if_neg Bool.false_ne_true]
      have hne:=hI _ _ (A.lt (show n<N by omega)) (A.lt (show n - 1<N by omega)) (A.ne (show n<N by omega) (show n - 1<N by omega) (by omega))
      exact qL A f (n + 1) s' (by omega) (by omega) (hS.snoc h1 (by omega)) r' fun m s2 a b c d e=>k m s2 (by omega) b c d e
theorem sV {p:Array Nat} (A:Arr N p) {Q:Array Nat × Nat × Nat→Shared→Prop}:∀ (f n:Nat) (s:Shared),1≤n→n + f=N→Dsc κ p n→R s →
    (∀ m s',n≤m→m≤N→Dsc κ p m→R s'→Q (p,m,0) s')→(kas_desc f p n 0).kasWp cmp Q s
  | 0,n,s,h1,hf,hS,r,k=>k n s (Nat.le_refl _) (by omega) hS r
  | f + 1,n,s,h1,hf,hS,r,k=>by
    unfold kas_desc
    refine hc _ _ _ s (A.lt (by omega)) (A.lt (by omega)) r fun s' r'=>?_
    by_cases hlt:κ (p.getD n 0)<κ (p.getD (n - 1) 0)
    · rw [decide_eq_true hlt];dsimp only;rw [if_pos rfl,if_neg (by omega)]
      exact sV A f (n + 1) s' (by omega) (by omega) (hS.snoc h1 hlt) r' fun m s2 a b c d=>k m s2 (by omega) b c d
    · rw [decide_eq_false hlt];dsimp only;rw [if_neg Bool.false_ne_true]
      have hne:=hI _ _ (A.lt (show n<N by omega)) (A.lt (show n - 1<N by omega)) (A.ne (show n<N by omega) (show n - 1<N by omega) (by omega))
      refine hc _ _ _ s' (A.lt (by omega)) (A.lt (by omega)) r' fun s2 r2=>?_
      rw [decide_eq_true (by omega)];dsimp only;rw [if_pos rfl]
      exact k n s2 (Nat.le_refl _) (by omega) hS r2
theorem yj {p:Array Nat} (A:Arr N p) (h2:2≤N) {Q:Nat × Array Nat→Shared→Prop} {s:Shared} (r:R s)
    (k:∀ m p' s',1≤m→m≤N→Arr N p'→Srt κ p' m→R s'→Q (m,p') s'):(kas_count N p).kasWp cmp Q s:=by
  unfold kas_count
  rw [KasT.kasWp_bind]
  refine qL hc hI A (N - 1) 1 s (Nat.le_refl _) (by omega) (fun i j a b=>by omega) r fun n s' h1 hn hS hd r'=>?_
  by_cases hnN:n=N
  · rw [if_pos (by simp [hnN])]
    exact k n p s' h1 hn A hS r'
  · rw [if_neg (by simp [hnN])]
    have hd':=hd (by omega)
    by_cases h1n:n > 1
    · rw [if_pos h1n]
      refine hc _ _ _ s' (A.lt (by omega)) (A.lt (by omega)) r' fun s2 r2=>?_
      rw [decide_eq_true (hS 0 (n - 1) (by omega) (by omega))];dsimp only;rw [if_pos rfl]
      exact k n p s2 h1 hn A hS r2
    · rw [if_neg h1n]
      have hn1:n=1:=by omega
      subst hn1
      unfold kas_descPart
      rw [KasT.kasWp_bind]
      refine sV hc hI A (N - 2) 2 s' (by omega) (by omega) (fun i j a b=>?_) r' fun m s2 hm2 hm hD r2=>?_
      · have hi:i=0:=by omega
        have hj:j=1:=by omega
        subst hi;subst hj
        exact hd'
      · rw [if_neg (by show ¬ (0:Nat) > 0;omega)]
        show (kas_tail3 m N p).kasWp cmp Q s2
        unfold kas_tail3
        rw [KasT.kasWp_bind]
        refine qL hc hI (A.rev 0 m) (N - m) m s2 (by omega) (by omega) (fun i j a b=>?_) r2 fun m' s3 a b c d e=>?_
        · rw [Aa A hm (by omega),Aa A hm (by omega)]
          exact hD _ _ (by omega) (by omega)
        · exact k m' _ s3 (by omega) b (A.rev 0 m) c e
theorem mV {p:Array Nat} (A:Arr N p) {k:Nat} (hk:k<N) (hS:Srt κ p k) {Q:Nat→Shared→Prop}:∀ (f l r:Nat) (s:Shared),l≤r→r≤k→r - l≤f →
    (∀ i,i<l→κ (p.getD i 0)<κ (p.getD k 0))→(∀ i,r≤i→i<k→κ (p.getD k 0)<κ (p.getD i 0))→R s →
    (∀ l s',l≤k→(∀ i,i<l→κ (p.getD i 0)<κ (p.getD k 0))→(∀ i,l≤i→i<k→κ (p.getD k 0)<κ (p.getD i 0))→R s'→Q l s')→(kas_place p k f l r).kasWp cmp Q s
  | 0,l,r,s,h1,h2,hf,ha,hb,hr,q=>by
    have e:l=r:=by omega
    subst e
    exact q l s h2 ha hb hr
  | f + 1,l,r,s,h1,h2,hf,ha,hb,hr,q=>by
    unfold kas_place
    by_cases hlr:l ≥ r
    · rw [if_pos hlr]
      have e:l=r:=by omega
      subst e
      exact q l s h2 ha hb hr
    · rw [if_neg hlr]
      have m1:(l + r) / 2<r:=by omega
      have m0:l≤(l + r) / 2:=by omega
      refine hc _ _ _ s (A.lt hk) (A.lt (by omega)) hr fun s' r'=>?_
      by_cases hlt:κ (p.getD k 0)<κ (p.getD ((l + r) / 2) 0)
      · rw [decide_eq_true hlt];dsimp only;rw [if_pos rfl]
        refine mV A hk hS f l ((l + r) / 2) s' m0 (by omega) (by omega) ha (fun i hi hik=>?_) r' q
        by_cases he:i=(l + r) / 2
        · rw [he];exact hlt
        · have:=hS ((l + r) / 2) i (by omega) hik
          omega
      · rw [decide_eq_false hlt];dsimp only;rw [if_neg Bool.false_ne_true]
        have hne:=hI _ _ (A.lt hk) (A.lt (show (l + r) / 2<N by omega)) (A.ne hk (show (l + r) / 2<N by omega) (by omega))
        refine mV A hk hS f ((l + r) / 2 + 1) r s' (by omega) h2 (by omega) (fun i hi=>?_) hb r' q
        by_cases he:i=(l + r) / 2
        · rw [he];omega
        · have:=hS i ((l + r) / 2) (by omega) (by omega)
          omega
theorem wB {Q:Array Nat→Shared→Prop} (q:∀ p s',Arr N p→Srt κ p N→R s'→Q p s'):∀ (f:Nat) (p:Array Nat) (k:Nat) (s:Shared),Arr N p→k + f=N→Srt κ p k→R s→(kas_bin f p k).kasWp cmp Q s
  | 0,p,k,s,A,hf,hS,r=>by
    have e:k=N:=by omega
    subst e
    exact q p s A hS r
  | f + 1,p,k,s,A,hf,hS,r=>by
    unfold kas_bin
    rw [KasT.kasWp_bind]
    refine mV hc hI A (show k<N by omega) hS k 0 k s (Nat.zero_le _) (Nat.le_refl _) (by omega) (fun i hi=>by omega) (fun i a b=>by omega) r fun l s' hl ha hb r'=>?_
    refine wB q f _ (k + 1) s' (A.bub k (k - l)) (by omega) (fun i j hij hj=>?_) r'
    rw [Jo A (by omega) hl,Jo A (by omega) hl]
    by_cases h1:i=l
    · rw [if_pos h1,if_neg (by omega),if_pos (by omega)]
      exact hb _ (by omega) (by omega)
    · rw [if_neg h1]
      by_cases h2:j=l
      · rw [if_pos h2,if_neg (by omega)]
        exact ha _ (by omega)
      · rw [if_neg h2]
        by_cases h3:l<i∧i≤k
        · rw [if_pos h3,if_pos (by omega)]
          exact hS _ _ (by omega) (by omega)
        · rw [if_neg h3]
          by_cases h4:l<j∧j≤k
          · rw [if_pos h4]
            by_cases h5:i<j - 1
            · exact hS _ _ h5 (by omega)
            · omega
          · rw [if_neg h4]
            exact hS _ _ hij (by omega)
theorem zq (h2:2≤N) {Q:Array Nat→Shared→Prop} {s:Shared} (r:R s) (q:∀ p s',Arr N p→Srt κ p N→R s'→Q p s'):(kas_sort N).kasWp cmp Q s:=by
  unfold kas_sort
  rw [KasT.kasWp_bind]
  refine yj hc hI (Arr.start N) h2 r fun m p' s' h1 hm A hS r'=>?_
  by_cases hlt:m<N
  · rw [if_pos hlt]
    have e:max m 1=m:=by omega
    rw [e]
    exact wB hc hI q _ p' m s' A (by omega) hS r'
  · rw [if_neg hlt]
    have e:m=N:=by omega
    subst e
    exact q p' s' A hS r'
end
end L2
namespace L2
open PySem PySem.Spec PyProof.Rows
section
variable {X:Cx} {pins:List (Addr × Obj)} {σ:St} {H:Hp} {s:Shared} {a:Addr} {o:HO}
theorem Inv.adopt (I:Inv X pins σ H s) (hn:H a=none) (hL:a≠X.env.locals) (h0:X.s₀.heap.objs.size≤a) (hc:∀ x c,X.env.cells.lookup x=some c→c≠a) (hp:∀ p∈X.pn++pins,p.1≠a)
    (new:eO X.prog X.w (upd H a o) s.heap a o):Inv X pins σ (upd H a o) s:=by
  have ne:∀ b u,H b=some u→b≠a:=fun b u e=>bO e hn
  refine ⟨I.ok,I.os,I.bare,⟨I.base.keep,I.base.slot,fun b ob e n hx=>?_,I.base.there,fun b xs e=>?_,fun b ob xs e=>?_,fun b ps e=>?_⟩,I.loc,I.cell,?_,fun x c e=>?_,fun p hq=>?_,fun b u e=>?_,I.len⟩
  · rw [aN (Nat.ne_of_lt (Nat.lt_of_lt_of_le (Heap.lt_size e) h0))];exact I.base.free b ob e n hx
  · have:=I.base.tups b xs e;rw [aN (ne b _ this)];exact this
  · have:=I.base.frzs b ob xs e;rw [aN (ne b _ this)];exact this
  · obtain ⟨m,e1⟩:=I.base.tbls b ps e;exact ⟨m,by rw [aN (ne b _ e1)];exact e1⟩
  · rw [aN hL.symm];exact I.free
  · rw [aN (hc x c e)];exact I.freeC x c e
  · obtain ⟨e1,n,r⟩:=I.pin p hq;exact ⟨e1,by rw [aN (hp p hq)];exact n,r⟩
  · by_cases hb:b=a
    · subst hb;rw [bf] at e;cases e;exact new
    · rw [aN hb] at e
      exact (I.hok b u e).stay (fun _ _ _ q=>q) (fun c q=>by rw [aN (ne c _ q)];exact q) fun c xs q=>by rw [aN (ne c _ q)];exact q
end
section
variable {prog:Program} {w:World} {A:Around} {E:Value→Shared→Prop} {s:Shared}
theorem rT {r:Addr} {b:Int} {t u v:Tok} {n:Nat} {Q:List Value→Shared→Prop} (hh:A.handled=none) (hr:IsRange s.heap r 0 b 1 t u v) (hsmall:Builtin.Range.small 0 b 1=true)
    (hn:Builtin.Range.rangeSize 0 b 1=n) (hlen:n≤2 ^ 24)
    (h:∀ h' tk vs,(∀ b o,s.heap.get? b=some o→h'.get? b=some o)→Vals ((List.range n).map fun (i:Nat)=>V.int (i:Int)) vs→Q vs { s with heap:=h',toks:=tk }) :
    wpAny (model prog w) A (collect (.ref r)) Q E s:=by
  unfold collect
  refine wpAny_bind (wpAny_runValue (codeAny_builtin entry_proto_collect' ?_))
  show wpAny _ _ (do again (.builtin "list.__iadd__" ⟨[← newList [],.ref r],[]⟩)) _ _ s
  refine wpAny_bind (wpAny_newList (wpAny_pure ⟨Code.quiet_builtin _ (by decide +kernel),codeAny_builtin entry_list_iadd' ?_⟩))
  have e1:A.under (.builtin "proto.collect" ⟨[.ref r],[]⟩)=A.in1:=Around.under_plainId F.plain_proto_collect _
  have e2:A.under (.builtin "list.__iadd__" ⟨[.ref s.heap.objs.size,.ref r],[]⟩)=A.in1:=Around.under_plainId F.plain_list_iadd _
  rw [e2]
  show wpAny _ A.in1 (Builtin.List.listExtendWith (.ref s.heap.objs.size) (.ref r) (.ref s.heap.objs.size)) _ _ { s with heap:=s.heap.push (seqObj "list" #[] 0) }
  have hS:(s.heap.push (seqObj "list" #[] 0)).get? s.heap.objs.size=some { cls:=.type "list",data:=.seq #[] 0 }:=Heap.get?_push_size _ rfl
  have hr':IsRange (s.heap.push (seqObj "list" #[] 0)) r 0 b 1 t u v:=Heap.get?_push_of_some _ hr
  refine wpAny_mono (wpAny_extend_range (A:=A) (R:=fun r s'=>match r with
      | .ok (.ret v)=>wpAny (model prog w) A (match v with
          | .ref a=>do
            let o ← load a
            match o.data with
            | .seq xs _=>pure xs.toList
            | _=>unsupported "internal:collect"
          | _=>unsupported "internal:collect") Q E s'
      | .ok _=>False
      | .error e=>E e s') (s:={ s with heap:=s.heap.push (seqObj "list" #[] 0) }) hh hr' hsmall hn hlen s.heap.objs.size (.ref s.heap.objs.size) 0 hS fun h' tk acc c hk hS' hacc=>?_) (fun fin s' q=>?_) (fun e s' q=>q)
  case refine_2 =>
    cases fin with
    | done f=>exact q
    | again c'=>exact q
  show wpAny (model prog w) A (do
      let o ← load s.heap.objs.size
      match o.data with
      | .seq xs _=>pure xs.toList
      | _=>unsupported "internal:collect") Q E { s with heap:=h',toks:=tk }
  refine wpAny_bind (wpAny_load hS' ?_)
  refine wpAny_pure (h h' tk acc.toList (fun b o e=>hk b o (Nat.ne_of_lt (Heap.lt_size e)) (Heap.get?_push_of_some _ e)) ?_)
  have hsz:acc.toList.length=n:=by rw [Array.length_toList];exact hacc.1
  have key:∀ (k:Nat) (l:List Value),l.length=k→(∀ (j:Nat) (v:Value),l[j]?=some v→∃ t,v=.int ((n - k + j:Nat):Int) t)→k≤n→Vals ((List.range' (n - k) k).map fun (i:Nat)=>V.int (i:Int)) l:=by
    intro k
    induction k with
    | zero =>
      intro l hl _ _
      have:l=[]:=List.length_eq_zero_iff.mp hl
      subst this
      exact .nil
    | succ k ih =>
      intro l hl hP hk
      match l,hl with
      | v :: l,hl =>
        have hl':l.length=k:=by simpa using hl
        rw [List.range'_succ,List.map_cons]
        obtain ⟨t,ht⟩:=hP 0 v rfl
        refine .cons ⟨t,?_⟩ ?_
        · rw [ht];rfl
        · have e:n - (k + 1) + 1=n - k:=by omega
          rw [e]
          refine ih l hl' (fun j v' e'=>?_) (by omega)
          obtain ⟨t',ht'⟩:=hP (j + 1) v' (by simpa using e')
          exact ⟨t',by rw [ht'];congr 2;omega⟩
  have:=key n acc.toList hsz (fun j v e=>by
    obtain ⟨t,ht⟩:=hacc.2 j v (by simpa using e)
    refine ⟨t,?_⟩
    rw [ht]
    congr 1
    omega) (Nat.le_refl _)
  rw [Nat.sub_self,← List.range_eq_range'] at this
  exact this
end
end L2
namespace L2
open PySem PySem.W PySem.Spec PyProof.Rows
section
variable {prog:Program} {w:World} {A:Around} {E:Value→Shared→Prop} {s:Shared}
theorem oW {Q:Bool→Shared→Prop}:∀ {xs ys:List Value} {ns ms:List Int},IntsAre xs ns→IntsAre ys ms→ns.length=ms.length→∀ i:Nat,Q (HT.lexLt ns ms) s→KatLex prog w A true false Q (xs.zip ys) i s
  | _,_,_,_,.nil,.nil,_,i,q=>by rw [List.zip_nil_left];exact kat_nil q
  | _,_,_,_,.nil,.cons _ _ _,hl,_,_=>by simp at hl
  | _,_,_,_,.cons _ _ _,.nil,hl,_,_=>by simp at hl
  | _,_,_,_,.cons a t hx,.cons c u hy,hl,i,q=>by
    rw [List.zip_cons_cons]
    refine kat_cons (wpAny_eqBool_int ?_)
    rw [HT.jz] at q
    by_cases h:a=c
    · rw [if_pos h] at q
      have e:(a == c)=true:=by simp [h]
      rw [e]
      exact kat_yes (oW hx hy (by simpa using hl) (i + 1) q)
    · rw [if_neg h] at q
      have e:(a == c)=false:=by simp [h]
      rw [e]
      refine kat_no ?_
      by_cases hi:i=0
      · have ei:(true && i == 0)=true:=by simp [hi]
        rw [ei]
        exact oneLt_int q
      · have ei:(true && i == 0)=false:=by simp [hi]
        rw [ei]
        exact kat_one _ _ (lt_int q)
structure Keys (h:Heap) (ks:List Value) (key:Nat→List Int) (N len:Nat):Prop where
  size:ks.length=N
  at_:∀ i,i<N→∃ t its,ks[i]?=some (.ref t)∧IsTup h t its.toArray∧IntsAre its (key i)
  long:∀ i,i<N→(key i).length=len + 1
theorem Keys.cmp {ks:List Value} {key:Nat→List Int} {N len:Nat} {κ:Nat→Int} (K:Keys s.heap ks key N len) (hκ:∀ i j,i<N→j<N→HT.lexLt (key i) (key j)=decide (κ i<κ j)) :
    Cmp N κ (fun s'=>s'=s) (kas_ask prog w A (tuples' true) ks):=by
  intro i j C s1 hi hj e h
  subst e
  obtain ⟨t,its,e1,⟨o,ho,hc,n,hd⟩,i1⟩:=K.at_ i hi
  obtain ⟨t2,its2,e2,⟨o2,ho2,hc2,n2,hd2⟩,i2⟩:=K.at_ j hj
  unfold kas_ask
  rw [List.getD_eq_getElem?_getD,List.getD_eq_getElem?_getD,e1,e2]
  have l1:its.length=(key i).length:=i1.length
  have l2:its2.length=(key j).length:=i2.length
  have hl:(key i).length=(key j).length:=by rw [K.long i hi,K.long j hj]
  refine kat_lt ho hd ho2 hd2 ?_
  have ef:decide (its.toArray.size<its2.toArray.size)=false:=decide_eq_false (by simp only [List.size_toArray];omega)
  rw [ef]
  refine oW i1 i2 hl 0 ?_
  rw [hκ i j hi hj]
  exact h s1 rfl
theorem Keys.tups {key:Nat→List Int} {len:Nat}:∀ {ks:List Value} {N:Nat},Keys s.heap ks key N len→∃ fs:List Value,KatTups s.heap ks fs∧fs.length=N∧∀ v∈fs,∃ a t,v=.int a t:=by
  have go:∀ (ks:List Value),(∀ i,i<ks.length→∃ t its a u r,ks[i]?=some (.ref t)∧IsTup s.heap t its.toArray∧its=Value.int a u :: r)→∃ fs:List Value,KatTups s.heap ks fs∧fs.length=ks.length∧∀ v∈fs,∃ a t,v=Value.int a t:=by
    intro ks
    induction ks with
    | nil=>intro _;exact ⟨[],trivial,rfl,fun v hv=>nomatch hv⟩
    | cons k ks ih =>
      intro h
      obtain ⟨fs,h1,h2,h3⟩:=ih fun i hi=>by
        obtain ⟨t,its,a,u,r,e,p⟩:=h (i + 1) (by simpa using hi)
        exact ⟨t,its,a,u,r,by simpa using e,p⟩
      obtain ⟨t,its,a,u,r,e,⟨o,ho,hc,n,hd⟩,rfl⟩:=h 0 (by simp)
      have e':k=.ref t:=by simpa using e
      subst e'
      refine ⟨.int a u :: fs,KatTups.cons ho hc hd rfl h1,by simp [h2],fun v hv=>?_⟩
      rcases List.mem_cons.mp hv with e | e
      · exact ⟨a,u,e⟩
      · exact h3 v e
  intro ks N K
  obtain ⟨fs,h1,h2,h3⟩:=go ks fun i hi=>by
    obtain ⟨t,its,e1,p,i1⟩:=K.at_ i (by rw [← K.size];exact hi)
    have hl:=K.long i (by rw [← K.size];exact hi)
    generalize key i=kl at i1 hl
    cases i1 with
    | nil=>simp at hl
    | cons a u hx=>exact ⟨t,_,a,u,_,e1,p,rfl⟩
  exact ⟨fs,h1,by rw [h2,K.size],h3⟩
end
end L2
namespace L2
open PySem PySem.W PySem.Spec PyProof.Rows
def mO (κ:Nat→Int) (xs ys:List V):Prop:=∃ p:List Nat,p.Perm (List.range xs.length)∧ys=p.map (fun i=>xs.getD i .non)∧p.Pairwise fun i j=>κ i<κ j
theorem zU {κ:Nat→Int} {xs:List V} {p:Array Nat} (A:Arr xs.length p) (hS:Srt κ p xs.length):mO κ xs (p.toList.map fun i=>xs.getD i .non):=by
  refine ⟨p.toList,A.perm,rfl,?_⟩
  rw [List.pairwise_iff_getElem]
  intro i j hi hj hij
  have hj':j<xs.length:=by rw [Array.length_toList,A.size] at hj;exact hj
  have e1:p.toList[i]=p.getD i 0:=by
    have:=A.get (show i<xs.length by omega)
    rw [List.getElem?_eq_getElem hi] at this
    exact Option.some.inj this
  have e2:p.toList[j]=p.getD j 0:=by
    have:=A.get hj'
    rw [List.getElem?_eq_getElem hj] at this
    exact Option.some.inj this
  rw [e1,e2]
  exact hS i j hij hj'
theorem sO {xs:List V} {vs:List Value} (r:Vals xs vs):∀ (p:List Nat),(∀ i∈p,i<xs.length)→Vals (p.map fun i=>xs.getD i .non) (p.map fun i=>vs.getD i .none)
  | [],_=>.nil
  | i :: p,h=>by
    have hi:i<xs.length:=h i List.mem_cons_self
    obtain ⟨u,e,ru⟩:=r.get (List.getElem?_eq_getElem hi)
    refine .cons ?_ (sO r p fun j hj=>h j (List.mem_cons_of_mem _ hj))
    show RelV (xs.getD i .non) (vs.getD i .none)
    rw [List.getD_eq_getElem?_getD,List.getD_eq_getElem?_getD,e,List.getElem?_eq_getElem hi]
    exact ru
section
variable {X:Cx} {pins:List (Addr × Obj)} {σ:St} {H:Hp} {s:Shared} {A:Around} {E:Value→Shared→Prop}
theorem Inv.mY (I:Inv X pins σ H s) {b:Addr} {o:Obj} (f:uX X pins H b) (e:s.heap.get? b=some o) (d:∀ v,o.data≠.cell v):Inv X (pins++[(b,o)]) σ H s :=
  I.vo fun p hp=>(List.mem_append.mp hp).elim (fun z=>I.pin p (List.mem_append_right _ z)) fun z=>by
    have e':p=(b,o):=by simpa using z
    subst e'
    obtain ⟨f0,f1,f2,_⟩:=f
    exact ⟨e,f0,f1,f2,d⟩
theorem sort_keys {f:Value} {D kS:Addr} {e1:Nat} {xs:List V} {vs:List Value} (rv:Vals xs vs) (h64:xs.length<64) (Pv:Nat→List Addr→Hp→Prop)
    (fpD:∀ H',H' D=none→uX X pins H' D) (fpK:∀ H',H' kS=none→uX X pins H' kS) (hDK:D≠kS)
    (hcall:∀ i x u ts pins' s' H',xs[i]?=some x→RelV x u→Inv X pins' σ H' s'→(∀ p∈pins,p∈pins')→Pv i ts H'→wpAny (model X.prog X.w) A (call f [u]) (fun k s2=>∃ t H2,k=.ref t∧Inv X pins' σ H2 s2∧Pv (i + 1) (ts++[t]) H2) (fun _ _=>False) s')
    {body:Value→PUnit→Sem (ForInStep PUnit)}
    (hb:∀ x (s:Shared) (R:Value→Shared→Prop) (Q:ForInStep PUnit→Shared→Prop),wpAny (model X.prog X.w) A (call f [x]) R (fun _ _=>False) s→(∀ k s',R k s'→wpAny (model X.prog X.w) A (Builtin.List.listUpdate (.ref kS) (·.push k)) (fun _ s''=>Q (.yield ⟨⟩) s'') E s') →
      wpAny (model X.prog X.w) A (body x ⟨⟩) Q E s) :
    ∀ (r:List Value) (i:Nat) (ts:List Addr) (e:Nat) (s:Shared) (H:Hp),vs.drop i=r→ts.length=i→i≤vs.length→Inv X (pins++[(D,seqObj "list" #[] e1)]++[(kS,seqObj "list" (ts.map Value.ref).toArray e)]) σ H s→Pv i ts H →
      wpAny (model X.prog X.w) A (forIn r PUnit.unit body) (fun _ s'=>∃ ts' e' H',ts'.length=vs.length∧Inv X (pins++[(D,seqObj "list" #[] e1)]++[(kS,seqObj "list" (ts'.map Value.ref).toArray e')]) σ H' s'∧Pv vs.length ts' H') E s
  | [],i,ts,e,s,H,hr,hl,hi,I,p=>by
    rw [List.forIn_nil]
    have hn:i=vs.length:=by
      have:=congrArg List.length hr
      rw [List.length_drop] at this
      simp at this
      omega
    subst hn
    exact wpAny_pure ⟨ts,e,H,hl,I,p⟩
  | u :: r,i,ts,e,s,H,hr,hl,hi,I,p=>by
    rw [List.forIn_cons]
    have hlen:=rv.length
    have hiv:i<vs.length:=by
      have:=congrArg List.length hr
      rw [List.length_drop] at this
      simp at this
      omega
    have eu:vs[i]?=some u:=by
      have:(vs.drop i)[0]?=some u:=by rw [hr];rfl
      rw [List.getElem?_drop] at this
      simpa using this
    have hix:i<xs.length:=by omega
    obtain ⟨u',e',ru⟩:=rv.get (List.getElem?_eq_getElem hix)
    rw [eu] at e'
    cases e'
    refine wpAny_bind (hb u s _ _ (hcall i _ u ts _ s H (List.getElem?_eq_getElem hix) ru I (fun p hp=>List.mem_append_left _ (List.mem_append_left _ hp)) p) fun k s2 ⟨t,H2,ek,I2,p2⟩=>?_)
    subst ek
    have pk:=I2.pin (kS,seqObj "list" (ts.map Value.ref).toArray e) (List.mem_append_right _ (List.mem_append_right _ (by simp)))
    have pD:=I2.pin (D,seqObj "list" #[] e1) (List.mem_append_right _ (List.mem_append_left _ (List.mem_append_right _ (by simp))))
    refine listUpdate_at pk.1 rfl ?_ (by rw [List.size_toArray,List.length_map,sizeLine_eq];omega) (by rw [Array.size_push,List.size_toArray,List.length_map,sizeLine_eq];omega)
    have I2':Inv X (pins++[(D,seqObj "list" #[] e1)]) σ H2 s2:=I2.iG
    have fK:uX X (pins++[(D,seqObj "list" #[] e1)]) H2 kS:=by
      obtain ⟨a0,a1,a2,a3,a4,a5⟩:=fpK H2 pk.2.1
      refine ⟨a0,a1,a2,a3,a4,fun p hp=>?_⟩
      rcases List.mem_append.mp hp with z | z
      · exact a5 p (List.mem_append_left _ z)
      · rcases List.mem_append.mp z with z | z
        · exact a5 p (List.mem_append_right _ z)
        · have:p=(D,seqObj "list" #[] e1):=by simpa using z
          rw [this];exact hDK
    obtain ⟨a0,a1,a2,a3,a4,a5⟩:=fK
    have I3:Inv X (pins++[(D,seqObj "list" #[] e1)]) σ H2 { s2 with heap:=s2.heap.update kS (Obj.mapSeq (·.push (Value.ref t))) } :=
      I2'.turned (t':=s2.toks) (fun b o hb e=>(Heap.get?_update_other _ _ (Ne.symm hb)).trans e) a0 a1 a3 a4 a5
    have ea:((ts.map Value.ref).toArray).push (Value.ref t)=((ts++[t]).map Value.ref).toArray:=by simp
    obtain ⟨c2,hc2⟩:∃ c2,(s2.heap.update kS (Obj.mapSeq (·.push (Value.ref t)))).get? kS=some (seqObj "list" ((ts++[t]).map Value.ref).toArray c2):=⟨_,by rw [← ea];exact get?_update_seq pk.1 (·.push (Value.ref t))⟩
    have I4:=I3.mY ⟨a0,a1,a2,a3,a4,a5⟩ hc2 (fun v z=>by cases z)
    show wpAny (model X.prog X.w) A (forIn r PUnit.unit body) _ E _
    refine sort_keys rv h64 Pv fpD fpK hDK hcall hb r (i + 1) (ts++[t]) c2 _ H2 ?_ (by rw [List.length_append,hl];rfl) (by omega) I4 p2
    have:(vs.drop i).drop 1=r:=by rw [hr];rfl
    rw [List.drop_drop] at this
    exact this
end
end L2
namespace L2
open PySem PySem.W PySem.Spec PyProof.Rows
section
variable {X:Cx} {pins:List (Addr × Obj)} {σ:St} {H:Hp} {s:Shared} {A:Around} {E:Value→Shared→Prop}
theorem zV {f:Value} {D:Addr} {n0 m:Nat} {xs:List V} {vs:List Value} {key:Nat→List Int} {κ:Nat→Int} (rv:Vals xs vs) (h64:xs.length<64) (Pv:Nat→List Addr→Hp→Prop) (I:Inv X pins σ H s)
    (hD:s.heap.get? D=some (seqObj "list" vs.toArray n0)) (fpD:∀ H',H' D=none→uX X pins H' D) (nD:H D=none) (hfresh:X.s₀.heap.objs.size≤D) (p0:Pv 0 [] H)
    (hcall:∀ i x u ts pins' s' H',xs[i]?=some x→RelV x u→Inv X pins' σ H' s'→(∀ p∈pins,p∈pins')→Pv i ts H'→wpAny (model X.prog X.w) A (call f [u]) (fun k s2=>∃ t H2,k=.ref t∧Inv X pins' σ H2 s2∧Pv (i + 1) (ts++[t]) H2) (fun _ _=>False) s')
    (htup:∀ ts H',Pv xs.length ts H'→∀ i t,ts[i]?=some t→H' t=some (.tup ((key i).map V.int))) (hlong:∀ i,i<xs.length→(key i).length=m + 1)
    (hκ:∀ i j,i<xs.length→j<xs.length→HT.lexLt (key i) (key j)=decide (κ i<κ j)) (hinj:Inj xs.length κ) :
    wpAny (model X.prog X.w) A (ksk_tree D f false) (fun fin s'=>fin=.done (.ret .none)∧∃ ts H' ys,Pv xs.length ts H'∧H' D=none∧mO κ xs ys∧Inv X pins σ (upd H' D (.lst ys)) s') E s:=by
  have hlen:=rv.length
  unfold ksk_tree
  refine wpAny_bind (listItems_at hD rfl ?_)
  refine wpAny_bind (listUpdate_at hD rfl ?_ (by rw [List.size_toArray,sizeLine_eq];omega) (Nat.zero_le _))
  obtain ⟨e1,ho1⟩:∃ e1,(s.heap.update D (Obj.mapSeq fun _=>(#[]:Array Value))).get? D=some (seqObj "list" #[] e1):=⟨_,get?_update_seq hD fun _=>#[]⟩
  obtain ⟨a0,a1,a2,a3,a4,a5⟩:=fpD H nD
  have I1:Inv X pins σ H { s with heap:=s.heap.update D (Obj.mapSeq fun _=>(#[]:Array Value)) }:=I.turned (t':=s.toks) (fun b o hb e=>(Heap.get?_update_other _ _ (Ne.symm hb)).trans e) a0 a1 a3 a4 a5
  refine wpAny_bind (seqEpoch_at ho1 rfl ?_)
  refine wpAny_bind (wpAny_newTuple ?_ (by show vs.length≤_;rw [sizeLine_eq];omega))
  refine wpAny_bind (wpAny_newList ?_ (Nat.zero_le _))
  refine wpAny_holding ?_
  have I2:Inv X pins σ H { s with heap:=(s.heap.update D (Obj.mapSeq fun _=>(#[]:Array Value))).push (seqObj "tuple" vs.toArray 0) }:=I1.kept (t':=s.toks) fun b o e=>Heap.get?_push_of_some _ e
  have I3:Inv X pins σ H { s with heap:=((s.heap.update D (Obj.mapSeq fun _=>(#[]:Array Value))).push (seqObj "tuple" vs.toArray 0)).push (seqObj "list" #[] 0) }:=I2.kept (t':=s.toks) fun b o e=>Heap.get?_push_of_some _ e
  have fpK:∀ H',H' (((s.heap.update D (Obj.mapSeq fun _=>(#[]:Array Value))).push (seqObj "tuple" vs.toArray 0)).objs.size)=none→uX X pins H' _:=fun H' hn=>I2.yI (Nat.le_refl _) hn
  have nK:H (((s.heap.update D (Obj.mapSeq fun _=>(#[]:Array Value))).push (seqObj "tuple" vs.toArray 0)).objs.size)=none:=I2.hok.fresh (Nat.le_refl _)
  have hDK:D≠((s.heap.update D (Obj.mapSeq fun _=>(#[]:Array Value))).push (seqObj "tuple" vs.toArray 0)).objs.size:=Nat.ne_of_lt (Heap.lt_size (Heap.get?_push_of_some (seqObj "tuple" vs.toArray 0) ho1))
  have hD3:(((s.heap.update D (Obj.mapSeq fun _=>(#[]:Array Value))).push (seqObj "tuple" vs.toArray 0)).push (seqObj "list" #[] 0)).get? D=some (seqObj "list" #[] e1):=Heap.get?_push_of_some _ (Heap.get?_push_of_some _ ho1)
  have hK3:(((s.heap.update D (Obj.mapSeq fun _=>(#[]:Array Value))).push (seqObj "tuple" vs.toArray 0)).push (seqObj "list" #[] 0)).get? (((s.heap.update D (Obj.mapSeq fun _=>(#[]:Array Value))).push (seqObj "tuple" vs.toArray 0)).objs.size)=some (seqObj "list" #[] 0):=Heap.get?_push_size _ rfl
  generalize ((s.heap.update D (Obj.mapSeq fun _=>(#[]:Array Value))).push (seqObj "tuple" vs.toArray 0)).objs.size=kS at fpK nK hDK hK3 ⊢
  generalize hs3:({ s with heap:=((s.heap.update D (Obj.mapSeq fun _=>(#[]:Array Value))).push (seqObj "tuple" vs.toArray 0)).push (seqObj "list" #[] 0) }:Shared)=s3 at I3 ⊢
  have hD3':s3.heap.get? D=some (seqObj "list" #[] e1):=by rw [← hs3];exact hD3
  have hK3':s3.heap.get? kS=some (seqObj "list" #[] 0):=by rw [← hs3];exact hK3
  have I4:Inv X (pins++[(D,seqObj "list" #[] e1)]) σ H s3:=I3.mY (fpD H nD) hD3' (fun v z=>by cases z)
  have fK:∀ H',H' kS=none→uX X (pins++[(D,seqObj "list" #[] e1)]) H' kS:=fun H' hn=>by
    obtain ⟨b0,b1,b2,b3,b4,b5⟩:=fpK H' hn
    refine ⟨b0,b1,b2,b3,b4,fun p hp=>?_⟩
    rcases List.mem_append.mp hp with z | z
    · exact b5 p (List.mem_append_left _ z)
    · rcases List.mem_append.mp z with z | z
      · exact b5 p (List.mem_append_right _ z)
      · have:p=(D,seqObj "list" #[] e1):=by simpa using z
        rw [this];exact hDK
  have I5:=I4.mY (fK H nK) hK3' (fun v z=>by cases z)
  unfold ksk_rest
  refine wpAny_bind (wpAny_rule ?_)
  first
    | rw [List.forIn_toArray]
    | (rw [← Array.forIn_toList];simp only [List.toList_toArray])
    | rw [← Array.forIn_toList]
  refine wpAny_bind (wpAny_mono (sort_keys (E:=E) rv h64 Pv fpD fpK hDK hcall (fun x s' R Q' hx hk=>?_) vs 0 [] 0 s3 H rfl rfl (Nat.zero_le _) I5 p0) (fun _ s4 hd=>?_) fun _ _ x=>x)
  · refine wpAny_bind (wpAny_attempt (wpAny_mono hx (fun k s'' hq=>?_) fun _ _ hF=>hF.elim))
    dsimp only
    refine wpAny_bind (wpAny_mono (hk k s'' hq) (fun _ s5 hq5=>wpAny_pure hq5) fun _ _ x=>x)
  obtain ⟨ts,e',H4,htl,I6,p4⟩:=hd
  have pk:=I6.pin (kS,seqObj "list" (ts.map Value.ref).toArray e') (List.mem_append_right _ (List.mem_append_right _ (by simp)))
  have pD:=I6.pin (D,seqObj "list" #[] e1) (List.mem_append_right _ (List.mem_append_left _ (List.mem_append_right _ (by simp))))
  refine wpAny_bind (listItems_at pk.1 rfl ?_)
  have p4':Pv xs.length ts H4:=by rw [hlen];exact p4
  have I7:Inv X pins σ H4 s4:=I6.iG.iG
  have fin:∀ (st:SortSt) (q:List Nat),(arrOf st).map (·.2)=List.toArray (q.map fun i=>vs.getD i Value.none)→failedOf st=none→(∀ i∈q,i<xs.length)→q.length=xs.length→mO κ xs (q.map fun i=>xs.getD i .non) →
      wpAny (model X.prog X.w) A (ksk_tail D false e1 (.ref kS) st) (fun fin s'=>fin=.done (.ret .none)∧∃ ts H' ys,Pv xs.length ts H'∧H' D=none∧mO κ xs ys∧Inv X pins σ (upd H' D (.lst ys)) s') E s4:=by
    intro st q hout hf hq hql hsb
    unfold ksk_tail
    dsimp only
    refine wpAny_bind (listUpdate_at pk.1 rfl ?_ (by rw [List.size_toArray,List.length_map,sizeLine_eq];omega) (Nat.zero_le _))
    obtain ⟨b0,b1,b2,b3,b4,b5⟩:=fpK H4 pk.2.1
    have I8:Inv X pins σ H4 { s4 with heap:=s4.heap.update kS (Obj.mapSeq fun _=>(#[]:Array Value)) }:=I7.turned (t':=s4.toks) (fun b o hb e=>(Heap.get?_update_other _ _ (Ne.symm hb)).trans e) b0 b1 b3 b4 b5
    have hD8:(s4.heap.update kS (Obj.mapSeq fun _=>(#[]:Array Value))).get? D=some (seqObj "list" #[] e1):=(Heap.get?_update_other _ _ (Ne.symm hDK)).trans pD.1
    refine wpAny_bind (wpAny_letGo ?_)
    refine wpAny_bind (seqEpoch_at hD8 rfl ?_)
    have hsz:(if false=true then ((arrOf st).map (·.2)).reverse else (arrOf st).map (·.2))=List.toArray (q.map fun i=>vs.getD i Value.none):=by rw [if_neg Bool.false_ne_true];exact hout
    refine wpAny_bind (listUpdate_at hD8 rfl ?_ (Nat.zero_le _) (by show (if false=true then ((arrOf st).map (·.2)).reverse else (arrOf st).map (·.2)).size≤_;rw [hsz,List.size_toArray,List.length_map,sizeLine_eq];omega))
    rw [hf]
    simp only [bne_self_eq_false,Bool.false_eq_true,if_false]
    refine wpAny_pure ⟨rfl,ts,H4,_,p4',pD.2.1,hsb,?_⟩
    obtain ⟨c0,c1,c2,c3,c4,c5⟩:=fpD H4 pD.2.1
    have I9:=I8.turned (h':=(s4.heap.update kS (Obj.mapSeq fun _=>(#[]:Array Value))).update D (Obj.mapSeq fun _=>(arrOf st).map (·.2))) (t':=s4.toks) (fun b o hb e=>(Heap.get?_update_other _ _ (Ne.symm hb)).trans e) c0 c1 c3 c4 c5
    obtain ⟨cc,hcc⟩:∃ cc,((s4.heap.update kS (Obj.mapSeq fun _=>(#[]:Array Value))).update D (Obj.mapSeq fun _=>(arrOf st).map (·.2))).get? D=some (seqObj "list" (q.map fun i=>vs.getD i Value.none).toArray cc):=⟨_,by rw [← hout];exact get?_update_seq hD8 fun _=>(arrOf st).map (·.2)⟩
    exact I9.adopt pD.2.1 c1 hfresh c4 c5 ⟨by rw [List.length_map,sizeLine_eq];omega,_,cc,sO rv q hq,hcc⟩
  have eks:ts.length=xs.length:=by omega
  unfold ksk_end
  dsimp only
  rw [if_neg Bool.false_ne_true]
  by_cases h2:xs.length<2
  · have hs2:vs.toArray.size<2:=by rw [List.size_toArray];omega
    rw [if_pos hs2,if_pos hs2]
    refine wpAny_bind (wpAny_pure ?_)
    refine wpAny_bind ?_
    rw [StateT.run_pure]
    refine wpAny_pure ?_
    dsimp only
    have hr:∀ i∈List.range xs.length,i<xs.length:=fun i hi=>List.mem_range.mp hi
    refine fin _ (List.range xs.length) ?_ rfl hr (List.length_range) ⟨List.range xs.length,List.Perm.refl _,rfl,?_⟩
    · show ((if false=true then ((ts.map Value.ref).toArray.zip vs.toArray).reverse else (ts.map Value.ref).toArray.zip vs.toArray)).map (·.2)=_
      rw [if_neg Bool.false_ne_true]
      apply Array.toList_inj.mp
      rw [Array.toList_map,Array.toList_zip,List.map_snd_zip (by rw [List.toList_toArray,List.toList_toArray,List.length_map];omega)]
      rw [List.toList_toArray]
      apply List.ext_getElem?
      intro j
      rw [List.toList_toArray,List.getElem?_map]
      by_cases hj:j<xs.length
      · rw [List.getElem?_range hj]
        show _=some (vs.getD j Value.none)
        rw [List.getD_eq_getElem?_getD,List.getElem?_eq_getElem (by omega)];rfl
      · rw [List.getElem?_eq_none (by omega),List.getElem?_eq_none (by rw [List.length_range];omega)];rfl
    · match hx:xs.length,h2 with
      | 0,_=>exact List.Pairwise.nil
      | 1,_=>exact List.pairwise_singleton _ _
  · have hs2:¬ vs.toArray.size<2:=by rw [List.size_toArray];omega
    rw [if_neg hs2,if_neg hs2]
    have KK:Keys s4.heap (ts.map Value.ref) key xs.length m:=by
      refine ⟨by rw [List.length_map];exact eks,fun i hi=>?_,hlong⟩
      have hit:i<ts.length:=by omega
      have et:=htup ts H4 p4' i ts[i] (List.getElem?_eq_getElem hit)
      obtain ⟨_,its,r,hT⟩:=I7.hok _ _ et
      exact ⟨ts[i],its,by rw [List.getElem?_map,List.getElem?_eq_getElem hit];rfl,hT,intsAre_of r⟩
    obtain ⟨fs,kt,kl,kv⟩:=KK.tups
    refine wpAny_bind (kat_kind kt (by omega) (fun v hv=>by obtain ⟨a,t,rfl⟩:=kv v hv;exact Looks.of_pure rfl) (T:=.type "int") (by decide) ?_)
    have ett:(Value.type "int" != Value.type "tuple")=true:=by decide
    rw [ett]
    have ez:(if false=true then ((ts.map Value.ref).toArray.zip vs.toArray).reverse else (ts.map Value.ref).toArray.zip vs.toArray)=(ts.map Value.ref).toArray.zip vs.toArray:=by rw [if_neg Bool.false_ne_true]
    rw [ez]
    have hkl:(ts.map Value.ref).length=vs.length:=by rw [List.length_map];omega
    have run:=kat_run (prog:=X.prog) (w:=X.w) (A:=A) (E:=E) (s:=s4) (κ:=tuples' true) (ks:=ts.map Value.ref) (vs:=vs)
      (Q:=fun st' s'=>s'=s4∧∃ p:Array Nat,arrOf st'=p.map (kas_item ((ts.map Value.ref).toArray.zip vs.toArray))∧failedOf st'=none∧Arr xs.length p∧Srt κ p xs.length)
      (G:=fun p s'=>s'=s4∧Arr xs.length p∧Srt κ p xs.length) hkl (by omega) (by omega) (fun p st' s' _ b c ⟨d,a1,a2⟩=>⟨d,p,b,c,a1,a2⟩) (by
        have:=zq (N:=xs.length) (KK.cmp (prog:=X.prog) (w:=X.w) (A:=A) hκ) hinj (by omega) (Q:=fun p s'=>s'=s4∧Arr xs.length p∧Srt κ p xs.length) (s:=s4) rfl fun p s' a b c=>⟨c,a,b⟩
        rw [← hlen]
        exact this)
    refine wpAny_bind (wpAny_mono run ?_ fun _ _ x=>x)
    rintro ⟨⟨⟩,st'⟩ s5 ⟨rfl,p,har,hf,AR,SR⟩
    dsimp only
    refine fin st' p.toList (kat_snds hkl har) hf (fun i hi=>?_) (by rw [Array.length_toList,AR.size]) (zU AR SR)
    exact List.mem_range.mp (AR.perm.mem_iff.mp hi)
end
end L2
namespace L2
open PySem PySem.W PySem.Spec PyProof.Rows
def T9 (X:Cx) (scope:Scope) (qual:Str) (c:Value) (N:List Str) (A:Around) (f:Addr) (s:Shared) (H:Hp):Cx :=
  let env:Env:=envX qual scope s.heap.objs.size f c (clo X.env.cells scope.names [])
  { prog:=X.prog,w:=X.w,K:=X.K,mg:=X.mg,base:=X.base,A:=A.deeper env,N:=N,s₀:=s,H₀:=H,env:=env,outer:=X.stack,stack:=env :: X.stack,ex:=[],fn:=fun x=>((clo X.env.cells scope.names []).lookup x).isNone,calm:=true,pn:=[],xe:=fun _ _=>False }
def rH (x:V) (cap:List (Option Nat)) (σ:St):St:=some x :: (cap.map fun o=>o.bind fun j=>(σ[j]?).bind id)
def T8 (scope:Scope) (p:Str) (N N':List Str) (cap:List (Option Nat)):Bool:=(scope.names.lookup p == some .local) && !scope.isCoroutine && !scope.isGenerator && (!N'.contains p) && vP scope N N' cap
section
variable {X:Cx} {pins:List (Addr × Obj)} {σ:St} {H:Hp} {s:Shared} {body:Expr} {scope:Scope} {params:Arguments} {te:TE}
theorem Ky (sc:Scope) (hsc:X.env.scope=sc) (N₀:List Str) (hN₀:X.N=N₀) {N':List Str} {cap:List (Option Nat)} {p:Str} (f1:freeOk sc scope=true) (f2:vB scope=true) (f3:T8 scope p N₀ N' cap=true)
    {A:Around} {f:Addr} {name qual:Str} {c pm ctv:Value} {x:V} {u:Value} {Q:VK} (I:Inv X pins σ H s) (hA:A.frames=some X.stack) (hd:A.handled=none) (hroom:A.depth<recursionLimit)
    (hf:(f,({ cls:=.type "function",data:=.func (kla_fn name qual params body scope (clo X.env.cells scope.names []) pm c ctv) }:Obj))∈pins) (hcd:s.heap.CodeRec c qual)
    (hbind:bindArgs (kla_fn name qual params body scope (clo X.env.cells scope.names []) pm c ctv) ⟨[u],[]⟩=pure [(p,u)])
    (hb:PE (T9 X scope qual c (p :: N') A f s H) body te) (rx:RelV x u) (h:te (rH x cap σ) H Q) :
    wpAny (model X.prog X.w) A (call (.ref f) [u]) (fun k s2=>∃ v H2,RelV v k∧Inv X pins σ H2 s2∧Q v H2) (fun _ _=>False) s:=by
  have ok:=I.ok
  have fr:∀ y∈scope.names,y.2=.free→X.env.kindOf y.1=some .cell∨X.env.kindOf y.1=some .free:=fun y hy e=>by
    have q:=List.all_eq_true.mp f1 y hy
    rw [e] at q
    have q':((sc.names.lookup y.1 == some NameKind.cell) || (sc.names.lookup y.1 == some NameKind.free))=true:=by simpa using q
    rw [Bool.or_eq_true] at q'
    unfold Env.kindOf
    rw [hsc]
    rcases q' with z | z
    · exact .inl (by simpa using z)
    · exact .inr (by simpa using z)
  obtain ⟨⟨k1,k2⟩,k3⟩:((scope.kind == .function)=true∧(scope.names.all fun y=>y.2 != .cell)=true)∧(scope.names.all fun y=>y.2 != .local || scope.names.lookup y.1 == some .local)=true:=by
    unfold vB at f2
    rw [Bool.and_eq_true,Bool.and_eq_true] at f2
    exact f2
  have hkind:scope.kind=.function:=by simpa using k1
  have hcell:∀ y∈scope.names,y.2≠.cell:=fun y hy=>by
    have q:=List.all_eq_true.mp k2 y hy
    simpa using q
  obtain ⟨⟨⟨⟨g1,g2⟩,g3⟩,g4⟩,g5⟩:((((scope.names.lookup p == some .local)=true∧(!scope.isCoroutine)=true)∧(!scope.isGenerator)=true)∧(!N'.contains p)=true)∧vP scope N₀ N' cap=true:=by
    unfold T8 at f3
    rw [Bool.and_eq_true,Bool.and_eq_true,Bool.and_eq_true,Bool.and_eq_true] at f3
    exact f3
  have hploc:scope.names.lookup p=some .local:=by simpa using g1
  have clX:∀ x c,(clo X.env.cells scope.names []).lookup x=some c→X.env.cells.lookup x=some c:=fun x c e=>by
    have e1:=Jg e
    have hx:(x,NameKind.free)∈scope.names:=by
      rcases rW [] (PySem.mem_of_lookup e) with z | z
      · exact nomatch z
      · exact z
    obtain ⟨c',e2⟩:=ok.has x (fr (x,.free) hx rfl)
    rw [e2] at e1 ⊢
    rw [e1];rfl
  have pf:=I.pin _ (List.mem_append_right _ hf)
  refine wpAny_call (kla_callFunE hroom pf.1 rfl (by simpa using g2) (by simpa using g3) rfl hcd ?_)
  rw [hbind]
  refine wpAny_pure ?_
  refine wpAny_newFunctionEnv hcell (fun y hy=>?_) (fun h4 hns hsb=>?_) hkind
  · have:y=(p,u):=by simpa using hy
    rw [this];exact hploc
  have kp4:∀ b o,s.heap.get? b=some o→h4.get? b=some o:=fun b o e=>hsb.extBut b o (Nat.ne_of_lt (Heap.lt_size e)) (Heap.get?_push_of_some _ e)
  refine ⟨I.nolimit.keeps kp4,kla_codeExpr ?_⟩
  let Z:Cx:=T9 X scope qual c (p :: N') A f s H
  have okZ:Z.Ok:=by
    refine ⟨ok.mod,hkind,rfl,rfl,Nat.le_refl _,?_,?_,?_,fun _=>hd,Around.frames_deeper hA,.inr ⟨rfl,rfl⟩,?_,?_,?_,?_,?_,?_,?_⟩
    · exact fun x y c h1 h2=>ok.inj x y c (clX x c h1) (clX y c h2)
    · intro x hx
      have hx':scope.names.lookup x=some .cell∨scope.names.lookup x=some .free:=hx
      rcases hx' with z | z
      · exact absurd rfl (hcell _ (PySem.mem_of_lookup z))
      · exact Option.isSome_iff_exists.mp (pA scope.names [] x (PySem.mem_of_lookup z))
    · intro x c hx h1
      have hx':((clo X.env.cells scope.names []).lookup x).isNone=true:=hx
      have h1':(clo X.env.cells scope.names []).lookup x=some c:=h1
      rw [h1'] at hx';cases hx'
    · exact fun b hb=>absurd (show b∈([]:List Addr) from hb) (by simp)
    · exact fun b o e=>I.bs b o e
    · exact Nat.le_trans ok.bsz I.sz
    · exact fun b o e hb=>absurd (show b∈([]:List Addr) from hb) (by simp)
    · exact fun b hb=>absurd (show b∈([]:List Addr) from hb) (by simp)
    · exact I.stack
    · exact I.qN
  have capl:cap.length=N'.length∧∀ p∈N'.zip cap,(match p.2 with | none=>true | some j=>N₀[j]? == some p.1 && scope.names.lookup p.1 == some .free)=true:=by
    unfold vP at g5
    rw [Bool.and_eq_true] at g5
    exact ⟨by simpa using g5.1,fun p hp=>List.all_eq_true.mp g5.2 p hp⟩
  have IZ:Inv Z [] (rH x cap σ) H { s with heap:=h4,toks:=s.toks + [(p,u)].length }:=by
    refine ⟨okZ,rfl,I.bare,Un.kept kp4,⟨_,hns,?_⟩,?_,?_,?_,fun p hp=>absurd (show p∈([]:List (Addr × Obj)) from hp) (by simp),I.hok.kept kp4,?_⟩
    · intro i y v e1 e2 e3
      cases i with
      | zero =>
        have e1':p=y:=by
          have e1'':(p :: N')[0]?=some y:=e1
          simpa using e1''
        have e2':x=v:=by
          have e2'':(rH x cap σ)[0]?=some (some v):=e2
          simpa [rH] using e2''
        subst e1' e2'
        exact ⟨u,rx,.inl ⟨hploc,by simp [List.lookup]⟩⟩
      | succ i =>
        have e1':N'[i]?=some y:=by
          have e1'':(p :: N')[i + 1]?=some y:=e1
          simpa using e1''
        have e2':(cap.map fun o=>o.bind fun j=>(σ[j]?).bind id)[i]?=some (some v):=by
          have e2'':(rH x cap σ)[i + 1]?=some (some v):=e2
          simpa [rH] using e2''
        rw [List.getElem?_map] at e2'
        cases ec:cap[i]? with
        | none=>rw [ec] at e2';cases e2'
        | some o =>
          rw [ec] at e2'
          cases o with
          | none=>cases e2'
          | some j =>
            have e3':(σ[j]?).bind id=some v:=by simpa using e2'
            have hz:(y,some j)∈N'.zip cap:=by
              refine List.mem_of_getElem? (i:=i) ?_
              rw [List.getElem?_zip_eq_some]
              exact ⟨e1',ec⟩
            have q:=capl.2 _ hz
            have q':(N₀[j]? == some y)=true∧(scope.names.lookup y == some NameKind.free)=true:=by simpa [Bool.and_eq_true] using q
            have q1:X.N[j]?=some y:=by rw [hN₀];simpa using q'.1
            have q2:scope.names.lookup y=some .free:=by simpa using q'.2
            have eσ:σ[j]?=some (some v):=by
              cases z:σ[j]? with
              | none=>rw [z] at e3';cases e3'
              | some y' =>
                rw [z] at e3'
                have:y'=some v:=e3'
                rw [this]
            have hk:=fr (y,.free) (PySem.mem_of_lookup q2) rfl
            obtain ⟨m,hn,hl⟩:=I.loc
            have vis:Vis X.env.scope y:=by
              rcases hk with z | z
              · exact .inr (.inl z)
              · exact .inr (.inr z)
            obtain ⟨u',r,l⟩:=hl j y v q1 eσ vis
            refine ⟨u',r,.inr ⟨.inr q2,?_⟩⟩
            rcases l with ⟨kl,_⟩ | ⟨_,c,ecx,hcx⟩
            · rcases hk with z | z
              · have z':X.env.kindOf y=some .cell:=z
                rw [kl] at z';cases z'
              · have z':X.env.kindOf y=some .free:=z
                rw [kl] at z';cases z'
            · have hh:=pA (cells:=X.env.cells) scope.names [] y (PySem.mem_of_lookup q2)
              obtain ⟨c',ec'⟩:=Option.isSome_iff_exists.mp hh
              have ec2:=clX y c' ec'
              rw [ecx] at ec2
              cases ec2
              exact ⟨c,ec',hcx.keeps kp4⟩
    · intro y c e
      obtain ⟨v,z⟩:=I.cell y c (clX y c e)
      exact ⟨v,z.keeps kp4⟩
    · exact I.hok.fresh (Nat.le_refl _)
    · exact fun y c e=>I.freeC y c (clX y c e)
    · show (rH x cap σ).length=(p :: N').length
      unfold rH
      rw [List.length_cons,List.length_cons,List.length_map,capl.1]
  refine wpAny_mono (hb [] _ _ H Q IZ h) (fun v s2 ⟨vv,H2,J,rv,q⟩=>?_) fun _ _ z=>z.elim
  refine ⟨vv,H2,rv,?_,q⟩
  have un:Un (frs X.stack) [] H H2 s.heap s2.heap:=J.base
  exact I.call' J.os un J.hok J.bare fun b hb=>absurd hb (by simp)
end
end L2
namespace L2
open PySem PySem.W PySem.Spec PyProof.Rows
section
variable {X:Cx} {pins:List (Addr × Obj)} {σ:St} {H:Hp} {s:Shared}
theorem Inv.grow {P:Addr} {ps more:Array Value} {h':Heap} {t':Nat} (I:Inv X pins σ H s) (hP:H P=some (.tbl ps)) (hx:Heap.ExtBut P s.heap h') (hP':h'.get? P=some { cls:=.none,data:=.fields (ps++more) }) :
    Inv X pins σ (upd H P (.tbl (ps++more))) { s with heap:=h',toks:=t' }:=by
  have ne:∀ b,H b=none→b≠P:=fun b n z=>by rw [z,hP] at n;cases n
  have hL:X.env.locals≠P:=ne _ I.free
  refine I.step (g':=s.gens) (d':=s.drawn) (ch:=[]) (fun _ z=>nomatch z) (fun b o _ _ _ e n=>hx b o (ne b n) e) (fun b o _ _ _ e n=>⟨o.slots,hx b o (ne b n) e⟩) (fun b o _ _ n=>by rw [aN (ne b n)];exact n) (fun b o _ e=>?_) (fun b xs e=>?_) (fun b ob u e=>?_) (fun b qs e=>?_) (fun m hm=>?_) (fun b u e=>?_) I.bare
  · by_cases hb:b=P
    · subst hb;exact ⟨_,hP'⟩
    · exact ⟨o,hx b o hb e⟩
  · rw [aN (fun z=>by rw [z,hP] at e;cases e)];exact e
  · rw [aN (fun z=>by rw [z,hP] at e;cases e)];exact e
  · by_cases hb:b=P
    · subst hb
      rw [hP] at e;cases e
      exact ⟨more,by rw [bf]⟩
    · exact ⟨#[],by rw [aN hb,e];simp⟩
  · exact hm.extBut hx hL
  · by_cases hb:b=P
    · subst hb;rw [bf] at e;cases e;exact hP'
    · rw [aN hb] at e
      refine (I.hok b u e).stay (fun c v hc q=>hx c v ?_ q) (fun c q=>by rw [aN (fun z=>by rw [z,hP] at q;cases q)];exact q) fun c xs q=>by rw [aN (fun z=>by rw [z,hP] at q;cases q)];exact q
      rcases hc with z | z
      · rw [z];exact hb
      · intro w;rw [w,hP] at z;cases z
def TabOk (P:Addr) (pos:Pos) (qual:Str) (H:Hp):Prop:=H P=some (.tbl #[])∨∃ c':Addr,H P=some (.tbl #[rawInt pos.line,rawInt pos.col,.ref c'])∧H c'=some (.ext fun h=>h.CodeRec (.ref c') qual)
def BM (mg:Str→Option Value) (base:Heap):Prop:=∃ bm ob,mg "__builtins__"=some (.ref bm)∧bm≠builtinsNs∧bm≠mainGlobals∧base.get? bm=some ob∧ob.cls=.type "module"∧ob.dict=some builtinsNs∧ob.data=.plain
theorem Kw {P c:Addr} {params:Arguments} {body:Expr} {scope:Scope} {pos:Pos} {Q:Value→Shared→Prop} {E:Value→Shared→Prop} {A:Around} (sc:Scope) (hsc:X.env.scope=sc) (f1:freeOk sc scope=true) (I:Inv X pins σ H s) (hbm:BM X.mg X.base) (hcode:X.env.code=.ref c)
    (hhd:codeHdIn X.K c P=true) (hT:TabOk P pos (X.env.qual++"<lambda>") H) (hdef:defaultsOf params X.env=([],[]))
    (h:∀ (f:Addr) (H':Hp) (s':Shared) (c':Addr) (pm ctv:Value),(∀ b o,H b=some o→b≠P→H' b=some o)→(∀ b,H' b=none→H b=none)→TabOk P pos (X.env.qual++"<lambda>") H'→H' c'=some (.ext fun h=>h.CodeRec (.ref c') (X.env.qual++"<lambda>")) →
      Inv X (pins++[(f,({ cls:=.type "function",data:=.func (kla_fn "<lambda>" (X.env.qual++"<lambda>") params body scope (clo X.env.cells scope.names []) pm (.ref c') ctv) }:Obj))]) σ H' s'→Q (.ref f) s') :
    wpAny (model X.prog X.w) A (eval (.Lambda params body scope pos) X.env) Q E s:=by
  have ok:=I.ok
  have fr:∀ y∈scope.names,y.2=.free→X.env.kindOf y.1=some .cell∨X.env.kindOf y.1=some .free:=fun y hy e=>by
    have q:=List.all_eq_true.mp f1 y hy
    rw [e] at q
    have q':((sc.names.lookup y.1 == some NameKind.cell) || (sc.names.lookup y.1 == some NameKind.free))=true:=by simpa using q
    rw [Bool.or_eq_true] at q'
    unfold Env.kindOf
    rw [hsc]
    rcases q' with z | z
    · exact .inl (by simpa using z)
    · exact .inr (by simpa using z)
  have hclos:closureFor scope X.env=pure (clo X.env.cells scope.names []):=lJ fun y hy e=>ok.has y.1 (fr y hy e)
  have hg:s.heap.Ns mainGlobals X.mg:=I.mod.glob.keeps I.bk
  have C:CodeHd s.heap c P:=codeHd_of_K I.kIn hhd
  obtain ⟨bm,ob,b1,b2,b3,b4,b5,b6,b7⟩:=hbm
  have hbmP:∀ ps,H P=some (.tbl ps)→bm≠P:=fun ps e z=>by
    have:=(I.bs bm ob b4).2
    rw [z,e] at this;cases this
  have hB:∀ ps,H P=some (.tbl ps)→s.heap.BuiltinsAt X.mg P:=fun ps e=>⟨bm,ob,b1,b2,b3,hbmP ps e,I.bk bm ob b4,b5,b6,b7⟩
  refine kla_eval hdef ?_
  rcases hT with hT | ⟨c',hT,hc'⟩
  · have hPo:s.heap.get? P=some (tabObj #[]):=I.hok P _ hT
    have hgP:mainGlobals≠P:=fun q=>by
      obtain ⟨o,es,ep,e,hd,_⟩:=id hg
      rw [q,hPo] at e;cases e;cases hd
    refine kla_makeFunction (mg:=X.mg) hclos ok.glob hg hcode C hPo trivial rfl hgP (hB _ hT) fun c' ctv h' tk hx hge hlt hrec htb=>?_
    have hPlt:P<s.heap.objs.size:=Heap.lt_size hPo
    have I1:Inv X pins σ (upd H P (.tbl (#[]++#[rawInt pos.line,rawInt pos.col,.ref c']))) { s with heap:=h',toks:=tk }:=I.grow hT hx htb
    have nc':H c'=none:=I.hok.fresh hge
    have hcP:c'≠P:=fun z=>by rw [z] at hge;exact absurd hPlt (Nat.not_lt.mpr hge)
    have nc1:(upd H P (.tbl (#[]++#[rawInt pos.line,rawInt pos.col,.ref c']))) c'=none:=by rw [aN hcP];exact nc'
    obtain ⟨q0,q1,q2,q3,q4,q5⟩:=I.yI (H':=H) hge nc'
    have hs0:X.s₀.heap.objs.size≤c':=Nat.le_trans I.sz hge
    have I2:=I1.adopt (a:=c') (o:=.ext fun h=>h.CodeRec (.ref c') (X.env.qual++"<lambda>")) nc1 q1 hs0 q4 q5
      ⟨hrec,by obtain ⟨cc,o,vs,t,e1,e2,_⟩:=hrec;cases e1;exact ⟨o,e2⟩,fun h1 h2 x k=>x.at k⟩
    have I3:=I2.kept (h':=h'.push (kla_obj "<lambda>" (X.env.qual++"<lambda>") params body scope (clo X.env.cells scope.names []) ((X.mg "__name__").getD .none) c' ctv)) (t':=tk) fun b o e=>Heap.get?_push_of_some _ e
    have nf:(upd (upd H P (.tbl (#[]++#[rawInt pos.line,rawInt pos.col,.ref c']))) c' (.ext fun h=>h.CodeRec (.ref c') (X.env.qual++"<lambda>"))) h'.objs.size=none:=I2.hok.fresh (Nat.le_refl _)
    have I4:=I3.mY (I2.yI (Nat.le_refl _) nf) (Heap.get?_push_size _ rfl) (fun v z=>by cases z)
    refine h _ _ _ c' _ ctv (fun b o e hb=>?_) (fun b e=>?_) (.inr ⟨c',?_,bf⟩) bf I4
    · rw [aN (bO e nc'),aN hb];exact e
    · cases z:H b with
      | none=>rfl
      | some o =>
        by_cases hb:b=P
        · rw [hb,aN hcP.symm,bf] at e;cases e
        · rw [aN (bO z nc'),aN hb,z] at e;cases e
    · rw [aN hcP.symm,bf];simp
  · have hPo:s.heap.get? P=some (tabObj #[rawInt pos.line,rawInt pos.col,.ref c']):=I.hok P _ hT
    have hfnd:codeAmong pos (#[rawInt pos.line,rawInt pos.col,.ref c']:Array Value).toList=some (.ref c'):=by simp [codeAmong,rawInt]
    refine kla_makeFunctionHit (mg:=X.mg) hclos ok.glob hg hcode C hPo trivial hfnd (hB _ hT) fun ctv h' tk hk hsz=>?_
    have I1:Inv X pins σ H { s with heap:=h',toks:=tk }:=I.kept hk
    have I3:=I1.kept (h':=h'.push ({ cls:=.type "function",data:=.func (kla_fn "<lambda>" (X.env.qual++"<lambda>") params body scope (clo X.env.cells scope.names []) ((X.mg "__name__").getD .none) (.ref c') ctv) }:Obj)) (t':=tk) fun b o e=>Heap.get?_push_of_some _ e
    have nf:H h'.objs.size=none:=I1.hok.fresh (Nat.le_refl _)
    have I4:=I3.mY (I1.yI (Nat.le_refl _) nf) (Heap.get?_push_size _ rfl) (fun v z=>by cases z)
    exact h _ _ _ c' _ ctv (fun b o e _=>e) (fun b e=>e) (.inr ⟨c',hT,hc'⟩) hc' I4
end
end L2
namespace L2
open PySem PySem.W PySem.Spec PyProof.Rows
def gK (n:Nat):List V:=(List.range n).map fun (i:Nat)=>V.int (i:Int)
def JM (P:Addr) (lpos:Pos) (qual:Str) (cap:List (Option Nat)) (ta:TA) (te:TE):TE:=fun σ H Q=>ta σ H fun vs H1=>∃ n:Nat,vs=[.int (n:Int)]∧n<64∧TabOk P lpos qual H1 ∧
  ∀ H2,(∀ b o,H1 b=some o→b≠P→H2 b=some o)→(∀ b,H2 b=none→H1 b=none)→TabOk P lpos qual H2 →
    ∃ (Pv:Nat→List Addr→Hp→Prop) (key:Nat→List Int) (κ:Nat→Int) (m:Nat),Pv 0 [] H2∧(∀ i ts H3,i<n→Pv i ts H3→(∀ c',H2 c'=some (.ext fun h=>h.CodeRec (.ref c') qual)→H3 c'=some (.ext fun h=>h.CodeRec (.ref c') qual))∧te (rH (.int (i:Int)) cap σ) H3 fun v H4=>∃ t,v=.ref t∧Pv (i + 1) (ts++[t]) H4) ∧
      (∀ ts H3,Pv n ts H3→∀ i t,ts[i]?=some t→H3 t=some (.tup ((key i).map V.int)))∧(∀ i,i<n→(key i).length=m + 1)∧(∀ i j,i<n→j<n→HT.lexLt (key i) (key j)=decide (κ i<κ j))∧Inj n κ ∧
      ∀ ts H3 D ys,Pv n ts H3→H3 D=none→mO κ (gK n) ys→Q (.ref D) (upd H3 D (.lst ys))
section
variable {X:Cx} {e body:Expr} {ta:TA} {te:TE} {params:Arguments} {scope:Scope} {p1 p2 p3 lpos kp pos:Pos}
theorem nC {P c:Addr} {p:Str} (sc:Scope) (hsc:X.env.scope=sc) (N₀:List Str) (hN₀:X.N=N₀) (N':List Str) (cap:List (Option Nat)) (f1:freeOk sc scope=true) (f2:vB scope=true) (f3:T8 scope p N₀ N' cap=true)
    (hcalm:X.calm=true) (hbm:BM X.mg X.base) (hcode:X.env.code=.ref c) (hhd:codeHdIn X.K c P=true) (hroom:X.A.depth + 4<recursionLimit)
    (hgs:Gl X "sorted") (hms:X.mg "sorted"=none) (hgr:Gl X "range") (hmr:X.mg "range"=none) (ha:PA X [e] ta)
    (hb:∀ (A:Around) (f:Addr) (cv:Value) (s:Shared) (H:Hp),A.handled=none→A.depth≤X.A.depth + 2→A.units≤X.A.units + 2→PE (T9 X scope (X.env.qual++"<lambda>") cv (p :: N') A f s H) body te)
    (hbind:∀ (pm cv ctv u:Value),bindArgs (kla_fn "<lambda>" (X.env.qual++"<lambda>") params body scope (clo X.env.cells scope.names []) pm cv ctv) ⟨[u],[]⟩=pure [(p,u)])
    (hdef:defaultsOf params X.env=([],[]):=by rfl) (hs:starEach [e] X.env=[(false,eval e X.env)]:=by rfl) :
    PE X (.Call (.Name "sorted" p1) [.Call (.Name "range" p2) [e] [] p3] [⟨some "key",.Lambda params body scope lpos,kp⟩] pos) (JM P lpos (X.env.qual++"<lambda>") cap ta te):=by
  intro pins s σ H Q I h
  refine wpAny_Call_Name_kw (jA I hgs hms boot_sorted ?_)
  refine callWith_kw ?_
  show wpAny _ _ (spliced ((false,eval (.Call (.Name "range" p2) [e] [] p3) X.env) :: [])) _ _ s
  refine Calls.spliced_cons (Call_ (jA I hgr hmr boot_range (PyProof.Rows.callWith_type1 (thn (ha p3 pins s σ H _ I h) fun us s1 ⟨vs,H1,I1,r1,q1⟩=>?_) hs rfl)))
  obtain ⟨n,e1,hn,hT,q⟩:=q1
  subst e1
  obtain ⟨u,rfl,t,rfl⟩:=vals1 r1
  refine call_range_1 ?_
  refine Calls.spliced_nil ?_
  generalize hro:({ cls:=.type "range",data:=.fields #[.int 0 s1.toks,.int (n:Int) t,.int 1 (s1.toks + 1)] }:Obj)=ro
  have hrd:∀ v,ro.data≠.cell v:=fun v z=>by rw [← hro] at z;cases z
  have I2:Inv X pins σ H1 { s1 with heap:=s1.heap.push ro,toks:=s1.toks + 1 + 1 }:=I1.kept fun b o e=>Heap.get?_push_of_some _ e
  have nr:H1 s1.heap.objs.size=none:=I1.hok.fresh (Nat.le_refl _)
  have I3:=I2.mY (I1.yI (Nat.le_refl _) nr) (Heap.get?_push_size _ (by rw [← hro];rfl)) hrd
  generalize ({ s1 with heap:=s1.heap.push ro,toks:=s1.toks + 1 + 1 }:Shared)=s2 at I3 ⊢
  generalize s1.heap.objs.size=r at I3 ⊢
  refine kws_cons (Kw (P:=P) (c:=c) sc hsc f1 I3 hbm hcode hhd hT hdef fun f H2 s3 c' pm ctv k1 k2 hT2 hc' I4=>?_)
  refine kws_nil ?_
  show wpAny _ _ (call (.builtin "sorted") [.ref r] [(Str.ofString "key",.ref f)]) _ _ s3
  obtain ⟨Pv,key,κ,m,p0,step,htup,hlong,hκ,hinj,fin⟩:=q H2 k1 k2 hT2
  refine call_function_entry_kw kind_sorted plain_sorted entry_sorted (ksk_s1 _ _) ?_
  unfold Builtin.«sorted»
  refine wpAny_bind (m:=checkCount "sorted" 1 1 _) (wpAny_pure ?_)
  have pr:=I4.pin (r,ro) (List.mem_append_right _ (List.mem_append_left _ (List.mem_append_right _ (by simp))))
  have hR:IsRange s3.heap r 0 (n:Int) 1 s1.toks t (s1.toks + 1):=by
    show s3.heap.get? r=_
    rw [pr.1,← hro]
  have hrs:Builtin.Range.rangeSize 0 (n:Int) 1=(n:Nat):=by rw [rangeSize_one];split <;> omega
  refine wpAny_bind (rT (A:=X.A.in1) (I.ok.hd hcalm) hR (small_one (by omega) (by omega) (by omega) (by omega)) hrs (by omega) fun h' tk vs hk rv=>?_)
  have I5:Inv X _ σ H2 { s3 with heap:=h',toks:=tk }:=I4.kept hk
  have hlen:=rv.length
  rw [List.length_map,List.length_range] at hlen
  refine wpAny_bind (wpAny_newList ?_ (by rw [sizeLine_eq];omega))
  have nD:H2 h'.objs.size=none:=I5.hok.fresh (Nat.le_refl _)
  have I6:Inv X _ σ H2 { s3 with heap:=h'.push (seqObj "list" vs.toArray 0),toks:=tk }:=I5.kept (t':=tk) fun b o e=>Heap.get?_push_of_some _ e
  have hD6:(h'.push (seqObj "list" vs.toArray 0)).get? h'.objs.size=some (seqObj "list" vs.toArray 0):=Heap.get?_push_size _ rfl
  have hxl:((List.range n).map fun (i:Nat)=>V.int (i:Int)).length=n:=by simp
  refine wpAny_bind (wpAny_holding (wpAny_call_entry_kw slot_list_sort ⟨_,hD6,rfl⟩ entry_list_sort ?body (ksk_l1 _ _)))
  show wpAny (model X.prog X.w) X.A.in1.in1 (Builtin.«list.sort» ⟨[.ref h'.objs.size],[(Str.ofString "key",.ref f)]⟩) _ _ _
  rw [ksk_t1]
  refine wpAny_mono (zV (X:=X) (A:=X.A.in1.in1) (s:={ s3 with heap:=h'.push (seqObj "list" vs.toArray 0),toks:=tk }) (xs:=gK n) (key:=key) (κ:=κ) (m:=m) (n0:=0) rv (by show ((List.range n).map _).length<64;rw [hxl];exact hn) Pv I6 hD6
    (fun H' hn'=>I5.yI (Nat.le_refl _) hn') nD (Nat.le_trans I5.sz (Nat.le_refl _)) p0 ?call ?tup ?long ?kap ?inj) ?_ fun _ _ x=>x
  case call =>
    intro i x u ts pins' s' H' hx rx I' hsub pv
    obtain ⟨hi,ex⟩:i<n∧x=V.int (i:Int):=by
      have hx':((List.range n).map fun (i:Nat)=>V.int (i:Int))[i]?=some x:=hx
      rw [List.getElem?_map] at hx'
      by_cases hi:i<n
      · rw [List.getElem?_range hi] at hx'
        exact ⟨hi,(Option.some.inj hx').symm⟩
      · rw [List.getElem?_eq_none (by rw [List.length_range];omega)] at hx';cases hx'
    subst ex
    obtain ⟨hkc,ht⟩:=step i ts H' hi pv
    have hcr:s'.heap.CodeRec (.ref c') (X.env.qual++"<lambda>"):=(I'.hok c' _ (hkc c' hc')).1
    refine wpAny_mono (Ky (X:=X) (A:=X.A.in1.in1) sc hsc N₀ hN₀ f1 f2 f3 I' I.ok.frames (I.ok.hd hcalm) (by show X.A.depth<recursionLimit;omega) (hsub _ (List.mem_append_right _ List.mem_cons_self)) hcr (hbind _ _ _ _)
      (hb _ f _ s' H' (I.ok.hd hcalm) (by show X.A.depth≤X.A.depth + 2;omega) (by show X.A.units + 1 + 1≤X.A.units + 2;omega)) rx ht) (fun k s2 ⟨v,H3,rv',I7,t',ev,pv'⟩=>?_) fun _ _ x=>x
    subst ev
    have ek:k=.ref t':=rv'
    exact ⟨t',H3,ek,I7,pv'⟩
  case tup =>
    intro ts H' pv
    have pv':Pv n ts H':=by
      have:Pv ((List.range n).map fun (i:Nat)=>V.int (i:Int)).length ts H':=pv
      rw [hxl] at this;exact this
    exact htup ts H' pv'
  case long =>
    intro i hi
    have hi':i<((List.range n).map fun (i:Nat)=>V.int (i:Int)).length:=hi
    rw [hxl] at hi'
    exact hlong i hi'
  case kap =>
    intro i j hi hj
    have hi':i<((List.range n).map fun (i:Nat)=>V.int (i:Int)).length:=hi
    have hj':j<((List.range n).map fun (i:Nat)=>V.int (i:Int)).length:=hj
    rw [hxl] at hi' hj'
    exact hκ i j hi' hj'
  case inj =>
    have:(gK n).length=n:=hxl
    rw [this];exact hinj
  rintro fin' s8 ⟨rfl,ts,H8,ys,pv,nD8,hsb,I8⟩
  refine ⟨_,rfl,wpAny_pure ⟨_,rfl,?_⟩⟩
  have pv':Pv n ts H8:=by
    have e':(gK n).length=n:=hxl
    rw [e'] at pv;exact pv
  exact ⟨.ref h'.objs.size,_,I8.iG.iG,rfl,fin ts H8 _ ys pv' nD8 hsb⟩
end
end L2
namespace L2
open PySem PySem.W PySem.Spec PyProof.Rows
def Vq (ts:List Addr) (H:Hp):Prop:=∀ b,H b=none∨(∃ o xs,H b=some (.frz o (.lst xs)))∨(b∈ts∧H b=some (.tbl #[]))
theorem Bo {P:Program} {w:World} {K:PySem.W.Frag} {mg mb:Str→Option Value} {CX:CXT} {k:Nat} {fa a:Addr} {fd:FuncData} {x:Str} {sp:Sp} {s₁:Shared} {vs:List Value} {ns:List Int} {ts:List Addr}
    (KX:K.In s₁.heap) (hns:s₁.heap.Ns mainGlobals mg) (hb:s₁.heap.Ns builtinsNs mb) (hbb:∀ x:Str,x≠"__name__"→mb x=bootBuiltins x) (hlim:s₁.heap.NoLimit) (hg:s₁.gens=#[])
    (ha:s₁.heap.get? a=some { cls:=.type "list",data:=.seq vs.toArray }) (hi:IntsAre vs ns) (hl:ns.length≤sizeLine) (hr:lQ k callerA)
    (hts:∀ P∈ts,s₁.heap.get? P=some (tabObj #[])) (htk:∀ P∈ts,K.lookup P=none) (htc:∀ P∈ts,isCodeTable s₁.heap P)
    (hbm:∃ bm ob,mg "__builtins__"=some (.ref bm)∧bm≠builtinsNs∧s₁.heap.get? bm=some ob∧ob.cls=.type "module"∧ob.dict=some builtinsNs∧ob.data=.plain)
    (F:∀ base:Heap,K.In base→base.Ns mainGlobals mg→BM mg base→bN P w K mg base CX k fa fd [x] sp) (hbind:∀ (s:Shared) (u:Value),BindsTo s fd ⟨[u],[]⟩ [(x,u)])
    (hsp:∀ H:Hp,Vq ts H→(∀ P∈ts,H P=some (.tbl #[]))→SqL K H a (ns.map V.int)→sp [.ref a] H (fun v _=>v=.bl true) fun _ _ _=>False)
    (hCX:∀ H e s',CX [] H s₁ (fun _ _ _=>False) e s'→False) :
    codeAny (model P w) callerA (.call (.ref fa) ⟨[.ref a],[]⟩) (fun r s'=>r=.ok (.ret (.bool true))∧OldK s₁.heap s'.heap∧s'.os=s₁.os∧AllBare s'.gens) s₁:=by
  have rv:=sS hi
  have lenV:=hi.length
  have haT:a ∉ ts:=fun z=>by have:=hts a z;rw [ha] at this;cases this
  have core:∀ H:Hp,Vq ts H→(∀ P∈ts,H P=some (.tbl #[]))→SqL K H a (ns.map V.int)→HOk P w H s₁.heap→(∀ b,H b≠none→b=a∨b∈ts)→(H a≠none→K.lookup a=none) →
      codeAny (model P w) callerA (.call (.ref fa) ⟨[.ref a],[]⟩) (fun r s'=>r=.ok (.ret (.bool true))∧OldK s₁.heap s'.heap∧s'.os=s₁.os∧AllBare s'.gens) s₁:=by
    intro H hO hTb hS hok hA hK
    have base_of:∀ {b:Addr} {o:Obj},s₁.heap.get? b=some o→H b=none→(Jy s₁.heap H).get? b=some o:=fun e n=>KR e n
    have noA:∀ {b:Addr} {o:Obj},s₁.heap.get? b=some o→(∀ xs n,o.data≠.seq xs n)→(∀ ps,o.data≠.fields ps)→H b=none:=fun {b o} e d1 d2=>by
      cases q:H b with
      | none=>rfl
      | some u =>
        rcases hA b (by rw [q];simp) with e' | e'
        · subst e'
          rw [ha] at e;cases e
          exact absurd rfl (d1 _ _)
        · have:=hts b e'
          rw [e] at this;cases this
          exact absurd rfl (d2 _)
    have nsK:∀ {b:Addr} {m:Str→Option Value},s₁.heap.Ns b m→(Jy s₁.heap H).Ns b m:=fun {b m} ⟨o,es,ep,e,d,r⟩=>⟨o,es,ep,base_of e (noA e (fun _ _ z=>by rw [d] at z;cases z) fun _ z=>by rw [d] at z;cases z),d,r⟩
    have hKb:K.In (Jy s₁.heap H):=fun b o e=>base_of (KX b o e) (by
      cases q:H b with
      | none=>rfl
      | some u =>
        rcases hA b (by rw [q];simp) with e' | e'
        · subst e'
          rw [hK (by rw [q];simp)] at e;cases e
        · rw [htk b e'] at e;cases e)
    have hM:Mod K mg (Jy s₁.heap H):=⟨hKb,nsK hns,⟨mb,nsK hb,hbb⟩,let ⟨mc,h1,h2⟩:=hlim;⟨mc,nsK h1,h2⟩⟩
    have hBM:BM mg (Jy s₁.heap H):=by
      obtain ⟨bm,ob,c1,c2,c3,c4,c5,c6⟩:=hbm
      refine ⟨bm,ob,c1,c2,fun q=>?_,base_of c3 (noA c3 (fun _ _ z=>by rw [c6] at z;cases z) fun _ z=>by rw [c6] at z;cases z),c4,c5,c6⟩
      obtain ⟨o,es,ep,e,hd,_⟩:=id hns
      rw [q,e] at c3;cases c3;rw [hd] at c6;cases c6
    have e0:Vs P w K mg (Jy s₁.heap H) callerA [] s₁ H:=⟨rfl,hM,fun b o e=>T3 e,Nat.le_of_eq (Iz _ _),trivial,fun b hb=>absurd (show b∈([]:List Addr) from hb) (by simp),hok,.of_eq hg⟩
    refine codeAny_mono ((F _ hKb (nsK hns) hBM).run callerA [] s₁ H ⟨[.ref a],[]⟩ [.ref a] [.ref a] _ _ hr e0 (hbind s₁ (.ref a)) (.cons rfl .nil) (hsp H hO hTb hS)) fun r s' h=>?_
    cases r with
    | error e=>exact (hCX H e s' h).elim
    | ok fl =>
      cases fl with
      | next=>exact False.elim h
      | brk=>exact False.elim h
      | cont=>exact False.elim h
      | ret u =>
        obtain ⟨v,H',os,bare,un,hok',r',q⟩:=h
        have q':v=.bl true:=q
        subst q'
        obtain rfl:u=Value.bool true:=r'
        have old:∀ b o,s₁.heap.get? b=some o→asItWas s₁.heap s'.heap b o:=fun b o e=>by
          rcases hO b with z | ⟨ob,xs,z⟩ | ⟨hbt,z⟩
          · exact .inl (un.keep b o e z (by intro z;exact absurd (show b∈([]:List Addr) from z) (by simp)) (by simp))
          · have z2:=un.frzs b ob _ z
            obtain ⟨e1,_⟩:=hok b _ z
            obtain ⟨e2,_⟩:=hok' b _ z2
            rw [e] at e1;cases e1
            exact .inl e2
          · obtain ⟨more,z2⟩:=un.tbls b #[] z
            have e2:s'.heap.get? b=some { cls:=.none,data:=.fields (#[]++more) }:=hok' b _ z2
            have e3:=hts b hbt
            rw [e] at e3;cases e3
            exact .inr (.inl ⟨htc b hbt,rfl,#[],more,rfl,e2⟩)
        refine ⟨rfl,⟨old,fun b o e=>?_⟩,os,bare⟩
        exact un.there b o e (by simp)
  have tb:∀ b,(if b∈ts then some (HO.tbl #[]) else none)=none∨b∈ts:=fun b=>by
    by_cases h:b∈ts
    · exact .inr h
    · exact .inl (if_neg h)
  cases hk:K.lookup a with
  | some o =>
    have e:=KX a o hk
    rw [ha] at e
    cases e
    refine core (fun b=>if b∈ts then some (.tbl #[]) else none) (fun b=>?_) (fun P hP=>if_pos hP) (.inr ⟨_,vs.toArray,_,hk,rfl,rfl,rfl,by rw [List.size_toArray,lenV];exact hl,by simpa using rv⟩) (fun b u z=>?_) (fun b z=>?_) (fun z=>absurd (if_neg haT) z)
    · by_cases h:b∈ts
      · exact .inr (.inr ⟨h,if_pos h⟩)
      · exact .inl (if_neg h)
    · by_cases h:b∈ts
      · have z':=(if_pos h).symm.trans z
        cases z'
        exact hts b h
      · have z':=(if_neg h).symm.trans z
        cases z'
    · by_cases h:b∈ts
      · exact .inr h
      · exact absurd (if_neg h) z
  | none =>
    refine core (fun b=>if b=a then some (.frz { cls:=.type "list",data:=.seq vs.toArray } (.lst (ns.map V.int))) else if b∈ts then some (.tbl #[]) else none) (fun b=>?_) (fun P hP=>?_) (.inl (.inr ⟨{ cls:=.type "list",data:=.seq vs.toArray },if_pos rfl⟩)) (fun b u z=>?_) (fun b z=>?_) fun _=>hk
    · by_cases hb:b=a
      · exact .inr (.inl ⟨_,_,if_pos hb⟩)
      · by_cases h:b∈ts
        · exact .inr (.inr ⟨h,(if_neg hb).trans (if_pos h)⟩)
        · exact .inl ((if_neg hb).trans (if_neg h))
    · have hb:P≠a:=fun z=>haT (z ▸ hP)
      exact (if_neg hb).trans (if_pos hP)
    · by_cases hb:b=a
      · have z':=(if_pos hb).symm.trans z
        cases z'
        subst hb
        exact ⟨ha,by rw [List.length_map];exact hl,vs,_,rv,ha⟩
      · have z1:=(if_neg hb).symm.trans z
        by_cases h:b∈ts
        · have z':=(if_pos h).symm.trans z1
          cases z'
          exact hts b h
        · have z':=(if_neg h).symm.trans z1
          cases z'
    · by_cases hb:b=a
      · exact .inl hb
      · by_cases h:b∈ts
        · exact .inr h
        · exact absurd ((if_neg hb).trans (if_neg h)) z
theorem JF {l:PySem.W.OpenLaw} {n k:Nat} {q:Program} {loose:List Str} {XP:(Str→Option Value)→Heap→Prop} {YP:World→Heap→Prop} {d:DefRec} {K:Params→PySem.W.Frag} {CX:World→CXT} {sp:World→Sp} {x:Str} {ts:List Addr}
    (hn:l.most=some n) (hn2:n≤sizeLine) (hdf:d.params.defaults=[]) (hr:lQ k callerA)
    (hY:∀ (w:World) (h:Heap),YP w h→(K w.params).In h) (hYt:∀ (w:World) (h:Heap),YP w h→∀ P∈ts,h.get? P=some (tabObj #[]))
    (hts:∀ (w:World),∀ P∈ts,(K w.params).lookup P=none∧∃ c,codeHdIn (K w.params) c P=true)
    (F:∀ (w:World) (mg:Str→Option Value) (fa:Addr) (h:Heap),(K w.params).In h→h.Ns mainGlobals mg→mg d.name=some (.ref fa) →
      ∃ fd:FuncData,(∀ (s:Shared) (u:Value),BindsTo s fd ⟨[u],[]⟩ [(x,u)]) ∧
        ∀ base:Heap,(K w.params).In base→base.Ns mainGlobals mg→BM mg base→bN l.prog w (K w.params) mg base (CX w) k fa fd [x] (sp w))
    (hsp:∀ (w:World) (H:Hp) (a:Addr) (ns:List Int),ns.length≤n→Vq ts H→(∀ P∈ts,H P=some (.tbl #[]))→SqL (K w.params) H a (ns.map V.int)→sp w [.ref a] H (fun v _=>v=.bl true) fun _ _ _=>False)
    (hCX:∀ (w:World) (H:Hp) (s:Shared) (e:Value) (s':Shared),CX w [] H s (fun _ _ _=>False) e s'→False) :
    PySem.W.WalkO q loose XP YP l.row.toRowW d [] (fun f vs=>PySem.call f vs):=by
  refine Att.vR hn hdf fun w s₀ s₁ mg mb fa o pm cd doc a vs ns G Y ho hd hcd hmg hobj hints hlen hg=>?_
  have KX:=hY w _ Y
  obtain ⟨fd,hb,hF⟩:=F w mg fa _ KX G.T.g hmg
  refine Bo KX G.T.g G.T.b G.T.builtins G.T.nolimit hg hobj hints (Nat.le_trans hlen hn2) hr (hYt w _ Y) (fun P hP=>(hts w P hP).1) (fun P hP=>?_) G.T.bmain hF hb (fun H hO hT hS=>hsp w H a ns hlen hO hT hS) fun H e s'=>hCX w H s₁ e s'
  obtain ⟨c,hc⟩:=(hts w P hP).2
  obtain ⟨o,vs,file,tf,flags,tg,inF,text,tt,e1,e2,e3,e4,_⟩:=codeHd_of_K KX hc
  exact ⟨c,o,vs,e1,e2,e3,e4⟩
end L2
namespace L2
open PySem PySem.Spec PyProof.Rows
mutual
inductive Den (K:PySem.W.Frag) (H:Hp):V→PyData→Prop
  | non:Den K H .non .none
  | bl (b:Bool):Den K H (.bl b) (.bool b)
  | int (i:Int):Den K H (.int i) (.int i)
  | str (x:Str):Den K H (.str x) (.str x)
  | list {a:Addr} {xs:List V} {ds:List PyData}:SqL K H a xs→eV K H xs ds→Den K H (.ref a) (.list ds)
  | tuple {a:Addr} {xs:List V} {ds:List PyData}:SqT K H a xs→eV K H xs ds→Den K H (.ref a) (.tuple ds)
inductive eV (K:PySem.W.Frag) (H:Hp):List V→List PyData→Prop
  | nil:eV K H [] []
  | cons {v:V} {vs:List V} {d:PyData} {ds:List PyData}:Den K H v d→eV K H vs ds→eV K H (v :: vs) (d :: ds)
end
theorem eV.length {K:PySem.W.Frag} {H:Hp}:∀ {vs:List V} {ds:List PyData},eV K H vs ds→vs.length=ds.length
  | _,_,.nil=>rfl
  | _,_,.cons _ hs=>by rw [List.length_cons,List.length_cons,eV.length hs]
theorem eV.append {K:PySem.W.Frag} {H:Hp}:∀ {vs ws:List V} {ds es:List PyData},eV K H vs ds→eV K H ws es→eV K H (vs++ws) (ds++es)
  | _,_,_,_,.nil,h=>h
  | _,_,_,_,.cons h hs,h'=>.cons h (eV.append hs h')
theorem eV.get {K:PySem.W.Frag} {H:Hp}:∀ {vs:List V} {ds:List PyData} {i:Nat} {d:PyData},eV K H vs ds→ds[i]?=some d→∃ v,vs[i]?=some v∧Den K H v d
  | _,_,_,_,.nil,e=>by simp at e
  | _,_,0,_,.cons h _,e=>by simp at e;subst e;exact ⟨_,rfl,h⟩
  | _,_,i + 1,d,.cons _ hs,e=>by
    obtain ⟨v,h1,h2⟩:=eV.get (i:=i) (d:=d) hs (by simpa using e)
    exact ⟨v,by simpa using h1,h2⟩
theorem eV.get' {K:PySem.W.Frag} {H:Hp}:∀ {vs:List V} {ds:List PyData} {i:Nat} {v:V},eV K H vs ds→vs[i]?=some v→∃ d,ds[i]?=some d∧Den K H v d
  | _,_,_,_,.nil,e=>by simp at e
  | _,_,0,_,.cons h _,e=>by simp at e;subst e;exact ⟨_,rfl,h⟩
  | _,_,i + 1,v,.cons _ hs,e=>by
    obtain ⟨d,h1,h2⟩:=eV.get' (i:=i) (v:=v) hs (by simpa using e)
    exact ⟨d,by simpa using h1,h2⟩
theorem eV.set {K:PySem.W.Frag} {H:Hp} {v:V} {d:PyData} (h:Den K H v d):∀ {vs:List V} {ds:List PyData} (i:Nat),eV K H vs ds→eV K H (vs.set i v) (ds.set i d)
  | _,_,_,.nil=>.nil
  | _,_,0,.cons _ hs=>.cons h hs
  | _,_,i + 1,.cons q hs=>.cons q (eV.set h i hs)
theorem eV.ints {K:PySem.W.Frag} {H:Hp}:∀ (ns:List Int),eV K H (ns.map V.int) (ns.map PyData.int)
  | []=>.nil
  | n :: ns=>.cons (.int n) (eV.ints ns)
def mG (ns:List Int):PyData:=.list (ns.map PyData.int)
theorem Den.ints {K:PySem.W.Frag} {H:Hp} {a:Addr} {ns:List Int} (h:SqL K H a (ns.map V.int)):Den K H (.ref a) (mG ns):=.list h (eV.ints ns)
theorem eV.int_inv {K:PySem.W.Frag} {H:Hp}:∀ {vs:List V} {ns:List Int},eV K H vs (ns.map PyData.int)→vs=ns.map V.int
  | _,[],.nil=>rfl
  | _,n :: ns,.cons h hs=>by
    cases h
    rw [eV.int_inv hs];rfl
theorem Den.xJ {K:PySem.W.Frag} {H:Hp} {v:V} {ns:List Int} (h:Den K H v (mG ns)):∃ a,v=.ref a∧SqL K H a (ns.map V.int):=by
  cases h with
  | list h hs=>exact ⟨_,rfl,by rw [← eV.int_inv hs];exact h⟩
section
variable {X:Cx} {pins:List (Addr × Obj)} {σ:St} {H:Hp} {s:Shared}
mutual
theorem Den.reads (I:Inv X pins σ H s):∀ {v:V} {d:PyData} {u:Value},Den X.K H v d→RelV v u→∃ as,Reads s.heap u d as
  | _,_,_,.non,r=>by cases r;exact ⟨_,.none⟩
  | _,_,_,.bl b,r=>by cases r;exact ⟨_,.bool b⟩
  | _,_,_,.int i,r=>by obtain ⟨t,rfl⟩:=r;exact ⟨_,.int i t⟩
  | _,_,_,.str x,r=>by obtain ⟨t,rfl⟩:=r;exact ⟨_,.str x t⟩
  | _,_,_,.list h hs,r=>by
    cases r
    obtain ⟨its,r1,⟨o,n,e,c,_,d⟩,_⟩:=I.list h
    obtain ⟨as,q⟩:=eV.reads I hs r1
    exact ⟨_,.list e c d (by simpa using q)⟩
  | _,_,_,.tuple h hs,r=>by
    cases r
    obtain ⟨its,r1,⟨o,e,c,n,d⟩,_⟩:=I.tuple h
    obtain ⟨as,q⟩:=eV.reads I hs r1
    exact ⟨_,.tuple e c d (by simpa using q)⟩
theorem eV.reads (I:Inv X pins σ H s):∀ {vs:List V} {ds:List PyData} {us:List Value},eV X.K H vs ds→Vals vs us→∃ as,ReadsAll s.heap us ds as
  | _,_,_,.nil,r=>by cases r;exact ⟨_,.nil⟩
  | _,_,_,.cons h hs,r=>by
    cases r with
    | cons r1 r2 =>
      obtain ⟨as,q⟩:=Den.reads I h r1
      obtain ⟨bs,q'⟩:=eV.reads I hs r2
      exact ⟨_,.cons q q'⟩
end
def aak (K:PySem.W.Frag) (neg:Bool):R2:=fun x y H Q=>∃ d e,Den K H x d∧Den K H y e∧SeqAt.shaped d=true∧SeqAt.shaped e=true∧Q (.bl (if neg then !PyData.eqv d e else PyData.eqv d e)) H
theorem Wg (hu:X.A.units + 64<cLine):OpR X (compareOp .Eq) (aak X.K false):=by
  intro pins s σ H x y v u Q I rx ry h
  obtain ⟨d,e,hd,he,sd,se,q⟩:=h
  obtain ⟨as,ra⟩:=hd.reads I rx
  obtain ⟨bs,rb⟩:=he.reads I ry
  exact SeqAt.compareEq_shaped ra rb sd se hu ⟨.bl _,H,I,rfl,q⟩
theorem Wd (hu:X.A.units + 64<cLine):OpR X (compareOp .NotEq) (aak X.K true):=by
  intro pins s σ H x y v u Q I rx ry h
  obtain ⟨d,e,hd,he,sd,se,q⟩:=h
  obtain ⟨as,ra⟩:=hd.reads I rx
  obtain ⟨bs,rb⟩:=he.reads I ry
  exact SeqAt.compareNe_shaped ra rb sd se hu ⟨.bl _,H,I,rfl,q⟩
end
def Sh (n:Nat) (d:PyData):Prop:=d.canLay0=true∧d.depth≤n
theorem SM:∀ {ds:List PyData},(∀ d∈ds,d.canLay0=true)→PyData.canLayAll0 ds=true
  | [],_=>rfl
  | d :: ds,h=>by rw [PyData.canLayAll0,h d List.mem_cons_self,SM fun x hx=>h x (List.mem_cons_of_mem _ hx)];rfl
theorem Sy {n:Nat}:∀ {ds:List PyData},(∀ d∈ds,d.depth≤n)→PyData.depthAll ds≤n
  | [],_=>by simp [PyData.depthAll]
  | d :: ds,h=>by
    have h1:=h d List.mem_cons_self
    have h2:=Sy fun x hx=>h x (List.mem_cons_of_mem _ hx)
    simp only [PyData.depthAll]
    omega
theorem Sh.int (n:Nat) (i:Int):Sh n (.int i):=⟨rfl,by simp [PyData.depth]⟩
theorem Sh.list {n:Nat} {ds:List PyData} (h:∀ d∈ds,Sh n d):Sh (n + 1) (.list ds):=⟨by rw [PyData.canLay0];exact SM fun d hd=>(h d hd).1,by
  have:=Sy fun d hd=>(h d hd).2
  simp only [PyData.depth];omega⟩
theorem Sh.ints (n:Nat) (ns:List Int):Sh (n + 1) (mG ns):=.list fun d hd=>by
  obtain ⟨i,_,rfl⟩:=List.mem_map.mp hd
  exact .int n i
theorem Sh.ok {n:Nat} {d:PyData} (h:Sh n d) (hn:n≤64):SeqAt.shaped d=true:=by
  unfold SeqAt.shaped
  rw [h.1,decide_eq_true (by have:=h.2;omega)];rfl
abbrev eH:=List (Addr × Pos × Str)
def TabsOk (T:eH) (H:Hp):Prop:=∀ t∈T,TabOk t.1 t.2.1 t.2.2 H
structure bF (T:eH) (H H':Hp):Prop where
  t0:TabsOk T H
  t1:TabsOk T H'
  keep:∀ b o,H b=some o→(∀ ps,o≠.tbl ps)→H' b=some o
  tb:∀ b ps,H b=some (.tbl ps)→∃ ps',H' b=some (.tbl ps')
theorem TabsOk.mono {T:eH} {H H':Hp} (t:TabsOk T H) (s:Same H H'):TabsOk T H':=fun q hq=>by
  rcases t q hq with e | ⟨c,e1,e2⟩
  · exact .inl (s _ _ e)
  · exact .inr ⟨c,s _ _ e1,s _ _ e2⟩
theorem bF.refl {T:eH} {H:Hp} (t:TabsOk T H):bF T H H:=⟨t,t,fun _ _ h _=>h,fun _ ps h=>⟨ps,h⟩⟩
theorem bF.of {T:eH} {H H':Hp} (t:TabsOk T H) (s:Same H H'):bF T H H':=⟨t,t.mono s,fun b o h _=>s b o h,fun b ps h=>⟨ps,s _ _ h⟩⟩
theorem bF.trans {T:eH} {H H1 H2:Hp} (a:bF T H H1) (b:bF T H1 H2):bF T H H2:=⟨a.t0,b.t1,fun c o h n=>b.keep c o (a.keep c o h n) n,fun c ps h=>by
  obtain ⟨ps',e⟩:=a.tb c ps h
  exact b.tb c ps' e⟩
theorem bF.free {T:eH} {H H':Hp} (a:bF T H H') {l:Addr} (h:H' l=none):H l=none:=by
  cases q:H l with
  | none=>rfl
  | some o =>
    have key:(∃ ps,o=.tbl ps)∨∀ ps,o≠.tbl ps:=by
      cases o with
      | tbl ps=>exact .inl ⟨ps,rfl⟩
      | _=>exact .inr fun _ z=>by cases z
    rcases key with ⟨ps,rfl⟩ | n
    · obtain ⟨ps',e⟩:=a.tb l ps q
      rw [h] at e;cases e
    · have:=a.keep l o q n
      rw [h] at this;cases this
theorem bF.seq {T:eH} {K:PySem.W.Frag} {H H':Hp} {a:Addr} {xs:List V} (e:bF T H H') (h:SqL K H a xs):SqL K H' a xs:=by
  rcases h with (h | ⟨o,h⟩) | h
  · exact .inl (.inl (e.keep _ _ h fun _ z=>by cases z))
  · exact .inl (.inr ⟨o,e.keep _ _ h fun _ z=>by cases z⟩)
  · exact .inr h
theorem bF.aag {T:eH} {K:PySem.W.Frag} {H H':Hp} {a:Addr} {xs:List V} (e:bF T H H') (h:SqT K H a xs):SqT K H' a xs:=by
  rcases h with (h | ⟨o,h⟩) | h
  · exact .inl (.inl (e.keep _ _ h fun _ z=>by cases z))
  · exact .inl (.inr ⟨o,e.keep _ _ h fun _ z=>by cases z⟩)
  · exact .inr h
mutual
theorem Den.rE {T:eH} {K:PySem.W.Frag} {H H':Hp} (e:bF T H H'):∀ {v:V} {d:PyData},Den K H v d→Den K H' v d
  | _,_,.non=>.non
  | _,_,.bl b=>.bl b
  | _,_,.int i=>.int i
  | _,_,.str x=>.str x
  | _,_,.list h hs=>.list (e.seq h) (eV.rE e hs)
  | _,_,.tuple h hs=>.tuple (e.aag h) (eV.rE e hs)
theorem eV.rE {T:eH} {K:PySem.W.Frag} {H H':Hp} (e:bF T H H'):∀ {vs:List V} {ds:List PyData},eV K H vs ds→eV K H' vs ds
  | _,_,.nil=>.nil
  | _,_,.cons h hs=>.cons (Den.rE e h) (eV.rE e hs)
end
def pR (T:eH) (H:Hp) (P:List V→Prop) (Q:VK):Prop:=∀ (l:Addr) (H':Hp) (xs:List V),bF T H H'→H l=none→H' l=some (.lst xs)→P xs→Q (.ref l) H'
def jQ:HO→Bool
  | .tbl _=>false
  | .ext _=>false
  | _=>true
structure Ow (T:eH) (H0 H:Hp) (L:List (Addr × HO)):Prop where
  same:bF T H0 H
  new:∀ p∈L,H0 p.1=none
  at_:∀ p∈L,H p.1=some p.2
  pl:∀ p∈L,jQ p.2=true
  nd:(L.map (·.1)).Nodup
section
variable {T:eH} {H0 H1 H H':Hp} {L L':List (Addr × HO)} {a l:Addr} {o o':HO} {xs:List V}
theorem Ow.refl (t:TabsOk T H):Ow T H H []:=⟨bF.refl t,(fun p hp=>nomatch hp),(fun p hp=>nomatch hp),(fun p hp=>nomatch hp),List.nodup_nil⟩
theorem Ow.get (O:Ow T H0 H L) (k:Nat) (h:L[k]?=some (a,o):=by rfl):H a=some o:=O.at_ _ (List.mem_of_getElem? h)
theorem Ow.fr (O:Ow T H0 H L) (k:Nat) (h:L[k]?=some (a,o):=by rfl):H0 a=none:=O.new _ (List.mem_of_getElem? h)
theorem Ow.sq {K:PySem.W.Frag} (O:Ow T H0 H L) (k:Nat) (h:L[k]?=some (a,.lst xs):=by rfl):SqL K H a xs:=SqL.of (O.get k h)
theorem Ow.sqT {K:PySem.W.Frag} (O:Ow T H0 H L) (k:Nat) (h:L[k]?=some (a,.tup xs):=by rfl):SqT K H a xs:=SqT.of (O.get k h)
theorem TabOk.upd {P:Addr} {pos:Pos} {q:Str} (t:TabOk P pos q H) (h:H a=none∨∃ o,H a=some o∧jQ o=true):TabOk P pos q (L2.upd H a o'):=by
  have ne:∀ b u,H b=some u→jQ u=false→b≠a:=fun b u e p z=>by
    subst z
    rcases h with h | ⟨o,h,ho⟩
    · rw [h] at e;cases e
    · rw [h] at e;cases e;rw [ho] at p;cases p
  rcases t with e | ⟨c,e1,e2⟩
  · exact .inl (by rw [aN (ne _ _ e rfl)];exact e)
  · exact .inr ⟨c,by rw [aN (ne _ _ e1 rfl)];exact e1,by rw [aN (ne _ _ e2 rfl)];exact e2⟩
theorem bF.upd (s:bF T H0 H) (h:H0 a=none) (h':H a=none∨∃ o,H a=some o∧jQ o=true):bF T H0 (L2.upd H a o') :=
  ⟨s.t0,fun t ht=>(s.t1 t ht).upd h',fun b u e n=>by rw [aN (bO e h)];exact s.keep b u e n,fun b ps e=>by rw [aN (bO e h)];exact s.tb b ps e⟩
theorem Ow.mk' (O:Ow T H0 H L) (h:H a=none) (ho:jQ o=true):Ow T H0 (upd H a o) ((a,o) :: L):=by
  have ne:∀ p∈L,p.1≠a:=fun p hp=>bO (O.at_ p hp) h
  have n0:H0 a=none:=O.same.free h
  refine ⟨O.same.upd n0 (.inl h),fun p hp=>?_,fun p hp=>?_,fun p hp=>?_,?_⟩
  · rcases List.mem_cons.mp hp with e | e
    · rw [e];exact n0
    · exact O.new p e
  · rcases List.mem_cons.mp hp with e | e
    · rw [e];exact bf
    · rw [aN (ne p e)];exact O.at_ p e
  · rcases List.mem_cons.mp hp with e | e
    · rw [e];exact ho
    · exact O.pl p e
  · rw [List.map_cons,List.nodup_cons]
    refine ⟨fun hm=>?_,O.nd⟩
    obtain ⟨p,hp,e⟩:=List.mem_map.mp hm
    exact ne p hp e
theorem zW:∀ {L:List (Addr × HO)} {k:Nat} {a:Addr} {o o':HO},L[k]?=some (a,o)→(L.set k (a,o')).map (·.1)=L.map (·.1)
  | [],_,_,_,_,h=>by simp at h
  | p :: L,0,a,o,o',h=>by
    have:p=(a,o):=by simpa using h
    rw [this];rfl
  | p :: L,k + 1,a,o,o',h=>by
    rw [List.set_cons_succ,List.map_cons,List.map_cons,zW (L:=L) (k:=k) (o:=o) (by simpa using h)]
theorem Ow.Vu (O:Ow T H0 H L) (k:Nat) (h:L[k]?=some (a,o)) (ho:jQ o'=true):Ow T H0 (upd H a o') (L.set k (a,o')):=by
  have hm0:=List.mem_of_getElem? h
  have n0:H0 a=none:=O.new _ hm0
  have hk:k<L.length:=(List.getElem?_eq_some_iff.mp h).1
  refine ⟨O.same.upd n0 (.inr ⟨o,O.at_ _ hm0,O.pl _ hm0⟩),fun p hp=>?_,fun p hp=>?_,fun p hp=>?_,by rw [zW h];exact O.nd⟩
  · rcases List.mem_or_eq_of_mem_set hp with e | e
    · exact O.new p e
    · rw [e];exact n0
  · obtain ⟨j,hj,e⟩:=List.getElem_of_mem hp
    by_cases hjk:j=k
    · subst hjk
      rw [List.getElem_set_self] at e
      rw [← e];exact bf
    · rw [List.getElem_set_ne (Ne.symm hjk)] at e
      have hj':j<L.length:=by rw [List.length_set] at hj;exact hj
      have hm:p∈L:=by rw [← e];exact List.getElem_mem hj'
      rw [aN]
      · exact O.at_ p hm
      · intro z
        have e1:(L.map (·.1))[j]?=some p.1:=by rw [List.getElem?_map,List.getElem?_eq_getElem hj',e];rfl
        have e2:(L.map (·.1))[k]?=some a:=by rw [List.getElem?_map,h];rfl
        rw [z] at e1
        obtain ⟨a1,a2⟩:=List.getElem?_eq_some_iff.mp e1
        obtain ⟨b1,b2⟩:=List.getElem?_eq_some_iff.mp e2
        exact hjk ((List.getElem_inj O.nd).mp (a2.trans b2.symm))
  · rcases List.mem_or_eq_of_mem_set hp with e | e
    · exact O.pl p e
    · rw [e];exact ho
theorem Af {o:HO} (h:jQ o=true):∀ ps,o≠.tbl ps:=fun ps z=>by rw [z] at h;cases h
theorem Ow.mJ (O:Ow T H0 H L) (s:bF T H H'):Ow T H0 H' L:=⟨O.same.trans s,O.new,fun p hp=>s.keep _ _ (O.at_ p hp) (Af (O.pl p hp)),O.pl,O.nd⟩
theorem Ow.call (O:Ow T H0 H L) (s:Same H H'):Ow T H0 H' L:=O.mJ (bF.of O.same.t1 s)
theorem Ow.Wq (O:Ow T H0 H L) (s:bF T H H') (n:H l=none) (h:H' l=some o) (ho:jQ o=true):Ow T H0 H' ((l,o) :: L):=by
  have O2:=O.mJ s
  refine ⟨O2.same,fun p hp=>?_,fun p hp=>?_,fun p hp=>?_,?_⟩
  · rcases List.mem_cons.mp hp with e | e
    · rw [e];exact O.same.free n
    · exact O.new p e
  · rcases List.mem_cons.mp hp with e | e
    · rw [e];exact h
    · exact O2.at_ p e
  · rcases List.mem_cons.mp hp with e | e
    · rw [e];exact ho
    · exact O.pl p e
  · rw [List.map_cons,List.nodup_cons]
    refine ⟨fun hm=>?_,O.nd⟩
    obtain ⟨p,hp,e⟩:=List.mem_map.mp hm
    exact bO (O.at_ p hp) n e
theorem Ow.more (O:Ow T H0 H L) (s:Same H H') (n:H l=none) (h:H' l=some o) (ho:jQ o=true):Ow T H0 H' ((l,o) :: L):=O.Wq (bF.of O.same.t1 s) n h ho
theorem Ow.sub (O:Ow T H0 H L) (h:L'.Sublist L):Ow T H0 H L':=⟨O.same,fun p hp=>O.new p (h.subset hp),fun p hp=>O.at_ p (h.subset hp),fun p hp=>O.pl p (h.subset hp),O.nd.sublist (h.map _)⟩
theorem Ow.perm (O:Ow T H0 H L) (h:L'.Perm L):Ow T H0 H L':=⟨O.same,fun p hp=>O.new p (h.mem_iff.mp hp),fun p hp=>O.at_ p (h.mem_iff.mp hp),fun p hp=>O.pl p (h.mem_iff.mp hp),(h.map _).nodup_iff.mpr O.nd⟩
theorem Ow.tail {p:Addr × HO} (O:Ow T H0 H (p :: L)):Ow T H0 H L:=O.sub (List.sublist_cons_self _ _)
theorem Ow.two {p q:Addr × HO} (O:Ow T H0 H (p :: q :: L)):Ow T H0 H (p :: L):=O.sub ((List.sublist_cons_self _ _).cons₂ _)
theorem Ow.base (O:Ow T H0 H L) (s:bF T H1 H0):Ow T H1 H L:=⟨s.trans O.same,fun p hp=>s.free (O.new p hp),O.at_,O.pl,O.nd⟩
theorem Ow.reb (O:Ow T H0 H L):∃ H1,Ow T H1 H L∧bF T H0 H1∧∀ b o,H b=some o→(∀ p∈L,p.1≠b)→H1 b=some o:=by
  have keep:∀ b u,H b=some u→(∀ p∈L,p.1≠b)→(fun b=>if b∈L.map (·.1) then none else H b:Hp) b=some u:=fun b u e h=>by
    show (if b∈L.map (·.1) then none else H b)=some u
    rw [if_neg fun hm=>?_];· exact e
    obtain ⟨p,hp,z⟩:=List.mem_map.mp hm
    exact h p hp z
  have back:∀ b u,(fun b=>if b∈L.map (·.1) then none else H b:Hp) b=some u→H b=some u:=fun b u e=>by
    dsimp only at e
    split at e
    · cases e
    · exact e
  have npl:∀ b u,H b=some u→jQ u=false→∀ p∈L,p.1≠b:=fun b u e h p hp z=>by
    have:=O.at_ p hp
    rw [z,e] at this
    have e':u=p.2:=Option.some.inj this
    rw [e',O.pl p hp] at h;cases h
  have tk:TabsOk T (fun b=>if b∈L.map (·.1) then none else H b):=fun t ht=>by
    rcases O.same.t1 t ht with e | ⟨c,e1,e2⟩
    · exact .inl (keep _ _ e (npl _ _ e rfl))
    · exact .inr ⟨c,keep _ _ e1 (npl _ _ e1 rfl),keep _ _ e2 (npl _ _ e2 rfl)⟩
  refine ⟨fun b=>if b∈L.map (·.1) then none else H b,⟨⟨tk,O.same.t1,fun b u e _=>back b u e,fun b ps e=>⟨ps,back _ _ e⟩⟩,fun p hp=>?_,O.at_,O.pl,O.nd⟩,⟨O.same.t0,tk,fun b u e n=>?_,fun b ps e=>?_⟩,keep⟩
  · exact if_pos (List.mem_map.mpr ⟨p,hp,rfl⟩)
  · refine keep b u (O.same.keep b u e n) fun p hp z=>?_
    rw [← z,O.new p hp] at e;cases e
  · obtain ⟨ps',e'⟩:=O.same.tb b ps e
    exact ⟨ps',keep _ _ e' (npl _ _ e' rfl)⟩
theorem Ln {i:Int} {j:Nat} {v:V} {Q:Hp→Prop} (O:Ow T H0 H L) (k:Nat) (h:L[k]?=some (l,.lst xs)) (hi:ixN xs.length i=some j) (q:∀ H',Ow T H0 H' (L.set k (l,.lst (xs.set j v)))→Q H'):V4 (.ref l) (.int i) v H Q :=
  ⟨l,xs,i,j,rfl,rfl,O.get k h,hi,q _ (O.Vu k h rfl)⟩
theorem Ow.ret {P:List V→Prop} {Q:VK} (O:Ow T H0 H L) (k:Nat) (h:L[k]?=some (l,.lst xs)) (q:pR T H0 P Q) (p:P xs):Q (.ref l) H:=q l H xs O.same (O.fr k h) (O.get k h) p
theorem Ow.got {P:List V→Prop} {Q:VK} (O:Ow T H0 H L) (k:∀ l H' xs,Ow T H0 H' ((l,.lst xs) :: L)→P xs→Q (.ref l) H'):Zc H P Q:=fun l H' xs s n h p=>k l H' xs (O.more s n h rfl) p
theorem Ow.yQ {P:List V→Prop} {Q:VK} (O:Ow T H0 H L) (k:∀ l H' xs,Ow T H0 H' ((l,.lst xs) :: L)→P xs→Q (.ref l) H'):pR T H P Q:=fun l H' xs s n h p=>k l H' xs (O.Wq s n h rfl) p
end
end L2
namespace L2
open PySem PySem.W PySem.Spec PyProof.Rows
theorem szl {n:Nat} (h:Nat.ble n 100000=true:=by rfl):n≤sizeLine:=eX (Nat.le_of_ble_eq_true h)
theorem Bw (p:Int) (ns:List Int):inV (.int p) (ns.map V.int)=decide (p∈ns):=by
  unfold inV
  rw [List.any_map,Bool.eq_iff_iff]
  simp only [List.any_eq_true,decide_eq_true_eq]
  constructor
  · rintro ⟨x,hx,e⟩
    have e':(x == p)=true:=e
    have:x=p:=by simpa using e'
    rw [← this];exact hx
  · intro h
    exact ⟨p,h,show (p == p)=true by simp⟩
theorem uy (ns:List Int):(ns.map V.int).all rP=true:=by
  rw [List.all_map,List.all_eq_true];intro _ _;rfl
theorem Fun.okC {P:Program} {w:World} {K:PySem.W.Frag} {mg:Str→Option Value} {base:Heap} {x qual:Str} {st:Stmt} {f:Addr} {fd:FuncData} {N ps:List Str} {k:Nat} {sp:Sp} {c:Value} (F:Fun K x qual st f fd) (hc:fd.code=c) (S:aH N ps (ao st)) (len:∀ vs H Q E,sp vs H Q E→vs.length=ps.length)
    (hbody:∀ (A:Around) (outer:List Env) (s:Shared) (H:Hp) (vs:List V) (Q:VK) (E:XK),lQ k (A.deeper (envOfC qual (ao st) s.heap.objs.size f c))→sp vs H Q E →
      ∃ t,PSs (Jd CX0 P w K mg base N qual (ao st) f c A outer s H E).nox (aq st) t∧t { nx:=fun _ H'=>Q .non H',rt:=Q } (start N vs) H):bN P w K mg base CX0 (k + 1) f fd ps sp:=by
  obtain ⟨oc,od,kV,doc,pm,an,cdv,ct,osl,rfl,lk,hcd⟩:=F.ex
  have e:cdv=c:=hc
  subst e
  refine K3 lk hcd S len fun A outer s H vs Q E hr hsp=>?_
  obtain ⟨t,h,q⟩:=hbody A outer s H vs Q E hr hsp
  exact ⟨t,h.nox,q⟩
theorem xu {k:Nat} {A XA:Around} {env:Env} (r:lQ (k + 2) XA) (hh:A.handled=none) (hd:A.depth≤XA.depth + 2) (hu:A.units≤XA.units + 2):lQ k (A.deeper env) :=
  ⟨hh,by have:=r.dp;show A.depth + 1 + 3 * k + 5<_;omega,by have:=r.un;show A.units + 3 + 16 * k + 200<_;omega⟩
theorem xG {A:Around} (r:lQ 1 A):A.depth + 4<recursionLimit:=by have:=r.dp;omega
theorem bF.tab {T:eH} {H H2:Hp} {P:Addr} {pos:Pos} {q:Str} (t:TabsOk T H) (hm:(P,pos,q)∈T) (nd:(T.map (·.1)).Nodup) (k1:∀ b o,H b=some o→b≠P→H2 b=some o) (t2:TabOk P pos q H2):bF T H H2:=by
  have hP:∃ ps,H P=some (.tbl ps):=by
    rcases t _ hm with e | ⟨c,e,_⟩
    · exact ⟨_,e⟩
    · exact ⟨_,e⟩
  obtain ⟨ps0,hP⟩:=hP
  have hP2:∃ ps,H2 P=some (.tbl ps):=by
    rcases t2 with e | ⟨c,e,_⟩
    · exact ⟨_,e⟩
    · exact ⟨_,e⟩
  refine ⟨t,fun u hu=>?_,fun b o e n=>k1 b o e fun z=>?_,fun b ps e=>?_⟩
  · by_cases hb:u.1=P
    · have:u=(P,pos,q):=by
        obtain ⟨i,hi,ei⟩:=List.getElem_of_mem hu
        obtain ⟨j,hj,ej⟩:=List.getElem_of_mem hm
        have e1:(T.map (·.1))[i]?=some P:=by rw [List.getElem?_map,List.getElem?_eq_getElem hi,ei,← hb];rfl
        have e2:(T.map (·.1))[j]?=some P:=by rw [List.getElem?_map,List.getElem?_eq_getElem hj,ej];rfl
        obtain ⟨a1,a2⟩:=List.getElem?_eq_some_iff.mp e1
        obtain ⟨b1,b2⟩:=List.getElem?_eq_some_iff.mp e2
        have hij:i=j:=(List.getElem_inj nd).mp (a2.trans b2.symm)
        subst hij
        rw [← ei,← ej]
      rw [this];exact t2
    · rcases t u hu with e | ⟨c,e1,e2⟩
      · exact .inl (k1 _ _ e hb)
      · exact .inr ⟨c,k1 _ _ e1 hb,k1 _ _ e2 fun z=>by rw [z,hP] at e2;cases e2⟩
  · subst z
    rw [hP] at e;cases e
    exact n ps0 rfl
  · by_cases hb:b=P
    · rw [hb];exact hP2
    · exact ⟨ps,k1 _ _ e hb⟩
section
variable {X:Cx}
theorem o9:∀ ns ms:List Int,PyData.eqvAll (ns.map PyData.int) (ms.map PyData.int)=decide (ns=ms)
  | [],[]=>by simp [PyData.eqvAll]
  | [],_ :: _=>by simp [PyData.eqvAll]
  | _ :: _,[]=>by simp [PyData.eqvAll]
  | n :: ns,m :: ms=>by
    rw [List.map_cons,List.map_cons,PyData.eqvAll,o9 ns ms]
    have e:PyData.eqv (.int n) (.int m)=decide (n=m):=by
      rw [PyData.eqv];rfl
    rw [e,Bool.eq_iff_iff]
    simp
theorem xO (ns ms:List Int):PyData.eqv (mG ns) (mG ms)=decide (ns=ms):=by
  unfold mG
  rw [PyData.eqv];exact o9 ns ms
theorem Lq (hu:X.A.units + 64<cLine):OpR X (compareOp .Eq) (aaj X.K false):=by
  intro pins s σ H x y v u Q I rx ry h
  obtain ⟨a,b,ns,ms,rfl,rfl,ha,hb,q⟩:=h
  refine Wg hu pins s σ H _ _ v u Q I rx ry ⟨_,_,Den.ints ha,Den.ints hb,(Sh.ints 0 ns).ok (by decide),(Sh.ints 0 ms).ok (by decide),?_⟩
  rw [xO];exact q
theorem Lp (hu:X.A.units + 64<cLine):OpR X (compareOp .NotEq) (aaj X.K true):=by
  intro pins s σ H x y v u Q I rx ry h
  obtain ⟨a,b,ns,ms,rfl,rfl,ha,hb,q⟩:=h
  refine Wd hu pins s σ H _ _ v u Q I rx ry ⟨_,_,Den.ints ha,Den.ints hb,(Sh.ints 0 ns).ok (by decide),(Sh.ints 0 ms).ok (by decide),?_⟩
  rw [xO];exact q
def V5 (K:PySem.W.Frag):V→List V→Hp→VK→Prop:=fun x vs H Q=>∃ (l:Addr) (ns:List Int) (k:Int),x=.ref l∧vs=[.int k]∧SqL K H l (ns.map V.int)∧k∈ns∧Q (.int (ns.idxOf k:Nat)) H
theorem Kq:MtR X "list.index" (V5 X.K):=by
  intro pins s σ H x vs v us Q I rx rv h
  obtain ⟨l,ns,k,rfl,rfl,hq,hk,q⟩:=h
  cases rx
  obtain ⟨u,rfl,t,rfl⟩:=vals1 rv
  obtain ⟨its,r1,p1,hz⟩:=I.list hq
  have hi:IntsAre its ns:=intsAre_of r1
  obtain ⟨⟨cls,dd,data,sl⟩,ho,hc,n,hd⟩:=id p1.isList
  simp only at hc hd
  subst hc hd
  have hlen:=hi.length
  have hj:ns.idxOf k<ns.length:=List.idxOf_lt_length_iff.mpr hk
  have hn:=nG
  rw [List.length_map] at hz
  refine call_meets PySem.F.slot_list_index ⟨_,ho,rfl⟩ PySem.F.entry_list_index (PySem.F.args_list_index_2 _ _)
    (SeqAt.list_indexAt l its.toArray n dd sl (.int k t) (isInt k) (ns.idxOf k) (by simpa [hlen] using hj) (by omega) ?_ ?_) ⟨ho,fun y hy=>(eq_isInt k t hi y (by simpa using hy)).at _ _,?_⟩
  · show isInt k its[ns.idxOf k]=true
    rw [isInt_at k hi _ (by omega) hj]
    simpa using List.getElem_idxOf hj
  · intro j hjs hlt
    show isInt k its[j]=false
    rw [isInt_at k hi j (by simpa using hjs) (by omega)]
    exact ne_of_lt_idxOf hlt _
  · exact ⟨.int (ns.idxOf k:Nat),H,I.tok _,⟨_,rfl⟩,q⟩
end
section
variable {T:eH} {H0 H:Hp} {L:List (Addr × HO)} {l:Addr} {xs:List V}
theorem Ow.mkE {a:Addr} {o:HO} {H':Hp} (O:Ow T H0 H L) (h:H a=none) (e:upd H a o=H') (ho:jQ o=true):Ow T H0 H' ((a,o) :: L):=e ▸ O.mk' h ho
theorem Ow.sI {a:Addr} {o o':HO} {H':Hp} (O:Ow T H0 H L) (k:Nat) (h:L[k]?=some (a,o)) (e:upd H a o'=H') (ho:jQ o'=true):Ow T H0 H' (L.set k (a,o')):=e ▸ O.Vu k h ho
end
end L2
namespace L2
open PySem PySem.W PySem.Spec PySem.Calls PyProof.Rows PySem.Builtin PySem.Builtin.ObjectAttr PySem.Builtin.Getset_descriptor
section
variable {prog:Program} {w:World} {A:Around} {E:Value→Shared→Prop} {K:Frag} {e D:Addr} {hh:Heap} {g:Array GenState} {d:Drawn} {t:Nat} {os:OsState}
structure XCls (K:Frag) (D:Addr):Prop where
  ga:findIn K (.ref D) "__getattribute__"=some (some (.builtin "BaseException.__getattribute__"))
  gt:findIn K (.ref D) "__getattr__"=some none
  at_:findIn K (.ref D) "__class__"=some (some (.builtin "object.__class__"))
  sp:specialIn K (.builtin "object.__class__") "__get__"=some (some (.builtin "getset_descriptor.__get__"))
  tk:takesIn K (.builtin "object.__class__")=some true
  mo:mroIn K D (.type "object")=some true
  mb:mroIn K D (.type "BaseException")=some true
  cl:(clsIn K D).isSome=true
end
end L2
namespace L2
open PySem PySem.W PySem.Spec PySem.Calls PyProof.Rows
theorem eO.obj {P:Program} {w:World} {H:Hp} {h:Heap} {a:Addr} {o:HO} (x:eO P w H h a o):∃ ob,h.get? a=some ob:=by
  cases o with
  | lst xs=>obtain ⟨_,_,_,_,e⟩:=x;exact ⟨_,e⟩
  | tup xs=>obtain ⟨_,_,_,o,e,_⟩:=x;exact ⟨_,e⟩
  | dK kvs=>obtain ⟨_,_,_,_,o,_,_,e,_⟩:=x;exact ⟨_,e⟩
  | dT kvs=>obtain ⟨_,_,_,_,o,_,_,e,_⟩:=x;exact ⟨_,e⟩
  | set S n=>obtain ⟨o,_,_,_,e,_⟩:=x;exact ⟨_,e⟩
  | ins C dx fs=>obtain ⟨_,_,_,e,_⟩:=x;exact ⟨_,e⟩
  | own y=>exact x
  | xd fs=>obtain ⟨_,⟨_,_,_,e,_⟩,_⟩:=x;exact ⟨_,e⟩
  | rng lo hi=>obtain ⟨_,_,_,e⟩:=x;exact ⟨_,e⟩
  | frz ob u=>obtain ⟨e,_⟩:=x;exact ⟨_,e⟩
  | tbl ps=>exact ⟨_,x⟩
  | met f y=>exact ⟨_,x⟩
  | ext φ=>obtain ⟨_,e,_⟩:=x;exact e
structure Fly (P:Program) (w:World) (B:Heap) (fs:List Addr) (H:Hp) (h0:Heap) (H':Hp) (h:Heap):Prop where
  un:Un fs [] H H' h0 h
  hok:HOk P w H' h
  old:∀ b o,h0.get? b=some o→b ∉ fs→∃ o',B.get? b=some o'∧(H b=none→o'=o)
  trk:∀ b u,H' b=some u→∃ o,h.get? b=some o∧B.get? b=some o
section
variable {P:Program} {w:World} {B h0 h h2:Heap} {fs:List Addr} {H H':Hp}
theorem Fly.on (x:Fly P w B fs H h0 H' h) (sb:B.StaysIn h2) (sm:∀ b∈fs,∀ o,h.get? b=some o→∃ sl,h2.get? b=some { o with slots:=sl }):Fly P w B fs H h0 H' h2:=by
  have kp:∀ b o,h0.get? b=some o→H b=none→b ∉ fs→h2.get? b=some o:=fun b o q n hb=>by
    obtain ⟨o',e,k⟩:=x.old b o q hb
    rw [← k n];exact sb b o' e
  have sl:∀ b o,h0.get? b=some o→H b=none→b∈fs→∃ s,h2.get? b=some { o with slots:=s }:=fun b o q n hb=>by
    obtain ⟨s1,e1⟩:=x.un.slot b o q n hb (by simp)
    obtain ⟨s2,e2⟩:=sm b hb _ e1
    exact ⟨s2,e2⟩
  refine ⟨⟨fun b o q n hb _=>kp b o q n hb,fun b o q n hb _=>sl b o q n hb,x.un.free,fun b o q _=>?_,x.un.tups,x.un.frzs,x.un.tbls⟩,fun a u e=>?_,x.old,fun b u e=>?_⟩
  · by_cases hb:b∈fs
    · obtain ⟨o1,e1⟩:=x.un.there b o q (by simp)
      obtain ⟨s2,e2⟩:=sm b hb _ e1
      exact ⟨_,e2⟩
    · obtain ⟨o',e,_⟩:=x.old b o q hb
      exact ⟨o',sb b o' e⟩
  · refine (x.hok a u e).stay (fun b v hb q=>?_) (fun _ q=>q) fun _ _ q=>q
    have tr:∃ u',H' b=some u':=by
      rcases hb with z | z
      · exact ⟨u,by rw [z];exact e⟩
      · exact ⟨_,z⟩
    obtain ⟨u',e'⟩:=tr
    obtain ⟨o,e1,e2⟩:=x.trk b u' e'
    rw [q] at e1;cases e1
    exact sb b v e2
  · obtain ⟨o,e1,e2⟩:=x.trk b u e
    exact ⟨o,sb b o e2,e2⟩
end
def CXE (P:Program) (w:World):CXT:=fun outer H s E e s'=>∃ (ea t C:Addr) (B:Heap) (H':Hp),e=.ref ea∧s'.os=s.os∧AllBare s'.gens∧Fly P w B (frs outer) H s.heap H' s'.heap∧Heap.FlyingW B outer ea (.ref C) (.ref t) s'.heap ∧
  s.heap.get? ea=none∧H' ea=none∧E (.ref C) (some ea) H'
theorem rO {env:Env} {l:List Env} {L:Addr} (hf:env.frame=some L):frs (env :: l)=L :: frs l:=by unfold frs;rw [List.filterMap_cons,hf]
theorem WL {l:List Env}:∀ env∈l,∀ b,env.frame=some b→b∈frs l:=fun env he b hb=>List.mem_filterMap.mpr ⟨env,he,hb⟩
section
variable {X:Cx} {pins:List (Addr × Obj)} {σ:St} {H:Hp} {s:Shared} {E:XK}
structure Body (X:Cx):Prop where
  st:X.stack=X.env :: X.outer
  fr:X.env.frame=some X.env.locals
  ex:X.ex=[]
theorem Inv.vI (I:Inv X pins σ H s) (hB:Body X) {b:Addr} {o:Obj} (e:X.s₀.heap.get? b=some o) (hb:b ∉ frs X.outer):b ∉ frs X.stack:=by
  rw [hB.st,rO hB.fr]
  intro hm
  rcases List.mem_cons.mp hm with z | z
  · exact absurd (Heap.lt_size e) (by rw [z];exact Nat.not_lt.mpr I.ok.above)
  · exact hb z
theorem tU {e C:Addr} {args:List Value} {h':Heap} {F:Value→Shared→Prop} (hB:Body X) (I:Inv X pins σ H s) (hm:Heap.MadeExcOf s.heap h' e (.ref C) args) (hE:H e=none→E (.ref C) (some e) H) :
    wpAny (model X.prog X.w) X.A (leaving X.env (.ref e)) (fun _ s''=>CXE X.prog X.w X.outer X.H₀ X.s₀ E (.ref e) s'') F { s with heap:=h' }:=by
  have hfr:X.A.frames=some (X.env :: X.outer):=by rw [← hB.st];exact I.ok.frames
  have stk:=I.stack
  have hl:s.heap.FunFrames (hideAll s.heap (frs X.stack)) (X.env :: X.outer):=by
    have:=funFrames_hide stk WL
    rw [hB.st] at this ⊢;exact this
  have hne:∀ b o,s.heap.get? b=some o→b ∉ frs X.stack→(hideAll s.heap (frs X.stack)).get? b=some o:=fun b o q n=>hideAll_get _ q n
  have htr:∀ b u,H b=some u→∃ o,s.heap.get? b=some o∧(hideAll s.heap (frs X.stack)).get? b=some o:=fun b u q=>by
    obtain ⟨o,eo⟩:=(I.hok b u q).obj
    exact ⟨o,eo,hne b o eo fun z=>by rw [I.qN b z] at q;cases q⟩
  have hnx:∀ b:Addr,b ∉ X.ex:=fun b=>by rw [hB.ex];simp
  refine wpAny_leaves_madeW (base:=hideAll s.heap (frs X.stack)) (h:=s.heap) hfr hB.fr (fun b o q=>of_hideAll _ q) hl hm fun h2 t fl _ _ sm=>?_
  have F0:Fly X.prog X.w (hideAll s.heap (frs X.stack)) (frs X.outer) X.H₀ X.s₀.heap H s.heap:=by
    refine ⟨?_,I.hok,fun b o q n=>?_,htr⟩
    · have u:=I.base
      rw [hB.ex] at u
      exact u
    · obtain ⟨o',e'⟩:=I.base.there b o q (hnx b)
      refine ⟨o',hne b o' e' (I.vI hB q n),fun z=>?_⟩
      have:=I.base.keep b o q z n (hnx b)
      rw [e'] at this;exact Option.some.inj this
  have F1:=F0.on (h2:=h2) fl.1 fun b hb o q=>by
    have hb':b∈frs X.stack:=by rw [hB.st,rO hB.fr];exact List.mem_cons_of_mem _ hb
    obtain ⟨_,o',e',d⟩:=stk.mem hb'
    rw [q] at e';cases e'
    exact sm b o (hm.keeps b o q) d
  have he0:H e=none:=by
    cases q:H e with
    | none=>rfl
    | some u =>
      obtain ⟨o,eo⟩:=(I.hok e u q).obj
      rw [hm.new] at eo;cases eo
  refine ⟨e,t,C,_,H,rfl,I.os,I.bare,F1,fl,?_,he0,hE he0⟩
  · cases q:X.s₀.heap.get? e with
    | none=>rfl
    | some o =>
      obtain ⟨o',e'⟩:=I.base.there e o q (hnx e)
      rw [hm.new] at e';cases e'
theorem vQ {e:Value} {s':Shared} {F:Value→Shared→Prop} (hB:Body X) (I:Inv X pins σ H s) (h:CXE X.prog X.w X.stack H s E e s') :
    wpAny (model X.prog X.w) X.A (leaving X.env e) (fun _ s''=>CXE X.prog X.w X.outer X.H₀ X.s₀ E e s'') F s':=by
  obtain ⟨ea,t,C,B,H',rfl,os,bare,fl,fy,new,nh,hE⟩:=h
  have hfr:X.A.frames=some (X.env :: X.outer):=by rw [← hB.st];exact I.ok.frames
  have hnx:∀ b:Addr,b ∉ X.ex:=fun b=>by rw [hB.ex];simp
  rw [hB.st] at fy
  refine wpAny_leaves_onW hfr hB.fr fy fun h2 fy2 sm=>?_
  have sub:∀ b,b∈frs X.outer→b∈frs X.stack:=fun b hb=>by rw [hB.st,rO hB.fr];exact List.mem_cons_of_mem _ hb
  have F0:Fly X.prog X.w B (frs X.outer) X.H₀ X.s₀.heap H' s'.heap:=by
    refine ⟨⟨fun b o q n hb _=>?_,fun b o q n hb _=>?_,fun b o q n _=>?_,fun b o q _=>?_,fun b xs q=>fl.un.tups b xs (I.base.tups b xs q),fun b o u q=>fl.un.frzs b o u (I.base.frzs b o u q),fun b ps q=>?_⟩,fl.hok,fun b o q n=>?_,fl.trk⟩
    · have e1:=I.base.keep b o q n hb (hnx b)
      exact fl.un.keep b o e1 (I.base.free b o q n (hnx b)) (I.vI hB q hb) (by simp)
    · obtain ⟨s1,e1⟩:=I.base.slot b o q n hb (hnx b)
      obtain ⟨s2,e2⟩:=fl.un.slot b _ e1 (I.base.free b o q n (hnx b)) (sub b hb) (by simp)
      exact ⟨s2,e2⟩
    · obtain ⟨o',e'⟩:=I.base.there b o q (hnx b)
      exact fl.un.free b o' e' (I.base.free b o q n (hnx b)) (by simp)
    · obtain ⟨o',e'⟩:=I.base.there b o q (hnx b)
      exact fl.un.there b o' e' (by simp)
    · obtain ⟨m1,e1⟩:=I.base.tbls b ps q
      obtain ⟨m2,e2⟩:=fl.un.tbls b _ e1
      exact ⟨m1++m2,by rw [e2,Array.append_assoc]⟩
    · obtain ⟨o',e'⟩:=I.base.there b o q (hnx b)
      obtain ⟨o2,e2,k⟩:=fl.old b o' e' (I.vI hB q n)
      refine ⟨o2,e2,fun z=>?_⟩
      rw [k (I.base.free b o q z (hnx b))]
      have:=I.base.keep b o q z n (hnx b)
      rw [e'] at this;exact Option.some.inj this
  have F1:=F0.on (h2:=h2) fy2.1 fun b hb o q=>by
    obtain ⟨_,o',e',d⟩:=fy.2.2.1.mem (by rw [hB.st] at sub;exact sub b hb)
    rw [q] at e';cases e'
    exact sm b o q d
  refine ⟨ea,t,C,B,H',rfl,os.trans I.os,bare,F1,fy2,?_,nh,hE⟩
  cases q:X.s₀.heap.get? ea with
  | none=>rfl
  | some o =>
    obtain ⟨o',e'⟩:=I.base.there ea o q (hnx ea)
    rw [new] at e';cases e'
end
section
variable {P:Program} {w:World} {K:PySem.W.Frag} {mg:Str→Option Value} {base:Heap} {N:List Str} {qual:Str} {scope:Scope} {f:Addr} {cd:Value} {A:Around} {outer:List Env} {s:Shared} {H:Hp} {E:XK}
theorem rY {CX:CXT}:Body (Jd CX P w K mg base N qual scope f cd A outer s H E):=⟨rfl,rfl,rfl⟩
theorem ZC:Passes (CXE P w) (Jd (CXE P w) P w K mg base N qual scope f cd A outer s H E) E:=fun _ _ _ _ _ _ I h=>vQ rY I h
theorem Fun.okX {x:Str} {st:Stmt} {fd:FuncData} {ps:List Str} {k:Nat} {sp:Sp} (F:Fun K x qual st f fd) (S:aH N ps (ao st)) (len:∀ vs H Q E,sp vs H Q E→vs.length=ps.length)
    (hbody:∀ (cdv:Value) (A:Around) (outer:List Env) (s:Shared) (H:Hp) (vs:List V) (Q:VK) (E:XK),lQ k (A.deeper (envOfC qual (ao st) s.heap.objs.size f cdv))→sp vs H Q E →
      ∃ t,PSs (Jd (CXE P w) P w K mg base N qual (ao st) f cdv A outer s H E) (aq st) t∧t { nx:=fun _ H'=>Q .non H',rt:=Q } (start N vs) H):bN P w K mg base (CXE P w) (k + 1) f fd ps sp:=by
  obtain ⟨oc,od,kV,doc,pm,an,cdv,ct,osl,rfl,lk,hcd⟩:=F.ex
  exact K3 lk hcd S len fun A outer s H vs Q E hr hsp=>hbody cdv A outer s H vs Q E hr hsp
end
end L2
namespace L2
open PySem PySem.W PySem.Spec PySem.Calls PyProof.Rows
abbrev Vm:List Value:=[.type "ValueError",.type "Exception",.type "BaseException",.type "object"]
theorem Vf {K:Frag} {h:Heap} {C:Addr} (X:K.In h) (q:excIn K C Vm "ValueError.__new__"=true) :
    ∃ bm N nm qn bs hdct sn sub ab col dd k0 k1 k2 k3 k5 mN,h.get? C=some (excClassObj nm qn C N bs bm hdct sn sub ab col dd k0 k1 k2 k3 k5 "ValueError.__new__")∧h.Ns N mN∧mN "__init__"=none∧OwnTail h Vm bm:=by
  unfold excIn at q
  split at q
  · rename_i d1 c1 s1 look
    split at q
    · rename_i C1 bm1 a0 a1 a2 a3 n1 a5 m1 l1
      simp only [Bool.and_eq_true,beq_iff_eq,Bool.not_eq_true'] at q
      obtain ⟨⟨⟨⟨⟨e1,e2⟩,e3⟩,e4⟩,e5⟩,e6⟩:=q
      subst e1 e2
      obtain ⟨nm,bs,mro,ns,qn,hd,sn,sub,ab,col,del⟩:=c1
      dsimp only at m1 e3 e5 e6
      subst m1 e3
      have es:s1=#[a0,a1,a2,a3,some (.builtin "ValueError.__new__"),a5]:=by cases s1;simp only at l1;rw [l1]
      subst es
      exact ⟨bm1,ns,nm,qn,bs,hd,sn,sub,ab,col,d1,a0,a1,a2,a3,a5,_,X _ _ look,Heap.Ns.of_isNs (isNs_of_in X e5),nsMap_none_of_in X e5 e6,tail_of_in X e4⟩
    · cases q
  · cases q
def VG (E:XK) (C:Addr) (ta:TA):TS:=fun _ σ H=>ta σ H fun vs H1=>vs.length≤sizeLine∧∀ e,H1 e=none→E (.ref C) (some e) H1
section
variable {X:Cx} {E:XK} {x:Str} {C:Addr} {np cpos pos:Pos} {e0:Expr} {ta:TA}
theorem rm (hB:Body X) (hc:X.calm=true) (hx:∀ e s',wpAny (model X.prog X.w) X.A (leaving X.env e) (fun _ s''=>CXE X.prog X.w X.outer X.H₀ X.s₀ E e s'') (fun e s''=>CXE X.prog X.w X.outer X.H₀ X.s₀ E e s'') s'→X.xe e s')
    (hg:Gl X x) (hm:X.mg x=some (.ref C)) (hq:excIn X.K C Vm "ValueError.__new__"=true) (ha:PA X [e0] ta) (he:starEach [e0] X.env=[(false,eval e0 X.env)]:=by rfl) (hd:(x == ("__debug__":Str))=false:=by decide) :
    PS X (.Raise (some (.Call (.Name x np) [e0] [] cpos)) none pos) (VG E C ta):=by
  intro pins s σ H D I h
  obtain ⟨bm,Nn,nm,qn,bs,hdct,sn,sub,ab,col,dd,k0,k1,k2,k3,k5,mN,hC,hN,hni,TL⟩:=Vf I.ok.mod.kin hq
  refine wpAny_Raise_call_subU (C:=C) (nm:=nm) (q:=qn) (N:=Nn) (bs:=bs) (bm:=bm) (hdct:=hdct) (sn:=sn) (sub:=sub) (ab:=ab) (col:=col) (dd:=dd) (k0:=k0) (k1:=k1) (k2:=k2) (k3:=k3) (k5:=k5) (mN:=mN) (newId:="ValueError.__new__")
    PySem.F.excBase_ValueError PySem.F.excBase_ValueError.hasB PySem.F.excBase_ValueError (TL.hasType PySem.F.excBase_ValueError.hasBase) (I.ok.hd hc) (by rw [he];rfl) hni ?_
  refine rG I hg hm ⟨rfl,?_⟩ hd
  have a:=ha cpos pins s σ H _ I h
  rw [he] at a ⊢
  refine Calls.evalArgs_plain (wpAny_mono a (fun us s1 ⟨vs,H1,I1,r1,hz,q1⟩=>?_) fun _ _ z=>z)
  exact ⟨rfl,by show us.length≤_;rw [← r1.length];exact hz,I1.bk _ _ hC,hN.keeps I1.bk,TL.keeps I1.bk,fun h' e mk=>hx _ _ (tU hB I1 mk (q1 e))⟩
end
end L2
namespace L2
open PySem PySem.W PySem.Spec PySem.Calls PyProof.Rows
abbrev TX:=Ends→(St→XK)→St→Hp→Prop
end L2
namespace L2
open PySem PySem.W PySem.Spec PySem.Calls PyProof.Rows
theorem Zz {X:Cx}:Passes (CXE X.prog X.w) X E0:=fun _ _ _ _ _ _ _ h=>by
  obtain ⟨_,_,_,_,_,_,_,_,_,_,_,_,hE⟩:=h
  exact hE.elim
structure Vz (K:PySem.W.Frag) (mg:Str→Option Value) (x:Str) (C:Addr):Prop where
  m:mg x=some (.ref C)
  q:excIn K C Vm "ValueError.__new__"=true
  x:XCls K C
end L2
namespace L2
open PySem PySem.Spec PyProof.Rows
section
variable {X:Cx}
theorem yc {n:Nat} {acc:Array Value} (hacc:ItemsOf (fun i v=>∃ t,v=.int (0 + (i:Nat) * 1) t) acc n):Vals (gK n) acc.toList:=by
  have hsz:acc.toList.length=n:=by rw [Array.length_toList];exact hacc.1
  have key:∀ (k:Nat) (l:List Value),l.length=k→(∀ (j:Nat) (v:Value),l[j]?=some v→∃ t,v=.int ((n - k + j:Nat):Int) t)→k≤n→Vals ((List.range' (n - k) k).map fun (i:Nat)=>V.int (i:Int)) l:=by
    intro k
    induction k with
    | zero =>
      intro l hl _ _
      have:l=[]:=List.length_eq_zero_iff.mp hl
      subst this
      exact .nil
    | succ k ih =>
      intro l hl hP hk
      match l,hl with
      | v :: l,hl =>
        have hl':l.length=k:=by simpa using hl
        rw [List.range'_succ,List.map_cons]
        obtain ⟨t,ht⟩:=hP 0 v rfl
        refine .cons ⟨t,?_⟩ ?_
        · rw [ht];rfl
        · have e:n - (k + 1) + 1=n - k:=by omega
          rw [e]
          refine ih l hl' (fun j v' e'=>?_) (by omega)
          obtain ⟨t',ht'⟩:=hP (j + 1) v' (by simpa using e')
          exact ⟨t',by rw [ht'];congr 2;omega⟩
  have:=key n acc.toList hsz (fun j v e=>by
    obtain ⟨t,ht⟩:=hacc.2 j v (by simpa using e)
    refine ⟨t,?_⟩
    rw [ht]
    congr 1
    omega) (Nat.le_refl _)
  rw [Nat.sub_self,← List.range_eq_range'] at this
  exact this
def yp (ta:TA):TE:=fun σ H Q=>ta σ H fun vs H1=>∃ n:Nat,vs=[.int (n:Int)]∧n<64∧∀ l,H1 l=none→Q (.ref l) (upd H1 l (.lst (gK n)))
theorem tY {e:Expr} {ta:TA} {p1 p2 p3 pos:Pos} (hcalm:X.calm=true) (hgs:Gl X "list") (hms:X.mg "list"=none) (hgr:Gl X "range") (hmr:X.mg "range"=none) (ha:PA X [e] ta) (hs:starEach [e] X.env=[(false,eval e X.env)]:=by rfl) :
    PE X (.Call (.Name "list" p1) [.Call (.Name "range" p2) [e] [] p3] [] pos) (yp ta):=by
  intro pins s σ H Q I h
  refine Call_ (jA I hgs hms boot_list (PyProof.Rows.callWith_type1 ?_ rfl rfl))
  show wpAny _ _ (spliced ((false,eval (.Call (.Name "range" p2) [e] [] p3) X.env) :: [])) _ _ s
  refine Calls.spliced_cons (Call_ (jA I hgr hmr boot_range (PyProof.Rows.callWith_type1 (thn (ha p3 pins s σ H _ I h) fun us s1 ⟨vs,H1,I1,r1,q1⟩=>?_) hs rfl)))
  obtain ⟨n,e1,hn,q⟩:=q1
  subst e1
  obtain ⟨u,rfl,t,rfl⟩:=vals1 r1
  refine call_range_1 ?_
  refine Calls.spliced_nil ?_
  have hrs:Builtin.Range.rangeSize 0 (n:Int) 1=(n:Nat):=by rw [rangeSize_one];split <;> omega
  generalize hro:({ cls:=.type "range",data:=.fields #[.int 0 s1.toks,.int (n:Int) t,.int 1 (s1.toks + 1)] }:Obj)=ro
  have I2:Inv X pins σ H1 { s1 with heap:=s1.heap.push ro,toks:=s1.toks + 1 + 1 }:=I1.kept fun b o e=>Heap.get?_push_of_some _ e
  have hR:IsRange (s1.heap.push ro) s1.heap.objs.size 0 (n:Int) 1 s1.toks t (s1.toks + 1):=by
    rw [← hro];exact Heap.get?_push_size _ rfl
  refine call_list_range (I.ok.hd hcalm) hR (small_one (by omega) (by omega) (by omega) (by omega)) hrs (by omega) fun h' tk acc c hk hS hacc=>?_
  exact ⟨.ref (s1.heap.push ro).objs.size,_,I2.laid (t':=tk) hk (Nat.le_refl _) (show eO X.prog X.w _ h' _ (.lst (gK n)) from ⟨by unfold gK;rw [List.length_map,List.length_range,sizeLine_eq];omega,acc.toList,c,yc hacc,by simpa using hS⟩),rfl,q _ (I2.hok.fresh (Nat.le_refl _))⟩
theorem Inv.qK {pins:List (Addr × Obj)} {σ:St} {H:Hp} {s:Shared} {h':Heap} {t':Nat} {ch:List Addr} (I:Inv X pins σ H s) (k:∀ b o,b ∉ ch→s.heap.get? b=some o→h'.get? b=some o) (f:∀ b∈ch,uX X pins H b):Inv X pins σ H { s with heap:=h',toks:=t' }:=by
  have nit:∀ b u,H b=some u→b ∉ ch:=fun b u e z=>by rw [(f b z).1] at e;cases e
  refine I.step (g':=s.gens) (d':=s.drawn) (ch:=ch) (fun b hb=>?_) (fun b o _ _ hc e _=>k b o hc e) (fun b o _ _ hc e _=>⟨o.slots,k b o hc e⟩) (fun _ _ _ _ n=>n)
    (fun b o hc e=>⟨o,k b o hc e⟩) (fun _ _ e=>e) (fun _ _ _ e=>e) (fun b ps e=>⟨#[],by rw [e];simp⟩) (fun m hm=>?_) (fun b u e=>?_) I.bare
  · obtain ⟨f0,f1,f2,f3,f4,f5⟩:=f b hb
    exact ⟨f3,f1,f4,f5⟩
  · obtain ⟨o,es,ep,ho,r⟩:=hm
    exact ⟨o,es,ep,k _ o (fun z=>(f _ z).2.1 rfl) ho,r⟩
  · refine (I.hok b u e).stay (fun c v hc q=>k c v ?_ q) (fun _ q=>q) fun _ _ q=>q
    rcases hc with z | z
    · rw [z];exact nit b u e
    · exact nit c _ z
def Itz (K:PySem.W.Frag) (l1 l2:Addr) (xs ys:List V):It :=
  ⟨fun i H=>SqL K H l1 xs∧SqL K H l2 ys∧i<xs.length∧i<ys.length,fun i H x H'=>∃ T a b,x=.ref T∧H T=none∧xs[i]?=some a∧ys[i]?=some b∧H'=upd H T (.tup [a,b]),
   fun i H=>SqL K H l1 xs∧SqL K H l2 ys∧(xs.length≤i∨ys.length≤i)⟩
def Z9 (z TI TO i1 i2 l1 l2:Addr) (i:Nat) (h:Heap):Prop:=IsZip h z TI TO .none∧IsPair h TI (.ref i1) (.ref i2)∧(∃ a b,IsPair h TO a b)∧h.IsListIter i1 l1 i∧h.IsListIter i2 l2 i
theorem JH {P:Program} {w:World} {K:PySem.W.Frag} {elts:List Expr} {kk:Nat} {tpos:Pos} {z TI TO i1 i2 l1 l2:Addr} {xs ys:List V} (D:ZipApart z TI TO i1 i2 l1 l2) :
    Turn P w K (.Tuple elts kk tpos) (Itz K l1 l2 xs ys) [z,TI,TO,i1,i2] z (Z9 z TI TO i1 i2 l1 l2) where
  mem:=by simp
  obj:=fun i h st b hb=>by
    obtain ⟨hz,hTI,⟨a,b',hTO⟩,⟨o1,e1,c1,d1⟩,⟨o2,e2,c2,d2⟩⟩:=st
    simp at hb
    rcases hb with rfl | rfl | rfl | rfl | rfl
    · exact ⟨_,hz,fun v z=>by cases (show Data.fields _=Data.cell v from z)⟩
    · exact ⟨_,hTI,fun v z=>by cases (show Data.seq _ _=Data.cell v from z)⟩
    · exact ⟨_,hTO,fun v z=>by cases (show Data.seq _ _=Data.cell v from z)⟩
    · exact ⟨o1,e1,fun v z=>by rw [d1] at z;cases z⟩
    · exact ⟨o2,e2,fun v z=>by rw [d2] at z;cases z⟩
  keep:=fun i h h' st k=>by
    obtain ⟨hz,hTI,⟨a,b,hTO⟩,h1,h2⟩:=st
    exact ⟨k z (by simp) _ hz,k TI (by simp) _ hTI,⟨a,b,k TO (by simp) _ hTO⟩,h1.at fun o e=>k i1 (by simp) o e,h2.at fun o e=>k i2 (by simp) o e⟩
  item:=by
    intro X hP hw hK hc i pins s σ H E I hf st hg
    subst hP hw hK
    obtain ⟨hz,hTI,⟨p,p',hTO⟩,h1,h2⟩:=st
    obtain ⟨hq1,hq2,hi1,hi2⟩:=hg
    obtain ⟨its1,rv1,pl1,hz1⟩:=I.list hq1
    obtain ⟨its2,rv2,pl2,hz2⟩:=I.list hq2
    obtain ⟨u1,hu1,ru1⟩:=rv1.get (List.getElem?_eq_getElem hi1)
    obtain ⟨u2,hu2,ru2⟩:=rv2.get (List.getElem?_eq_getElem hi2)
    refine wpAny_pyNext_zip_item D hz hTI hTO h1 h2 pl1.isList pl2.isList (x:=u1) (y:=u2) (by simpa using hu1) (by simpa using hu2) fun h' a1 a2 a3 a4 a5 a6 hk=>?_
    have lt:∀ {c o},s.heap.get? c=some o→s.heap.objs.size≠c:=fun e=>Nat.ne_of_gt (Heap.lt_size e)
    refine ⟨.ref s.heap.objs.size,rfl,wpAny_letOwnedTupleGo_zip (s:={ s with heap:=h' }) a1 fun h'' hz' hs'=>?_⟩
    have Tz:s.heap.objs.size≠z:=lt hz
    have sub:∀ b∈([z,TO,i1,i2]:List Addr),b∈([z,TI,TO,i1,i2]:List Addr):=fun b hb=>by
      simp at hb ⊢
      rcases hb with rfl | rfl | rfl | rfl <;> simp
    have I1:Inv X pins σ H { s with heap:=h'' }:=I.qK (t':=s.toks) (ch:=[z,TO,i1,i2])
      (fun b o hb e=>hs'.extBut b o (fun x=>hb (by simp [x])) (hk b o (fun x=>hb (by simp [x])) (fun x=>hb (by simp [x])) (fun x=>hb (by simp [x])) (fun x=>hb (by simp [x])) e)) fun b hb=>hf b (sub b hb)
    have F:=I.yI (H':=H) (Nat.le_refl _) (I.hok.fresh (Nat.le_refl _))
    obtain ⟨F0,F1,F2,F3,F4,F5⟩:=F
    have hT:IsTup h'' s.heap.objs.size #[u1,u2]:=⟨_,hs'.extBut _ _ Tz a5,rfl,_,rfl⟩
    have I2:Inv X pins σ (upd H s.heap.objs.size (.tup [xs[i],ys[i]])) { s with heap:=h'' }:=I1.adopt F0 F1 I.sz F4 F5 (show eO X.prog X.w _ h'' _ (.tup [xs[i],ys[i]]) from ⟨by rw [sizeLine_eq];simp,[u1,u2],.cons ru1 (.cons ru2 .nil),hT⟩)
    refine ⟨.ref s.heap.objs.size,_,I2,rfl,⟨_,_,_,rfl,F0,List.getElem?_eq_getElem hi1,List.getElem?_eq_getElem hi2,rfl⟩,?_,fun b hb=>?_⟩
    · exact ⟨hz',hs'.extBut _ _ D.TIz (hk _ _ D.TIz D.TITO D.TIi1 D.TIi2 hTI),⟨_,_,hs'.extBut _ _ D.TOz a2⟩,a3.extBut hs'.extBut D.i1z,a4.extBut hs'.extBut D.i2z⟩
    · rw [aN]
      · exact (hf b hb).1
      · simp at hb
        obtain ⟨o1,e1,_⟩:=h1
        obtain ⟨o2,e2,_⟩:=h2
        rcases hb with rfl | rfl | rfl | rfl | rfl
        · exact (lt hz).symm
        · exact (lt hTI).symm
        · exact (lt hTO).symm
        · exact (lt e1).symm
        · exact (lt e2).symm
  done:=by
    intro X hP hw hK hc i pins s σ H E I hf st hg
    subst hP hw hK
    obtain ⟨hz,hTI,⟨p,p',hTO⟩,h1,h2⟩:=st
    obtain ⟨hq1,hq2,hend⟩:=hg
    obtain ⟨its1,rv1,pl1,hz1⟩:=I.list hq1
    obtain ⟨its2,rv2,pl2,hz2⟩:=I.list hq2
    have e1:=rv1.length
    have e2:=rv2.length
    have sub:∀ b∈([z,TO,i1,i2]:List Addr),b∈([z,TI,TO,i1,i2]:List Addr):=fun b hb=>by
      simp at hb ⊢
      rcases hb with rfl | rfl | rfl | rfl <;> simp
    refine wpAny_pyNext_zip_end (I.ok.hd hc) D hz hTI hTO h1 h2 pl1.isList pl2.isList ?_ fun h' hk=>⟨rfl,I.qK (t':=s.toks) (ch:=[z,TO,i1,i2])
      (fun b o hb e=>hk b o (fun x=>hb (by simp [x])) (fun x=>hb (by simp [x])) (fun x=>hb (by simp [x])) (fun x=>hb (by simp [x])) e) fun b hb=>hf b (sub b hb)⟩
    rcases hend with h | h
    · exact .inl (by simp;omega)
    · exact .inr (by simp;omega)
  self:=fun _ _ _ _ _ st h=>wpAny_pyIter_zip st.1 h
def iZip (K:PySem.W.Frag) (ta:TA):TI:=fun σ H R=>ta σ H fun vs H1=>∃ l1 l2 xs ys,vs=[.ref l1,.ref l2]∧SqL K H1 l1 xs∧SqL K H1 l2 ys∧R (Itz K l1 l2 xs ys) H1
theorem Ag {elts:List Expr} {kk:Nat} {tpos:Pos} {a b:Expr} {ta:TA} {p pos:Pos} (hg:Gl X "zip") (hm:X.mg "zip"=none) (ha:PA X [a,b] ta) (hs:starEach [a,b] X.env=[(false,eval a X.env),(false,eval b X.env)]:=by rfl) (hs2:starEach [b] X.env=[(false,eval b X.env)]:=by rfl) :
    PI X (.Tuple elts kk tpos) (.Call (.Name "zip" p) [a,b] [] pos) (iZip X.K ta):=by
  intro pins s σ H R I h
  refine Call_ (jA I hg hm boot_zip (PyProof.Rows.callWith_type1 (thn (ha pos pins s σ H _ I h) fun us s1 ⟨vs,H1,I1,r1,q1⟩=>?_) (by rw [hs,hs2]) (by rw [hs2];rfl)))
  obtain ⟨l1,l2,xs,ys,e,hq1,hq2,q⟩:=q1
  subst e
  cases r1 with
  | cons r rr =>
    cases rr with
    | cons r' rr =>
      cases rr
      cases r
      cases r'
      obtain ⟨its1,rv1,pl1,hz1⟩:=I1.list hq1
      obtain ⟨its2,rv2,pl2,hz2⟩:=I1.list hq2
      refine call_zip_2 pl1.isList pl2.isList fun h' a1 a2 a3 a4 a5 a6 hk=>?_
      refine wpAny_pyIter_zip a1 ?_
      have b1:l1<s1.heap.objs.size:=by obtain ⟨o,e,_⟩:=pl1.isList;exact Heap.lt_size e
      have b2:l2<s1.heap.objs.size:=by obtain ⟨o,e,_⟩:=pl2.isList;exact Heap.lt_size e
      refine ⟨_,_,_,_,H1,rfl,I1.kept (t':=s1.toks) hk,JH (l1:=l1) (l2:=l2) (xs:=xs) (ys:=ys) (TI:=s1.heap.objs.size + 2) (TO:=s1.heap.objs.size + 3) (i1:=s1.heap.objs.size) (i2:=s1.heap.objs.size + 1) ?_,⟨a1,a2,⟨_,_,a3⟩,a4,a5⟩,fun b hb=>?_,q⟩
      · constructor <;> exact fun z=>by simp only [Addr] at z b1 b2;omega
      · have hb':s1.heap.objs.size≤b:=by
          simp at hb
          rcases hb with rfl | rfl | rfl | rfl | rfl <;> simp
        exact I1.yI hb' (I1.hok.fresh hb')
theorem Ve {K:PySem.W.Frag} {l1 l2:Addr} {xs ys:List V} {g:TG} {tb:TS} {D:Ends} {σ:St} {H:Hp} (Pv:Nat→St→Hp→Prop) (hxy:xs.length=ys.length) (h0:Pv 0 σ H) (hl:∀ i σ H,i≤xs.length→Pv i σ H→SqL K H l1 xs∧SqL K H l2 ys)
    (hs:∀ i a b T σ H,xs[i]?=some a→ys[i]?=some b→Pv i σ H→H T=none→g (.ref T) σ (upd H T (.tup [a,b])) fun σ2 H2=>tb { D with nx:=Pv (i + 1),ct:=Pv (i + 1),bk:=D.nx } σ2 H2) (hd:∀ σ H,Pv xs.length σ H→D.nx σ H) :
    ∃ W:Nat→Nat→St→Hp→Prop,(∃ m,W 0 m σ H)∧∀ i m σ H,W i m σ H →
      ((Itz K l1 l2 xs ys).stop i H∧D.nx σ H)∨((Itz K l1 l2 xs ys).go i H∧∃ N:St→Hp→Prop,(∀ σ' H',N σ' H'→∃ m',m'<m∧W (i + 1) m' σ' H')∧∀ x H',(Itz K l1 l2 xs ys).yld i H x H'→g x σ H' fun σ2 H2=>tb { D with nx:=N,ct:=N,bk:=D.nx } σ2 H2):=by
  refine ⟨fun i m σ H=>m=xs.length - i∧i≤xs.length∧Pv i σ H,⟨xs.length,by simp,Nat.zero_le _,h0⟩,?_⟩
  rintro i m σ H ⟨rfl,hi,p⟩
  obtain ⟨q1,q2⟩:=hl i σ H hi p
  by_cases hlt:i<xs.length
  · refine .inr ⟨⟨q1,q2,hlt,by omega⟩,Pv (i + 1),fun σ' H' p'=>⟨xs.length - (i + 1),by omega,rfl,hlt,p'⟩,fun x H' y=>?_⟩
    obtain ⟨T,a,b,rfl,hT,ha,hb,rfl⟩:=y
    exact hs i a b T σ _ ha hb p hT
  · have e:i=xs.length:=by omega
    subst e
    exact .inl ⟨⟨q1,q2,.inl (Nat.le_refl _)⟩,hd σ H p⟩
end
end L2
namespace L2
open PySem PySem.Spec PyProof.Rows
section
variable {X:Cx}
def Ite (K:PySem.W.Frag) (l:Addr) (xs:List V):It :=
  ⟨fun i H=>SqL K H l xs∧i<xs.length,fun i H x H'=>∃ T a,x=.ref T∧H T=none∧xs[i]?=some a∧H'=upd H T (.tup [.int (i:Int),a]),fun i H=>SqL K H l xs∧xs.length≤i⟩
def Y8 (e it l:Addr) (i:Nat) (h:Heap):Prop:=(∃ old,IsEnum h e it i old)∧h.IsListIter it l i
theorem zm {P:Program} {w:World} {K:PySem.W.Frag} {elts:List Expr} {kk:Nat} {tpos:Pos} {e it l:Addr} {xs:List V} (hei:e≠it) :
    Turn P w K (.Tuple elts kk tpos) (Ite K l xs) [e,it] e (Y8 e it l) where
  mem:=by simp
  obj:=fun i h st b hb=>by
    obtain ⟨⟨old,he⟩,⟨o1,e1,c1,d1⟩⟩:=st
    simp at hb
    rcases hb with rfl | rfl
    · exact ⟨_,he,fun v z=>by cases (show Data.fields _=Data.cell v from z)⟩
    · exact ⟨o1,e1,fun v z=>by rw [d1] at z;cases z⟩
  keep:=fun i h h' st k=>by
    obtain ⟨⟨old,he⟩,h1⟩:=st
    exact ⟨⟨old,k e (by simp) _ he⟩,h1.at fun o x=>k it (by simp) o x⟩
  item:=by
    intro X hP hw hK hc i pins s σ H E I hf st hg
    subst hP hw hK
    obtain ⟨⟨old,he⟩,h1⟩:=st
    obtain ⟨hq1,hi1⟩:=hg
    obtain ⟨its1,rv1,pl1,hz1⟩:=I.list hq1
    obtain ⟨u1,hu1,ru1⟩:=rv1.get (List.getElem?_eq_getElem hi1)
    refine wpAny_pyNext_enum_item he h1 pl1.isList (x:=u1) (by simpa using hu1) hei fun h' a1 a2 a3 a4 hk=>?_
    have lt:∀ {c o},s.heap.get? c=some o→s.heap.objs.size≠c:=fun e=>Nat.ne_of_gt (Heap.lt_size e)
    refine ⟨.ref s.heap.objs.size,rfl,wpAny_letOwnedTupleGo_enum (s:={ s with heap:=h',toks:=s.toks + 1 }) a1 fun h'' hz' hs'=>?_⟩
    have Tz:s.heap.objs.size≠e:=lt he
    have I1:Inv X pins σ H { s with heap:=h'',toks:=s.toks + 1 }:=I.qK (ch:=[e,it])
      (fun b o hb x=>hs'.extBut b o (fun z=>hb (by simp [z])) (hk b o (fun z=>hb (by simp [z])) (fun z=>hb (by simp [z])) x)) fun b hb=>hf b hb
    obtain ⟨F0,F1,F2,F3,F4,F5⟩:=I.yI (H':=H) (Nat.le_refl _) (I.hok.fresh (Nat.le_refl _))
    have hT:IsTup h'' s.heap.objs.size #[.int (i:Int) s.toks,u1]:=⟨_,hs'.extBut _ _ Tz a3,rfl,_,rfl⟩
    have I2:Inv X pins σ (upd H s.heap.objs.size (.tup [.int (i:Int),xs[i]])) { s with heap:=h'',toks:=s.toks + 1 }:=I1.adopt F0 F1 I.sz F4 F5 (show eO X.prog X.w _ h'' _ (.tup [.int (i:Int),xs[i]]) from ⟨by rw [sizeLine_eq];simp,[.int (i:Int) s.toks,u1],.cons ⟨_,rfl⟩ (.cons ru1 .nil),hT⟩)
    refine ⟨.ref s.heap.objs.size,_,I2,rfl,⟨_,_,rfl,F0,List.getElem?_eq_getElem hi1,rfl⟩,?_,fun b hb=>?_⟩
    · exact ⟨⟨_,by simpa using hz'⟩,a2.extBut hs'.extBut hei.symm⟩
    · rw [aN]
      · exact (hf b hb).1
      · simp at hb
        obtain ⟨o1,e1,_⟩:=h1
        rcases hb with rfl | rfl
        · exact (lt he).symm
        · exact (lt e1).symm
  done:=by
    intro X hP hw hK hc i pins s σ H E I hf st hg
    subst hP hw hK
    obtain ⟨⟨old,he⟩,h1⟩:=st
    obtain ⟨hq1,hend⟩:=hg
    obtain ⟨its1,rv1,pl1,hz1⟩:=I.list hq1
    have e1:=rv1.length
    exact wpAny_pyNext_enum_end (I.ok.hd hc) he h1 pl1.isList (by simp;omega) fun h' hk=>⟨rfl,I.qK (t':=s.toks) (ch:=[e,it])
      (fun b o hb x=>hk b o (fun z=>hb (by simp [z])) x) fun b hb=>hf b hb⟩
  self:=fun _ _ _ _ _ st h=>by
    obtain ⟨⟨old,he⟩,_⟩:=st
    exact wpAny_pyIter_enum he h
def ZX (K:PySem.W.Frag) (ta:TA):TI:=fun σ H R=>ta σ H fun vs H1=>∃ l xs,vs=[.ref l]∧SqL K H1 l xs∧R (Ite K l xs) H1
theorem vp {elts:List Expr} {kk:Nat} {tpos:Pos} {a:Expr} {ta:TA} {p pos:Pos} (hg:Gl X "enumerate") (hm:X.mg "enumerate"=none) (ha:PA X [a] ta) (hs:starEach [a] X.env=[(false,eval a X.env)]:=by rfl) :
    PI X (.Tuple elts kk tpos) (.Call (.Name "enumerate" p) [a] [] pos) (ZX X.K ta):=by
  intro pins s σ H R I h
  refine Call_ (jA I hg hm boot_enumerate (PyProof.Rows.callWith_type1 (thn (ha pos pins s σ H _ I h) fun us s1 ⟨vs,H1,I1,r1,q1⟩=>?_) hs rfl))
  obtain ⟨l1,xs,e,hq1,q⟩:=q1
  subst e
  obtain ⟨u,rfl,ru⟩:=vals1 r1
  cases ru
  obtain ⟨its1,rv1,pl1,hz1⟩:=I1.list hq1
  refine call_enumerate_list pl1.isList fun h' a1 a2 a3 hk=>?_
  refine wpAny_pyIter_enum a1 ?_
  refine ⟨_,_,_,_,H1,rfl,I1.kept (t':=s1.toks) hk,zm (l:=l1) (xs:=xs) (it:=s1.heap.objs.size) (Nat.succ_ne_self _),⟨⟨_,a1⟩,a2⟩,fun b hb=>?_,q⟩
  have hb':s1.heap.objs.size≤b:=by
    simp at hb
    rcases hb with rfl | rfl <;> simp
  exact I1.yI hb' (I1.hok.fresh hb')
theorem K1 {K:PySem.W.Frag} {l:Addr} {xs:List V} {g:TG} {tb:TS} {D:Ends} {σ:St} {H:Hp} (Pv:Nat→St→Hp→Prop) (h0:Pv 0 σ H) (hl:∀ i σ H,i≤xs.length→Pv i σ H→SqL K H l xs)
    (hs:∀ i a T σ H,xs[i]?=some a→Pv i σ H→H T=none→g (.ref T) σ (upd H T (.tup [.int (i:Int),a])) fun σ2 H2=>tb { D with nx:=Pv (i + 1),ct:=Pv (i + 1),bk:=D.nx } σ2 H2) (hd:∀ σ H,Pv xs.length σ H→D.nx σ H) :
    ∃ W:Nat→Nat→St→Hp→Prop,(∃ m,W 0 m σ H)∧∀ i m σ H,W i m σ H →
      ((Ite K l xs).stop i H∧D.nx σ H)∨((Ite K l xs).go i H∧∃ N:St→Hp→Prop,(∀ σ' H',N σ' H'→∃ m',m'<m∧W (i + 1) m' σ' H')∧∀ x H',(Ite K l xs).yld i H x H'→g x σ H' fun σ2 H2=>tb { D with nx:=N,ct:=N,bk:=D.nx } σ2 H2):=by
  refine ⟨fun i m σ H=>m=xs.length - i∧i≤xs.length∧Pv i σ H,⟨xs.length,by simp,Nat.zero_le _,h0⟩,?_⟩
  rintro i m σ H ⟨rfl,hi,p⟩
  have q1:=hl i σ H hi p
  by_cases hlt:i<xs.length
  · refine .inr ⟨⟨q1,hlt⟩,Pv (i + 1),fun σ' H' p'=>⟨xs.length - (i + 1),by omega,rfl,hlt,p'⟩,fun x H' y=>?_⟩
    obtain ⟨T,a,rfl,hT,ha,rfl⟩:=y
    exact hs i a T σ _ ha p hT
  · have e:i=xs.length:=by omega
    subst e
    exact .inl ⟨⟨q1,Nat.le_refl _⟩,hd σ H p⟩
theorem uz {K:PySem.W.Frag} {a:Addr} {xs:List V} {acc:Addr} {g:TG} {tc:TT} {te:TE} {τ:St} {H1:Hp} {Q:Hp→Prop} (Pv:Nat→St→Hp→Prop) (h0:Pv 0 τ (upd H1 acc (.lst []))) (hl:∀ i τ H,i≤xs.length→Pv i τ H→SqL K H a xs)
    (hs:∀ i x T τ H,xs[i]?=some x→Pv i τ H→H T=none→g (.ref T) τ (upd H T (.tup [.int (i:Int),x])) fun τ4 H4=>tc τ4 H4 fun b H5=>if b=true then te τ4 H5 fun y H6=>∃ ys,H6 acc=some (.lst ys)∧ys.length<sizeLine∧Pv (i + 1) τ4 (upd H6 acc (.lst (ys++[y]))) else Pv (i + 1) τ4 H5)
    (hd:∀ τ H,Pv xs.length τ H→Q H):pX (Ite K a xs) acc g tc te τ H1 Q:=by
  refine ⟨fun i m τ H=>m=xs.length - i∧i≤xs.length∧Pv i τ H,⟨xs.length,by simp,Nat.zero_le _,h0⟩,?_⟩
  rintro i m τ H ⟨rfl,hi,p⟩
  have q:=hl i τ H hi p
  by_cases hlt:i<xs.length
  · refine .inr ⟨⟨q,hlt⟩,Pv (i + 1),fun τ' H' p'=>⟨xs.length - (i + 1),by omega,rfl,hlt,p'⟩,fun x H' y=>?_⟩
    obtain ⟨T,b,rfl,hT,hb,rfl⟩:=y
    exact hs i b T τ _ hb p hT
  · have e:i=xs.length:=by omega
    subst e
    exact .inl ⟨⟨q,Nat.le_refl _⟩,hd τ H p⟩
theorem xR {K:PySem.W.Frag} {l1 l2:Addr} {xs ys:List V} {acc:Addr} {g:TG} {tc:TT} {te:TE} {τ:St} {H1:Hp} {Q:Hp→Prop} (Pv:Nat→St→Hp→Prop) (hxy:xs.length=ys.length) (h0:Pv 0 τ (upd H1 acc (.lst []))) (hl:∀ i τ H,i≤xs.length→Pv i τ H→SqL K H l1 xs∧SqL K H l2 ys)
    (hs:∀ i x y T τ H,xs[i]?=some x→ys[i]?=some y→Pv i τ H→H T=none→g (.ref T) τ (upd H T (.tup [x,y])) fun τ4 H4=>tc τ4 H4 fun b H5=>if b=true then te τ4 H5 fun y H6=>∃ ys,H6 acc=some (.lst ys)∧ys.length<sizeLine∧Pv (i + 1) τ4 (upd H6 acc (.lst (ys++[y]))) else Pv (i + 1) τ4 H5)
    (hd:∀ τ H,Pv xs.length τ H→Q H):pX (Itz K l1 l2 xs ys) acc g tc te τ H1 Q:=by
  refine ⟨fun i m τ H=>m=xs.length - i∧i≤xs.length∧Pv i τ H,⟨xs.length,by simp,Nat.zero_le _,h0⟩,?_⟩
  rintro i m τ H ⟨rfl,hi,p⟩
  obtain ⟨q1,q2⟩:=hl i τ H hi p
  by_cases hlt:i<xs.length
  · refine .inr ⟨⟨q1,q2,hlt,by omega⟩,Pv (i + 1),fun τ' H' p'=>⟨xs.length - (i + 1),by omega,rfl,hlt,p'⟩,fun x H' y=>?_⟩
    obtain ⟨T,b,c,rfl,hT,hb,hc,rfl⟩:=y
    exact hs i b c T τ _ hb hc p hT
  · have e:i=xs.length:=by omega
    subst e
    exact .inl ⟨⟨q1,q2,.inl (Nat.le_refl _)⟩,hd τ H p⟩
end
end L2
namespace L2
open PySem PySem.Spec PyProof.Rows
structure Iv (P:Prop):Prop where
  t:True
  p:P
theorem ifT {c:Bool} {A B:Prop} (h:c=true) (a:A):if c=true then A else B:=by rw [if_pos h];exact a
theorem ifF {c:Bool} {A B:Prop} (h:c=false) (b:B):if c=true then A else B:=by rw [if_neg (by rw [h];exact Bool.false_ne_true)];exact b
theorem ifB {c:Bool} {A B:Prop} (h1:c=true→A) (h2:c=false→B):if c=true then A else B:=by
  cases c with
  | true=>exact ifT rfl (h1 rfl)
  | false=>exact ifF rfl (h2 rfl)
theorem Vh (x y:Int):decide (V.int x=V.int y)=decide (x=y):=by
  by_cases h:x=y
  · simp [h]
  · have:¬ V.int x=V.int y:=fun e=>h (by cases e;rfl)
    simp [h,this]
theorem eY {ns:List Int} {i:Int} (h0:0≤i) (h1:i<(ns.length:Int)):atI (ns.map V.int) i=some (V.int (ns.getD i.toNat 0)):=by
  refine jM h0 ?_
  rw [List.getD_eq_getElem?_getD,List.getElem?_eq_getElem (by omega)];rfl
theorem ur {ns:List Int} (h:0<ns.length):atI (ns.map V.int) (-1)=some (V.int (ns.getD (ns.length - 1) 0)):=by
  unfold atI ixN
  rw [if_neg (by omega),if_pos (by rw [List.length_map];omega)]
  have e:(-1 + ((ns.map V.int).length:Int)).toNat=ns.length - 1:=by rw [List.length_map];omega
  rw [e]
  show (ns.map V.int)[ns.length - 1]?=_
  rw [List.getElem?_map,List.getElem?_eq_getElem (by omega),List.getD_eq_getElem?_getD,List.getElem?_eq_getElem (by omega)];rfl
theorem cF {ns:List Int} {k:Nat} (h:k<ns.length):ns[k]?=some (ns.getD k 0):=by
  rw [List.getD_eq_getElem?_getD,List.getElem?_eq_getElem h];rfl
theorem ZR {n:Nat} {i:Int} (h0:0≤i) (h1:i<(n:Int)):ixN n i=some i.toNat:=by
  unfold ixN;rw [if_pos h0,if_pos h1]
theorem eV.mo {T:eH} {K:PySem.W.Frag} {H H':Hp} {vs:List V} {ds:List PyData} (h:eV K H vs ds) (e:bF T H H'):eV K H' vs ds:=eV.rE e h
theorem SqL.mo {T:eH} {K:PySem.W.Frag} {H H':Hp} {a:Addr} {xs:List V} (h:SqL K H a xs) (e:bF T H H'):SqL K H' a xs:=e.seq h
theorem SqT.mo {T:eH} {K:PySem.W.Frag} {H H':Hp} {a:Addr} {xs:List V} (h:SqT K H a xs) (e:bF T H H'):SqT K H' a xs:=e.aag h
section
variable {T:eH} {H0 H1 H H':Hp} {L L':List (Addr × HO)} {a l p:Addr} {o o':HO} {xs:List V} {K:PySem.W.Frag}
theorem Ow.frz (O:Ow T H0 H ((p,o) :: L)):∃ Hn,Ow T Hn H L∧bF T H0 Hn∧Hn p=some o:=by
  obtain ⟨Hn,On,sn,kn⟩:=O.tail.reb
  refine ⟨Hn,On,sn,kn p o (O.get 0) fun q hq z=>?_⟩
  have nd:=O.nd
  rw [List.map_cons,List.nodup_cons] at nd
  exact nd.1 (List.mem_map.mpr ⟨q,hq,z⟩)
theorem Ow.join (O:Ow T H0 H L) (O':Ow T H H' L'):Ow T H0 H' (L'++L):=by
  have keep:∀ q∈L,H' q.1=some q.2:=fun q hq=>(O.mJ O'.same).at_ q hq
  refine ⟨O.same.trans O'.same,fun q hq=>?_,fun q hq=>?_,fun q hq=>?_,?_⟩
  · rcases List.mem_append.mp hq with h | h
    · exact O.same.free (O'.new q h)
    · exact O.new q h
  · rcases List.mem_append.mp hq with h | h
    · exact O'.at_ q h
    · exact keep q h
  · rcases List.mem_append.mp hq with h | h
    · exact O'.pl q h
    · exact O.pl q h
  · rw [List.map_append,List.nodup_append]
    refine ⟨O'.nd,O.nd,fun x hx y hy z=>?_⟩
    obtain ⟨q,hq,rfl⟩:=List.mem_map.mp hx
    obtain ⟨r,hr,rfl⟩:=List.mem_map.mp hy
    have:=O'.new q hq
    rw [z,O.at_ r hr] at this
    cases this
end
def dTup (ns:List Int):PyData:=.tuple (ns.map PyData.int)
def xQ (rs:List (List Int)):PyData:=.list (rs.map mG)
section
variable {K:PySem.W.Frag} {H:Hp} {v:V} {a:Addr} {ns:List Int} {rs:List (List Int)}
theorem Den.tup (h:SqT K H a (ns.map V.int)):Den K H (.ref a) (dTup ns):=.tuple h (eV.ints ns)
theorem Den.S6 (h:Den K H v (dTup ns)):∃ a,v=.ref a∧SqT K H a (ns.map V.int):=by
  cases h with
  | tuple h hs=>exact ⟨_,rfl,by rw [← eV.int_inv hs];exact h⟩
theorem Den.jk {ds:List PyData} (h:Den K H v (.list ds)):∃ a xs,v=.ref a∧SqL K H a xs∧eV K H xs ds:=by
  cases h with
  | list h hs=>exact ⟨_,_,rfl,h,hs⟩
end
end L2
namespace L2
open PySem PySem.Spec PyProof.Rows
section
variable {A B:Prop}
theorem ifD {p:Prop} [Decidable p] (h1:p→A) (h2:¬ p→B):if decide p=true then A else B:=ifB (fun h=>h1 (of_decide_eq_true h)) fun h=>h2 (of_decide_eq_false h)
theorem ifI {x y:Int} (h1:x=y→A) (h2:¬ x=y→B):if decide (V.int x=V.int y)=true then A else B:=by rw [Vh];exact ifD h1 h2
theorem ifN {c:Bool} (h:if c=true then B else A):if (!c)=true then A else B:=by cases c <;> simpa using h
end
structure Lic where
  day:Int
  start:Int
  back:Int
  most:Int
def Jz (l:Lic):PyData:=dTup [l.day,l.start,l.back,l.most]
def K8 (ls:List Lic):PyData:=.list (ls.map Jz)
abbrev sG (l:Lic):List V:=[.int l.day,.int l.start,.int l.back,.int l.most]
section
variable {K:PySem.W.Frag} {H:Hp} {v:V} {a:Addr} {ls:List Lic} {l:Lic} {xs:List V} {k:Nat}
theorem Den.lic (h:SqT K H a (sG l)):Den K H (.ref a) (Jz l):=Den.tup (ns:=[l.day,l.start,l.back,l.most]) h
theorem Den.Bj (h:Den K H v (Jz l)):∃ a,v=.ref a∧SqT K H a (sG l):=h.S6
theorem eV.uh (h:eV K H xs (ls.map Jz)) (hk:ls[k]?=some l):∃ a,xs[k]?=some (.ref a)∧SqT K H a (sG l):=by
  obtain ⟨v,h1,h2⟩:=h.get (i:=k) (d:=Jz l) (by rw [List.getElem?_map,hk];rfl)
  obtain ⟨a,rfl,hT⟩:=h2.Bj
  exact ⟨a,h1,hT⟩
theorem eV.Bk (h:eV K H xs (ls.map Jz)) (hx:xs[k]?=some v):∃ a l,v=.ref a∧ls[k]?=some l∧SqT K H a (sG l):=by
  obtain ⟨d,h1,h2⟩:=h.get' hx
  rw [List.getElem?_map] at h1
  cases e:ls[k]? with
  | none=>rw [e] at h1;cases h1
  | some l =>
    rw [e] at h1
    cases h1
    obtain ⟨a,rfl,hT⟩:=h2.Bj
    exact ⟨a,l,rfl,rfl,hT⟩
end
theorem Vj (xs:List V) (i j:Nat):uW xs (some (i:Int)) (some (j:Int))=(xs.drop i).take (j - i):=by
  unfold uW
  rw [HT.oG,HT.oG]
  refine List.ext_getElem? fun k=>?_
  simp only [List.getElem?_take,List.getElem?_drop]
  by_cases h1:k<j - i
  · rw [if_pos h1]
    by_cases h2:i + k<xs.length
    · rw [if_pos (by omega),show min i xs.length=i by omega]
    · rw [List.getElem?_eq_none (l:=xs) (i:=i + k) (by omega)]
      split
      · exact List.getElem?_eq_none (by omega)
      · rfl
  · rw [if_neg h1]
    split
    · rename_i h3
      omega
    · rfl
theorem Y0 (ns:List Int) (i j:Nat):uW (ns.map V.int) (some (i:Int)) (some (j:Int))=((ns.drop i).take (j - i)).map V.int:=by
  rw [Vj,List.map_take,List.map_drop]
theorem rR (ns:List Int) (i:Nat):uW (ns.map V.int) (some (i:Int)) none=(ns.drop i).map V.int:=by
  unfold uW
  rw [HT.oG,List.length_map,show HT.sIx ns.length ns.length none=ns.length from rfl,List.map_drop]
  by_cases h:i≤ns.length
  · rw [Nat.min_eq_left h,List.take_of_length_le (by rw [List.length_drop,List.length_map];omega)]
  · rw [Nat.min_eq_right (by omega),List.drop_of_length_le (l:=ns.map V.int) (i:=i) (by rw [List.length_map];omega),Nat.sub_self,List.take_zero]
end L2
namespace L2
open PySem PySem.Spec PyProof.Rows
theorem Ow.lend {T:eH} {H0 H:Hp} {A B:List (Addr × HO)} (O:Ow T H0 H (A++B)):∃ H1,Ow T H1 H A∧bF T H0 H1∧(∀ p∈B,H1 p.1=some p.2)∧∀ (H':Hp) (A':List (Addr × HO)),Ow T H1 H' A'→Ow T H0 H' (A'++B):=by
  have OA:Ow T H0 H A:=O.sub (List.sublist_append_left A B)
  have OB:Ow T H0 H B:=O.sub (List.sublist_append_right A B)
  obtain ⟨H1,O1,s1,k1⟩:=OA.reb
  have nd:=O.nd
  rw [List.map_append,List.nodup_append] at nd
  have hB:∀ p∈B,H1 p.1=some p.2:=fun p hp=>k1 p.1 p.2 (OB.at_ p hp) fun q hq z=>nd.2.2 q.1 (List.mem_map.mpr ⟨q,hq,rfl⟩) p.1 (List.mem_map.mpr ⟨p,hp,rfl⟩) z
  refine ⟨H1,O1,s1,hB,fun H' A' O'=>?_⟩
  refine ⟨s1.trans O'.same,fun p hp=>?_,fun p hp=>?_,fun p hp=>?_,?_⟩
  · rcases List.mem_append.mp hp with h | h
    · exact s1.free (O'.new p h)
    · exact OB.new p h
  · rcases List.mem_append.mp hp with h | h
    · exact O'.at_ p h
    · refine O'.same.keep _ _ (hB p h) fun ps z=>?_
      have:=OB.pl p h
      rw [z] at this;cases this
  · rcases List.mem_append.mp hp with h | h
    · exact O'.pl p h
    · exact OB.pl p h
  · rw [List.map_append,List.nodup_append]
    refine ⟨O'.nd,OB.nd,fun x hx y hy z=>?_⟩
    obtain ⟨q,hq,rfl⟩:=List.mem_map.mp hx
    obtain ⟨r,hr,rfl⟩:=List.mem_map.mp hy
    have e:=O'.new q hq
    rw [z,hB r hr] at e
    cases e
end L2
namespace L2
open PySem PySem.Spec PyProof.Rows
theorem rA {X:Cx} {K:PySem.W.Frag} {pos:Pos} {es:List Expr} {k:Nat} {t:TGs} {n:Nat} (hK:X.K=K) (hc:X.calm=true) (h:PGs X es t) (hn:(assignEach es X.env).length=n:=by rfl) (hst:(assignEach es X.env).findIdx? (·.1)=none:=by rfl):PG X (.Tuple es k pos) (aao K n t):=hK ▸ qg hc h hn hst
end L2
namespace L2
open PySem PySem.Spec PyProof.Rows
theorem Zd {τ:St} {H:Hp} {A B:Hp→Prop} (h:A H):Ze τ H fun b H5=>if b=true then A H5 else B H5:=by
  show if true=true then A H else B H
  rw [if_pos rfl];exact h
end L2
namespace L2
open PySem PySem.Spec PyProof.Rows
theorem qz {α:Type}:∀ {L:List α} {k:Nat} {p:α},L[k]?=some p→(p :: L.eraseIdx k).Perm L
  | [],_,_,h=>by simp at h
  | a :: L,0,p,h=>by
    have e:a=p:=by simpa using h
    subst e;exact List.Perm.refl _
  | a :: L,k + 1,p,h=>by
    have h':L[k]?=some p:=by simpa using h
    rw [List.eraseIdx_cons_succ]
    exact (List.Perm.swap a p _).trans ((qz h').cons a)
section
variable {T:eH} {H0 H:Hp} {L:List (Addr × HO)} {p:Addr} {o:HO}
theorem Ow.pull (O:Ow T H0 H L) (k:Nat) (h:L[k]?=some (p,o):=by rfl):Ow T H0 H ((p,o) :: L.eraseIdx k):=O.perm (qz h)
theorem Ow.o7 (O:Ow T H0 H L) (k:Nat) (h:L[k]?=some (p,o):=by rfl):∃ Hn,Ow T Hn H (L.eraseIdx k)∧bF T H0 Hn∧Hn p=some o:=(O.pull k h).frz
theorem Ow.del (O:Ow T H0 H L) (k:Nat):Ow T H0 H (L.eraseIdx k):=O.sub (List.eraseIdx_sublist L k)
end
end L2
namespace L2
open PySem PySem.Spec PyProof.Rows
theorem eV.SX {K:PySem.W.Frag} {H:Hp} {xs:List V} {ws:List (List Int)} {i:Nat} {x:V} (h:eV K H xs (ws.map mG)) (hx:xs[i]?=some x):∃ a w,x=.ref a∧ws[i]?=some w∧SqL K H a (w.map V.int):=by
  obtain ⟨d,h1,h2⟩:=h.get' hx
  rw [List.getElem?_map] at h1
  cases e:ws[i]? with
  | none=>rw [e] at h1;cases h1
  | some w =>
    rw [e] at h1
    cases h1
    obtain ⟨a,rfl,hL⟩:=h2.xJ
    exact ⟨a,w,rfl,rfl,hL⟩
theorem eV.yZ {K:PySem.W.Frag} {H:Hp} {xs:List V} {ws:List (List Int)} {i:Nat} {w:List Int} (h:eV K H xs (ws.map mG)) (hw:ws[i]?=some w):∃ a,xs[i]?=some (.ref a)∧SqL K H a (w.map V.int):=by
  obtain ⟨v,h1,h2⟩:=h.get (i:=i) (d:=mG w) (by rw [List.getElem?_map,hw];rfl)
  obtain ⟨a,rfl,hL⟩:=h2.xJ
  exact ⟨a,h1,hL⟩
end L2
namespace L2
open PySem PySem.Spec PyProof.Rows
end L2
namespace L2
open PySem PySem.W PySem.Spec PyProof.Rows
theorem Bd (a v:Value):argsOk "min" ⟨[a],[(Str.ofString "default",v)]⟩:=by unfold argsOk;kernel_rfl
section
variable {prog:Program} {w:World} {A:Around} {R:Result→Shared→Prop} {I:Addr} {fp wr:List Addr} {n:Nat} {P:Nat→Value→Prop} {St:Nat→Heap→Prop}
theorem Bc (W:Walks prog w A.in1 I fp wr n P St) (bt:Nat→Nat→Bool) (hcmp:CmpOf prog w A.in1 .Lt P bt) (S:Addr) (hSf:S ∉ fp) (d:Value) :
    ∀ (k j:Nat) (s:Shared) (bs:Array Value) (c:Nat),n - j=k→j≤n→St j s.heap→((j=0∧bs=#[])∨∃ i vb,j=i + 1∧bs=#[vb,vb]∧P (argBest bt i) vb) →
    s.heap.get? S=some { cls:=.type "list",dict:=none,data:=.seq bs c,slots:=#[] } →
    (n=0→∀ h' tk,(∀ b o,b ∉ wr→b≠S→s.heap.get? b=some o→h'.get? b=some o)→R (.ok (.ret d)) { s with heap:=h',toks:=tk }) →
    (∀ v h' tk,0<n→P (argBest bt (n - 1)) v→(∀ b o,b ∉ wr→b≠S→s.heap.get? b=some o→h'.get? b=some o)→R (.ok (.ret v)) { s with heap:=h',toks:=tk }) →
    codeAny (model prog w) A (.builtin "min.loop" ⟨[.ref I,.none,.ref S],[(Str.ofString "default",d)]⟩) R s:=by
  have nSw:S ∉ wr:=fun h=>hSf (W.sub _ h)
  have nm:(toString "min"++toString ".loop":String)="min.loop":=by decide
  intro k
  induction k with
  | zero =>
    intro j s bs c hk hj hst hb hS hR0 hR1
    have ej:j=n:=Nat.le_antisymm hj (Nat.le_of_sub_eq_zero hk)
    subst ej
    refine codeAny_builtin F.entry_min_loop ?_;rw [Around.under_plainId F.plain_min_loop _]
    show wpAny _ A.in1 (seqItems? (.ref S) >>= _) _ _ s;refine wpAny_bind (wpAny_seqItems hS rfl ?_)
    rcases hb with ⟨e0,rfl⟩ | ⟨i,vb,ei,rfl,hP⟩
    · show wpAny _ A.in1 (tryCatch (pyNext (.ref I)) _ >>= _) _ _ s;refine wpAny_bind (wpAny_tryCatch (W.done s _ _ hst fun h' tk hk'=>?_))
      refine wpAny_bind (wpAny_rule ?_)
      exact wpAny_pure (hR0 e0 h' tk fun b o hbw _ e=>hk' b o hbw e)
    · show wpAny _ A.in1 (tryCatch (pyNext (.ref I)) _ >>= _) _ _ s;refine wpAny_bind (wpAny_tryCatch (W.done s _ _ hst fun h' tk hk'=>?_))
      have hS':=hk' S _ nSw hS
      show wpAny _ A.in1 (updateSeq S (fun _=>#[]) >>= _) _ _ _
      refine wpAny_bind (wpAny_updateSeq hS' rfl (wpAny_bind (wpAny_letGo (wpAny_pure ?_))))
      exact hR1 vb _ tk (by omega) (by rw [ei];exact hP) fun b o hbw hbS e=>(Heap.get?_update_other _ _ (Ne.symm hbS)).trans (hk' b o hbw e)
  | succ k ih =>
    intro j s bs c hk hj hst hb hS hR0 hR1
    have hlt:j<n:=Nat.sub_pos_iff_lt.mp (by rw [hk];exact Nat.succ_pos k)
    refine codeAny_builtin F.entry_min_loop ?_;rw [Around.under_plainId F.plain_min_loop _]
    show wpAny _ A.in1 (seqItems? (.ref S) >>= _) _ _ s;refine wpAny_bind (wpAny_seqItems hS rfl ?_)
    rcases hb with ⟨e0,rfl⟩ | ⟨i,vb,ei,rfl,hPb⟩
    · show wpAny _ A.in1 (tryCatch (pyNext (.ref I)) _ >>= _) _ _ s;refine wpAny_bind (wpAny_tryCatch (W.item j s _ _ hlt hst fun v h' tk hP hst' hk'=>?_))
      have hS':=hk' S _ nSw hS
      show wpAny _ A.in1 (updateSeq S (fun _=>#[v,v]) >>= _) _ _ _
      refine wpAny_bind (wpAny_updateSeq hS' rfl ?_)
      rw [nm]
      subst e0
      refine wpAny_pure ⟨plainId_quiet F.plain_min_loop _,ih 1 _ _ _ (by omega) (by omega) (W.frame _ _ _ hst' fun b hbf o e=>(Heap.get?_update_other _ _ (fun h:S=b=>hSf (by rw [h];exact hbf))).trans e) (.inr ⟨0,v,rfl,rfl,hP⟩) (Heap.get?_update_self _ hS' rfl) (fun z=>by omega) fun v' h'' tk'' hn' hP' hk''=>?_⟩
      exact hR1 v' h'' tk'' hn' hP' fun b o hbw hbS e=>hk'' b o hbw hbS ((Heap.get?_update_other _ _ (Ne.symm hbS)).trans (hk' b o hbw e))
    · subst ei
      show wpAny _ A.in1 (tryCatch (pyNext (.ref I)) _ >>= _) _ _ s;refine wpAny_bind (wpAny_tryCatch (W.item (i + 1) s _ _ hlt hst fun v h' tk hP hst' hk'=>?_))
      have hS':=hk' S _ nSw hS
      show wpAny _ A.in1 (tryCatch (holding [v,v] (richCompare .Lt v vb >>= _)) _ >>= _) _ _ _
      refine wpAny_bind (wpAny_tryCatch (wpAny_holding (wpAny_bind (hcmp (i + 1) (argBest bt i) v vb _ _ _ hP hPb (wpAny_bind (wpAny_holding (wpAny_truthy_bool (wpAny_bind (wpAny_letGo (wpAny_pure ?_))))))))))
      cases hb:bt (i + 1) (argBest bt i) with
      | true =>
        simp only [if_true]
        refine wpAny_bind (wpAny_updateSeq hS' rfl (wpAny_bind (wpAny_letGo ?_)));rw [nm]
        refine wpAny_pure ⟨plainId_quiet F.plain_min_loop _,ih (i + 1 + 1) _ _ _ (by omega) (by omega) (W.frame _ _ _ hst' fun b hbf o e=>(Heap.get?_update_other _ _ (fun h:S=b=>hSf (by rw [h];exact hbf))).trans e) (.inr ⟨i + 1,v,rfl,rfl,by simp only [argBest,hb,if_true];exact hP⟩) (Heap.get?_update_self _ hS' rfl) (fun z=>by omega) fun v' h'' tk'' hn' hP' hk''=>?_⟩
        exact hR1 v' h'' tk'' hn' hP' fun b o hbw hbS e=>hk'' b o hbw hbS ((Heap.get?_update_other _ _ (Ne.symm hbS)).trans (hk' b o hbw e))
      | false =>
        simp only [Bool.false_eq_true,if_false]
        refine wpAny_bind (wpAny_letGo ?_);rw [nm]
        refine wpAny_pure ⟨plainId_quiet F.plain_min_loop _,ih (i + 1 + 1) _ _ c (by omega) (by omega) hst' (.inr ⟨i + 1,vb,rfl,rfl,by simp only [argBest,hb,Bool.false_eq_true,if_false];exact hPb⟩) hS' (fun z=>by omega) fun v' h'' tk'' hn' hP' hk''=>?_⟩
        exact hR1 v' h'' tk'' hn' hP' fun b o hbw hbS e=>hk'' b o hbw hbS (hk' b o hbw e)
end
section
variable {X:Cx}
def Zj (K:PySem.W.Frag) (d:Int) (te:TE):TE:=fun σ H Q=>te σ H fun x H1=>∃ (p:Addr) (ns:List Int),x=.ref p∧SqL K H1 p (ns.map V.int)∧(ns=[]→Q (.int d) H1)∧∀ M∈ns,(∀ a∈ns,M≤a)→Q (.int M) H1
theorem Tr {e:Expr} {te:TE} {d:Int} {j:Nat} {p1 cp kp pos:Pos} (hcalm:X.calm=true) (hg:Gl X "min") (hm:X.mg "min"=none) (he:PE X e te) (h1:backTo pos (starEach [e] X.env)=(false,eval e X.env) :: backTo pos (starEach [] X.env):=by rfl) (h2:(backTo pos (starEach [e] X.env)).any (·.1)=false:=by rfl) :
    PE X (.Call (.Name "min" p1) [e] [⟨some "default",.Constant (.int d) j cp,kp⟩] pos) (Zj X.K d te):=by
  intro pins s σ H Q I h
  refine wpAny_Call_Name_kw (jA I hg hm boot_min ?_)
  refine callWith_kw ?_ h1 h2
  rw [h1]
  refine Calls.spliced_cons (thn (he pins s σ H _ I h) fun u s1 ⟨x,H1,I1,rx,q1⟩=>?_)
  obtain ⟨p,ns,rfl,hq,q0,qm⟩:=q1
  cases rx
  refine Calls.spliced_nil ?_
  refine kws_cons (wpAny_Constant_int ?_)
  refine kws_nil ?_
  show wpAny _ _ (call (.builtin "min") [.ref p] [(Str.ofString "default",.int d _)]) _ _ _
  obtain ⟨its,r1,p1,hz⟩:=I1.list hq
  have hi:IntsAre its ns:=intsAre_of r1
  obtain ⟨ys,hx⟩:=hi.allInts.items
  have hl':s1.heap.IsList p (intItems ys):=hx ▸ p1.isList
  have hns:ns=ys.toList.map (·.1):=by
    rw [← nums_intItems,← hx]
    exact (show numsOf its.toArray.toList=ns from hi.numsOf).symm
  have nm:(toString "min"++toString ".loop":String)="min.loop":=by decide
  have hys:(intItems ys).size=ns.length:=by rw [hns];simp [intItems]
  refine kmb_tree F.kind_min F.plain_min F.entry_min (Bd _ _) ?_
  show wpAny _ _ (Builtin.Builtins.bindParams "min" ["key","default"] 0 ⟨[],[(Str.ofString "default",.int d s1.toks)]⟩ >>= _) _ _ _
  refine wpAny_bind (wpAny_of_eq (show Builtin.Builtins.bindParams "min" ["key","default"] 0 ⟨[],[(Str.ofString "default",.int d s1.toks)]⟩=pure [none,some (.int d s1.toks)] from rfl) ?_)
  refine wpAny_bind (wpAny_pure ?_)
  refine wpAny_bind (iter_intList (s:={ s1 with toks:=s1.toks + 1 }) hl' fun s₂ e st hfp hlI=>?_)
  subst e
  refine wpAny_bind (wpAny_newObj_type ?_);rw [nm]
  have kept:∀ {h':Heap} {g:Heap} {S:Addr},(∀ b o,s1.heap.get? b=some o→g.get? b=some o)→S=s1.heap.objs.size + 1→(∀ b o,b ∉ [s1.heap.objs.size]→b≠S→g.get? b=some o→h'.get? b=some o)→∀ b o,s1.heap.get? b=some o→h'.get? b=some o:=fun hg hS hk b o e=>by
    have lt:=Heap.lt_size e
    refine hk b o (fun z=>?_) (fun z=>?_) (hg b o e)
    · rw [List.mem_singleton.mp z] at lt;exact Nat.lt_irrefl _ lt
    · rw [z,hS] at lt;exact absurd lt (by simp only [Addr] at lt ⊢;omega)
  have hg2:∀ b o,s1.heap.get? b=some o→((s1.heap.push { cls:=.type "list_iterator",data:=.fields #[.ref p,.int 0 0] }).push { cls:=.type "list",data:=.seq #[] }).get? b=some o:=fun b o e=>Heap.get?_push_of_some _ (Heap.get?_push_of_some _ e)
  have hsz:(s1.heap.push { cls:=.type "list_iterator",data:=.fields #[.ref p,.int 0 0] }).objs.size=s1.heap.objs.size + 1:=Heap.size_push ..
  refine wpAny_pure ⟨plainId_quiet F.plain_min_loop _,Bc (Walks.list (A:=X.A.in1) (I.ok.hd hcalm) _ p hlI (intItems ys)) _ (CmpOf.ints_lt (numAt ys) (fun _ _=>intItems_at)) _ (fun hm=>Nat.lt_irrefl _ (hfp _ hm)) (.int d s1.toks) _ 0 _ #[] _ rfl (Nat.zero_le _)
    ⟨Heap.IsListIter.at st.1 fun o e=>Heap.get?_push_of_some _ e,st.2.push _⟩ (.inl ⟨rfl,rfl⟩) (Heap.get?_push_size _ rfl) (fun h0 h' tk hk=>?_) fun v h' tk hn hP hk=>?_⟩
  · have e0:ns=[]:=List.length_eq_zero_iff.mp (by rw [← hys];exact h0)
    exact ⟨.int d,H1,I1.kept (t':=tk) (kept hg2 hsz hk),⟨_,rfl⟩,q0 e0⟩
  · obtain ⟨t,rfl⟩:=intItems_at hP
    obtain ⟨h1,h2⟩:=argBest_lt (numAt ys) ((intItems ys).size - 1)
    have hyz:(intItems ys).size=ys.size:=by simp [intItems]
    refine ⟨.int _,H1,I1.kept (t':=tk) (kept hg2 hsz hk),⟨t,rfl⟩,qm _ ?_ fun a ha=>?_⟩
    · rw [hns,numAt_eq];exact getD_mem (by rw [List.length_map,Array.length_toList];omega)
    · rw [hns] at ha
      obtain ⟨j,hj,rfl⟩:=mem_getD ha
      rw [List.length_map,Array.length_toList] at hj
      rw [← numAt_eq];exact h2 j (by omega)
end
end L2
namespace L2
open PySem PySem.Spec PyProof.Rows
section
variable {κ:Type} [DecidableEq κ]
def uV (kvs:List (κ × V)) (k:κ):Option V:=(kvs.find? fun kv=>decide (kv.1=k)).map (·.2)
def putK (kvs:List (κ × V)) (k:κ) (v:V):List (κ × V) :=
  if (kvs.any fun kv=>decide (kv.1=k))=true then kvs.map (fun kv=>if kv.1=k then (kv.1,v) else kv) else kvs++[(k,v)]
theorem wu {p:κ × V} {r:List (κ × V)} {k:κ} (e:p.1=k):uV (p :: r) k=some p.2:=by simp [uV,List.find?_cons,e]
theorem wz {p:κ × V} {r:List (κ × V)} {k:κ} (e:¬ p.1=k):uV (p :: r) k=uV r k:=by simp [uV,List.find?_cons,e]
theorem wA (k:κ):∀ kvs:List (κ × V),(kvs.any fun kv=>decide (kv.1=k))=(uV kvs k).isSome
  | []=>rfl
  | p :: r=>by
    rw [List.any_cons]
    by_cases e:p.1=k
    · simp only [wu e,decide_eq_true e,Bool.true_or,Option.isSome_some]
    · rw [wz e,decide_eq_false e,Bool.false_or];exact wA k r
theorem vM (kvs:List (κ × V)) (k:κ) (v:V):(putK kvs k v).length≤kvs.length + 1:=by
  unfold putK
  split
  · rw [List.length_map];omega
  · rw [List.length_append,List.length_cons,List.length_nil];omega
theorem JX {kvs:List (κ × V)} {k:κ} (v:V) (h:uV kvs k=none):putK kvs k v=kvs++[(k,v)]:=by
  unfold putK
  rw [wA,h]
  exact if_neg (by decide)
theorem KV.val {kvs:List (κ × V)} {vs:List (κ × Value)} (r:KV kvs vs) (k:κ):Jt (uV kvs k) (valueAt vs k):=by
  unfold KV at r
  induction r with
  | nil=>exact True.intro
  | @cons p q ps qs h t ih =>
    obtain ⟨h1,h2⟩:=h
    by_cases e:p.1=k
    · have e':q.1=k:=h1.symm.trans e
      have b:valueAt (q :: qs) k=some q.2:=by simp [valueAt,List.find?_cons,e']
      rw [wu e,b];exact h2
    · have e':¬ q.1=k:=fun z=>e (h1.trans z)
      have b:valueAt (q :: qs) k=valueAt qs k:=by simp [valueAt,List.find?_cons,e']
      rw [wz e,b];exact ih
theorem KV.any {kvs:List (κ × V)} {vs:List (κ × Value)} (r:KV kvs vs) (k:κ):(kvs.any fun kv=>decide (kv.1=k))=vs.any fun kv=>decide (kv.1=k):=by
  unfold KV at r
  induction r with
  | nil=>rfl
  | cons h t ih=>rw [List.any_cons,List.any_cons,ih,h.1]
theorem KV.repl {kvs:List (κ × V)} {vs:List (κ × Value)} (r:KV kvs vs) (k:κ) {y:V} {u:Value} (ry:RelV y u) :
    KV (kvs.map fun kv=>if kv.1=k then (kv.1,y) else kv) (vs.map fun kv=>if kv.1=k then (kv.1,u) else kv):=by
  unfold KV at r ⊢
  induction r with
  | nil=>exact .nil
  | @cons p q ps qs h t ih =>
    rw [List.map_cons,List.map_cons]
    refine .cons ?_ ih
    obtain ⟨h1,h2⟩:=h
    by_cases e:p.1=k
    · rw [if_pos e,if_pos (h1.symm.trans e)];exact ⟨h1,ry⟩
    · rw [if_neg e,if_neg (fun z=>e (h1.trans z))];exact ⟨h1,h2⟩
theorem KV.put {kvs:List (κ × V)} {vs:List (κ × Value)} (r:KV kvs vs) (k:κ) {y:V} {u:Value} (ry:RelV y u):KV (putK kvs k y) (stored vs k u):=by
  unfold putK stored
  rw [r.any k]
  by_cases e:(vs.any fun kv=>decide (kv.1=k))=true
  · rw [if_pos e,if_pos e];exact r.repl k ry
  · rw [if_neg e,if_neg e];exact Paired.snoc r ⟨rfl,ry⟩
theorem KV.length {kvs:List (κ × V)} {vs:List (κ × Value)} (r:KV kvs vs):kvs.length=vs.length:=Paired.length r
end
theorem Wx {P:Program} {w:World} {k:Key} {u:Value} (r:RelV (kV k) u):(eN P w).is k u=true:=by
  cases k with
  | inl i=>obtain ⟨t,e⟩:=(show ∃ t,u=Value.int i t from r);subst e;exact vL P w i t
  | inr x=>obtain ⟨t,e⟩:=(show ∃ t,u=Value.str x t from r);subst e;exact vK P w x t
theorem um {P:Program} {w:World}:∀ {ks:List Key} {us:List Value},Vals (ks.map kV) us→ItemsAre (eN P w) ks us
  | [],_,r=>by rw [List.map_nil] at r;cases r;exact .nil
  | k :: ks,_,r=>by
    rw [List.map_cons] at r
    cases r with
    | cons h t=>exact .cons (Wx h) (um t)
abbrev KT (H:Hp):List (List Key × V)→List (List Key × Addr × Value)→Prop:=Paired fun p q=>p.1=q.1∧H q.2.1=some (.tup (p.1.map kV))∧RelV p.2 q.2.2
section
variable {P:Program} {w:World} {H:Hp} {h:Heap} {a:Addr}
theorem V3 {u:HO} (ok:HOk P w H h) (e:Rd H a u):eO P w H h a u:=e.ok ok
theorem Vg {kvs:List (Key × V)} (ok:HOk P w H h) (e:Rd H a (.dK kvs)):kvs.length≤sizeLine∧(a == sysModules)=false∧∃ vs,KV kvs vs∧h.DictOf (eN P w) a vs :=
  show eO P w H h a (.dK kvs) from V3 ok e
theorem Z7 {kvs:List (Key × V)} (ok:HOk P w H h) (e:H a=some (.dK kvs)):kvs.length≤sizeLine∧(a == sysModules)=false∧∃ vs,KV kvs vs∧h.DictOf (eN P w) a vs:=Vg ok (.inl e)
theorem Wu {ks:List Key} (ok:HOk P w H h) (e:H a=some (.tup (ks.map kV))):(tupleKind (eN P w)).is h ks a:=by
  obtain ⟨_,its,r,o,h1,h2,n,h3⟩:=(show eO P w H h a (.tup (ks.map kV)) from ok a _ e)
  exact ⟨o,its.toArray,n,h1,h2,h3,by simpa using um r⟩
theorem Z6 {kvs:List (List Key × V)} (ok:HOk P w H h) (e:Rd H a (.dT kvs)):kvs.length≤sizeLine∧(a == sysModules)=false ∧
    ∃ xs,KT H kvs xs∧h.DictOfH (tupleKind (eN P w)) a xs:=by
  obtain ⟨z,y,xs,r,o,es,ep,h1,h2,h3,h4,h5⟩:=(show eO P w H h a (.dT kvs) from V3 ok e)
  refine ⟨z,y,xs,r,o,es,ep,h1,h2,h3,h4,fun x hx=>?_,h5⟩
  have all:∀ {l:List (List Key × V)} {m:List (List Key × Addr × Value)},KT H l m→∀ x∈m,(tupleKind (eN P w)).is h x.1 x.2.1:=by
    intro l m q
    induction q with
    | nil=>intro x hx;exact nomatch hx
    | @cons p q ps qs hq t ih =>
      intro x hx
      rcases List.mem_cons.mp hx with e | hx
      · subst e
        exact Wu ok (by rw [← hq.1];exact hq.2.1)
      · exact ih x hx
  exact all r x hx
end
section
variable {X:Cx} {pins:List (Addr × Obj)} {σ:St} {H:Hp} {s:Shared} {a:Addr} {y v:V} {u r:Value} {o:Option V} {A:Around} {E:Value→Shared→Prop}
theorem Inv.big (I:Inv X pins σ H s):sysModules<s.heap.objs.size:=by
  have h:mainGlobals<s.heap.objs.size:=(I.mod.glob.keeps I.bk).lt
  exact Nat.lt_trans (by decide) h
theorem Vi {h':Heap} {t':Nat} {ob:HO} (I:Inv X pins σ H s) (mu:Mut (H a)) (hs:Heap.SameBut a s.heap h') (he:∃ q,h'.get? a=some q) (new:eO X.prog X.w (upd H a ob) h' a ob) :
    Inv X pins σ (upd H a ob) { s with heap:=h',toks:=t' } :=
  I.write (x:=a) (e:=a) mu (.inl rfl) (fun b q hb z=>(hs.2 b hb).trans z) he new
theorem YZ {P:Program} {w:World} {H':Hp} {h':Heap} {kvs:List (Key × V)} {vs:List (Key × Value)} (z:kvs.length≤sizeLine) (hd:(a == sysModules)=false) (rel:KV kvs vs) (dd:h'.DictOf (eN P w) a vs) :
    eO P w H' h' a (.dK kvs):=⟨z,hd,vs,rel,dd⟩
end
theorem K5 {P:Program} {w:World} {H:Hp} (h:Heap) (hb:sysModules<h.objs.size):eO P w H (h.push { cls:=.type "dict",data:=.dict #[] }) h.objs.size (.dK []) :=
  ⟨Nat.zero_le _,beq_eq_false_iff_ne.mpr (Ne.symm (Nat.ne_of_lt hb)),[],.nil,Heap.DictOf.new h⟩
def VL:TE:=fun _ H Q=>∀ p,H p=none→Q (.ref p) (upd H p (.dK []))
section
variable {X:Cx} {pos:Pos}
theorem J1:PE X (.Dict [] [] pos) VL:=fun pins s σ H Q I h =>
  wpAny_Dict_empty ⟨.ref s.heap.objs.size,_,I.laid (a:=s.heap.objs.size) (o:=.dK []) (t':=s.toks) (fun _ _ q=>Heap.get?_push_of_some _ q) (Nat.le_refl _) (K5 s.heap I.big),rfl,h _ (I.hok.fresh (Nat.le_refl _))⟩
end
abbrev VV:List (V × V)→List (Value × Value)→Prop:=Paired fun p q=>RelV p.1 q.1∧RelV p.2 q.2
structure M2 (X:Cx) (o:Expr) (m:Str) (apos:Pos) (e f:Expr) (cpos:Pos):Prop where
  base:attributeBase o m X.env (eval o X.env)=eval o X.env
  few:((backTo cpos (starEach [e,f] X.env)).all (fun x=>!x.1) && (backToKw cpos (keywordEach [] X.env)).all (fun x=>x.1.isSome)
    && decide (([e,f]:List Expr).length + ([]:List Keyword).length + (if ([]:List Keyword).isEmpty then 0 else 1)<30))=true
  line:(apos.endLine == cpos.line)=true
  trees:backTo cpos (starEach [e,f] X.env)=[(false,eval e X.env),(false,eval f X.env)]
def IsD (H:Hp) (a:Addr):Prop:=(∃ kvs,Rd H a (.dK kvs))∨∃ kvs,Rd H a (.dT kvs)
theorem Lx {X:Cx} {pins:List (Addr × Obj)} {σ:St} {H:Hp} {s:Shared} {a:Addr} (I:Inv X pins σ H s) (d:IsD H a) :
    s.TypeIs (.ref a) "dict"∧(∀ b,Value.ref a=.ref b→∃ ob,s.heap.get? b=some ob∧ob.dict=none)∧(a == sysModules)=false:=by
  rcases d with ⟨kvs,e⟩ | ⟨kvs,e⟩
  · obtain ⟨_,hd,vs,_,dd⟩:=Vg I.hok e
    refine ⟨dd.typeIs,fun b q=>?_,hd⟩
    cases q
    obtain ⟨ob,_,_,h1,h2,_⟩:=dd
    exact ⟨ob,h1,h2.2.1⟩
  · obtain ⟨_,hd,xs,_,dd⟩:=Z6 I.hok e
    refine ⟨dd.typeIs,fun b q=>?_,hd⟩
    cases q
    obtain ⟨ob,_,_,h1,h2,_⟩:=dd
    exact ⟨ob,h1,h2.2.1⟩
end L2
namespace L2
open PySem PySem.W PySem.Spec PyProof.Rows
def Zn (td ty tx:TE):TE:=fun σ H Q=>td σ H fun x H1=>∃ a,x=.ref a∧IsD H1 a∧ty σ H1 fun y H2=>tx σ H2 fun z H3=>∃ kvs k,H3 a=some (.dK kvs)∧y=kV k∧kvs.length<sizeLine ∧
  (∀ v,uV kvs k=some v→Q v H3)∧(uV kvs k=none→Q z (upd H3 a (.dK (putK kvs k z))))
section
variable {X:Cx} {o e f:Expr} {apos cpos:Pos} {td ty tx:TE}
theorem Tv (ho:PE X o td) (he:PE X e ty) (hf:PE X f tx) (m:M2 X o "setdefault" apos e f cpos):PE X (.Call (.Attribute o "setdefault" apos) [e,f] [] cpos) (Zn td ty tx):=by
  intro pins s σ H Q I h
  refine wpAny_Call_method m.base m.few m.line PySem.F.plainAttrs_dict PySem.F.slot_dict_setdefault PySem.F.type_dict_setdefault (thn (ho pins s σ H _ I h) fun u s1 ⟨x,H1,I1,rx,a,ex,d,q1⟩=>?_)
  subst ex
  obtain rfl:u=Value.ref a:=rx
  obtain ⟨t1,t2,_⟩:=Lx I1 d
  refine ⟨t1,t2,?_⟩
  rw [m.trees]
  refine Calls.callWith_builtin rfl (Calls.evalArgs_plain (Calls.spliced_cons (thn (he pins s1 σ H1 _ I1 q1) fun iv s2 ⟨y,H2,I2,ry,q2⟩ =>
    Calls.spliced_cons (thn (hf pins s2 σ H2 _ I2 q2) fun fv s3 ⟨z,H3,I3,rz,kvs,k,ea,ey,hl,q3,q4⟩=>Calls.spliced_nil ?_))))
  subst ey
  obtain ⟨z1,hd,vs,rel,dd⟩:=Z7 I3.hok ea
  have rv:=rel.val k
  have hlen:=rel.length
  refine call_meetsIn PySem.F.slot_dict_setdefault dd.typeIs PySem.F.entry_dict_setdefault (PySem.F.args_dict_setdefault_3 _ _ _) (kt_meets_setdefault (eN X.prog X.w) a (Wx ry) hd fv) ⟨vs,dd,by omega,fun v hv=>?_,fun hn h' dd' hs=>?_⟩
  · rw [hv] at rv
    cases l:uV kvs k with
    | none=>rw [l] at rv;cases rv
    | some v'=>rw [l] at rv;exact ⟨v',H3,I3.tok _,rv,q3 v' l⟩
  · rw [hn] at rv
    cases l:uV kvs k with
    | some v'=>rw [l] at rv;cases rv
    | none=>exact ⟨z,_,Vi I3 (by rw [ea];trivial) hs (by obtain ⟨ob,es,ep,he',_⟩:=dd';exact ⟨ob,he'⟩) (YZ (Nat.le_trans (vM _ _ _) hl) hd (rel.put k rz) dd'),rz,q4 l⟩
end
def zx (td:TE):TE:=fun σ H Q=>td σ H fun x H1=>∃ a kvs,x=.ref a∧Rd H1 a (.dK kvs)∧∀ l,H1 l=none→Q (.ref l) (upd H1 l (.lst (kvs.map (·.2))))
theorem KV.vals {kvs:List (Key × V)} {vs:List (Key × Value)} (r:KV kvs vs):Vals (kvs.map (·.2)) (vs.map (·.2)):=by
  induction r with
  | nil=>exact .nil
  | cons h _ ih=>exact .cons h.2 ih
section
variable {X:Cx} {o:Expr} {td:TE} {p1 apos cpos pos:Pos}
theorem vq (hcalm:X.calm=true) (hgs:Gl X "list") (hms:X.mg "list"=none) (ho:PE X o td) (hb:attributeBase o "values" X.env (eval o X.env)=eval o X.env:=by rfl) (hline:(apos.endLine == cpos.line)=true:=by rfl) :
    PE X (.Call (.Name "list" p1) [.Call (.Attribute o "values" apos) [] [] cpos] [] pos) (zx td):=by
  intro pins s σ H Q I h
  refine Call_ (jA I hgs hms boot_list (PyProof.Rows.callWith_type1 ?_ rfl rfl))
  show wpAny _ _ (spliced ((false,eval (.Call (.Attribute o "values" apos) [] [] cpos) X.env) :: [])) _ _ s
  refine Calls.spliced_cons (wpAny_Call_method hb rfl hline PySem.F.plainAttrs_dict PySem.F.slot_dict_values PySem.F.type_dict_values (thn (ho pins s σ H _ I h) fun u s1 ⟨x,H1,I1,rx,a,kvs,ex,d,q1⟩=>?_))
  subst ex
  obtain rfl:u=Value.ref a:=rx
  obtain ⟨t1,t2,_⟩:=Lx I1 (.inl ⟨kvs,d⟩)
  refine ⟨t1,t2,?_⟩
  obtain ⟨hz,hd,vs,rel,dd⟩:=Vg I1.hok d
  refine Calls.callWith_builtin rfl (PyProof.Rows.evalArgs_none ?_)
  refine call_meetsIn PySem.F.slot_dict_values dd.typeIs PySem.F.entry_dict_values (PySem.F.args_dict_values_1 _) (meets_dict_values (eN X.prog X.w) a hd) ⟨⟨vs,dd⟩,?_⟩
  refine Calls.spliced_nil ?_
  obtain ⟨ep,da⟩:=dd.dictAt
  have hlen:=rel.length
  have hsz:(s1.heap.push { cls:=.type "dict_values",data:=.fields #[.ref a] }).objs.size=s1.heap.objs.size + 1:=Heap.size_push ..
  refine kdl_call (kdl_values (knd:=eN X.prog X.w) (r:=s1.heap.objs.size) (d:=a) (kvs:=vs) (ep:=ep)) (I.ok.hd hcalm) ⟨⟨_,Heap.get?_push_size _ rfl,rfl,rfl⟩,da.push _⟩ (by omega) fun h' tk acc c hk hS hacc=>?_
  have e:acc.toList=vs.map (·.2):=kdl_vals_eq acc.toList (by rw [Array.length_toList];exact hacc.1) fun j v ej=>hacc.2 j v (by rw [← Array.getElem?_toList];exact ej)
  refine ⟨.ref (s1.heap.push { cls:=.type "dict_values",data:=.fields #[.ref a] }).objs.size,_,I1.laid (t':=tk) (fun b o e=>hk b o (Heap.get?_push_of_some _ e)) (by rw [hsz];exact Nat.le_succ _)
    (show eO X.prog X.w _ h' _ (.lst (kvs.map (·.2))) from ⟨by rw [List.length_map];exact hz,acc.toList,c,by rw [e];exact rel.vals,by simpa using hS⟩),rfl,q1 _ (I1.hok.fresh (by rw [hsz];exact Nat.le_succ _))⟩
end
end L2
namespace L2
open PySem PySem.W PySem.Spec PyProof.Rows
section
variable {X:Cx}
abbrev oLic (l:Lic):HO:=.tup (sG l)
abbrev oInts (w:List Int):HO:=.lst (w.map V.int)
end
end L2
namespace L2
open PySem PySem.W PySem.Spec PyProof.Rows
end L2
namespace L2
open PySem PySem.W PySem.Spec PyProof.Rows
end L2
namespace HT
open PySem PyProof.Rows
end HT
namespace L2
open PySem PySem.W PySem.Spec PyProof.Rows
end L2
namespace L2
open PySem PySem.Spec PyProof.Rows
def Its (x:Str):It:=⟨fun i _=>i<x.cps.size,fun i H y H'=>H'=H∧∃ c,x.cps[i]?=some c∧y=.str ⟨#[c]⟩,fun i _=>x.cps.size≤i⟩
theorem JK {P:Program} {w:World} {K:PySem.W.Frag} {tg:Expr} (it:Addr) (x:Str) (t:Tok):Turn P w K tg (Its x) [it] it (fun i h=>h.IsStrIter it "str_ascii_iterator" x t i) where
  mem:=by simp
  obj:=fun i h st b hb=>by
    have e:b=it:=by simpa using hb
    subst e
    obtain ⟨o,e,c,d⟩:=st
    exact ⟨o,e,fun v z=>by rw [d] at z;cases z⟩
  keep:=fun i h h' st k=>let ⟨o,e,r⟩:=st;⟨o,k it (by simp) o e,r⟩
  item:=by
    intro X hP hw hK hc i pins s σ H E I hf st hg
    subst hP hw hK
    obtain ⟨f0,f1,f2,f3,f4,f5⟩:=hf it (by simp)
    have hg:i<x.cps.size:=hg
    have hx:x.cps[i]?=some x.cps[i]:=by simp [hg]
    refine wpAny_pyNext_ascii_item st hx fun h' st' sb=>?_
    have I1:Inv X pins σ H { s with heap:=h',toks:=s.toks + 1 }:=I.turned (fun b o hb e=>(sb.2 b hb).trans e) f0 f1 f3 f4 f5
    obtain ⟨o,e,c,d⟩:=id st'
    exact ⟨_,rfl,Vd (s:={ s with heap:=h',toks:=s.toks + 1 }) e c d (by decide) ⟨.str ⟨#[x.cps[i]]⟩,H,I1,⟨_,rfl⟩,⟨rfl,_,hx,rfl⟩,st',fun b hb=>(hf b hb).1⟩⟩
  done:=by
    intro X hP hw hK hc i pins s σ H E I hf st hg
    subst hP hw hK
    obtain ⟨f0,f1,f2,f3,f4,f5⟩:=hf it (by simp)
    have hg:x.cps.size≤i:=hg
    exact wpAny_pyNext_ascii_end (I.ok.hd hc) st (by simp [hg]) fun h' eb=>⟨rfl,I.turned (t':=s.toks) (fun b o hb e=>eb b o hb e) f0 f1 f3 f4 f5⟩
  self:=fun _ _ _ _ _ st h=>wpAny_pyIter_striter_ascii st h
section
variable {X:Cx} {tg:Expr}
def iStr (tl:TE):TI:=fun σ H R=>tl σ H fun v H1=>∃ x,v=.str x∧x.cps.all (·<128)=true∧R (Its x) H1
theorem V8 {l:Expr} {tl:TE} (hl:PE X l tl):PI X tg l (iStr tl):=by
  intro pins s σ H R I h
  refine thn (hl pins s σ H _ I h) fun v s1 ⟨x,H1,I1,r1,q1⟩=>?_
  obtain ⟨z,e,ha,q⟩:=q1
  subst e
  obtain ⟨t,rfl⟩:=r1
  refine wpAny_pyIter_ascii ha ?_
  refine ⟨s1.heap.objs.size,[s1.heap.objs.size],_,_,H1,rfl,I1.kept (t':=s1.toks) fun b o e=>Heap.get?_push_of_some _ e,JK _ z t,⟨_,Heap.get?_push_size _ rfl,rfl,rfl⟩,fun b hb=>?_,q⟩
  have e:b=s1.heap.objs.size:=by simpa using hb
  subst e
  exact I1.yI (Nat.le_refl _) (I1.hok.fresh (Nat.le_refl _))
theorem K9 {x:Str} {acc:Addr} {g:TG} {tc:TT} {te:TE} {τ:St} {H1:Hp} {Q:Hp→Prop} (Pv:Nat→St→Hp→Prop) (h0:Pv 0 τ (upd H1 acc (.lst [])))
    (hs:∀ i c τ H,x.cps[i]?=some c→Pv i τ H→g (.str ⟨#[c]⟩) τ H fun τ4 H4=>tc τ4 H4 fun b H5=>if b=true then te τ4 H5 fun y H6=>∃ ys,H6 acc=some (.lst ys)∧ys.length<sizeLine∧Pv (i + 1) τ4 (upd H6 acc (.lst (ys++[y]))) else Pv (i + 1) τ4 H5)
    (hd:∀ τ H,Pv x.cps.size τ H→Q H):pX (Its x) acc g tc te τ H1 Q:=by
  refine ⟨fun i m τ H=>m=x.cps.size - i∧i≤x.cps.size∧Pv i τ H,⟨x.cps.size,by simp,Nat.zero_le _,h0⟩,?_⟩
  rintro i m τ H ⟨rfl,hi,p⟩
  by_cases hlt:i<x.cps.size
  · refine .inr ⟨hlt,Pv (i + 1),fun τ' H' p'=>⟨x.cps.size - (i + 1),by omega,rfl,hlt,p'⟩,fun y H' e=>?_⟩
    obtain ⟨e,c,hc,ey⟩:=e
    subst e ey
    exact hs i c τ _ hc p
  · have e:i=x.cps.size:=by omega
    subst e
    exact .inl ⟨Nat.le_refl _,hd τ H p⟩
structure Dm (K:PySem.W.Frag) (C:Addr) (x qual:Str) (st:Stmt) (ps:List Str) (a:Addr) (fd:FuncData):Prop where
  F:Fun K x qual st a fd
  b:Binds K fd ps []
  m:Meth K C x a
structure Vy (K:PySem.W.Frag) (x qual:Str) (st:Stmt) (dv:List Value) (f:Addr) (fd:FuncData):Prop where
  ex:∃ (oc:Value) (od:Option Addr) (T:Addr) (o:Obj) (n:Nat) (kV doc pm:Value) (an:Option Addr) (cdv ct:Value) (osl:Array (Option Value)),
    fd=PySem.W.fnOf x qual (aA st) (aq st) (ao st) (.ref T) kV doc pm an cdv ct∧K.lookup f=some ⟨oc,od,.func fd,osl⟩∧PySem.W.codeIn K cdv qual=true∧K.lookup T=some o∧o.data=.seq dv.toArray n
  kp:PySem.W.keepIn K (.ref f)=true
section
variable {P:Program} {w:World} {K:PySem.W.Frag} {mg:Str→Option Value} {base:Heap} {x qual:Str} {st:Stmt} {dv:List Value} {f:Addr} {fd:FuncData} {N ps:List Str} {k:Nat} {sp:Sp}
theorem Vy.ok (F:Vy K x qual st dv f fd) (S:aH N ps (ao st)) (len:∀ vs H Q E,sp vs H Q E→vs.length=ps.length)
    (hbody:∀ (cdv:Value) (A:Around) (outer:List Env) (s:Shared) (H:Hp) (vs:List V) (Q:VK) (E:XK),lQ k (A.deeper (envOfC qual (ao st) s.heap.objs.size f cdv))→sp vs H Q E →
      ∃ t,PSs (Jd CX0 P w K mg base N qual (ao st) f cdv A outer s H E).nox (aq st) t∧t { nx:=fun _ H'=>Q .non H',rt:=Q } (start N vs) H):bN P w K mg base CX0 (k + 1) f fd ps sp:=by
  obtain ⟨oc,od,T,o,n,kV,doc,pm,an,cdv,ct,osl,rfl,lk,hcd,_⟩:=F.ex
  refine K3 lk hcd S len fun A outer s H vs Q E hr hsp=>?_
  obtain ⟨t,h,q⟩:=hbody cdv A outer s H vs Q E hr hsp
  exact ⟨t,h.nox,q⟩
theorem Vy.binds {ds:List Value} (F:Vy K x qual st dv f fd)
    (h:∀ (T:Addr) (kV doc pm:Value) (an:Option Addr) (cdv ct:Value) (us:List Value),(us++ds).length=ps.length→∃ k:Option (Array Value)→Sem (List (Str × Value)),
      bindArgs (PySem.W.fnOf x qual (aA st) (aq st) (ao st) (.ref T) kV doc pm an cdv ct) ⟨us,[]⟩=(seqItems? (.ref T) >>= k)∧k (some dv.toArray)=pure (ps.zip (us++ds))):Binds K fd ps ds:=by
  obtain ⟨oc,od,T,o,n,kV,doc,pm,an,cdv,ct,osl,rfl,lk,hcd,lt,hs⟩:=F.ex
  intro s us X hl
  obtain ⟨k,h1,h2⟩:=h T kV doc pm an cdv ct us hl
  exact BindsTo.of_defaults rfl (X _ _ lt) hs h1 h2
end
structure DmD (K:PySem.W.Frag) (C:Addr) (x qual:Str) (st:Stmt) (ps:List Str) (a:Addr) (fd:FuncData):Prop where
  F:Vy K x qual st [.none] a fd
  b0:Binds K fd ps []
  b1:Binds K fd ps [.none]
  m:Meth K C x a
structure Cl (K:PySem.W.Frag) (mg:Str→Option Value) (x:Str) (C f:Addr) (fs:List Str):Prop where
  c:Cls K C
  k:Mk K C f
  m:mg x=some (.ref C)
  n:∀ y∈fs,jC K C y
end
section
variable {T:eH} {H0 H:Hp} {L R B:List (Addr × HO)} {a b:Addr} {o o':HO} {x y:Addr × HO}
theorem Ow.ne (O:Ow T H0 H L) (i j:Nat) (hi:L[i]?=some (a,o):=by rfl) (hj:L[j]?=some (b,o'):=by rfl) (hij:i≠j:=by decide):a≠b:=by
  intro e
  subst e
  have h1:(L.map (·.1))[i]?=some a:=by rw [List.getElem?_map,hi];rfl
  have h2:(L.map (·.1))[j]?=some a:=by rw [List.getElem?_map,hj];rfl
  exact hij ((List.getElem?_inj (List.getElem?_eq_some_iff.mp h1).1 O.nd).mp (h1.trans h2.symm))
theorem Ow.mid (O:Ow T H0 H (x :: (R++B))):Ow T H0 H (R++x :: B):=O.perm List.perm_middle
end
end L2
namespace Rv
def gH (r:List Int):Prop:=∃ rk:Nat→Nat,(∀ i,i<r.length→rk i<r.length) ∧
  ∀ (i:Nat) (x:Int),r[i]?=some x→x=-1∨(0≤x∧x<r.length∧rk x.toNat<rk i)
def nxt (r:List Int) (p:Int):Int:=r.getD p.toNat (-1)
theorem iZ {r:List Int} {p:Int} (h0:0≤p) (h1:p<r.length):r[p.toNat]?=some (nxt r p):=by
  have h:p.toNat<r.length:=by omega
  unfold nxt
  rw [List.getD_eq_getElem?_getD,List.getElem?_eq_getElem h];rfl
theorem gH.step {r:List Int} (h:gH r) {p:Int} (h0:0≤p) (h1:p<r.length):nxt r p=-1∨(0≤nxt r p∧nxt r p<r.length):=by
  obtain ⟨rk,_,h3⟩:=h
  rcases h3 _ _ (iZ h0 h1) with e | ⟨a,b,_⟩
  · exact .inl e
  · exact .inr ⟨a,b⟩
def nZ (r:List Int):Nat→Int→List Int
  | 0,_=>[]
  | f + 1,p=>if p=-1 then [] else p :: nZ r f (nxt r p)
def walk (r:List Int) (p:Int):List Int:=nZ r (r.length + 1) p
theorem lR (r:List Int) (f:Nat):nZ r f (-1)=[]:=by
  cases f with
  | zero=>rfl
  | succ f=>unfold nZ;rw [if_pos rfl]
theorem jF (r:List Int):walk r (-1)=[]:=lR r _
theorem m8 {r:List Int} {rk:Nat→Nat} (h:∀ (i:Nat) (x:Int),r[i]?=some x→x=-1∨(0≤x∧x<r.length∧rk x.toNat<rk i)) :
    ∀ (f g:Nat) (p:Int),0≤p→p<r.length→rk p.toNat<f→rk p.toNat<g→nZ r f p=nZ r g p
  | 0,_,_,_,_,hf,_=>by omega
  | _ + 1,0,_,_,_,_,hg=>by omega
  | f + 1,g + 1,p,h0,h1,hf,hg=>by
    unfold nZ
    rw [if_neg (by omega),if_neg (by omega)]
    rcases h _ _ (iZ h0 h1) with e | ⟨a,b,c⟩
    · rw [e,lR,lR]
    · rw [m8 h f g _ a b (by omega) (by omega)]
theorem dI {r:List Int} (h:gH r) {p:Int} (h0:0≤p) (h1:p<r.length):walk r p=p :: walk r (nxt r p):=by
  obtain ⟨rk,h2,h3⟩:=h
  show nZ r (r.length + 1) p=_
  unfold nZ
  rw [if_neg (by omega)]
  rcases h3 _ _ (iZ h0 h1) with e | ⟨a,b,c⟩
  · rw [e,lR,jF]
  · have:=h2 p.toNat (by omega)
    unfold walk
    rw [m8 h3 r.length (r.length + 1) _ a b (by omega) (by omega)]
theorem sJ (r:List Int):∀ (f:Nat) (p:Int),(nZ r f p).length≤f
  | 0,_=>Nat.le_refl _
  | f + 1,p=>by
    unfold nZ
    split
    · exact Nat.zero_le _
    · exact Nat.succ_le_succ (sJ r f _)
theorem wj (r:List Int) (p:Int):(walk r p).length≤r.length + 1:=sJ r _ _
theorem gH.ind {r:List Int} (h:gH r) {P:Int→Prop} (hm:P (-1)) (hs:∀ p:Int,0≤p→p<r.length→P (nxt r p)→P p):∀ p:Int,0≤p→p<r.length→P p:=by
  obtain ⟨rk,_,h3⟩:=h
  have key:∀ (n:Nat) (p:Int),0≤p→p<r.length→rk p.toNat<n→P p:=by
    intro n
    induction n with
    | zero=>intro p _ _ h;omega
    | succ n ih =>
      intro p h0 h1 h2
      refine hs p h0 h1 ?_
      rcases h3 _ _ (iZ h0 h1) with e | ⟨a,b,c⟩
      · rw [e];exact hm
      · exact ih _ a b (by omega)
  exact fun p h0 h1=>key _ p h0 h1 (Nat.lt_succ_self _)
theorem JG {r:List Int} (h:gH r):∀ p:Int,0≤p→p<r.length→∀ q∈walk r p,0≤q∧q<r.length:=by
  refine h.ind (P:=fun p=>∀ q∈walk r p,0≤q∧q<r.length) ?_ ?_
  · intro q hq;rw [jF] at hq;cases hq
  · intro p h0 h1 ih q hq
    rw [dI h h0 h1] at hq
    rcases List.mem_cons.mp hq with e | e
    · rw [e];exact ⟨h0,h1⟩
    · exact ih q e
noncomputable def mea (r:List Int) (p:Int):Nat:=(walk r p).length
theorem Lr {r:List Int} (h:gH r) {p:Int} (h0:0≤p) (h1:p<r.length):mea r (nxt r p)<mea r p:=by
  unfold mea;rw [dI h h0 h1];exact Nat.lt_succ_self _
def stp (r:List Int) (p:Int):Int:=if p=-1 then -1 else nxt r p
def mW (r:List Int):Nat→Int→Int
  | 0,p=>p
  | f + 1,p=>mW r f (stp r p)
theorem wF (r:List Int):∀ f,mW r f (-1)=-1
  | 0=>rfl
  | f + 1=>by
    show mW r f (stp r (-1))=-1
    unfold stp
    rw [if_pos rfl];exact wF r f
theorem kJ (r:List Int):∀ (f:Nat) (p:Int),mW r (f + 1) p=stp r (mW r f p)
  | 0,_=>rfl
  | f + 1,p=>by
    show mW r (f + 1) (stp r p)=stp r (mW r f (stp r p))
    exact kJ r f (stp r p)
theorem wG (r:List Int) (p:Int) {f:Nat} (h:mW r f p=-1):∀ g,mW r (f + g) p=-1
  | 0=>h
  | g + 1=>by
    rw [show f + (g + 1)=(f + g) + 1 from rfl,kJ,wG r p h g]
    unfold stp;rw [if_pos rfl]
def inB (r:List Int):Prop:=∀ x∈r,-1≤x∧x<(r.length:Int)
instance (r:List Int):Decidable (inB r):=inferInstanceAs (Decidable (∀ x∈r,-1≤x∧x<(r.length:Int)))
theorem Ub {r:List Int} (h:inB r) {p:Int} (h0:0≤p) (h1:p<r.length):-1≤nxt r p∧nxt r p<r.length:=h _ (List.mem_of_getElem? (iZ h0 h1))
theorem xK {r:List Int} (h:inB r) {p:Int} (h0:0≤p) (h1:p<r.length):∀ f,-1≤mW r f p∧mW r f p<(r.length:Int)
  | 0=>⟨by show -1≤p;omega,h1⟩
  | f + 1=>by
    rw [kJ]
    obtain ⟨a,b⟩:=xK h h0 h1 f
    unfold stp
    by_cases e:mW r f p=-1
    · rw [if_pos e];omega
    · rw [if_neg e];exact Ub h (by omega) b
def isR (r:List Int):Bool:=decide (1≤r.length∧r.length≤40) && decide (inB r) && decide (∀ i,i<r.length→mW r r.length (i:Int)=-1)
theorem xZ {r:List Int} (h:gH r):∃ rk:Nat→Nat,∀ p:Int,0≤p→p<r.length→(walk r p).Nodup∧∀ q∈walk r p,rk q.toNat≤rk p.toNat:=by
  obtain ⟨rk,h2,h3⟩:=id h
  refine ⟨rk,?_⟩
  have key:=h.ind (P:=fun p=>(walk r p).Nodup∧(0≤p→∀ q∈walk r p,rk q.toNat≤rk p.toNat)) ?_ ?_
  · exact fun p h0 h1=>⟨(key p h0 h1).1,(key p h0 h1).2 h0⟩
  · rw [jF];exact ⟨List.nodup_nil,fun h=>by omega⟩
  · intro p h0 h1 ⟨nd,ih⟩
    rw [dI h h0 h1]
    rcases h3 _ _ (iZ h0 h1) with e | ⟨a,b,c⟩
    · rw [e,jF]
      refine ⟨by simp,fun _ q hq=>?_⟩
      have:q=p:=by simpa using hq
      rw [this];exact Nat.le_refl _
    · have ih':=ih a
      refine ⟨List.nodup_cons.mpr ⟨fun hm=>?_,nd⟩,fun _ q hq=>?_⟩
      · have:=ih' p hm
        omega
      · rcases List.mem_cons.mp hq with e | e
        · rw [e];exact Nat.le_refl _
        · have:=ih' q e;omega
theorem uY {r:List Int} (h:gH r) {p:Int} (h0:0≤p) (h1:p<r.length):(walk r p).Nodup:=by
  obtain ⟨rk,k⟩:=xZ h
  exact (k p h0 h1).1
end Rv
namespace Rv
def tot:Nat→(Nat→Int)→Int
  | 0,_=>0
  | n + 1,f=>tot n f + f n
theorem jV {n:Nat} {f g:Nat→Int} (h:∀ i,i<n→f i=g i):tot n f=tot n g:=by
  induction n with
  | zero=>rfl
  | succ n ih=>unfold tot;rw [ih fun i hi=>h i (by omega),h n (by omega)]
theorem uZ (n:Nat) (f g:Nat→Int):tot n (fun i=>f i + g i)=tot n f + tot n g:=by
  induction n with
  | zero=>rfl
  | succ n ih=>unfold tot;rw [ih];dsimp only;omega
theorem nR {n:Nat} {f:Nat→Int} (h:∀ i,i<n→f i=0):tot n f=0:=by
  induction n with
  | zero=>rfl
  | succ n ih=>unfold tot;rw [ih fun i hi=>h i (by omega),h n (by omega)];rfl
theorem JL (n m:Nat) (f:Nat→Nat→Int):tot n (fun i=>tot m (fun j=>f i j))=tot m (fun j=>tot n (fun i=>f i j)):=by
  induction n with
  | zero=>exact (nR fun _ _=>rfl).symm
  | succ n ih=>show tot n _ + tot m _=_;rw [ih,← uZ];rfl
theorem zu {n k:Nat} (f:Nat→Int) (hk:k<n):tot n (fun i=>if i=k then f i else 0)=f k:=by
  induction n with
  | zero=>omega
  | succ n ih =>
    unfold tot
    dsimp only
    by_cases h:k=n
    · subst h
      rw [if_pos rfl,nR fun i hi=>if_neg (by omega)];omega
    · rw [ih (by omega),if_neg (fun (z:n=k)=>h z.symm)];omega
theorem S7 (n:Nat) (c:Int) (f:Nat→Int):tot n (fun i=>c * f i)=c * tot n f:=by
  induction n with
  | zero=>simp [tot]
  | succ n ih=>unfold tot;rw [ih,Int.mul_add]
theorem S8 (n:Nat) (f:Nat→Int) (p:Prop) [Decidable p]:tot n (fun i=>if p then f i else 0)=if p then tot n f else 0:=by
  by_cases h:p
  · rw [if_pos h];exact jV fun i _=>if_pos h
  · rw [if_neg h];exact nR fun i _=>if_neg h
def lsum:List Nat→(Nat→Int)→Int
  | [],_=>0
  | k :: l,f=>f k + lsum l f
theorem kY (f:Nat→Int):∀ (l m:List Nat),lsum (l++m) f=lsum l f + lsum m f
  | [],m=>by show _=0 + _;rw [Int.zero_add];rfl
  | k :: l,m=>by show f k + lsum (l++m) f=f k + lsum l f + lsum m f;rw [kY f l m];omega
theorem ug {f:Nat→Int} {l m:List Nat} (h:l.Perm m):lsum l f=lsum m f:=by
  induction h with
  | nil=>rfl
  | cons k _ ih=>show f k + _=f k + _;rw [ih]
  | swap a b l=>show f b + (f a + _)=f a + (f b + _);omega
  | trans _ _ h1 h2=>exact h1.trans h2
theorem m5 (f:Nat→Int):∀ n,lsum (List.range n) f=tot n f
  | 0=>rfl
  | n + 1=>by rw [List.range_succ,kY,m5 f n];show _ + (f n + 0)=_ + f n;omega
theorem uf {f:Nat→Int}:∀ {l:List Nat},(∀ k∈l,f k=0)→lsum l f=0
  | [],_=>rfl
  | k :: l,h=>by show f k + lsum l f=0;rw [h k List.mem_cons_self,uf fun j hj=>h j (List.mem_cons_of_mem _ hj)];rfl
def one (p:Prop) [Decidable p]:Int:=if p then 1 else 0
def vJ (r s:List Int) (i:Int):Int:=tot r.length fun j=>if i∈walk r (j:Int) then s.getD j 0 else 0
theorem met {r:List Int} (h:gH r) {i:Int} (hi:0≤i):∀ p:Int,0≤p→p<r.length→one (i∈walk r p)=one (p=i) + tot r.length fun k=>if nxt r (k:Int)=i then one ((k:Int)∈walk r p) else 0:=by
  have key:=h.ind (P:=fun p=>(p=-1∨(0≤p∧p<r.length))→one (i∈walk r p)=one (p=i) + tot r.length fun k=>if nxt r (k:Int)=i then one ((k:Int)∈walk r p) else 0) ?_ ?_
  · exact fun p h0 h1=>key p h0 h1 (.inr ⟨h0,h1⟩)
  · intro _
    rw [jF,nR fun k _=>?_]
    · unfold one;rw [if_neg (by simp),if_neg (by omega)];rfl
    · unfold one;rw [if_neg (show ¬ (k:Int)∈([]:List Int) by simp)];split <;> rfl
  · intro p h0 h1 ih _
    have ih':=ih (h.step h0 h1)
    have nd:=uY h h0 h1
    rw [dI h h0 h1] at nd ⊢
    obtain ⟨np,_⟩:=List.nodup_cons.mp nd
    have e1:one (i∈p :: walk r (nxt r p))=one (p=i) + one (i∈walk r (nxt r p)):=by
      unfold one
      by_cases hpi:p=i
      · subst hpi
        rw [if_pos List.mem_cons_self,if_pos rfl,if_neg np];rfl
      · rw [if_neg hpi]
        by_cases hm:i∈walk r (nxt r p)
        · rw [if_pos (List.mem_cons_of_mem _ hm),if_pos hm];rfl
        · rw [if_neg hm,if_neg fun z=>?_];· rfl
          rcases List.mem_cons.mp z with z | z
          · exact hpi z.symm
          · exact hm z
    have e2:(tot r.length fun k=>if nxt r (k:Int)=i then one ((k:Int)∈p :: walk r (nxt r p)) else 0) =
        one (nxt r p=i) + tot r.length fun k=>if nxt r (k:Int)=i then one ((k:Int)∈walk r (nxt r p)) else 0:=by
      have:(tot r.length fun k=>if nxt r (k:Int)=i then one ((k:Int)∈p :: walk r (nxt r p)) else 0) =
          tot r.length fun k=>(if k=p.toNat then (fun k=>if nxt r (k:Int)=i then (1:Int) else 0) k else 0) + if nxt r (k:Int)=i then one ((k:Int)∈walk r (nxt r p)) else 0:=by
        refine jV fun k hk=>?_
        by_cases hn:nxt r (k:Int)=i
        · simp only [if_pos hn]
          by_cases hkp:k=p.toNat
          · have hkp':(k:Int)=p:=by omega
            rw [if_pos hkp,hkp']
            unfold one
            rw [if_pos List.mem_cons_self,if_neg np];rfl
          · have hkp':¬ (k:Int)=p:=by omega
            rw [if_neg hkp]
            unfold one
            by_cases hm:(k:Int)∈walk r (nxt r p)
            · rw [if_pos (List.mem_cons_of_mem _ hm),if_pos hm];rfl
            · rw [if_neg hm,if_neg fun z=>?_];· rfl
              rcases List.mem_cons.mp z with z | z
              · exact hkp' z
              · exact hm z
        · simp only [if_neg hn];split <;> rfl
      rw [this,uZ,zu _ (by omega)]
      have e:((p.toNat:Nat):Int)=p:=by omega
      show (if nxt r ((p.toNat:Nat):Int)=i then (1:Int) else 0) + _=_
      rw [e];rfl
    rw [e1,e2,ih']
theorem xq {r:List Int} (h:gH r) (s:List Int) {i:Nat} (hi:i<r.length):vJ r s (i:Int)=s.getD i 0 + tot r.length fun k=>if nxt r (k:Int)=(i:Int) then vJ r s (k:Int) else 0:=by
  have e:vJ r s (i:Int)=tot r.length fun j=>(if j=i then s.getD j 0 else 0) + tot r.length fun k=>if nxt r (k:Int)=(i:Int) then (if (k:Int)∈walk r (j:Int) then s.getD j 0 else 0) else 0:=by
    refine jV fun j hj=>?_
    have m:=met h (i:=(i:Int)) (by omega) (j:Int) (by omega) (by omega)
    have e1:(if (i:Int)∈walk r (j:Int) then s.getD j 0 else 0)=s.getD j 0 * one ((i:Int)∈walk r (j:Int)):=by unfold one;split <;> simp
    rw [e1,m,Int.mul_add,← S7]
    congr 1
    · unfold one
      by_cases hji:j=i
      · rw [if_pos (by omega),if_pos hji];simp
      · rw [if_neg (by omega),if_neg hji];simp
    · refine jV fun k hk=>?_
      split
      · unfold one;split <;> simp
      · simp
  rw [e,uZ,zu (fun j=>s.getD j 0) hi,JL]
  congr 1
  refine jV fun k hk=>?_
  rw [S8]
  rfl
def ou (r:List Int) (a b:Int):List Int:=if b=-1 then walk r a else (walk r a).takeWhile (fun x=>!decide (x=b))
def Stop (r:List Int) (a b:Int):Prop:=b=-1∨b∈walk r a
theorem zA {r:List Int} {a b x:Int} (h:x∈ou r a b):x∈walk r a:=by
  unfold ou at h
  split at h
  · exact h
  · exact (List.takeWhile_prefix _).subset h
theorem JR {r:List Int} (h:gH r) {a b:Int} (h0:0≤a) (h1:a<r.length):(ou r a b).Nodup:=by
  unfold ou
  split
  · exact uY h h0 h1
  · exact (uY h h0 h1).sublist (List.takeWhile_sublist _)
end Rv
namespace Rv
structure Fl (n:Nat) (fl:List Int) (g:Nat→Int):Prop where
  len:fl.length=n
  at_:∀ i,i<n→fl[i]?=some (g i)
theorem Fl.of (fl:List Int):Fl fl.length fl (fun i=>fl.getD i 0):=⟨rfl,fun i hi=>by rw [List.getElem?_eq_getElem hi,List.getD_eq_getElem?_getD,List.getElem?_eq_getElem hi];rfl⟩
theorem Fl.yS {n:Nat} {fl:List Int} {g g':Nat→Int} (h:Fl n fl g) (e:∀ i,i<n→g i=g' i):Fl n fl g':=⟨h.len,fun i hi=>by rw [h.at_ i hi,e i hi]⟩
theorem Fl.set {n:Nat} {fl:List Int} {g g':Nat→Int} {j:Nat} {y:Int} (h:Fl n fl g) (hj:j<n) (e:∀ i,i<n→i≠j→g' i=g i) (ey:y=g' j):Fl n (fl.set j y) g' :=
  ⟨by rw [List.length_set];exact h.len,fun i hi=>by
    by_cases hij:i=j
    · subst hij;rw [List.getElem?_set_self (by rw [h.len];exact hj),ey]
    · rw [List.getElem?_set_ne (Ne.symm hij),h.at_ i hi,e i hi hij]⟩
theorem Fl.ext {n:Nat} {fl fl':List Int} {g:Nat→Int} (h:Fl n fl g) (h':Fl n fl' g):fl=fl':=by
  apply List.ext_getElem?
  intro i
  by_cases hi:i<n
  · rw [h.at_ i hi,h'.at_ i hi]
  · rw [List.getElem?_eq_none (by rw [h.len];omega),List.getElem?_eq_none (by rw [h'.len];omega)]
theorem Fl.map (n:Nat) (g:Nat→Int):Fl n ((List.range n).map g) g:=⟨by simp,fun i hi=>by rw [List.getElem?_map,List.getElem?_range hi];rfl⟩
def kap (r:List Int) (i:Nat):Int:=(i:Int) - 64 * ((walk r (i:Int)).length:Int)
structure JC (r:List Int) (p:List Nat):Prop where
  perm:p.Perm (List.range r.length)
  ord:p.Pairwise fun i j=>kap r i<kap r j
theorem JC.len {r:List Int} {p:List Nat} (h:JC r p):p.length=r.length:=by rw [h.perm.length_eq,List.length_range]
theorem JC.lt {r:List Int} {p:List Nat} (h:JC r p) {j:Nat} (hj:j∈p):j<r.length:=List.mem_range.mp (h.perm.mem_iff.mp hj)
theorem JC.first {r:List Int} {p p1 p2:List Nat} {j k:Nat} (h:JC r p) (hR:gH r) (h64:r.length<64) (e:p=p1++j :: p2) (hk:k<r.length) (hn:nxt r (k:Int)=(j:Int)):k∈p1:=by
  have hjm:j∈p:=by rw [e];simp
  have hj:=h.lt hjm
  have hkm:k∈p:=h.perm.mem_iff.mpr (List.mem_range.mpr hk)
  have hw:(walk r (k:Int)).length=(walk r (j:Int)).length + 1:=by rw [dI hR (p:=(k:Int)) (by omega) (by omega),hn,List.length_cons]
  have hlt:kap r k<kap r j:=by unfold kap;omega
  rw [e] at hkm
  rcases List.mem_append.mp hkm with z | z
  · exact z
  · have ord:=h.ord
    rw [e,List.pairwise_append] at ord
    rcases List.mem_cons.mp z with z | z
    · subst z;omega
    · have:=(List.pairwise_cons.mp ord.2.1).1 k z
      omega
def nats (r s:List Int):List Int:=(List.range r.length).map fun (i:Nat)=>vJ r s (i:Int)
theorem Bb (r s:List Int):Fl r.length (nats r s) fun i=>vJ r s (i:Int):=Fl.map _ _
def xX (r s:List Int) (p:List Nat) (t:Nat) (fl:List Int):Prop:=Fl r.length fl fun i=>s.getD i 0 + lsum (p.take t) fun k=>if nxt r (k:Int)=(i:Int) then vJ r s (k:Int) else 0
theorem xX.start (r s:List Int) (p:List Nat) (hs:s.length=r.length):xX r s p 0 s:=by
  have:=Fl.of s
  rw [hs] at this
  exact this.yS fun i _=>by rw [List.take_zero];show _=_ + 0;omega
theorem take_cons {p:List Nat} {t j:Nat} (h:p[t]?=some j):p.take (t + 1)=p.take t++[j]:=by rw [List.take_add_one,h];rfl
theorem xX.here {r s:List Int} {p:List Nat} {t j:Nat} {fl:List Int} (T:JC r p) (hR:gH r) (h64:r.length<64) (h:xX r s p t fl) (hj:p[t]?=some j):fl[j]?=some (vJ r s (j:Int)):=by
  have hjl:=T.lt (List.mem_of_getElem? hj)
  rw [h.at_ j hjl,xq hR s hjl]
  congr 2
  rw [← m5,← ug T.perm]
  obtain ⟨ht,et⟩:=List.getElem?_eq_some_iff.mp hj
  have e:p=p.take t++j :: p.drop (t + 1):=by
    rw [← et,List.getElem_cons_drop,List.take_append_drop]
  conv=>rhs;rw [e]
  rw [kY]
  have z:lsum (j :: p.drop (t + 1)) (fun k=>if nxt r (k:Int)=(j:Int) then vJ r s (k:Int) else 0)=0:=by
    refine uf fun k hk=>if_neg fun hn=>?_
    have hkp:k∈p:=by rw [e];exact List.mem_append_right _ hk
    have h1:=T.first hR h64 e (T.lt hkp) hn
    have nd:p.Nodup:=T.perm.nodup_iff.mpr List.nodup_range
    rw [e,List.nodup_append] at nd
    exact nd.2.2 k h1 k hk rfl
  rw [z];omega
theorem xX.ZP {r s:List Int} {p:List Nat} {t j:Nat} {fl:List Int} (h:xX r s p t fl) (hj:p[t]?=some j) (hm:nxt r (j:Int)=-1):xX r s p (t + 1) fl :=
  Fl.yS h fun i _=>by
    rw [take_cons hj,kY]
    show _=_ + (_ + ((if nxt r (j:Int)=(i:Int) then vJ r s (j:Int) else 0) + 0))
    rw [if_neg (by omega)];omega
theorem xX.turn {r s:List Int} {p:List Nat} {t j b:Nat} {fl:List Int} (T:JC r p) (hR:gH r) (h64:r.length<64) (h:xX r s p t fl) (hj:p[t]?=some j) (hb:nxt r (j:Int)=(b:Int)) (hbl:b<r.length) {x:Int} (hx:fl[b]?=some x) :
    xX r s p (t + 1) (fl.set b (x + vJ r s (j:Int))):=by
  refine Fl.set h hbl (fun i _ hib=>?_) ?_
  · rw [take_cons hj,kY]
    show _ + (_ + ((if nxt r (j:Int)=(i:Int) then vJ r s (j:Int) else 0) + 0))=_
    rw [if_neg (by omega)];omega
  · rw [h.at_ b hbl] at hx
    rw [← Option.some.inj hx,take_cons hj,kY]
    show _=_ + (_ + ((if nxt r (j:Int)=(b:Int) then vJ r s (j:Int) else 0) + 0))
    rw [if_pos hb];omega
theorem xX.done {r s:List Int} {p:List Nat} {fl:List Int} (T:JC r p) (hR:gH r) (h:xX r s p r.length fl):fl=nats r s:=by
  refine Fl.ext (g:=fun i=>vJ r s (i:Int)) (Fl.yS h fun i hi=>?_) (Bb r s)
  rw [← T.len,List.take_length,xq hR s hi,← m5,ug T.perm]
abbrev Mv:=Int × Int × Int
end Rv
namespace Rv
end Rv
namespace Rv
end Rv
namespace Rv
end Rv
namespace Rv
end Rv
namespace Rv
end Rv
namespace Tn
def iu:Nat→(Nat→Int)→Int
  | 0,_=>0
  | n + 1,f=>iu n f + f n
theorem bJ {f g:Nat→Int}:∀ {n:Nat},(∀ k,k<n→f k=g k)→iu n f=iu n g
  | 0,_=>rfl
  | n + 1,h=>by
    show iu n f + f n=iu n g + g n
    rw [bJ fun k hk=>h k (by omega),h n (by omega)]
theorem oh {f g:Nat→Int}:∀ {n:Nat},(∀ k,k<n→f k≤g k)→iu n f≤iu n g
  | 0,_=>Int.le_refl _
  | n + 1,h=>by
    show iu n f + f n≤iu n g + g n
    have a:=oh fun k hk=>h k (Nat.lt_succ_of_lt hk)
    have b:=h n (Nat.lt_succ_self n)
    omega
theorem zy {f g:Nat→Int} {i:Nat}:∀ {n:Nat},i<n→(∀ k,k<n→f k≤g k)→f i<g i→iu n f<iu n g
  | 0,hi,_,_=>absurd hi (Nat.not_lt_zero _)
  | n + 1,hi,h,hl=>by
    show iu n f + f n<iu n g + g n
    by_cases e:i=n
    · subst e
      have a:=oh fun k hk=>h k (Nat.lt_succ_of_lt hk)
      omega
    · have a:=zy (n:=n) (by omega) (fun k hk=>h k (Nat.lt_succ_of_lt hk)) hl
      have b:=h n (Nat.lt_succ_self n)
      omega
theorem lV (f g:Nat→Int):∀ n:Nat,iu n (fun k=>f k + g k)=iu n f + iu n g
  | 0=>rfl
  | n + 1=>by
    show iu n _ + (f n + g n)=iu n f + f n + (iu n g + g n)
    rw [lV f g n];omega
theorem qM (f g:Nat→Int):∀ n:Nat,iu n (fun k=>f k - g k)=iu n f - iu n g
  | 0=>rfl
  | n + 1=>by
    show iu n _ + (f n - g n)=iu n f + f n - (iu n g + g n)
    rw [qM f g n];omega
theorem gZ:∀ n:Nat,iu n (fun _=>0)=0
  | 0=>rfl
  | n + 1=>by show iu n _ + 0=0;rw [gZ n];rfl
theorem jh {i:Nat} (c:Int):∀ {n:Nat},i<n→iu n (fun k=>if k=i then c else 0)=c
  | 0,hi=>absurd hi (Nat.not_lt_zero _)
  | n + 1,hi=>by
    show iu n _ + (if n=i then c else 0)=c
    by_cases e:n=i
    · subst e
      rw [if_pos rfl,bJ (g:=fun _=>0) fun k hk=>if_neg (by omega),gZ];omega
    · rw [if_neg e,jh c (by omega)];omega
theorem u5 {f:Nat→Int} {n:Nat} (h:∀ k,k<n→0≤f k):0≤iu n f:=by
  have:=oh (f:=fun _=>0) (g:=f) h
  rw [gZ] at this;exact this
theorem n6 {f:Nat→Int} {n i:Nat} (hi:i<n) (h:∀ k,k<n→0≤f k):f i≤iu n f:=by
  have:=oh (f:=fun k=>if k=i then f i else 0) (g:=f) (n:=n) fun k hk=>by
    by_cases e:k=i
    · subst e;rw [if_pos rfl];exact Int.le_refl _
    · rw [if_neg e];exact h k hk
  rw [jh _ hi] at this;exact this
def hold (n:Nat) (W:Nat→List Int) (x:Nat→Int) (r:Int):Int:=iu n fun k=>if r∈W k then x k else 0
theorem Ud {n i:Nat} {W:Nat→List Int} {x y:Nat→Int} {r:Int} (hi:i<n) (hr:r∈W i) (h:∀ k,k<n→r∈W k→x k≤y k) (hl:x i<y i):hold n W x r<hold n W y r :=
  zy hi (fun k hk=>by
    by_cases e:r∈W k
    · rw [if_pos e,if_pos e];exact h k hk e
    · rw [if_neg e,if_neg e];exact Int.le_refl _) (by rw [if_pos hr,if_pos hr];exact hl)
theorem qp {n:Nat} {W:Nat→List Int} {x y:Nat→Int} {r:Int} (h:∀ k,k<n→r∈W k→x k=y k):hold n W x r=hold n W y r :=
  bJ fun k hk=>by
    by_cases e:r∈W k
    · rw [if_pos e,if_pos e];exact h k hk e
    · rw [if_neg e,if_neg e]
def put (x:Nat→Int) (i:Nat) (c:Int):Nat→Int:=fun k=>if k=i then x k + c else x k
theorem w5 (x:Nat→Int) (i:Nat) (c:Int):put x i c i=x i + c:=if_pos rfl
theorem oJ {x:Nat→Int} {i k:Nat} {c:Int} (h:k≠i):put x i c k=x k:=if_neg h
theorem rK {n i:Nat} {W:Nat→List Int} {x:Nat→Int} {r c:Int} (hi:i<n):hold n W (put x i c) r=hold n W x r + (if r∈W i then c else 0):=by
  have e:∀ k,k<n→(if r∈W k then put x i c k else 0)=(if r∈W k then x k else 0) + (if k=i then (if r∈W i then c else 0) else 0):=fun k _=>by
    by_cases h1:r∈W k
    · by_cases h2:k=i
      · subst h2;simp [put,h1]
      · simp [put,h1,h2]
    · by_cases h2:k=i
      · subst h2;simp [h1]
      · simp [h1,h2]
  unfold hold
  rw [bJ e,lV,jh _ hi]
theorem j7 (n:Nat) (W:Nat→List Int) (r:Int):hold n W (fun _=>0) r=0:=by
  unfold hold
  rw [bJ (g:=fun _=>0) fun k _=>by split <;> rfl,gZ]
def wg (d n i d' m j:Int):Prop:=d<d'∨d=d'∧(n<m∨n=m∧i<j)
structure Fit (n:Nat) (F:Int→Int) (W:Nat→List Int) (want x:Nat→Int):Prop where
  nn:∀ k,k<n→0≤x k
  le:∀ k,k<n→x k≤want k
  fits:∀ r,(∃ k,k<n∧r∈W k)→hold n W x r≤F r
def su (n:Nat) (F:Int→Int) (W:Nat→List Int) (day x:Nat→Int) (k:Nat) (r:Int):Prop :=
  r∈W k∧hold n W x r=F r∧∀ j,j<n→r∈W j→0<x j→wg (day j) (x j) j (day k) (x k + 1) k
def m7 (n:Nat) (F:Int→Int) (W:Nat→List Int) (day want x:Nat→Int):Prop :=
  ∀ k,k<n→x k<want k→∃ r,su n F W day x k r
theorem qy {P:Nat→Prop} (f:Nat→Nat) (h:∃ k,P k):∃ k,P k∧∀ j,P j→f k≤f j:=by
  obtain ⟨k,hk⟩:=h
  have key:∀ (m k:Nat),f k≤m→P k→∃ k,P k∧∀ j,P j→f k≤f j:=by
    intro m
    induction m with
    | zero=>intro k hk hp;exact ⟨k,hp,fun j _=>by omega⟩
    | succ m ih =>
      intro k hk hp
      by_cases hx:∃ j,P j∧f j<f k
      · obtain ⟨j,hj,hl⟩:=hx
        exact ih j (by omega) hj
      · exact ⟨k,hp,fun j hj=>Classical.byContradiction fun hn=>hx ⟨j,hj,by omega⟩⟩
  exact key (f k) k (Nat.le_refl _) hk
theorem o8 {P:Nat→Prop} (f:Nat→Int) (b:Int) (hb:∀ k,P k→b≤f k) (h:∃ k,P k):∃ k,P k∧∀ j,P j→f k≤f j:=by
  obtain ⟨k,hk,hm⟩:=qy (fun k=>(f k - b).toNat) h
  refine ⟨k,hk,fun j hj=>?_⟩
  have a1:=hm j hj
  have a2:=hb k hk
  have a3:=hb j hj
  omega
theorem yJ {n:Nat} {day x y:Nat→Int} (hd:∀ k,k<n→0≤day k) (hx:∀ k,k<n→0≤x k) (hy:∀ k,k<n→0≤y k) (h:∃ k,k<n∧x k≠y k) :
    ∃ k,k<n∧x k≠y k∧∀ j,j<n→x j≠y j→j=k∨wg (day k) (min (x k) (y k)) k (day j) (min (x j) (y j)) j:=by
  obtain ⟨k1,p1,m1⟩:=o8 (P:=fun k=>k<n∧x k≠y k) day 0 (fun k hk=>hd k hk.1) h
  obtain ⟨k2,p2,m2⟩:=o8 (P:=fun k=>(k<n∧x k≠y k)∧day k=day k1) (fun k=>min (x k) (y k)) 0 (fun k hk=>by
    have a:=hx k hk.1.1
    have b:=hy k hk.1.1
    show (0:Int)≤min (x k) (y k)
    omega) ⟨k1,p1,rfl⟩
  obtain ⟨k3,p3,m3⟩:=qy (P:=fun k=>((k<n∧x k≠y k)∧day k=day k1)∧min (x k) (y k)=min (x k2) (y k2)) (fun k=>k) ⟨k2,p2,rfl⟩
  refine ⟨k3,p3.1.1.1,p3.1.1.2,fun j hj hne=>?_⟩
  have a1:=m1 j ⟨hj,hne⟩
  have a2:=p3.1.2
  by_cases hday:day j=day k1
  · have b1:=m2 j ⟨⟨hj,hne⟩,hday⟩
    have b2:=p3.2
    by_cases hmin:min (x j) (y j)=min (x k2) (y k2)
    · have c1:=m3 j ⟨⟨⟨hj,hne⟩,hday⟩,hmin⟩
      by_cases e:j=k3
      · exact .inl e
      · exact .inr (.inr ⟨by omega,.inr ⟨by omega,by omega⟩⟩)
    · refine .inr (.inr ⟨by omega,.inl ?_⟩)
      have b3:min (x k2) (y k2)≤min (x j) (y j):=b1
      omega
  · exact .inr (.inl (by omega))
theorem lG {n:Nat} {F:Int→Int} {W:Nat→List Int} {day want x y:Nat→Int} (sx:m7 n F W day want x) (fy:Fit n F W want y)
    {k:Nat} (hk:k<n) (hne:x k≠y k) (hm:∀ j,j<n→x j≠y j→j=k∨wg (day k) (min (x k) (y k)) k (day j) (min (x j) (y j)) j):y k<x k:=by
  refine Classical.byContradiction fun hn=>?_
  have hlt:x k<y k:=by omega
  obtain ⟨r,hr,hF,hall⟩:=sx k hk (by have:=fy.le k hk;omega)
  have h1:hold n W x r<hold n W y r:=Ud hk hr (fun j hj hrj=>by
    refine Classical.byContradiction fun hle=>?_
    have hyx:y j<x j:=by omega
    have hjk:j≠k:=fun e=>by subst e;omega
    have hy0:=fy.nn j hj
    rcases hm j hj (by omega) with e | a
    · exact hjk e
    · rw [show min (x k) (y k)=x k by omega,show min (x j) (y j)=y j by omega] at a
      have b:=hall j hj hrj (by omega)
      unfold wg at a b
      omega) hlt
  have h2:=fy.fits r ⟨k,hk,hr⟩
  omega
theorem unique {n:Nat} {F:Int→Int} {W:Nat→List Int} {day want x y:Nat→Int} (hd:∀ k,k<n→0≤day k) (fx:Fit n F W want x) (sx:m7 n F W day want x) (fy:Fit n F W want y) (sy:m7 n F W day want y) :
    ∀ k,k<n→x k=y k:=by
  refine Classical.byContradiction fun hn=>?_
  have hex:∃ k,k<n∧x k≠y k:=Classical.byContradiction fun h=>hn fun k hk=>Classical.byContradiction fun hne=>h ⟨k,hk,hne⟩
  obtain ⟨k,hk,hne,hm⟩:=yJ hd fx.nn fy.nn hex
  have a:=lG sx fy hk hne hm
  have b:=lG sy fx hk (Ne.symm hne) fun j hj h=>by
    rw [show min (y k) (x k)=min (x k) (y k) by omega,show min (y j) (x j)=min (x j) (y j) by omega]
    exact hm j hj (Ne.symm h)
  omega
end Tn
namespace Tn
def d0:Nat→Int:=fun _=>0
structure yU (n:Nat) (F:Int→Int) (W:Nat→List Int) (want x:Nat→Int) (G:Nat→Bool) (t:Int):Prop where
  fit:Fit n F W want x
  go:∀ k,G k=true→k<n∧x k=t
  top:∀ k,k<n→x k≤t
  done:∀ k,k<n→G k=false→x k<want k→∃ r,su n F W d0 x k r
theorem yU.start {n:Nat} {F:Int→Int} {W:Nat→List Int} {want:Nat→Int} (hw:∀ k,k<n→0≤want k) (hF:∀ r,(∃ k,k<n∧r∈W k)→0≤F r) :
    yU n F W want (fun _=>0) (fun k=>decide (k<n)) 0 :=
  ⟨⟨fun _ _=>Int.le_refl _,hw,fun r hr=>by rw [j7];exact hF r hr⟩,fun k hk=>⟨by simpa using hk,rfl⟩,fun _ _=>Int.le_refl _,fun k hk hg=>by simp [hk] at hg⟩
theorem yU.finish {n:Nat} {F:Int→Int} {W:Nat→List Int} {want x:Nat→Int} {G:Nat→Bool} {t:Int} (h:yU n F W want x G t) (hG:∀ k,k<n→G k=false):Fit n F W want x∧m7 n F W d0 want x :=
  ⟨h.fit,fun k hk hl=>h.done k hk (hG k hk) hl⟩
def cnt (n:Nat) (W:Nat→List Int) (G:Nat→Bool) (r:Int):Int:=hold n W (fun k=>if G k then 1 else 0) r
def jump (x:Nat→Int) (G:Nat→Bool) (m:Int):Nat→Int:=fun k=>if G k then x k + m else x k
theorem oY (n:Nat) (W:Nat→List Int) (x:Nat→Int) (G:Nat→Bool) (m r:Int):hold n W (jump x G m) r=hold n W x r + m * cnt n W G r:=by
  unfold cnt hold jump
  induction n with
  | zero=>simp [iu]
  | succ n ih =>
    simp only [iu]
    rw [ih,Int.mul_add]
    by_cases h1:r∈W n
    · by_cases h2:G n=true
      · simp [h1,h2];omega
      · simp [h1,h2];omega
    · simp [h1]
theorem Vl {n:Nat} {W:Nat→List Int} {G:Nat→Bool} {r:Int} {j:Nat} (hj:j<n) (hr:r∈W j) (hg:G j=true):0<cnt n W G r:=by
  have h:=n6 (f:=fun k=>if r∈W k then (if G k then (1:Int) else 0) else 0) hj fun k _=>by
    split
    · split <;> decide
    · decide
  simp only [hr,hg,if_true] at h
  show 0<iu n fun k=>if r∈W k then (if G k then (1:Int) else 0) else 0
  omega
theorem Y4 (n:Nat) (W:Nat→List Int) (G:Nat→Bool) (r:Int):0≤cnt n W G r:=u5 fun k _=>by
  show (0:Int)≤if r∈W k then (if G k then (1:Int) else 0) else 0
  split
  · split <;> decide
  · decide
theorem yU.jump {n:Nat} {F:Int→Int} {W:Nat→List Int} {want x:Nat→Int} {G:Nat→Bool} {t m:Int} (h:yU n F W want x G t) (hm:0≤m) (h1:∀ k,G k=true→x k + m≤want k)
    (h2:∀ r,(∃ k,k<n∧r∈W k)→m * cnt n W G r≤F r - hold n W x r):yU n F W want (jump x G m) G (t + m):=by
  refine ⟨⟨fun k hk=>?_,fun k hk=>?_,fun r hr=>?_⟩,fun k hk=>⟨(h.go k hk).1,?_⟩,fun k hk=>?_,fun k hk hg hl=>?_⟩
  · have:=h.fit.nn k hk
    unfold Tn.jump;split <;> omega
  · unfold Tn.jump
    split
    · rename_i hg;exact h1 k hg
    · exact h.fit.le k hk
  · rw [oY]
    have:=h2 r hr
    omega
  · unfold Tn.jump
    rw [if_pos hk,(h.go k hk).2]
  · have:=h.top k hk
    unfold Tn.jump;split <;> omega
  · have ek:Tn.jump x G m k=x k:=by unfold Tn.jump;rw [hg];rfl
    rw [ek] at hl
    obtain ⟨r,hr,hF,hall⟩:=h.done k hk hg hl
    by_cases hm0:m=0
    · have e:Tn.jump x G m=x:=by
        funext j
        unfold Tn.jump
        split <;> omega
      rw [e]
      exact ⟨r,hr,hF,hall⟩
    · have hc:=h2 r ⟨k,hk,hr⟩
      have hno:∀ j,j<n→r∈W j→G j=false:=fun j hj hrj=>by
        cases hgj:G j with
        | false=>rfl
        | true =>
          exfalso
          have p:=Vl hj hrj hgj
          have q:0<m * cnt n W G r:=Int.mul_pos (by omega) p
          omega
      have same:∀ j,j<n→r∈W j→Tn.jump x G m j=x j:=fun j hj hrj=>by unfold Tn.jump;rw [hno j hj hrj];rfl
      refine ⟨r,hr,?_,fun j hj hrj hp=>?_⟩
      · rw [qp (y:=x) same];exact hF
      · rw [same j hj hrj] at hp ⊢
        rw [ek]
        exact hall j hj hrj hp
structure vU (n:Nat) (F:Int→Int) (W:Nat→List Int) (want x:Nat→Int) (G S:Nat→Bool) (t:Int) (p:Nat):Prop where
  fit:Fit n F W want x
  still:∀ k,S k=true→k<p∧k<n∧x k=t + 1
  wait:∀ k,k<n→G k=true→p≤k→x k=t
  low:∀ k,k<n→S k=false→x k≤t
  done:∀ k,k<n→S k=false→(k<p∨G k=false)→x k<want k→∃ r,su n F W d0 x k r
theorem yU.pass {n:Nat} {F:Int→Int} {W:Nat→List Int} {want x:Nat→Int} {G:Nat→Bool} {t:Int} (h:yU n F W want x G t):vU n F W want x G (fun _=>false) t 0 :=
  ⟨h.fit,(fun _ hk=>by cases hk),fun k _ hg _=>(h.go k hg).2,fun k hk _=>h.top k hk,fun k hk _ hg hl=>by
    rcases hg with z | z
    · exact absurd z (Nat.not_lt_zero _)
    · exact h.done k hk z hl⟩
theorem vU.skip {n:Nat} {F:Int→Int} {W:Nat→List Int} {want x:Nat→Int} {G S:Nat→Bool} {t:Int} {p q:Nat} (h:vU n F W want x G S t p) (hpq:p≤q) (hno:∀ k,p≤k→k<q→G k=false):vU n F W want x G S t q :=
  ⟨h.fit,fun k hk=>⟨by have:=(h.still k hk).1;omega,(h.still k hk).2⟩,fun k hk hg hq=>h.wait k hk hg (by omega),h.low,fun k hk hs hg hl=>by
    refine h.done k hk hs ?_ hl
    rcases hg with z | z
    · by_cases e:k<p
      · exact .inl e
      · exact .inr (hno k (by omega) z)
    · exact .inr z⟩
theorem vU.gets {n:Nat} {F:Int→Int} {W:Nat→List Int} {want x:Nat→Int} {G S:Nat→Bool} {t:Int} {p:Nat} (h:vU n F W want x G S t p) (hp:p<n) (hg:G p=true) (hw:x p<want p) (hfree:∀ r,r∈W p→0<F r - hold n W x r) :
    vU n F W want (put x p 1) G (fun k=>if k=p then true else S k) t (p + 1):=by
  have xp:=h.wait p hp hg (Nat.le_refl _)
  refine ⟨⟨fun k hk=>?_,fun k hk=>?_,fun r hr=>?_⟩,fun k hk=>?_,fun k hk hg hq=>?_,fun k hk hs=>?_,fun k hk hs hq hl=>?_⟩
  · have:=h.fit.nn k hk
    unfold put;split <;> omega
  · by_cases e:k=p
    · subst e;rw [w5];omega
    · rw [oJ e];exact h.fit.le k hk
  · rw [rK hp]
    by_cases e:r∈W p
    · rw [if_pos e];have:=hfree r e;omega
    · rw [if_neg e];have:=h.fit.fits r hr;omega
  · by_cases e:k=p
    · subst e;rw [w5];exact ⟨by omega,hp,by omega⟩
    · simp only [e,if_false] at hk
      obtain ⟨a,b,c⟩:=h.still k hk
      rw [oJ e];exact ⟨by omega,b,c⟩
  · rw [oJ (by omega)];exact h.wait k hk hg (by omega)
  · by_cases e:k=p
    · simp [e] at hs
    · simp only [e,if_false] at hs
      rw [oJ e];exact h.low k hk hs
  · by_cases e:k=p
    · simp [e] at hs
    · simp only [e,if_false] at hs
      rw [oJ e] at hl
      obtain ⟨r,hr,hF,hall⟩:=h.done k hk hs (by
        rcases hq with z | z
        · exact .inl (by omega)
        · exact .inr z) hl
      have hrp:¬ r∈W p:=fun z=>by have:=hfree r z;omega
      refine ⟨r,hr,?_,fun j hj hrj hpos=>?_⟩
      · rw [rK hp,if_neg hrp];omega
      · have hjp:j≠p:=fun z=>hrp (z ▸ hrj)
        rw [oJ hjp] at hpos ⊢
        rw [oJ e]
        exact hall j hj hrj hpos
theorem vU.ends {n:Nat} {F:Int→Int} {W:Nat→List Int} {want x:Nat→Int} {G S:Nat→Bool} {t:Int} {p:Nat} (h:vU n F W want x G S t p) (hp:p<n) (hg:G p=true) (hn:want p≤x p∨∃ r,r∈W p∧F r - hold n W x r≤0) :
    vU n F W want x G S t (p + 1):=by
  have xp:=h.wait p hp hg (Nat.le_refl _)
  refine ⟨h.fit,fun k hk=>⟨by have:=(h.still k hk).1;omega,(h.still k hk).2⟩,fun k hk hg hq=>h.wait k hk hg (by omega),h.low,fun k hk hs hq hl=>?_⟩
  by_cases e:k=p
  · subst e
    rcases hn with z | ⟨r,hr,hle⟩
    · omega
    · refine ⟨r,hr,?_,fun j hj hrj hpos=>?_⟩
      · have:=h.fit.fits r ⟨k,hk,hr⟩
        omega
      · cases hsj:S j with
        | false =>
          have:=h.low j hj hsj
          exact .inr ⟨rfl,.inl (by omega)⟩
        | true =>
          obtain ⟨a,b,c⟩:=h.still j hsj
          exact .inr ⟨rfl,.inr ⟨by omega,by omega⟩⟩
  · exact h.done k hk hs (by
      rcases hq with z | z
      · exact .inl (by omega)
      · exact .inr z) hl
theorem vU.finish {n:Nat} {F:Int→Int} {W:Nat→List Int} {want x:Nat→Int} {G S:Nat→Bool} {t:Int} (h:vU n F W want x G S t n):yU n F W want x S (t + 1) :=
  ⟨h.fit,fun k hk=>(h.still k hk).2,fun k hk=>by
    cases hs:S k with
    | false=>have:=h.low k hk hs;omega
    | true=>have:=(h.still k hs).2.2;omega,fun k hk hs hl=>h.done k hk hs (.inl hk) hl⟩
end Tn
namespace Tn
def bump (xs w:List Int) (c:Int):List Int:=w.foldl (fun xs r=>xs.set r.toNat (xs.getD r.toNat 0 + c)) xs
theorem Ld (xs:List Int) (c:Int):bump xs [] c=xs:=rfl
theorem uF (xs w:List Int) (r c:Int):bump xs (r :: w) c=bump (xs.set r.toNat (xs.getD r.toNat 0 + c)) w c:=rfl
theorem Jm (xs w:List Int) (r c:Int):bump xs (w++[r]) c=(bump xs w c).set r.toNat ((bump xs w c).getD r.toNat 0 + c):=by
  unfold bump;rw [List.foldl_append];rfl
theorem iK:∀ (w xs:List Int) (c:Int),(bump xs w c).length=xs.length
  | [],_,_=>rfl
  | r :: w,xs,c=>by rw [uF,iK w,List.length_set]
theorem rM {xs:List Int} {i k:Nat} {v:Int} (hi:i<xs.length):(xs.set i v).getD k 0=if k=i then v else xs.getD k 0:=by
  rw [List.getD_eq_getElem?_getD,List.getElem?_set,List.getD_eq_getElem?_getD]
  by_cases h:i=k
  · subst h;simp [hi]
  · have h':¬ k=i:=fun e=>h e.symm
    simp [h,h']
theorem mL:∀ {w xs:List Int} {c:Int},w.Nodup→(∀ r∈w,0≤r∧r<xs.length)→∀ k:Nat,(bump xs w c).getD k 0=xs.getD k 0 + (if (k:Int)∈w then c else 0)
  | [],xs,c,_,_,k=>by simp [Ld]
  | r :: w,xs,c,hw,hin,k=>by
    rw [List.nodup_cons] at hw
    obtain ⟨r0,r1⟩:=hin r List.mem_cons_self
    have hl:r.toNat<xs.length:=by omega
    rw [uF,mL hw.2 (fun q hq=>by rw [List.length_set];exact hin q (List.mem_cons_of_mem _ hq)) k,rM hl]
    by_cases e:k=r.toNat
    · have ek:(k:Int)=r:=by omega
      have hn:¬ (k:Int)∈w:=by rw [ek];exact hw.1
      rw [if_pos e,if_neg hn,if_pos (by rw [ek];exact List.mem_cons_self),e];omega
    · have ek:¬ (k:Int)=r:=by omega
      rw [if_neg e]
      by_cases h:(k:Int)∈w
      · rw [if_pos h,if_pos (List.mem_cons_of_mem _ h)]
      · rw [if_neg h,if_neg (fun z=>by rcases List.mem_cons.mp z with q | q;exact ek q;exact h q)]
def bumps (xs:List Int) (ps:List (List Int × Int)):List Int:=ps.foldl (fun xs p=>bump xs p.1 p.2) xs
theorem Jl (xs:List Int):bumps xs []=xs:=rfl
theorem qG (xs:List Int) (p:List Int × Int) (ps:List (List Int × Int)):bumps xs (p :: ps)=bumps (bump xs p.1 p.2) ps:=rfl
theorem qF (xs:List Int) (ps:List (List Int × Int)) (p:List Int × Int):bumps xs (ps++[p])=bump (bumps xs ps) p.1 p.2:=by
  unfold bumps;rw [List.foldl_append];rfl
theorem jB:∀ (ps:List (List Int × Int)) (xs:List Int),(bumps xs ps).length=xs.length
  | [],_=>rfl
  | p :: ps,xs=>by rw [qG,jB ps,iK]
def WOk (n:Nat) (w:List Int):Prop:=w.Nodup∧∀ r∈w,0≤r∧r<(n:Int)
theorem mK:∀ {ps:List (List Int × Int)} {xs:List Int},(∀ p∈ps,WOk xs.length p.1)→∀ k:Nat,(bumps xs ps).getD k 0=xs.getD k 0 + (ps.map fun p=>if (k:Int)∈p.1 then p.2 else 0).sum
  | [],xs,_,k=>by simp [Jl]
  | p :: ps,xs,h,k=>by
    have hp:=h p List.mem_cons_self
    rw [qG,mK (fun q hq=>by rw [iK];exact h q (List.mem_cons_of_mem _ hq)) k,mL hp.1 hp.2 k,List.map_cons,List.sum_cons]
    omega
theorem JN {α:Type} (l:List α) (f:α→Int) (g:Nat→Int) (h:∀ k a,l[k]?=some a→g k=f a):(l.map f).sum=iu l.length g:=by
  have key:∀ n,n≤l.length→((l.take n).map f).sum=iu n g:=by
    intro n
    induction n with
    | zero=>intro _;rfl
    | succ n ih =>
      intro hn
      have e:l[n]?=some l[n]:=List.getElem?_eq_getElem (by omega)
      rw [List.take_succ,e,List.map_append,List.sum_append,ih (by omega)]
      show _ + (f l[n] + 0)=iu n g + g n
      rw [h n _ e];omega
  have:=key l.length (Nat.le_refl _)
  rwa [List.take_of_length_le (Nat.le_refl _)] at this
theorem nT {n:Nat} {f:Nat→Int}:∀ {g:List Nat},g.Nodup→(∀ k∈g,k<n)→(g.map f).sum=iu n fun k=>if k∈g then f k else 0
  | [],_,_=>by simp [gZ]
  | a :: g,hn,hl=>by
    rw [List.nodup_cons] at hn
    rw [List.map_cons,List.sum_cons,nT hn.2 fun k hk=>hl k (List.mem_cons_of_mem _ hk)]
    have e:∀ k,k<n→(if k∈a :: g then f k else 0)=(if k=a then f a else 0) + (if k∈g then f k else 0):=fun k _=>by
      by_cases h:k=a
      · subst h;simp [hn.1]
      · simp [h]
    rw [bJ e,lV,jh _ (hl a List.mem_cons_self)]
def shares (fs cs:List Int):List Int:=((fs.zip cs).filter fun p=>decide (0<p.2)).map fun p=>p.1 / p.2
def WT (fs cs rs:List Int) (M:Int):Prop:=(rs++shares fs cs=[]∧M=0)∨∃ m∈rs++shares fs cs,(∀ a∈rs++shares fs cs,m≤a)∧M=max 0 m
theorem qj {fs cs:List Int} {a:Int}:a∈shares fs cs↔∃ (k:Nat) (f c:Int),fs[k]?=some f∧cs[k]?=some c∧0<c∧a=f / c:=by
  unfold shares
  simp only [List.mem_map,List.mem_filter,decide_eq_true_eq]
  constructor
  · rintro ⟨⟨f,c⟩,⟨hm,hc⟩,rfl⟩
    obtain ⟨k,hk,e⟩:=List.getElem_of_mem hm
    have e':(fs.zip cs)[k]?=some (f,c):=by rw [List.getElem?_eq_getElem hk,e]
    rw [List.getElem?_zip_eq_some] at e'
    exact ⟨k,f,c,e'.1,e'.2,hc,rfl⟩
  · rintro ⟨k,f,c,h1,h2,h3,rfl⟩
    exact ⟨(f,c),⟨List.mem_of_getElem? (i:=k) (List.getElem?_zip_eq_some.mpr ⟨h1,h2⟩),h3⟩,rfl⟩
theorem WT.nn {fs cs rs:List Int} {M:Int} (h:WT fs cs rs M):0≤M:=by
  rcases h with ⟨_,e⟩ | ⟨m,_,_,e⟩ <;> omega
theorem WT.low {fs cs rs:List Int} {M:Int} (h:WT fs cs rs M) (hr:∀ a∈rs,0≤a) (hf:∀ a∈fs,0≤a):(∀ a∈rs,M≤a)∧∀ (k:Nat) (f c:Int),fs[k]?=some f→cs[k]?=some c→0<c→M * c≤f:=by
  have hall:∀ a∈rs++shares fs cs,0≤a:=fun a ha=>by
    rcases List.mem_append.mp ha with z | z
    · exact hr a z
    · obtain ⟨k,f,c,h1,h2,h3,rfl⟩:=qj.mp z
      exact Int.ediv_nonneg (hf f (List.mem_of_getElem? h1)) (by omega)
  have hle:∀ a∈rs++shares fs cs,M≤a:=by
    rcases h with ⟨e,_⟩ | ⟨m,hm,hl,rfl⟩
    · intro a ha;rw [e] at ha;cases ha
    · intro a ha
      have:=hl a ha
      have:=hall m hm
      omega
  refine ⟨fun a ha=>hle a (List.mem_append_left _ ha),fun k f c h1 h2 h3=>?_⟩
  exact (Int.le_ediv_iff_mul_le h3).mp (hle _ (List.mem_append_right _ (qj.mpr ⟨k,f,c,h1,h2,h3,rfl⟩)))
end Tn
namespace Tn
structure yW (n:Nat) (F:Int→Int) (W:Nat→List Int) (day want x:Nat→Int) (Pz:Nat→Prop):Prop where
  fit:Fit n F W want x
  shown:∀ k,k<n→Pz k→x k<want k→∃ r,su n F W day x k r
  zero:∀ k,k<n→¬ Pz k→x k=0
theorem yW.start {n:Nat} {F:Int→Int} {W:Nat→List Int} {day want:Nat→Int} (hw:∀ k,k<n→0≤want k) (hF:∀ r,(∃ k,k<n∧r∈W k)→0≤F r):yW n F W day want (fun _=>0) (fun _=>False) :=
  ⟨⟨fun _ _=>Int.le_refl _,hw,fun r hr=>by rw [j7];exact hF r hr⟩,fun _ _ z=>z.elim,fun _ _ _=>rfl⟩
def over (x:Nat→Int) (g:List Nat) (y:Nat→Int):Nat→Int:=fun k=>if k∈g then y (g.idxOf k) else x k
theorem j9 {g:List Nat} {i:Nat} (h:i<g.length):g.getD i 0=g[i]:=by rw [List.getD_eq_getElem?_getD,List.getElem?_eq_getElem h];rfl
theorem fD {g:List Nat} (h:g.Pairwise (·<·)):g.Nodup:=h.imp fun e=>Nat.ne_of_lt e
theorem xM {g:List Nat} (h:g.Nodup) {i:Nat} (hi:i<g.length):g.idxOf g[i]=i:=by
  have h1:g.idxOf g[i]<g.length:=List.idxOf_lt_length_iff.mpr (List.getElem_mem hi)
  exact (List.getElem_inj (h₀:=h1) (h₁:=hi) h).mp (List.getElem_idxOf h1)
theorem mZ {x y:Nat→Int} {g:List Nat} (h:g.Nodup) {i:Nat} (hi:i<g.length):over x g y (g.getD i 0)=y i:=by
  unfold over
  rw [j9 hi,if_pos (List.getElem_mem hi),xM h hi]
theorem jL {x y:Nat→Int} {g:List Nat} {k:Nat} (h:¬ k∈g):over x g y k=x k:=if_neg h
theorem uw {n:Nat} {W:Nat→List Int} {x y:Nat→Int} {g:List Nat} (r:Int) (hg:g.Nodup) (hn:∀ k∈g,k<n) (hz:∀ k∈g,x k=0) :
    hold n W (over x g y) r=hold n W x r + hold g.length (fun i=>W (g.getD i 0)) y r:=by
  have e:∀ k,k<n→(if r∈W k then over x g y k else 0)=(if r∈W k then x k else 0) + (if k∈g then (if r∈W k then y (g.idxOf k) else 0) else 0):=fun k _=>by
    by_cases h:k∈g
    · unfold over
      rw [if_pos h,if_pos h,hz k h]
      by_cases h2:r∈W k
      · simp [h2]
      · simp [h2]
    · rw [jL h,if_neg h];omega
  have e2:=nT (n:=n) (f:=fun k=>if r∈W k then y (g.idxOf k) else 0) hg hn
  have e3:=JN g (fun k=>if r∈W k then y (g.idxOf k) else 0) (fun i=>if r∈W (g.getD i 0) then y i else 0) fun i a ha=>by
    obtain ⟨hi,rfl⟩:=List.getElem?_eq_some_iff.mp ha
    rw [j9 hi,xM hg hi]
  unfold hold
  rw [bJ e,lV,← e2,e3]
theorem yW.step {n:Nat} {F:Int→Int} {W:Nat→List Int} {day want x y:Nat→Int} {Pz:Nat→Prop} {g:List Nat} {d:Int} (D:yW n F W day want x Pz) (hg:g.Pairwise (·<·)) (hgn:∀ k∈g,k<n∧day k=d∧¬ Pz k) (hd:∀ k,Pz k→day k<d)
    (fy:Fit g.length (fun r=>F r - hold n W x r) (fun i=>W (g.getD i 0)) (fun i=>want (g.getD i 0)) y) (sy:m7 g.length (fun r=>F r - hold n W x r) (fun i=>W (g.getD i 0)) d0 (fun i=>want (g.getD i 0)) y) :
    yW n F W day want (over x g y) (fun k=>Pz k∨k∈g):=by
  have nd:=fD hg
  have hn:∀ k∈g,k<n:=fun k hk=>(hgn k hk).1
  have hz:∀ k∈g,x k=0:=fun k hk=>D.zero k (hn k hk) (hgn k hk).2.2
  have hh:=fun r=>uw (n:=n) (W:=W) (x:=x) (y:=y) r nd hn hz
  have inv:∀ k∈g,∃ i,i<g.length∧g.getD i 0=k:=fun k hk=>by
    obtain ⟨i,hi,e⟩:=List.getElem_of_mem hk
    exact ⟨i,hi,by rw [j9 hi,e]⟩
  have yn:∀ r,0≤hold g.length (fun i=>W (g.getD i 0)) y r:=fun r=>u5 fun i hi=>by
    split
    · exact fy.nn i hi
    · exact Int.le_refl _
  refine ⟨⟨fun k hk=>?_,fun k hk=>?_,fun r hr=>?_⟩,fun k hk hp hl=>?_,fun k hk hp=>?_⟩
  · by_cases h:k∈g
    · obtain ⟨i,hi,rfl⟩:=inv k h
      rw [mZ nd hi];exact fy.nn i hi
    · rw [jL h];exact D.fit.nn k hk
  · by_cases h:k∈g
    · obtain ⟨i,hi,rfl⟩:=inv k h
      rw [mZ nd hi];exact fy.le i hi
    · rw [jL h];exact D.fit.le k hk
  · rw [hh r]
    by_cases h:∃ i,i<g.length∧r∈W (g.getD i 0)
    · have q:hold g.length (fun i=>W (g.getD i 0)) y r≤F r - hold n W x r:=fy.fits r h
      omega
    · have e:hold g.length (fun i=>W (g.getD i 0)) y r=0:=by
        unfold hold
        rw [bJ (g:=fun _=>0) fun i hi=>if_neg fun z=>h ⟨i,hi,z⟩,gZ]
      have:=D.fit.fits r hr
      omega
  · by_cases h:k∈g
    · obtain ⟨i,hi,rfl⟩:=inv k h
      rw [mZ nd hi] at hl
      obtain ⟨r,hr,hF,hall⟩:=sy i hi hl
      refine ⟨r,hr,?_,fun j hj hrj hpos=>?_⟩
      · have q:hold g.length (fun i=>W (g.getD i 0)) y r=F r - hold n W x r:=hF
        rw [hh r,q];omega
      · rw [mZ nd hi]
        have dk:=(hgn _ h).2.1
        by_cases hj':j∈g
        · obtain ⟨i',hi',rfl⟩:=inv j hj'
          rw [mZ nd hi'] at hpos ⊢
          have dj:=(hgn _ hj').2.1
          have a:=hall i' hi' hrj hpos
          rcases a with a | ⟨_,a⟩
          · exact absurd a (Int.lt_irrefl _)
          · refine .inr ⟨by rw [dk,dj],?_⟩
            rcases a with a | ⟨a,b⟩
            · exact .inl a
            · refine .inr ⟨a,?_⟩
              have hlt:i'<i:=by omega
              have:=List.pairwise_iff_getElem.mp hg i' i hi' hi hlt
              rw [j9 hi,j9 hi'];omega
        · rw [jL hj'] at hpos
          by_cases hpj:Pz j
          · have:=hd j hpj
            exact .inl (by rw [dk];exact this)
          · have:=D.zero j hj hpj
            omega
    · have hpk:Pz k:=hp.resolve_right h
      rw [jL h] at hl
      obtain ⟨r,hr,hF,hall⟩:=D.shown k hk hpk hl
      have none:∀ i,i<g.length→r∈W (g.getD i 0)→y i=0:=fun i hi hri=>by
        have a:hold g.length (fun i=>W (g.getD i 0)) y r≤F r - hold n W x r:=fy.fits r ⟨i,hi,hri⟩
        have b:=n6 (f:=fun i=>if r∈W (g.getD i 0) then y i else 0) hi fun j hj=>by
          show (0:Int)≤if r∈W (g.getD j 0) then y j else 0
          split
          · exact fy.nn j hj
          · exact Int.le_refl _
        have c:=fy.nn i hi
        have e:(if r∈W (g.getD i 0) then y i else 0)=y i:=if_pos hri
        have b':y i≤hold g.length (fun i=>W (g.getD i 0)) y r:=by rw [← e];exact b
        omega
      have same:∀ j,j<n→r∈W j→over x g y j=x j:=fun j hj hrj=>by
        by_cases h2:j∈g
        · obtain ⟨i,hi,rfl⟩:=inv j h2
          rw [mZ nd hi,none i hi hrj,hz _ h2]
        · exact jL h2
      refine ⟨r,hr,?_,fun j hj hrj hpos=>?_⟩
      · rw [qp (y:=x) same];exact hF
      · rw [same j hj hrj] at hpos ⊢
        rw [jL h]
        exact hall j hj hrj hpos
  · have h:¬ k∈g:=fun z=>hp (.inr z)
    rw [jL h]
    exact D.zero k hk fun z=>hp (.inl z)
theorem yW.finish {n:Nat} {F:Int→Int} {W:Nat→List Int} {day want x:Nat→Int} {Pz:Nat→Prop} (D:yW n F W day want x Pz) (h:∀ k,k<n→Pz k):Fit n F W want x∧m7 n F W day want x:=⟨D.fit,fun k hk hl=>D.shown k hk (h k hk) hl⟩
end Tn
namespace Tn
end Tn
namespace Tn
end Tn
namespace Tn
end Tn
namespace Tn
def fW (ws:List (List Int)):Nat→List Int:=fun k=>ws.getD k []
def fX (xs:List Int):Nat→Int:=fun k=>xs.getD k 0
def fF (fs:List Int):Int→Int:=fun r=>fs.getD r.toNat 0
def asI (gs:List Nat):List Int:=gs.map fun k:Nat=>(k:Int)
def fG (gs:List Nat):Nat→Bool:=fun k=>decide (k∈gs)
structure pG (fs:List Int) (ws:List (List Int)) (rs l xs:List Int) (gs:List Nat) (t:Int):Prop where
  ll:l.length=fs.length
  xl:xs.length=ws.length
  left:∀ r:Nat,r<fs.length→l.getD r 0=fs.getD r 0 - hold ws.length (fW ws) (fX xs) (r:Int)
  srt:gs.Pairwise (·<·)
  inv:yU ws.length (fF fs) (fW ws) (fX rs) (fX xs) (fG gs) t
theorem qw (fs:List Int) (r:Nat):fF fs (r:Int)=fs.getD r 0:=by unfold fF;rw [Int.toNat_natCast]
theorem oO {ws:List (List Int)} {k:Nat} (hk:k<ws.length):fW ws k∈ws:=by
  unfold fW
  rw [List.getD_eq_getElem?_getD,List.getElem?_eq_getElem hk];exact List.getElem_mem hk
theorem iJ (n k:Nat):(List.replicate n (0:Int)).getD k 0=0:=by
  rw [List.getD_eq_getElem?_getD,List.getElem?_replicate]
  split <;> rfl
theorem pG.start {fs:List Int} {ws:List (List Int)} {rs:List Int} (hf:∀ a∈fs,0≤a) (hr:∀ a∈rs,0≤a) (hws:∀ w∈ws,WOk fs.length w):pG fs ws rs fs (List.replicate ws.length 0) (List.range ws.length) 0:=by
  have e:fX (List.replicate ws.length 0)=fun _=>0:=by
    funext k;exact iJ _ _
  have g0:∀ (l:List Int) (k:Nat),(∀ a∈l,0≤a)→0≤l.getD k 0:=fun l k h=>by
    rw [List.getD_eq_getElem?_getD]
    cases hk:l[k]? with
    | none=>exact Int.le_refl _
    | some a=>exact h a (List.mem_of_getElem? hk)
  refine ⟨rfl,by simp,fun r hr=>?_,List.pairwise_lt_range,?_⟩
  · rw [e,j7];omega
  · rw [e,show fG (List.range ws.length)=fun k=>decide (k<ws.length) from by funext k;simp [fG]]
    exact yU.start (fun k _=>g0 rs k hr) fun r _=>g0 fs _ hf
theorem pG.nn {fs:List Int} {ws:List (List Int)} {rs l xs:List Int} {gs:List Nat} {t:Int} (h:pG fs ws rs l xs gs t) (hf:∀ a∈fs,0≤a):∀ a∈l,0≤a:=fun a ha=>by
  obtain ⟨r,hr,rfl⟩:=List.getElem_of_mem ha
  have hr':r<fs.length:=by rw [← h.ll];exact hr
  have e:l[r]=l.getD r 0:=by rw [List.getD_eq_getElem?_getD,List.getElem?_eq_getElem hr];rfl
  rw [e,h.left r hr']
  by_cases hx:∃ k,k<ws.length∧(r:Int)∈fW ws k
  · have:=h.inv.fit.fits r hx
    rw [qw] at this
    omega
  · have e0:hold ws.length (fW ws) (fX xs) (r:Int)=0:=by
      unfold hold
      rw [bJ (g:=fun _=>0) fun k hk=>if_neg fun z=>hx ⟨k,hk,z⟩,gZ]
    have:=hf fs[r] (List.getElem_mem hr')
    have e1:fs.getD r 0=fs[r]:=by rw [List.getD_eq_getElem?_getD,List.getElem?_eq_getElem hr'];rfl
    omega
def JB (n:Nat) (ws:List (List Int)) (gs:List Nat):List Int:=bumps (List.replicate n 0) (gs.map fun k=>(fW ws k,1))
theorem Lb {n:Nat} {ws:List (List Int)} {gs:List Nat} (hws:∀ w∈ws,WOk n w) (hg:gs.Nodup) (hn:∀ k∈gs,k<ws.length) (r:Nat):(JB n ws gs).getD r 0=cnt ws.length (fW ws) (fG gs) (r:Int):=by
  unfold JB
  rw [mK (fun p hp=>by
    obtain ⟨k,hk,rfl⟩:=List.mem_map.mp hp
    rw [List.length_replicate]
    exact hws _ (oO (hn k hk))) r,iJ,List.map_map]
  have e:=nT (n:=ws.length) (f:=fun k=>if (r:Int)∈fW ws k then (1:Int) else 0) hg hn
  have e':((fun p:List Int × Int=>if (r:Int)∈p.1 then p.2 else 0) ∘ fun k=>(fW ws k,(1:Int)))=fun k=>if (r:Int)∈fW ws k then (1:Int) else 0:=rfl
  rw [e',e]
  unfold cnt hold fG
  rw [Int.zero_add]
  refine bJ fun k _=>?_
  by_cases h1:k∈gs
  · simp [h1]
  · simp [h1]
theorem La (n:Nat) (ws:List (List Int)) (gs:List Nat):(JB n ws gs).length=n:=by unfold JB;rw [jB,List.length_replicate]
def unmet (rs xs:List Int) (gs:List Nat):List Int:=gs.map fun k=>rs.getD k 0 - xs.getD k 0
theorem Bv {gs:List Nat} {n:Nat} (hg:gs.Nodup) (hn:∀ k∈gs,k<n):WOk n (asI gs):=by
  refine ⟨?_,fun r hr=>?_⟩
  · unfold asI
    exact List.Pairwise.map _ (fun a b h=>by omega) hg
  · obtain ⟨k,hk,rfl⟩:=List.mem_map.mp hr
    have:=hn k hk
    omega
theorem rF {gs:List Nat} {k:Nat}:(k:Int)∈asI gs↔k∈gs:=by
  unfold asI
  rw [List.mem_map]
  constructor
  · rintro ⟨a,ha,e⟩
    have:a=k:=by omega
    rw [← this];exact ha
  · intro h;exact ⟨k,h,rfl⟩
theorem pG.going {fs:List Int} {ws:List (List Int)} {rs l xs:List Int} {gs:List Nat} {t:Int} (h:pG fs ws rs l xs gs t):∀ k∈gs,k<ws.length∧xs.getD k 0=t:=fun k hk=>h.inv.go k (by simpa [fG] using hk)
theorem pG.whole {fs:List Int} {ws:List (List Int)} {rs l xs:List Int} {gs:List Nat} {t M:Int} (h:pG fs ws rs l xs gs t) (hf:∀ a∈fs,0≤a) (hws:∀ w∈ws,WOk fs.length w) (hM:WT l (JB fs.length ws gs) (unmet rs xs gs) M) :
    pG fs ws rs (bumps l (gs.map fun k=>(fW ws k,-M))) (bump xs (asI gs) M) gs (t + M):=by
  have nd:=fD h.srt
  have hn:∀ k∈gs,k<ws.length:=fun k hk=>(h.going k hk).1
  have hl:=h.nn hf
  have hun:∀ a∈unmet rs xs gs,0≤a:=fun a ha=>by
    obtain ⟨k,hk,rfl⟩:=List.mem_map.mp ha
    have:fX xs k≤fX rs k:=h.inv.fit.le k (hn k hk)
    unfold fX at this
    omega
  obtain ⟨lo1,lo2⟩:=hM.low hun hl
  have ex:fX (bump xs (asI gs) M)=jump (fX xs) (fG gs) M:=by
    funext k
    show (bump xs (asI gs) M).getD k 0=if fG gs k then fX xs k + M else fX xs k
    have ok:=Bv nd (n:=xs.length) fun k hk=>by rw [h.xl];exact hn k hk
    rw [mL ok.1 ok.2 k]
    by_cases hk:k∈gs
    · rw [if_pos (rF.mpr hk)];simp [fG,hk,fX]
    · rw [if_neg (fun z=>hk (rF.mp z))];simp [fG,hk,fX]
  have key:∀ r:Nat,r<fs.length→M * cnt ws.length (fW ws) (fG gs) (r:Int)≤l.getD r 0:=fun r hr=>by
    have c0:=Y4 ws.length (fW ws) (fG gs) (r:Int)
    have hlr:r<l.length:=by rw [h.ll];exact hr
    have e1:l[r]?=some (l.getD r 0):=by rw [List.getD_eq_getElem?_getD,List.getElem?_eq_getElem hlr];rfl
    have hcr:r<(JB fs.length ws gs).length:=by rw [La];exact hr
    have e2:(JB fs.length ws gs)[r]?=some (cnt ws.length (fW ws) (fG gs) (r:Int)):=by
      rw [← Lb hws nd hn r,List.getD_eq_getElem?_getD,List.getElem?_eq_getElem hcr];rfl
    by_cases hp:0<cnt ws.length (fW ws) (fG gs) (r:Int)
    · exact lo2 r _ _ e1 e2 hp
    · have:cnt ws.length (fW ws) (fG gs) (r:Int)=0:=by omega
      rw [this,Int.mul_zero]
      exact hl _ (List.mem_of_getElem? e1)
  refine ⟨by rw [jB];exact h.ll,by rw [iK];exact h.xl,fun r hr=>?_,h.srt,?_⟩
  · rw [mK (fun p hp=>by
      obtain ⟨k,hk,rfl⟩:=List.mem_map.mp hp
      rw [h.ll]
      exact hws _ (oO (hn k hk))) r,h.left r hr,ex,oY,List.map_map]
    have e:=nT (n:=ws.length) (f:=fun k=>if (r:Int)∈fW ws k then -M else 0) nd hn
    have e':((fun p:List Int × Int=>if (r:Int)∈p.1 then p.2 else 0) ∘ fun k=>(fW ws k,-M))=fun k=>if (r:Int)∈fW ws k then -M else 0:=rfl
    rw [e',e]
    have e3:(iu ws.length fun k=>if k∈gs then (if (r:Int)∈fW ws k then -M else 0) else 0)=-(M * cnt ws.length (fW ws) (fG gs) (r:Int)):=by
      have a:=oY ws.length (fW ws) (fun _=>0) (fG gs) (-M) (r:Int)
      rw [j7] at a
      have b:hold ws.length (fW ws) (jump (fun _=>0) (fG gs) (-M)) (r:Int)=iu ws.length fun k=>if k∈gs then (if (r:Int)∈fW ws k then -M else 0) else 0:=by
        unfold hold jump fG
        refine bJ fun k _=>?_
        by_cases h1:k∈gs
        · simp [h1]
        · simp [h1]
      rw [← b,a,Int.neg_mul];omega
    rw [e3];omega
  · rw [ex]
    refine h.inv.jump hM.nn (fun k hk=>?_) fun r hr=>?_
    · have hk':k∈gs:=by simpa [fG] using hk
      have:=lo1 (rs.getD k 0 - xs.getD k 0) (List.mem_map.mpr ⟨k,hk',rfl⟩)
      unfold fX;omega
    · obtain ⟨k,hk,hr⟩:=hr
      have hw:=hws _ (oO hk)
      obtain ⟨r0,r1⟩:=hw.2 r hr
      obtain ⟨rn,rfl⟩:=Int.eq_ofNat_of_zero_le r0
      have hrn:rn<fs.length:=by omega
      have a:=key rn hrn
      rw [h.left rn hrn] at a
      rw [qw];exact a
end Tn
namespace Tn
def step1 (ws:List (List Int)) (rs:List Int) (s:List Int × List Int × List Nat) (k:Nat):List Int × List Int × List Nat :=
  if s.2.1.getD k 0<rs.getD k 0∧(fW ws k).all (fun r=>decide (0<s.1.getD r.toNat 0))=true then (bump s.1 (fW ws k) (-1),s.2.1.set k (s.2.1.getD k 0 + 1),s.2.2++[k]) else s
def iw (ws:List (List Int)) (rs:List Int) (gs:List Nat) (s:List Int × List Int × List Nat):List Int × List Int × List Nat:=gs.foldl (step1 ws rs) s
theorem pU (ws:List (List Int)) (rs:List Int) (gs:List Nat) (k:Nat) (s:List Int × List Int × List Nat):iw ws rs (gs++[k]) s=step1 ws rs (iw ws rs gs s) k:=by
  unfold iw;rw [List.foldl_append];rfl
def rem (rs xs:List Int) (n:Nat):Int:=iu n fun k=>fX rs k - fX xs k
structure SN (fs:List Int) (ws:List (List Int)) (rs:List Int) (gs:List Nat) (t S0:Int) (i:Nat) (s:List Int × List Int × List Nat):Prop where
  ll:s.1.length=fs.length
  xl:s.2.1.length=ws.length
  left:∀ r:Nat,r<fs.length→s.1.getD r 0=fs.getD r 0 - hold ws.length (fW ws) (fX s.2.1) (r:Int)
  sub:s.2.2.Sublist (gs.take i)
  sum:rem rs s.2.1 ws.length + s.2.2.length=S0
  pv:∃ p,vU ws.length (fF fs) (fW ws) (fX rs) (fX s.2.1) (fG gs) (fG s.2.2) t p∧p≤ws.length∧(∀ j (h:j<gs.length),i≤j→p≤gs[j])∧∀ j (h:j<gs.length),j<i→gs[j]<p
theorem pG.pass {fs:List Int} {ws:List (List Int)} {rs l xs:List Int} {gs:List Nat} {t:Int} (h:pG fs ws rs l xs gs t):SN fs ws rs gs t (rem rs xs ws.length) 0 (l,xs,[]) :=
  ⟨h.ll,h.xl,h.left,by simp,by simp,0,by
    have:=h.inv.pass
    rw [show fG []=fun _=>false from by funext k;simp [fG]]
    exact this,Nat.zero_le _,fun _ _ _=>Nat.zero_le _,fun j _ hj=>absurd hj (Nat.not_lt_zero _)⟩
theorem SN.step {fs:List Int} {ws:List (List Int)} {rs:List Int} {gs:List Nat} {t S0:Int} {i:Nat} {s:List Int × List Int × List Nat} (h:SN fs ws rs gs t S0 i s) (srt:gs.Pairwise (·<·)) (hn:∀ k∈gs,k<ws.length) (hws:∀ w∈ws,WOk fs.length w) (hi:i<gs.length) :
    SN fs ws rs gs t S0 (i + 1) (step1 ws rs s gs[i]):=by
  obtain ⟨l,xs,st⟩:=s
  obtain ⟨p,P0,pn,hp1,hp2⟩:=h.pv
  have hll:l.length=fs.length:=h.ll
  have hxl:xs.length=ws.length:=h.xl
  have hleft:∀ r:Nat,r<fs.length→l.getD r 0=fs.getD r 0 - hold ws.length (fW ws) (fX xs) (r:Int):=h.left
  have hsum:rem rs xs ws.length + st.length=S0:=h.sum
  have hsub:st.Sublist (gs.take i):=h.sub
  have P0:vU ws.length (fF fs) (fW ws) (fX rs) (fX xs) (fG gs) (fG st) t p:=P0
  have hk:gs[i]<ws.length:=hn _ (List.getElem_mem hi)
  have inc:=List.pairwise_iff_getElem.mp srt
  have P1:=P0.skip (q:=gs[i]) (hp1 i hi (Nat.le_refl _)) fun k h1 h2=>by
    cases hg:fG gs k with
    | false=>rfl
    | true =>
      exfalso
      have hm:k∈gs:=by simpa [fG] using hg
      obtain ⟨j,hj,rfl⟩:=List.getElem_of_mem hm
      by_cases hji:j<i
      · have:=hp2 j hj hji
        omega
      · by_cases e:j=i
        · subst e;omega
        · have:=inc i j hi hj (by omega)
          omega
  have hG:fG gs gs[i]=true:=by simp [fG]
  have next1:∀ j (h:j<gs.length),i + 1≤j→gs[i] + 1≤gs[j]:=fun j hj hji=>inc i j hi hj (by omega)
  have next2:∀ j (h:j<gs.length),j<i + 1→gs[j]<gs[i] + 1:=fun j hj hji=>by
    by_cases e:j=i
    · subst e;omega
    · have:=inc j i hj hi (by omega)
      omega
  have wk:=hws _ (oO hk)
  have at_:∀ r∈fW ws gs[i],fF fs r - hold ws.length (fW ws) (fX xs) r=l.getD r.toNat 0:=fun r hr=>by
    obtain ⟨r0,r1⟩:=wk.2 r hr
    obtain ⟨rn,rfl⟩:=Int.eq_ofNat_of_zero_le r0
    rw [qw,Int.toNat_natCast,hleft rn (by omega)]
  by_cases hc:xs.getD gs[i] 0<rs.getD gs[i] 0∧(fW ws gs[i]).all (fun r=>decide (0<l.getD r.toNat 0))=true
  · have e:step1 ws rs (l,xs,st) gs[i]=(bump l (fW ws gs[i]) (-1),xs.set gs[i] (xs.getD gs[i] 0 + 1),st++[gs[i]]):=if_pos hc
    rw [e]
    have ex:fX (xs.set gs[i] (xs.getD gs[i] 0 + 1))=put (fX xs) gs[i] 1:=by
      funext k
      show (xs.set gs[i] (xs.getD gs[i] 0 + 1)).getD k 0=if k=gs[i] then xs.getD k 0 + 1 else xs.getD k 0
      rw [rM (by rw [hxl];exact hk)]
      by_cases z:k=gs[i]
      · rw [if_pos z,if_pos z,z]
      · rw [if_neg z,if_neg z]
    have P2:=P1.gets hk hG (by unfold fX;exact hc.1) fun r hr=>by
      rw [at_ r hr]
      have:=List.all_eq_true.mp hc.2 r hr
      simpa using this
    refine ⟨by rw [iK];exact hll,by rw [List.length_set];exact hxl,fun r hr=>?_,?_,?_,gs[i] + 1,?_,by omega,next1,next2⟩
    · show (bump l (fW ws gs[i]) (-1)).getD r 0=fs.getD r 0 - hold ws.length (fW ws) (fX (xs.set gs[i] (xs.getD gs[i] 0 + 1))) (r:Int)
      rw [mL wk.1 (by rw [hll];exact wk.2) r,hleft r hr,ex,rK hk]
      split <;> omega
    · show (st++[gs[i]]).Sublist (gs.take (i + 1))
      rw [List.take_add_one,List.getElem?_eq_getElem hi]
      exact hsub.append (List.Sublist.refl _)
    · show rem rs (xs.set gs[i] (xs.getD gs[i] 0 + 1)) ws.length + ((st++[gs[i]]).length:Nat)=S0
      have a:rem rs (xs.set gs[i] (xs.getD gs[i] 0 + 1)) ws.length=rem rs xs ws.length - 1:=by
        unfold rem
        rw [ex,qM,qM]
        have:iu ws.length (put (fX xs) gs[i] 1)=iu ws.length (fX xs) + 1:=by
          have b:∀ k,k<ws.length→put (fX xs) gs[i] 1 k=fX xs k + (if k=gs[i] then 1 else 0):=fun k _=>by
            unfold put;split <;> omega
          rw [bJ b,lV,jh _ hk]
        omega
      rw [a,List.length_append,List.length_singleton]
      omega
    · show vU ws.length (fF fs) (fW ws) (fX rs) (fX (xs.set gs[i] (xs.getD gs[i] 0 + 1))) (fG gs) (fG (st++[gs[i]])) t (gs[i] + 1)
      rw [ex,show fG (st++[gs[i]])=fun k=>if k=gs[i] then true else fG st k from by
        funext k
        by_cases z:k=gs[i]
        · simp [fG,z]
        · simp [fG,z]]
      exact P2
  · have e:step1 ws rs (l,xs,st) gs[i]=(l,xs,st):=if_neg hc
    rw [e]
    refine ⟨hll,hxl,hleft,?_,hsum,gs[i] + 1,P1.ends hk hG ?_,by omega,next1,next2⟩
    · exact hsub.trans (by rw [List.take_add_one];exact List.sublist_append_left _ _)
    · by_cases z:xs.getD gs[i] 0<rs.getD gs[i] 0
      · have hno:¬ (fW ws gs[i]).all (fun r=>decide (0<l.getD r.toNat 0))=true:=fun y=>hc ⟨z,y⟩
        refine .inr ?_
        refine Classical.byContradiction fun hx=>hno (List.all_eq_true.mpr fun r hr=>?_)
        refine decide_eq_true ?_
        refine Classical.byContradiction fun hle=>hx ⟨r,hr,?_⟩
        rw [at_ r hr];omega
      · exact .inl (by unfold fX;omega)
theorem SN.finish {fs:List Int} {ws:List (List Int)} {rs:List Int} {gs:List Nat} {t S0:Int} {s:List Int × List Int × List Nat} (h:SN fs ws rs gs t S0 gs.length s) (srt:gs.Pairwise (·<·)):pG fs ws rs s.1 s.2.1 s.2.2 (t + 1):=by
  obtain ⟨p,P0,pn,hp1,hp2⟩:=h.pv
  have P1:=P0.skip (q:=ws.length) pn fun k h1 h2=>by
    cases hg:fG gs k with
    | false=>rfl
    | true =>
      exfalso
      have hm:k∈gs:=by simpa [fG] using hg
      obtain ⟨j,hj,rfl⟩:=List.getElem_of_mem hm
      have:=hp2 j hj hj
      omega
  have hsub:=h.sub
  rw [List.take_of_length_le (Nat.le_refl _)] at hsub
  exact ⟨h.ll,h.xl,h.left,srt.sublist hsub,P1.finish⟩
theorem zp {fs:List Int} {ws:List (List Int)} {rs l xs:List Int} {gs:List Nat} {t:Int} (h:pG fs ws rs l xs gs t) (hws:∀ w∈ws,WOk fs.length w):∀ i,i≤gs.length→SN fs ws rs gs t (rem rs xs ws.length) i (iw ws rs (gs.take i) (l,xs,[])):=by
  intro i
  induction i with
  | zero=>intro _;exact h.pass
  | succ i ih =>
    intro hi
    rw [List.take_add_one,List.getElem?_eq_getElem (by omega:i<gs.length)]
    show SN fs ws rs gs t _ (i + 1) (iw ws rs (gs.take i++[gs[i]]) (l,xs,[]))
    rw [pU]
    exact (ih (by omega)).step h.srt (fun k hk=>(h.going k hk).1) hws (by omega)
theorem pG.one {fs:List Int} {ws:List (List Int)} {rs l xs:List Int} {gs:List Nat} {t:Int} (h:pG fs ws rs l xs gs t) (hws:∀ w∈ws,WOk fs.length w) :
    pG fs ws rs (iw ws rs gs (l,xs,[])).1 (iw ws rs gs (l,xs,[])).2.1 (iw ws rs gs (l,xs,[])).2.2 (t + 1)∧rem rs (iw ws rs gs (l,xs,[])).2.1 ws.length + ((iw ws rs gs (l,xs,[])).2.2.length:Nat)=rem rs xs ws.length:=by
  have q:=zp h hws gs.length (Nat.le_refl _)
  rw [List.take_of_length_le (Nat.le_refl _)] at q
  exact ⟨q.finish h.srt,q.sum⟩
theorem pG.Lj {fs:List Int} {ws:List (List Int)} {rs l xs:List Int} {gs:List Nat} {t:Int} (h:pG fs ws rs l xs gs t):0≤rem rs xs ws.length:=u5 fun k hk=>by
  have:=h.inv.fit.le k hk
  omega
theorem Ab {fs:List Int} {ws:List (List Int)} {rs l xs:List Int} {gs:List Nat} {t M:Int} (h:pG fs ws rs l xs gs t) (hM:0≤M):rem rs (bump xs (asI gs) M) ws.length≤rem rs xs ws.length:=by
  refine oh fun k hk=>?_
  have ok:=Bv (fD h.srt) (n:=xs.length) fun k hk=>by rw [h.xl];exact (h.going k hk).1
  have:fX (bump xs (asI gs) M) k=fX xs k + (if (k:Int)∈asI gs then M else 0):=mL ok.1 ok.2 k
  rw [this]
  split <;> omega
end Tn
namespace Tn
theorem WOk.len {n:Nat} {w:List Int} (h:WOk n w):w.length≤n:=by
  have:=List.Nodup.length_le_of_subset (l₂:=asI (List.range n)) h.1 fun r hr=>by
    obtain ⟨r0,r1⟩:=h.2 r hr
    obtain ⟨k,rfl⟩:=Int.eq_ofNat_of_zero_le r0
    exact rF.mpr (List.mem_range.mpr (by omega))
  simpa [asI] using this
theorem wD (r:Int):∀ ws:List (List Int),((ws.map fun w=>(w,(1:Int))).map fun p=>if r∈p.1 then p.2 else 0).sum≤(ws.length:Int)
  | []=>by simp
  | w :: ws=>by
    have:=wD r ws
    simp only [List.map_cons,List.sum_cons,List.length_cons]
    split <;> omega
theorem cw_bound {n:Nat} {ws:List (List Int)} (hws:∀ w∈ws,WOk n w):∀ c∈bumps (List.replicate n 0) (ws.map fun w=>(w,(1:Int))),c≤(ws.length:Int):=fun c hc=>by
  obtain ⟨k,hk,rfl⟩:=List.getElem_of_mem hc
  have e:(bumps (List.replicate n 0) (ws.map fun w=>(w,(1:Int))))[k]=(bumps (List.replicate n 0) (ws.map fun w=>(w,(1:Int)))).getD k 0:=by
    rw [List.getD_eq_getElem?_getD,List.getElem?_eq_getElem hk];rfl
  rw [e,mK (fun p hp=>by
    obtain ⟨w,hw,rfl⟩:=List.mem_map.mp hp
    rw [List.length_replicate];exact hws w hw) k,iJ]
  have:=wD (k:Int) ws
  omega
theorem vd {fs cs:List Int} {i:Nat} {f c:Int} (hf:fs[i]?=some f) (hc:cs[i]?=some c):shares (fs.take (i + 1)) (cs.take (i + 1))=shares (fs.take i) (cs.take i)++(if 0<c then [f / c] else []):=by
  have l1:=(List.getElem?_eq_some_iff.mp hf).1
  have l2:=(List.getElem?_eq_some_iff.mp hc).1
  unfold shares
  rw [List.take_add_one,List.take_add_one,hf,hc,List.zip_append (by rw [List.length_take,List.length_take];omega),List.filter_append,List.map_append]
  congr 1
  by_cases h:0<c
  · simp [h]
  · simp [h]
theorem iY {gs:List Nat} {i:Nat} {z:Int} (h:(asI gs)[i]?=some z):∃ k:Nat,gs[i]?=some k∧z=(k:Int):=by
  unfold asI at h
  rw [List.getElem?_map] at h
  cases e:gs[i]? with
  | none=>rw [e] at h;cases h
  | some k=>rw [e] at h;exact ⟨k,rfl,(Option.some.inj h).symm⟩
theorem uq (gs:List Nat) (i:Nat):(asI gs).take i=asI (gs.take i):=by unfold asI;rw [List.map_take]
theorem jm (gs:List Nat):(asI gs).length=gs.length:=by unfold asI;rw [List.length_map]
theorem yd {rs xs:List Int} {gs:List Nat} {i k:Nat} (h:gs[i]?=some k):unmet rs xs (gs.take (i + 1))=unmet rs xs (gs.take i)++[rs.getD k 0 - xs.getD k 0]:=by
  unfold unmet;rw [List.take_add_one,h,List.map_append];rfl
theorem gD {α β:Type} {f:α→β} {gs:List α} {i:Nat} {k:α} (h:gs[i]?=some k):(gs.take (i + 1)).map f=(gs.take i).map f++[f k]:=by
  rw [List.take_add_one,h,List.map_append];rfl
theorem jy {α:Type} {gs:List α} {i:Nat} {k:α} (h:gs[i]?=some k):gs.take (i + 1)=gs.take i++[k]:=by
  rw [List.take_add_one,h];rfl
theorem yh {ws:List (List Int)} {rs:List Int} {gs:List Nat} {i k:Nat} {s:List Int × List Int × List Nat} (h:gs[i]?=some k):iw ws rs (gs.take (i + 1)) s=step1 ws rs (iw ws rs (gs.take i) s) k:=by
  rw [jy h];exact pU _ _ _ _ _
theorem zE (ws:List (List Int)) (rs:List Int) (s:List Int × List Int × List Nat) (k:Nat):(step1 ws rs s k).1.length=s.1.length∧(step1 ws rs s k).2.1.length=s.2.1.length∧(step1 ws rs s k).2.2.length≤s.2.2.length + 1:=by
  unfold step1
  split
  · exact ⟨iK _ _ _,List.length_set,by simp⟩
  · exact ⟨rfl,rfl,by omega⟩
theorem sU (ws:List (List Int)) (rs:List Int):∀ (gs:List Nat) (s:List Int × List Int × List Nat),(iw ws rs gs s).1.length=s.1.length∧(iw ws rs gs s).2.1.length=s.2.1.length∧(iw ws rs gs s).2.2.length≤s.2.2.length + gs.length
  | [],s=>⟨rfl,rfl,by simp [iw]⟩
  | k :: gs,s=>by
    have a:=zE ws rs s k
    have b:=sU ws rs gs (step1 ws rs s k)
    have e:iw ws rs (k :: gs) s=iw ws rs gs (step1 ws rs s k):=rfl
    rw [e]
    refine ⟨by rw [b.1,a.1],by rw [b.2.1,a.2.1],?_⟩
    have:=b.2.2
    rw [List.length_cons];omega
end Tn
namespace Tn
end Tn
namespace Tn
end Tn
namespace Tn
structure Grp (day:Nat→Int) (q:List Nat) (gs:List (Int × List Nat)):Prop where
  flat:(gs.map (·.2)).flatten=q
  ord:(gs.map (·.1)).Pairwise (·<·)
  grp:∀ g∈gs,g.2≠[]∧∀ k∈g.2,day k=g.1
theorem Grp.start (day:Nat→Int):Grp day [] []:=⟨rfl,.nil,fun _ h=>nomatch h⟩
theorem Grp.mem {day:Nat→Int} {q:List Nat} {gs:List (Int × List Nat)} (h:Grp day q gs) {g:Int × List Nat} (hg:g∈gs):∃ k∈q,day k=g.1:=by
  obtain ⟨h1,h2⟩:=h.grp g hg
  cases e:g.2 with
  | nil=>exact absurd e h1
  | cons k r =>
    refine ⟨k,?_,h2 k (by rw [e];exact List.mem_cons_self)⟩
    rw [← h.flat]
    exact List.mem_flatten.mpr ⟨g.2,List.mem_map_of_mem hg,by rw [e];exact List.mem_cons_self⟩
theorem Grp.new {day:Nat→Int} {q:List Nat} {gs:List (Int × List Nat)} {k:Nat} (h:Grp day q gs) (hn:∀ g∈gs,g.1≠day k) (hq:∀ j∈q,day j≤day k):Grp day (q++[k]) (gs++[(day k,[k])]):=by
  refine ⟨?_,?_,fun g hg=>?_⟩
  · rw [List.map_append,List.flatten_append,h.flat];rfl
  · rw [List.map_append,List.pairwise_append]
    refine ⟨h.ord,by simp,fun a ha b hb=>?_⟩
    obtain ⟨g,hg,rfl⟩:=List.mem_map.mp ha
    have hb:b=day k:=by simpa using hb
    subst hb
    obtain ⟨j,hj,e⟩:=h.mem hg
    have:=hq j hj
    have:=hn g hg
    omega
  · rcases List.mem_append.mp hg with e | e
    · exact h.grp g e
    · have:g=(day k,[k]):=by simpa using e
      subst this
      exact ⟨by simp,fun j hj=>by
        have:j=k:=by simpa using hj
        rw [this]⟩
theorem Grp.last {day:Nat→Int} {q:List Nat} {gs:List (Int × List Nat)} {k j:Nat} {g:Int × List Nat} (h:Grp day q gs) (hj:gs[j]?=some g) (hk:g.1=day k) (hq:∀ j∈q,day j≤day k):gs=gs.take j++[g]:=by
  obtain ⟨hl,e⟩:=List.getElem?_eq_some_iff.mp hj
  have hlen:gs.length=j + 1:=by
    refine Nat.le_antisymm (Nat.le_of_not_lt fun hlt=>?_) hl
    have ord:=List.pairwise_iff_getElem.mp h.ord j (j + 1) (by rw [List.length_map];exact hl) (by rw [List.length_map];exact hlt) (by omega)
    rw [List.getElem_map,List.getElem_map,e] at ord
    obtain ⟨i,hi,ei⟩:=h.mem (List.getElem_mem (l:=gs) (n:=j + 1) hlt)
    have:=hq i hi
    omega
  have:gs.take (j + 1)=gs.take j++[g]:=jy hj
  rw [← this,List.take_of_length_le (by omega)]
theorem Grp.more {day:Nat→Int} {q:List Nat} {gs:List (Int × List Nat)} {k j:Nat} {g:Int × List Nat} (h:Grp day q gs) (hj:gs[j]?=some g) (hk:g.1=day k) (hq:∀ j∈q,day j≤day k):Grp day (q++[k]) (gs.set j (g.1,g.2++[k])):=by
  have e:=h.last hj hk hq
  have hl:=(List.getElem?_eq_some_iff.mp hj).1
  have es:gs.set j (g.1,g.2++[k])=gs.take j++[(g.1,g.2++[k])]:=by
    conv=>lhs;rw [e]
    have:(gs.take j).length=j:=by rw [List.length_take];omega
    rw [List.set_append,if_neg (by omega),this,Nat.sub_self];rfl
  have hf:=h.flat
  have ho:=h.ord
  rw [e] at hf ho
  rw [List.map_append,List.flatten_append] at hf
  rw [List.map_append] at ho
  rw [es]
  refine ⟨?_,?_,fun g' hg'=>?_⟩
  · rw [List.map_append,List.flatten_append,← hf];simp
  · rw [List.map_append];exact ho
  · rcases List.mem_append.mp hg' with e' | e'
    · exact h.grp g' (List.mem_of_mem_take e')
    · have:g'=(g.1,g.2++[k]):=by simpa using e'
      subst this
      refine ⟨by simp,fun i hi=>?_⟩
      rcases List.mem_append.mp hi with z | z
      · exact (h.grp g (List.mem_of_getElem? hj)).2 i z
      · have:i=k:=by simpa using z
        rw [this,hk]
structure Rk (day:Nat→Int) (n:Nat) (p:List Nat):Prop where
  perm:p.Perm (List.range n)
  ord:p.Pairwise fun i j=>day i<day j∨day i=day j∧i<j
theorem Rk.len {day:Nat→Int} {n:Nat} {p:List Nat} (h:Rk day n p):p.length=n:=by rw [h.perm.length_eq,List.length_range]
theorem Rk.lt {day:Nat→Int} {n:Nat} {p:List Nat} (h:Rk day n p) {j:Nat} (hj:j∈p):j<n:=List.mem_range.mp (h.perm.mem_iff.mp hj)
theorem Rk.before {day:Nat→Int} {n:Nat} {p:List Nat} (h:Rk day n p) {i k:Nat} (hi:p[i]?=some k):∀ j∈p.take i,day j≤day k:=fun j hj=>by
  obtain ⟨hl,e⟩:=List.getElem?_eq_some_iff.mp hi
  obtain ⟨m,hm,em⟩:=List.getElem_of_mem hj
  rw [List.length_take] at hm
  rw [List.getElem_take] at em
  have:=List.pairwise_iff_getElem.mp h.ord m i (by omega) hl (by omega)
  rw [em,e] at this
  omega
theorem nU {α:Type}:∀ {L:List (List α)} {g:List α},g∈L→g.Sublist L.flatten
  | [],_,h=>nomatch h
  | x :: L,g,h=>by
    rw [List.flatten_cons]
    rcases List.mem_cons.mp h with e | e
    · rw [e];exact List.sublist_append_left _ _
    · exact (nU e).trans (List.sublist_append_right _ _)
theorem Grp.up {day:Nat→Int} {n:Nat} {p:List Nat} {gs:List (Int × List Nat)} (h:Grp day p gs) (r:Rk day n p) {g:Int × List Nat} (hg:g∈gs):g.2.Pairwise (·<·):=by
  have hs:g.2.Sublist p:=by rw [← h.flat];exact nU (List.mem_map_of_mem hg)
  have:=r.ord.sublist hs
  refine List.Pairwise.imp_of_mem (fun {a b} ha hb hab=>?_) this
  have ea:=(h.grp g hg).2 a ha
  have eb:=(h.grp g hg).2 b hb
  omega
def inG (gs:List (Int × List Nat)) (j:Nat) (k:Nat):Prop:=∃ g∈gs.take j,k∈g.2
theorem KD (gs:List (Int × List Nat)) (k:Nat):¬ inG gs 0 k:=fun ⟨_,h,_⟩=>by simp at h
theorem KH {gs:List (Int × List Nat)} {j:Nat} {g:Int × List Nat} (h:gs[j]?=some g) (k:Nat):inG gs (j + 1) k↔inG gs j k∨k∈g.2:=by
  unfold inG
  rw [jy h]
  constructor
  · rintro ⟨g',h1,h2⟩
    rcases List.mem_append.mp h1 with e | e
    · exact .inl ⟨g',e,h2⟩
    · have:g'=g:=by simpa using e
      rw [this] at h2;exact .inr h2
  · rintro (⟨g',h1,h2⟩ | h)
    · exact ⟨g',List.mem_append_left _ h1,h2⟩
    · exact ⟨g,List.mem_append_right _ (by simp),h⟩
theorem Grp.all {day:Nat→Int} {n:Nat} {p:List Nat} {gs:List (Int × List Nat)} (h:Grp day p gs) (r:Rk day n p) {k:Nat} (hk:k<n):inG gs gs.length k:=by
  have hm:k∈p:=r.perm.mem_iff.mpr (List.mem_range.mpr hk)
  rw [← h.flat] at hm
  obtain ⟨l,hl,hkl⟩:=List.mem_flatten.mp hm
  obtain ⟨g,hg,rfl⟩:=List.mem_map.mp hl
  exact ⟨g,by rw [List.take_length];exact hg,hkl⟩
theorem Grp.later {day:Nat→Int} {p:List Nat} {gs:List (Int × List Nat)} (h:Grp day p gs) {j:Nat} {g:Int × List Nat} (hj:gs[j]?=some g) {k:Nat} (hk:inG gs j k):day k<g.1:=by
  obtain ⟨g',h1,h2⟩:=hk
  obtain ⟨hl,e⟩:=List.getElem?_eq_some_iff.mp hj
  obtain ⟨m,hm,em⟩:=List.getElem_of_mem h1
  rw [List.length_take] at hm
  rw [List.getElem_take] at em
  have ord:=List.pairwise_iff_getElem.mp h.ord m j (by rw [List.length_map];omega) (by rw [List.length_map];exact hl) (by omega)
  rw [List.getElem_map,List.getElem_map,e,em] at ord
  rw [(h.grp g' (List.mem_of_mem_take h1)).2 k h2];exact ord
end Tn
namespace Tn
theorem j8 {n:Nat} {W W':Nat→List Int} {x x':Nat→Int} (hW:∀ k,k<n→W k=W' k) (hx:∀ k,k<n→x k=x' k) (r:Int):hold n W x r=hold n W' x' r :=
  bJ fun k hk=>by rw [hW k hk,hx k hk]
theorem Fit.yS {n:Nat} {F F':Int→Int} {W W':Nat→List Int} {want want' x x':Nat→Int} (h:Fit n F W want x) (hW:∀ k,k<n→W k=W' k) (hw:∀ k,k<n→want k=want' k) (hx:∀ k,k<n→x k=x' k) (hF:∀ r,(∃ k,k<n∧r∈W k)→F r=F' r):Fit n F' W' want' x':=by
  refine ⟨fun k hk=>by rw [← hx k hk];exact h.nn k hk,fun k hk=>by rw [← hx k hk,← hw k hk];exact h.le k hk,fun r hr=>?_⟩
  obtain ⟨k,hk,hm⟩:=hr
  have hr:∃ k,k<n∧r∈W k:=⟨k,hk,by rw [hW k hk];exact hm⟩
  rw [← j8 hW hx r,← hF r hr]
  exact h.fits r hr
theorem m7.yS {n:Nat} {F F':Int→Int} {W W':Nat→List Int} {day want want' x x':Nat→Int} (h:m7 n F W day want x) (hW:∀ k,k<n→W k=W' k) (hw:∀ k,k<n→want k=want' k) (hx:∀ k,k<n→x k=x' k) (hF:∀ r,(∃ k,k<n∧r∈W k)→F r=F' r):m7 n F' W' day want' x':=by
  intro k hk hl
  rw [← hx k hk,← hw k hk] at hl
  obtain ⟨r,h1,h2,h3⟩:=h k hk hl
  refine ⟨r,by rw [← hW k hk];exact h1,by rw [← j8 hW hx r,← hF r ⟨k,hk,h1⟩];exact h2,fun j hj hr hp=>?_⟩
  rw [← hx j hj,← hx k hk]
  exact h3 j hj (by rw [hW j hj];exact hr) (by rw [hx j hj];exact hp)
theorem yW.yS {n:Nat} {F:Int→Int} {W:Nat→List Int} {day want x x':Nat→Int} {Pz Pz':Nat→Prop} (D:yW n F W day want x Pz) (hx:∀ k,x k=x' k) (hP:∀ k,Pz k↔Pz' k):yW n F W day want x' Pz':=by
  have e:x=x':=funext hx
  have e':Pz=Pz':=funext fun k=>propext (hP k)
  rw [← e,← e'];exact D
structure yV (n:Nat) (fs:List Int) (W:Nat→List Int) (day want:Nat→Int) (gs:List (Int × List Nat)) (j:Nat) (xs fl:List Int):Prop where
  xl:xs.length=n
  fll:fl.length=fs.length
  left:∀ i:Nat,i<fs.length→fl.getD i 0=fs.getD i 0 - hold n W (fX xs) (i:Int)
  inv:yW n (fF fs) W day want (fX xs) (inG gs j)
theorem Bf {fs:List Int} {a:Int} (h:a∈fs):∃ i,i<fs.length∧fs.getD i 0=a:=by
  obtain ⟨i,hi,e⟩:=List.getElem_of_mem h
  exact ⟨i,hi,by rw [List.getD_eq_getElem?_getD,List.getElem?_eq_getElem hi];exact e⟩
theorem mF {fs:List Int} {i:Nat} (h:i<fs.length):fs.getD i 0∈fs:=by
  rw [List.getD_eq_getElem?_getD,List.getElem?_eq_getElem h];exact List.getElem_mem h
theorem Z5 {fs:List Int} (hf:∀ a∈fs,0≤a) (r:Int):0≤fF fs r:=by
  unfold fF
  by_cases h:r.toNat<fs.length
  · exact hf _ (mF h)
  · rw [List.getD_eq_getElem?_getD,List.getElem?_eq_none (by omega)];exact Int.le_refl _
theorem yV.start {n:Nat} {fs:List Int} {W:Nat→List Int} {day want:Nat→Int} (gs:List (Int × List Nat)) (hw:∀ k,k<n→0≤want k) (hf:∀ a∈fs,0≤a):yV n fs W day want gs 0 (List.replicate n 0) fs:=by
  have e:∀ k,fX (List.replicate n 0) k=0:=fun k=>iJ n k
  refine ⟨by simp,rfl,fun i _=>?_,?_⟩
  · have:hold n W (fX (List.replicate n 0)) (i:Int)=0:=by
      rw [j8 (W':=W) (x':=fun _=>0) (fun _ _=>rfl) (fun k _=>e k),j7]
    omega
  · exact (yW.start (day:=day) hw fun r _=>Z5 hf r).yS (fun k=>(e k).symm) fun k=>⟨fun z=>z.elim,fun z=>absurd z (KD gs k)⟩
theorem Bx {n:Nat} {W:Nat→List Int} {x:Nat→Int} {r:Int} (h:¬ ∃ k,k<n∧r∈W k):hold n W x r=0:=by
  unfold hold
  rw [bJ (g:=fun _=>0) fun k hk=>if_neg fun z=>h ⟨k,hk,z⟩,gZ]
theorem yV.nn {n:Nat} {fs:List Int} {W:Nat→List Int} {day want:Nat→Int} {gs:List (Int × List Nat)} {j:Nat} {xs fl:List Int} (h:yV n fs W day want gs j xs fl) (hf:∀ a∈fs,0≤a):∀ a∈fl,0≤a:=fun a ha=>by
  obtain ⟨i,hi,rfl⟩:=Bf ha
  rw [h.fll] at hi
  rw [h.left i hi]
  by_cases hw:∃ k,k<n∧(i:Int)∈W k
  · have:=h.inv.fit.fits (i:Int) hw
    rw [qw] at this
    omega
  · rw [Bx hw]
    have:=hf _ (mF hi)
    omega
theorem yV.step {n:Nat} {fs:List Int} {W:Nat→List Int} {day want:Nat→Int} {gs:List (Int × List Nat)} {j:Nat} {xs fl ys left cur:List Int} {q:List Nat} {t:Int} {g:Int × List Nat} (h:yV n fs W day want gs j xs fl) (G:Grp day q gs) (R:Rk day n q) (hj:gs[j]?=some g)
    (hW:∀ k,k<n→WOk fs.length (W k)) (L:pG fl (g.2.map W) (g.2.map want) left ys [] t) (hcl:cur.length=n) (hc:∀ k,fX cur k=over (fX xs) g.2 (fX ys) k):yV n fs W day want gs (j + 1) cur left:=by
  have hgm:=List.mem_of_getElem? hj
  have up:=G.up R hgm
  have nd:=fD up
  have hlt:∀ k∈g.2,k<n:=fun k hk=>R.lt (by rw [← G.flat];exact List.mem_flatten.mpr ⟨g.2,List.mem_map_of_mem hgm,hk⟩)
  have hn:∀ k∈g.2,¬ inG gs j k:=fun k hk z=>by
    have:=G.later hj z
    have:=(G.grp g hgm).2 k hk
    omega
  have hz:∀ k∈g.2,fX xs k=0:=fun k hk=>h.inv.zero k (hlt k hk) (hn k hk)
  have hlen:(g.2.map W).length=g.2.length:=List.length_map _
  have eW:∀ i,i<(g.2.map W).length→fW (g.2.map W) i=W (g.2.getD i 0):=fun i hi=>by
    rw [hlen] at hi
    unfold fW
    rw [List.getD_eq_getElem?_getD,List.getElem?_map,List.getElem?_eq_getElem hi,j9 hi];rfl
  have ew:∀ i,i<(g.2.map W).length→fX (g.2.map want) i=want (g.2.getD i 0):=fun i hi=>by
    rw [hlen] at hi
    unfold fX
    rw [List.getD_eq_getElem?_getD,List.getElem?_map,List.getElem?_eq_getElem hi,j9 hi];rfl
  have eF:∀ r,(∃ k,k<(g.2.map W).length∧r∈fW (g.2.map W) k)→fF fl r=fF fs r - hold n W (fX xs) r:=fun r hr=>by
    obtain ⟨i,hi,hm⟩:=hr
    rw [eW i hi] at hm
    have hk:g.2.getD i 0<n:=hlt _ (by rw [j9 (by omega)];exact List.getElem_mem (by omega))
    obtain ⟨r0,r1⟩:=(hW _ hk).2 r hm
    obtain ⟨rn,rfl⟩:=Int.eq_ofNat_of_zero_le r0
    rw [qw,qw]
    exact h.left rn (by omega)
  obtain ⟨fy,sy⟩:=L.inv.finish fun k _=>by simp [fG]
  have fy:=fy.yS eW ew (x':=fX ys) (fun _ _=>rfl) eF
  have sy:=sy.yS eW ew (x':=fX ys) (fun _ _=>rfl) eF
  rw [hlen] at fy sy
  have st:=h.inv.step up (d:=g.1) (fun k hk=>⟨hlt k hk,(G.grp g hgm).2 k hk,hn k hk⟩) (fun k hk=>G.later hj hk) fy sy
  refine ⟨hcl,by rw [L.ll,h.fll],fun i hi=>?_,st.yS (fun k=>(hc k).symm) fun k=>(KH hj k).symm⟩
  rw [L.left i (by rw [h.fll];exact hi),h.left i hi,j8 (W':=W) (x':=over (fX xs) g.2 (fX ys)) (fun _ _=>rfl) (fun k _=>hc k) (i:Int),uw (i:Int) nd hlt hz,j8 (x':=fX ys) eW (fun _ _=>rfl) (i:Int),hlen]
  omega
theorem yV.finish {n:Nat} {fs:List Int} {W:Nat→List Int} {day want:Nat→Int} {gs:List (Int × List Nat)} {xs fl:List Int} {q:List Nat} (h:yV n fs W day want gs gs.length xs fl) (G:Grp day q gs) (R:Rk day n q):Fit n (fF fs) W want (fX xs)∧m7 n (fF fs) W day want (fX xs) :=
  h.inv.finish fun k hk=>G.all R hk
theorem Ak {x y:Nat→Int} {g:List Nat} {i m:Nat} (nd:g.Nodup) (h:g[i]?=some m) (k:Nat):over x (g.take (i + 1)) y k=if k=m then y i else over x (g.take i) y k:=by
  obtain ⟨hi,e⟩:=List.getElem?_eq_some_iff.mp h
  have hm:¬ m∈g.take i:=fun z=>by
    obtain ⟨a,ha,ea⟩:=List.getElem_of_mem z
    rw [List.length_take] at ha
    rw [List.getElem_take] at ea
    have:=(List.getElem_inj nd).mp (ea.trans e.symm)
    omega
  unfold over
  rw [jy h]
  by_cases hk:k=m
  · subst hk
    rw [if_pos rfl,if_pos (by simp),List.idxOf_append,if_neg hm,List.length_take]
    simp
    congr 1
    omega
  · rw [if_neg hk]
    by_cases hb:k∈g.take i
    · rw [if_pos (by simp [hb]),if_pos hb,List.idxOf_append,if_pos hb]
    · rw [if_neg (by simp [hb,hk]),if_neg hb]
end Tn
namespace Rv
theorem JQ {r:List Int} (h:gH r) {p b:Int} (h0:0≤p) (h1:p<r.length):Tn.WOk r.length (ou r p b):=⟨JR h h0 h1,fun q hq=>JG h p h0 h1 q (zA hq)⟩
end Rv
namespace Rv
def spot (n x s:Int) (k:Nat):Int:=(x + s * (k:Int)) % n
theorem xP {n a b:Int} (hn:0<n) (h:a % n=b % n) (h1:a - b<n) (h2:b - a<n):a=b:=by
  have ea:=Int.emod_add_mul_ediv a n
  have eb:=Int.emod_add_mul_ediv b n
  have e:a - b=n * (a / n - b / n):=by rw [Int.mul_sub];omega
  generalize a / n - b / n=q at e
  by_cases h0:q=0
  · rw [h0,Int.mul_zero] at e;omega
  · by_cases hp:1≤q
    · have:=Int.mul_le_mul_of_nonneg_left hp (Int.le_of_lt hn)
      rw [Int.mul_one] at this;omega
    · have:q≤-1:=by omega
      have:=Int.mul_le_mul_of_nonneg_left this (Int.le_of_lt hn)
      rw [Int.mul_neg,Int.mul_one] at this;omega
theorem JT {n x s:Int} (hn:0<n) (hs:s=1∨s=n - 1) {j k:Nat} (hj:(j:Int)<n) (hk:(k:Int)<n) (h:spot n x s j=spot n x s k):j=k:=by
  unfold spot at h
  rcases hs with rfl | rfl
  · rw [Int.one_mul,Int.one_mul] at h
    have:=xP hn h (by omega) (by omega)
    omega
  · have e:∀ m:Nat,(x + (n - 1) * (m:Int)) % n=(x - (m:Int)) % n:=fun m=>by
      have:x + (n - 1) * (m:Int)=(x - (m:Int)) + n * (m:Int):=by rw [Int.sub_mul];omega
      rw [this,Int.add_mul_emod_self_left]
    rw [e j,e k] at h
    have:=xP hn h (by omega) (by omega)
    omega
theorem zG {n x s:Int} (hn:0<n) (k:Nat):0≤spot n x s k:=Int.emod_nonneg _ (by omega)
theorem zH {n x s:Int} (hn:0<n) (k:Nat):spot n x s k<n:=Int.emod_lt_of_pos _ hn
def spots (n x s:Int) (m:Nat):List Int:=(List.range m).map (spot n x s)
theorem zF (n x s:Int) (m:Nat):(spots n x s m).length=m:=by simp [spots]
theorem yq (n x s:Int) (m:Nat):spots n x s (m + 1)=spots n x s m++[spot n x s m]:=by
  unfold spots;rw [List.range_succ,List.map_append];rfl
theorem wI {n x s:Int} {m k:Nat} (h:k<m):(spots n x s m)[k]?=some (spot n x s k):=by
  unfold spots;rw [List.getElem?_map,List.getElem?_range h];rfl
structure Lnk (n:Nat) (sp:Nat→Int) (k:Nat) (b:List Int):Prop where
  len:b.length=n
  at_:∀ (i:Nat) (x:Int),b[i]?=some x→x=-1∨∃ j m,j<m∧m<k∧m<n∧sp m=(i:Int)∧x=sp j
theorem Lnk.start (n:Nat) (sp:Nat→Int):Lnk n sp 1 (List.replicate n (-1)) :=
  ⟨by simp,fun i x h=>.inl (by
    rw [List.getElem?_replicate] at h
    split at h
    · exact (Option.some.inj h).symm
    · cases h)⟩
theorem Lnk.skip {n:Nat} {sp:Nat→Int} {k:Nat} {b:List Int} (h:Lnk n sp k b):Lnk n sp (k + 1) b :=
  ⟨h.len,fun i x hx=>(h.at_ i x hx).imp id fun ⟨j,m,h1,h2,h3⟩=>⟨j,m,h1,by omega,h3⟩⟩
theorem Lnk.turn {n:Nat} {sp:Nat→Int} {k j:Nat} {b:List Int} (h:Lnk n sp k b) (hk:k<n) (hj:j<k) (h0:0≤sp k):Lnk n sp (k + 1) (b.set (sp k).toNat (sp j)):=by
  refine ⟨by rw [List.length_set];exact h.len,fun i x hx=>?_⟩
  rw [List.getElem?_set] at hx
  split at hx
  · rename_i e
    split at hx
    · exact .inr ⟨j,k,hj,by omega,hk,by omega,(Option.some.inj hx).symm⟩
    · cases hx
  · exact h.skip.at_ i x hx
theorem Lnk.Zw {n:Nat} {sp:Nat→Int} {k:Nat} {b:List Int} (h:Lnk n sp k b) (h0:∀ k,0≤sp k) (h1:∀ k,sp k<n) (inj:∀ j k,j<n→k<n→sp j=sp k→j=k) (hn:0<n):gH b:=by
  classical
  let rk:Nat→Nat:=fun i=>if h:∃ k,k<n∧sp k=(i:Int) then h.choose else 0
  have rk_at:∀ k,k<n→rk (sp k).toNat=k:=fun k hk=>by
    have hex:∃ m,m<n∧sp m=((sp k).toNat:Int):=⟨k,hk,by have:=h0 k;omega⟩
    show (if h:∃ m,m<n∧sp m=((sp k).toNat:Int) then h.choose else 0)=k
    rw [dif_pos hex]
    obtain ⟨a1,a2⟩:=hex.choose_spec
    exact inj _ _ a1 hk (by have:=h0 k;omega)
  refine ⟨rk,fun i _=>?_,fun i x hx=>?_⟩
  · rw [h.len]
    show (if h:∃ k,k<n∧sp k=(i:Int) then h.choose else 0)<n
    split
    · rename_i hex;exact hex.choose_spec.1
    · exact hn
  · rcases h.at_ i x hx with e | ⟨j,m,hjm,_,hm,e,rfl⟩
    · exact .inl e
    · refine .inr ⟨h0 j,by rw [h.len];exact h1 j,?_⟩
      have ei:i=(sp m).toNat:=by have:=h0 m;omega
      rw [ei,rk_at m hm,rk_at j (by omega)]
      exact hjm
end Rv
namespace Tn
end Tn
namespace Rv
end Rv
namespace Tn
end Tn
namespace Tn
end Tn
namespace Rv
end Rv
namespace Tn
end Tn
namespace Rv
end Rv
namespace Tn
end Tn
namespace Rv
end Rv
namespace My
open PySem L2
local macro_rules | `(tactic| walk_at "new") => `(tactic| (generalize hE : upd _ _ _ = Hn; have On := Ow.mkE (by assumption) (by assumption) hE rfl; clear hE; revert On; revert Hn))
local macro_rules | `(tactic| walk_at "put") => `(tactic| (generalize hE : upd _ _ _ = Hn; (first | have On := Ow.sI (by assumption) 0 rfl hE rfl | have On := Ow.sI (by assumption) 1 rfl hE rfl | have On := Ow.sI (by assumption) 2 rfl hE rfl | have On := Ow.sI (by assumption) 3 rfl hE rfl | have On := Ow.sI (by assumption) 4 rfl hE rfl | have On := Ow.sI (by assumption) 5 rfl hE rfl); clear hE; (try simp only [List.set_cons_zero, List.set_cons_succ] at On); revert On; revert Hn))
set_option hygiene false
local macro_rules | `(tactic| walk_at "get") => `(tactic| first | assumption | exact O.get 0 | exact O.get 1 | exact O.get 2 | exact O.get 3 | exact O.get 4 | exact O.get 5 | exact O.get 6 | exact O.get 7 | exact O.get 8 | exact O.get 9 | exact O.get 10 | exact O.get 11 | exact O.get 12 | fail)
local macro_rules | `(tactic| walk_at "sq") => `(tactic| first | assumption | exact O.sq 0 | exact O.sq 1 | exact O.sq 2 | exact O.sq 3 | exact O.sq 4 | exact O.sq 5 | exact O.sq 6 | exact O.sq 7 | exact O.sq 8 | exact O.sq 9 | exact O.sq 10 | exact O.sq 11 | exact O.sq 12 | exact SqL.mo (by assumption) O.same | exact SqL.mo (by assumption) (s0.trans O.same) | fail)
local macro_rules | `(tactic| walk_at "sqT") => `(tactic| first | assumption | exact O.sqT 0 | exact O.sqT 1 | exact O.sqT 2 | exact O.sqT 3 | exact O.sqT 4 | exact O.sqT 5 | exact O.sqT 6 | exact O.sqT 7 | exact SqT.mo (by assumption) O.same | exact SqT.mo (by assumption) (s0.trans O.same) | fail)
local macro_rules | `(tactic| walk_at "at") => `(tactic| first | rfl | exact aY (by assumption) | exact iB (by assumption) | exact eY (by omega) (by omega) | exact lastV _ _ | exact ur (by omega) | exact eY (ns := [_, _]) (by omega) (by simp only [List.length_cons, List.length_nil]; omega) | exact eY (ns := [_, _, _]) (by omega) (by simp only [List.length_cons, List.length_nil]; omega) | exact eY (ns := [_, _, _, _]) (by omega) (by simp only [List.length_cons, List.length_nil]; omega) | exact eY (ns := [_, _, _, _, _]) (by omega) (by simp only [List.length_cons, List.length_nil]; omega) | exact eY (ns := [_, _, _, _, _, _]) (by omega) (by simp only [List.length_cons, List.length_nil]; omega) | exact eY (ns := [_, _, _, _, _, _, _]) (by omega) (by simp only [List.length_cons, List.length_nil]; omega) | exact eY (ns := [_, _, _, _, _, _, _, _]) (by omega) (by simp only [List.length_cons, List.length_nil]; omega) | fail)
local macro_rules | `(tactic| walk_at "c") => `(tactic| first | omega | (simp only [List.length_map]; omega) | exact szl | (show (0 : Int) < _; decide) | (show (0 : Int) < _; omega) | exact ⟨by decide, by decide⟩ | exact .inl ⟨by decide, by decide⟩ | exact .inr ⟨by decide, by decide⟩ | exact ⟨by decide, by decide, by decide⟩ | exact .inl ⟨by omega, by omega⟩ | exact .inr ⟨by omega, by omega⟩ | exact ⟨by omega, by omega⟩ | (split <;> omega) | fail)
local macro_rules | `(tactic| walk_at "ty") => `(tactic| first | exact .int _ | exact .bl _ | exact .lst (by walk_at "get") | exact .tup (by walk_at "get") | exact .non | fail)
local macro_rules | `(tactic| walk_at "kit") => `(tactic| first | exact Ls K | exact Lw K | exact Bp K | exact kit_bb K | exact kit_bi K | exact kit_tt K | fail)
local macro_rules | `(tactic| walk_at "sz") => `(tactic| exact aL (by (try simp only [List.length_map, List.length_append, List.length_cons, List.length_nil]); omega))
local macro_rules | `(tactic| walk_at "s") => `(tactic| first | refine Zd ?_ | refine ⟨_, rfl, ?_⟩ | refine ⟨_, _, rfl, rfl, ?_⟩ | refine And.intro rfl ?_ | refine And.intro (by walk_at "c") ?_ | refine ⟨_, _, _, _, rfl, rfl, (show SqL _ _ _ _ by walk_at "sq"), (show atI _ _ = some _ by walk_at "at"), ?_⟩ | refine ⟨_, _, _, _, rfl, rfl, (show SqT _ _ _ _ by walk_at "sqT"), (show atI _ _ = some _ by walk_at "at"), ?_⟩ | refine ⟨_, _, rfl, .inl (show SqL _ _ _ _ by walk_at "sq"), ?_⟩ | refine ⟨_, _, rfl, .inr (show SqT _ _ _ _ by walk_at "sqT"), ?_⟩ | refine ⟨_, _, rfl, (show SqL _ _ _ _ by walk_at "sq"), ?_⟩ | refine And.intro ⟨_, (show SqL _ _ _ _ by walk_at "sq")⟩ ?_ | refine And.intro (.inl ⟨rfl, _, (show SqL _ _ _ _ by walk_at "sq")⟩) ?_ | refine ⟨_, _, _, _, rfl, (show xW _ _ _ _ by walk_at "ty"), (show PySem.W.kitOne _ _ _ = some _ by walk_at "kit"), ?_⟩ | refine ⟨_, _, rfl, ?_⟩ | fail)
local macro_rules | `(tactic| walk_at "w") => `(tactic| repeat walk_at "s")
local macro_rules | `(tactic| walk_at "if") => `(tactic| first | refine yG ?_ | refine uo ?_ | refine ifN ?_ | refine ifI (fun hc => ?_) (fun hc => ?_) | refine ifD (fun hc => ?_) (fun hc => ?_) | refine ifB (fun hc => ?_) (fun hc => ?_) | fail)
local macro_rules | `(tactic| walk_at "go") => `(tactic| repeat' (first | walk_at "if" | walk_at "s" | fail))
local macro_rules | `(tactic| walk_at "nw") => `(tactic| (generalize hE : upd _ _ _ = Hn; replace O := Ow.mkE O (by assumption) hE rfl; clear hE))
local macro_rules | `(tactic| walk_at "pt") => `(tactic| (generalize hE : upd _ _ _ = Hn; (first | replace O := Ow.sI O 0 rfl hE rfl | replace O := Ow.sI O 1 rfl hE rfl | replace O := Ow.sI O 2 rfl hE rfl | replace O := Ow.sI O 3 rfl hE rfl | replace O := Ow.sI O 4 rfl hE rfl | replace O := Ow.sI O 5 rfl hE rfl | replace O := Ow.sI O 6 rfl hE rfl | replace O := Ow.sI O 7 rfl hE rfl); clear hE; (try simp only [List.set_cons_zero, List.set_cons_succ] at O)))
local macro_rules | `(tactic| walk_at "app") => `(tactic| (refine ⟨_, _, _, rfl, rfl, (by walk_at "get"), (by walk_at "sz"), ?_⟩; walk_at "pt"))
local macro_rules | `(tactic| walk_at "elt") => `(tactic| (refine ⟨_, (by walk_at "get"), (by walk_at "sz"), ?_⟩; walk_at "pt"))
local macro_rules | `(tactic| walk_at "frz") => `(tactic| (obtain ⟨Hn, On, sn, en⟩ := O.frz; clear O; have O := On; clear On; (try replace s0 := s0.mo sn); (try replace d0 := d0.mo sn); (try replace d1 := d1.mo sn); (try replace d2 := d2.mo sn); (try replace d3 := d3.mo sn); (try replace d4 := d4.mo sn); (try replace d5 := d5.mo sn); (try replace d6 := d6.mo sn); (try replace d7 := d7.mo sn)))
local macro_rules | `(tactic| walk_at "mo") => `(tactic| ((try simp only [List.eraseIdx_cons_zero, List.eraseIdx_cons_succ] at O); (try replace s0 := s0.mo sn); (try replace d0 := d0.mo sn); (try replace d1 := d1.mo sn); (try replace d2 := d2.mo sn); (try replace d3 := d3.mo sn); (try replace d4 := d4.mo sn); (try replace d5 := d5.mo sn); (try replace d6 := d6.mo sn); (try replace d7 := d7.mo sn)))
local macro_rules | `(tactic| walk_at "er") => `(tactic| simp only [List.eraseIdx_cons_zero, List.eraseIdx_cons_succ] at O)
local macro_rules | `(tactic| walk_at "jn") => `(tactic| simp only [List.cons_append, List.nil_append] at O)
def top (i:Nat):Stmt:=PySem.Challenge.pw_sluice_k58_whole_parted_changes_nobody.main.body.getD i (.Pass ⟨0,0,0,0⟩)
abbrev gW:Stmt:=top 23
theorem tG:aH ["below","reach","way"] ["below","reach"] (ao gW):=⟨rfl,rfl,rfl,by decide +kernel,rfl,by decide +kernel,by decide +kernel⟩
def pY (K:PySem.W.Frag):Sp:=fun vs H Q _=>∃ (a:Addr) (r:List Int) (p:Int),vs=[.ref a,.int p]∧SqL K H a (r.map V.int)∧Rv.gH r∧0≤p∧p<r.length∧r.length≤900 ∧
  Zc H (fun xs=>xs=(Rv.walk r p).map V.int) Q
theorem rZ (pre:List Int) (z:Int):atI ((pre++[z]).map V.int) (-1)=some (V.int z):=by
  rw [List.map_append];exact Le _ _
theorem Wh {f:Addr} {fd:FuncData} (D:Df K mg "way_of" gW ["below","reach"] f fd) (C:Mth mg):bN P w K mg base CX0 1 f fd ["below","reach"] (pY K):=by
  obtain ⟨tM,hMOUTH⟩:=C.MOUTH
  refine D.F.ok tG (fun vs H Q E h=>?_) (fun cdv A outer s H vs Q E hr h=>?_)
  · obtain ⟨a,r,p,rfl,_⟩:=h;rfl
  · obtain ⟨a,r,p,rfl,hS,hR,p0,p1,hn,q⟩:=h
    refine ⟨_,(aB (bh (i:=2) tG.nd rfl (Or.inl rfl) (dY (ak (pv 1) au)))
      (aB (qZ PassesOwn.never (bY vC (bx aJ (pv 0) (bx aJ (pv 2) (rB lU aD) (fun _ _=>rfl)) (fun _ _=>rfl)) (gP (v:=.int (-1)) rfl hMOUTH ⟨_,rfl⟩) (cL _))
        (aC (cj (nM PySem.F.plainAttrs_list PySem.F.slot_list_append PySem.F.type_list_append dG (pv 2) (ak (bx aJ (pv 0) (bx aJ (pv 2) (rB lU aD) (fun _ _=>rfl)) (fun _ _=>rfl)) au)))))
      (aC (bw (pv 2))))),?_⟩
    refine ⟨_,rfl,(by show 1≤sizeLine;decide),fun lw hlw=>?_⟩
    refine ⟨fun m σ H'=>∃ (pre:List Int) (z:Int),σ=[some (.ref a),some (.int p),some (.ref lw)]∧Same H H'∧H' lw=some (.lst ((pre++[z]).map V.int))∧0≤z∧z<r.length∧pre++Rv.walk r z=Rv.walk r p∧m=Rv.mea r z,
      ⟨_,[],p,rfl,(Same.refl H).upd hlw,bf,p0,p1,rfl,rfl⟩,?_⟩
    rintro m σ H2 ⟨pre,z,rfl,s2,h2,z0,z1,e,rfl⟩
    have g:=Rv.iZ z0 z1
    have hlen:pre.length + (Rv.walk r z).length≤r.length + 1:=by
      have:=Rv.wj r p
      rw [← e,List.length_append] at this;exact this
    refine ⟨_,rfl,_,rfl,_,rfl,lw,_,_,_,rfl,rfl,SqL.of h2,rZ pre z,a,_,_,_,rfl,rfl,s2.seq hS,jM z0 g,rfl,_,rfl,?_⟩
    rcases hR.step z0 z1 with hm | ⟨n0,n1⟩
    · rw [hm]
      refine Ua rfl ?_
      refine ⟨_,rfl,q lw H2 _ s2 hlw h2 ?_⟩
      have ew:Rv.walk r z=[z]:=by rw [Rv.dI hR z0 z1,hm,Rv.jF]
      rw [← e,ew]
    · have hd:(!decide (V.int (Rv.nxt r z)=V.int (-1)))=true:=by
        have:¬ Rv.nxt r z=-1:=by omega
        simp [this]
      rw [hd]
      refine yG ?_
      refine ⟨fun σ' H'=>∃ m',m'<Rv.mea r z∧∃ (pre:List Int) (z:Int),σ'=[some (.ref a),some (.int p),some (.ref lw)]∧Same H H'∧H' lw=some (.lst ((pre++[z]).map V.int))∧0≤z∧z<r.length∧pre++Rv.walk r z=Rv.walk r p∧m'=Rv.mea r z,fun _ _ x=>x,?_⟩
      refine ⟨_,rfl,.inl ⟨rfl,_,SqL.of h2⟩,_,rfl,_,rfl,_,rfl,lw,_,_,_,rfl,rfl,SqL.of h2,rZ pre z,a,_,_,_,rfl,rfl,s2.seq hS,jM z0 g,lw,_,_,rfl,rfl,h2,aL ?_,?_⟩
      · rw [List.length_map,List.length_append]
        have:1≤(Rv.walk r z).length:=by rw [Rv.dI hR z0 z1];exact Nat.succ_le_succ (Nat.zero_le _)
        show pre.length + 1≤_
        omega
      · refine ⟨_,Rv.Lr hR z0 z1,pre++[z],Rv.nxt r z,rfl,s2.upd hlw,?_,n0,n1,?_,rfl⟩
        · rw [bf,List.map_append (l₁:=pre++[z])];rfl
        · rw [List.append_assoc]
          show pre++(z :: Rv.walk r (Rv.nxt r z))=_
          rw [← Rv.dI hR z0 z1];exact e
abbrev bL:Stmt:=top 21
theorem d8:aH ["below","start","reach","step"] ["below","start"] (ao bL):=⟨rfl,rfl,rfl,by decide +kernel,rfl,by decide +kernel,by decide +kernel⟩
def wX (K:PySem.W.Frag):Sp:=fun vs H Q _=>∃ (a:Addr) (r:List Int) (i:Nat),vs=[.ref a,.int (i:Int)]∧SqL K H a (r.map V.int)∧Rv.inB r∧i<r.length∧r.length≤900∧Q (.bl (decide (Rv.mW r r.length (i:Int)=-1))) H
structure Cst (mg:Str→Option Value):Prop where
  MOUTH:∃ t,mg "MOUTH"=some (.int (-1) t)
  MOST_REACHES:∃ t,mg "MOST_REACHES"=some (.int 40 t)
theorem Kd {f:Addr} {fd:FuncData} (D:Df K mg "comes_to_mouth" bL ["below","start"] f fd) (B:Blt mg) (C:Cst mg):bN P w K mg base CX0 1 f fd ["below","start"] (wX K):=by
  obtain ⟨tM,hMOUTH⟩:=C.MOUTH
  refine D.F.ok d8 (fun vs H Q E h=>?_) (fun cdv A outer s H vs Q E hr h=>?_)
  · obtain ⟨a,r,i,rfl,_⟩:=h;rfl
  · obtain ⟨a,r,i,rfl,hS,hB,hi,hn,q⟩:=h
    refine ⟨_,(aB (bh (i:=2) d8.nd rfl (Or.inl rfl) (pv 1))
      (aB (jP PassesOwn.never rfl (j4 rfl B.range (ak (aK aG rfl B.len PySem.boot_len (ak (pv 0) au)) au)) (aM (i:=3) d8.nd rfl (Or.inl rfl))
        (aB (bh (i:=2) d8.nd rfl (Or.inl rfl) (bx aJ (pv 0) (pv 2) (fun _ _=>rfl)))
        (aC (iV (bY pQ (pv 2) (gP (v:=.int (-1)) rfl hMOUTH ⟨_,rfl⟩) (cL _))
          (aC (bw vA))
          cG))))
      (aC (bw vA)))),?_⟩
    refine ⟨_,rfl,_,rfl,a,_,rfl,.inl hS,_,rfl,by rw [List.length_map];omega,by rw [List.length_map];omega,?_⟩
    rw [List.length_map,Int.toNat_natCast]
    refine ux (n:=r.length) (fun j σ H2=>∃ (v:Option V),σ=[some (.ref a),some (.int (i:Int)),some (.int (Rv.mW r j (i:Int))),v]∧H=H2∧(j=0∨Rv.mW r j (i:Int)≠-1)) ⟨none,rfl,rfl,.inl rfl⟩ ?_ ?_
    · rintro j σ H2 hj ⟨v,rfl,rfl,hne⟩
      obtain ⟨b0,b1⟩:=Rv.xK hB (p:=(i:Int)) (by omega) (by omega) j
      have hne':Rv.mW r j (i:Int)≠-1:=by
        rcases hne with e | e
        · subst e
          show (i:Int)≠-1
          omega
        · exact e
      have g:=Rv.iZ (r:=r) (p:=Rv.mW r j (i:Int)) (by omega) b1
      have es:Rv.nxt r (Rv.mW r j (i:Int))=Rv.mW r (j + 1) (i:Int):=by
        rw [Rv.kJ];unfold Rv.stp;rw [if_neg hne']
      rw [es] at g
      refine ⟨_,rfl,_,rfl,a,_,_,_,rfl,rfl,hS,jM (by omega) g,_,rfl,rfl,_,rfl,?_⟩
      refine WD (fun h=>?_) (fun h=>?_)
      · have e:Rv.mW r (j + 1) (i:Int)=-1:=by
          have:=of_decide_eq_true h
          exact V.int.inj this
        have e2:Rv.mW r r.length (i:Int)=-1:=by
          have:=Rv.wG r (i:Int) e (r.length - (j + 1))
          rw [show j + 1 + (r.length - (j + 1))=r.length by omega] at this
          exact this
        rw [decide_eq_true e2] at q
        exact q
      · refine ⟨_,rfl,rfl,.inr fun e=>h (decide_eq_true (by rw [e]))⟩
    · rintro σ H2 ⟨v,rfl,rfl,hne⟩
      have e:¬ Rv.mW r r.length (i:Int)=-1:=by
        rcases hne with e | e
        · omega
        · exact e
      rw [decide_eq_false e] at q
      exact q
abbrev dH:Stmt:=top 22
theorem vh:aH ["below"] ["below"] (ao dH):=⟨rfl,rfl,rfl,by decide +kernel,rfl,by decide +kernel,by decide +kernel⟩
def Li (K:PySem.W.Frag):Sp:=fun vs H Q _=>∃ (a:Addr) (r:List Int),vs=[.ref a]∧SqL K H a (r.map V.int)∧r.length≤900∧∀ H',Same H H'→Q (.bl (Rv.isR r)) H'
theorem xV {α:Type} {p:α→Bool} {l:List α}:(l.map p).all id=l.all p:=by
  rw [List.all_map];rfl
theorem Uc (r:List Int):(r.all fun x=>decide (-1≤x) && decide (x<(r.length:Int)))=decide (Rv.inB r):=by
  rw [Bool.eq_iff_iff]
  simp only [List.all_eq_true,Bool.and_eq_true,decide_eq_true_eq]
  exact Iff.rfl
theorem Wk {f fC:Addr} {fd fdC:FuncData} (D:Df K mg "is_river" dH ["below"] f fd) (B:Blt mg) (C:Cst mg) (cH:Df K mg "comes_to_mouth" bL ["below","start"] fC fdC)
    (nQ:bN P w K mg base CX0 1 fC fdC ["below","start"] (wX K)):bN P w K mg base CX0 2 f fd ["below"] (Li K):=by
  obtain ⟨tM,hMOUTH⟩:=C.MOUTH
  obtain ⟨tR,hMOST_REACHES⟩:=C.MOST_REACHES
  refine D.F.ok vh (fun vs H Q E h=>?_) (fun cdv A outer s H vs Q E hr h=>?_)
  · obtain ⟨a,r,rfl,_⟩:=h;rfl
  · obtain ⟨a,r,rfl,hS,hn,q⟩:=h
    refine ⟨_,(aB (iV (jO (lZ nP nP aD (aK aG rfl B.len PySem.boot_len (ak (pv 0) au)) (gP (v:=.int (40)) rfl hMOST_REACHES ⟨_,rfl⟩)))
        (aC (bw vA))
        cG)
      (aB (iV (jO (lD (aK (nW rfl) rfl B.all PyProof.Rows.boot_all (ak (jK (ao dH) rfl ["below"] rfl ["reach","below"] [none,some 0] (by decide +kernel) (by decide +kernel) (by decide +kernel) rfl (eZ (pv 0)) (fun _ _ _=>(aM (i:=0) (show (["reach","below"]:List Str).Nodup by decide +kernel) rfl (Or.inl rfl))) (fun _ _ _=>gM) (fun _ _ _=>(rC nP yw (gP (v:=.int (-1)) rfl hMOUTH ⟨_,rfl⟩) (pv 0) (aK (mH (K:=K) rfl) rfl B.len PySem.boot_len (ak (pv 1) au))))) au))))
        (aC (bw vA))
        cG)
      (aC (bw (aK (nW rfl) rfl B.all PyProof.Rows.boot_all (ak (jK (ao dH) rfl ["below"] rfl ["start","below"] [none,some 0] (by decide +kernel) (by decide +kernel) (by decide +kernel) rfl (j4 rfl B.range (ak (aK aG rfl B.len PySem.boot_len (ak (pv 0) au)) au)) (fun _ _ _=>(aM (i:=0) (show (["start","below"]:List Str).Nodup by decide +kernel) rfl (Or.inl rfl))) (fun _ _ _=>gM) (fun _ _ _=>(aF nQ (hr.mono (by decide)) rfl cH.m cH.F.kp cH.b .nil bB (ak (pv 1) (ak (pv 0) au))))) au)))))),?_⟩
    refine ⟨_,rfl,a,_,rfl,.inl hS,_,_,rfl,rfl,_,rfl,?_⟩
    rw [List.length_map]
    have no1:¬ (1≤r.length∧r.length≤40)→Q (.bl false) H:=fun h=>by
      have e:Rv.isR r=false:=by unfold Rv.isR;rw [decide_eq_false h];rfl
      have:=q H (Same.refl H)
      rw [e] at this
      exact this
    refine WD (fun h1=>⟨_,_,rfl,rfl,_,rfl,?_⟩) (fun h1=>⟨_,rfl,?_⟩)
    case refine_2=>exact yG (no1 fun z=>h1 (decide_eq_true (by omega)))
    have g1:=of_decide_eq_true h1
    by_cases h2:r.length≤40
    case neg =>
      rw [decide_eq_false (by omega)]
      exact yG (no1 fun z=>h2 z.2)
    rw [decide_eq_true (by omega)]
    refine uo ?_
    refine ⟨_,rfl,a,rfl,⟨_,hS⟩,fun acc hacc=>?_⟩
    refine jc (K:=K) (a:=a) (xs:=r.map V.int) (fun i τ H2=>∃ v,τ=[v,some (.ref a)]∧Same H H2∧H2 acc=some (.lst (((r.take i).map fun x=>decide (-1≤x) && decide (x<(r.length:Int))).map V.bl)))
      ⟨none,rfl,(Same.refl H).upd hacc,by rw [bf];rfl⟩ (fun i τ H2 _ ⟨_,_,s2,_⟩=>s2.seq hS) ?_ ?_
    · rintro i y τ H2 hi ⟨v,rfl,s2,h2'⟩
      obtain ⟨z,hz,rfl⟩:=ints_get hi
      have hil:i<r.length:=(List.getElem?_eq_some_iff.mp hz).1
      have e:∀ b:Bool,b=(decide (-1≤z) && decide (z<(r.length:Int)))→((r.take i).map fun x=>decide (-1≤x) && decide (x<(r.length:Int))).map V.bl++[V.bl b]=((r.take (i + 1)).map fun x=>decide (-1≤x) && decide (x<(r.length:Int))).map V.bl:=fun b hb=>by
        rw [List.take_add_one,hz,List.map_append,List.map_append,hb];rfl
      have hsz:(((r.take i).map fun x=>decide (-1≤x) && decide (x<(r.length:Int))).map V.bl).length<sizeLine:=aL (by rw [List.length_map,List.length_map,List.length_take];omega)
      refine yX ?_
      refine ⟨_,rfl,_,_,rfl,rfl,_,rfl,?_⟩
      refine WD (fun h3=>?_) (fun h3=>?_)
      · refine ⟨_,rfl,a,_,rfl,.inl (s2.seq hS),_,_,rfl,rfl,_,h2',hsz,_,rfl,s2.upd hacc,?_⟩
        rw [bf,e _ (by rw [h3,List.length_map];rfl)]
      · refine ⟨_,h2',hsz,_,rfl,s2.upd hacc,?_⟩
        have h3':decide (-1≤z)=false:=by simpa using h3
        rw [bf,e false (by rw [h3'];rfl)]
    · rintro τ H2 ⟨v,rfl,s2,h2'⟩
      rw [List.length_map,List.take_length] at h2'
      refine ⟨acc,_,rfl,SqL.of h2',_,rfl,?_⟩
      rw [xV,Uc]
      by_cases hB:Rv.inB r
      case neg =>
        rw [decide_eq_false hB]
        refine yG ?_
        have e:Rv.isR r=false:=by unfold Rv.isR;rw [decide_eq_false hB,Bool.and_false];rfl
        have:=q H2 s2
        rw [e] at this
        exact this
      rw [decide_eq_true hB]
      refine uo ?_
      refine ⟨_,rfl,a,_,rfl,.inl (s2.seq hS),_,rfl,by rw [List.length_map];omega,by rw [List.length_map];omega,fun ac2 hac2=>?_⟩
      rw [List.length_map,Int.toNat_natCast]
      have nac2:H ac2=none:=s2.free hac2
      refine kZ (fun i τ H3=>∃ v,τ=[v,some (.ref a)]∧Same H H3∧H3 ac2=some (.lst (((List.range i).map fun (j:Nat)=>decide (Rv.mW r r.length (j:Int)=-1)).map V.bl))) ⟨none,rfl,s2.upd nac2,by rw [bf];rfl⟩ ?_ ?_
      · rintro i τ H3 hi ⟨v,rfl,s3,h3⟩
        rw [show (0:Int) + (i:Int)=(i:Int) by omega]
        refine yX ?_
        refine ⟨_,rfl,_,rfl,a,r,i,rfl,s3.seq hS,hB,hi,hn,?_⟩
        refine ⟨_,h3,aL (by rw [List.length_map,List.length_map,List.length_range];omega),_,rfl,s3.upd nac2,?_⟩
        rw [bf,List.range_succ,List.map_append,List.map_append];rfl
      · rintro τ H3 ⟨v,rfl,s3,h3⟩
        refine ⟨ac2,_,rfl,SqL.of h3,?_⟩
        have e:(((List.range r.length).map fun (j:Nat)=>decide (Rv.mW r r.length (j:Int)=-1)).all id)=Rv.isR r:=by
          unfold Rv.isR
          rw [xV,decide_eq_true (show 1≤r.length∧r.length≤40 from ⟨by omega,h2⟩),decide_eq_true hB,Bool.true_and,Bool.true_and,Bool.eq_iff_iff]
          simp only [List.all_eq_true,List.mem_range,decide_eq_true_eq]
        rw [e]
        exact q H3 s3
abbrev fJ:Stmt:=top 5
theorem vg:aH ["amount"] ["amount"] (ao fJ):=⟨rfl,rfl,rfl,by decide +kernel,rfl,by decide +kernel,by decide +kernel⟩
def wK:Sp:=fun vs H Q _=>∃ (z:Int),vs=[.int z]∧∀ b:Bool,(b=true↔(0≤z∧z≤1000000000000))→Q (.bl b) H
theorem J4 {f:Addr} {fd:FuncData} (D:Df K mg "is_water" fJ ["amount"] f fd) (CW:∃ t,mg "MOST_WATER"=some (.int 1000000000000 t)):bN P w K mg base CX0 1 f fd ["amount"] wK:=by
  obtain ⟨tW,hMOST_WATER⟩:=CW
  refine D.F.ok vg (fun vs H Q E h=>?_) (fun cdv A outer s H vs Q E hr h=>?_)
  · obtain ⟨_,rfl,_⟩:=h;rfl
  · obtain ⟨z,rfl,q⟩:=h
    refine ⟨_,(aC (bw (rC nP nP aD (pv 0) (gP (v:=.int (1000000000000)) rfl hMOST_WATER ⟨_,rfl⟩)))),?_⟩
    walk_at "go"
    all_goals refine q _ ?_
    all_goals simp only [decide_eq_true_eq,Bool.false_eq_true,true_iff,false_iff]
    all_goals omega
abbrev cW:Stmt:=top 28
theorem gA:aH ["below","one","day","start","back","most"] ["below","one"] (ao cW):=⟨rfl,rfl,rfl,by decide +kernel,rfl,by decide +kernel,by decide +kernel⟩
def yL (r:List Int) (l:Lic):Prop:=(0≤l.day∧l.day≤1000000∧0≤l.start∧l.start<r.length∧0≤l.most∧l.most≤1000000000000)∧(l.back=-1∨l.back∈(Rv.walk r l.start).drop 1)
def wU (K:PySem.W.Frag) (T:eH):Sp:=fun vs H Q _=>∃ (a t:Addr) (r:List Int) (l:Lic),vs=[.ref a,.ref t]∧SqL K H a (r.map V.int)∧Rv.gH r∧r.length≤900∧SqT K H t (sG l)∧TabsOk T H∧∀ (b:Bool) (H':Hp),bF T H H'→(b=true↔yL r l)→Q (.bl b) H'
theorem Ka {f f1 f2:Addr} {fd fd1 fd2:FuncData} (D:Df K mg "is_licence" cW ["below","one"] f fd) (B:Blt mg) (C:Mth mg) (CD:∃ t,mg "LAST_DAY"=some (.int 1000000 t))
    (iR:Df K mg "is_water" fJ ["amount"] f1 fd1) (yN:bN P w K mg base CX0 1 f1 fd1 ["amount"] wK)
    (cP:Df K mg "way_of" gW ["below","reach"] f2 fd2) (mQ:bN P w K mg base CX0 1 f2 fd2 ["below","reach"] (pY K)):bN P w K mg base CX0 2 f fd ["below","one"] (wU K T):=by
  obtain ⟨tM,hMOUTH⟩:=C.MOUTH
  obtain ⟨tD,hLAST_DAY⟩:=CD
  refine D.F.ok gA (fun vs H Q E h=>?_) (fun cdv A outer s H vs Q E hr h=>?_)
  · obtain ⟨_,_,_,_,rfl,_⟩:=h;rfl
  · obtain ⟨a,t,r,l,rfl,hA,hR,hn,hT,tk,q⟩:=h
    have hml:((r.map V.int).length:Int)=(r.length:Int):=by rw [List.length_map]
    have O:=Ow.refl tk
    have s0:=O.same
    have no:¬ (0≤l.day∧l.day≤1000000∧0≤l.start∧l.start<r.length∧0≤l.most∧l.most≤1000000000000)→Q (.bl false) H:=fun h=>q _ _ O.same ⟨(fun e=>by cases e),fun z=>absurd z.1 h⟩
    refine ⟨_,(aB (qe (pv 1) (qg rfl (bM (aM (i:=2) gA.nd rfl (Or.inl rfl)) (bM (aM (i:=3) gA.nd rfl (Or.inl rfl)) (bM (aM (i:=4) gA.nd rfl (Or.inl rfl)) (bM (aM (i:=5) gA.nd rfl (Or.inl rfl)) jJ))))))
      (aB (iV (jO (PW.pt (pw_and (lZ nP nP aD (pv 2) (gP (v:=.int (1000000)) rfl hLAST_DAY ⟨_,rfl⟩)) (pw_and (lZ nP yw aD (pv 3) (aK aG rfl B.len PySem.boot_len (ak (pv 0) au))) (pw_and1 (lD (aF yN (hr.mono (by decide)) rfl iR.m iR.F.kp iR.b .nil bB (ak (pv 5) au))))))))
        (aC (bw vA))
        cG)
      (aC (bw (Zy (lM pQ (pv 4) (gP (v:=.int (-1)) rfl hMOUTH ⟨_,rfl⟩) (cL _)) (Aj (lM Aq (pv 4) (jj jW (aF mQ (hr.mono (by decide)) rfl cP.m cP.F.kp cP.b .nil bB (ak (pv 0) (ak (pv 3) au))) (jt aD) mX) (by rfl)))))))),?_⟩
    refine ⟨_,rfl,t,_,rfl,hT,rfl,_,_,rfl,_,_,rfl,_,_,rfl,_,_,rfl,rfl,?_⟩
    walk_at "go"
    all_goals first | (refine no ?_;omega) | skip
    intro b hb
    walk_at "go"
    · have hm:=hb.mp (by assumption)
      have num:0≤l.day∧l.day≤1000000∧0≤l.start∧l.start<r.length∧0≤l.most∧l.most≤1000000000000:=by omega
      exact q _ _ O.same ⟨fun _=>⟨num,.inl (by omega)⟩,fun _=>rfl⟩
    · have hm:=hb.mp (by assumption)
      have num:0≤l.day∧l.day≤1000000∧0≤l.start∧l.start<r.length∧0≤l.most∧l.most≤1000000000000:=by omega
      refine ⟨a,r,l.start,rfl,hA,hR,by omega,by omega,hn,O.got fun lw H2 xs O e=>?_⟩
      subst e
      refine ⟨1,rfl,lw,_,rfl,O.sq 0,fun l1 h1=>?_⟩
      walk_at "nw"
      rw [show uW ((Rv.walk r l.start).map V.int) (some 1) none=((Rv.walk r l.start).drop 1).map V.int from rR _ 1] at O
      refine ⟨l1,_,rfl,.inl (O.sq 0),rfl,uy _,?_⟩
      rw [if_neg Bool.false_ne_true,Bw]
      refine q _ _ O.same ?_
      rw [decide_eq_true_iff]
      exact ⟨fun h=>⟨num,.inr h⟩,fun h=>h.2.resolve_left (by omega)⟩
    · refine no fun z=>?_
      have:=hb.mpr ⟨z.2.2.2.2.1,z.2.2.2.2.2⟩
      simp_all
abbrev cC:Stmt:=top 52
theorem oF:aH ["script","k"] ["script","k"] (ao cC):=⟨rfl,rfl,rfl,by decide +kernel,rfl,by decide +kernel,by decide +kernel⟩
def zR (K:PySem.W.Frag):Sp:=fun vs H Q _=>∃ (a:Addr) (ns:List Int) (k:Nat),vs=[.ref a,.int (k:Int)]∧SqL K H a (ns.map V.int)∧Q (.int (ns.getD k 0)) H
theorem TY {f:Addr} {fd:FuncData} (D:Df K mg "_law_cell_at" cC ["script","k"] f fd) (B:Blt mg):bN P w K mg base CX0 1 f fd ["script","k"] (zR K):=by
  refine D.F.ok oF (fun vs H Q E h=>?_) (fun cdv A outer s H vs Q E hr h=>?_)
  · obtain ⟨a,ns,k,rfl,_⟩:=h;rfl
  · obtain ⟨a,ns,k,rfl,hS,q⟩:=h
    refine ⟨_,(aB (iV (bY yw (pv 1) (aK aG rfl B.len PySem.boot_len (ak (pv 0) au)) (cL _))
        (aC (bw (bx aJ (pv 0) (pv 1) (fun _ _=>rfl))))
        cG)
      (aC (bw aD))),?_⟩
    refine ⟨_,rfl,_,rfl,a,_,rfl,.inl hS,_,_,rfl,rfl,_,rfl,?_⟩
    refine WD (fun h=>?_) (fun h=>?_)
    · have hk:k<ns.length:=by
        have:=of_decide_eq_true h
        rw [List.length_map] at this;omega
      have e:ns[k]?=some (ns.getD k 0):=by rw [List.getD_eq_getElem?_getD,List.getElem?_eq_getElem hk];rfl
      exact ⟨_,rfl,_,rfl,a,_,_,_,rfl,rfl,hS,aY e,q⟩
    · have hk:¬ k<ns.length:=fun z=>h (decide_eq_true (by rw [List.length_map];omega))
      have e:ns.getD k 0=0:=by rw [List.getD_eq_getElem?_getD,List.getElem?_eq_none (by omega)];rfl
      rw [e] at q
      exact q
abbrev dh:Stmt:=top 53
theorem qU:aH ["found"] ["found"] (ao dh):=⟨rfl,rfl,rfl,by decide +kernel,rfl,by decide +kernel,by decide +kernel⟩
def wJ:Sp:=fun vs H Q _=>∃ (z:Int),vs=[.int z]∧Q (.bl true) H
theorem Ls (K:PySem.W.Frag):PySem.W.kitOne K (.type "int") (.type "int")=some true:=by rfl
theorem Lw (K:PySem.W.Frag):PySem.W.kitOne K (.type "int") (.type "bool")=some false:=by rfl
theorem Bp (K:PySem.W.Frag):PySem.W.kitOne K (.type "list") (.type "list")=some true:=by rfl
theorem J3 {f:Addr} {fd:FuncData} (D:Df K mg "_law_whole" dh ["found"] f fd) (B:Blt mg):bN P w K mg base CX0 1 f fd ["found"] wJ:=by
  refine D.F.ok qU (fun vs H Q E h=>?_) (fun cdv A outer s H vs Q E hr h=>?_)
  · obtain ⟨z,rfl,_⟩:=h;rfl
  · obtain ⟨z,rfl,q⟩:=h
    refine ⟨_,(aC (bw (Lk (aK jN rfl B.isinstance PyProof.Rows.boot_isinstance (ak (pv 0) (ak (rD (v:=.ty "int") rfl B.int PyProof.Rows.boot_int rfl) au))) (Aj (Wa (aK jN rfl B.isinstance PyProof.Rows.boot_isinstance (ak (pv 0) (ak (rD (v:=.ty "bool") rfl B.bool PyProof.Rows.boot_bool rfl) au)))))))),?_⟩
    refine ⟨_,rfl,_,_,_,true,rfl,.int _,Ls K,_,rfl,yG ?_⟩
    exact ⟨_,rfl,_,_,_,false,rfl,.int _,Lw K,_,rfl,q⟩
abbrev dO:Stmt:=top 54
theorem nq:aH ["cell","place","spot"] ["cell","place"] (ao dO):=⟨rfl,rfl,rfl,by decide +kernel,rfl,by decide +kernel,by decide +kernel⟩
def dv (c k:Int):Int:=(c % 999983 + 400009 + 7001 * k) * (c % 999983 + 400009 + 7001 * k) * (c % 999983 + 400009 + 7001 * k) * (2 * k + 3) % 1000000007
def V1:Sp:=fun vs H Q _=>∃ (c k:Int),vs=[.int c,.int k]∧0≤k∧k≤1000∧Q (.int (dv c k)) H
theorem ZL {f:Addr} {fd:FuncData} (D:Df K mg "_law_draw" dO ["cell","place"] f fd):bN P w K mg base CX0 1 f fd ["cell","place"] V1:=by
  refine D.F.ok nq (fun vs H Q E h=>?_) (fun cdv A outer s H vs Q E hr h=>?_)
  · obtain ⟨c,k,rfl,_⟩:=h;rfl
  · obtain ⟨c,k,rfl,h0,h1,q⟩:=h
    have a0:=Int.emod_nonneg c (show (999983:Int)≠0 by decide)
    have a1:=Int.emod_lt_of_pos c (show (0:Int)<999983 by decide)
    refine ⟨_,(aB (bh (i:=2) nq.nd rfl (Or.inl rfl) (bA iW (bA iW (bA gJ (pv 0) aD) aD) (bA oM aD (pv 1))))
      (aC (bw (bA gJ (bA oM (bA oM (bA oM (pv 2) (pv 2)) (pv 2)) (bA iW (bA oM aD (pv 1)) aD)) aD)))),?_⟩
    refine ⟨_,rfl,_,_,rfl,rfl,(by show (0:Int)<999983;decide),_,_,rfl,rfl,_,rfl,_,_,rfl,rfl,.inl ⟨by decide,by decide⟩,_,_,rfl,rfl,?_⟩
    exact ⟨_,rfl,_,rfl,_,_,rfl,rfl,.inl ⟨by omega,by omega⟩,_,rfl,_,_,rfl,rfl,.inr ⟨by omega,by omega⟩,_,rfl,_,_,rfl,rfl,.inl ⟨by decide,by decide⟩,_,_,rfl,rfl,_,_,rfl,rfl,.inr ⟨by omega,by omega⟩,_,_,rfl,rfl,(by show (0:Int)<1000000007;decide),q⟩
abbrev cB:Stmt:=top 55
theorem qW:aH ["cell","many"] ["cell","many"] (ao cB):=⟨rfl,rfl,rfl,by decide +kernel,rfl,by decide +kernel,by decide +kernel⟩
def dvs (c:Int) (n:Nat):List Int:=(List.range n).map fun (i:Nat)=>dv c (i:Int)
theorem K4 (c:Int) (n:Nat):dvs c (n + 1)=dvs c n++[dv c (n:Int)]:=by
  unfold dvs;rw [List.range_succ,List.map_append];rfl
theorem pq (c:Int) (n:Nat):(dvs c n).length=n:=by unfold dvs;simp
theorem IV {c:Int} {n k:Nat} (h:k<n):(dvs c n)[k]?=some (dv c (k:Int)):=by
  unfold dvs;rw [List.getElem?_map,List.getElem?_range h];rfl
def zP (T:eH):Sp:=fun vs H Q _=>∃ (c:Int) (n:Nat),vs=[.int c,.int (n:Int)]∧n≤100∧TabsOk T H∧pR T H (fun xs=>xs=(dvs c n).map V.int) Q
theorem Wm {f f1:Addr} {fd fd1:FuncData} (D:Df K mg "_law_draws" cB ["cell","many"] f fd) (B:Blt mg)
    (gV:Df K mg "_law_draw" dO ["cell","place"] f1 fd1) (vX:bN P w K mg base CX0 1 f1 fd1 ["cell","place"] V1):bN P w K mg base CX0 2 f fd ["cell","many"] (zP T):=by
  refine D.F.ok qW (fun vs H Q E h=>?_) (fun cdv A outer s H vs Q E hr h=>?_)
  · obtain ⟨c,n,rfl,_⟩:=h;rfl
  · obtain ⟨c,n,rfl,h1,tk,q⟩:=h
    refine ⟨_,(aC (bw (jK (ao cB) rfl ["cell","many"] rfl ["place","cell"] [none,some 0] (by decide +kernel) (by decide +kernel) (by decide +kernel) rfl (j4 rfl B.range (ak (pv 1) au)) (fun _ _ _=>(aM (i:=0) (show (["place","cell"]:List Str).Nodup by decide +kernel) rfl (Or.inl rfl))) (fun _ _ _=>gM) (fun _ _ _=>(aF vX (hr.mono (by decide)) rfl gV.m gV.F.kp gV.b .nil bB (ak (pv 1) (ak (pv 0) au))))))),?_⟩
    have O:=Ow.refl tk
    refine ⟨_,rfl,n,rfl,by omega,by omega,fun lw hlw=>?_⟩
    refine kZ (fun i τ H'=>Iv (∃ (v0:Option V),τ=[v0,some (.int c)]∧Ow T H H' [(lw,.lst ((dvs c i).map V.int))])) ⟨trivial,none,rfl,O.mk' hlw rfl⟩ ?_ ?_
    · rintro i τ H4 hi ⟨-,v0,rfl,O⟩
      refine yX ⟨_,rfl,_,rfl,c,_,rfl,by omega,by omega,?_⟩
      refine ⟨_,O.get 0,aL (by rw [List.length_map,pq];omega),?_⟩
      walk_at "pt"
      refine ⟨trivial,_,rfl,?_⟩
      rw [K4,List.map_append,← Int.zero_add (i:Int)];exact O
    rintro τ H4 ⟨-,v0,rfl,O⟩
    rw [show ((n:Int)).toNat=n by omega] at O
    exact O.ret 0 rfl q rfl
abbrev cI:Stmt:=top 24
theorem qR:aH ["below"] ["below"] (ao cI):=⟨rfl,rfl,rfl,by decide +kernel,rfl,by decide +kernel,by decide +kernel⟩
def Zv (K:PySem.W.Frag) (H:Hp) (a:Addr) (r:List Int):Prop:=SqL K H a (r.map V.int)∧Rv.gH r∧r.length<64
def cO:Pos × Str:=(⟨55,41,55,90⟩,"tops_first.<locals>.<lambda>")
def TT1 (P:Addr) (T:eH):Prop:=(P,cO.1,cO.2)∈T∧(T.map (·.1)).Nodup
def zK (K:PySem.W.Frag) (T:eH):Sp:=fun vs H Q _=>∃ (a:Addr) (r:List Int),vs=[.ref a]∧Zv K H a r∧TabsOk T H ∧
  pR T H (fun xs=>∃ p,xs=p.map (fun (i:Nat)=>V.int (i:Int))∧Rv.JC r p) Q
theorem T7 {r:List Int} {i j:Nat} (hi:i<64) (hj:j<64):HT.lexLt [-((Rv.walk r (i:Int)).length:Int),(i:Int)] [-((Rv.walk r (j:Int)).length:Int),(j:Int)]=decide (Rv.kap r i<Rv.kap r j):=by
  unfold Rv.kap
  rw [HT.jz,HT.jz,HT.mz]
  rw [Bool.eq_iff_iff]
  split
  · split
    · simp only [Bool.false_eq_true,decide_eq_true_eq,false_iff];omega
    · simp only [decide_eq_true_eq];omega
  · simp only [decide_eq_true_eq];omega
theorem Tw {f fW:Addr} {fd fdW:FuncData} {pT cT:Addr} {T:eH} (D:Df K mg "tops_first" cI ["below"] f fd) (hcd:fd.code=.ref cT) (hhd:PySem.W.codeHdIn K cT pT=true) (hT:TT1 pT T) (hbm:BM mg base) (B:Blt mg)
    (cP:Df K mg "way_of" gW ["below","reach"] fW fdW) (mQ:bN P w K mg base CX0 1 fW fdW ["below","reach"] (pY K)):bN P w K mg base CX0 5 f fd ["below"] (zK K T):=by
  refine D.F.okC hcd qR (fun vs H Q E h=>?_) (fun A outer s H vs Q E hr h=>?_)
  · obtain ⟨a,r,rfl,_⟩:=h;rfl
  · obtain ⟨a,r,rfl,⟨hS,hR,h64⟩,tk,q⟩:=h
    refine ⟨_,(aC (bw (nC (P:=pT) (c:=cT) (p:="reach") (ao cI) rfl ["below"] rfl ["below"] [some 0] (by decide +kernel) (by decide +kernel) (by decide +kernel) rfl hbm rfl hhd (xG (hr.mono (by decide))) rfl B.sorted rfl B.range (ak (aK aG rfl B.len PySem.boot_len (ak (pv 0) au)) au) (fun A f cv s H hh hd hu=>(j5 (ak (rB lU (aK (mH (K:=K) rfl) rfl B.len PySem.boot_len (ak (aF mQ (xu (hr.mono (by decide)) hh hd hu) rfl cP.m cP.F.kp cP.b .nil bB (ak (pv 1) (ak (pv 0) au))) au))) (ak (pv 0) au)))) (fun _ _ _ _=>rfl)))),?_⟩
    have hl:(r.map V.int).length=r.length:=List.length_map _
    refine ⟨_,rfl,a,_,rfl,.inl hS,r.length,by rw [hl],h64,tk _ hT.1,fun H2 k1 k2 t2=>?_⟩
    have sT:bF T H H2:=bF.tab tk hT.1 hT.2 k1 t2
    refine ⟨fun i ts H3=>bF T H2 H3∧ts.length=i∧∀ (j:Nat) (t:Addr),ts[j]?=some t→H3 t=some (.tup ([-((Rv.walk r (j:Int)).length:Int),(j:Int)].map V.int)),fun i=>[-((Rv.walk r (i:Int)).length:Int),(i:Int)],Rv.kap r,1,⟨bF.refl sT.t1,rfl,fun j t e=>by simp at e⟩,?_,?_,fun _ _=>rfl,fun i j hi hj=>T7 (by omega) (by omega),?_,?_⟩
    · rintro i ts H3 hi ⟨s3,htl,h3⟩
      refine ⟨fun c' e=>s3.keep c' _ e fun ps z=>(by cases z),?_⟩
      refine ⟨_,rfl,_,rfl,a,r,(i:Int),rfl,(sT.trans s3).seq hS,hR,by omega,by omega,by omega,fun l H4 xs s4 n4 h4 e4=>?_⟩
      subst e4
      refine ⟨l,_,rfl,.inl (SqL.of h4),_,rfl,_,rfl,(by show 2≤sizeLine;decide),fun t ht=>⟨t,rfl,?_⟩⟩
      have sT4:bF T H2 H4:=s3.trans (bF.of s3.t1 s4)
      have nt:H2 t=none:=sT4.free ht
      refine ⟨sT4.upd nt (.inl ht),by rw [List.length_append,htl];rfl,fun j t' e=>?_⟩
      by_cases hj:j<ts.length
      · rw [List.getElem?_append_left hj] at e
        have h4':=s4 _ _ (h3 j t' e)
        rw [aN (bO h4' ht)];exact h4'
      · rw [List.getElem?_append_right (by omega)] at e
        have hj0:j - ts.length=0:=by
          have:=(List.getElem?_eq_some_iff.mp e).1
          simp at this;omega
        have hji:j=i:=by omega
        rw [hj0] at e
        simp at e
        subst e
        subst hji
        rw [bf,List.length_map];rfl
    · rintro ts H3 ⟨_,_,h3⟩
      exact h3
    · intro i j hi hj hij e
      unfold Rv.kap at e
      omega
    · rintro ts H3 D' ys ⟨s3,_,_⟩ hD ⟨p,hp,rfl,ho⟩
      have hbl:(gK r.length).length=r.length:=by unfold gK;simp
      rw [hbl] at hp
      refine q D' _ _ ((sT.trans s3).upd ((sT.trans s3).free hD) (.inl hD)) ((sT.trans s3).free hD) bf ⟨p,?_,hp,ho⟩
      refine List.map_congr_left fun i hi=>?_
      have hi':i<r.length:=List.mem_range.mp (hp.mem_iff.mp hi)
      show (gK r.length).getD i .non=_
      unfold gK
      rw [List.getD_eq_getElem?_getD,List.getElem?_map,List.getElem?_range hi'];rfl
abbrev cV:Stmt:=top 41
theorem jG:aH ["below","springs","flows","reach"] ["below","springs"] (ao cV):=⟨rfl,rfl,rfl,by decide +kernel,rfl,by decide +kernel,by decide +kernel⟩
def Lh (K:PySem.W.Frag) (T:eH):Sp:=fun vs H Q _=>∃ (a b:Addr) (r s:List Int),vs=[.ref a,.ref b]∧Zv K H a r∧SqL K H b (s.map V.int)∧s.length=r.length∧TabsOk T H ∧
  pR T H (fun xs=>xs=(Rv.nats r s).map V.int) Q
theorem Wi {f fT:Addr} {fd fdT:FuncData} {T:eH} (D:Df K mg "natural_of" cV ["below","springs"] f fd) (B:Blt mg) (C:Mth mg)
    (fM:Df K mg "tops_first" cI ["below"] fT fdT) (uK:bN P w K mg base CX0 5 fT fdT ["below"] (zK K T)):bN P w K mg base CX0 6 f fd ["below","springs"] (Lh K T):=by
  obtain ⟨tM,hMOUTH⟩:=C.MOUTH
  refine D.F.ok jG (fun vs H Q E h=>?_) (fun cdv A outer s H vs Q E hr h=>?_)
  · obtain ⟨a,b,r,s,rfl,_⟩:=h;rfl
  · obtain ⟨a,b,r,sp,rfl,⟨hS,hR,h64⟩,hB,hl,tk,q⟩:=h
    refine ⟨_,(aB (bh (i:=2) jG.nd rfl (Or.inl rfl) (dF bT rfl B.list PyProof.Rows.boot_list (ak (pv 1) au)))
      (aB (jP PassesOwn.never rfl (eZ (aF uK (hr.mono (by decide)) rfl fM.m fM.F.kp fM.b .nil bB (ak (pv 0) au))) (aM (i:=3) jG.nd rfl (Or.inl rfl))
        (aC (iV (bY vC (bx aJ (pv 0) (pv 3) (fun _ _=>rfl)) (gP (v:=.int (-1)) rfl hMOUTH ⟨_,rfl⟩) (cL _))
          (aC (oK (pv 2) (bx aJ (pv 0) (pv 3) (fun _ _=>rfl)) mD (bx aJ (pv 2) (pv 3) (fun _ _=>rfl)) xH set_list))
          cG)))
      (aC (bw (pv 2))))),?_⟩
    have O:=Ow.refl tk
    refine ⟨_,rfl,b,_,rfl,.inl hB,fun lf hlf=>?_⟩
    walk_at "new";intro H1 O
    refine ⟨_,rfl,a,r,rfl,⟨O.same.seq hS,hR,h64⟩,O.same.t1,O.yQ fun lt H2 xs O ⟨p,ep,hp⟩=>?_⟩
    subst ep
    refine ⟨lt,rfl,⟨_,O.sq 0⟩,?_⟩
    refine jo (K:=K) (a:=lt) (xs:=p.map fun (i:Nat)=>V.int (i:Int)) (fun t σ H3=>∃ (v3:Option V) (fl:List Int),σ=[some (.ref a),some (.ref b),some (.ref lf),v3]∧Ow T H H3 [(lt,.lst (p.map fun (i:Nat)=>V.int (i:Int))),(lf,.lst (fl.map V.int))]∧Rv.xX r sp p t fl)
      ⟨none,sp,rfl,O,Rv.xX.start r sp p hl⟩ (fun _ _ _ _ ⟨_,_,_,O,_⟩=>O.sq 0) ?_ ?_
    · rintro t y σ H3 hy ⟨v3,fl,rfl,O,N⟩
      rw [List.getElem?_map] at hy
      obtain ⟨j,hj,rfl⟩:∃ j,p[t]?=some j∧y=V.int (j:Int):=by
        cases e:p[t]? with
        | none=>rw [e] at hy;cases hy
        | some j=>rw [e] at hy;exact ⟨j,rfl,(Option.some.inj hy).symm⟩
      have hjr:=hp.lt (List.mem_of_getElem? hj)
      have gj:=Rv.iZ (r:=r) (p:=(j:Int)) (by omega) (by omega)
      have aj:=jM (ns:=r) (i:=(j:Int)) (by omega) gj
      have here:=N.here hp hR h64 hj
      refine ⟨_,rfl,_,rfl,a,_,_,_,rfl,rfl,O.same.seq hS,aj,rfl,_,rfl,?_⟩
      rcases hR.step (p:=(j:Int)) (by omega) (by omega) with hm | ⟨n0,n1⟩
      · rw [hm]
        refine Ua rfl ?_
        exact ⟨_,fl,rfl,O,N.ZP hj hm⟩
      · have hd:(!decide (V.int (Rv.nxt r (j:Int))=V.int (-1)))=true:=by
          have:¬ Rv.nxt r (j:Int)=-1:=by omega
          simp [this]
        rw [hd]
        refine yG ?_
        obtain ⟨bn,ebn⟩:=Int.eq_ofNat_of_zero_le n0
        have hbl:bn<r.length:=by omega
        rw [ebn] at aj
        obtain ⟨x,hx⟩:∃ x,fl[bn]?=some x:=⟨_,N.at_ bn hbl⟩
        refine ⟨_,rfl,_,rfl,_,rfl,a,_,_,_,rfl,rfl,O.same.seq hS,aj,lf,_,bn,V.int x,rfl,rfl,O.sq 1,by rw [List.getElem?_map,hx];rfl,_,rfl,_,rfl,lf,_,_,_,rfl,rfl,O.sq 1,aY here,_,_,rfl,rfl,?_⟩
        refine Ln O 1 rfl (lO (by rw [List.length_map,N.len];exact hbl)) fun H4 O=>?_
        refine ⟨_,fl.set bn (x + Rv.vJ r sp (j:Int)),rfl,?_,N.turn hp hR h64 hj ebn hbl hx⟩
        rw [List.map_set];exact O
    · rintro σ H3 ⟨v3,fl,rfl,O,N⟩
      rw [List.length_map,hp.len] at N
      exact ⟨_,rfl,O.ret 1 rfl q (by rw [N.done hp hR])⟩
theorem oH (n:Nat) (x:Int):(List.replicate n [V.int x]).flatten=(List.replicate n x).map V.int:=by rw [List.map_replicate];exact Tp _ _
theorem pC {w cur:List Int} {c z:Int} {j:Nat} (hz:w[j]?=some z):Tn.bump cur (w.take (j + 1)) c=(Tn.bump cur (w.take j) c).set z.toNat ((Tn.bump cur (w.take j) c).getD z.toNat 0 + c):=by
  rw [List.take_add_one,hz];exact Tn.Jm _ _ _ _
abbrev cR:Stmt:=top 25
theorem lW:aH ["below","start","stop","way"] ["below","start","stop"] (ao cR):=⟨rfl,rfl,rfl,by decide +kernel,rfl,by decide +kernel,by decide +kernel⟩
theorem wC (b:Int):∀ l:List Int,l.take (l.idxOf b)=l.takeWhile (fun x=>!decide (x=b))
  | []=>rfl
  | x :: l=>by
    rw [List.idxOf_cons,List.takeWhile_cons]
    by_cases h:x=b
    · simp [h]
    · have e:(x == b)=false:=by simp [h]
      rw [e,cond_false,List.take_succ_cons,wC b l]
      simp [h]
theorem rQ (ns:List Int) (k:Nat):uW (ns.map V.int) none (some (k:Int))=(ns.take k).map V.int:=by
  unfold uW
  rw [HT.JV,HT.oG,List.drop_zero,List.length_map,Nat.sub_zero,← List.map_take]
  congr 1
  rw [List.take_eq_take_iff];omega
def wM (K:PySem.W.Frag):Sp:=fun vs H Q _=>∃ (a:Addr) (r:List Int) (p b:Int),vs=[.ref a,.int p,.int b]∧SqL K H a (r.map V.int)∧Rv.gH r∧0≤p∧p<r.length∧r.length≤900∧Rv.Stop r p b ∧
  Zc H (fun xs=>xs=(Rv.ou r p b).map V.int) Q
theorem J6 {f fW:Addr} {fd fdW:FuncData} (D:Df K mg "stretch_of" cR ["below","start","stop"] f fd) (C:Mth mg) (cP:Df K mg "way_of" gW ["below","reach"] fW fdW)
    (mQ:bN P w K mg base CX0 1 fW fdW ["below","reach"] (pY K)):bN P w K mg base CX0 2 f fd ["below","start","stop"] (wM K):=by
  obtain ⟨tM,hMOUTH⟩:=C.MOUTH
  refine D.F.ok lW (fun vs H Q E h=>?_) (fun cdv A outer s H vs Q E hr h=>?_)
  · obtain ⟨a,r,p,b,rfl,_⟩:=h;rfl
  · obtain ⟨a,r,p,b,rfl,hS,hR,p0,p1,hn,st,q⟩:=h
    refine ⟨_,(aB (bh (i:=3) lW.nd rfl (Or.inl rfl) (aF mQ (hr.mono (by decide)) rfl cP.m cP.F.kp cP.b .nil bB (ak (pv 0) (ak (pv 1) au))))
      (aB (iV (bY pQ (pv 2) (gP (v:=.int (-1)) rfl hMOUTH ⟨_,rfl⟩) (cL _))
        (aC (bw (pv 3)))
        cG)
      (aB (iV (bY tZ (pv 2) (pv 3) (by rfl))
        (aC kO)
        cG)
      (aC (bw (jj jW (pv 3) mX (jt (nM PySem.F.plainAttrs_list PySem.F.slot_list_index PySem.F.type_list_index Kq (pv 3) (ak (pv 2) au))))))))),?_⟩
    refine ⟨_,rfl,_,rfl,a,r,p,rfl,hS,hR,p0,p1,hn,fun lw H1 xs s1 n1 h1 e1=>?_⟩
    subst e1
    refine ⟨_,rfl,rfl,_,rfl,WD (fun h=>?_) fun h=>?_⟩
    · have hb:b=-1:=V.int.inj (of_decide_eq_true h)
      refine ⟨_,rfl,q lw H1 _ s1 n1 h1 ?_⟩
      unfold Rv.ou;rw [if_pos hb]
    · have hb:¬ b=-1:=fun z=>h (decide_eq_true (by rw [z]))
      have hm:b∈Rv.walk r p:=st.resolve_left hb
      refine ⟨_,rfl,_,rfl,lw,_,rfl,.inl (SqL.of h1),rfl,uy _,_,rfl,?_⟩
      rw [if_pos rfl,Bw,decide_eq_true hm]
      refine uo ?_
      refine ⟨_,rfl,_,rfl,.inl ⟨rfl,_,SqL.of h1⟩,_,rfl,lw,_,b,rfl,rfl,SqL.of h1,hm,_,rfl,lw,_,rfl,SqL.of h1,fun l hl=>?_⟩
      refine q l _ _ (s1.upd (s1.free hl)) (s1.free hl) bf ?_
      rw [rQ,wC]
      unfold Rv.ou;rw [if_neg hb]
abbrev cU:Stmt:=top 29
theorem gw:aH ["below","one","day","start","back","most"] ["below","one"] (ao cU):=⟨rfl,rfl,rfl,by decide +kernel,rfl,by decide +kernel,by decide +kernel⟩
def Y7 (r:List Int) (l:Lic):Prop:=0≤l.start∧l.start<r.length∧Rv.Stop r l.start l.back
def pZ (K:PySem.W.Frag):Sp:=fun vs H Q _=>∃ (a t:Addr) (r:List Int) (l:Lic),vs=[.ref a,.ref t]∧SqL K H a (r.map V.int)∧Rv.gH r∧r.length≤900∧SqT K H t (sG l)∧Y7 r l∧Zc H (fun xs=>xs=(Rv.ou r l.start l.back).map V.int) Q
theorem yx {f f1:Addr} {fd fd1:FuncData} (D:Df K mg "reaches_of" cU ["below","one"] f fd) (fO:Df K mg "stretch_of" cR ["below","start","stop"] f1 fd1) (uL:bN P w K mg base CX0 2 f1 fd1 ["below","start","stop"] (wM K)) :
    bN P w K mg base CX0 3 f fd ["below","one"] (pZ K):=by
  refine D.F.ok gw (fun vs H Q E h=>?_) (fun cdv A outer s H vs Q E hr h=>?_)
  · obtain ⟨_,_,_,_,rfl,_⟩:=h;rfl
  · obtain ⟨a,t,r,l,rfl,hA,hR,hn,hT,ok,q⟩:=h
    refine ⟨_,(aB (qe (pv 1) (qg rfl (bM (aM (i:=2) gw.nd rfl (Or.inl rfl)) (bM (aM (i:=3) gw.nd rfl (Or.inl rfl)) (bM (aM (i:=4) gw.nd rfl (Or.inl rfl)) (bM (aM (i:=5) gw.nd rfl (Or.inl rfl)) jJ))))))
      (aC (bw (aF uL (hr.mono (by decide)) rfl fO.m fO.F.kp fO.b .nil bB (ak (pv 0) (ak (pv 3) (ak (pv 4) au))))))),?_⟩
    refine ⟨_,rfl,t,_,rfl,hT,rfl,_,_,rfl,_,_,rfl,_,_,rfl,_,_,rfl,rfl,?_⟩
    exact ⟨_,rfl,_,rfl,_,rfl,a,r,l.start,l.back,rfl,hA,hR,ok.1,ok.2.1,hn,ok.2.2,q⟩
abbrev eU:Stmt:=top 31
theorem yr:aH ["one"] ["one"] (ao eU):=⟨rfl,rfl,rfl,by decide +kernel,rfl,by decide +kernel,by decide +kernel⟩
def qO (K:PySem.W.Frag):Sp:=fun vs H Q _=>∃ (a:Addr) (l:Lic),vs=[.ref a]∧SqT K H a (sG l)∧Q (.int l.most) H
theorem TF {f:Addr} {fd:FuncData} (D:Df K mg "most_of" eU ["one"] f fd):bN P w K mg base CX0 1 f fd ["one"] (qO K):=by
  refine D.F.ok yr (fun vs H Q E h=>?_) (fun cdv A outer s H vs Q E hr h=>?_)
  · obtain ⟨c,k,rfl,_⟩:=h;rfl
  · obtain ⟨a,l,rfl,hT,q⟩:=h
    refine ⟨_,(aC (bw (bx mC (pv 0) aD (fun _ _=>rfl)))),?_⟩
    exact ⟨_,rfl,_,_,_,_,rfl,rfl,hT,rfl,q⟩
abbrev eE:Stmt:=top 35
theorem vf:aH ["roll","calls"] ["roll","calls"] (ao eE):=⟨rfl,rfl,rfl,by decide +kernel,rfl,by decide +kernel,by decide +kernel⟩
def jx (ls:List Lic) (cs:List Int):List Int:=List.zipWith (fun l c=>min c l.most) ls cs
theorem WQ (i j:Int):(if j<i then j else i)=min i j:=by
  by_cases h:j<i
  · rw [if_pos h];omega
  · rw [if_neg h];omega
theorem JD {α β γ:Type} (f:α→β→γ) {as:List α} {bs:List β} {i:Nat} {a:α} {b:β} (ha:as[i]?=some a) (hb:bs[i]?=some b):List.zipWith f (as.take (i + 1)) (bs.take (i + 1))=List.zipWith f (as.take i) (bs.take i)++[f a b]:=by
  have h1:=(List.getElem?_eq_some_iff.mp ha)
  have h2:=(List.getElem?_eq_some_iff.mp hb)
  obtain ⟨l1,e1⟩:=h1
  obtain ⟨l2,e2⟩:=h2
  rw [List.take_succ,List.take_succ,ha,hb,List.zipWith_append (by rw [List.length_take,List.length_take];omega)]
  rfl
def wL (K:PySem.W.Frag) (T:eH):Sp:=fun vs H Q _=>∃ (v:V) (b:Addr) (ls:List Lic) (cs:List Int),vs=[v,.ref b]∧Den K H v (K8 ls)∧SqL K H b (cs.map V.int)∧ls.length=cs.length∧ls.length≤1000∧TabsOk T H∧pR T H (fun xs=>xs=(jx ls cs).map V.int) Q
theorem J5 {f f1:Addr} {fd fd1:FuncData} (D:Df K mg "wants_of" eE ["roll","calls"] f fd) (B:Blt mg) (bI:Df K mg "most_of" eU ["one"] f1 fd1) (jD:bN P w K mg base CX0 1 f1 fd1 ["one"] (qO K)) :
    bN P w K mg base CX0 2 f fd ["roll","calls"] (wL K T):=by
  refine D.F.ok vf (fun vs H Q E h=>?_) (fun cdv A outer s H vs Q E hr h=>?_)
  · obtain ⟨_,_,_,_,rfl,_⟩:=h;rfl
  · obtain ⟨v,b,ls,cs,rfl,hd,hb,hlc,hlen,tk,q⟩:=h
    obtain ⟨a,xs,rfl,hL,hds⟩:=hd.jk
    have hxl:xs.length=ls.length:=by rw [hds.length,List.length_map]
    refine ⟨_,(aC (bw (jK (ao eE) rfl ["roll","calls"] rfl ["one","call"] [none,none] (by decide +kernel) (by decide +kernel) (by decide +kernel) rfl (Ag rfl B.zip (ak (pv 0) (ak (pv 1) au))) (fun _ _ _=>(rA (K:=K) (n:=2) rfl rfl (bM (aM (i:=0) (show (["one","call"]:List Str).Nodup by decide +kernel) rfl (Or.inl rfl)) (bM (aM (i:=1) (show (["one","call"]:List Str).Nodup by decide +kernel) rfl (Or.inl rfl)) jJ)))) (fun _ _ _=>gM) (fun _ _ _=>(aK (uD rfl) rfl B.min PyProof.Rows.boot_min (ak (pv 1) (ak (aF jD (hr.mono (by decide)) rfl bI.m bI.F.kp bI.b .nil bB (ak (pv 0) au)) au))))))),?_⟩
    have O:=Ow.refl tk
    refine ⟨_,rfl,_,rfl,a,b,_,_,rfl,hL,hb,fun acc hacc=>?_⟩
    refine xR (K:=K) (fun i τ H'=>Iv (∃ (v0 v1:Option V),τ=[v0,v1]∧Ow T H H' [(acc,.lst ((List.zipWith (fun l c=>min c l.most) (ls.take i) (cs.take i)).map V.int))])) (by rw [List.length_map];omega)
      ⟨trivial,none,none,rfl,O.mk' hacc rfl⟩ (fun i τ H' _ ⟨_,_,_,_,O⟩=>⟨O.same.seq hL,O.same.seq hb⟩) ?_ ?_
    · rintro i x y t τ H' hx hy ⟨-,v0,v1,rfl,O⟩ ht
      obtain ⟨z,hz,rfl⟩:=ints_get hy
      obtain ⟨al,l,rfl,hl,hT⟩:=hds.Bk hx
      have hi:=(List.getElem?_eq_some_iff.mp hz).1
      walk_at "nw"
      refine ⟨t,_,rfl,O.sqT 0,rfl,_,_,rfl,_,_,rfl,rfl,?_⟩
      refine Zd ?_
      refine ⟨_,rfl,_,rfl,al,l,rfl,hT.mo O.same,_,_,rfl,?_⟩
      refine ⟨_,O.get 1,aL (by rw [List.length_map,List.length_zipWith,List.length_take];omega),?_⟩
      walk_at "pt"
      refine ⟨trivial,_,_,rfl,?_⟩
      rw [JD _ hl hz,List.map_append,← WQ]
      exact O.tail
    · rintro τ H' ⟨-,v0,v1,rfl,O⟩
      refine O.ret 0 rfl q ?_
      rw [hxl,List.take_of_length_le (Nat.le_refl _),List.take_of_length_le (by omega)];rfl
abbrev cZ:Stmt:=top 43
theorem iH:aH ["free","ways","counts","way","reach"] ["free","ways"] (ao cZ):=⟨rfl,rfl,rfl,by decide +kernel,rfl,by decide +kernel,by decide +kernel⟩
def wW (K:PySem.W.Frag) (T:eH):Sp:=fun vs H Q _=>∃ (a:Addr) (v:V) (fs:List Int) (ws:List (List Int)),vs=[.ref a,v]∧SqL K H a (fs.map V.int)∧fs.length≤1000∧Den K H v (xQ ws)∧(∀ w∈ws,Tn.WOk fs.length w)∧TabsOk T H ∧
  pR T H (fun xs=>xs=(Tn.bumps (List.replicate fs.length 0) (ws.map fun w=>(w,1))).map V.int) Q
theorem Kc {f:Addr} {fd:FuncData} (D:Df K mg "count_ways" cZ ["free","ways"] f fd) (B:Blt mg):bN P w K mg base CX0 1 f fd ["free","ways"] (wW K T):=by
  refine D.F.ok iH (fun vs H Q E h=>?_) (fun cdv A outer s H vs Q E hr h=>?_)
  · obtain ⟨_,_,_,_,rfl,_⟩:=h;rfl
  · obtain ⟨a,v,fs,ws,rfl,hA,hfl,hd,hws,tk,q⟩:=h
    obtain ⟨b,xs,rfl,hL,hds⟩:=hd.jk
    have hxl:xs.length=ws.length:=by rw [hds.length,List.length_map]
    refine ⟨_,(aB (bh (i:=2) iH.nd rfl (Or.inl rfl) (bA Am (dY (ak aD au)) (aK aG rfl B.len PySem.boot_len (ak (pv 0) au))))
      (aB (jP PassesOwn.never rfl (eZ (pv 1)) (aM (i:=3) iH.nd rfl (Or.inl rfl))
        (aC (jP PassesOwn.never rfl (eZ (pv 3)) (aM (i:=4) iH.nd rfl (Or.inl rfl))
          (aC (oK (pv 2) (pv 4) mD aD xH set_list)))))
      (aC (bw (pv 2))))),?_⟩
    have O:=Ow.refl tk
    have s0:=O.same
    walk_at "w"
    intro l1 h1
    walk_at "nw"
    walk_at "w"
    refine ⟨l1,_,_,rfl,rfl,O.get 0,by rw [List.length_map];omega,by rw [List.length_map];omega,eX (by rw [List.length_map,Int.toNat_natCast];simp;omega),fun lc hlc=>?_⟩
    walk_at "nw"
    rw [List.length_map,Int.toNat_natCast,oH] at O
    have O:=O.two
    refine ⟨_,rfl,b,rfl,⟨_,O.same.seq hL⟩,?_⟩
    refine jo (K:=K) (xs:=xs) (fun i σ H'=>Iv (∃ v3 v4:Option V,σ=[some (.ref a),some (.ref b),some (.ref lc),v3,v4]∧Ow T H H' [(lc,.lst ((Tn.bumps (List.replicate fs.length 0) ((ws.take i).map fun w=>(w,1))).map V.int))]))
      ⟨trivial,none,none,rfl,O⟩ (fun i σ H' _ ⟨_,_,_,_,O⟩=>O.same.seq hL) ?_ ?_
    · rintro i x σ H2 hx ⟨-,v3,v4,rfl,O⟩
      obtain ⟨wa,w,rfl,hw,hW⟩:=hds.SX hx
      have ok:=hws w (List.mem_of_getElem? hw)
      have hnext:Tn.bumps (List.replicate fs.length 0) ((ws.take (i + 1)).map fun w=>(w,(1:Int)))=Tn.bump (Tn.bumps (List.replicate fs.length 0) ((ws.take i).map fun w=>(w,1))) w 1:=by
        rw [List.take_add_one,hw,List.map_append];exact Tn.qF _ _ _
      have hcl:(Tn.bumps (List.replicate fs.length 0) ((ws.take i).map fun w=>(w,(1:Int)))).length=fs.length:=by rw [Tn.jB,List.length_replicate]
      generalize Tn.bumps (List.replicate fs.length 0) ((ws.take i).map fun w=>(w,(1:Int)))=cur at O hnext hcl
      refine ⟨_,rfl,wa,rfl,⟨_,O.same.seq hW⟩,?_⟩
      refine jo (K:=K) (xs:=w.map V.int) (fun j σ H'=>Iv (∃ v4:Option V,σ=[some (.ref a),some (.ref b),some (.ref lc),some (.ref wa),v4]∧Ow T H H' [(lc,.lst ((Tn.bump cur (w.take j) 1).map V.int))]))
        ⟨trivial,v4,rfl,O⟩ (fun i σ H' _ ⟨_,_,_,O⟩=>O.same.seq hW) ?_ ?_
      · rintro j y σ H3 hy ⟨-,v4,rfl,O⟩
        obtain ⟨z,hz,rfl⟩:=ints_get hy
        obtain ⟨z0,z1⟩:=ok.2 z (List.mem_of_getElem? hz)
        obtain ⟨zn,rfl⟩:=Int.eq_ofNat_of_zero_le z0
        have hbl:(Tn.bump cur (w.take j) 1).length=fs.length:=by rw [Tn.iK,hcl]
        refine ⟨_,rfl,_,rfl,lc,_,zn,_,rfl,rfl,O.sq 0,by rw [List.getElem?_map,cF (by omega)];rfl,?_⟩
        refine ⟨_,_,rfl,rfl,lc,_,_,zn,rfl,rfl,O.get 0,lO (by rw [List.length_map];omega),?_⟩
        walk_at "pt"
        refine ⟨trivial,_,rfl,?_⟩
        rw [pC hz,Int.toNat_natCast,List.map_set];exact O
      · rintro σ H3 ⟨-,v4,rfl,O⟩
        rw [List.length_map,List.take_of_length_le (Nat.le_refl _)] at O
        refine ⟨trivial,_,_,rfl,?_⟩
        rw [hnext];exact O
    rintro σ H2 ⟨-,v3,v4,rfl,O⟩
    refine ⟨_,rfl,O.ret 0 rfl q ?_⟩
    rw [hxl,List.take_of_length_le (Nat.le_refl _)]
abbrev bZ:Stmt:=top 44
theorem jq:aH ["free","ways","rests","counts","shares"] ["free","ways","rests"] (ao bZ):=⟨rfl,rfl,rfl,by decide +kernel,rfl,by decide +kernel,by decide +kernel⟩
def VN (K:PySem.W.Frag) (T:eH):Sp:=fun vs H Q _=>∃ (a b:Addr) (v:V) (fs rs:List Int) (ws:List (List Int)),vs=[.ref a,v,.ref b]∧SqL K H a (fs.map V.int)∧Den K H v (xQ ws)∧SqL K H b (rs.map V.int)∧fs.length≤1000∧rs.length≤1000∧ws.length≤1000 ∧
  (∀ w∈ws,Tn.WOk fs.length w)∧TabsOk T H∧∀ (M:Int) (H':Hp),bF T H H'→Tn.WT fs (Tn.bumps (List.replicate fs.length 0) (ws.map fun w=>(w,1))) rs M→Q (.int M) H'
theorem ZF {f f1:Addr} {fd fd1:FuncData} (D:Df K mg "whole_turns" bZ ["free","ways","rests"] f fd) (B:Blt mg) (fY:Df K mg "count_ways" cZ ["free","ways"] f1 fd1) (uQ:bN P w K mg base CX0 1 f1 fd1 ["free","ways"] (wW K T)) :
    bN P w K mg base CX0 2 f fd ["free","ways","rests"] (VN K T):=by
  refine D.F.ok jq (fun vs H Q E h=>?_) (fun cdv A outer s H vs Q E hr h=>?_)
  · obtain ⟨_,_,_,_,_,_,rfl,_⟩:=h;rfl
  · obtain ⟨a,b,v,fs,rs,ws,rfl,hA,hd,hB,hfl,hrl,hwl,hws,tk,q⟩:=h
    refine ⟨_,(aB (bh (i:=3) jq.nd rfl (Or.inl rfl) (aF uQ (hr.mono (by decide)) rfl fY.m fY.F.kp fY.b .nil bB (ak (pv 0) (ak (pv 1) au))))
      (aB (gO (i:=4) (ao bZ) rfl ["free","ways","rests","counts","shares"] rfl ["drops","count"] [none,none] (by decide +kernel) (by decide +kernel) (by decide +kernel) rfl jq.nd rfl rfl (Ag rfl B.zip (ak (pv 0) (ak (pv 3) au))) (fun _ _ _=>(rA (K:=K) (n:=2) rfl rfl (bM (aM (i:=0) (show (["drops","count"]:List Str).Nodup by decide +kernel) rfl (Or.inl rfl)) (bM (aM (i:=1) (show (["drops","count"]:List Str).Nodup by decide +kernel) rfl (Or.inl rfl)) jJ)))) (fun _ _ _=>(vm (bY J2 (pv 1) aD (cL _)))) (fun _ _ _=>(bA oN (pv 0) (pv 1))) rfl)
      (aC (bw (aK (pB rfl) rfl B.max PyProof.Rows.boot_max (ak aD (ak (Tr rfl rfl B.min (bA nF (dF bT rfl B.list PyProof.Rows.boot_list (ak (pv 2) au)) (pv 4))) au))))))),?_⟩
    have O:=Ow.refl tk
    have s0:=O.same
    refine ⟨_,rfl,_,rfl,a,v,fs,ws,rfl,hA,hfl,hd,hws,tk,O.yQ fun lc H2 xs O e=>?_⟩
    subst e
    have hcb:=Tn.cw_bound hws
    have hcl:(Tn.bumps (List.replicate fs.length 0) (ws.map fun w=>(w,(1:Int)))).length=fs.length:=by rw [Tn.jB,List.length_replicate]
    generalize Tn.bumps (List.replicate fs.length 0) (ws.map fun w=>(w,(1:Int)))=cs at O hcb hcl q
    refine ⟨_,rfl,_,rfl,a,lc,_,_,rfl,O.same.seq hA,O.sq 0,fun acc hacc=>?_⟩
    refine xR (K:=K) (fun i τ H'=>Iv (∃ (v0 v1:Option V),τ=[v0,v1]∧Ow T H H' [(acc,.lst ((Tn.shares (fs.take i) (cs.take i)).map V.int)),(lc,.lst (cs.map V.int))])) (by rw [List.length_map,List.length_map];omega)
      ⟨trivial,none,none,rfl,O.mk' hacc rfl⟩ (fun i τ H' _ ⟨_,_,_,_,O⟩=>⟨O.same.seq hA,O.sq 1⟩) ?_ ?_
    · rintro i x y t τ H' hx hy ⟨-,v0,v1,rfl,O⟩ ht
      obtain ⟨z,hz,rfl⟩:=ints_get hx
      obtain ⟨c,hc,rfl⟩:=ints_get hy
      have hi:=(List.getElem?_eq_some_iff.mp hz).1
      have hcm:=hcb c (List.mem_of_getElem? hc)
      have hnext:=Tn.vd hz hc
      have hsl:(Tn.shares (fs.take i) (cs.take i)).length≤1000:=by
        unfold Tn.shares
        rw [List.length_map]
        refine Nat.le_trans (List.length_filter_le _ _) ?_
        rw [List.length_zip,List.length_take];omega
      walk_at "nw"
      refine ⟨t,_,rfl,O.sqT 0,rfl,_,_,rfl,_,_,rfl,rfl,?_⟩
      refine ⟨_,rfl,_,_,rfl,rfl,_,rfl,ifD (fun hp=>?_) fun hp=>?_⟩
      · rw [if_pos hp] at hnext
        refine ⟨_,rfl,_,rfl,_,_,rfl,rfl,⟨hp,by omega⟩,?_⟩
        refine ⟨_,O.get 1,aL (by rw [List.length_map];omega),?_⟩
        walk_at "pt"
        refine ⟨trivial,_,_,rfl,?_⟩
        rw [hnext,List.map_append];exact O.tail
      · rw [if_neg hp,List.append_nil] at hnext
        refine ⟨trivial,_,_,rfl,?_⟩
        rw [hnext];exact O.tail
    rintro τ H' ⟨-,v0,v1,rfl,O⟩
    rw [List.length_map,List.take_of_length_le (Nat.le_refl _),List.take_of_length_le (by omega)] at O
    have hsl:(Tn.shares fs cs).length≤1000:=by
      unfold Tn.shares
      rw [List.length_map]
      refine Nat.le_trans (List.length_filter_le _ _) ?_
      rw [List.length_zip];omega
    refine ⟨_,rfl,b,_,rfl,.inl (O.same.seq hB),fun lr hlr=>?_⟩
    walk_at "nw"
    refine ⟨_,rfl,lr,acc,_,_,rfl,rfl,O.get 0,O.get 1,eX (by rw [List.length_map,List.length_map];omega),fun l2 hl2=>?_⟩
    walk_at "nw"
    rw [← List.map_append] at O
    refine ⟨l2,rs++Tn.shares fs cs,rfl,O.sq 0,fun e0=>?_,fun m hm hle=>?_⟩
    · exact ⟨_,_,rfl,q _ _ O.same (.inl ⟨e0,rfl⟩)⟩
    · refine ⟨_,_,rfl,q _ _ O.same (.inr ⟨m,hm,hle,?_⟩)⟩
      by_cases h:m > 0
      · rw [if_pos h];omega
      · rw [if_neg h];omega
abbrev lX:Stmt:=top 45
theorem zZ:aH ["left","way","drops","reach"] ["left","way","drops"] (ao lX):=⟨rfl,rfl,rfl,by decide +kernel,rfl,by decide +kernel,by decide +kernel⟩
def u9 (K:PySem.W.Frag) (T:eH):Sp:=fun vs H Q _=>∃ (a b:Addr) (fs w:List Int) (c:Int) (Hb:Hp),vs=[.ref a,.ref b,.int c]∧Ow T Hb H [(a,.lst (fs.map V.int))]∧SqL K Hb b (w.map V.int)∧Tn.WOk fs.length w ∧
  ∀ H',Ow T Hb H' [(a,.lst ((Tn.bump fs w (-c)).map V.int))]→Q .non H'
theorem TQ {f:Addr} {fd:FuncData} (D:Df K mg "draw" lX ["left","way","drops"] f fd):bN P w K mg base CX0 1 f fd ["left","way","drops"] (u9 K T):=by
  refine D.F.ok zZ (fun vs H Q E h=>?_) (fun cdv A outer s H vs Q E hr h=>?_)
  · obtain ⟨_,_,_,_,_,_,rfl,_⟩:=h;rfl
  · obtain ⟨a,b,fs,w,c,Hb,rfl,O,hW,ok,q⟩:=h
    refine ⟨_,(aC (jP PassesOwn.never rfl (eZ (pv 1)) (aM (i:=3) zZ.nd rfl (Or.inl rfl))
        (aC (oK (pv 0) (pv 3) mD (pv 2) WK set_list)))),?_⟩
    refine ⟨_,rfl,b,rfl,⟨_,O.same.seq hW⟩,?_⟩
    refine jo (K:=K) (xs:=w.map V.int) (fun j σ H'=>Iv (∃ v3:Option V,σ=[some (.ref a),some (.ref b),some (.int c),v3]∧Ow T Hb H' [(a,.lst ((Tn.bump fs (w.take j) (-c)).map V.int))]))
      ⟨trivial,none,rfl,O⟩ (fun i σ H' _ ⟨_,_,_,O⟩=>O.same.seq hW) ?_ ?_
    · rintro j y σ H3 hy ⟨-,v4,rfl,O⟩
      obtain ⟨z,hz,rfl⟩:=ints_get hy
      obtain ⟨z0,z1⟩:=ok.2 z (List.mem_of_getElem? hz)
      obtain ⟨zn,rfl⟩:=Int.eq_ofNat_of_zero_le z0
      have hbl:(Tn.bump fs (w.take j) (-c)).length=fs.length:=Tn.iK _ _ _
      refine ⟨_,rfl,_,rfl,a,_,zn,_,rfl,rfl,O.sq 0,by rw [List.getElem?_map,cF (by omega)];rfl,?_⟩
      refine ⟨_,rfl,_,_,rfl,rfl,a,_,_,zn,rfl,rfl,O.get 0,lO (by rw [List.length_map];omega),?_⟩
      walk_at "pt"
      refine ⟨trivial,_,rfl,?_⟩
      rw [pC hz,Int.toNat_natCast,List.map_set];exact O
    · rintro σ H3 ⟨-,v4,rfl,O⟩
      rw [List.length_map,List.take_of_length_le (Nat.le_refl _)] at O
      exact q _ O
abbrev aP:Stmt:=top 46
theorem dz:aH ["left","ways","rests","takes","going","unmet","turns","taker"] ["left","ways","rests","takes","going"] (ao aP):=⟨rfl,rfl,rfl,by decide +kernel,rfl,by decide +kernel,by decide +kernel⟩
structure aap (K:PySem.W.Frag) (T:eH) (H Hb:Hp) (a b t g:Addr) (v:V) (fs rs xs:List Int) (ws:List (List Int)) (gs:List Nat):Prop where
  O:Ow T Hb H [(a,.lst (fs.map V.int)),(t,.lst (xs.map V.int))]
  d0:Den K Hb v (xQ ws)
  d1:SqL K Hb b (rs.map V.int)
  d2:SqL K Hb g ((Tn.asI gs).map V.int)
  rl:rs.length=ws.length
  xl:xs.length=ws.length
  gn:∀ k∈gs,k<ws.length
  nd:gs.Nodup
  wok:∀ w∈ws,Tn.WOk fs.length w
  fl:fs.length≤1000
  wl:ws.length≤1000
  gl:gs.length≤1000
def VR (K:PySem.W.Frag) (T:eH):Sp:=fun vs H Q _=>∃ (a b t g:Addr) (v:V) (fs rs xs:List Int) (ws:List (List Int)) (gs:List Nat) (Hb:Hp),vs=[.ref a,v,.ref b,.ref t,.ref g]∧aap K T H Hb a b t g v fs rs xs ws gs ∧
  ∀ (M:Int) (H':Hp),Tn.WT fs (Tn.JB fs.length ws gs) (Tn.unmet rs xs gs) M→Ow T Hb H' [(a,.lst ((Tn.bumps fs (gs.map fun k=>(Tn.fW ws k,-M))).map V.int)),(t,.lst ((Tn.bump xs (Tn.asI gs) M).map V.int))]→Q .non H'
theorem vN {ws:List (List Int)} {k:Nat} (h:k<ws.length):ws[k]?=some (Tn.fW ws k):=by
  unfold Tn.fW;rw [List.getD_eq_getElem?_getD,List.getElem?_eq_getElem h];rfl
theorem ZJ {f f1 f2:Addr} {fd fd1 fd2:FuncData} (D:Df K mg "take_whole_turns" aP ["left","ways","rests","takes","going"] f fd) (B:Blt mg)
    (eG:Df K mg "whole_turns" bZ ["free","ways","rests"] f1 fd1) (sE:bN P w K mg base CX0 2 f1 fd1 ["free","ways","rests"] (VN K T))
    (kI:Df K mg "draw" lX ["left","way","drops"] f2 fd2) (Jv:bN P w K mg base CX0 1 f2 fd2 ["left","way","drops"] (u9 K T)) :
    bN P w K mg base CX0 3 f fd ["left","ways","rests","takes","going"] (VR K T):=by
  refine D.F.ok dz (fun vs H Q E h=>?_) (fun cdv A outer s H vs Q E hr h=>?_)
  · obtain ⟨_,_,_,_,_,_,_,_,_,_,_,rfl,_⟩:=h;rfl
  · obtain ⟨a,b,t,g,v,fs,rs,xs,ws,gs,Hb,rfl,⟨O,d0,d1,d2,rl,xl,gn,nd,wok,fl,wl,gl⟩,q⟩:=h
    obtain ⟨va,vs,rfl,hV,hds⟩:=d0.jk
    have hil:((Tn.asI gs).map V.int).length=gs.length:=by rw [List.length_map,Tn.jm]
    refine ⟨_,(aB (gO (i:=5) (ao aP) rfl ["left","ways","rests","takes","going","unmet","turns","taker"] rfl ["taker","rests","takes"] [none,some 2,some 3] (by decide +kernel) (by decide +kernel) (by decide +kernel) rfl dz.nd rfl rfl (eZ (pv 4)) (fun _ _ _=>(aM (i:=0) (show (["taker","rests","takes"]:List Str).Nodup by decide +kernel) rfl (Or.inl rfl))) (fun _ _ _=>gM) (fun _ _ _=>(bA lF (bx (gF (K:=K) rfl) (pv 1) (pv 0) (fun _ _=>rfl)) (bx (gF (K:=K) rfl) (pv 2) (pv 0) (fun _ _=>rfl)))) rfl)
      (aB (bh (i:=6) dz.nd rfl (Or.inl rfl) (aF sE (hr.mono (by decide)) rfl eG.m eG.F.kp eG.b .nil bB (ak (pv 0) (ak (jK (ao aP) rfl ["left","ways","rests","takes","going","unmet","turns","taker"] rfl ["taker","ways"] [none,some 1] (by decide +kernel) (by decide +kernel) (by decide +kernel) rfl (eZ (pv 4)) (fun _ _ _=>(aM (i:=0) (show (["taker","ways"]:List Str).Nodup by decide +kernel) rfl (Or.inl rfl))) (fun _ _ _=>gM) (fun _ _ _=>(bx (gF (K:=K) rfl) (pv 1) (pv 0) (fun _ _=>rfl)))) (ak (pv 5) au)))))
      (aC (jP PassesOwn.never rfl (eZ (pv 4)) (aM (i:=7) dz.nd rfl (Or.inl rfl))
        (aB (cj (aF Jv (hr.mono (by decide)) rfl kI.m kI.F.kp kI.b .nil bB (ak (pv 0) (ak (bx aJ (pv 1) (pv 7) (fun _ _=>rfl)) (ak (pv 6) au)))))
        (aC (oK (pv 3) (pv 7) mD (pv 6) xH set_list))))))),?_⟩
    /- unmet -/
    refine ⟨_,rfl,g,rfl,⟨_,O.same.seq d2⟩,fun lu hlu=>?_⟩
    refine jc (K:=K) (xs:=(Tn.asI gs).map V.int) (fun i τ H'=>Iv (∃ v0:Option V,τ=[v0,some (.ref b),some (.ref t)]∧Ow T Hb H' [(lu,.lst ((Tn.unmet rs xs (gs.take i)).map V.int)),(a,.lst (fs.map V.int)),(t,.lst (xs.map V.int))]))
      ⟨trivial,none,rfl,O.mk' hlu rfl⟩ (fun i τ H' _ ⟨_,_,_,O⟩=>O.same.seq d2) ?_ ?_
    · rintro i y τ H2 hy ⟨-,v0,rfl,O⟩
      obtain ⟨z,hz,rfl⟩:=ints_get hy
      obtain ⟨k,hk,rfl⟩:=Tn.iY hz
      have hkn:=gn k (List.mem_of_getElem? hk)
      have hi:=(List.getElem?_eq_some_iff.mp hk).1
      refine yX ?_
      refine ⟨_,rfl,_,rfl,b,_,_,_,rfl,rfl,O.same.seq d1,aY (cF (by omega)),_,rfl,_,rfl,t,_,_,_,rfl,rfl,O.sq 2,aY (cF (by omega)),_,_,rfl,rfl,?_⟩
      refine ⟨_,O.get 0,aL (by rw [List.length_map];unfold Tn.unmet;rw [List.length_map,List.length_take];omega),?_⟩
      walk_at "pt"
      refine ⟨trivial,_,rfl,?_⟩
      rw [Tn.yd hk,List.map_append];exact O
    rintro τ H2 ⟨-,v0,rfl,O⟩
    rw [hil,List.take_of_length_le (Nat.le_refl _)] at O
    have hul:(Tn.unmet rs xs gs).length=gs.length:=by unfold Tn.unmet;rw [List.length_map]
    /- whole_turns(left, .., unmet) -/
    refine ⟨_,rfl,_,rfl,g,rfl,⟨_,O.same.seq d2⟩,fun lw hlw=>?_⟩
    refine jc (K:=K) (xs:=(Tn.asI gs).map V.int) (fun i τ H'=>Iv (∃ (v0:Option V) (us:List V),τ=[v0,some (.ref va)]∧eV K Hb us ((gs.take i).map fun k=>mG (Tn.fW ws k))∧Ow T Hb H' [(lw,.lst us),(lu,.lst ((Tn.unmet rs xs gs).map V.int)),(a,.lst (fs.map V.int)),(t,.lst (xs.map V.int))]))
      ⟨trivial,none,[],rfl,.nil,O.mk' hlw rfl⟩ (fun i τ H' _ ⟨_,_,_,_,_,O⟩=>O.same.seq d2) ?_ ?_
    · rintro i y τ H3 hy ⟨-,v0,us,rfl,hus,O⟩
      obtain ⟨z,hz,rfl⟩:=ints_get hy
      obtain ⟨k,hk,rfl⟩:=Tn.iY hz
      have hkn:=gn k (List.mem_of_getElem? hk)
      have hi:=(List.getElem?_eq_some_iff.mp hk).1
      obtain ⟨wa,hwa,hW⟩:=hds.yZ (vN hkn)
      refine yX ?_
      refine ⟨_,rfl,_,rfl,va,_,_,_,rfl,rfl,O.same.seq hV,iB hwa,?_⟩
      refine ⟨_,O.get 0,aL (by rw [hus.length,List.length_map,List.length_take];omega),?_⟩
      walk_at "pt"
      refine ⟨trivial,_,us++[.ref wa],rfl,?_,O⟩
      rw [Tn.gD hk]
      exact hus.append (.cons (Den.ints hW) .nil)
    rintro τ H3 ⟨-,v0,us,rfl,hus,O⟩
    rw [hil,List.take_of_length_le (Nat.le_refl _)] at hus
    have hus':eV K Hb us ((gs.map fun k=>Tn.fW ws k).map mG):=by rw [List.map_map];exact hus
    refine ⟨_,rfl,a,lu,.ref lw,fs,Tn.unmet rs xs gs,gs.map fun k=>Tn.fW ws k,rfl,O.sq 2,.list (O.sq 0) (hus'.mo O.same),O.sq 1,fl,by omega,by rw [List.length_map];omega,fun w hw=>?_,O.same.t1,fun M H4 sm hM=>?_⟩
    · obtain ⟨k,hk,rfl⟩:=List.mem_map.mp hw
      exact wok _ (Tn.oO (gn k hk))
    have hM:Tn.WT fs (Tn.JB fs.length ws gs) (Tn.unmet rs xs gs) M:=by
      unfold Tn.JB
      rw [List.map_map] at hM
      exact hM
    have O:=((O.mJ sm).tail).tail
    /- the loop -/
    refine ⟨_,rfl,g,rfl,⟨_,O.same.seq d2⟩,?_⟩
    refine jo (K:=K) (xs:=(Tn.asI gs).map V.int) (fun i σ H'=>Iv (∃ v7:Option V,σ=[some (.ref a),some (.ref va),some (.ref b),some (.ref t),some (.ref g),some (.ref lu),some (.int M),v7] ∧
      Ow T Hb H' [(a,.lst ((Tn.bumps fs ((gs.take i).map fun k=>(Tn.fW ws k,-M))).map V.int)),(t,.lst ((Tn.bump xs (Tn.asI (gs.take i)) M).map V.int))]))
      ⟨trivial,none,rfl,O⟩ (fun i σ H' _ ⟨_,_,_,O⟩=>O.same.seq d2) ?_ ?_
    · rintro i y σ H5 hy ⟨-,v7,rfl,O⟩
      obtain ⟨z,hz,rfl⟩:=ints_get hy
      obtain ⟨k,hk,rfl⟩:=Tn.iY hz
      have hkn:=gn k (List.mem_of_getElem? hk)
      obtain ⟨wa,hwa,hW⟩:=hds.yZ (vN hkn)
      have hn1:Tn.bumps fs ((gs.take (i + 1)).map fun k=>(Tn.fW ws k,-M))=Tn.bump (Tn.bumps fs ((gs.take i).map fun k=>(Tn.fW ws k,-M))) (Tn.fW ws k) (-M):=by
        rw [Tn.gD hk];exact Tn.qF _ _ _
      have hl1:(Tn.bumps fs ((gs.take i).map fun k=>(Tn.fW ws k,-M))).length=fs.length:=Tn.jB _ _
      have hl2:(Tn.bump xs (Tn.asI (gs.take i)) M).length=ws.length:=by rw [Tn.iK];exact xl
      have hn2:Tn.bump xs (Tn.asI (gs.take (i + 1))) M=(Tn.bump xs (Tn.asI (gs.take i)) M).set k ((Tn.bump xs (Tn.asI (gs.take i)) M).getD k 0 + M):=by
        rw [← Tn.uq,← Tn.uq,pC hz,Int.toNat_natCast]
      obtain ⟨H1,O1,s1,hB,back⟩:=Ow.lend (A:=[(a,.lst ((Tn.bumps fs ((gs.take i).map fun k=>(Tn.fW ws k,-M))).map V.int))]) (B:=[(t,.lst ((Tn.bump xs (Tn.asI (gs.take i)) M).map V.int))]) O
      refine ⟨_,rfl,_,rfl,_,rfl,va,_,_,_,rfl,rfl,O.same.seq hV,iB hwa,_,rfl,a,wa,_,_,M,H1,rfl,O1,hW.mo s1,by rw [hl1];exact wok _ (Tn.oO hkn),fun H6 O6=>?_⟩
      have O:=back _ _ O6
      refine ⟨_,rfl,_,rfl,t,_,k,_,rfl,rfl,O.sq 1,by rw [List.getElem?_map,cF (by omega)];rfl,_,rfl,_,_,rfl,rfl,t,_,_,k,rfl,rfl,O.get 1,lO (by rw [List.length_map];omega),?_⟩
      walk_at "pt"
      refine ⟨trivial,_,rfl,?_⟩
      rw [hn1,hn2,List.map_set];exact O
    rintro σ H5 ⟨-,v7,rfl,O⟩
    rw [hil,List.take_of_length_le (Nat.le_refl _)] at O
    exact q M _ hM O
abbrev bG:Stmt:=top 47
theorem iy:aH ["left","ways","rests","takes","going","still","taker"] ["left","ways","rests","takes","going"] (ao bG):=⟨rfl,rfl,rfl,by decide +kernel,rfl,by decide +kernel,by decide +kernel⟩
def V0 (K:PySem.W.Frag) (T:eH):Sp:=fun vs H Q _=>∃ (a b t g:Addr) (v:V) (fs rs xs:List Int) (ws:List (List Int)) (gs:List Nat) (Hb:Hp),vs=[.ref a,v,.ref b,.ref t,.ref g]∧aap K T H Hb a b t g v fs rs xs ws gs ∧
  ∀ (l:Addr) (H':Hp),Ow T Hb H' [(l,.lst ((Tn.asI (Tn.iw ws rs gs (fs,xs,[])).2.2).map V.int)),(a,.lst ((Tn.iw ws rs gs (fs,xs,[])).1.map V.int)),(t,.lst ((Tn.iw ws rs gs (fs,xs,[])).2.1.map V.int))]→Q (.ref l) H'
theorem Vo {w l:List Int}:((w.map fun r:Int=>decide (0<l.getD r.toNat 0)).all id)=w.all (fun r=>decide (0<l.getD r.toNat 0)):=by rw [List.all_map];rfl
theorem ZK {f f2:Addr} {fd fd2:FuncData} (D:Df K mg "take_one_turn" bG ["left","ways","rests","takes","going"] f fd) (B:Blt mg)
    (kI:Df K mg "draw" lX ["left","way","drops"] f2 fd2) (Jv:bN P w K mg base CX0 1 f2 fd2 ["left","way","drops"] (u9 K T)) :
    bN P w K mg base CX0 2 f fd ["left","ways","rests","takes","going"] (V0 K T):=by
  refine D.F.ok iy (fun vs H Q E h=>?_) (fun cdv A outer s H vs Q E hr h=>?_)
  · obtain ⟨_,_,_,_,_,_,_,_,_,_,_,rfl,_⟩:=h;rfl
  · obtain ⟨a,b,t,g,v,fs,rs,xs,ws,gs,Hb,rfl,⟨O,d0,d1,d2,rl,xl,gn,nd,wok,fl,wl,gl⟩,q⟩:=h
    obtain ⟨va,vs,rfl,hV,hds⟩:=d0.jk
    have hil:((Tn.asI gs).map V.int).length=gs.length:=by rw [List.length_map,Tn.jm]
    refine ⟨_,(aB (bh (i:=5) iy.nd rfl (Or.inl rfl) (dY au))
      (aB (jP PassesOwn.never rfl (eZ (pv 4)) (aM (i:=6) iy.nd rfl (Or.inl rfl))
        (aC (iV (PW.pt (pw_and (bY yw (bx aJ (pv 3) (pv 6) (fun _ _=>rfl)) (bx aJ (pv 2) (pv 6) (fun _ _=>rfl)) (cL _)) (pw_and1 (lD (aK (nW rfl) rfl B.all PyProof.Rows.boot_all (ak (jK (ao bG) rfl ["left","ways","rests","takes","going","still","taker"] rfl ["reach","left"] [none,some 0] (by decide +kernel) (by decide +kernel) (by decide +kernel) rfl (eZ (bx aJ (pv 1) (pv 6) (fun _ _=>rfl))) (fun _ _ _=>(aM (i:=0) (show (["reach","left"]:List Str).Nodup by decide +kernel) rfl (Or.inl rfl))) (fun _ _ _=>gM) (fun _ _ _=>(lM J2 (bx (gF (K:=K) rfl) (pv 1) (pv 0) (fun _ _=>rfl)) aD (cL _)))) au))))))
          (aB (cj (aF Jv (hr.mono (by decide)) rfl kI.m kI.F.kp kI.b .nil bB (ak (pv 0) (ak (bx aJ (pv 1) (pv 6) (fun _ _=>rfl)) (ak aD au)))))
          (aB (oK (pv 3) (pv 6) mD aD xH set_list)
          (aC (cj (nM PySem.F.plainAttrs_list PySem.F.slot_list_append PySem.F.type_list_append dG (pv 5) (ak (pv 6) au))))))
          cG)))
      (aC (bw (pv 5))))),?_⟩
    refine ⟨szl,fun ls hls=>?_⟩
    walk_at "nw"
    refine ⟨_,rfl,g,rfl,⟨_,O.same.seq d2⟩,?_⟩
    refine jo (K:=K) (xs:=(Tn.asI gs).map V.int) (fun i σ H'=>Iv (∃ v6:Option V,σ=[some (.ref a),some (.ref va),some (.ref b),some (.ref t),some (.ref g),some (.ref ls),v6] ∧
      Ow T Hb H' [(ls,.lst ((Tn.asI (Tn.iw ws rs (gs.take i) (fs,xs,[])).2.2).map V.int)),(a,.lst ((Tn.iw ws rs (gs.take i) (fs,xs,[])).1.map V.int)),(t,.lst ((Tn.iw ws rs (gs.take i) (fs,xs,[])).2.1.map V.int))]))
      ⟨trivial,none,rfl,O⟩ (fun i σ H' _ ⟨_,_,_,O⟩=>O.same.seq d2) ?_ ?_
    · rintro i y σ H5 hy ⟨-,v7,rfl,O⟩
      obtain ⟨z,hz,rfl⟩:=ints_get hy
      obtain ⟨k,hk,rfl⟩:=Tn.iY hz
      have hkn:=gn k (List.mem_of_getElem? hk)
      have hi:=(List.getElem?_eq_some_iff.mp hk).1
      obtain ⟨wa,hwa,hW⟩:=hds.yZ (vN hkn)
      have hnext:=Tn.yh (ws:=ws) (rs:=rs) (s:=(fs,xs,[])) hk
      have hlen:=Tn.sU ws rs (gs.take i) (fs,xs,[])
      rw [hnext]
      generalize Tn.iw ws rs (gs.take i) (fs,xs,[])=S at O hlen ⊢
      obtain ⟨l,x,st⟩:=S
      obtain ⟨hl1,hl2,hl3⟩:=hlen
      have hl1:l.length=fs.length:=hl1
      have hl2:x.length=xs.length:=hl2
      have hl3:st.length≤i:=by
        have:st.length≤0 + (gs.take i).length:=hl3
        rw [List.length_take] at this;omega
      have O:Ow T Hb H5 [(ls,.lst ((Tn.asI st).map V.int)),(a,.lst (l.map V.int)),(t,.lst (x.map V.int))]:=O
      have ok:=wok _ (Tn.oO hkn)
      have no:¬ (x.getD k 0<rs.getD k 0∧(Tn.fW ws k).all (fun r=>decide (0<l.getD r.toNat 0))=true)→Tn.step1 ws rs (l,x,st) k=(l,x,st):=fun h=>if_neg h
      have yes:(x.getD k 0<rs.getD k 0∧(Tn.fW ws k).all (fun r=>decide (0<l.getD r.toNat 0))=true)→Tn.step1 ws rs (l,x,st) k=(Tn.bump l (Tn.fW ws k) (-1),x.set k (x.getD k 0 + 1),st++[k]):=fun h=>if_pos h
      generalize Tn.step1 ws rs (l,x,st) k=S' at no yes ⊢
      refine ⟨_,rfl,_,rfl,t,_,_,_,rfl,rfl,O.sq 2,aY (cF (by omega)),_,rfl,_,rfl,b,_,_,_,rfl,rfl,O.same.seq d1,aY (cF (by omega)),_,_,rfl,rfl,_,rfl,ifD (fun hc1=>?_) fun hc1=>?_⟩
      · refine ⟨_,rfl,_,rfl,va,_,_,_,rfl,rfl,O.same.seq hV,iB hwa,wa,rfl,⟨_,O.same.seq hW⟩,fun lb hlb=>?_⟩
        refine jc (K:=K) (xs:=(Tn.fW ws k).map V.int) (fun j τ H'=>Iv (∃ v0:Option V,τ=[v0,some (.ref a)]∧Ow T Hb H' [(lb,.lst ((((Tn.fW ws k).take j).map fun r:Int=>decide (0<l.getD r.toNat 0)).map V.bl)),(ls,.lst ((Tn.asI st).map V.int)),(a,.lst (l.map V.int)),(t,.lst (x.map V.int))]))
          ⟨trivial,none,rfl,O.mk' hlb rfl⟩ (fun i τ H' _ ⟨_,_,_,O⟩=>O.same.seq hW) ?_ ?_
        · rintro j y τ H6 hy ⟨-,v0,rfl,O⟩
          obtain ⟨r,hr,rfl⟩:=ints_get hy
          have hj:=(List.getElem?_eq_some_iff.mp hr).1
          obtain ⟨r0,r1⟩:=ok.2 r (List.mem_of_getElem? hr)
          refine yX ?_
          refine ⟨_,rfl,_,rfl,a,_,_,_,rfl,rfl,O.sq 2,eY r0 (by omega),_,_,rfl,rfl,?_⟩
          refine ⟨_,O.get 0,aL (by rw [List.length_map,List.length_map,List.length_take];have:=ok.len;omega),?_⟩
          walk_at "pt"
          refine ⟨trivial,_,rfl,?_⟩
          rw [Tn.gD hr,List.map_append];exact O
        rintro τ H6 ⟨-,v0,rfl,O⟩
        rw [List.length_map,List.take_of_length_le (Nat.le_refl _)] at O
        refine ⟨lb,_,rfl,O.sq 0,?_⟩
        rw [Vo]
        have O:=O.tail
        refine ⟨_,rfl,ifB (fun hc2=>?_) fun hc2=>?_⟩
        · rw [yes ⟨hc1,hc2⟩]
          obtain ⟨H1,O1,s1,hB,back⟩:=Ow.lend (A:=[(a,.lst (l.map V.int))]) (B:=[(ls,.lst ((Tn.asI st).map V.int)),(t,.lst (x.map V.int))]) (O.pull 1)
          refine ⟨_,rfl,_,rfl,_,rfl,va,_,_,_,rfl,rfl,O.same.seq hV,iB hwa,a,wa,l,_,1,H1,rfl,O1,hW.mo s1,by rw [hl1];exact ok,fun H7 O7=>?_⟩
          have O:=back _ _ O7
          have O:Ow T Hb H7 [(a,.lst ((Tn.bump l (Tn.fW ws k) (-1)).map V.int)),(ls,.lst ((Tn.asI st).map V.int)),(t,.lst (x.map V.int))]:=O
          refine ⟨_,rfl,_,rfl,t,_,k,_,rfl,rfl,O.sq 2,by rw [List.getElem?_map,cF (by omega)];rfl,_,_,rfl,rfl,t,_,_,k,rfl,rfl,O.get 2,lO (by rw [List.length_map];omega),?_⟩
          walk_at "pt"
          refine ⟨_,rfl,.inl ⟨rfl,_,O.sq 1⟩,_,rfl,ls,_,_,rfl,rfl,O.get 1,aL (by rw [List.length_map,Tn.jm];omega),?_⟩
          walk_at "pt"
          refine ⟨trivial,_,rfl,?_⟩
          have O:=O.pull 1
          show Ow T Hb _ [(ls,.lst ((Tn.asI (st++[k])).map V.int)),(a,.lst ((Tn.bump l (Tn.fW ws k) (-1)).map V.int)),(t,.lst ((x.set k (x.getD k 0 + 1)).map V.int))]
          rw [List.map_set]
          unfold Tn.asI
          rw [List.map_append,List.map_append]
          exact O
        · rw [no fun z=>by rw [z.2] at hc2;cases hc2]
          exact ⟨trivial,_,rfl,O⟩
      · refine uo ?_
        rw [no fun z=>hc1 z.1]
        exact ⟨trivial,_,rfl,O⟩
    rintro σ H5 ⟨-,v7,rfl,O⟩
    rw [hil,List.take_of_length_le (Nat.le_refl _)] at O
    exact ⟨_,rfl,q _ _ O⟩
abbrev cX:Stmt:=top 48
theorem gB:aH ["free","ways","rests","left","takes","going"] ["free","ways","rests"] (ao cX):=⟨rfl,rfl,rfl,by decide +kernel,rfl,by decide +kernel,by decide +kernel⟩
def V2 (K:PySem.W.Frag) (T:eH):Sp:=fun vs H Q _=>∃ (a b:Addr) (v:V) (fs rs:List Int) (ws:List (List Int)),vs=[.ref a,v,.ref b]∧SqL K H a (fs.map V.int)∧Den K H v (xQ ws)∧SqL K H b (rs.map V.int)∧rs.length=ws.length∧fs.length≤1000∧ws.length<64 ∧
  (∀ w∈ws,Tn.WOk fs.length w)∧(∀ x∈fs,0≤x)∧(∀ x∈rs,0≤x)∧TabsOk T H ∧
  ∀ (l lt ll:Addr) (xs left:List Int) (t:Int) (H':Hp),Ow T H H' [(l,.tup [.ref lt,.ref ll]),(lt,.lst (xs.map V.int)),(ll,.lst (left.map V.int))]→Tn.pG fs ws rs left xs [] t→Q (.ref l) H'
theorem ZM {f f1 f2:Addr} {fd fd1 fd2:FuncData} (D:Df K mg "deal_turns" cX ["free","ways","rests"] f fd) (B:Blt mg)
    (bW:Df K mg "take_whole_turns" aP ["left","ways","rests","takes","going"] f1 fd1) (mR:bN P w K mg base CX0 3 f1 fd1 ["left","ways","rests","takes","going"] (VR K T))
    (cQ:Df K mg "take_one_turn" bG ["left","ways","rests","takes","going"] f2 fd2) (pI:bN P w K mg base CX0 2 f2 fd2 ["left","ways","rests","takes","going"] (V0 K T)) :
    bN P w K mg base CX0 4 f fd ["free","ways","rests"] (V2 K T):=by
  refine D.F.ok gB (fun vs H Q E h=>?_) (fun cdv A outer s H vs Q E hr h=>?_)
  · obtain ⟨_,_,_,_,_,_,rfl,_⟩:=h;rfl
  · obtain ⟨a,b,v,fs,rs,ws,rfl,hA,d0,hB,rl,fl,wl,wok,hf,hrs,tk,q⟩:=h
    obtain ⟨va,vs,rfl,hV,hds⟩:=d0.jk
    have hvl:vs.length=ws.length:=by rw [hds.length,List.length_map]
    refine ⟨_,(aB (bh (i:=3) gB.nd rfl (Or.inl rfl) (dF bT rfl B.list PyProof.Rows.boot_list (ak (pv 0) au)))
      (aB (bh (i:=4) gB.nd rfl (Or.inl rfl) (bA Am (dY (ak aD au)) (aK aG rfl B.len PySem.boot_len (ak (pv 1) au))))
      (aB (bh (i:=5) gB.nd rfl (Or.inl rfl) (tY rfl rfl B.list rfl B.range (ak (aK aG rfl B.len PySem.boot_len (ak (pv 1) au)) au)))
      (aB (qZ PassesOwn.never (JZ (pv 5) (fun _=>rfl))
        (aB (cj (aF mR (hr.mono (by decide)) rfl bW.m bW.F.kp bW.b .nil bB (ak (pv 3) (ak (pv 1) (ak (pv 2) (ak (pv 4) (ak (pv 5) au)))))))
        (aC (bh (i:=5) gB.nd rfl (Or.inl rfl) (aF pI (hr.mono (by decide)) rfl cQ.m cQ.F.kp cQ.b .nil bB (ak (pv 3) (ak (pv 1) (ak (pv 2) (ak (pv 4) (ak (pv 5) au))))))))))
      (aC (bw (j5 (ak (pv 4) (ak (pv 3) au))))))))),?_⟩
    have O:=Ow.refl tk
    refine ⟨_,rfl,a,_,rfl,.inl (O.same.seq hA),fun ll hll=>?_⟩
    walk_at "nw"
    refine ⟨szl,fun l1 h1=>?_⟩
    walk_at "nw"
    refine ⟨_,rfl,va,_,rfl,.inl (O.same.seq hV),l1,_,_,rfl,rfl,O.get 0,by omega,by omega,eX (by rw [hvl,Int.toNat_natCast];simp;omega),fun lt hlt=>?_⟩
    walk_at "nw"
    rw [hvl,Int.toNat_natCast,oH] at O
    have O:=O.two
    refine ⟨_,rfl,va,_,rfl,.inl (O.same.seq hV),ws.length,by rw [hvl],wl,fun lg hlg=>?_⟩
    walk_at "nw"
    have eg:gK ws.length=(Tn.asI (List.range ws.length)).map V.int:=by unfold gK Tn.asI;rw [List.map_map];rfl
    rw [eg] at O
    refine ⟨fun m σ H'=>Iv (∃ (lg:Addr) (gs:List Nat) (l xs:List Int) (t:Int),σ=[some (.ref a),some (.ref va),some (.ref b),some (.ref ll),some (.ref lt),some (.ref lg)]∧Tn.pG fs ws rs l xs gs t∧m=(Tn.rem rs xs ws.length + (gs.length:Int)).toNat ∧
      Ow T H H' [(lg,.lst ((Tn.asI gs).map V.int)),(lt,.lst (xs.map V.int)),(ll,.lst (l.map V.int))]),⟨_,trivial,lg,_,fs,_,0,rfl,Tn.pG.start hf hrs wok,rfl,O⟩,?_⟩
    rintro m σ H2 ⟨-,lg,gs,l,xs,t,rfl,LI,rfl,O⟩
    have nd:=Tn.fD LI.srt
    have gn:∀ k∈gs,k<ws.length:=fun k hk=>(LI.going k hk).1
    have gl:gs.length≤1000:=by
      have:gs.length≤ws.length:=by
        have:=List.Nodup.length_le_of_subset (l₂:=List.range ws.length) nd fun k hk=>List.mem_range.mpr (gn k hk)
        simpa using this
      omega
    refine ⟨_,rfl,_,.inl ⟨_,O.sq 0,rfl⟩,ifB (fun hc=>?_) fun hc=>?_⟩
    · have hne:0<gs.length:=by
        cases gs with
        | nil=>simp [Tn.asI] at hc
        | cons x gs=>simp
      refine ⟨_,fun σ' H' h=>h,?_⟩
      obtain ⟨H1,O1,s1,hBk,back⟩:=Ow.lend (A:=[(ll,.lst (l.map V.int)),(lt,.lst (xs.map V.int))]) (B:=[(lg,.lst ((Tn.asI gs).map V.int))]) (((O.pull 1).pull 2))
      refine ⟨_,rfl,_,rfl,_,rfl,_,rfl,_,rfl,ll,b,lt,lg,.ref va,l,rs,xs,ws,gs,H1,rfl,⟨O1,.list (hV.mo s1) (hds.mo s1),hB.mo s1,SqL.of (hBk (lg,.lst ((Tn.asI gs).map V.int)) (by simp)),rl,LI.xl,gn,nd,by rw [LI.ll];exact wok,by rw [LI.ll];exact fl,by omega,gl⟩,fun M H3 hM O3=>?_⟩
      rw [LI.ll] at hM
      have L2:=LI.whole hf wok hM
      have M0:=hM.nn
      have rw1:=Tn.Ab LI M0
      have O:=back _ _ O3
      have hll2:=L2.ll
      obtain ⟨L3,hsum⟩:=L2.one wok
      obtain ⟨H4,O4,s4,hBk4,back4⟩:=Ow.lend (A:=[(ll,.lst ((Tn.bumps l (gs.map fun k=>(Tn.fW ws k,-M))).map V.int)),(lt,.lst ((Tn.bump xs (Tn.asI gs) M).map V.int))]) (B:=[(lg,.lst ((Tn.asI gs).map V.int))]) O
      refine ⟨_,rfl,_,rfl,_,rfl,_,rfl,_,rfl,ll,b,lt,lg,.ref va,_,rs,_,ws,gs,H4,rfl,⟨O4,.list (hV.mo s4) (hds.mo s4),hB.mo s4,SqL.of (hBk4 (lg,.lst ((Tn.asI gs).map V.int)) (by simp)),rl,L2.xl,gn,nd,by rw [L2.ll];exact wok,by rw [L2.ll];exact fl,by omega,gl⟩,fun l5 H5 O5=>?_⟩
      have O:=back4 _ _ O5
      have O:=(O.del 3)
      have O:=O.pull 2
      have O:=(O.pull 1)
      refine ⟨_,?_,trivial,l5,_,_,_,_,rfl,L3,rfl,?_⟩
      · have a1:=L3.Lj
        have a2:=LI.Lj
        omega
      · exact O
    · have hg:gs=[]:=by
        cases gs with
        | nil=>rfl
        | cons x gs=>simp [Tn.asI] at hc
      subst hg
      refine ⟨_,rfl,_,rfl,szl,fun l5 hl5=>?_⟩
      walk_at "nw"
      exact q l5 lt ll xs l t _ (O.two) LI
abbrev cN:Stmt:=top 30
theorem tH:aH ["one"] ["one"] (ao cN):=⟨rfl,rfl,rfl,by decide +kernel,rfl,by decide +kernel,by decide +kernel⟩
def wV (K:PySem.W.Frag):Sp:=fun vs H Q _=>∃ (t:Addr) (l:Lic),vs=[.ref t]∧SqT K H t (sG l)∧Q (.int l.day) H
theorem Wn {f:Addr} {fd:FuncData} (D:Df K mg "day_filed" cN ["one"] f fd):bN P w K mg base CX0 1 f fd ["one"] (wV K):=by
  refine D.F.ok tH (fun vs H Q E h=>?_) (fun cdv A outer s H vs Q E hr h=>?_)
  · obtain ⟨_,_,rfl,_⟩:=h;rfl
  · obtain ⟨t,l,rfl,hT,q⟩:=h
    refine ⟨_,(aC (bw (bx mC (pv 0) aD (fun _ _=>rfl)))),?_⟩
    exact ⟨_,rfl,t,_,0,_,rfl,rfl,hT,rfl,q⟩
abbrev iI:Stmt:=top 33
theorem zY:aH ["roll"] ["roll"] (ao iI):=⟨rfl,rfl,rfl,by decide +kernel,rfl,by decide +kernel,by decide +kernel⟩
def bK:Pos × Str:=(⟨80,40,80,88⟩,"ranked.<locals>.<lambda>")
def TT2 (P:Addr) (T:eH):Prop:=(P,bK.1,bK.2)∈T∧(T.map (·.1)).Nodup
def qC (ls:List Lic):Nat→Int:=fun k=>(ls[k]?.map Lic.day).getD 0
theorem ju {ls:List Lic} {k:Nat} {l:Lic} (h:ls[k]?=some l):qC ls k=l.day:=by unfold qC;rw [h];rfl
def sX (K:PySem.W.Frag) (T:eH):Sp:=fun vs H Q _=>∃ (v:V) (ls:List Lic),vs=[v]∧Den K H v (K8 ls)∧ls.length<64∧TabsOk T H ∧
  pR T H (fun xs=>∃ p,xs=p.map (fun (i:Nat)=>V.int (i:Int))∧Tn.Rk (qC ls) ls.length p) Q
def Vv (day:Nat→Int) (i:Nat):Int:=64 * day i + (i:Int)
theorem Ku {day:Nat→Int} {i j:Nat} (hi:i<64) (hj:j<64):HT.lexLt [day i,(i:Int)] [day j,(j:Int)]=decide (Vv day i<Vv day j):=by
  unfold Vv
  rw [HT.jz,HT.jz,HT.mz]
  rw [Bool.eq_iff_iff]
  split
  · split
    · simp only [Bool.false_eq_true,decide_eq_true_eq,false_iff];omega
    · simp only [decide_eq_true_eq];omega
  · simp only [decide_eq_true_eq];omega
theorem Ar {f fW:Addr} {fd fdW:FuncData} {pT cT:Addr} {T:eH} (D:Df K mg "ranked" iI ["roll"] f fd) (hcd:fd.code=.ref cT) (hhd:PySem.W.codeHdIn K cT pT=true) (hT:TT2 pT T) (hbm:BM mg base) (B:Blt mg)
    (aW:Df K mg "day_filed" cN ["one"] fW fdW) (gQ:bN P w K mg base CX0 1 fW fdW ["one"] (wV K)):bN P w K mg base CX0 5 f fd ["roll"] (sX K T):=by
  refine D.F.okC hcd zY (fun vs H Q E h=>?_) (fun A outer s H vs Q E hr h=>?_)
  · obtain ⟨_,_,rfl,_⟩:=h;rfl
  · obtain ⟨v,ls,rfl,hd,h64,tk,q⟩:=h
    obtain ⟨va,vs,rfl,hV,d0⟩:=hd.jk
    have hvl:vs.length=ls.length:=by rw [d0.length,List.length_map]
    refine ⟨_,(aC (bw (nC (P:=pT) (c:=cT) (p:="number") (ao iI) rfl ["roll"] rfl ["roll"] [some 0] (by decide +kernel) (by decide +kernel) (by decide +kernel) rfl hbm rfl hhd (xG (hr.mono (by decide))) rfl B.sorted rfl B.range (ak (aK aG rfl B.len PySem.boot_len (ak (pv 0) au)) au) (fun A f cv s H hh hd hu=>(j5 (ak (aF gQ (xu (hr.mono (by decide)) hh hd hu) rfl aW.m aW.F.kp aW.b .nil bB (ak (bx (gF (K:=K) rfl) (pv 1) (pv 0) (fun _ _=>rfl)) au)) (ak (pv 0) au)))) (fun _ _ _ _=>rfl)))),?_⟩
    refine ⟨_,rfl,va,_,rfl,.inl hV,ls.length,by rw [hvl],h64,tk _ hT.1,fun H2 k1 k2 t2=>?_⟩
    have sT:bF T H H2:=bF.tab tk hT.1 hT.2 k1 t2
    refine ⟨fun i ts H3=>bF T H2 H3∧ts.length=i∧∀ (j:Nat) (t:Addr),ts[j]?=some t→H3 t=some (.tup ([qC ls j,(j:Int)].map V.int)),fun i=>[qC ls i,(i:Int)],Vv (qC ls),1,⟨bF.refl sT.t1,rfl,fun j t e=>by simp at e⟩,?_,?_,fun _ _=>rfl,fun i j hi hj=>Ku (by omega) (by omega),?_,?_⟩
    · rintro i ts H3 hi ⟨s3,htl,h3⟩
      refine ⟨fun c' e=>s3.keep c' _ e fun ps z=>(by cases z),?_⟩
      obtain ⟨al,hal,hTl⟩:=d0.uh (List.getElem?_eq_getElem hi)
      have hTl:=hTl.mo (sT.trans s3)
      have edl:=ju (List.getElem?_eq_getElem hi)
      refine ⟨_,rfl,_,rfl,va,_,(i:Int),_,rfl,rfl,(sT.trans s3).seq hV,iB hal,al,_,rfl,hTl,?_⟩
      refine ⟨_,rfl,(by show 2≤sizeLine;decide),fun t ht=>⟨t,rfl,?_⟩⟩
      have nt:H2 t=none:=s3.free ht
      refine ⟨s3.upd nt (.inl ht),by rw [List.length_append,htl];rfl,fun j t' e=>?_⟩
      by_cases hj:j<ts.length
      · rw [List.getElem?_append_left hj] at e
        have h4':=h3 j t' e
        rw [aN (bO h4' ht)];exact h4'
      · rw [List.getElem?_append_right (by omega)] at e
        have hj0:j - ts.length=0:=by
          have:=(List.getElem?_eq_some_iff.mp e).1
          simp at this;omega
        have hji:j=i:=by omega
        rw [hj0] at e
        simp at e
        subst e
        subst hji
        rw [bf,edl];rfl
    · rintro ts H3 ⟨_,_,h3⟩
      exact h3
    · intro i j hi hj hij e
      unfold Vv at e
      omega
    · rintro ts H3 D' ys ⟨s3,_,_⟩ hD ⟨p,hp,rfl,ho⟩
      have hbl:(gK ls.length).length=ls.length:=by unfold gK;simp
      rw [hbl] at hp
      refine q D' _ _ ((sT.trans s3).upd ((sT.trans s3).free hD) (.inl hD)) ((sT.trans s3).free hD) bf ⟨p,?_,hp,?_⟩
      · refine List.map_congr_left fun i hi=>?_
        have hi':i<ls.length:=List.mem_range.mp (hp.mem_iff.mp hi)
        show (gK ls.length).getD i .non=_
        unfold gK
        rw [List.getD_eq_getElem?_getD,List.getElem?_map,List.getElem?_range hi'];rfl
      · refine List.Pairwise.imp_of_mem (fun {a b} ha hb hab=>?_) ho
        have ha:=List.mem_range.mp (hp.mem_iff.mp ha)
        have hb:=List.mem_range.mp (hp.mem_iff.mp hb)
        unfold Vv at hab
        omega
abbrev dM:Stmt:=top 34
theorem jX:aH ["roll","groups","number"] ["roll"] (ao dM):=⟨rfl,rfl,rfl,by decide +kernel,rfl,by decide +kernel,by decide +kernel⟩
abbrev Pg:=Addr × Int × List Nat
def Jx (ps:List Pg):List (Addr × HO):=ps.map fun p=>(p.1,.lst ((Tn.asI p.2.2).map V.int))
def kvG (ps:List Pg):List (Key × V):=ps.map fun p=>(Sum.inl p.2.1,V.ref p.1)
def sZ (K:PySem.W.Frag) (T:eH):Sp:=fun vs H Q _=>∃ (v:V) (ls:List Lic),vs=[v]∧Den K H v (K8 ls)∧ls.length<64∧TabsOk T H ∧
  ∀ (l:Addr) (H':Hp) (ps:List Pg) (p:List Nat),Ow T H H' ((l,.lst (ps.map fun p=>V.ref p.1)) :: Jx ps)→Tn.Rk (qC ls) ls.length p→Tn.Grp (qC ls) p (ps.map (·.2))→Q (.ref l) H'
theorem Kz {ps:List Pg} {d:Int} {v:V} (h:uV (kvG ps) (Sum.inl d)=some v):∃ (j:Nat) (p:Pg),ps[j]?=some p∧p.2.1=d∧v=.ref p.1:=by
  unfold uV kvG at h
  rw [List.find?_map,Option.map_map] at h
  cases e:ps.find? ((fun kv:Key × V=>decide (kv.1=Sum.inl d)) ∘ fun p:Pg=>(Sum.inl p.2.1,V.ref p.1)) with
  | none=>rw [e] at h;cases h
  | some p =>
    rw [e] at h
    obtain ⟨j,hj⟩:=List.getElem?_of_mem (List.mem_of_find?_eq_some e)
    have hp:=List.find?_some e
    simp only [Function.comp,decide_eq_true_eq] at hp
    exact ⟨j,p,hj,Sum.inl.inj hp,(Option.some.inj h).symm⟩
theorem KC {ps:List Pg} {d:Int} (h:uV (kvG ps) (Sum.inl d)=none):∀ p∈ps,p.2.1≠d:=fun p hp e=>by
  unfold uV kvG at h
  rw [Option.map_eq_none_iff,List.find?_eq_none] at h
  have:=h _ (List.mem_map_of_mem hp)
  simp [e] at this
theorem Bm {ps:List Pg} {j:Nat} {p:Pg} (h:ps[j]?=some p):(Jx ps)[j]?=some (p.1,.lst ((Tn.asI p.2.2).map V.int)):=by
  unfold Jx;rw [List.getElem?_map,h];rfl
theorem nj {α β:Type} {f:α→β}:∀ {ps:List α} {j:Nat} {p q:α},ps[j]?=some p→f q=f p→(ps.set j q).map f=ps.map f
  | [],_,_,_,h,_=>by simp at h
  | a :: ps,0,p,q,h,e=>by
    have:a=p:=by simpa using h
    subst this
    simp [e]
  | a :: ps,j + 1,p,q,h,e=>by
    rw [List.set_cons_succ,List.map_cons,List.map_cons,nj (by simpa using h) e]
theorem Aw {f f1 f2:Addr} {fd fd1 fd2:FuncData} (D:Df K mg "groups_of" dM ["roll"] f fd) (B:Blt mg)
    (aW:Df K mg "day_filed" cN ["one"] f1 fd1) (gQ:bN P w K mg base CX0 1 f1 fd1 ["one"] (wV K))
    (lA:Df K mg "ranked" iI ["roll"] f2 fd2) (Lf:bN P w K mg base CX0 5 f2 fd2 ["roll"] (sX K T)):bN P w K mg base CX0 6 f fd ["roll"] (sZ K T):=by
  refine D.F.ok jX (fun vs H Q E h=>?_) (fun cdv A outer s H vs Q E hr h=>?_)
  · obtain ⟨_,_,rfl,_⟩:=h;rfl
  · obtain ⟨v,ls,rfl,hd,h64,tk,q⟩:=h
    obtain ⟨va,vs,rfl,hV,d0⟩:=hd.jk
    have hvl:vs.length=ls.length:=by rw [d0.length,List.length_map]
    refine ⟨_,(aB (bh (i:=1) jX.nd rfl (Or.inl rfl) J1)
      (aB (jP PassesOwn.never rfl (eZ (aF Lf (hr.mono (by decide)) rfl lA.m lA.F.kp lA.b .nil bB (ak (pv 0) au))) (aM (i:=2) jX.nd rfl (Or.inl rfl))
        (aC (cj (nM PySem.F.plainAttrs_list PySem.F.slot_list_append PySem.F.type_list_append dG (Tv (pv 1) (aF gQ (hr.mono (by decide)) rfl aW.m aW.F.kp aW.b .nil bB (ak (bx aJ (pv 0) (pv 2) (fun _ _=>rfl)) au)) (dY au) ⟨rfl,rfl,rfl,rfl⟩) (ak (pv 2) au)))))
      (aC (bw (vq rfl rfl B.list (pv 1)))))),?_⟩
    have O:=Ow.refl tk
    intro dg hdg
    walk_at "nw"
    refine ⟨_,rfl,.ref va,ls,rfl,hd.rE O.same,h64,O.same.t1,O.yQ fun lt H2 xs O ⟨p,ep,hp⟩=>?_⟩
    subst ep
    refine ⟨lt,rfl,⟨_,O.sq 0⟩,?_⟩
    refine jo (K:=K) (xs:=p.map fun (i:Nat)=>V.int (i:Int)) (fun i σ H'=>Iv (∃ (v2:Option V) (ps:List Pg),σ=[some (.ref va),some (.ref dg),v2]∧ps.length≤i ∧
      Ow T H H' ((lt,.lst (p.map fun (i:Nat)=>V.int (i:Int))) :: (dg,.dK (kvG ps)) :: Jx ps)∧Tn.Grp (qC ls) (p.take i) (ps.map (·.2))))
      ⟨trivial,none,[],rfl,Nat.le_refl _,O,Tn.Grp.start _⟩ (fun i σ H' _ ⟨_,_,_,_,_,O,_⟩=>O.sq 0) ?_ ?_
    · rintro i y σ H3 hy ⟨-,v2,ps,rfl,hpl,O,G⟩
      rw [List.getElem?_map] at hy
      obtain ⟨k,hk,rfl⟩:∃ k,p[i]?=some k∧y=V.int (k:Int):=by
        cases e:p[i]? with
        | none=>rw [e] at hy;cases hy
        | some j=>rw [e] at hy;exact ⟨j,rfl,(Option.some.inj hy).symm⟩
      have hi:=(List.getElem?_eq_some_iff.mp hk).1
      have hpn:=hp.len
      have hkl:=hp.lt (List.mem_of_getElem? hk)
      have hbe:=hp.before hk
      obtain ⟨al,hal,hTl⟩:=d0.uh (List.getElem?_eq_getElem hkl)
      have edl:=ju (List.getElem?_eq_getElem hkl)
      have hvk:vs[k]?=some (.ref al):=hal
      refine ⟨_,rfl,dg,rfl,.inl ⟨_,.inl (O.get 1)⟩,_,rfl,_,rfl,va,_,(k:Int),_,rfl,rfl,O.same.seq hV,iB hvk,al,_,rfl,hTl.mo O.same,?_⟩
      rw [← edl]
      refine ⟨szl,fun l1 h1=>?_⟩
      walk_at "nw"
      refine ⟨kvG ps,Sum.inl (qC ls k),O.get 2,rfl,?_,fun v hv=>?_,fun hn=>?_⟩
      · unfold kvG
        exact aL (by rw [List.length_map];omega)
      · have O:=O.tail
        obtain ⟨j,pj,hj,ej,rfl⟩:=Kz hv
        have hgj:(ps.map (·.2))[j]?=some pj.2:=by rw [List.getElem?_map,hj];rfl
        have lat:((lt,HO.lst (p.map fun (i:Nat)=>V.int (i:Int))) :: (dg,HO.dK (kvG ps)) :: Jx ps)[j + 2]?=some (pj.1,.lst ((Tn.asI pj.2.2).map V.int)):=by
          rw [List.getElem?_cons_succ,List.getElem?_cons_succ];exact Bm hj
        have hgl:pj.2.2.length≤1000:=by
          have hs:pj.2.2.Sublist (p.take i):=by rw [← G.flat];exact Tn.nU (List.mem_map_of_mem (List.mem_of_getElem? hgj))
          have:=hs.length_le
          rw [List.length_take] at this;omega
        refine ⟨.inl ⟨rfl,_,SqL.of (O.get (j + 2) lat)⟩,_,rfl,pj.1,_,_,rfl,rfl,O.get (j + 2) lat,aL (by rw [List.length_map,Tn.jm];omega),?_⟩
        generalize hE:upd _ _ _=Hn
        have O:=Ow.sI O (j + 2) lat hE rfl
        clear hE
        refine ⟨trivial,_,ps.set j (pj.1,pj.2.1,pj.2.2++[k]),rfl,by rw [List.length_set];omega,?_,?_⟩
        · rw [show kvG (ps.set j (pj.1,pj.2.1,pj.2.2++[k]))=kvG ps from nj hj rfl]
          rw [List.set_cons_succ,List.set_cons_succ] at O
          unfold Jx
          rw [List.map_set]
          unfold Jx at O
          simp only [Tn.asI,List.map_append,List.map_cons,List.map_nil]
          exact O
        · rw [Tn.jy hk,List.map_set]
          exact G.more hgj ej hbe
      · rw [JX _ hn]
        walk_at "pt"
        refine ⟨.inl ⟨rfl,_,O.sq 0⟩,_,rfl,l1,_,_,rfl,rfl,O.get 0,aL (by simp),?_⟩
        walk_at "pt"
        refine ⟨trivial,_,ps++[(l1,qC ls k,[k])],rfl,by rw [List.length_append];simp;omega,?_,?_⟩
        · unfold kvG Jx
          rw [List.map_append,List.map_append]
          unfold kvG Jx at O
          refine O.perm ?_
          have e:((lt,HO.lst (p.map fun (i:Nat)=>V.int (i:Int))) :: (dg,HO.dK (ps.map (fun p=>((Sum.inl p.2.1:Key),V.ref p.1))++[(l1,qC ls k,[k])].map (fun p:Pg=>((Sum.inl p.2.1:Key),V.ref p.1)))) :: (ps.map (fun p=>(p.1,HO.lst ((Tn.asI p.2.2).map V.int)))++[(l1,qC ls k,[k])].map (fun p:Pg=>(p.1,HO.lst ((Tn.asI p.2.2).map V.int)))))
            = ((lt,HO.lst (p.map fun (i:Nat)=>V.int (i:Int))) :: (dg,HO.dK (ps.map (fun p=>((Sum.inl p.2.1:Key),V.ref p.1))++[(Sum.inl (qC ls k),V.ref l1)])) :: ps.map (fun p=>(p.1,HO.lst ((Tn.asI p.2.2).map V.int))))++[(l1,HO.lst ([]++[V.int (k:Int)]))]:=rfl
          rw [e]
          exact List.perm_append_comm
        · rw [Tn.jy hk,List.map_append]
          exact G.new (fun g hg=>by
            obtain ⟨p',hp',rfl⟩:=List.mem_map.mp hg
            exact KC hn p' hp') hbe
    · rintro σ H3 ⟨-,v2,ps,rfl,hpl,O,G⟩
      rw [List.length_map,List.take_of_length_le (Nat.le_refl _)] at G
      refine ⟨_,rfl,dg,kvG ps,rfl,.inl (O.get 1),fun l hl=>?_⟩
      walk_at "nw"
      have e:(kvG ps).map (·.2)=ps.map fun p=>V.ref p.1:=by unfold kvG;rw [List.map_map];rfl
      rw [e] at O
      exact q l _ ps p (O.sub ((List.Sublist.cons _ (List.Sublist.cons _ (List.Sublist.refl _))).cons₂ _)) hp G
abbrev lC:Stmt:=top 50
theorem jr:aH ["below","springs","roll","calls","free","wants","takes","group","ways","dealt","number","take"] ["below","springs","roll","calls"] (ao lC):=⟨rfl,rfl,rfl,by decide +kernel,rfl,by decide +kernel,by decide +kernel⟩
def za (r:List Int) (ls:List Lic):Nat→List Int:=Tn.fW (ls.map fun l=>Rv.ou r l.start l.back)
theorem jU {r:List Int} {ls:List Lic} {k:Nat} {l:Lic} (h:ls[k]?=some l):za r ls k=Rv.ou r l.start l.back:=by
  unfold za Tn.fW;rw [List.getD_eq_getElem?_getD,List.getElem?_map,h];rfl
def qJ (r:List Int) (l:Lic):Prop:=Y7 r l∧0≤l.most
theorem S5 {r:List Int} (hR:Rv.gH r) {ls:List Lic} (h:∀ l∈ls,qJ r l) {k:Nat} (hk:k<ls.length):Tn.WOk r.length (za r ls k):=by
  obtain ⟨h0,h1,_⟩:=(h _ (List.getElem_mem hk)).1
  rw [jU (List.getElem?_eq_getElem hk)]
  exact Rv.JQ hR h0 h1
structure Jw (r s:List Int) (ls:List Lic) (cs xs:List Int):Prop where
  len:xs.length=ls.length
  fit:Tn.Fit ls.length (Tn.fF (Rv.nats r s)) (za r ls) (Tn.fX (jx ls cs)) (Tn.fX xs)
  shown:Tn.m7 ls.length (Tn.fF (Rv.nats r s)) (za r ls) (qC ls) (Tn.fX (jx ls cs)) (Tn.fX xs)
theorem T5 {r s:List Int} (h:∀ x∈s,0≤x) (i:Int):0≤Rv.vJ r s i:=by
  have key:∀ (n:Nat) (f:Nat→Int),(∀ j,j<n→0≤f j)→0≤Rv.tot n f:=by
    intro n f
    induction n with
    | zero=>intro _;exact Int.le_refl _
    | succ n ih =>
      intro hf
      have:=ih fun j hj=>hf j (by omega)
      have:=hf n (by omega)
      show 0≤Rv.tot n f + f n
      omega
  refine key _ _ fun j _=>?_
  by_cases hj:j<s.length
  · have:=h _ (Tn.mF hj)
    split
    · exact this
    · exact Int.le_refl _
  · rw [List.getD_eq_getElem?_getD,List.getElem?_eq_none (by omega)]
    split <;> exact Int.le_refl _
theorem T4 {r s:List Int} (h:∀ x∈s,0≤x):∀ x∈Rv.nats r s,0≤x:=fun x hx=>by
  obtain ⟨i,_,rfl⟩:=List.mem_map.mp hx
  exact T5 h _
theorem xY {ls:List Lic} {cs:List Int} (h:ls.length=cs.length):(jx ls cs).length=ls.length:=by
  unfold jx;rw [List.length_zipWith];omega
theorem zf {ls:List Lic} {cs:List Int} {k:Nat} {l:Lic} {c:Int} (hl:ls[k]?=some l) (hc:cs[k]?=some c):(jx ls cs)[k]?=some (min c l.most):=by
  unfold jx;rw [List.getElem?_zipWith,hl,hc]
theorem zc {r:List Int} {ls:List Lic} {cs:List Int} (h:∀ l∈ls,qJ r l) (hc:∀ c∈cs,0≤c):∀ x∈jx ls cs,0≤x:=fun x hx=>by
  obtain ⟨k,hk⟩:=List.getElem?_of_mem hx
  unfold jx at hk
  rw [List.getElem?_zipWith] at hk
  cases e1:ls[k]? with
  | none=>rw [e1] at hk;simp at hk
  | some l =>
    cases e2:cs[k]? with
    | none=>rw [e1,e2] at hk;simp at hk
    | some c =>
      rw [e1,e2] at hk
      have:=(h l (List.mem_of_getElem? e1)).2
      have:=hc c (List.mem_of_getElem? e2)
      have:x=min c l.most:=(Option.some.inj hk).symm
      omega
def zQ (K:PySem.W.Frag) (T:eH):Sp:=fun vs H Q _=>∃ (a b c:Addr) (v:V) (r s:List Int) (ls:List Lic) (cs:List Int),vs=[.ref a,.ref b,v,.ref c]∧Zv K H a r∧SqL K H b (s.map V.int)∧s.length=r.length∧(∀ x∈s,0≤x)∧Den K H v (K8 ls)∧ls.length<64∧SqL K H c (cs.map V.int)∧ls.length=cs.length∧(∀ l∈ls,qJ r l)∧(∀ c∈cs,0≤c)∧TabsOk T H ∧
  pR T H (fun ys=>∃ xs,ys=xs.map V.int∧Jw r s ls cs xs) Q
theorem TV {f f1 f2 f3 f4 f5:Addr} {fd fd1 fd2 fd3 fd4 fd5:FuncData} (D:Df K mg "deal" lC ["below","springs","roll","calls"] f fd) (B:Blt mg)
    (fQ:Df K mg "natural_of" cV ["below","springs"] f1 fd1) (uN:bN P w K mg base CX0 6 f1 fd1 ["below","springs"] (Lh K T))
    (iQ:Df K mg "wants_of" eE ["roll","calls"] f2 fd2) (yM:bN P w K mg base CX0 2 f2 fd2 ["roll","calls"] (wL K T))
    (gR:Df K mg "groups_of" dM ["roll"] f3 fd3) (vV:bN P w K mg base CX0 6 f3 fd3 ["roll"] (sZ K T))
    (fP:Df K mg "reaches_of" cU ["below","one"] f4 fd4) (uM:bN P w K mg base CX0 3 f4 fd4 ["below","one"] (pZ K))
    (fV:Df K mg "deal_turns" cX ["free","ways","rests"] f5 fd5) (uP:bN P w K mg base CX0 4 f5 fd5 ["free","ways","rests"] (V2 K T)) :
    bN P w K mg base CX0 7 f fd ["below","springs","roll","calls"] (zQ K T):=by
  refine D.F.ok jr (fun vs H Q E h=>?_) (fun cdv A outer s H vs Q E hr h=>?_)
  · obtain ⟨_,_,_,_,_,_,_,_,rfl,_⟩:=h;rfl
  · obtain ⟨a,b,c,v,r,sp,ls,cs,rfl,⟨hA,hR,h64⟩,hB,hsl,hsn,hd,hl64,hC,hlc,ok,hcn,tk,q⟩:=h
    obtain ⟨va,vs,rfl,hV,d0⟩:=hd.jk
    have hvl:vs.length=ls.length:=by rw [d0.length,List.length_map]
    refine ⟨_,(aB (bh (i:=4) jr.nd rfl (Or.inl rfl) (aF uN (hr.mono (by decide)) rfl fQ.m fQ.F.kp fQ.b .nil bB (ak (pv 0) (ak (pv 1) au))))
      (aB (bh (i:=5) jr.nd rfl (Or.inr rfl) (aF yM (hr.mono (by decide)) rfl iQ.m iQ.F.kp iQ.b .nil bB (ak (pv 2) (ak (pv 3) au))))
      (aB (bh (i:=6) jr.nd rfl (Or.inl rfl) (bA Am (dY (ak aD au)) (aK aG rfl B.len PySem.boot_len (ak (pv 2) au))))
      (aB (jP PassesOwn.never rfl (eZ (aF vV (hr.mono (by decide)) rfl gR.m gR.F.kp gR.b .nil bB (ak (pv 2) au))) (aM (i:=7) jr.nd rfl (Or.inl rfl))
        (aB (gO (i:=8) (ao lC) rfl ["below","springs","roll","calls","free","wants","takes","group","ways","dealt","number","take"] rfl ["number","below","roll"] [none,some 0,some 2] (by decide +kernel) (by decide +kernel) (by decide +kernel) rfl jr.nd rfl rfl (eZ (pv 7)) (fun _ _ _=>(aM (i:=0) (show (["number","below","roll"]:List Str).Nodup by decide +kernel) rfl (Or.inl rfl))) (fun _ _ _=>gM) (fun _ _ _=>(aF uM (hr.mono (by decide)) rfl fP.m fP.F.kp fP.b .nil bB (ak (pv 1) (ak (bx (gF (K:=K) rfl) (pv 2) (pv 0) (fun _ _=>rfl)) au)))) rfl)
        (aB (qe (aF uP (hr.mono (by decide)) rfl fV.m fV.F.kp fV.b .nil bB (ak (pv 4) (ak (pv 8) (ak (jK (ao lC) rfl ["below","springs","roll","calls","free","wants","takes","group","ways","dealt","number","take"] rfl ["number","wants"] [none,some 5] (by decide +kernel) (by decide +kernel) (by decide +kernel) rfl (eZ (pv 7)) (fun _ _ _=>(aM (i:=0) (show (["number","wants"]:List Str).Nodup by decide +kernel) rfl (Or.inl rfl))) (fun _ _ _=>gM) (fun _ _ _=>(bx (gF (K:=K) rfl) (pv 1) (pv 0) (fun _ _=>rfl)))) au)))) (qg rfl (bM (aM (i:=9) jr.nd rfl (Or.inl rfl)) (bM (aM (i:=4) jr.nd rfl (Or.inl rfl)) jJ))))
        (aC (jP PassesOwn.never rfl (Ag rfl B.zip (ak (pv 7) (ak (pv 9) au))) (qg rfl (bM (aM (i:=10) jr.nd rfl (Or.inl rfl)) (bM (aM (i:=11) jr.nd rfl (Or.inl rfl)) jJ)))
          (aC (qe (pv 11) (Ai (pv 6) (pv 10) set_list))))))))
      (aC (bw (pv 6))))))),?_⟩
    have O:=Ow.refl tk
    refine ⟨_,rfl,_,rfl,a,b,r,sp,rfl,⟨hA,hR,h64⟩,hB,hsl,tk,O.yQ fun lf H1 ys O e=>?_⟩
    subst e
    refine ⟨_,rfl,_,rfl,.ref va,c,ls,cs,rfl,hd.rE O.same,O.same.seq hC,hlc,by omega,O.same.t1,O.yQ fun lw H2 ys O e=>?_⟩
    subst e
    have hnl:(Rv.nats r sp).length=r.length:=(Rv.Bb r sp).len
    have hnn:=T4 (r:=r) hsn
    have hwl:=xY hlc
    have hwn:=zc ok hcn
    have hW:=fun k (hk:k<ls.length)=>S5 hR ok hk
    have hwk:∀ k,k<ls.length→0≤Tn.fX (jx ls cs) k:=fun k hk=>hwn _ (Tn.mF (by omega))
    generalize hwa:jx ls cs=wa at O hwl hwn hwk
    refine ⟨szl,fun l1 h1=>?_⟩
    walk_at "nw"
    refine ⟨_,rfl,va,_,rfl,.inl (O.same.seq hV),l1,_,_,rfl,rfl,O.get 0,by omega,by omega,eX (by rw [Int.toNat_natCast];simp;omega),fun lt hlt=>?_⟩
    walk_at "nw"
    rw [Int.toNat_natCast,oH,hvl] at O
    have O:=O.two
    refine ⟨_,rfl,.ref va,ls,rfl,hd.rE O.same,hl64,O.same.t1,fun lg H3 ps p OG R G=>?_⟩
    have nin:∀ q∈((lg,HO.lst (ps.map fun p=>V.ref p.1)) :: Jx ps),∀ z∈[(lt,HO.lst ((List.replicate ls.length 0).map V.int)),(lw,.lst (wa.map V.int)),(lf,.lst ((Rv.nats r sp).map V.int))],z.1≠q.1:=fun q hq z hz e=>by
      have h1:=OG.new q hq
      have h2:=O.at_ z hz
      rw [e,h1] at h2;cases h2
    obtain ⟨Hb,O,sb,kb⟩:=(O.mJ OG.same).reb
    have hG:SqL K Hb lg (ps.map fun p=>V.ref p.1):=SqL.of (kb lg _ (OG.get 0) (nin _ List.mem_cons_self))
    have hP:∀ (j:Nat) (pj:Pg),ps[j]?=some pj→SqL K Hb pj.1 ((Tn.asI pj.2.2).map V.int):=fun j pj hj=>by
      have:=Bm hj
      have hm:=List.mem_of_getElem? this
      exact SqL.of (kb _ _ (OG.at_ _ (List.mem_cons_of_mem _ hm)) (nin _ (List.mem_cons_of_mem _ hm)))
    clear nin kb OG
    have hA:=sb.seq hA
    have hV:=sb.seq hV
    have d0:=d0.mo sb
    refine ⟨lg,rfl,⟨_,O.same.seq hG⟩,?_⟩
    refine jo (K:=K) (xs:=ps.map fun p=>V.ref p.1) (fun j σ H'=>Iv (∃ (lf:Addr) (v7 v8 v9 v10 v11:Option V) (xs fl:List Int),σ=[some (.ref a),some (.ref b),some (.ref va),some (.ref c),some (.ref lf),some (.ref lw),some (.ref lt),v7,v8,v9,v10,v11] ∧
      Ow T Hb H' [(lt,.lst (xs.map V.int)),(lw,.lst (wa.map V.int)),(lf,.lst (fl.map V.int))]∧Tn.yV ls.length (Rv.nats r sp) (za r ls) (qC ls) (Tn.fX wa) (ps.map (·.2)) j xs fl))
      ⟨trivial,lf,none,none,none,none,none,_,_,rfl,O,Tn.yV.start _ hwk hnn⟩ (fun i σ H' _ ⟨_,_,_,_,_,_,_,_,_,_,O,_⟩=>O.same.seq hG) ?_ ?_
    · rintro j y σ H4 hy ⟨-,lf,v7,v8,v9,v10,v11,xs,fl,rfl,O,GI⟩
      rw [List.getElem?_map] at hy
      obtain ⟨pj,hj,rfl⟩:∃ pj,ps[j]?=some pj∧y=V.ref pj.1:=by
        cases e:ps[j]? with
        | none=>rw [e] at hy;cases hy
        | some j=>rw [e] at hy;exact ⟨j,rfl,(Option.some.inj hy).symm⟩
      have hgj:(ps.map (·.2))[j]?=some pj.2:=by rw [List.getElem?_map,hj];rfl
      have hPj:=hP j pj hj
      have up:=G.up R (List.mem_of_getElem? hgj)
      have nd:=Tn.fD up
      have hlt:∀ k∈pj.2.2,k<ls.length:=fun k hk=>R.lt (by rw [← G.flat];exact List.mem_flatten.mpr ⟨pj.2.2,List.mem_map_of_mem (List.mem_of_getElem? hgj),hk⟩)
      have hgl:pj.2.2.length≤ls.length:=by
        have hs:pj.2.2.Sublist p:=by rw [← G.flat];exact Tn.nU (List.mem_map_of_mem (List.mem_of_getElem? hgj))
        have:=hs.length_le
        rw [R.len] at this;exact this
      have hfl:=GI.fll
      have hxl:=GI.xl
      have hfn:=GI.nn hnn
      /- ways -/
      refine ⟨_,rfl,pj.1,rfl,⟨_,O.same.seq hPj⟩,fun acc hacc=>?_⟩
      refine jc (K:=K) (xs:=(Tn.asI pj.2.2).map V.int) (fun i τ H'=>Iv (∃ (v0:Option V) (Hc:Hp) (us:List V),τ=[v0,some (.ref a),some (.ref va)]∧Ow T Hc H' [(acc,.lst us),(lt,.lst (xs.map V.int)),(lw,.lst (wa.map V.int)),(lf,.lst (fl.map V.int))]∧bF T Hb Hc∧eV K Hc us ((pj.2.2.take i).map fun k=>mG (za r ls k))))
        ⟨trivial,none,Hb,[],rfl,O.mk' hacc rfl,bF.refl O.same.t0,.nil⟩ (fun i τ H' _ ⟨_,_,_,_,_,O,sc,_⟩=>(sc.trans O.same).seq hPj) ?_ ?_
      · rintro i y τ H5 hy ⟨-,v0,Hc,us,rfl,O,sc,d1⟩
        obtain ⟨z,hz,rfl⟩:=ints_get hy
        obtain ⟨k,hk,rfl⟩:=Tn.iY hz
        have hi:=(List.getElem?_eq_some_iff.mp hk).1
        have hkl:=hlt k (List.mem_of_getElem? hk)
        obtain ⟨al,hal,hTl⟩:=d0.uh (List.getElem?_eq_getElem hkl)
        refine yX ?_
        refine ⟨_,rfl,_,rfl,_,rfl,va,_,(k:Int),_,rfl,rfl,(sc.trans O.same).seq hV,iB hal,a,al,r,_,rfl,(sc.trans O.same).seq hA,hR,by omega,hTl.mo (sc.trans O.same),(ok _ (List.getElem_mem hkl)).1,O.got fun lx H6 ys O e=>?_⟩
        subst e
        refine ⟨_,O.get 1,aL (by rw [d1.length,List.length_map,List.length_take];omega),?_⟩
        walk_at "pt"
        obtain ⟨Hn2,O,sn,en2⟩:=O.frz
        refine ⟨trivial,_,Hn2,us++[.ref lx],rfl,O,sc.trans sn,?_⟩
        rw [Tn.gD hk]
        refine (d1.mo sn).append (.cons ?_ .nil)
        rw [jU (List.getElem?_eq_getElem hkl)]
        exact Den.ints (SqL.of en2)
      rintro τ H5 ⟨-,v0,Hc,us,rfl,O,sc,d1⟩
      rw [List.length_map,Tn.jm,List.take_of_length_le (Nat.le_refl _)] at d1
      /- rests -/
      refine ⟨_,rfl,_,rfl,_,rfl,pj.1,rfl,⟨_,(sc.trans O.same).seq hPj⟩,fun ac2 hac2=>?_⟩
      refine jc (K:=K) (xs:=(Tn.asI pj.2.2).map V.int) (fun i τ H'=>Iv (∃ (v0:Option V),τ=[v0,some (.ref lw)]∧Ow T Hc H' [(ac2,.lst (((pj.2.2.take i).map (Tn.fX wa)).map V.int)),(acc,.lst us),(lt,.lst (xs.map V.int)),(lw,.lst (wa.map V.int)),(lf,.lst (fl.map V.int))]))
        ⟨trivial,none,rfl,O.mk' hac2 rfl⟩ (fun i τ H' _ ⟨_,_,_,O⟩=>(sc.trans O.same).seq hPj) ?_ ?_
      · rintro i y τ H6 hy ⟨-,v0,rfl,O⟩
        obtain ⟨z,hz,rfl⟩:=ints_get hy
        obtain ⟨k,hk,rfl⟩:=Tn.iY hz
        have hi:=(List.getElem?_eq_some_iff.mp hk).1
        have hkl:=hlt k (List.mem_of_getElem? hk)
        refine yX ?_
        refine ⟨_,rfl,_,rfl,lw,_,(k:Int),_,rfl,rfl,O.sq 3,aY (cF (ns:=wa) (k:=k) (by omega)),?_⟩
        refine ⟨_,O.get 0,aL (by rw [List.length_map,List.length_map,List.length_take];omega),?_⟩
        walk_at "pt"
        refine ⟨trivial,_,rfl,?_⟩
        rw [Tn.gD hk,List.map_append];exact O
      rintro τ H6 ⟨-,v0,rfl,O⟩
      rw [List.length_map,Tn.jm,List.take_of_length_le (Nat.le_refl _)] at O
      have dws:eV K Hc us ((pj.2.2.map (za r ls)).map mG):=by rw [List.map_map];exact d1
      refine ⟨lf,ac2,.ref acc,fl,pj.2.2.map (Tn.fX wa),pj.2.2.map (za r ls),rfl,O.sq 4,.list (O.sq 1) (dws.mo O.same),O.sq 0,by rw [List.length_map,List.length_map],by omega,by rw [List.length_map];omega,fun w hw=>?_,hfn,fun x hx=>?_,O.same.t1,fun l lt2 ll ys left t H7 OD L=>?_⟩
      · obtain ⟨k,hk,rfl⟩:=List.mem_map.mp hw
        rw [hfl,hnl]
        exact hW k (hlt k hk)
      · obtain ⟨k,hk,rfl⟩:=List.mem_map.mp hx
        exact hwk k (hlt k hk)
      have O:=O.join OD
      walk_at "jn"
      refine ⟨l,_,rfl,O.sqT 0,rfl,_,_,rfl,_,_,rfl,rfl,?_⟩
      have O:=((((O.del 0).del 2).del 2).del 4)
      walk_at "er"
      have hyl:ys.length=pj.2.2.length:=by rw [L.xl,List.length_map]
      refine ⟨_,rfl,_,rfl,pj.1,lt2,_,_,rfl,(sc.trans O.same).seq hPj,O.sq 0,?_⟩
      refine Ve (K:=K) (fun i σ H'=>Iv (∃ (v10 v11:Option V) (cur:List Int),σ=[some (.ref a),some (.ref b),some (.ref va),some (.ref c),some (.ref ll),some (.ref lw),some (.ref lt),some (.ref pj.1),some (.ref acc),some (.ref lt2),v10,v11]∧cur.length=ls.length∧(∀ k,Tn.fX cur k=Tn.over (Tn.fX xs) (pj.2.2.take i) (Tn.fX ys) k) ∧
        Ow T Hc H' [(lt2,.lst (ys.map V.int)),(ll,.lst (left.map V.int)),(lt,.lst (cur.map V.int)),(lw,.lst (wa.map V.int))])) (by rw [List.length_map,List.length_map,Tn.jm];omega)
        ⟨trivial,_,_,xs,rfl,hxl,fun k=>by rw [List.take_zero,Tn.jL (by simp)],O⟩ (fun i σ H' _ ⟨_,_,_,_,_,_,_,O⟩=>⟨(sc.trans O.same).seq hPj,O.sq 0⟩) ?_ ?_
      · rintro i x y t' σ H8 hx hy ⟨-,v10,v11,cur,rfl,hcl,hov,O⟩ ht
        obtain ⟨z,hz,rfl⟩:=ints_get hx
        obtain ⟨k,hk,rfl⟩:=Tn.iY hz
        obtain ⟨u,hu,rfl⟩:=ints_get hy
        have hkl:=hlt k (List.mem_of_getElem? hk)
        walk_at "nw"
        refine ⟨t',_,rfl,O.sqT 0,rfl,_,_,rfl,_,_,rfl,rfl,?_⟩
        refine ⟨_,rfl,_,rfl,_,rfl,lt,_,_,k,rfl,rfl,O.get 3,lO (by rw [List.length_map];omega),?_⟩
        walk_at "pt"
        have O:=O.tail
        refine ⟨trivial,_,_,cur.set k u,rfl,by rw [List.length_set];exact hcl,fun m=>?_,by rw [List.map_set];exact O⟩
        rw [Tn.Ak nd hk m,← hov m]
        unfold Tn.fX
        rw [Tn.rM (by omega)]
        by_cases hm:m=k
        · rw [if_pos hm,if_pos hm,List.getD_eq_getElem?_getD,hu];rfl
        · rw [if_neg hm,if_neg hm]
      · rintro σ H8 ⟨-,v10,v11,cur,rfl,hcl,hov,O⟩
        rw [List.length_map,Tn.jm,List.take_of_length_le (Nat.le_refl _)] at hov
        have O:=(O.base sc).tail
        have O:=O.pull 2
        walk_at "er"
        have O:=O.pull 2
        walk_at "er"
        refine ⟨trivial,ll,_,_,_,_,_,cur,left,rfl,O,?_⟩
        exact GI.step G R hgj (by rw [hnl];exact hW) L hcl hov
    · rintro σ H4 ⟨-,lf,v7,v8,v9,v10,v11,xs,fl,rfl,O,GI⟩
      rw [List.length_map] at GI
      have GI:Tn.yV ls.length (Rv.nats r sp) (za r ls) (qC ls) (Tn.fX wa) (ps.map (·.2)) (ps.map (·.2)).length xs fl:=by rw [List.length_map];exact GI
      obtain ⟨F1,F2⟩:=GI.finish G R
      rw [← hwa] at F1 F2
      exact ⟨_,rfl,(O.base sb).ret 0 rfl q ⟨xs,rfl,GI.xl,F1,F2⟩⟩
theorem K7 {ls:List Lic} (h:∀ l∈ls,0≤l.day) (k:Nat):0≤qC ls k:=by
  unfold qC
  cases e:ls[k]? with
  | none=>exact Int.le_refl _
  | some l=>exact h l (List.mem_of_getElem? e)
theorem K6 {r s:List Int} {ls:List Lic} {cs xs ys:List Int} (hd:∀ l∈ls,0≤l.day) (a:Jw r s ls cs xs) (b:Jw r s ls cs ys):ys=xs:=by
  have xl:=a.len
  have yl:=b.len
  refine List.ext_getElem? fun i=>?_
  by_cases hi:i<ls.length
  · have:=Tn.unique (fun k _=>K7 hd k) b.fit b.shown a.fit a.shown i hi
    rw [cF (ns:=ys) (by omega),cF (ns:=xs) (by omega)]
    exact congrArg some this
  · rw [List.getElem?_eq_none (by omega),List.getElem?_eq_none (by omega)]
def qI (x:Str):Prop:=1≤x.cps.size∧x.cps.size≤8∧∀ c∈x.cps.toList,97≤c∧c≤122
theorem Bl:∀ c:Nat,97≤c→c≤122→(!(Builtin.Str.occurrences ("abcdefghijklmnopqrstuvwxyz":Str) ⟨#[c]⟩ 0 ("abcdefghijklmnopqrstuvwxyz":Str).length 1).isEmpty)=true:=by
  have h:∀ k:Fin 26,(!(Builtin.Str.occurrences ("abcdefghijklmnopqrstuvwxyz":Str) ⟨#[97 + k.val]⟩ 0 ("abcdefghijklmnopqrstuvwxyz":Str).length 1).isEmpty)=true:=by decide +kernel
  intro c h0 h1
  have:=h ⟨c - 97,by omega⟩
  rwa [show 97 + (c - 97)=c by omega] at this
abbrev gC:Stmt:=top 6
theorem yt:aH ["text"] ["text"] (ao gC):=⟨rfl,rfl,rfl,by decide +kernel,rfl,by decide +kernel,by decide +kernel⟩
def sY (T:eH):Sp:=fun vs H Q _=>∃ (x:Str),vs=[.str x]∧qI x∧TabsOk T H∧∀ H',bF T H H'→Q (.bl true) H'
structure CN (mg:Str→Option Value):Prop where
  LONGEST_NAME:∃ t,mg "LONGEST_NAME"=some (.int 8 t)
  LETTERS:∃ t,mg "LETTERS"=some (.str "abcdefghijklmnopqrstuvwxyz" t)
theorem Av {f:Addr} {fd:FuncData} (D:Df K mg "is_name" gC ["text"] f fd) (B:Blt mg) (CN:CN mg):bN P w K mg base CX0 1 f fd ["text"] (sY T):=by
  obtain ⟨tM,hLONGEST_NAME⟩:=CN.LONGEST_NAME
  obtain ⟨tL,hLETTERS⟩:=CN.LETTERS
  refine D.F.ok yt (fun vs H Q E h=>?_) (fun cdv A outer s H vs Q E hr h=>?_)
  · obtain ⟨_,rfl,_⟩:=h;rfl
  · obtain ⟨x,rfl,⟨n1,n8,nc⟩,tk,q⟩:=h
    have hu:=hr.units
    have O:=Ow.refl tk
    refine ⟨_,(aC (bw (Lk (rC nP nP aD (aK uE rfl B.len PySem.boot_len (ak (pv 0) au)) (gP (v:=.int (8)) rfl hLONGEST_NAME ⟨_,rfl⟩)) (Aj (aK (nW rfl) rfl B.all PyProof.Rows.boot_all (ak (jK (ao gC) rfl ["text"] rfl ["sign"] [none] (by decide +kernel) (by decide +kernel) (by decide +kernel) rfl (V8 (pv 0)) (fun _ _ _=>(aM (i:=0) (show (["sign"]:List Str).Nodup by decide +kernel) rfl (Or.inl rfl))) (fun _ _ _=>gM) (fun _ _ _=>(lM Ao (pv 0) (gP (v:=.str "abcdefghijklmnopqrstuvwxyz") rfl hLETTERS ⟨_,rfl⟩) (by rfl)))) au)))))),?_⟩
    have hl:x.length=x.cps.size:=rfl
    refine ⟨_,rfl,x,rfl,(by rw [hl,sizeLine_eq];omega),_,_,rfl,rfl,?_⟩
    refine ⟨_,rfl,?_⟩
    rw [decide_eq_true (show (1:Int)≤(x.length:Int) by omega)]
    refine yG ⟨_,_,rfl,rfl,_,rfl,?_⟩
    rw [decide_eq_true (show (x.length:Int)≤8 by omega)]
    refine yG ?_
    refine ⟨_,rfl,x,rfl,?_,fun lw hlw=>?_⟩
    · rw [Array.all_eq_true]
      intro i hi
      have:=nc _ (Array.getElem_mem_toList hi)
      exact decide_eq_true (by omega)
    refine K9 (fun i τ H'=>Iv (∃ (v0:Option V),τ=[v0]∧Ow T H H' [(lw,.lst ((List.replicate i true).map V.bl))])) ⟨trivial,none,rfl,O.mk' hlw rfl⟩ ?_ ?_
    · rintro i c τ H4 hc ⟨-,v0,rfl,O⟩
      have hi:i<x.cps.size:=by
        rcases Nat.lt_or_ge i x.cps.size with h | h
        · exact h
        · rw [Array.getElem?_eq_none h] at hc;cases hc
      have hm:c∈x.cps.toList:=by
        rw [Array.getElem?_eq_getElem hi] at hc
        cases hc;exact Array.getElem_mem_toList hi
      have:=nc c hm
      refine yX ?_
      refine ⟨_,rfl,_,_,rfl,rfl,?_⟩
      rw [Bl c this.1 this.2]
      refine ⟨_,O.get 0,aL (by rw [List.length_map,List.length_replicate];omega),?_⟩
      walk_at "pt"
      refine ⟨trivial,_,rfl,?_⟩
      rw [List.replicate_succ',List.map_append];exact O
    rintro τ H4 ⟨-,v0,rfl,O⟩
    refine ⟨lw,_,rfl,O.sq 0,?_⟩
    rw [show (List.replicate x.cps.size true).all id=true by simp]
    exact q _ O.same
abbrev bQ:Stmt:=top 38
theorem oA:aH ["name"] ["name"] (ao bQ):=⟨rfl,rfl,rfl,by decide +kernel,rfl,by decide +kernel,by decide +kernel⟩
def lK (T:eH):Sp:=fun vs H Q _=>∃ (x:Str),vs=[.str x]∧qI x∧TabsOk T H∧∀ H',bF T H H'→Q .non H'
theorem vD {f f1:Addr} {fd fd1:FuncData} (D:Df K mg "look_at_name" bQ ["name"] f fd)
    (jE:Df K mg "is_name" gC ["text"] f1 fd1) (Ju:bN P w K mg base CX0 1 f1 fd1 ["text"] (sY T)):bN P w K mg base CX0 2 f fd ["name"] (lK T):=by
  refine D.F.ok oA (fun vs H Q E h=>?_) (fun cdv A outer s H vs Q E hr h=>?_)
  · obtain ⟨_,rfl,_⟩:=h;rfl
  · obtain ⟨x,rfl,nx,tk,q⟩:=h
    refine ⟨_,(aC (iV (jO (lD (aF Ju (hr.mono (by decide)) rfl jE.m jE.F.kp jE.b .nil bB (ak (pv 0) au))))
        (aC kO)
        cG)),?_⟩
    refine ⟨_,rfl,x,rfl,nx,tk,fun H1 s1=>?_⟩
    refine ⟨_,rfl,uo ?_⟩
    exact q _ s1
structure Rs where
  p:Addr
  dx:Addr
  lb:Addr
  ll:Addr
  ln:Addr
  lo:Addr
abbrev jZ:List Str:=["below","day","licences","names","done"]
abbrev Vw (C:Addr) (A:Rs) (day:Int):HO:=.ins C A.dx [("below",.ref A.lb),("day",.int day),("licences",.ref A.ll),("names",.ref A.ln),("done",.ref A.lo)]
abbrev RL (C:Addr) (A:Rs) (r:List Int) (day:Int) (us:List V) (ns:List Str) (ds:List V):List (Addr × HO) :=
  [(A.p,Vw C A day),(A.dx,.own A.p),(A.lb,.lst (r.map V.int)),(A.ll,.lst us),(A.ln,.lst (ns.map V.str)),(A.lo,.lst ds)]
section
variable {K:PySem.W.Frag} {mg:Str→Option Value} {C f0:Addr}
theorem _root_.L2.Cl.nB (R:Cl K mg "Roll" C f0 jZ):jC K C "below":=R.n _ (.head _)
theorem _root_.L2.Cl.nD (R:Cl K mg "Roll" C f0 jZ):jC K C "day":=R.n _ (.tail _ (.head _))
theorem _root_.L2.Cl.nL (R:Cl K mg "Roll" C f0 jZ):jC K C "licences":=R.n _ (.tail _ (.tail _ (.head _)))
theorem _root_.L2.Cl.nN (R:Cl K mg "Roll" C f0 jZ):jC K C "names":=R.n _ (.tail _ (.tail _ (.tail _ (.head _))))
theorem _root_.L2.Cl.nO (R:Cl K mg "Roll" C f0 jZ):jC K C "done":=R.n _ (.tail _ (.tail _ (.tail _ (.tail _ (.head _)))))
end
theorem V6 (A:Rs) (day:Int) (z:V):sH "day" z [("below",.ref A.lb),("day",.int day),("licences",.ref A.ll),("names",.ref A.ln),("done",.ref A.lo)]=([("below",.ref A.lb),("day",z),("licences",.ref A.ll),("names",.ref A.ln),("done",.ref A.lo)]:List (Str × V)):=rfl
def zL (K:PySem.W.Frag) (C:Addr) (y:Str):Sp:=fun vs H Q _=>∃ (p dx l:Addr) (fs:List (Str × V)) (us:List V),vs=[.ref p]∧H p=some (.ins C dx fs)∧fs.lookup y=some (.ref l)∧SqL K H l us∧∀ l',H l'=none→Q (.ref l') (upd H l' (.lst us))
abbrev dU:Stmt:=inClass (top 39) 2
theorem tO:aH ["self"] ["self"] (ao dU):=⟨rfl,rfl,rfl,by decide +kernel,rfl,by decide +kernel,by decide +kernel⟩
section
variable {P:Program} {w:World} {K:PySem.W.Frag} {mg:Str→Option Value} {base:Heap} {C f0:Addr}
theorem Kh {f:Addr} {fd:FuncData} (D:Dm K C "roll" "Roll.roll" dU ["self"] f fd) (B:Blt mg) (R:Cl K mg "Roll" C f0 jZ):bN P w K mg base CX0 1 f fd ["self"] (zL K C "licences"):=by
  refine D.F.ok tO (fun vs H Q E h=>?_) (fun cdv A outer s H vs Q E hr h=>?_)
  · obtain ⟨_,_,_,_,_,rfl,_⟩:=h;rfl
  · obtain ⟨p,dx,l,fs,us,rfl,hp,hf,hl,q⟩:=h
    refine ⟨_,(aC (bw (dF bT rfl B.list PyProof.Rows.boot_list (ak (iC (pv 0) rfl) au)))),?_⟩
    exact ⟨_,rfl,p,C,dx,fs,.ref l,rfl,hp,R.c,R.nL,hf,l,us,rfl,.inl hl,q⟩
end
abbrev dR:Stmt:=inClass (top 39) 5
theorem tK:aH ["self"] ["self"] (ao dR):=⟨rfl,rfl,rfl,by decide +kernel,rfl,by decide +kernel,by decide +kernel⟩
def zJ (T:eH) (C:Addr):Sp:=fun vs H Q _=>∃ (A:Rs) (H0:Hp) (B:List (Addr × HO)) (r:List Int) (day:Int) (us:List V) (ns:List Str) (ds:List V),vs=[.ref A.p]∧Ow T H0 H (RL C A r day us ns ds++B)∧ds.length≤9000 ∧
  ∀ (t:Addr) (H':Hp),Ow T H0 H' ((t,.tup [.str "turn"]) :: (RL C A r (day + 1) us ns (ds++[.ref t])++B))→Q .non H'
section
variable {P:Program} {w:World} {K:PySem.W.Frag} {mg:Str→Option Value} {base:Heap} {T:eH} {C f0:Addr}
theorem Ke {f:Addr} {fd:FuncData} (D:Dm K C "turn" "Roll.turn" dR ["self"] f fd) (R:Cl K mg "Roll" C f0 jZ):bN P w K mg base CX0 1 f fd ["self"] (zJ T C):=by
  refine D.F.ok tK (fun vs H Q E h=>?_) (fun cdv A outer s H vs Q E hr h=>?_)
  · obtain ⟨_,_,_,_,_,_,_,_,rfl,_⟩:=h;rfl
  · obtain ⟨A,H0,L,r,day,us,ns,ds,rfl,O,hd,q⟩:=h
    refine ⟨_,(aB (Ad (pv 0) aD WM)
      (aC (cj (nM PySem.F.plainAttrs_list PySem.F.slot_list_append PySem.F.type_list_append dG (iC (pv 0) rfl) (ak (j5 (ak lE au)) au))))),?_⟩
    simp only [List.cons_append,List.nil_append] at O
    refine ⟨_,rfl,A.p,C,A.dx,_,_,rfl,O.get 0,R.c,R.nD,rfl,_,_,rfl,rfl,A.dx,_,O.get 0,(by show 5<1000;decide),?_⟩
    rw [V6]
    walk_at "pt"
    refine ⟨_,rfl,A.p,C,A.dx,_,.ref A.lo,rfl,O.get 0,R.c,R.nO,rfl,.inl ⟨rfl,_,O.sq 5⟩,szl,fun t ht=>?_⟩
    walk_at "nw"
    refine ⟨A.lo,_,_,rfl,rfl,O.get 6,aL (by omega),?_⟩
    walk_at "pt"
    exact q t _ O
end
abbrev cJ:Stmt:=inClass (top 39) 13
theorem qX:aH ["self","one","holder"] ["self","one","holder"] (ao cJ):=⟨rfl,rfl,rfl,by decide +kernel,rfl,by decide +kernel,by decide +kernel⟩
def qP (C:Addr):Sp:=fun vs H Q _=>∃ (A:Rs) (day:Int) (us:List V) (ns:List V) (v x:V),vs=[.ref A.p,v,x]∧H A.p=some (Vw C A day)∧H A.ll=some (.lst us)∧H A.ln=some (.lst ns)∧us.length≤900∧ns.length≤900∧A.p≠A.ll∧A.p≠A.ln∧A.ln≠A.ll ∧
  Q (.int us.length) (upd (upd H A.ll (.lst (us++[v]))) A.ln (.lst (ns++[x])))
section
variable {P:Program} {w:World} {K:PySem.W.Frag} {mg:Str→Option Value} {base:Heap} {T:eH} {C f0:Addr}
theorem Ax {f:Addr} {fd:FuncData} (D:Dm K C "enter" "Roll.enter" cJ ["self","one","holder"] f fd) (B:Blt mg) (R:Cl K mg "Roll" C f0 jZ):bN P w K mg base CX0 1 f fd ["self","one","holder"] (qP C):=by
  refine D.F.ok qX (fun vs H Q E h=>?_) (fun cdv A outer s H vs Q E hr h=>?_)
  · obtain ⟨_,_,_,_,_,_,rfl,_⟩:=h;rfl
  · obtain ⟨A,day,us,ns,v,x,rfl,hp,hl,hn,ul,nl,n1,n2,n3,q⟩:=h
    refine ⟨_,(aB (cj (nM PySem.F.plainAttrs_list PySem.F.slot_list_append PySem.F.type_list_append dG (iC (pv 0) rfl) (ak (pv 1) au)))
      (aB (cj (nM PySem.F.plainAttrs_list PySem.F.slot_list_append PySem.F.type_list_append dG (iC (pv 0) rfl) (ak (pv 2) au)))
      (aC (bw (bA lF (aK aG rfl B.len PySem.boot_len (ak (iC (pv 0) rfl) au)) aD))))),?_⟩
    refine ⟨_,rfl,A.p,C,A.dx,_,.ref A.ll,rfl,hp,R.c,R.nL,rfl,.inl ⟨rfl,_,SqL.of hl⟩,_,rfl,A.ll,_,_,rfl,rfl,hl,aL (by omega),?_⟩
    have hp:=(aN (H:=H) (o:=.lst (us++[v])) n1).trans hp
    have hn:=(aN (H:=H) (o:=.lst (us++[v])) n3).trans hn
    have hl:upd H A.ll (.lst (us++[v])) A.ll=some (.lst (us++[v])):=bf
    refine ⟨_,rfl,A.p,C,A.dx,_,.ref A.ln,rfl,hp,R.c,R.nN,rfl,.inl ⟨rfl,_,SqL.of hn⟩,_,rfl,A.ln,_,_,rfl,rfl,hn,aL (by omega),?_⟩
    have hp:=(aN (o:=.lst (ns++[x])) n2).trans hp
    have hl:=(aN (o:=.lst (ns++[x])) n3.symm).trans hl
    refine ⟨_,rfl,A.p,C,A.dx,_,.ref A.ll,rfl,hp,R.c,R.nL,rfl,A.ll,_,rfl,.inl (SqL.of hl),_,_,rfl,rfl,?_⟩
    dsimp only
    rw [show (((us++[v]).length:Nat):Int) - 1=(us.length:Int) by rw [List.length_append];simp]
    exact q
end
abbrev aV:Stmt:=inClass (top 39) 17
theorem lB:aH ["self"] ["self"] (ao aV):=⟨rfl,rfl,rfl,by decide +kernel,rfl,by decide +kernel,by decide +kernel⟩
def u6 (K:PySem.W.Frag) (C:Addr):Sp:=fun vs H Q _=>∃ (A:Rs) (day:Int) (us:List V),vs=[.ref A.p]∧H A.p=some (Vw C A day)∧SqL K H A.ll us∧us.length<60∧Q .non H
section
variable {P:Program} {w:World} {K:PySem.W.Frag} {mg:Str→Option Value} {base:Heap} {T:eH} {C f0:Addr}
theorem Kg {f:Addr} {fd:FuncData} (D:Dm K C "look_at_room" "Roll.look_at_room" aV ["self"] f fd) (B:Blt mg) (R:Cl K mg "Roll" C f0 jZ) (CL:∃ t,mg "MOST_LICENCES"=some (.int 60 t)):bN P w K mg base CX0 1 f fd ["self"] (u6 K C):=by
  obtain ⟨tL,hMOST_LICENCES⟩:=CL
  refine D.F.ok lB (fun vs H Q E h=>?_) (fun cdv A outer s H vs Q E hr h=>?_)
  · obtain ⟨_,_,_,rfl,_⟩:=h;rfl
  · obtain ⟨A,day,us,rfl,hp,hl,hn,q⟩:=h
    refine ⟨_,(aC (iV (bY ZD (aK aG rfl B.len PySem.boot_len (ak (iC (pv 0) rfl) au)) (gP (v:=.int (60)) rfl hMOST_LICENCES ⟨_,rfl⟩) (cL _))
        (aC kO)
        cG)),?_⟩
    refine ⟨_,rfl,A.p,C,A.dx,_,.ref A.ll,rfl,hp,R.c,R.nL,rfl,A.ll,_,rfl,.inl hl,_,_,rfl,rfl,_,rfl,?_⟩
    rw [decide_eq_false (show ¬ (60:Int)≤(us.length:Int) by omega)]
    exact uo q
end
theorem Te {j:Nat} {σ:St} {H:Hp} {Q:VK} {bv:V} {stop:Int} (hb:bv=.non∧stop=-1∨bv=.int stop) (hj:σ[j]?=some (some bv)) (h:Q (.int stop) H) :
    tIf (S9 (tOp (fun x y H Q=>y=V.non∧Q (V.bl (decide (x=V.non))) H) (Y9 j) (tC V.non))) (tC (V.int (-1))) (Y9 j) σ H Q:=by
  refine ⟨bv,hj,rfl,_,rfl,?_⟩
  rcases hb with ⟨rfl,rfl⟩ | rfl
  · exact yG h
  · exact uo ⟨_,hj,h⟩
abbrev dX:Stmt:=inClass (top 39) 6
theorem jY:aH ["self","holder","start","most","back","stop","one"] ["self","holder","start","most","back"] (ao dX):=⟨rfl,rfl,rfl,by decide +kernel,rfl,by decide +kernel,by decide +kernel⟩
abbrev Jc (x:Str) (l:Lic):List V:=[.str "file",.str x,.int l.start,.int l.most,.int l.back]
def zO (T:eH) (C:Addr):Sp:=fun vs H Q _=>∃ (A:Rs) (H0:Hp) (B:List (Addr × HO)) (r:List Int) (day:Int) (us:List V) (ns:List Str) (ds:List V) (x:Str) (l:Lic) (bv:V),vs=[.ref A.p,.str x,.int l.start,.int l.most,bv]∧(bv=.non∧l.back=-1∨bv=.int l.back)∧l.day=day ∧
  Ow T H0 H (RL C A r day us ns ds++B)∧qI x∧Rv.gH r∧r.length≤40∧yL r l∧l.most≠0∧us.length<60∧ns.length≤900∧ds.length≤9000 ∧
  ∀ (t1 t2:Addr) (H':Hp),Ow T H0 H' ((t2,.tup (Jc x l)) :: (t1,.tup (sG l)) :: (RL C A r day (us++[.ref t1]) (ns++[x]) (ds++[.ref t2])++B))→Q (.int us.length) H'
section
variable {P:Program} {w:World} {K:PySem.W.Frag} {mg:Str→Option Value} {base:Heap} {T:eH} {C f0:Addr}
theorem Ko {f f1 f2 f3 f4:Addr} {fd fd1 fd2 fd3 fd4:FuncData} (D:DmD K C "file" "Roll.file" dX ["self","holder","start","most","back"] f fd) (B:Blt mg) (CM:Mth mg) (R_Roll:Cl K mg "Roll" C f0 jZ)
    (bD:Df K mg "look_at_name" bQ ["name"] f1 fd1) (jw:bN P w K mg base CX0 2 f1 fd1 ["name"] (lK T))
    (fU:Df K mg "is_licence" cW ["below","one"] f2 fd2) (uO:bN P w K mg base CX0 2 f2 fd2 ["below","one"] (wU K T))
    (aX:Dm K C "look_at_room" "Roll.look_at_room" aV ["self"] f3 fd3) (fj:bN P w K mg base CX0 1 f3 fd3 ["self"] (u6 K C))
    (cM:Dm K C "enter" "Roll.enter" cJ ["self","one","holder"] f4 fd4) (kE:bN P w K mg base CX0 1 f4 fd4 ["self","one","holder"] (qP C)) :
    bN P w K mg base CX0 3 f fd ["self","holder","start","most","back"] (zO T C):=by
  obtain ⟨tM,hMOUTH⟩:=CM.MOUTH
  have R:=R_Roll
  refine D.F.ok jY (fun vs H Q E h=>?_) (fun cdv A outer s H vs Q E hr h=>?_)
  · obtain ⟨_,_,_,_,_,_,_,_,_,_,_,rfl,_⟩:=h;rfl
  · obtain ⟨A,H0,L,r,day,us,ns,ds,x,l,bv,rfl,hb,rfl,O,nx,hR,r40,hl,m0,ul,nl,dl,q⟩:=h
    refine ⟨_,(aB (cj (aF jw (hr.mono (by decide)) rfl bD.m bD.F.kp bD.b .nil bB (ak (pv 1) au)))
      (aB (bh (i:=5) jY.nd rfl (Or.inl rfl) (J0 (bY Wf (pv 4) Wb (cL _)) (gP (v:=.int (-1)) rfl hMOUTH ⟨_,rfl⟩) (pv 4)))
      (aB (bh (i:=6) jY.nd rfl (Or.inl rfl) (j5 (ak (iC (pv 0) rfl) (ak (pv 2) (ak (pv 5) (ak (pv 3) au))))))
      (aB (iV (PW.pt (pw_or (bY pQ (pv 3) aD (cL _)) (pw_or1 (jO (lD (aF uO (hr.mono (by decide)) rfl fU.m fU.F.kp fU.b .nil bB (ak (iC (pv 0) rfl) (ak (pv 6) au))))))))
        (aC kO)
        cG)
      (aB (cj (mj (pv 0) R_Roll.c aX.m fj (hr.mono (by decide)) aX.b .nil bB))
      (aB (cj (nM PySem.F.plainAttrs_list PySem.F.slot_list_append PySem.F.type_list_append dG (iC (pv 0) rfl) (ak (j5 (ak lE (ak (pv 1) (ak (pv 2) (ak (pv 3) (ak (pv 5) au)))))) au)))
      (aC (bw (j6 (pv 0) R_Roll.c cM.m kE (hr.mono (by decide)) cM.b .nil bB (ak (pv 6) (ak (pv 1) au))))))))))),?_⟩
    simp only [List.cons_append,List.nil_append] at O
    refine ⟨_,rfl,x,rfl,nx,O.same.t1,fun H1 s1=>?_⟩
    have O:=O.mJ s1
    refine Te hb rfl ?_
    refine ⟨_,rfl,A.p,C,A.dx,_,.int l.day,rfl,O.get 0,R.c,R.nD,rfl,_,rfl,_,rfl,_,rfl,szl,fun t1 ht1=>?_⟩
    walk_at "nw"
    refine ⟨_,rfl,rfl,_,rfl,?_⟩
    rw [decide_eq_false (show ¬ V.int l.most=V.int 0 from fun z=>m0 (V.int.inj z))]
    refine uo ?_
    refine ⟨_,rfl,A.p,C,A.dx,_,.ref A.lb,rfl,O.get 1,R.c,R.nB,rfl,_,rfl,A.lb,t1,r,l,rfl,O.sq 3,hR,by omega,O.sqT 0,O.same.t1,fun b H2 s2 hb2=>?_⟩
    have hbt:b=true:=hb2.mpr hl
    subst hbt
    have O:=O.mJ s2
    refine ⟨_,rfl,uo ?_⟩
    refine ⟨_,rfl,A.p,A.dx,_,rfl,O.get 1,rfl,A,l.day,us,rfl,O.get 1,O.sq 4,ul,?_⟩
    refine ⟨_,rfl,A.p,C,A.dx,_,.ref A.lo,rfl,O.get 1,R.c,R.nO,rfl,.inl ⟨rfl,_,O.sq 6⟩,_,rfl,_,rfl,_,rfl,_,rfl,szl,fun t2 ht2=>?_⟩
    walk_at "nw"
    refine ⟨A.lo,_,_,rfl,rfl,O.get 7,aL (by omega),?_⟩
    walk_at "pt"
    refine ⟨_,rfl,A.p,A.dx,_,rfl,O.get 2,rfl,_,rfl,_,rfl,A,l.day,us,ns.map V.str,.ref t1,.str x,rfl,O.get 2,O.get 5,O.get 6,by omega,by rw [List.length_map];exact nl,O.ne 2 5,O.ne 2 6,O.ne 6 5,?_⟩
    have O:=(O.Vu 5 rfl (o':=.lst (us++[.ref t1])) rfl).Vu 6 rfl (o':=.lst (ns.map V.str++[.str x])) rfl
    refine q t1 t2 _ ?_
    simp only [RL,List.map_append,List.map_cons,List.map_nil];exact O
end
abbrev bR:Stmt:=inClass (top 39) 0
theorem nH:aH ["self","below"] ["self","below"] (ao bR):=⟨rfl,rfl,rfl,by decide +kernel,rfl,by decide +kernel,by decide +kernel⟩
def zN (T:eH) (C:Addr):Sp:=fun vs H Q _=>∃ (p dx lv:Addr) (H0:Hp) (B:List (Addr × HO)) (r:List Int),vs=[.ref p,.ref lv]∧Ow T H0 H ((p,.ins C dx []) :: (dx,.own p) :: B)∧H lv=some (.lst (r.map V.int))∧lv≠p∧Rv.isR r=true∧r.length≤40 ∧
  ∀ (A:Rs) (H':Hp),A.p=p→Ow T H0 H' (RL C A r 0 [] [] []++B)→Q .non H'
section
variable {P:Program} {w:World} {K:PySem.W.Frag} {mg:Str→Option Value} {base:Heap} {T:eH} {C f0:Addr}
theorem Km {f f1:Addr} {fd fd1:FuncData} (D:Dm K C "__init__" "Roll.__init__" bR ["self","below"] f fd) (B:Blt mg) (R:Cl K mg "Roll" C f0 jZ)
    (iT:Df K mg "is_river" dH ["below"] f1 fd1) (yO:bN P w K mg base CX0 2 f1 fd1 ["below"] (Li K)) :
    bN P w K mg base CX0 3 f fd ["self","below"] (zN T C):=by
  refine D.F.ok nH (fun vs H Q E h=>?_) (fun cdv A outer s H vs Q E hr h=>?_)
  · obtain ⟨_,_,_,_,_,_,rfl,_⟩:=h;rfl
  · obtain ⟨p,dx,lv,H0,L,r,rfl,O,hv,hne,hR,r40,q⟩:=h
    refine ⟨_,(aB (iV (jO (lD (aF yO (hr.mono (by decide)) rfl iT.m iT.F.kp iT.b .nil bB (ak (pv 1) au))))
        (aC kO)
        cG)
      (aB (tV (pv 0) (dF bT rfl B.list PyProof.Rows.boot_list (ak (pv 1) au)) rfl)
      (aB (tV (pv 0) aD rfl)
      (aB (tV (pv 0) (dY au) rfl)
      (aB (tV (pv 0) (dY au) rfl)
      (aC (tV (pv 0) (dY au) rfl))))))),?_⟩
    refine ⟨_,rfl,lv,r,rfl,SqL.of hv,by omega,fun H1 s1=>?_⟩
    rw [hR]
    refine ⟨_,rfl,uo ?_⟩
    have hv:=s1 _ _ hv
    have O:=O.call s1
    refine ⟨_,rfl,lv,_,rfl,.inl (SqL.of hv),fun lb hlb=>?_⟩
    walk_at "nw"
    refine ⟨_,rfl,p,C,dx,_,rfl,O.get 1,R.c,R.nB,(by show 0<1000;decide),?_⟩
    walk_at "pt"
    refine ⟨_,rfl,p,C,dx,_,rfl,O.get 1,R.c,R.nD,(by show 1<1000;decide),?_⟩
    walk_at "pt"
    refine ⟨szl,fun ll hll=>?_⟩
    walk_at "nw"
    refine ⟨_,rfl,p,C,dx,_,rfl,O.get 2,R.c,R.nL,(by show 2<1000;decide),?_⟩
    walk_at "pt"
    refine ⟨szl,fun ln hln=>?_⟩
    walk_at "nw"
    refine ⟨_,rfl,p,C,dx,_,rfl,O.get 3,R.c,R.nN,(by show 3<1000;decide),?_⟩
    walk_at "pt"
    refine ⟨szl,fun lo hlo=>?_⟩
    walk_at "nw"
    refine ⟨_,rfl,p,C,dx,_,rfl,O.get 4,R.c,R.nO,(by show 4<1000;decide),?_⟩
    walk_at "pt"
    have O:=((((O.pull 1 rfl).pull 2 rfl).pull 3 rfl).pull 5 rfl).pull 5 rfl
    exact q ⟨p,dx,lb,ll,ln,lo⟩ _ rfl O
end
abbrev dJ:Stmt:=top 32
theorem tE:aH ["one","most"] ["one","most"] (ao dJ):=⟨rfl,rfl,rfl,by decide +kernel,rfl,by decide +kernel,by decide +kernel⟩
def wm (l:Lic) (m:Int):Lic:=⟨l.day,l.start,l.back,m⟩
def VP (K:PySem.W.Frag):Sp:=fun vs H Q _=>∃ (a:Addr) (l:Lic) (m:Int),vs=[.ref a,.int m]∧SqT K H a (sG l)∧∀ t,H t=none→Q (.ref t) (upd H t (.tup (sG (wm l m))))
theorem ZG {f:Addr} {fd:FuncData} (D:Df K mg "with_most" dJ ["one","most"] f fd):bN P w K mg base CX0 1 f fd ["one","most"] (VP K):=by
  refine D.F.ok tE (fun vs H Q E h=>?_) (fun cdv A outer s H vs Q E hr h=>?_)
  · obtain ⟨_,_,_,rfl,_⟩:=h;rfl
  · obtain ⟨a,l,m,rfl,hT,q⟩:=h
    refine ⟨_,(aC (bw (j5 (ak (bx mC (pv 0) aD (fun _ _=>rfl)) (ak (bx mC (pv 0) aD (fun _ _=>rfl)) (ak (bx mC (pv 0) aD (fun _ _=>rfl)) (ak (pv 1) au))))))),?_⟩
    exact ⟨_,rfl,a,_,0,_,rfl,rfl,hT,rfl,_,rfl,a,_,1,_,rfl,rfl,hT,rfl,_,rfl,a,_,2,_,rfl,rfl,hT,rfl,_,rfl,szl,q⟩
abbrev aQ:Stmt:=inClass (top 39) 15
theorem jR:aH ["self","number"] ["self","number"] (ao aQ):=⟨rfl,rfl,rfl,by decide +kernel,rfl,by decide +kernel,by decide +kernel⟩
def p7 (K:PySem.W.Frag) (C:Addr):Sp:=fun vs H Q _=>∃ (A:Rs) (day:Int) (us:List V) (n:Nat),vs=[.ref A.p,.int (n:Int)]∧H A.p=some (Vw C A day)∧SqL K H A.ll us∧n<us.length∧Q .non H
section
variable {P:Program} {w:World} {K:PySem.W.Frag} {mg:Str→Option Value} {base:Heap} {T:eH} {C f0:Addr}
theorem vG {f:Addr} {fd:FuncData} (D:Dm K C "look_at_number" "Roll.look_at_number" aQ ["self","number"] f fd) (B:Blt mg) (R:Cl K mg "Roll" C f0 jZ):bN P w K mg base CX0 1 f fd ["self","number"] (p7 K C):=by
  refine D.F.ok jR (fun vs H Q E h=>?_) (fun cdv A outer s H vs Q E hr h=>?_)
  · obtain ⟨_,_,_,_,rfl,_⟩:=h;rfl
  · obtain ⟨A,day,us,n,rfl,hp,hl,hn,q⟩:=h
    refine ⟨_,(aC (iV (jO (lZ nP yw aD (pv 1) (aK aG rfl B.len PySem.boot_len (ak (iC (pv 0) rfl) au))))
        (aC kO)
        cG)),?_⟩
    refine ⟨_,rfl,_,_,rfl,rfl,_,rfl,?_⟩
    rw [decide_eq_true (show (0:Int)≤(n:Int) by omega)]
    refine yG ?_
    refine ⟨_,rfl,A.p,C,A.dx,_,.ref A.ll,rfl,hp,R.c,R.nL,rfl,A.ll,_,rfl,.inl hl,_,_,rfl,rfl,_,rfl,?_⟩
    rw [decide_eq_true (show (n:Int)<(us.length:Int) by omega)]
    exact uo q
end
abbrev aR:Stmt:=inClass (top 39) 16
theorem jT:aH ["self","number","holder"] ["self","number","holder"] (ao aR):=⟨rfl,rfl,rfl,by decide +kernel,rfl,by decide +kernel,by decide +kernel⟩
def p8 (K:PySem.W.Frag) (T:eH) (C cY:Addr):Sp:=fun vs H Q E=>∃ (A:Rs) (day:Int) (us:List V) (ns:List Str) (n:Nat) (x y:Str),vs=[.ref A.p,.int (n:Int),.str y]∧H A.p=some (Vw C A day)∧SqL K H A.ll us∧SqL K H A.ln (ns.map V.str)∧n<us.length∧ns[n]?=some x∧TabsOk T H∧(x=y→Q .non H) ∧
  (x≠y→∀ (e:Addr) (H':Hp),bF T H H'→H' e=none→E (.ref cY) (some e) H')
section
variable {P:Program} {w:World} {K:PySem.W.Frag} {mg:Str→Option Value} {base:Heap} {T:eH} {C f0:Addr}
theorem vH {f f1 cY:Addr} {fd fd1:FuncData} (D:Dm K C "look_at_holder" "Roll.look_at_holder" aR ["self","number","holder"] f fd) (B:Blt mg) (R_Roll:Cl K mg "Roll" C f0 jZ) (X_NotYours:Vz K mg "NotYours" cY)
    (bU:Dm K C "look_at_number" "Roll.look_at_number" aQ ["self","number"] f1 fd1) (kh:bN P w K mg base CX0 1 f1 fd1 ["self","number"] (p7 K C)) :
    bN P w K mg base (CXE P w) 2 f fd ["self","number","holder"] (p8 K T C cY):=by
  have R:=R_Roll
  refine D.F.okX jT (fun vs H Q E h=>?_) (fun cdv A outer s H vs Q E hr h=>?_)
  · obtain ⟨_,_,_,_,_,_,_,rfl,_⟩:=h;rfl
  · obtain ⟨A,day,us,ns,n,x,y,rfl,hp,hl,hn,hnl,hx,tk,q,qx⟩:=h
    refine ⟨_,(aB (cj (j6 (pv 0) R_Roll.c bU.m kh (hr.mono (by decide)) bU.b .nil bB (ak (pv 1) au)))
      (aC (iV (bY vC (bx aJ (iC (pv 0) rfl) (pv 1) (fun _ _=>rfl)) (pv 2) (cL _))
        (aC (rm rY rfl (fun _ _ z=>z) rfl X_NotYours.m X_NotYours.q (ak lE au)))
        cG))),?_⟩
    refine ⟨_,rfl,A.p,A.dx,_,rfl,hp,rfl,_,rfl,A,day,us,n,rfl,hp,hl,hnl,?_⟩
    refine ⟨_,rfl,A.p,C,A.dx,_,.ref A.ln,rfl,hp,R.c,R.nN,rfl,_,rfl,A.ln,_,_,_,rfl,rfl,hn,iB (show (ns.map V.str)[n]?=some (.str x) by rw [List.getElem?_map,hx];rfl),_,rfl,rfl,_,rfl,ifN (ifD (fun h=>?_) (fun h=>?_))⟩
    · exact q (V.str.inj h)
    · refine ⟨szl,fun e he=>?_⟩
      exact qx (fun z=>h (by rw [z])) e H (bF.refl tk) he
end
abbrev Ti:Stmt:=inClass (top 39) 9
def jg (ls:List Lic) (d:Int):Nat→List Int
  | 0=>[]
  | i + 1=>jg ls d i++(match ls[i]? with | some l=>if l.day=d∧0<l.most then [(i:Int)] else [] | none=>[])
theorem pW (ls:List Lic) (d:Int):∀ i,(jg ls d i).length≤i
  | 0=>Nat.le_refl _
  | i + 1=>by
    have:=pW ls d i
    unfold jg
    rw [List.length_append]
    split
    · split <;> simp <;> omega
    · simp;omega
abbrev bH:Stmt:=inClass (top 39) 14
theorem iz:aH ["self","number","day","taking"] ["self","number"] (ao bH):=⟨rfl,rfl,rfl,by decide +kernel,rfl,by decide +kernel,by decide +kernel⟩
def wY (K:PySem.W.Frag) (T:eH) (C:Addr):Sp:=fun vs H Q _=>∃ (A:Rs) (day:Int) (us:List V) (ls:List Lic) (n:Nat) (l:Lic),vs=[.ref A.p,.int (n:Int)]∧H A.p=some (Vw C A day)∧SqL K H A.ll us∧eV K H us (ls.map Jz)∧ls[n]?=some l∧ls.length≤64∧TabsOk T H ∧
  ∀ H',bF T H H'→Q (.bl (decide (jg ls l.day ls.length=[(n:Int)]))) H'
section
variable {P:Program} {w:World} {K:PySem.W.Frag} {mg:Str→Option Value} {base:Heap} {T:eH} {C f0:Addr}
theorem Ay {f f1 f2:Addr} {fd fd1 fd2:FuncData} (D:Dm K C "is_alone" "Roll.is_alone" bH ["self","number"] f fd) (B:Blt mg) (R:Cl K mg "Roll" C f0 jZ)
    (aW:Df K mg "day_filed" cN ["one"] f1 fd1) (gQ:bN P w K mg base CX0 1 f1 fd1 ["one"] (wV K))
    (bI:Df K mg "most_of" eU ["one"] f2 fd2) (jD:bN P w K mg base CX0 1 f2 fd2 ["one"] (qO K)):bN P w K mg base CX0 2 f fd ["self","number"] (wY K T C):=by
  refine D.F.ok iz (fun vs H Q E h=>?_) (fun cdv A outer s H vs Q E hr h=>?_)
  · obtain ⟨_,_,_,_,_,_,rfl,_⟩:=h;rfl
  · obtain ⟨A,day,us,ls,n,l,rfl,hp,hl,d0,hn,l64,tk,q⟩:=h
    have hu:=hr.units
    have O:=Ow.refl tk
    have hul:us.length=ls.length:=by rw [d0.length,List.length_map]
    obtain ⟨al,hal,hT⟩:=d0.uh hn
    refine ⟨_,(aB (bh (i:=2) iz.nd rfl (Or.inr rfl) (aF gQ (hr.mono (by decide)) rfl aW.m aW.F.kp aW.b .nil bB (ak (bx aJ (iC (pv 0) rfl) (pv 1) (fun _ _=>rfl)) au)))
      (aB (gO (i:=3) (ao bH) rfl ["self","number","day","taking"] rfl ["other","one","day"] [none,none,some 2] (by decide +kernel) (by decide +kernel) (by decide +kernel) rfl iz.nd rfl rfl (vp rfl B.enumerate (ak (iC (pv 0) rfl) au)) (fun _ _ _=>(rA (K:=K) (n:=2) rfl rfl (bM (aM (i:=0) (show (["other","one","day"]:List Str).Nodup by decide +kernel) rfl (Or.inl rfl)) (bM (aM (i:=1) (show (["other","one","day"]:List Str).Nodup by decide +kernel) rfl (Or.inl rfl)) jJ)))) (fun _ _ _=>(vm (PW.pt (pw_and (bY pQ (aF gQ (hr.mono (by decide)) rfl aW.m aW.F.kp aW.b .nil bB (ak (pv 1) au)) (pv 2) (cL _)) (pw_and1 (bY J2 (aF jD (hr.mono (by decide)) rfl bI.m bI.F.kp bI.b .nil bB (ak (pv 1) au)) aD (cL _))))))) (fun _ _ _=>(pv 0)) rfl)
      (aC (bw (lM (Lq hu) (pv 3) (dY (ak (pv 1) au)) (cL _)))))),?_⟩
    refine ⟨_,rfl,A.p,C,A.dx,_,.ref A.ll,rfl,hp,R.c,R.nL,rfl,_,rfl,A.ll,_,_,_,rfl,rfl,hl,iB hal,al,l,rfl,hT,?_⟩
    refine ⟨_,rfl,A.p,C,A.dx,_,.ref A.ll,rfl,hp,R.c,R.nL,rfl,A.ll,_,rfl,hl,fun lw hlw=>?_⟩
    refine uz (K:=K) (xs:=us) (fun i τ H'=>Iv (∃ (v0 v1:Option V),τ=[v0,v1,some (.int l.day)]∧Ow T H H' [(lw,.lst ((jg ls l.day i).map V.int))]))
      ⟨trivial,none,none,rfl,O.mk' hlw rfl⟩ (fun i τ H' _ ⟨_,_,_,_,O⟩=>hl.mo O.same) ?_ ?_
    · rintro i y T0 τ H5 hy ⟨-,v0,v1,rfl,O⟩ hT0
      obtain ⟨al,l2,rfl,hl2,hT2⟩:=d0.Bk hy
      have hi:=(List.getElem?_eq_some_iff.mp hl2).1
      have ht:=pW ls l.day i
      walk_at "nw"
      refine ⟨T0,_,rfl,O.sqT 0,rfl,_,_,rfl,_,_,rfl,rfl,?_⟩
      have O:=O.tail
      have hT3:=hT2.mo O.same
      refine ⟨_,rfl,al,l2,rfl,hT3,_,rfl,rfl,_,rfl,ifI (fun hd=>?_) (fun hd=>?_)⟩
      · refine ⟨_,rfl,al,l2,rfl,hT3,_,_,rfl,rfl,_,rfl,ifD (fun hm=>?_) (fun hm=>?_)⟩
        · refine ⟨_,rfl,_,O.get 0,aL (by rw [List.length_map];omega),?_⟩
          walk_at "pt"
          refine ⟨trivial,_,_,rfl,?_⟩
          unfold jg
          rw [hl2]
          simp only [if_pos (And.intro hd hm)]
          rw [List.map_append];exact O
        · refine ⟨trivial,_,_,rfl,?_⟩
          unfold jg
          rw [hl2]
          simp only [if_neg (fun z:l2.day=l.day∧0<l2.most=>hm z.2),List.append_nil]
          exact O
      · refine ⟨trivial,_,_,rfl,?_⟩
        unfold jg
        rw [hl2]
        simp only [if_neg (fun z:l2.day=l.day∧0<l2.most=>hd z.1),List.append_nil]
        exact O
    rintro τ H5 ⟨-,v0,v1,rfl,O⟩
    rw [hul] at O
    refine ⟨_,rfl,_,rfl,szl,fun l0 hl0=>?_⟩
    walk_at "nw"
    refine ⟨lw,l0,jg ls l.day ls.length,[(n:Int)],rfl,rfl,O.sq 1,O.sq 0,?_⟩
    rw [if_neg Bool.false_ne_true]
    exact q _ O.same
end
abbrev dW:Stmt:=inClass (top 39) 8
theorem nu:aH ["self","number","holder","most","to","one"] ["self","number","holder","most","to"] (ao dW):=⟨rfl,rfl,rfl,by decide +kernel,rfl,by decide +kernel,by decide +kernel⟩
def zM (K:PySem.W.Frag) (T:eH) (C cY cT cA:Addr):Sp:=fun vs H Q E=>∃ (A:Rs) (H0:Hp) (B:List (Addr × HO)) (r:List Int) (day:Int) (us:List V) (ns:List Str) (ds:List V) (ls:List Lic) (n:Nat) (l:Lic) (x y:Str) (m:Int) (z:Str),vs=[.ref A.p,.int (n:Int),.str y,.int m,.str z] ∧
  Ow T H0 H (RL C A r day us ns ds++B)∧eV K H0 us (ls.map Jz)∧ls[n]?=some l∧ns[n]?=some x∧ns.length≤900∧qI z∧ls.length<60∧ds.length≤9000 ∧
  (x≠y→∀ (e:Addr) (H':Hp),bF T H H'→H' e=none→E (.ref cY) (some e) H') ∧
  (x=y→¬ (1≤m∧m<l.most)→∀ (e:Addr) (H':Hp),bF T H H'→H' e=none→E (.ref cT) (some e) H') ∧
  (x=y→1≤m→m<l.most→jg ls l.day ls.length≠[(n:Int)]→∀ (e:Addr) (H':Hp),bF T H H'→H' e=none→E (.ref cA) (some e) H') ∧
  (x=y→1≤m→m<l.most→jg ls l.day ls.length=[(n:Int)]→∀ (t1 t2 t3:Addr) (H':Hp),Ow T H0 H' ((t3,.tup (sG (wm l m))) :: (t2,.tup [.str "part",.int (n:Int),.str y,.int m,.str z]) :: (t1,.tup (sG (wm l (l.most - m)))) :: (RL C A r day (us.set n (.ref t1)++[.ref t3]) (ns++[z]) (ds++[.ref t2])++B))→Q (.int us.length) H')
section
variable {P:Program} {w:World} {K:PySem.W.Frag} {mg:Str→Option Value} {base:Heap} {T:eH} {C f0:Addr}
theorem Kl {f f1 f2 f3 f4 f5 f6 f7 cY cT cA:Addr} {fd fd1 fd2 fd3 fd4 fd5 fd6 fd7:FuncData} (D:Dm K C "part" "Roll.part" dW ["self","number","holder","most","to"] f fd) (B:Blt mg) (R_Roll:Cl K mg "Roll" C f0 jZ) (X_TooMuch:Vz K mg "TooMuch" cT) (X_NotAlone:Vz K mg "NotAlone" cA)
    (bV:Dm K C "look_at_holder" "Roll.look_at_holder" aR ["self","number","holder"] f1 fd1) (kj:bN P w K mg base (CXE P w) 2 f1 fd1 ["self","number","holder"] (p8 K T C cY))
    (bD:Df K mg "look_at_name" bQ ["name"] f2 fd2) (jw:bN P w K mg base CX0 2 f2 fd2 ["name"] (lK T))
    (bI:Df K mg "most_of" eU ["one"] f3 fd3) (jD:bN P w K mg base CX0 1 f3 fd3 ["one"] (qO K))
    (dZ:Dm K C "is_alone" "Roll.is_alone" bH ["self","number"] f4 fd4) (pK:bN P w K mg base CX0 2 f4 fd4 ["self","number"] (wY K T C))
    (aX:Dm K C "look_at_room" "Roll.look_at_room" aV ["self"] f5 fd5) (fj:bN P w K mg base CX0 1 f5 fd5 ["self"] (u6 K C))
    (dD:Df K mg "with_most" dJ ["one","most"] f6 fd6) (pH:bN P w K mg base CX0 1 f6 fd6 ["one","most"] (VP K))
    (cM:Dm K C "enter" "Roll.enter" cJ ["self","one","holder"] f7 fd7) (kE:bN P w K mg base CX0 1 f7 fd7 ["self","one","holder"] (qP C)) :
    bN P w K mg base (CXE P w) 3 f fd ["self","number","holder","most","to"] (zM K T C cY cT cA):=by
  have R:=R_Roll
  refine D.F.okX nu (fun vs H Q E h=>?_) (fun cdv A outer s H vs Q E hr h=>?_)
  · obtain ⟨_,_,_,_,_,_,_,_,_,_,_,_,_,_,_,rfl,_⟩:=h;rfl
  · obtain ⟨A,H0,L,r,day,us,ns,ds,ls,n,l,x,y,m,z,rfl,O,d0,hl,hx,nl,nz,l60,dl,qY,qT,qA,q⟩:=h
    have hul:us.length=ls.length:=by rw [d0.length,List.length_map]
    have hnl:=(List.getElem?_eq_some_iff.mp hl).1
    obtain ⟨al,hal,hT⟩:=d0.uh hl
    refine ⟨_,(aB (cj (j6 (pv 0) R_Roll.c bV.m kj (hr.mono (by decide)) bV.b .nil ZC (ak (pv 1) (ak (pv 2) au))))
      (aB (cj (aF jw (hr.mono (by decide)) rfl bD.m bD.F.kp bD.b .nil bB (ak (pv 4) au)))
      (aB (bh (i:=5) nu.nd rfl (Or.inl rfl) (bx aJ (iC (pv 0) rfl) (pv 1) (fun _ _=>rfl)))
      (aB (iV (jO (lZ nP yw aD (pv 3) (aF jD (hr.mono (by decide)) rfl bI.m bI.F.kp bI.b .nil bB (ak (pv 5) au))))
        (aC (rm rY rfl (fun _ _ z=>z) rfl X_TooMuch.m X_TooMuch.q (ak lE au)))
        cG)
      (aB (iV (jO (lD (j6 (pv 0) R_Roll.c dZ.m pK (hr.mono (by decide)) dZ.b .nil bB (ak (pv 1) au))))
        (aC (rm rY rfl (fun _ _ z=>z) rfl X_NotAlone.m X_NotAlone.q (ak lE au)))
        cG)
      (aB (cj (mj (pv 0) R_Roll.c aX.m fj (hr.mono (by decide)) aX.b .nil bB))
      (aB (qe (aF pH (hr.mono (by decide)) rfl dD.m dD.F.kp dD.b .nil bB (ak (pv 5) (ak (bA lF (aF jD (hr.mono (by decide)) rfl bI.m bI.F.kp bI.b .nil bB (ak (pv 5) au)) (pv 3)) au))) (Ai (iC (pv 0) rfl) (pv 1) set_list))
      (aB (cj (nM PySem.F.plainAttrs_list PySem.F.slot_list_append PySem.F.type_list_append dG (iC (pv 0) rfl) (ak (j5 (ak lE (ak (pv 1) (ak (pv 2) (ak (pv 3) (ak (pv 4) au)))))) au)))
      (aC (bw (j6 (pv 0) R_Roll.c cM.m kE (hr.mono (by decide)) cM.b .nil bB (ak (aF pH (hr.mono (by decide)) rfl dD.m dD.F.kp dD.b .nil bB (ak (pv 5) (ak (pv 3) au))) (ak (pv 4) au))))))))))))),?_⟩
    refine ⟨_,rfl,A.p,A.dx,_,rfl,O.get 0,rfl,_,rfl,_,rfl,A,day,us,ns,n,x,y,rfl,O.get 0,O.sq 3,O.sq 4,by omega,hx,O.same.t1,fun hxy=>?_,fun hxy e H' s' he=>qY hxy e H' s' he⟩
    refine ⟨_,rfl,z,rfl,nz,O.same.t1,fun H2 s2=>?_⟩
    have O:=O.mJ s2
    refine ⟨_,rfl,A.p,C,A.dx,_,.ref A.ll,rfl,O.get 0,R.c,R.nL,rfl,_,rfl,A.ll,_,_,_,rfl,rfl,O.sq 3,iB hal,?_⟩
    refine ⟨_,rfl,?_⟩
    have hTm:=hT.mo O.same
    refine ⟨_,_,rfl,rfl,_,rfl,?_⟩
    refine ifD (fun h1=>?_) (fun h1=>?_)
    rotate_left
    · refine ⟨_,rfl,yG ⟨szl,fun e he=>?_⟩⟩
      exact qT hxy (fun z=>h1 z.1) e _ s2 he
    refine ⟨_,rfl,al,l,rfl,hTm,_,_,rfl,rfl,_,rfl,ifN (ifD (fun h2=>?_) (fun h2=>?_))⟩
    rotate_left
    · refine ⟨szl,fun e he=>?_⟩
      exact qT hxy (fun z=>h2 z.2) e _ s2 he
    refine ⟨_,rfl,A.p,A.dx,_,rfl,O.get 0,rfl,_,rfl,A,day,us,ls,n,l,rfl,O.get 0,O.sq 3,d0.mo O.same,hl,by omega,O.same.t1,fun H3 s3=>?_⟩
    have O:=O.mJ s3
    have hTm:=hT.mo O.same
    refine ⟨_,rfl,ifN (ifD (fun h3=>?_) (fun h3=>?_))⟩
    rotate_left
    · refine ⟨szl,fun e he=>?_⟩
      exact qA hxy h1 h2 h3 e _ (s2.trans s3) he
    refine ⟨_,rfl,A.p,A.dx,_,rfl,O.get 0,rfl,A,day,us,rfl,O.get 0,O.sq 3,by omega,?_⟩
    refine ⟨_,rfl,_,rfl,al,l,rfl,hTm,_,rfl,_,_,rfl,rfl,al,l,_,rfl,hTm,fun t1 ht1=>?_⟩
    walk_at "nw"
    refine ⟨_,rfl,A.p,C,A.dx,_,.ref A.ll,rfl,O.get 1,R.c,R.nL,rfl,_,rfl,?_⟩
    refine Ln O 4 rfl (lO (by omega)) fun H6 O=>?_
    refine ⟨_,rfl,A.p,C,A.dx,_,.ref A.lo,rfl,O.get 1,R.c,R.nO,rfl,.inl ⟨rfl,_,O.sq 6⟩,_,rfl,_,rfl,_,rfl,_,rfl,szl,fun t2 ht2=>?_⟩
    walk_at "nw"
    refine ⟨A.lo,_,_,rfl,rfl,O.get 7,aL (by omega),?_⟩
    generalize hE:upd _ _ _=Hn
    have O:=Ow.sI O 7 rfl hE rfl
    clear hE
    refine ⟨_,rfl,A.p,A.dx,_,rfl,O.get 2,rfl,_,rfl,_,rfl,al,l,m,rfl,hT.mo O.same,fun t3 ht3=>?_⟩
    walk_at "nw"
    refine ⟨_,rfl,A,day,us.set n (.ref t1),ns.map V.str,.ref t3,.str z,rfl,O.get 3,O.get 6,O.get 7,by rw [List.length_set];omega,by rw [List.length_map];exact nl,O.ne 3 6,O.ne 3 7,O.ne 7 6,?_⟩
    have O:=(O.Vu 6 rfl (o':=.lst (us.set n (.ref t1)++[.ref t3])) rfl).Vu 7 rfl (o':=.lst (ns.map V.str++[.str z])) rfl
    rw [List.length_set]
    refine q hxy h1 h2 h3 t1 t2 t3 _ ?_
    simp only [RL,List.map_append,List.map_cons,List.map_nil];exact O
end
abbrev cu:Stmt:=top 56
theorem d9:aH ["cell","xs","many","spots","below","k"] ["cell"] (ao cu):=⟨rfl,rfl,rfl,by decide +kernel,rfl,by decide +kernel,by decide +kernel⟩
def wO (T:eH):Sp:=fun vs H Q _=>∃ (c:Int),vs=[.int c]∧TabsOk T H∧pR T H (fun xs=>∃ r,xs=r.map V.int∧Rv.gH r∧1≤r.length∧r.length≤12) Q
theorem V7 {n:Nat} {w:Int} (h0:0≤w) (h1:w<2):∃ s:Int,atI [V.int 1,V.int ((n:Int) - 1)] w=some (V.int s)∧s=(if w=0 then 1 else (n:Int) - 1):=by
  rcases (by omega:w=0∨w=1) with e | e <;> subst e <;> exact ⟨_,rfl,rfl⟩
theorem J8 {f f1:Addr} {fd fd1:FuncData} (D:Df K mg "_law_river" cu ["cell"] f fd) (B:Blt mg)
    (aU:Df K mg "_law_draws" cB ["cell","many"] f1 fd1) (ig:bN P w K mg base CX0 2 f1 fd1 ["cell","many"] (zP T)):bN P w K mg base CX0 3 f fd ["cell"] (wO T):=by
  refine D.F.ok d9 (fun vs H Q E h=>?_) (fun cdv A outer s H vs Q E hr h=>?_)
  · obtain ⟨_,rfl,_⟩:=h;rfl
  · obtain ⟨c,rfl,tk,q⟩:=h
    refine ⟨_,(aB (bh (i:=1) d9.nd rfl (Or.inr rfl) (aF ig (hr.mono (by decide)) rfl aU.m aU.F.kp aU.b .nil bB (ak (bA oN (pv 0) aD) (ak aD au))))
      (aB (bh (i:=2) d9.nd rfl (Or.inr rfl) (bA iW aD (bA gJ (pv 0) aD)))
      (aB (gO (i:=3) (ao cu) rfl ["cell","xs","many","spots","below","k"] rfl ["k","many","xs"] [none,some 2,some 1] (by decide +kernel) (by decide +kernel) (by decide +kernel) rfl d9.nd rfl rfl (j4 rfl B.range (ak (pv 2) au)) (fun _ _ _=>(aM (i:=0) (show (["k","many","xs"]:List Str).Nodup by decide +kernel) rfl (Or.inl rfl))) (fun _ _ _=>gM) (fun _ _ _=>(bA gJ (bA iW (bx (gF (K:=K) rfl) (pv 2) aD (fun _ _=>rfl)) (bA oM (pv 0) (bx (gF (K:=K) rfl) (dY (ak aD (ak (bA lF (pv 1) aD) au))) (bA gJ (bx (gF (K:=K) rfl) (pv 2) aD (fun _ _=>rfl)) aD) (fun _ _=>rfl)))) (pv 1))) rfl)
      (aB (gO (i:=4) (ao cu) rfl ["cell","xs","many","spots","below","k"] rfl ["k"] [none] (by decide +kernel) (by decide +kernel) (by decide +kernel) rfl d9.nd rfl rfl (j4 rfl B.range (ak (pv 2) au)) (fun _ _ _=>(aM (i:=0) (show (["k"]:List Str).Nodup by decide +kernel) rfl (Or.inl rfl))) (fun _ _ _=>gM) (fun _ _ _=>(rB lU aD)) rfl)
      (aB (jP PassesOwn.never rfl (Ah rfl B.range (ak aD (ak (pv 2) au))) (aM (i:=5) d9.nd rfl (Or.inl rfl))
        (aC (iV (bY vC (bA gJ (bx aJ (pv 1) (pv 5) (fun _ _=>rfl)) aD) aD (cL _))
          (aC (qe (bx aJ (pv 3) (bA gJ (bA oN (bx aJ (pv 1) (pv 5) (fun _ _=>rfl)) aD) (pv 5)) (fun _ _=>rfl)) (Ai (pv 4) (bx aJ (pv 3) (pv 5) (fun _ _=>rfl)) set_list)))
          cG)))
      (aC (bw (pv 4)))))))),?_⟩
    have O:=Ow.refl tk
    have c0:=Int.emod_nonneg c (show (12:Int)≠0 by decide)
    have c1:=Int.emod_lt_of_pos c (show (0:Int)<12 by decide)
    refine ⟨_,rfl,_,_,rfl,rfl,⟨by decide,by decide⟩,_,14,rfl,by omega,tk,O.yQ fun lx H2 xs O e=>?_⟩
    subst e
    refine ⟨_,rfl,_,_,rfl,rfl,(by show (0:Int)<12;decide),_,_,rfl,rfl,?_⟩
    dsimp only
    obtain ⟨n,hn⟩:∃ n:Nat,1 + c % 12=(n:Int):=⟨(1 + c % 12).toNat,by omega⟩
    rw [hn]
    have n1:1≤n:=by omega
    have n12:n≤12:=by omega
    have hx14:=pq (c / 12) 14
    have g12:(dvs (c / 12) 14)[12]?=some (dv (c / 12) 12):=IV (by decide)
    have g13:(dvs (c / 12) 14)[13]?=some (dv (c / 12) 13):=IV (by decide)
    have gk:∀ k:Nat,k<14→(dvs (c / 12) 14)[k]?=some (dv (c / 12) (k:Int)):=fun k hk=>IV hk
    generalize dvs (c / 12) 14=ys at O hx14 g12 g13 gk
    have w0:=Int.emod_nonneg (dv (c / 12) 13) (show (2:Int)≠0 by decide)
    have w1:=Int.emod_lt_of_pos (dv (c / 12) 13) (show (0:Int)<2 by decide)
    obtain ⟨st,hst,est⟩:=V7 (n:=n) w0 w1
    have hst2:st=1∨st=(n:Int) - 1:=by rw [est];split <;> simp
    have nn:(0:Int)<(n:Int):=by omega
    generalize dv (c / 12) 12=x1 at g12
    generalize dv (c / 12) 13=x2 at g13 hst w0 w1
    refine ⟨_,rfl,n,rfl,by omega,by omega,fun acc hacc=>?_⟩
    refine kZ (fun i τ H'=>Iv (∃ (v0:Option V),τ=[v0,some (.int (n:Int)),some (.ref lx)]∧Ow T H H' [(acc,.lst ((Rv.spots n x1 st i).map V.int)),(lx,.lst (ys.map V.int))])) ⟨trivial,none,rfl,O.mk' hacc rfl⟩ ?_ ?_
    · rintro i τ H3 hi ⟨-,v0,rfl,O⟩
      have hi:i<n:=by omega
      rw [show (0:Int) + (i:Int)=(i:Int) by omega]
      refine yX ?_
      refine ⟨_,rfl,lx,_,12,_,rfl,rfl,O.sq 1,aY (i:=12) g12,_,rfl,_,rfl,_,_,rfl,rfl,szl,fun l3 h3=>?_⟩
      walk_at "nw"
      refine ⟨_,rfl,lx,_,13,_,rfl,rfl,O.sq 2,aY (i:=13) g13,_,_,rfl,rfl,(by show (0:Int)<2;decide),l3,_,_,_,rfl,rfl,O.sq 0,hst,_,_,rfl,rfl,.inl ⟨by omega,by omega⟩,_,_,rfl,rfl,_,rfl,_,_,rfl,rfl,nn,?_⟩
      have O:=O.tail
      refine ⟨_,O.get 0,aL (by rw [List.length_map,Rv.zF];omega),?_⟩
      walk_at "pt"
      refine ⟨trivial,_,rfl,?_⟩
      rw [Rv.yq,List.map_append]
      rw [Int.mul_comm (i:Int) st] at O
      exact O
    rintro τ H3 ⟨-,v0,rfl,O⟩
    rw [Int.toNat_natCast] at O
    refine ⟨_,rfl,n,rfl,by omega,by omega,fun lb hlb=>?_⟩
    refine kZ (fun i τ H'=>Iv (∃ (v0:Option V),τ=[v0]∧Ow T H H' [(lb,.lst ((List.replicate i (-1:Int)).map V.int)),(acc,.lst ((Rv.spots n x1 st n).map V.int)),(lx,.lst (ys.map V.int))])) ⟨trivial,none,rfl,O.mk' hlb rfl⟩ ?_ ?_
    · rintro i τ H3 hi ⟨-,v0,rfl,O⟩
      refine yX ?_
      refine ⟨1,rfl,_,O.get 0,aL (by rw [List.length_map,List.length_replicate];omega),?_⟩
      walk_at "pt"
      refine ⟨trivial,_,rfl,?_⟩
      rw [List.replicate_succ',List.map_append];exact O
    rintro τ H4 ⟨-,v0,rfl,O⟩
    rw [Int.toNat_natCast] at O
    refine ⟨_,rfl,1,(n:Int),rfl,⟨by omega,by omega,by omega,by omega⟩,?_⟩
    rw [show ((n:Int) - 1).toNat=n - 1 by omega]
    refine ux (n:=n - 1) (fun i σ H'=>Iv (∃ (v5:Option V) (b:List Int),σ=[some (.int c),some (.ref lx),some (.int (n:Int)),some (.ref acc),some (.ref lb),v5]∧Rv.Lnk n (Rv.spot n x1 st) (i + 1) b ∧
      Ow T H H' [(lb,.lst (b.map V.int)),(acc,.lst ((Rv.spots n x1 st n).map V.int)),(lx,.lst (ys.map V.int))])) ⟨trivial,none,_,rfl,Rv.Lnk.start _ _,O⟩ ?_ ?_
    · rintro i σ H3 hi ⟨-,v5,b,rfl,L,O⟩
      rw [show (1:Int) + (i:Int)=((i + 1:Nat):Int) by omega]
      have gz:=gk (i + 1) (by omega)
      generalize dv (c / 12) ((i + 1:Nat):Int)=z at gz
      refine ⟨_,rfl,_,rfl,lx,_,_,_,rfl,rfl,O.sq 2,aY gz,_,_,rfl,rfl,(by show (0:Int)<9;decide),rfl,_,rfl,ifN (ifI (fun hc=>?_) fun hc=>?_)⟩
      · exact ⟨trivial,_,b,rfl,L.skip,O⟩
      · have m0:=Int.emod_nonneg (z / 9) (show ((i + 1:Nat):Int)≠0 by omega)
        have m1:=Int.emod_lt_of_pos (z / 9) (show (0:Int)<((i + 1:Nat):Int) by omega)
        obtain ⟨j,hj⟩:∃ j:Nat,z / 9 % ((i + 1:Nat):Int)=(j:Int):=⟨(z / 9 % ((i + 1:Nat):Int)).toNat,by omega⟩
        have hjk:j<i + 1:=by omega
        refine ⟨_,rfl,_,rfl,_,rfl,lx,_,_,_,rfl,rfl,O.sq 2,aY gz,_,_,rfl,rfl,⟨by decide,by decide⟩,_,rfl,_,_,rfl,rfl,(by show (0:Int)<((i + 1:Nat):Int);omega),?_⟩
        dsimp only
        rw [hj]
        refine ⟨acc,_,_,_,rfl,rfl,O.sq 1,aY (Rv.wI (by omega)),?_⟩
        have s0:=Rv.zG (x:=x1) (s:=st) nn (i + 1)
        have s1:=Rv.zH (x:=x1) (s:=st) nn (i + 1)
        refine ⟨_,rfl,_,rfl,_,rfl,acc,_,_,_,rfl,rfl,O.sq 1,aY (Rv.wI (by omega)),lb,_,_,_,rfl,rfl,O.get 0,ZR s0 (by rw [List.length_map,L.len];exact s1),?_⟩
        walk_at "pt"
        refine ⟨trivial,_,_,rfl,L.turn (by omega) hjk s0,?_⟩
        rw [List.map_set];exact O
    · rintro σ H3 ⟨-,v5,b,rfl,L,O⟩
      refine ⟨_,rfl,O.ret 0 rfl q ⟨b,rfl,L.Zw (Rv.zG nn) (Rv.zH nn) (fun j k hj hk h=>Rv.JT nn hst2 (by omega) (by omega) h) n1,by rw [L.len];exact n1,by rw [L.len];exact n12⟩⟩
abbrev fL:Stmt:=top 57
theorem oE:aH ["below","reach","found"] ["below","reach"] (ao fL):=⟨rfl,rfl,rfl,by decide +kernel,rfl,by decide +kernel,by decide +kernel⟩
theorem TJ {f:Addr} {fd:FuncData} (D:Df K mg "_law_way" fL ["below","reach"] f fd):bN P w K mg base CX0 1 f fd ["below","reach"] (pY K):=by
  refine D.F.ok oE (fun vs H Q E h=>?_) (fun cdv A outer s H vs Q E hr h=>?_)
  · obtain ⟨a,r,p,rfl,_⟩:=h;rfl
  · obtain ⟨a,r,p,rfl,hS,hR,p0,p1,hn,q⟩:=h
    refine ⟨_,(aB (bh (i:=2) oE.nd rfl (Or.inl rfl) (dY (ak (pv 1) au)))
      (aB (qZ PassesOwn.never (bY vC (bx aJ (pv 0) (bx aJ (pv 2) (rB lU aD) (fun _ _=>rfl)) (fun _ _=>rfl)) (rB lU aD) (cL _))
        (aC (cj (nM PySem.F.plainAttrs_list PySem.F.slot_list_append PySem.F.type_list_append dG (pv 2) (ak (bx aJ (pv 0) (bx aJ (pv 2) (rB lU aD) (fun _ _=>rfl)) (fun _ _=>rfl)) au)))))
      (aC (bw (pv 2))))),?_⟩
    refine ⟨_,rfl,(by show 1≤sizeLine;decide),fun lw hlw=>?_⟩
    refine ⟨fun m σ H'=>∃ (pre:List Int) (z:Int),σ=[some (.ref a),some (.int p),some (.ref lw)]∧Same H H'∧H' lw=some (.lst ((pre++[z]).map V.int))∧0≤z∧z<r.length∧pre++Rv.walk r z=Rv.walk r p∧m=Rv.mea r z,
      ⟨_,[],p,rfl,(Same.refl H).upd hlw,bf,p0,p1,rfl,rfl⟩,?_⟩
    rintro m σ H2 ⟨pre,z,rfl,s2,h2,z0,z1,e,rfl⟩
    have g:=Rv.iZ z0 z1
    have hlen:pre.length + (Rv.walk r z).length≤r.length + 1:=by
      have:=Rv.wj r p
      rw [← e,List.length_append] at this;exact this
    refine ⟨_,rfl,_,rfl,_,rfl,lw,_,_,_,rfl,rfl,SqL.of h2,rZ pre z,a,_,_,_,rfl,rfl,s2.seq hS,jM z0 g,1,rfl,rfl,_,rfl,?_⟩
    rcases hR.step z0 z1 with hm | ⟨n0,n1⟩
    · rw [hm]
      refine Ua rfl ?_
      refine ⟨_,rfl,q lw H2 _ s2 hlw h2 ?_⟩
      have ew:Rv.walk r z=[z]:=by rw [Rv.dI hR z0 z1,hm,Rv.jF]
      rw [← e,ew]
    · have hd:(!decide (V.int (Rv.nxt r z)=V.int (-1)))=true:=by
        have:¬ Rv.nxt r z=-1:=by omega
        simp [this]
      rw [hd]
      refine yG ?_
      refine ⟨fun σ' H'=>∃ m',m'<Rv.mea r z∧∃ (pre:List Int) (z:Int),σ'=[some (.ref a),some (.int p),some (.ref lw)]∧Same H H'∧H' lw=some (.lst ((pre++[z]).map V.int))∧0≤z∧z<r.length∧pre++Rv.walk r z=Rv.walk r p∧m'=Rv.mea r z,fun _ _ x=>x,?_⟩
      refine ⟨_,rfl,.inl ⟨rfl,_,SqL.of h2⟩,_,rfl,_,rfl,_,rfl,lw,_,_,_,rfl,rfl,SqL.of h2,rZ pre z,a,_,_,_,rfl,rfl,s2.seq hS,jM z0 g,lw,_,_,rfl,rfl,h2,aL ?_,?_⟩
      · rw [List.length_map,List.length_append]
        have:1≤(Rv.walk r z).length:=by rw [Rv.dI hR z0 z1];exact Nat.succ_le_succ (Nat.zero_le _)
        show pre.length + 1≤_
        omega
      · refine ⟨_,Rv.Lr hR z0 z1,pre++[z],Rv.nxt r z,rfl,s2.upd hlw,?_,n0,n1,?_,rfl⟩
        · rw [bf,List.map_append (l₁:=pre++[z])];rfl
        · rw [List.append_assoc]
          show pre++(z :: Rv.walk r (Rv.nxt r z))=_
          rw [← Rv.dI hR z0 z1];exact e
theorem jh {c:Int} {i:Nat} {a:Nat→Int}:∀ n,i<n→Tn.iu n (fun k=>a k + if k=i then c else 0)=Tn.iu n a + c
  | 0,h=>absurd h (Nat.not_lt_zero _)
  | n + 1,h=>by
    show Tn.iu n (fun k=>a k + if k=i then c else 0) + (a n + if n=i then c else 0)=Tn.iu n a + a n + c
    by_cases e:n=i
    · rw [if_pos e]
      have:Tn.iu n (fun k=>a k + if k=i then c else 0)=Tn.iu n a:=Tn.bJ fun k hk=>by rw [if_neg (by omega),Int.add_zero]
      rw [this];omega
    · rw [if_neg e,jh n (by omega)];omega
def m6 (n i:Nat) (x:Nat→Int):Nat→Int:=fun k=>if k=i then x i + x n else x k
theorem oZ {n i:Nat} (hi:i<n) {W W':Nat→List Int} {x:Nat→Int} (hW:∀ k,k<n→W k=W' k) (hWn:W' n=W' i) (r:Int):Tn.hold n W (m6 n i x) r=Tn.hold (n + 1) W' x r:=by
  show Tn.iu n _=Tn.iu n _ + (if r∈W' n then x n else 0)
  rw [← jh n hi]
  refine Tn.bJ fun k hk=>?_
  rw [hW k hk]
  unfold m6
  by_cases e:k=i
  · subst e
    rw [if_pos rfl,if_pos rfl,hWn]
    by_cases hr:r∈W' k
    · rw [if_pos hr,if_pos hr,if_pos hr]
    · rw [if_neg hr,if_neg hr,if_neg hr];rfl
  · rw [if_neg e,if_neg e,Int.add_zero]
theorem parted {n i:Nat} (hi:i<n) {F:Int→Int} {W W':Nat→List Int} {day day' want want' x:Nat→Int} (hW:∀ k,k<n→W k=W' k) (hWn:W' n=W' i) (hd:∀ k,k<n→day k=day' k) (hdn:day' n=day' i)
    (hw:∀ k,k<n→k≠i→want k=want' k) (hwi:want i=want' i + want' n) (alone:∀ k,k<n→k≠i→day k≠day i) (f:Tn.Fit (n + 1) F W' want' x) (s:Tn.m7 (n + 1) F W' day' want' x) :
    Tn.Fit n F W want (m6 n i x)∧Tn.m7 n F W day want (m6 n i x):=by
  have xi:m6 n i x i=x i + x n:=if_pos rfl
  have xk:∀ k,k≠i→m6 n i x k=x k:=fun k h=>if_neg h
  have ni:=f.nn i (by omega)
  have nn:=f.nn n (by omega)
  have li:=f.le i (by omega)
  have ln:=f.le n (by omega)
  refine ⟨⟨fun k hk=>?_,fun k hk=>?_,fun r ⟨k,hk,hr⟩=>?_⟩,fun k hk hs=>?_⟩
  · by_cases e:k=i
    · rw [e,xi];omega
    · rw [xk k e];exact f.nn k (by omega)
  · by_cases e:k=i
    · rw [e,xi,hwi];omega
    · rw [xk k e,hw k hk e];exact f.le k (by omega)
  · rw [oZ hi hW hWn]
    exact f.fits r ⟨k,by omega,hW k hk ▸ hr⟩
  · -- who is ahead of whom: by the day alone
    have others:∀ {kk:Nat} {r:Int},day' kk=day k→(∀ j,j<n + 1→r∈W' j→0<x j→Tn.wg (day' j) (x j) j (day' kk) (x kk + 1) kk)→∀ j,j<n→j≠k→(day j≠day k∨(j≠i∧k≠i∧kk=k))→r∈W j→0<m6 n i x j→Tn.wg (day j) (m6 n i x j) j (day k) (m6 n i x k + 1) k:=by
      intro kk r hkk h j hj hjk hc hr hp
      by_cases e:j=i
      · subst e
        have hne:day j≠day k:=hc.resolve_right fun z=>z.1 rfl
        rw [xi] at hp
        have hlt:day j<day k:=by
          by_cases h0:0<x j
          · have:=h j (by omega) (hW j hj ▸ hr) h0
            rw [hkk,← hd j hj] at this
            rcases this with a | ⟨a,_⟩
            · exact a
            · exact absurd a hne
          · have:=h n (by omega) (by rw [hWn];exact hW j hj ▸ hr) (by omega)
            rw [hkk,hdn,← hd j hj] at this
            rcases this with a | ⟨a,_⟩
            · exact a
            · exact absurd a hne
        exact .inl hlt
      · rw [xk j e] at hp ⊢
        have:=h j (by omega) (hW j hj ▸ hr) hp
        rw [hkk,← hd j hj] at this
        rcases hc with hne | ⟨_,hki,hk2⟩
        · rcases this with a | ⟨a,_⟩
          · exact .inl a
          · exact absurd a hne
        · subst hk2
          rw [xk kk hki];exact this
    have self:∀ j,Tn.wg (day j) (m6 n i x j) j (day j) (m6 n i x j + 1) j:=fun j=>.inr ⟨rfl,.inl (by omega)⟩
    by_cases e:k=i
    · subst e
      rw [xi,hwi] at hs
      have hex:∃ kk,(kk=k∨kk=n)∧x kk<want' kk:=by
        by_cases h:x k<want' k
        · exact ⟨k,.inl rfl,h⟩
        · exact ⟨n,.inr rfl,by omega⟩
      obtain ⟨kk,hkk,hlt⟩:=hex
      have hkn:kk<n + 1:=by rcases hkk with e | e <;> omega
      have hdk:day' kk=day k:=by rcases hkk with e | e <;> rw [e] <;> first | exact (hd k hk).symm | rw [hdn,hd k hk]
      have hWk:W' kk=W k:=by rcases hkk with e | e <;> rw [e] <;> first | exact (hW k hk).symm | rw [hWn,hW k hk]
      obtain ⟨r,hr,hh,ha⟩:=s kk hkn hlt
      refine ⟨r,hWk ▸ hr,by rw [oZ hi hW hWn];exact hh,fun j hj hrj hp=>?_⟩
      by_cases ej:j=k
      · rw [ej];exact self k
      · exact others hdk ha j hj ej (.inl (alone j hj ej)) hrj hp
    · rw [xk k e,hw k hk e] at hs
      obtain ⟨r,hr,hh,ha⟩:=s k (by omega) hs
      refine ⟨r,hW k hk ▸ hr,by rw [oZ hi hW hWn];exact hh,fun j hj hrj hp=>?_⟩
      by_cases ej:j=k
      · rw [ej];exact self k
      · refine others (hd k hk).symm ha j hj ej ?_ hrj hp
        by_cases eji:j=i
        · left;rw [eji];exact fun z=>alone k hk e z.symm
        · exact .inr ⟨eji,e,rfl⟩
def Bg (ls:List Lic) (n d:Int):Nat→List Int
  | 0=>[]
  | i + 1=>Bg ls n d i++(match ls[i]? with | some l=>if (i:Int)≠n∧l.day=d∧0<l.most then [(i:Int)] else [] | none=>[])
theorem ud {ls:List Lic} {n d k:Int}:∀ i,k∈Bg ls n d i↔∃ j:Nat,j<i∧k=(j:Int)∧(j:Int)≠n∧∃ l,ls[j]?=some l∧l.day=d∧0<l.most
  | 0=>⟨(fun h=>nomatch h),fun ⟨_,h,_⟩=>absurd h (Nat.not_lt_zero _)⟩
  | i + 1=>by
    unfold Bg
    rw [List.mem_append,ud i]
    constructor
    · rintro (⟨j,h1,h2⟩ | h)
      · exact ⟨j,by omega,h2⟩
      · split at h
        next l hl =>
          split at h
          next hc=>exact ⟨i,by omega,List.mem_singleton.mp h,hc.1,l,hl,hc.2⟩
          next=>cases h
        next=>cases h
    · rintro ⟨j,h1,rfl,h3,l,h4,h5⟩
      by_cases e:j=i
      · subst e
        right
        rw [h4]
        simp only
        rw [if_pos ⟨h3,h5⟩];exact List.mem_singleton.mpr rfl
      · exact .inl ⟨j,by omega,rfl,h3,l,h4,h5⟩
theorem uc {ls:List Lic} {n:Nat} {l:Lic} (hl:ls[n]?=some l) (hm:0<l.most):∀ i,Bg ls n l.day i=[]→jg ls l.day i=if n<i then [(n:Int)] else []
  | 0,_=>by rw [if_neg (Nat.not_lt_zero _)];rfl
  | i + 1,h=>by
    unfold Bg at h
    obtain ⟨h1,h2⟩:=List.append_eq_nil_iff.mp h
    have ih:=uc hl hm i h1
    unfold jg
    rw [ih]
    by_cases e:n=i
    · subst e
      rw [hl,if_neg (Nat.lt_irrefl _),if_pos (Nat.lt_succ_self _)]
      simp [hm]
    · have hif:(if n<i then [(n:Int)] else [])=if n<i + 1 then [(n:Int)] else []:=by
        by_cases h3:n<i
        · rw [if_pos h3,if_pos (by omega)]
        · rw [if_neg h3,if_neg (by omega)]
      cases hl':ls[i]? with
      | none=>simp only [List.append_nil];exact hif
      | some l' =>
        rw [hl'] at h2
        simp only at h2 ⊢
        have hc:¬ (l'.day=l.day∧0<l'.most):=fun hc=>by
          rw [if_pos ⟨fun z=>e (by omega),hc⟩] at h2
          cases h2
        rw [if_neg hc,List.append_nil];exact hif
theorem getD_in {ns:List Int} {j:Nat} (h:j<ns.length):ns.getD j 0∈ns:=by
  rw [List.getD_eq_getElem?_getD,List.getElem?_eq_getElem h];exact List.getElem_mem h
abbrev cg:Stmt:=top 58
theorem pP:aH ["number","kind"] ["number","kind"] (ao cg):=⟨rfl,rfl,rfl,by decide +kernel,rfl,by decide +kernel,by decide +kernel⟩
def zT (T:eH):Sp:=fun vs H Q _=>∃ (n kd:Int),vs=[.int n,.int kd]∧TabsOk T H∧∀ (z:Int) (H':Hp),bF T H H'→0≤z→z≤1000000000000→Q (.int z) H'
theorem Wo {f:Addr} {fd:FuncData} (D:Df K mg "_law_amount" cg ["number","kind"] f fd):bN P w K mg base CX0 1 f fd ["number","kind"] (zT T):=by
  refine D.F.ok pP (fun vs H Q E h=>?_) (fun cdv A outer s H vs Q E hr h=>?_)
  · obtain ⟨_,_,rfl,_⟩:=h;rfl
  · obtain ⟨n,kd,rfl,tk,q⟩:=h
    have O:=Ow.refl tk
    refine ⟨_,(aC (bw (bx aJ (dY (ak (bA gJ (pv 0) aD) (ak (bA gJ (bA oM (pv 0) aD) (bA iW (bA Wc aD aD) aD)) au))) (bA gJ (pv 1) aD) (fun _ _=>rfl)))),?_⟩
    refine ⟨_,rfl,_,_,rfl,rfl,(by show (0:Int)<10;decide),_,rfl,_,_,rfl,rfl,.inr ⟨by decide,by decide⟩,_,_,rfl,rfl,⟨by decide,by decide,by decide⟩,_,_,rfl,rfl,_,_,rfl,rfl,(by show (0:Int)<10 ^ 12 + 1;decide),szl,fun lm hlm=>?_⟩
    walk_at "nw"
    have k0:=Int.emod_nonneg kd (show (2:Int)≠0 by decide)
    have k1:=Int.emod_lt_of_pos kd (show (0:Int)<2 by decide)
    have u0:=Int.emod_nonneg n (show (10:Int)≠0 by decide)
    have u1:=Int.emod_lt_of_pos n (show (0:Int)<10 by decide)
    have w0:=Int.emod_nonneg (n * 80021) (show (1000000000001:Int)≠0 by decide)
    have w1:=Int.emod_lt_of_pos (n * 80021) (show (0:Int)<1000000000001 by decide)
    refine ⟨_,rfl,_,_,rfl,rfl,(by show (0:Int)<2;decide),?_⟩
    dsimp only at O ⊢
    rw [show (10:Int) ^ (12:Int).toNat + 1=1000000000001 by decide] at O
    refine ⟨lm,_,_,_,rfl,rfl,O.sq 0,eY (ns:=[n % 10,n * 80021 % 1000000000001]) k0 k1,?_⟩
    have hin:=getD_in (ns:=[n % 10,n * 80021 % 1000000000001]) (j:=(kd % 2).toNat) (by show _<2;omega)
    simp only [List.mem_cons,List.not_mem_nil,or_false] at hin
    refine q _ _ O.same ?_ ?_ <;> rcases hin with e | e <;> rw [e] <;> omega
abbrev dw:Stmt:=top 60
theorem jH:aH ["call","most","piece","number","least","there"] ["call","most","piece","number"] (ao dw):=⟨rfl,rfl,rfl,by decide +kernel,rfl,by decide +kernel,by decide +kernel⟩
def wN:Sp:=fun vs H Q _=>∃ (c m p n:Int),vs=[.int c,.int m,.int p,.int n]∧0≤c∧1≤p∧p<m∧∀ (t:Addr) (a b:Int),H t=none→min a (m - p) + min b p=min c m→0≤a→0≤b→Q (.ref t) (upd H t (.tup [.int a,.int b]))
theorem J7 {f:Addr} {fd:FuncData} (D:Df K mg "_law_split" dw ["call","most","piece","number"] f fd) (B:Blt mg):bN P w K mg base CX0 1 f fd ["call","most","piece","number"] wN:=by
  refine D.F.ok jH (fun vs H Q E h=>?_) (fun cdv A outer s H vs Q E hr h=>?_)
  · obtain ⟨_,_,_,_,rfl,_⟩:=h;rfl
  · obtain ⟨c,m,p,n,rfl,c0,p1,pm,q⟩:=h
    refine ⟨_,(aB (iV (bY J2 (pv 0) (pv 1) (cL _))
        (aC (bw (j5 (ak (pv 0) (ak (pv 0) au)))))
        cG)
      (aB (bh (i:=4) jH.nd rfl (Or.inl rfl) (aK (pB rfl) rfl B.max PyProof.Rows.boot_max (ak aD (ak (bA lF (pv 0) (bA lF (pv 1) (pv 2))) au))))
      (aB (bh (i:=5) jH.nd rfl (Or.inl rfl) (bA iW (pv 4) (bA gJ (pv 3) (bA iW (bA lF (aK (uD rfl) rfl B.min PyProof.Rows.boot_min (ak (pv 2) (ak (pv 0) au))) (pv 4)) aD))))
      (aC (bw (j5 (ak (bA lF (pv 0) (pv 5)) (ak (pv 5) au)))))))),?_⟩
    refine ⟨_,rfl,_,rfl,_,_,rfl,rfl,_,rfl,ifD (fun h=>?_) (fun h=>?_)⟩
    · exact ⟨_,rfl,_,rfl,szl,fun t ht=>q t c c ht (by omega) c0 c0⟩
    have hpos:0<(if c<p then c else p) - (if c - (m - p) > 0 then c - (m - p) else 0) + 1:=by split <;> split <;> omega
    have b0:=Int.emod_nonneg n (show (if c<p then c else p) - (if c - (m - p) > 0 then c - (m - p) else 0) + 1≠0 by omega)
    have b1:=Int.emod_lt_of_pos n hpos
    refine ⟨_,rfl,_,rfl,_,rfl,_,_,rfl,rfl,_,_,rfl,rfl,_,_,rfl,?_⟩
    refine ⟨_,rfl,_,rfl,_,rfl,_,rfl,_,_,rfl,_,rfl,_,_,rfl,rfl,_,_,rfl,rfl,_,_,rfl,rfl,hpos,_,_,rfl,rfl,?_⟩
    dsimp only
    have hl:(if c - (m - p) > 0 then c - (m - p) else 0)≤(if c<p then c else p):=by split <;> split <;> omega
    have h1:c - (m - p)≤(if c - (m - p) > 0 then c - (m - p) else 0)∧0≤(if c - (m - p) > 0 then c - (m - p) else 0):=by split <;> omega
    have h2:(if c<p then c else p)≤c∧(if c<p then c else p)≤p:=by split <;> omega
    generalize (if c - (m - p) > 0 then c - (m - p) else 0)=le at hl h1 b0 b1
    generalize (if c<p then c else p)=mi at hl h2 b0 b1
    generalize n % (mi - le + 1)=z at b0 b1
    exact ⟨_,rfl,_,rfl,_,_,rfl,rfl,_,rfl,szl,fun t ht=>q t (c - (le + z)) (le + z) ht (by omega) (by omega) (by omega)⟩
theorem aName:qI ("a":Str):=⟨by decide,by decide,by decide⟩
theorem bName:qI ("b":Str):=⟨by decide,by decide,by decide⟩
abbrev dN:Stmt:=top 59
theorem ji:aH ["one","xs","below","least","start","far","most"] ["one","xs","below","least"] (ao dN):=⟨rfl,rfl,rfl,by decide +kernel,rfl,by decide +kernel,by decide +kernel⟩
def wQ (K:PySem.W.Frag) (T:eH) (C:Addr):Sp:=fun vs H Q _=>∃ (A:Rs) (H0:Hp) (B:List (Addr × HO)) (r:List Int) (day:Int) (us:List V) (ns:List Str) (ds:List V) (a lb:Addr) (ys:List Int) (least:Int),vs=[.ref A.p,.ref a,.ref lb,.int least] ∧
  Ow T H0 H (RL C A r day us ns ds++B)∧(a,HO.lst (ys.map V.int))∈B∧SqL K H0 lb (r.map V.int)∧ys.length=7∧Rv.gH r∧1≤r.length∧r.length≤12∧0≤day∧day≤1000000∧us.length<60∧ns.length≤900∧ds.length≤9000∧1≤least∧least≤2 ∧
  ∀ (t1 t2 t3:Addr) (H':Hp) (l:Lic) (cl:Int),Ow T H0 H' ((t3,.tup [.int l.most,.int cl]) :: (t2,.tup (Jc "a" l)) :: (t1,.tup (sG l)) :: (RL C A r day (us++[.ref t1]) (ns++[("a":Str)]) (ds++[.ref t2])++B))→yL r l→l.day=day→least≤l.most→0≤cl→Q (.ref t3) H'
section
variable {P:Program} {w:World} {K:PySem.W.Frag} {mg:Str→Option Value} {base:Heap} {T:eH} {C f0:Addr}
theorem J9 {f f1 f2 f3:Addr} {fd fd1 fd2 fd3:FuncData} (D:Df K mg "_law_file" dN ["one","xs","below","least"] f fd) (B:Blt mg) (R_Roll:Cl K mg "Roll" C f0 jZ)
    (iU:Df K mg "_law_way" fL ["below","reach"] f1 fd1) (yP:bN P w K mg base CX0 1 f1 fd1 ["below","reach"] (pY K))
    (aZ:Df K mg "_law_amount" cg ["number","kind"] f2 fd2) (iM:bN P w K mg base CX0 1 f2 fd2 ["number","kind"] (zT T))
    (fB:DmD K C "file" "Roll.file" dX ["self","holder","start","most","back"] f3 fd3) (pL:bN P w K mg base CX0 3 f3 fd3 ["self","holder","start","most","back"] (zO T C)):bN P w K mg base CX0 4 f fd ["one","xs","below","least"] (wQ K T C):=by
  refine D.F.ok ji (fun vs H Q E h=>?_) (fun cdv A outer s H vs Q E hr h=>?_)
  · obtain ⟨_,_,_,_,_,_,_,_,_,_,_,_,rfl,_⟩:=h;rfl
  · obtain ⟨A,H0,L,r,day,us,ns,ds,a,lb,ys,least,rfl,O,ma,hB,y7,hR,r1,r12,dy0,dy1,ul,nl,dl,le1,le2,q⟩:=h
    have hu:=hr.units
    have g:∀ k:Nat,k<7→ys[k]?=some (ys.getD k 0):=fun k hk=>cF (by omega)
    have hml:(r.map V.int).length=r.length:=List.length_map _
    have ha:∀ {H':Hp} (M:List (Addr × HO)) {us ds:List V} {ns:List Str},Ow T H0 H' (M++(RL C A r day us ns ds++L))→SqL K H' a (ys.map V.int):=fun {_} M {_ _ _} O=>SqL.of (O.at_ _ (List.mem_append_right _ (List.mem_append_right _ ma)))
    refine ⟨_,(aB (bh (i:=4) ji.nd rfl (Or.inl rfl) (bA gJ (bx aJ (pv 1) aD (fun _ _=>rfl)) (aK aG rfl B.len PySem.boot_len (ak (pv 2) au))))
      (aB (bh (i:=5) ji.nd rfl (Or.inl rfl) (jj jW (aF yP (hr.mono (by decide)) rfl iU.m iU.F.kp iU.b .nil bB (ak (pv 2) (ak (pv 4) au))) (jt aD) mX))
      (aB (bh (i:=6) ji.nd rfl (Or.inl rfl) (aK (pB rfl) rfl B.max PyProof.Rows.boot_max (ak (pv 3) (ak (aF iM (hr.mono (by decide)) rfl aZ.m aZ.F.kp aZ.b .nil bB (ak (bx aJ (pv 1) aD (fun _ _=>rfl)) (ak (bx aJ (pv 1) aD (fun _ _=>rfl)) au))) au))))
      (aB (iV (PW.pt (pw_and (bY (Lp hu) (pv 5) (dY au) (cL _)) (pw_and1 (bY pQ (bA gJ (bx aJ (pv 1) aD (fun _ _=>rfl)) aD) aD (cL _)))))
        (aC (cj (j6 (pv 0) R_Roll.c fB.m pL (hr.mono (by decide)) fB.b0 .nil bB (ak lE (ak (pv 4) (ak (pv 6) (ak (bx aJ (pv 5) (bA gJ (bx aJ (pv 1) aD (fun _ _=>rfl)) (aK aG rfl B.len PySem.boot_len (ak (pv 5) au))) (fun _ _=>rfl)) au)))))))
        (aC (cj (j6 (pv 0) R_Roll.c fB.m pL (hr.mono (by decide)) fB.b1 (.cons (show RelV .non Value.none from rfl) .nil) bB (ak lE (ak (pv 4) (ak (pv 6) au)))))))
      (aC (bw (j5 (ak (pv 6) (ak (aF iM (hr.mono (by decide)) rfl aZ.m aZ.F.kp aZ.b .nil bB (ak (bx aJ (pv 1) aD (fun _ _=>rfl)) (ak (bA oN (bx aJ (pv 1) aD (fun _ _=>rfl)) aD) au))) au))))))))),?_⟩
    have O:Ow T H0 H ([]++(RL C A r day us ns ds++L)):=O
    have st0:=Int.emod_nonneg (ys.getD 1 0) (show (r.length:Int)≠0 by omega)
    have st1:=Int.emod_lt_of_pos (ys.getD 1 0) (show (0:Int)<(r.length:Int) by omega)
    refine ⟨_,rfl,a,_,1,_,rfl,rfl,ha [] O,aY (i:=1) (g 1 (by decide)),_,rfl,lb,_,rfl,.inl (hB.mo O.same),_,_,rfl,rfl,(by rw [hml];omega),?_⟩
    rw [hml]
    dsimp only
    generalize ys.getD 1 0 % (r.length:Int)=st at st0 st1
    refine ⟨_,rfl,_,rfl,lb,r,st,rfl,hB.mo O.same,hR,st0,st1,by omega,O.got fun lw H3 xs O e=>?_⟩
    subst e
    refine ⟨1,rfl,lw,_,rfl,O.sq 0,fun lf hlf=>?_⟩
    walk_at "nw"
    rw [show uW ((Rv.walk r st).map V.int) (some 1) none=((Rv.walk r st).drop 1).map V.int from rR _ 1] at O
    have O:Ow T H0 _ ([(lf,.lst (((Rv.walk r st).drop 1).map V.int))]++(RL C A r day us ns ds++L)):=O.two
    refine ⟨_,rfl,_,rfl,a,_,2,_,rfl,rfl,ha [_] O,aY (i:=2) (g 2 (by decide)),_,rfl,a,_,3,_,rfl,rfl,ha [_] O,aY (i:=3) (g 3 (by decide)),_,_,rfl,O.same.t1,fun z H4 s4 z0 z1=>?_⟩
    have O:=O.mJ s4
    refine ⟨_,_,rfl,?_⟩
    have hm:least≤(if z > least then z else least)∧(if z > least then z else least)≤1000000000000:=by split <;> omega
    generalize (if z > least then z else least)=m at hm
    have hli:∀ bk:Int,(bk=-1∨bk∈(Rv.walk r st).drop 1)→yL r ⟨day,st,bk,m⟩:=fun bk h=>⟨⟨dy0,dy1,st0,st1,by show 0≤m;omega,hm.2⟩,h⟩
    have hm0:m≠0:=by omega
    refine ⟨_,rfl,szl,fun le hle=>?_⟩
    walk_at "nw"
    refine ⟨lf,le,(Rv.walk r st).drop 1,[],rfl,rfl,O.sq 1,O.sq 0,_,rfl,ifN (ifD (fun _=>?_) (fun hne=>?_))⟩
    · have O:=O.tail.tail
      refine ⟨_,rfl,A.p,A.dx,_,rfl,O.get 0,rfl,_,rfl,_,rfl,A,H0,_,r,day,us,ns,ds,"a",⟨day,st,-1,m⟩,.non,rfl,.inl ⟨rfl,rfl⟩,rfl,O,aName,hR,by omega,hli _ (.inl rfl),hm0,ul,nl,dl,fun t1 t2 H6 O=>?_⟩
      have O:Ow T H0 H6 ([(t2,.tup (Jc "a" ⟨day,st,-1,m⟩)),(t1,.tup (sG ⟨day,st,-1,m⟩))]++(RL C A r day (us++[.ref t1]) (ns++[("a":Str)]) (ds++[.ref t2])++L)):=O
      refine ⟨_,rfl,_,rfl,a,_,6,_,rfl,rfl,ha [_,_] O,aY (i:=6) (g 6 (by decide)),_,rfl,a,_,3,_,rfl,rfl,ha [_,_] O,aY (i:=3) (g 3 (by decide)),_,_,rfl,rfl,⟨by decide,by decide⟩,_,_,rfl,O.same.t1,fun cl H7 s7 c0 c1=>⟨szl,fun t3 ht3=>?_⟩⟩
      exact q t1 t2 t3 _ ⟨day,st,-1,m⟩ cl ((O.mJ s7).mk' ht3 rfl) (hli _ (.inl rfl)) rfl hm.1 c0
    · have O:Ow T H0 _ ([(lf,.lst (((Rv.walk r st).drop 1).map V.int))]++(RL C A r day us ns ds++L)):=O.tail
      refine ⟨_,rfl,a,_,4,_,rfl,rfl,ha [_] O,aY (i:=4) (g 4 (by decide)),_,_,rfl,rfl,(by show (0:Int)<3;decide),rfl,_,rfl,ifI (fun _=>?_) (fun _=>?_)⟩
      · have hml2:(((Rv.walk r st).drop 1).map V.int).length=((Rv.walk r st).drop 1).length:=List.length_map _
        have f1:1≤((Rv.walk r st).drop 1).length:=by
          cases e:(Rv.walk r st).drop 1 with
          | nil=>exact absurd e hne
          | cons _ _=>exact Nat.succ_le_succ (Nat.zero_le _)
        have j0:=Int.emod_nonneg (ys.getD 5 0) (show (((Rv.walk r st).drop 1).length:Int)≠0 by omega)
        have j1:=Int.emod_lt_of_pos (ys.getD 5 0) (show (0:Int)<(((Rv.walk r st).drop 1).length:Int) by omega)
        have hin:=getD_in (ns:=(Rv.walk r st).drop 1) (j:=(ys.getD 5 0 % (((Rv.walk r st).drop 1).length:Int)).toNat) (by omega)
        refine ⟨_,rfl,A.p,A.dx,_,rfl,O.get 1,rfl,_,rfl,_,rfl,_,rfl,_,rfl,a,_,5,_,rfl,rfl,ha [_] O,aY (i:=5) (g 5 (by decide)),_,rfl,lf,_,rfl,.inl (O.sq 0),_,_,rfl,rfl,(by show (0:Int)<((((Rv.walk r st).drop 1).map V.int).length:Int);omega),?_⟩
        dsimp only
        rw [hml2]
        refine ⟨lf,_,_,_,rfl,rfl,O.sq 0,eY (ns:=(Rv.walk r st).drop 1) j0 j1,?_⟩
        generalize ((Rv.walk r st).drop 1).getD (ys.getD 5 0 % (((Rv.walk r st).drop 1).length:Int)).toNat 0=bk at hin
        refine ⟨A,H0,_,r,day,us,ns,ds,"a",⟨day,st,bk,m⟩,.int bk,rfl,.inr rfl,rfl,O.tail,aName,hR,by omega,hli _ (.inr hin),hm0,ul,nl,dl,fun t1 t2 H6 O=>?_⟩
        have O:Ow T H0 H6 ([(t2,.tup (Jc "a" ⟨day,st,bk,m⟩)),(t1,.tup (sG ⟨day,st,bk,m⟩))]++(RL C A r day (us++[.ref t1]) (ns++[("a":Str)]) (ds++[.ref t2])++L)):=O
        refine ⟨_,rfl,_,rfl,a,_,6,_,rfl,rfl,ha [_,_] O,aY (i:=6) (g 6 (by decide)),_,rfl,a,_,3,_,rfl,rfl,ha [_,_] O,aY (i:=3) (g 3 (by decide)),_,_,rfl,rfl,⟨by decide,by decide⟩,_,_,rfl,O.same.t1,fun cl H7 s7 c0 c1=>⟨szl,fun t3 ht3=>?_⟩⟩
        exact q t1 t2 t3 _ ⟨day,st,bk,m⟩ cl ((O.mJ s7).mk' ht3 rfl) (hli _ (.inr hin)) rfl hm.1 c0
      · have O:=O.tail
        refine ⟨_,rfl,A.p,A.dx,_,rfl,O.get 0,rfl,_,rfl,_,rfl,A,H0,_,r,day,us,ns,ds,"a",⟨day,st,-1,m⟩,.non,rfl,.inl ⟨rfl,rfl⟩,rfl,O,aName,hR,by omega,hli _ (.inl rfl),hm0,ul,nl,dl,fun t1 t2 H6 O=>?_⟩
        have O:Ow T H0 H6 ([(t2,.tup (Jc "a" ⟨day,st,-1,m⟩)),(t1,.tup (sG ⟨day,st,-1,m⟩))]++(RL C A r day (us++[.ref t1]) (ns++[("a":Str)]) (ds++[.ref t2])++L)):=O
        refine ⟨_,rfl,_,rfl,a,_,6,_,rfl,rfl,ha [_,_] O,aY (i:=6) (g 6 (by decide)),_,rfl,a,_,3,_,rfl,rfl,ha [_,_] O,aY (i:=3) (g 3 (by decide)),_,_,rfl,rfl,⟨by decide,by decide⟩,_,_,rfl,O.same.t1,fun cl H7 s7 c0 c1=>⟨szl,fun t3 ht3=>?_⟩⟩
        exact q t1 t2 t3 _ ⟨day,st,-1,m⟩ cl ((O.mJ s7).mk' ht3 rfl) (hli _ (.inl rfl)) rfl hm.1 c0
end
theorem nY {ls:List Lic} {cs:List Int} {k:Nat} {l:Lic} {c:Int} (hl:ls[k]?=some l) (hc:cs[k]?=some c):Tn.fX (jx ls cs) k=min c l.most:=by
  unfold Tn.fX;rw [List.getD_eq_getElem?_getD,zf hl hc];rfl
def jl (xs:List Int) (n i:Nat):List Int:=(xs.take n).set i (xs.getD i 0 + xs.getD n 0)
theorem Wy {xs:List Int} {n i:Nat} (h:xs.length=n + 1):(jl xs n i).length=n:=by unfold jl;rw [List.length_set,List.length_take];omega
theorem Wz {xs:List Int} {n i:Nat} (hi:i<n) (h:xs.length=n + 1) {k:Nat} (hk:k<n):Tn.fX (jl xs n i) k=m6 n i (Tn.fX xs) k:=by
  unfold jl m6 Tn.fX
  rw [List.getD_eq_getElem?_getD,List.getElem?_set]
  by_cases e:i=k
  · subst e
    rw [if_pos rfl,if_pos rfl,if_pos (by rw [List.length_take];omega)];rfl
  · rw [if_neg e,if_neg (fun z=>e z.symm),List.getElem?_take,if_pos hk,← List.getD_eq_getElem?_getD]
theorem ZQ {xs:List Int} {n i:Nat} (hi:i<n) (h:xs.length=n + 1):xs.take i++[xs.getD i 0 + xs.getD n 0]++(xs.drop (i + 1)).take (n - (i + 1))=jl xs n i:=by
  unfold jl
  rw [List.set_eq_take_append_cons_drop,if_pos (by rw [List.length_take];omega),List.take_take,Nat.min_eq_left (by omega),List.drop_take,List.append_assoc];rfl
def Al (ls:List Lic) (i:Nat):Prop:=∀ (j:Nat) (l lS:Lic),j≠i→ls[j]?=some l→ls[i]?=some lS→l.day≠lS.day
theorem yK {r s:List Int} {ls:List Lic} {cs xs:List Int} {i:Nat} {l:Lic} {m c s0 s1:Int} (hl:ls[i]?=some l) (hc:cs[i]?=some c) (hlen:ls.length=cs.length) (hsum:min s0 (l.most - m) + min s1 m=min c l.most) (al:Al ls i)
    (D:Jw r s (ls.set i (wm l (l.most - m))++[wm l m]) (cs.set i s0++[s1]) xs):Jw r s ls cs (jl xs ls.length i):=by
  have hi:=(List.getElem?_eq_some_iff.mp hl).1
  have n2:(ls.set i (wm l (l.most - m))++[wm l m]).length=ls.length + 1:=by rw [List.length_append,List.length_set];rfl
  have a1:∀ k,k<ls.length→k≠i→(ls.set i (wm l (l.most - m))++[wm l m])[k]?=ls[k]?:=fun k hk e=>by rw [List.getElem?_append_left (by rw [List.length_set];exact hk),List.getElem?_set_ne (Ne.symm e)]
  have a2:(ls.set i (wm l (l.most - m))++[wm l m])[i]?=some (wm l (l.most - m)):=by rw [List.getElem?_append_left (by rw [List.length_set];exact hi),List.getElem?_set_self hi]
  have a3:(ls.set i (wm l (l.most - m))++[wm l m])[ls.length]?=some (wm l m):=by rw [List.getElem?_append_right (by rw [List.length_set];exact Nat.le_refl _),List.length_set,Nat.sub_self];rfl
  have b1:∀ k,k<ls.length→k≠i→(cs.set i s0++[s1])[k]?=cs[k]?:=fun k hk e=>by rw [List.getElem?_append_left (by rw [List.length_set];omega),List.getElem?_set_ne (Ne.symm e)]
  have b2:(cs.set i s0++[s1])[i]?=some s0:=by rw [List.getElem?_append_left (by rw [List.length_set];omega),List.getElem?_set_self (by omega)]
  have b3:(cs.set i s0++[s1])[ls.length]?=some s1:=by rw [hlen,List.getElem?_append_right (by rw [List.length_set];exact Nat.le_refl _),List.length_set,Nat.sub_self];rfl
  have xl:xs.length=ls.length + 1:=by rw [D.len,n2]
  have gl:∀ k,k<ls.length→∃ l',ls[k]?=some l':=fun k hk=>⟨_,List.getElem?_eq_getElem hk⟩
  have gc:∀ k,k<ls.length→∃ c',cs[k]?=some c':=fun k hk=>⟨_,List.getElem?_eq_getElem (by omega)⟩
  have f:=D.fit
  have sh:=D.shown
  rw [n2] at f sh
  generalize ls.set i (wm l (l.most - m))++[wm l m]=ls2 at a1 a2 a3 f sh
  generalize cs.set i s0++[s1]=cs2 at b1 b2 b3 f sh
  have P:=parted hi (W:=za r ls) (day:=qC ls) (want:=Tn.fX (jx ls cs)) (fun k hk=>?_) ?_ (fun k hk=>?_) ?_ (fun k hk e=>?_) ?_ (fun k hk e=>?_) f sh
  · refine ⟨Wy xl,P.1.yS (fun _ _=>rfl) (fun _ _=>rfl) (fun k hk=>(Wz hi xl hk).symm) (fun _ _=>rfl),P.2.yS (fun _ _=>rfl) (fun _ _=>rfl) (fun k hk=>(Wz hi xl hk).symm) (fun _ _=>rfl)⟩
  · by_cases e:k=i
    · rw [e,jU hl,jU a2];rfl
    · obtain ⟨l',hl'⟩:=gl k hk
      rw [jU hl',jU ((a1 k hk e).trans hl')]
  · rw [jU a3,jU a2];rfl
  · by_cases e:k=i
    · rw [e,ju hl,ju a2];rfl
    · obtain ⟨l',hl'⟩:=gl k hk
      rw [ju hl',ju ((a1 k hk e).trans hl')]
  · rw [ju a3,ju a2];rfl
  · obtain ⟨l',hl'⟩:=gl k hk
    obtain ⟨c',hc'⟩:=gc k hk
    rw [nY hl' hc',nY ((a1 k hk e).trans hl') ((b1 k hk e).trans hc')]
  · rw [nY hl hc,nY a2 b2,nY a3 b3];exact hsum.symm
  · obtain ⟨l',hl'⟩:=gl k hk
    rw [ju hl',ju hl]
    exact al k l' l e hl' hl
theorem Tg {cs:List Int} {i:Nat} {z:Int} (h:i<cs.length):cs.take i++[z]++cs.drop (i + 1)=cs.set i z:=by
  rw [List.set_eq_take_append_cons_drop,if_pos h,List.append_assoc];rfl
theorem Vk (xs:List Int) (i n:Nat) (h:xs.length=n + 1):uW (xs.map V.int) (some ((i:Int) + 1)) (some (-1))=((xs.drop (i + 1)).take (n - (i + 1))).map V.int:=by
  have e1:HT.sIx xs.length 0 (some ((i:Int) + 1))=min (i + 1) xs.length:=HT.oG xs.length 0 (i + 1)
  have e2:HT.sIx xs.length xs.length (some (-1))=n:=by
    show (if (-1:Int)<0 then (-1 + (xs.length:Int)).toNat else min (-1:Int).toNat xs.length)=n
    rw [if_pos (by decide)];omega
  unfold uW
  rw [List.length_map,e1,e2,← List.map_drop,← List.map_take]
  congr 1
  by_cases hi:i + 1≤xs.length
  · rw [Nat.min_eq_left hi]
  · rw [Nat.min_eq_right (by omega),List.drop_eq_nil_of_le (Nat.le_refl _),List.drop_eq_nil_of_le (by omega)]
    simp
theorem Js {ls:List Lic} {i:Nat} {l:Lic} (hl:ls[i]?=some l) (hm:0<l.most) (al:Al ls i):jg ls l.day ls.length=[(i:Int)]:=by
  have hi:=(List.getElem?_eq_some_iff.mp hl).1
  rw [uc hl hm _ ?_,if_pos hi]
  rw [List.eq_nil_iff_forall_not_mem]
  intro k hk
  obtain ⟨j,h1,rfl,h3,l',h4,h5,h6⟩:=(ud _).mp hk
  exact al j l' l (fun z=>h3 (by rw [z])) h4 hl h5
theorem T6 {r:List Int} {l:Lic} (h:yL r l):qJ r l:=⟨⟨h.1.2.2.1,h.1.2.2.2.1,h.2.imp id fun z=>List.mem_of_mem_drop z⟩,h.1.2.2.2.2.1⟩
theorem qd {r:List Int} {rk:Nat→Nat} (h3:∀ (i:Nat) (x:Int),r[i]?=some x→x=-1∨(0≤x∧x<r.length∧rk x.toNat<rk i)):∀ (f:Nat) (p:Int),0≤p→p<r.length→rk p.toNat<f→Rv.mW r f p=-1
  | 0,p,_,_,h=>absurd h (Nat.not_lt_zero _)
  | f + 1,p,h0,h1,h=>by
    show Rv.mW r f (Rv.stp r p)=-1
    unfold Rv.stp
    rw [if_neg (by omega)]
    rcases h3 _ _ (Rv.iZ h0 h1) with e | ⟨a,b,c⟩
    · rw [e];exact Rv.wF r f
    · exact qd h3 f _ a b (by omega)
theorem z9 {r:List Int} (hR:Rv.gH r) (h1:1≤r.length) (h2:r.length≤40):Rv.isR r=true:=by
  obtain ⟨rk,k1,k2⟩:=hR
  have hB:Rv.inB r:=fun x hx=>by
    obtain ⟨i,hi⟩:=List.getElem?_of_mem hx
    rcases k2 i x hi with e | ⟨a,b,_⟩ <;> omega
  unfold Rv.isR
  rw [decide_eq_true (⟨h1,h2⟩:1≤r.length∧r.length≤40),decide_eq_true hB,decide_eq_true (fun i hi=>qd k2 _ _ (by omega) (by omega) (by rw [Int.toNat_natCast];exact k1 i hi))]
  rfl
theorem Kv (i sp:Nat):atI [V.int 1,V.int 2] (if decide (V.int (i:Int)=V.int (sp:Int))=true then 1 else 0)=some (V.int (if i=sp then 2 else 1)):=by
  by_cases e:i=sp
  · subst e;rw [decide_eq_true rfl,if_pos rfl,if_pos rfl];rfl
  · rw [decide_eq_false (fun z=>e (by have:=V.int.inj z;omega)),if_neg Bool.false_ne_true,if_neg e];rfl
abbrev nJ:Stmt:=top 61
theorem fH:aH ["script","below","first","rains","springs","cells","spot","one","mosts","calls","k","cell","xs","told","piece","split","before","parted","after","joined"] ["script"] (ao nJ):=⟨rfl,rfl,rfl,by decide +kernel,rfl,by decide +kernel,by decide +kernel⟩
def wR (K:PySem.W.Frag) (T:eH):Sp:=fun vs H Q _=>∃ (a:Addr) (ns:List Int),vs=[.ref a]∧SqL K H a (ns.map V.int)∧ns.length≤63∧TabsOk T H∧∀ H',Q (.bl true) H'
section
variable {P:Program} {w:World} {K:PySem.W.Frag} {mg:Str→Option Value} {base:Heap} {T:eH} {C f0:Addr}
theorem Wj {f f1 f2 f3 f4 f5 f6 f7 f8 f9 f10 f11 cY cT cA:Addr} {fd fd1 fd2 fd3 fd4 fd5 fd6 fd7 fd8 fd9 fd10 fd11:FuncData} (D:Df K mg "law" nJ ["script"] f fd) (B:Blt mg) (R_Roll:Cl K mg "Roll" C f1 jZ)
    (aO:Df K mg "_law_cell_at" cC ["script","k"] f2 fd2) (gY:bN P w K mg base CX0 1 f2 fd2 ["script","k"] (zR K))
    (gq:Df K mg "_law_river" cu ["cell"] f3 fd3) (uU:bN P w K mg base CX0 3 f3 fd3 ["cell"] (wO T))
    (aU:Df K mg "_law_draws" cB ["cell","many"] f4 fd4) (ig:bN P w K mg base CX0 2 f4 fd4 ["cell","many"] (zP T))
    (aZ:Df K mg "_law_amount" cg ["number","kind"] f5 fd5) (iM:bN P w K mg base CX0 1 f5 fd5 ["number","kind"] (zT T))
    (gG:Dm K C "__init__" "Roll.__init__" bR ["self","below"] f1 fd1) (pN:bN P w K mg base CX0 3 f1 fd1 ["self","below"] (zN T C))
    (je:Dm K C "turn" "Roll.turn" dR ["self"] f6 fd6) (vY:bN P w K mg base CX0 1 f6 fd6 ["self"] (zJ T C))
    (gU:Df K mg "_law_file" dN ["one","xs","below","least"] f7 fd7) (vW:bN P w K mg base CX0 4 f7 fd7 ["one","xs","below","least"] (wQ K T C))
    (gb:Df K mg "_law_split" dw ["call","most","piece","number"] f8 fd8) (uT:bN P w K mg base CX0 1 f8 fd8 ["call","most","piece","number"] wN)
    (mU:Df K mg "deal" lC ["below","springs","roll","calls"] f9 fd9) (SQ:bN P w K mg base CX0 7 f9 fd9 ["below","springs","roll","calls"] (zQ K T))
    (fu:Dm K C "roll" "Roll.roll" dU ["self"] f10 fd10) (pJ:bN P w K mg base CX0 1 f10 fd10 ["self"] (zL K C "licences"))
    (jf:Dm K C "part" "Roll.part" dW ["self","number","holder","most","to"] f11 fd11) (vZ:bN P w K mg base (CXE P w) 3 f11 fd11 ["self","number","holder","most","to"] (zM K T C cY cT cA))
    {f12:Addr} {fd12:FuncData} (fZ:Df K mg "_law_whole" dh ["found"] f12 fd12) (uR:bN P w K mg base CX0 1 f12 fd12 ["found"] wJ):bN P w K mg base CX0 9 f fd ["script"] (wR K T):=by
  refine D.F.ok fH (fun vs H Q E h=>?_) (fun cdv A outer s H vs Q E hr h=>?_)
  · obtain ⟨_,_,rfl,_⟩:=h;rfl
  · obtain ⟨a,ns0,rfl,hS,hlen,tk,k⟩:=h
    have hu:=hr.units
    have O:=Ow.refl tk
    have kp:∀ {Ha Hc:Hp} {q:Addr} {xs:List V},bF T Ha Hc→Ha q=some (.lst xs)→Hc q=some (.lst xs):=fun s e=>s.keep _ _ e (fun _ z=>nomatch z)
    refine ⟨_,(aB (bh (i:=1) fH.nd rfl (Or.inl rfl) (aF uU (hr.mono (by decide)) rfl gq.m gq.F.kp gq.b .nil bB (ak (aF gY (hr.mono (by decide)) rfl aO.m aO.F.kp aO.b .nil bB (ak (pv 0) (ak aD au))) au)))
      (aB (bh (i:=2) fH.nd rfl (Or.inr rfl) (aF ig (hr.mono (by decide)) rfl aU.m aU.F.kp aU.b .nil bB (ak (aF gY (hr.mono (by decide)) rfl aO.m aO.F.kp aO.b .nil bB (ak (pv 0) (ak aD au))) (ak aD au))))
      (aB (bh (i:=3) fH.nd rfl (Or.inl rfl) (aF ig (hr.mono (by decide)) rfl aU.m aU.F.kp aU.b .nil bB (ak (aF gY (hr.mono (by decide)) rfl aO.m aO.F.kp aO.b .nil bB (ak (pv 0) (ak aD au))) (ak (aK aG rfl B.len PySem.boot_len (ak (pv 1) au)) au))))
      (aB (gO (i:=4) (ao nJ) rfl ["script","below","first","rains","springs","cells","spot","one","mosts","calls","k","cell","xs","told","piece","split","before","parted","after","joined"] rfl ["k","rain","first"] [none,none,some 2] (by decide +kernel) (by decide +kernel) (by decide +kernel) rfl fH.nd rfl rfl (vp rfl B.enumerate (ak (pv 3) au)) (fun _ _ _=>(rA (K:=K) (n:=2) rfl rfl (bM (aM (i:=0) (show (["k","rain","first"]:List Str).Nodup by decide +kernel) rfl (Or.inl rfl)) (bM (aM (i:=1) (show (["k","rain","first"]:List Str).Nodup by decide +kernel) rfl (Or.inl rfl)) jJ)))) (fun _ _ _=>gM) (fun _ _ _=>(aF iM (hr.mono (by decide)) rfl aZ.m aZ.F.kp aZ.b .nil bB (ak (pv 1) (ak (bA oN (bx (gF (K:=K) rfl) (pv 2) aD (fun _ _=>rfl)) (bA iW (pv 0) aD)) au)))) rfl)
      (aB (bh (i:=5) fH.nd rfl (Or.inl rfl) (bA nF (jj jW (pv 0) (jt aD) (jt aD)) (dY (ak (aF gY (hr.mono (by decide)) rfl aO.m aO.F.kp aO.b .nil bB (ak (pv 0) (ak aD au))) au))))
      (aB (bh (i:=6) fH.nd rfl (Or.inl rfl) (bA gJ (bx aJ (pv 2) aD (fun _ _=>rfl)) (aK aG rfl B.len PySem.boot_len (ak (pv 5) au))))
      (aB (bh (i:=7) fH.nd rfl (Or.inl rfl) (Tt R_Roll.k pN (hr.mono (by decide)) rfl R_Roll.m gG.b .nil bB (ak (dF bT rfl B.list PyProof.Rows.boot_list (ak (pv 1) au)) au)))
      (aB (bh (i:=8) fH.nd rfl (Or.inl rfl) (dY au))
      (aB (bh (i:=9) fH.nd rfl (Or.inl rfl) (dY au))
      (aB (jP PassesOwn.never rfl (vp rfl B.enumerate (ak (pv 5) au)) (qg rfl (bM (aM (i:=10) fH.nd rfl (Or.inl rfl)) (bM (aM (i:=11) fH.nd rfl (Or.inl rfl)) jJ)))
        (aB (bh (i:=12) fH.nd rfl (Or.inl rfl) (aF ig (hr.mono (by decide)) rfl aU.m aU.F.kp aU.b .nil bB (ak (pv 11) (ak aD au))))
        (Ac (iV (PW.pt (pw_or (bY pQ (bA gJ (bx aJ (pv 12) aD (fun _ _=>rfl)) aD) aD (cL _)) (pw_or (bY pQ (pv 10) (pv 6) (cL _)) (pw_or1 (bY pQ (pv 10) (bA iW (pv 6) aD) (cL _))))))
          (aC (cj (mj (pv 7) R_Roll.c je.m vY (hr.mono (by decide)) je.b .nil bB)))
          cG)
        (aB (bh (i:=13) fH.nd rfl (Or.inl rfl) (aF vW (hr.mono (by decide)) rfl gU.m gU.F.kp gU.b .nil bB (ak (pv 7) (ak (pv 12) (ak (pv 1) (ak (bx aJ (dY (ak aD (ak aD au))) (dF Jk rfl B.int PyProof.Rows.boot_int (ak (lM pQ (pv 10) (pv 6) (cL _)) au)) (fun _ _=>rfl)) au))))))
        (aB (cj (nM PySem.F.plainAttrs_list PySem.F.slot_list_append PySem.F.type_list_append dG (pv 8) (ak (bx mC (pv 13) aD (fun _ _=>rfl)) au)))
        (aC (cj (nM PySem.F.plainAttrs_list PySem.F.slot_list_append PySem.F.type_list_append dG (pv 9) (ak (bx mC (pv 13) aD (fun _ _=>rfl)) au)))))))))
      (aB (bh (i:=14) fH.nd rfl (Or.inl rfl) (bx aJ (dY (ak aD (ak (bA lF (bx aJ (pv 8) (pv 6) (fun _ _=>rfl)) aD) (ak (bA iW aD (bA gJ (bx aJ (pv 2) aD (fun _ _=>rfl)) (bA lF (bx aJ (pv 8) (pv 6) (fun _ _=>rfl)) aD))) au)))) (bA gJ (bx aJ (pv 2) aD (fun _ _=>rfl)) aD) (fun _ _=>rfl)))
      (aB (bh (i:=15) fH.nd rfl (Or.inl rfl) (aF uT (hr.mono (by decide)) rfl gb.m gb.F.kp gb.b .nil bB (ak (bx aJ (pv 9) (pv 6) (fun _ _=>rfl)) (ak (bx aJ (pv 8) (pv 6) (fun _ _=>rfl)) (ak (pv 14) (ak (bx aJ (pv 2) aD (fun _ _=>rfl)) au))))))
      (aB (bh (i:=16) fH.nd rfl (Or.inl rfl) (aF SQ (hr.mono (by decide)) rfl mU.m mU.F.kp mU.b .nil bB (ak (dF bT rfl B.list PyProof.Rows.boot_list (ak (pv 1) au)) (ak (dF bT rfl B.list PyProof.Rows.boot_list (ak (pv 4) au)) (ak (mj (pv 7) R_Roll.c fu.m pJ (hr.mono (by decide)) fu.b .nil bB) (ak (dF bT rfl B.list PyProof.Rows.boot_list (ak (pv 9) au)) au))))))
      (aB (cj (j6 (pv 7) R_Roll.c jf.m vZ (hr.mono (by decide)) jf.b .nil Zz (ak (pv 6) (ak lE (ak (pv 14) (ak lE au))))))
      (aB (bh (i:=17) fH.nd rfl (Or.inl rfl) (bA nF (bA nF (bA nF (jj jW (pv 9) mX (jt (pv 6))) (dY (ak (bx mC (pv 15) aD (fun _ _=>rfl)) au))) (jj jW (pv 9) (jt (bA iW (pv 6) aD)) mX)) (dY (ak (bx mC (pv 15) aD (fun _ _=>rfl)) au))))
      (aB (bh (i:=18) fH.nd rfl (Or.inl rfl) (aF SQ (hr.mono (by decide)) rfl mU.m mU.F.kp mU.b .nil bB (ak (dF bT rfl B.list PyProof.Rows.boot_list (ak (pv 1) au)) (ak (dF bT rfl B.list PyProof.Rows.boot_list (ak (pv 4) au)) (ak (mj (pv 7) R_Roll.c fu.m pJ (hr.mono (by decide)) fu.b .nil bB) (ak (pv 17) au))))))
      (aB (iV (PW.pt (pw_or (jO (lD (aK jN rfl B.isinstance PyProof.Rows.boot_isinstance (ak (pv 16) (ak (rD (v:=.ty "list") rfl B.list PyProof.Rows.boot_list rfl) au))))) (pw_or (jO (lD (aK jN rfl B.isinstance PyProof.Rows.boot_isinstance (ak (pv 18) (ak (rD (v:=.ty "list") rfl B.list PyProof.Rows.boot_list rfl) au))))) (pw_or1 (bY vC (aK aG rfl B.len PySem.boot_len (ak (pv 18) au)) (bA iW (aK aG rfl B.len PySem.boot_len (ak (pv 16) au)) aD) (cL _))))))
        (aC (bw vA))
        cG)
      (aB (iV (PW.pt (pw_or (bY (Lp hu) (jK (ao nJ) rfl ["script","below","first","rains","springs","cells","spot","one","mosts","calls","k","cell","xs","told","piece","split","before","parted","after","joined"] rfl ["take"] [none] (by decide +kernel) (by decide +kernel) (by decide +kernel) rfl (eZ (bA nF (pv 16) (pv 18))) (fun _ _ _=>(aM (i:=0) (show (["take"]:List Str).Nodup by decide +kernel) rfl (Or.inl rfl))) (fun _ _ _=>(vm (jO (lD (aF uR (hr.mono (by decide)) rfl fZ.m fZ.F.kp fZ.b .nil bB (ak (pv 0) au)))))) (fun _ _ _=>(pv 0))) (dY au) (cL _)) (pw_or1 (bY vC (aK aG rfl B.len PySem.boot_len (ak (pv 16) au)) (aK aG rfl B.len PySem.boot_len (ak (pv 5) au)) (cL _)))))
        (aC (bw vA))
        cG)
      (aB (bh (i:=19) fH.nd rfl (Or.inl rfl) (bA nF (bA nF (jj jW (pv 18) mX (jt (pv 6))) (dY (ak (bA iW (bx aJ (pv 18) (pv 6) (fun _ _=>rfl)) (bx aJ (pv 18) (rB lU aD) (fun _ _=>rfl))) au))) (jj jW (pv 18) (jt (bA iW (pv 6) aD)) (jt (rB lU aD)))))
      (aC (bw (lM (Lq hu) (pv 19) (pv 16) (cL _))))))))))))))))))))))),?_⟩
    refine ⟨_,rfl,a,ns0,0,rfl,hS,_,rfl,tk,O.yQ fun lb H1 xs O e=>?_⟩
    obtain ⟨r,rfl,hR,r1,r12⟩:=e
    obtain ⟨Hb,O,sb,eb⟩:=O.o7 0
    have hS:=sb.seq hS
    have hB:SqL K Hb lb (r.map V.int):=SqL.of eb
    clear sb eb
    refine ⟨_,rfl,a,ns0,1,rfl,hS.mo O.same,_,4,rfl,by decide,O.same.t1,O.yQ fun lf H2 xs O e=>?_⟩
    subst e
    have y4:=pq (ns0.getD 1 0) 4
    generalize dvs (ns0.getD 1 0) 4=fs at O y4
    have gf:∀ k:Nat,k<4→fs[k]?=some (fs.getD k 0):=fun k hk=>cF (by omega)
    obtain ⟨Hb1,O,sb,eb⟩:=O.o7 0
    have hS:=hS.mo sb
    have hB:=hB.mo sb
    have hF:SqL K Hb1 lf (fs.map V.int):=SqL.of eb
    clear sb eb
    have hml:(r.map V.int).length=r.length:=List.length_map _
    refine ⟨_,rfl,a,ns0,2,rfl,hS.mo O.same,_,rfl,lb,_,rfl,.inl (hB.mo O.same),_,(r.map V.int).length,rfl,by omega,O.same.t1,O.yQ fun lr H3 xs O e=>?_⟩
    subst e
    have hrl:=pq (ns0.getD 2 0) (r.map V.int).length
    generalize dvs (ns0.getD 2 0) (r.map V.int).length=rs at O hrl
    obtain ⟨Hb2,O,sb,eb⟩:=O.o7 0
    have hS:=hS.mo sb
    have hB:=hB.mo sb
    have hF:=hF.mo sb
    have hRs:SqL K Hb2 lr (rs.map V.int):=SqL.of eb
    clear sb eb
    refine ⟨_,rfl,lr,_,rfl,hRs.mo O.same,fun lsp hlsp=>?_⟩
    refine uz (K:=K) (xs:=rs.map V.int) (fun i τ H'=>Iv (∃ (v0 v1:Option V) (ss:List Int),τ=[v0,v1,some (.ref lf)]∧Ow T Hb2 H' [(lsp,.lst (ss.map V.int))]∧ss.length=i∧∀ z∈ss,0≤z))
      ⟨trivial,none,none,[],rfl,O.mk' hlsp rfl,rfl,fun z hz=>nomatch hz⟩ (fun i τ H' _ ⟨_,_,_,_,_,O,_⟩=>hRs.mo O.same) ?_ ?_
    · clear O
      rintro i y T0 τ H5 hy ⟨-,v0,v1,ss,rfl,O,hss,hsn⟩ hT0
      obtain ⟨z,hz,rfl⟩:=ints_get hy
      have hi:=(List.getElem?_eq_some_iff.mp hz).1
      walk_at "nw"
      refine ⟨T0,_,rfl,O.sqT 0,rfl,_,_,rfl,_,_,rfl,rfl,?_⟩
      have O:=O.tail
      refine Zd ?_
      refine ⟨_,rfl,_,rfl,lf,_,0,_,rfl,rfl,hF.mo O.same,aY (i:=0) (gf 0 (by decide)),_,rfl,_,_,rfl,rfl,_,_,rfl,rfl,⟨by show (0:Int)<(i:Int) + 1;omega,by show (i:Int) + 1<1073741824;omega⟩,_,_,rfl,O.same.t1,fun z2 H6 s6 z0 z1=>?_⟩
      have O:=O.mJ s6
      refine ⟨_,O.get 0,aL (by rw [List.length_map];omega),?_⟩
      walk_at "pt"
      refine ⟨trivial,_,_,ss++[z2],rfl,?_,by rw [List.length_append,hss];rfl,?_⟩
      · rw [List.map_append];exact O
      · intro y hy
        rcases List.mem_append.mp hy with h | h
        · exact hsn y h
        · rw [List.mem_singleton.mp h];exact z0
    clear O
    rintro τ H5 ⟨-,v0,v1,ss,rfl,O,hss,hsn⟩
    rw [List.length_map,hrl,hml] at hss
    obtain ⟨Hb3,O,sb,eb⟩:=O.o7 0
    have hS:=hS.mo sb
    have hB:=hB.mo sb
    have hF:=hF.mo sb
    have hSp:SqL K Hb3 lsp (ss.map V.int):=SqL.of eb
    clear sb eb hRs hrl
    refine ⟨_,rfl,3,rfl,27,rfl,a,_,rfl,hS.mo O.same,fun l1 hl1=>?_⟩
    walk_at "nw"
    rw [show uW (ns0.map V.int) (some 3) (some 27)=((ns0.drop 3).take 24).map V.int from Y0 ns0 3 27] at O
    have hql:((ns0.drop 3).take 24).length≤24:=by rw [List.length_take];omega
    generalize (ns0.drop 3).take 24=qs at O hql
    refine ⟨_,rfl,a,ns0,2,rfl,hS.mo O.same,szl,fun l2 hl2=>?_⟩
    walk_at "nw"
    refine ⟨l1,l2,_,_,rfl,rfl,O.get 1,O.get 0,eX (by rw [List.length_map];simp;omega),fun lc hlc=>?_⟩
    walk_at "nw"
    have hcl:(qs++[ns0.getD 2 0]).length=qs.length + 1:=by rw [List.length_append];rfl
    rw [show qs.map V.int++[V.int (ns0.getD 2 0)]=(qs++[ns0.getD 2 0]).map V.int by rw [List.map_append];rfl] at O
    generalize qs++[ns0.getD 2 0]=cl at O hcl
    obtain ⟨Hb4,O,sb,eb⟩:=O.o7 0
    have O:=O.tail.tail
    have hS:=hS.mo sb
    have hB:=hB.mo sb
    have hF:=hF.mo sb
    have hSp:=hSp.mo sb
    have hC:SqL K Hb4 lc (cl.map V.int):=SqL.of eb
    clear sb eb
    have hcm:(cl.map V.int).length=cl.length:=List.length_map _
    have j0:=Int.emod_nonneg (fs.getD 1 0) (show (cl.length:Int)≠0 by omega)
    have j1:=Int.emod_lt_of_pos (fs.getD 1 0) (show (0:Int)<(cl.length:Int) by omega)
    refine ⟨_,rfl,lf,_,1,_,rfl,rfl,hF.mo O.same,aY (i:=1) (gf 1 (by decide)),_,rfl,lc,_,rfl,.inl (hC.mo O.same),_,_,rfl,rfl,(by show (0:Int)<((cl.map V.int).length:Int);omega),?_⟩
    dsimp only
    rw [hcm]
    obtain ⟨sp,hsp⟩:∃ sp:Nat,fs.getD 1 0 % (cl.length:Int)=(sp:Int):=⟨(fs.getD 1 0 % (cl.length:Int)).toNat,by omega⟩
    rw [hsp] at j0 j1 ⊢
    clear hsp
    refine ⟨_,rfl,lb,_,rfl,.inl (hB.mo O.same),fun lv hlv=>?_⟩
    walk_at "nw"
    intro x dx nx ndx nex
    have O:=(O.mk' ndx (o:=.own x) rfl).mk' (a:=x) (o:=.ins C dx []) (by rw [aN nex.symm];exact nx) rfl
    refine ⟨x,dx,lv,Hb4,_,r,rfl,O,O.get 2,O.ne 2 0,z9 hR (by omega) (by omega),by omega,fun A H7 eA O5=>⟨rfl,?_⟩⟩
    clear O nx ndx nex
    subst eA
    have O:Ow T Hb4 H7 (RL C A r 0 [] [] []++[]):=O5.del 6
    clear O5
    refine ⟨szl,fun lm hlm=>?_⟩
    walk_at "nw"
    have O:Ow T Hb4 _ (RL C A r 0 [] [] []++[(lm,.lst [])]):=Ow.mid (R:=RL C A r 0 [] [] []) O
    refine ⟨szl,fun lcal hlcal=>?_⟩
    walk_at "nw"
    have O:Ow T Hb4 _ (RL C A r 0 [] [] []++[(lcal,.lst []),(lm,.lst [])]):=Ow.mid (R:=RL C A r 0 [] [] []) O
    refine ⟨_,rfl,lc,_,rfl,hC.mo O.same,?_⟩
    refine K1 (K:=K) (xs:=cl.map V.int) (fun i σ H'=>Iv (∃ (Hb:Hp) (us ds:List V) (ls:List Lic) (cs:List Int) (day:Int) (v10 v11 v12 v13:Option V),σ=[some (.ref a),some (.ref lb),some (.ref lf),some (.ref lr),some (.ref lsp),some (.ref lc),some (.int (sp:Int)),some (.ref A.p),some (.ref lm),some (.ref lcal),v10,v11,v12,v13,none,none,none,none,none,none] ∧
      Ow T Hb H' (RL C A r day us (List.replicate i ("a":Str)) ds++[(lcal,.lst (cs.map V.int)),(lm,.lst ((ls.map Lic.most).map V.int))])∧bF T Hb4 Hb∧eV K Hb us (ls.map Jz)∧ls.length=i∧cs.length=i∧ds.length≤2 * i∧0≤day∧day≤(i:Int)∧(∀ l∈ls,yL r l∧l.day≤day)∧(∀ c∈cs,0≤c)∧Al ls sp∧(sp + 2≤i→∀ l,ls[sp]?=some l→l.day<day)∧∀ l,ls[sp]?=some l→2≤l.most))
      ⟨trivial,Hb4,[],[],[],[],0,none,none,none,none,rfl,O,bF.refl O.same.t0,.nil,rfl,rfl,Nat.le_refl _,Int.le_refl _,Int.le_refl _,(fun x hx=>nomatch hx),(fun x hx=>nomatch hx),(fun j l lS _ h=>by simp at h),(fun h=>absurd h (by omega)),fun l h=>by simp at h⟩ (fun i σ H' _ ⟨_,_,_,_,_,_,_,_,_,_,_,_,O,s0,_⟩=>hC.mo (s0.trans O.same)) ?_ ?_
    · clear O
      rintro i y T0 σ H8 hy ⟨-,Hb,us,ds,ls,cs,day,v10,v11,v12,v13,rfl,O,s0,d0,n1,n2,n3,dy0,dy1,hls,hcs,hal,hlt,hm2⟩ hT0
      obtain ⟨c,hc,rfl⟩:=ints_get hy
      have hi:=(List.getElem?_eq_some_iff.mp hc).1
      have hul:us.length=ls.length:=by rw [d0.length,List.length_map]
      have hnl:(List.replicate i ("a":Str)).length=i:=List.length_replicate
      have hrep:List.replicate (i + 1) ("a":Str)=List.replicate i ("a":Str)++[("a":Str)]:=List.replicate_succ'
      generalize List.replicate i ("a":Str)=ns at O hnl hrep
      walk_at "nw"
      refine ⟨T0,_,rfl,O.sqT 0,rfl,_,_,rfl,_,_,rfl,rfl,?_⟩
      have O:=O.tail
      refine ⟨_,rfl,c,7,rfl,by decide,O.same.t1,O.yQ fun lx H9 xs O e=>?_⟩
      subst e
      have O:Ow T Hb H9 (RL C A r day us ns ds++[(lx,.lst ((dvs c 7).map V.int)),(lcal,.lst (cs.map V.int)),(lm,.lst ((ls.map Lic.most).map V.int))]):=Ow.mid (R:=RL C A r day us ns ds) O
      have hx7:=pq c 7
      generalize dvs c 7=ys at O hx7
      have g:∀ k:Nat,k<7→ys[k]?=some (ys.getD k 0):=fun k hk=>cF (by omega)
      refine ⟨fun σ H'=>Iv (∃ (day':Int) (ds:List V),σ=[some (.ref a),some (.ref lb),some (.ref lf),some (.ref lr),some (.ref lsp),some (.ref lc),some (.int (sp:Int)),some (.ref A.p),some (.ref lm),some (.ref lcal),some (.int (i:Int)),some (.int c),some (.ref lx),v13,none,none,none,none,none,none] ∧
        Ow T Hb H' (RL C A r day' us ns ds++[(lx,.lst (ys.map V.int)),(lcal,.lst (cs.map V.int)),(lm,.lst ((ls.map Lic.most).map V.int))])∧ds.length≤2 * i + 1∧day≤day'∧day'≤day + 1∧(i=sp∨i=sp + 1→day'=day + 1)),?_,?_⟩
      · have turned:∀ {H'':Hp} {t:Addr},Ow T Hb H'' ((t,.tup [.str "turn"]) :: (RL C A r (day + 1) us ns (ds++[.ref t])++[(lx,.lst (ys.map V.int)),(lcal,.lst (cs.map V.int)),(lm,.lst ((ls.map Lic.most).map V.int))]))→Iv (∃ (day':Int) (ds:List V),[some (.ref a),some (.ref lb),some (.ref lf),some (.ref lr),some (.ref lsp),some (.ref lc),some (.int (sp:Int)),some (.ref A.p),some (.ref lm),some (.ref lcal),some (.int (i:Int)),some (.int c),some (.ref lx),v13,none,none,none,none,none,none]=[some (.ref a),some (.ref lb),some (.ref lf),some (.ref lr),some (.ref lsp),some (.ref lc),some (.int (sp:Int)),some (.ref A.p),some (.ref lm),some (.ref lcal),some (.int (i:Int)),some (.int c),some (.ref lx),v13,none,none,none,none,none,none] ∧
            Ow T Hb H'' (RL C A r day' us ns ds++[(lx,.lst (ys.map V.int)),(lcal,.lst (cs.map V.int)),(lm,.lst ((ls.map Lic.most).map V.int))])∧ds.length≤2 * i + 1∧day≤day'∧day'≤day + 1∧(i=sp∨i=sp + 1→day'=day + 1)) :=
          fun {_ t} O=>⟨trivial,day + 1,ds++[V.ref t],rfl,O.tail,by rw [List.length_append];simp;omega,by omega,by omega,fun _=>rfl⟩
        refine ⟨_,rfl,lx,_,0,_,rfl,rfl,O.sq 6,aY (i:=0) (g 0 (by decide)),_,_,rfl,rfl,(by show (0:Int)<2;decide),rfl,_,rfl,ifI (fun _=>?_) (fun _=>?_)⟩
        · exact ⟨_,rfl,A.p,A.dx,_,rfl,O.get 0,rfl,A,Hb,_,r,day,us,ns,ds,rfl,O,by omega,fun t H10 O=>turned O⟩
        refine ⟨_,rfl,_,rfl,rfl,_,rfl,ifI (fun _=>?_) (fun e1=>?_)⟩
        · exact ⟨_,rfl,A.p,A.dx,_,rfl,O.get 0,rfl,A,Hb,_,r,day,us,ns,ds,rfl,O,by omega,fun t H10 O=>turned O⟩
        refine ⟨_,rfl,_,rfl,_,_,rfl,rfl,rfl,_,rfl,ifI (fun _=>?_) (fun e2=>?_)⟩
        · exact ⟨_,rfl,A.p,A.dx,_,rfl,O.get 0,rfl,A,Hb,_,r,day,us,ns,ds,rfl,O,by omega,fun t H10 O=>turned O⟩
        · exact ⟨trivial,day,ds,rfl,O,by omega,Int.le_refl _,by omega,fun h=>by omega⟩
      clear O n3
      rintro σ H10 ⟨-,day',ds,rfl,O,n3,e1,e2,e3⟩
      refine ⟨_,rfl,_,rfl,_,rfl,szl,fun lq hlq=>?_⟩
      walk_at "nw"
      refine ⟨_,rfl,_,rfl,rfl,.inr ⟨_,rfl,?_⟩⟩
      refine ⟨lq,_,_,_,rfl,rfl,O.sq 0,Kv i sp,?_⟩
      have O:=O.tail
      have hle:1≤(if i=sp then (2:Int) else 1)∧(if i=sp then (2:Int) else 1)≤2∧(i=sp→(if i=sp then (2:Int) else 1)=2):=by split <;> refine ⟨by decide,by decide,fun h=>?_⟩ <;> first | rfl | omega
      generalize (if i=sp then (2:Int) else 1)=least at hle
      refine ⟨A,Hb,_,r,day',us,ns,ds,lx,lb,ys,least,rfl,O,List.mem_of_getElem? (i:=0) rfl,hB.mo s0,hx7,hR,r1,r12,by omega,by omega,by omega,by omega,by omega,hle.1,hle.2.1,fun t1 t2 t3 H11 l cq O hlic hld hlm c0=>?_⟩
      refine ⟨_,rfl,.inl ⟨rfl,_,O.sq 11⟩,_,rfl,t3,_,0,_,rfl,rfl,O.sqT 0,rfl,lm,_,_,rfl,rfl,O.get 11,aL (by rw [List.length_map,List.length_map];omega),?_⟩
      generalize hE:upd _ _ _=Hm
      have O:=Ow.sI O 11 rfl hE rfl
      clear hE
      refine ⟨_,rfl,.inl ⟨rfl,_,O.sq 10⟩,_,rfl,t3,_,1,_,rfl,rfl,O.sqT 0,rfl,lcal,_,_,rfl,rfl,O.get 10,aL (by rw [List.length_map];omega),?_⟩
      generalize hE:upd _ _ _=Hm2
      have O:=Ow.sI O 10 rfl hE rfl
      clear hE
      have O:=O.tail.tail
      obtain ⟨Hn,O,sn,en⟩:=O.o7 0
      have O:=O.del 6
      have hgl:∀ {j:Nat} {l':Lic},(ls++[l])[j]?=some l'→(j<i∧ls[j]?=some l')∨(j=i∧l'=l):=fun {j l'} h=>by
        by_cases hj:j<ls.length
        · rw [List.getElem?_append_left hj] at h;exact .inl ⟨by omega,h⟩
        · rw [List.getElem?_append_right (by omega)] at h
          have hz:j - ls.length=0:=by
            rcases Nat.eq_zero_or_pos (j - ls.length) with e | e
            · exact e
            · rw [List.getElem?_eq_none (by show 1≤j - ls.length;omega)] at h;cases h
          rw [hz] at h
          exact .inr ⟨by omega,(Option.some.inj h).symm⟩
      refine ⟨trivial,Hn,us++[V.ref t1],ds++[V.ref t2],ls++[l],cs++[cq],day',_,_,_,_,rfl,?_,s0.trans sn,?_,by rw [List.length_append,n1];rfl,by rw [List.length_append,n2];rfl,by rw [List.length_append];simp;omega,by omega,by omega,?_,?_,?_,?_,?_⟩
      · rw [hrep]
        simp only [List.map_append,List.map_cons,List.map_nil] at O ⊢
        exact O
      · rw [List.map_append]
        exact (d0.mo sn).append (.cons (Den.lic (SqT.of en)) .nil)
      · intro y hy
        rcases List.mem_append.mp hy with h | h
        · have:=hls y h;exact ⟨this.1,by omega⟩
        · rw [List.mem_singleton.mp h];exact ⟨hlic,by omega⟩
      · intro y hy
        rcases List.mem_append.mp hy with h | h
        · exact hcs y h
        · rw [List.mem_singleton.mp h];exact c0
      · intro j l' lS hj h1 h2
        rcases hgl h1 with ⟨a1,a2⟩ | ⟨a1,rfl⟩
        · rcases hgl h2 with ⟨b1,b2⟩ | ⟨b1,rfl⟩
          · exact hal j l' lS hj a2 b2
          · have:=(hls l' (List.mem_of_getElem? a2)).2
            have:=e3 (.inl b1.symm)
            omega
        · rcases hgl h2 with ⟨b1,b2⟩ | ⟨b1,rfl⟩
          · by_cases hq:i=sp + 1
            · have:=e3 (.inr hq)
              have:=(hls lS (List.mem_of_getElem? b2)).2
              omega
            · have:=hlt (by omega) lS b2
              omega
          · omega
      · intro h2 l' hl'
        rcases hgl hl' with ⟨b1,b2⟩ | ⟨b1,rfl⟩
        · by_cases hq:i=sp + 1
          · have:=e3 (.inr hq)
            have:=(hls l' (List.mem_of_getElem? b2)).2
            omega
          · have:=hlt (by omega) l' b2
            omega
        · omega
      · intro l' hl'
        rcases hgl hl' with ⟨b1,b2⟩ | ⟨b1,rfl⟩
        · exact hm2 l' b2
        · have:=hle.2.2 b1.symm
          omega
    clear O
    rintro σ H8 ⟨-,Hb,us,ds,ls,cs,day,v10,v11,v12,v13,rfl,O,s0,d0,n1,n2,n3,dy0,dy1,hls,hcs,hal,hlt,hm2⟩
    rw [hcm] at n1 n2 n3 dy1 O
    have hul:us.length=ls.length:=by rw [d0.length,List.length_map]
    obtain ⟨l,hl⟩:∃ l,ls[sp]?=some l:=⟨_,List.getElem?_eq_getElem (by omega)⟩
    obtain ⟨cq,hcq⟩:∃ c,cs[sp]?=some c:=⟨_,List.getElem?_eq_getElem (by omega)⟩
    have hl2:=hm2 l hl
    have hlc:=(hls l (List.mem_of_getElem? hl)).1
    have hcq0:=hcs cq (List.mem_of_getElem? hcq)
    have hnsp:(List.replicate cl.length ("a":Str))[sp]?=some ("a":Str):=by rw [List.getElem?_replicate,if_pos (by omega)]
    have hnl:(List.replicate cl.length ("a":Str)).length=cl.length:=List.length_replicate
    generalize List.replicate cl.length ("a":Str)=ns at O hnsp hnl
    have hmo:(ls.map Lic.most)[sp]?=some l.most:=by rw [List.getElem?_map,hl];rfl
    have hF:=hF.mo s0
    have hB:=hB.mo s0
    have hSp:=hSp.mo s0
    have hC:=hC.mo s0
    clear hS hlt
    have k0:=Int.emod_nonneg (fs.getD 3 0) (show (3:Int)≠0 by decide)
    have k1:=Int.emod_lt_of_pos (fs.getD 3 0) (show (0:Int)<3 by decide)
    have u0:=Int.emod_nonneg (fs.getD 2 0) (show l.most - 1≠0 by omega)
    have u1:=Int.emod_lt_of_pos (fs.getD 2 0) (show (0:Int)<l.most - 1 by omega)
    refine ⟨_,rfl,_,rfl,lm,_,_,_,rfl,rfl,O.sq 7,aY hmo,_,_,rfl,rfl,_,rfl,lf,_,2,_,rfl,rfl,hF.mo O.same,aY (i:=2) (gf 2 (by decide)),_,rfl,_,rfl,lm,_,_,_,rfl,rfl,O.sq 7,aY hmo,_,_,rfl,rfl,_,_,rfl,rfl,(by show (0:Int)<l.most - 1;omega),_,_,rfl,rfl,szl,fun lp hlp=>?_⟩
    walk_at "nw"
    refine ⟨_,rfl,lf,_,3,_,rfl,rfl,hF.mo O.same,aY (i:=3) (gf 3 (by decide)),_,_,rfl,rfl,(by show (0:Int)<3;decide),?_⟩
    dsimp only at O ⊢
    refine ⟨lp,_,_,_,rfl,rfl,O.sq 0,eY (ns:=[1,l.most - 1,1 + fs.getD 2 0 % (l.most - 1)]) k0 k1,?_⟩
    have hm:1≤[1,l.most - 1,1 + fs.getD 2 0 % (l.most - 1)].getD (fs.getD 3 0 % 3).toNat 0∧[1,l.most - 1,1 + fs.getD 2 0 % (l.most - 1)].getD (fs.getD 3 0 % 3).toNat 0<l.most:=by
      have hin:=getD_in (ns:=[1,l.most - 1,1 + fs.getD 2 0 % (l.most - 1)]) (j:=(fs.getD 3 0 % 3).toNat) (by show _<3;omega)
      simp only [List.mem_cons,List.not_mem_nil,or_false] at hin
      rcases hin with e | e | e <;> rw [e] <;> omega
    generalize [1,l.most - 1,1 + fs.getD 2 0 % (l.most - 1)].getD (fs.getD 3 0 % 3).toNat 0=m at hm
    clear k0 k1 u0 u1
    have O:=O.tail
    refine ⟨_,rfl,_,rfl,lcal,_,_,_,rfl,rfl,O.sq 6,aY hcq,_,rfl,_,rfl,lm,_,_,_,rfl,rfl,O.sq 7,aY hmo,_,rfl,_,rfl,lf,_,2,_,rfl,rfl,hF.mo O.same,aY (i:=2) (gf 2 (by decide)),_,_,_,_,rfl,hcq0,hm.1,hm.2,fun tS w0 w1 htS hsum p0 p1=>?_⟩
    walk_at "nw"
    obtain ⟨Hn,O,sn,en⟩:=O.o7 0
    have hTS:SqT K Hn tS [.int w0,.int w1]:=SqT.of en
    have hF:=hF.mo sn
    have hB:=hB.mo sn
    have hSp:=hSp.mo sn
    have hC:=hC.mo sn
    have d0:=d0.mo sn
    clear en sn
    have hlk:∀ l∈ls,qJ r l:=fun l hl=>T6 (hls l hl).1
    refine ⟨_,rfl,lb,_,rfl,.inl (hB.mo O.same),fun b1 hb1=>?_⟩
    walk_at "nw"
    refine ⟨_,rfl,lsp,_,rfl,.inl (hSp.mo O.same),fun b2 hb2=>?_⟩
    walk_at "nw"
    refine ⟨_,rfl,A.p,A.dx,_,rfl,O.get 2,rfl,A.p,A.dx,A.ll,_,_,rfl,O.get 2,rfl,O.sq 5,fun b3 hb3=>?_⟩
    walk_at "nw"
    refine ⟨_,rfl,lcal,_,rfl,.inl (O.sq 9),fun b4 hb4=>?_⟩
    walk_at "nw"
    refine ⟨b1,b2,b4,.ref b3,r,ss,ls,cs,rfl,⟨O.sq 3,hR,by omega⟩,O.sq 2,hss,hsn,.list (O.sq 1) (d0.mo O.same),by omega,O.sq 0,by omega,hlk,hcs,O.same.t1,O.yQ fun lx1 H12 xs1 O e=>?_⟩
    obtain ⟨xs,rfl,D1⟩:=e
    obtain ⟨Hn,O,sn,en⟩:=O.o7 0
    have hX1:SqL K Hn lx1 (xs.map V.int):=SqL.of en
    have hX1':=en
    have hTS:=hTS.mo sn
    have hB:=hB.mo sn
    have hSp:=hSp.mo sn
    have hC:=hC.mo sn
    have d0:=d0.mo sn
    clear en sn
    have O:=O.tail.tail.tail.tail
    refine ⟨_,rfl,A.p,A.dx,_,rfl,O.get 0,rfl,_,rfl,_,rfl,?_⟩
    refine ⟨A,Hn,_,r,day,us,ns,ds,ls,sp,l,"a","a",m,"b",rfl,O,d0,hl,hnsp,by omega,bName,by omega,by omega,fun h=>absurd rfl h,fun _ h=>absurd ⟨hm.1,hm.2⟩ h,fun _ _ _ h=>absurd (Js hl (by omega) hal) h,fun _ _ _ _ t1 t2 t3 H13 O=>?_⟩
    obtain ⟨Hp1,O,sp1,ep1⟩:=O.o7 0
    have O:=O.tail
    obtain ⟨Hp2,O,sp2,ep2⟩:=O.o7 0
    have sA:=sp1.trans sp2
    have d2:eV K Hp2 (us.set sp (.ref t1)++[.ref t3]) ((ls.set sp (wm l (l.most - m))++[wm l m]).map Jz):=by
      rw [List.map_append,List.map_set]
      exact ((d0.mo sA).set (Den.lic (l:=wm l (l.most - m)) (SqT.of ep2)) sp).append (.cons (Den.lic (l:=wm l m) (SqT.of (sp2.keep _ _ ep1 (fun _ z=>nomatch z)))) .nil)
    have hX1:=hX1.mo sA
    have hX1':=kp sA hX1'
    have hTS:=hTS.mo sA
    have hB:=hB.mo sA
    have hSp:=hSp.mo sA
    have hC:=hC.mo sA
    clear d0 ep1 ep2 sp1 sp2 sA
    have O:Ow T Hp2 H13 (RL C A r day (us.set sp (.ref t1)++[.ref t3]) (ns++[("b":Str)]) (ds++[.ref t2])++[(lcal,.lst (cs.map V.int)),(lm,.lst ((ls.map Lic.most).map V.int))]):=O
    refine ⟨_,rfl,_,rfl,(sp:Int),rfl,lcal,_,rfl,O.sq 6,fun q1 hq1=>?_⟩
    walk_at "nw"
    rw [rQ] at O
    refine ⟨_,rfl,tS,_,0,_,rfl,rfl,hTS.mo O.same,rfl,szl,fun q2 hq2=>?_⟩
    walk_at "nw"
    refine ⟨q1,q2,_,_,rfl,rfl,O.get 1,O.get 0,eX (by rw [List.length_map,List.length_take];simp;omega),fun q3 hq3=>?_⟩
    walk_at "nw"
    refine ⟨_,rfl,_,rfl,_,_,rfl,rfl,((sp + 1:Nat):Int),rfl,lcal,_,rfl,O.sq 9,fun q4 hq4=>?_⟩
    walk_at "nw"
    rw [rR] at O
    refine ⟨q3,q4,_,_,rfl,rfl,O.get 1,O.get 0,eX (by simp only [List.length_append,List.length_map,List.length_take,List.length_drop,List.length_cons,List.length_nil];omega),fun q5 hq5=>?_⟩
    walk_at "nw"
    refine ⟨_,rfl,tS,_,1,_,rfl,rfl,hTS.mo O.same,rfl,szl,fun q6 hq6=>?_⟩
    walk_at "nw"
    refine ⟨q5,q6,_,_,rfl,rfl,O.get 1,O.get 0,eX (by simp only [List.length_append,List.length_map,List.length_take,List.length_drop,List.length_cons,List.length_nil];omega),fun q7 hq7=>?_⟩
    walk_at "nw"
    have O:Ow T Hp2 _ ((q7,.lst ((cs.take sp).map V.int++[.int w0]++(cs.drop (sp + 1)).map V.int++[.int w1])) :: (RL C A r day (us.set sp (.ref t1)++[.ref t3]) (ns++[("b":Str)]) (ds++[.ref t2])++[(lcal,.lst (cs.map V.int)),(lm,.lst ((ls.map Lic.most).map V.int))])):=O.del 1 |>.del 1 |>.del 1 |>.del 1 |>.del 1 |>.del 1
    rw [show (cs.take sp).map V.int++[V.int w0]++(cs.drop (sp + 1)).map V.int++[V.int w1]=(cs.set sp w0++[w1]).map V.int by rw [← Tg (by omega)];simp only [List.map_append,List.map_cons,List.map_nil]] at O
    have hcs2:∀ c∈cs.set sp w0++[w1],0≤c:=fun y hy=>by
      rcases List.mem_append.mp hy with h | h
      · rcases List.mem_or_eq_of_mem_set h with h | h
        · exact hcs y h
        · rw [h];exact p0
      · rw [List.mem_singleton.mp h];exact p1
    have hlk2:∀ l'∈ls.set sp (wm l (l.most - m))++[wm l m],qJ r l':=fun y hy=>by
      have hk:=hlk l (List.mem_of_getElem? hl)
      rcases List.mem_append.mp hy with h | h
      · rcases List.mem_or_eq_of_mem_set h with h | h
        · exact hlk y h
        · rw [h];exact ⟨hk.1,by show 0≤l.most - m;omega⟩
      · rw [List.mem_singleton.mp h];exact ⟨hk.1,by show 0≤m;omega⟩
    have D2:=fun xs=>yK (r:=r) (s:=ss) (xs:=xs) hl hcq (show ls.length=cs.length by omega) hsum hal
    have c2l:(cs.set sp w0++[w1]).length=cs.length + 1:=by rw [List.length_append,List.length_set];rfl
    have l2l:(ls.set sp (wm l (l.most - m))++[wm l m]).length=ls.length + 1:=by rw [List.length_append,List.length_set];rfl
    generalize cs.set sp w0++[w1]=cs2 at O hcs2 D2 c2l
    generalize ls.set sp (wm l (l.most - m))++[wm l m]=ls2 at d2 hlk2 D2 l2l
    refine ⟨_,rfl,lb,_,rfl,.inl (hB.mo O.same),fun b1 hb1=>?_⟩
    walk_at "nw"
    refine ⟨_,rfl,lsp,_,rfl,.inl (hSp.mo O.same),fun b2 hb2=>?_⟩
    walk_at "nw"
    refine ⟨_,rfl,A.p,A.dx,_,rfl,O.get 3,rfl,A.p,A.dx,A.ll,_,_,rfl,O.get 3,rfl,O.sq 6,fun b3 hb3=>?_⟩
    walk_at "nw"
    refine ⟨_,rfl,b1,b2,q7,.ref b3,r,ss,ls2,cs2,rfl,⟨O.sq 2,hR,by omega⟩,O.sq 1,hss,hsn,.list (O.sq 0) (d2.mo O.same),by omega,O.sq 3,by omega,hlk2,hcs2,O.same.t1,O.yQ fun lx2 H14 xs2 O e=>?_⟩
    obtain ⟨zs,rfl,DZ⟩:=e
    have xl:=D1.len
    have zl:=DZ.len
    have hjx:jl zs ls.length sp=xs:=K6 (fun l hl=>(hls l hl).1.1.1) D1 (D2 zs DZ)
    obtain ⟨Hy,O,sn,en⟩:=O.o7 0
    have hX2:SqL K Hy lx2 (zs.map V.int):=SqL.of en
    have hX1:=hX1.mo sn
    have hX1':=kp sn hX1'
    have hC:=hC.mo sn
    have O:Ow T Hy H14 []:=O.sub (List.nil_sublist _)
    have hxm:(xs.map V.int).length=xs.length:=List.length_map _
    have hzm:(zs.map V.int).length=zs.length:=List.length_map _
    have g1:H14 lx1=some (.lst (xs.map V.int)):=kp O.same hX1'
    have g2:H14 lx2=some (.lst (zs.map V.int)):=kp O.same en
    refine ⟨_,rfl,_,_,_,true,rfl,.lst g1,Bp K,_,rfl,uo ?_⟩
    refine ⟨_,rfl,_,_,_,true,rfl,.lst g2,Bp K,_,rfl,uo ?_⟩
    refine ⟨_,rfl,lx2,_,rfl,.inl (hX2.mo O.same),_,rfl,lx1,_,rfl,.inl (hX1.mo O.same),_,_,rfl,rfl,rfl,_,rfl,ifN (ifI (fun _=>?_) fun hc=>absurd (by omega) hc)⟩
    refine ⟨_,rfl,_,rfl,lx1,lx2,_,_,rfl,rfl,g1,g2,eX (by omega),fun p1 hp1=>?_⟩
    walk_at "nw"
    rw [← List.map_append] at O
    refine ⟨p1,rfl,⟨_,O.sq 0⟩,fun lw hlw=>?_⟩
    refine jc (K:=K) (xs:=(xs++zs).map V.int) (fun i τ H'=>Iv (∃ (v0:Option V),τ=[v0]∧Ow T Hy H' [(lw,.lst (([]:List Int).map V.int)),(p1,.lst ((xs++zs).map V.int))])) ⟨trivial,none,rfl,O.mk' hlw rfl⟩ (fun i τ H' _ ⟨_,_,_,O⟩=>O.sq 1) ?_ ?_
    · clear O
      rintro j y τ H15 hy ⟨-,v0,rfl,O⟩
      obtain ⟨z,hz,rfl⟩:=ints_get hy
      exact ⟨_,rfl,z,rfl,_,rfl,uo ⟨trivial,_,rfl,O⟩⟩
    clear O
    rintro τ H15 ⟨-,v0,rfl,O⟩
    refine ⟨szl,fun l0 hl0=>?_⟩
    walk_at "nw"
    refine ⟨lw,l0,[],[],rfl,rfl,O.sq 1,O.sq 0,_,rfl,uo ?_⟩
    have O:Ow T Hy _ []:=O.tail.tail.tail
    refine ⟨_,rfl,lx1,_,rfl,.inl (hX1.mo O.same),_,rfl,lc,_,rfl,.inl (hC.mo O.same),rfl,_,rfl,ifN (ifI (fun _=>?_) fun hc=>absurd (by omega) hc)⟩
    have zlen:zs.length=ls.length + 1:=by omega
    refine ⟨_,rfl,_,rfl,(sp:Int),rfl,lx2,_,rfl,hX2.mo O.same,fun q1 hq1=>?_⟩
    walk_at "nw"
    rw [rQ] at O
    have gz:zs[sp]?=some (zs.getD sp 0):=cF (by omega)
    refine ⟨_,rfl,_,rfl,lx2,_,_,_,rfl,rfl,hX2.mo O.same,aY gz,_,rfl,1,rfl,lx2,_,_,_,rfl,rfl,hX2.mo O.same,ur (by omega),_,_,rfl,rfl,szl,fun q2 hq2=>?_⟩
    walk_at "nw"
    refine ⟨q1,q2,_,_,rfl,rfl,O.get 1,O.get 0,eX (by simp only [List.length_map,List.length_take,List.length_cons,List.length_nil];omega),fun q3 hq3=>?_⟩
    walk_at "nw"
    refine ⟨_,rfl,_,rfl,_,_,rfl,rfl,(sp:Int) + 1,rfl,1,rfl,(-1:Int),rfl,lx2,_,rfl,hX2.mo O.same,fun q4 hq4=>?_⟩
    walk_at "nw"
    rw [Vk zs sp ls.length zlen] at O
    refine ⟨q3,q4,_,_,rfl,rfl,O.get 1,O.get 0,eX (by simp only [List.length_append,List.length_map,List.length_take,List.length_drop,List.length_cons,List.length_nil];omega),fun q5 hq5=>?_⟩
    walk_at "nw"
    rw [show zs.length - 1=ls.length by omega] at O
    rw [show (zs.take sp).map V.int++[V.int (zs.getD sp 0 + zs.getD ls.length 0)]++((zs.drop (sp + 1)).take (ls.length - (sp + 1))).map V.int=xs.map V.int by rw [← hjx,← ZQ (by omega) zlen];simp only [List.map_append,List.map_cons,List.map_nil]] at O
    refine ⟨_,rfl,_,rfl,q5,lx1,xs,xs,rfl,rfl,O.sq 0,hX1.mo O.same,?_⟩
    rw [if_neg Bool.false_ne_true,decide_eq_true rfl]
    exact k _
end
theorem jd {K:PySem.W.Frag} {x qual:Str} {st:Stmt} {f:Addr} {fd:FuncData} {n0:Str} (F:Fun K x qual st f fd) (h:∀ (kV doc pm:Value) (an:Option Addr) (cdv ct u0:Value),bindArgs (PySem.W.fnOf x qual (aA st) (aq st) (ao st) .none kV doc pm an cdv ct) ⟨[u0],[]⟩=pure (([n0]:List Str).zip [u0])):Binds K fd [n0] [] :=
  F.binds (ps:=[n0]) fun kV doc pm an cdv ct us hl=>match us,hl with | [u0],_=>h kV doc pm an cdv ct u0
theorem iD {K:PySem.W.Frag} {x qual:Str} {st:Stmt} {f:Addr} {fd:FuncData} {n0 n1:Str} (F:Fun K x qual st f fd) (h:∀ (kV doc pm:Value) (an:Option Addr) (cdv ct u0 u1:Value),bindArgs (PySem.W.fnOf x qual (aA st) (aq st) (ao st) .none kV doc pm an cdv ct) ⟨[u0,u1],[]⟩=pure (([n0,n1]:List Str).zip [u0,u1])):Binds K fd [n0,n1] [] :=
  F.binds (ps:=[n0,n1]) fun kV doc pm an cdv ct us hl=>match us,hl with | [u0,u1],_=>h kV doc pm an cdv ct u0 u1
theorem qH {K:PySem.W.Frag} {x qual:Str} {st:Stmt} {f:Addr} {fd:FuncData} {n0 n1 n2:Str} (F:Fun K x qual st f fd) (h:∀ (kV doc pm:Value) (an:Option Addr) (cdv ct u0 u1 u2:Value),bindArgs (PySem.W.fnOf x qual (aA st) (aq st) (ao st) .none kV doc pm an cdv ct) ⟨[u0,u1,u2],[]⟩=pure (([n0,n1,n2]:List Str).zip [u0,u1,u2])):Binds K fd [n0,n1,n2] [] :=
  F.binds (ps:=[n0,n1,n2]) fun kV doc pm an cdv ct us hl=>match us,hl with | [u0,u1,u2],_=>h kV doc pm an cdv ct u0 u1 u2
theorem Jq {K:PySem.W.Frag} {x qual:Str} {st:Stmt} {f:Addr} {fd:FuncData} {n0 n1 n2 n3:Str} (F:Fun K x qual st f fd) (h:∀ (kV doc pm:Value) (an:Option Addr) (cdv ct u0 u1 u2 u3:Value),bindArgs (PySem.W.fnOf x qual (aA st) (aq st) (ao st) .none kV doc pm an cdv ct) ⟨[u0,u1,u2,u3],[]⟩=pure (([n0,n1,n2,n3]:List Str).zip [u0,u1,u2,u3])):Binds K fd [n0,n1,n2,n3] [] :=
  F.binds (ps:=[n0,n1,n2,n3]) fun kV doc pm an cdv ct us hl=>match us,hl with | [u0,u1,u2,u3],_=>h kV doc pm an cdv ct u0 u1 u2 u3
theorem Jp {K:PySem.W.Frag} {x qual:Str} {st:Stmt} {f:Addr} {fd:FuncData} {n0 n1 n2 n3 n4:Str} (F:Fun K x qual st f fd) (h:∀ (kV doc pm:Value) (an:Option Addr) (cdv ct u0 u1 u2 u3 u4:Value),bindArgs (PySem.W.fnOf x qual (aA st) (aq st) (ao st) .none kV doc pm an cdv ct) ⟨[u0,u1,u2,u3,u4],[]⟩=pure (([n0,n1,n2,n3,n4]:List Str).zip [u0,u1,u2,u3,u4])):Binds K fd [n0,n1,n2,n3,n4] [] :=
  F.binds (ps:=[n0,n1,n2,n3,n4]) fun kV doc pm an cdv ct us hl=>match us,hl with | [u0,u1,u2,u3,u4],_=>h kV doc pm an cdv ct u0 u1 u2 u3 u4
theorem all_mk {l:PySem.W.OpenLaw} {w:World} {K:PySem.W.Frag} {h:Heap} {mg:Str→Option Value} {fa f0 f1 f2 f3 f4 f5 f6 f7 f8 f9 f10 f11 f12 f13 f14 f15 f16 f17 f18 f19 f20 f21 f22 f23 f24 f25 f26 f27 f28 f29 f30 f31 f32 f33 cR_Roll fm_Roll___init__ fm_Roll_roll fm_Roll_turn fm_Roll_file dT_Roll_file fm_Roll_part fm_Roll_enter fm_Roll_is_alone fm_Roll_look_at_number fm_Roll_look_at_holder fm_Roll_look_at_room cX_NotYours cX_NotAlone cX_TooMuch pT0 cT0 pT1 cT1:Addr} (X:K.In h) (G:h.Ns mainGlobals mg) (hfa:mg "law"=some (.ref fa))
    {odM0 anM0 odM1 anM1 odM2 anM2 odM3 anM3 odM4 anM4 odM5 anM5 odM6 anM6 odM7 anM7 odM8 anM8 odM9 anM9:Option Addr} {slM0 slM1 slM2 slM3 slM4 slM5 slM6 slM7 slM8 slM9:Array (Option Value)} {ocM0 kVM0 dcM0 pmM0 cdM0 ctM0 ocM1 kVM1 dcM1 pmM1 cdM1 ctM1 ocM2 kVM2 dcM2 pmM2 cdM2 ctM2 ocM3 kVM3 dcM3 pmM3 cdM3 ctM3 ocM4 kVM4 dcM4 pmM4 cdM4 ctM4 ocM5 kVM5 dcM5 pmM5 cdM5 ctM5 ocM6 kVM6 dcM6 pmM6 cdM6 ctM6 ocM7 kVM7 dcM7 pmM7 cdM7 ctM7 ocM8 kVM8 dcM8 pmM8 cdM8 ctM8 ocM9 kVM9 dcM9 pmM9 cdM9 ctM9:Value} {oT_Roll_file:Obj}
    {od0 an0 od1 an1 od2 an2 od3 an3 od4 an4 od5 an5 od6 an6 od7 an7 od8 an8 od9 an9 od10 an10 od11 an11 od12 an12 od13 an13 od14 an14 od15 an15 od16 an16 od17 an17 od18 an18 od19 an19 od20 an20 od21 an21 od22 an22 od23 an23 od24 an24 od25 an25 od26 an26 od27 an27 od28 an28 od29 an29 od30 an30 od31 an31 od32 an32 od33 an33:Option Addr} {sl0 sl1 sl2 sl3 sl4 sl5 sl6 sl7 sl8 sl9 sl10 sl11 sl12 sl13 sl14 sl15 sl16 sl17 sl18 sl19 sl20 sl21 sl22 sl23 sl24 sl25 sl26 sl27 sl28 sl29 sl30 sl31 sl32 sl33:Array (Option Value)} {oc0 kV0 dc0 pm0 cd0 ct0 oc1 kV1 dc1 pm1 cd1 ct1 oc2 kV2 dc2 pm2 cd2 ct2 oc3 kV3 dc3 pm3 cd3 ct3 oc4 kV4 dc4 pm4 cd4 ct4 oc5 kV5 dc5 pm5 ct5 oc6 kV6 dc6 pm6 cd6 ct6 oc7 kV7 dc7 pm7 cd7 ct7 oc8 kV8 dc8 pm8 cd8 ct8 oc9 kV9 dc9 pm9 cd9 ct9 oc10 kV10 dc10 pm10 cd10 ct10 oc11 kV11 dc11 pm11 cd11 ct11 oc12 kV12 dc12 pm12 ct12 oc13 kV13 dc13 pm13 cd13 ct13 oc14 kV14 dc14 pm14 cd14 ct14 oc15 kV15 dc15 pm15 cd15 ct15 oc16 kV16 dc16 pm16 cd16 ct16 oc17 kV17 dc17 pm17 cd17 ct17 oc18 kV18 dc18 pm18 cd18 ct18 oc19 kV19 dc19 pm19 cd19 ct19 oc20 kV20 dc20 pm20 cd20 ct20 oc21 kV21 dc21 pm21 cd21 ct21 oc22 kV22 dc22 pm22 cd22 ct22 oc23 kV23 dc23 pm23 cd23 ct23 oc24 kV24 dc24 pm24 cd24 ct24 oc25 kV25 dc25 pm25 cd25 ct25 oc26 kV26 dc26 pm26 cd26 ct26 oc27 kV27 dc27 pm27 cd27 ct27 oc28 kV28 dc28 pm28 cd28 ct28 oc29 kV29 dc29 pm29 cd29 ct29 oc30 kV30 dc30 pm30 cd30 ct30 oc31 kV31 dc31 pm31 cd31 ct31 oc32 kV32 dc32 pm32 cd32 ct32 oc33 kV33 dc33 pm33 cd33 ct33:Value} {t0 t1 t2 t3 t4 t5 t6:Tok}
    (a0:PySem.W.nsIn K mainGlobals "is_water"=some (some (.ref f0))) (l0:K.lookup f0=some ⟨oc0,od0,.func (PySem.W.fnOf "is_water" "is_water" (aA fJ) (aq fJ) (ao fJ) .none kV0 dc0 pm0 an0 cd0 ct0),sl0⟩) (c0:PySem.W.codeIn K cd0 "is_water"=true) (k0:PySem.W.keepIn K (.ref f0)=true)
    (a1:PySem.W.nsIn K mainGlobals "is_name"=some (some (.ref f1))) (l1:K.lookup f1=some ⟨oc1,od1,.func (PySem.W.fnOf "is_name" "is_name" (aA gC) (aq gC) (ao gC) .none kV1 dc1 pm1 an1 cd1 ct1),sl1⟩) (c1:PySem.W.codeIn K cd1 "is_name"=true) (k1:PySem.W.keepIn K (.ref f1)=true)
    (a2:PySem.W.nsIn K mainGlobals "comes_to_mouth"=some (some (.ref f2))) (l2:K.lookup f2=some ⟨oc2,od2,.func (PySem.W.fnOf "comes_to_mouth" "comes_to_mouth" (aA bL) (aq bL) (ao bL) .none kV2 dc2 pm2 an2 cd2 ct2),sl2⟩) (c2:PySem.W.codeIn K cd2 "comes_to_mouth"=true) (k2:PySem.W.keepIn K (.ref f2)=true)
    (a3:PySem.W.nsIn K mainGlobals "is_river"=some (some (.ref f3))) (l3:K.lookup f3=some ⟨oc3,od3,.func (PySem.W.fnOf "is_river" "is_river" (aA dH) (aq dH) (ao dH) .none kV3 dc3 pm3 an3 cd3 ct3),sl3⟩) (c3:PySem.W.codeIn K cd3 "is_river"=true) (k3:PySem.W.keepIn K (.ref f3)=true)
    (a4:PySem.W.nsIn K mainGlobals "way_of"=some (some (.ref f4))) (l4:K.lookup f4=some ⟨oc4,od4,.func (PySem.W.fnOf "way_of" "way_of" (aA gW) (aq gW) (ao gW) .none kV4 dc4 pm4 an4 cd4 ct4),sl4⟩) (c4:PySem.W.codeIn K cd4 "way_of"=true) (k4:PySem.W.keepIn K (.ref f4)=true)
    (a5:PySem.W.nsIn K mainGlobals "tops_first"=some (some (.ref f5))) (l5:K.lookup f5=some ⟨oc5,od5,.func (PySem.W.fnOf "tops_first" "tops_first" (aA cI) (aq cI) (ao cI) .none kV5 dc5 pm5 an5 (.ref cT0) ct5),sl5⟩) (c5:PySem.W.codeIn K (.ref cT0) "tops_first"=true) (k5:PySem.W.keepIn K (.ref f5)=true)
    (a6:PySem.W.nsIn K mainGlobals "stretch_of"=some (some (.ref f6))) (l6:K.lookup f6=some ⟨oc6,od6,.func (PySem.W.fnOf "stretch_of" "stretch_of" (aA cR) (aq cR) (ao cR) .none kV6 dc6 pm6 an6 cd6 ct6),sl6⟩) (c6:PySem.W.codeIn K cd6 "stretch_of"=true) (k6:PySem.W.keepIn K (.ref f6)=true)
    (a7:PySem.W.nsIn K mainGlobals "is_licence"=some (some (.ref f7))) (l7:K.lookup f7=some ⟨oc7,od7,.func (PySem.W.fnOf "is_licence" "is_licence" (aA cW) (aq cW) (ao cW) .none kV7 dc7 pm7 an7 cd7 ct7),sl7⟩) (c7:PySem.W.codeIn K cd7 "is_licence"=true) (k7:PySem.W.keepIn K (.ref f7)=true)
    (a8:PySem.W.nsIn K mainGlobals "reaches_of"=some (some (.ref f8))) (l8:K.lookup f8=some ⟨oc8,od8,.func (PySem.W.fnOf "reaches_of" "reaches_of" (aA cU) (aq cU) (ao cU) .none kV8 dc8 pm8 an8 cd8 ct8),sl8⟩) (c8:PySem.W.codeIn K cd8 "reaches_of"=true) (k8:PySem.W.keepIn K (.ref f8)=true)
    (a9:PySem.W.nsIn K mainGlobals "day_filed"=some (some (.ref f9))) (l9:K.lookup f9=some ⟨oc9,od9,.func (PySem.W.fnOf "day_filed" "day_filed" (aA cN) (aq cN) (ao cN) .none kV9 dc9 pm9 an9 cd9 ct9),sl9⟩) (c9:PySem.W.codeIn K cd9 "day_filed"=true) (k9:PySem.W.keepIn K (.ref f9)=true)
    (a10:PySem.W.nsIn K mainGlobals "most_of"=some (some (.ref f10))) (l10:K.lookup f10=some ⟨oc10,od10,.func (PySem.W.fnOf "most_of" "most_of" (aA eU) (aq eU) (ao eU) .none kV10 dc10 pm10 an10 cd10 ct10),sl10⟩) (c10:PySem.W.codeIn K cd10 "most_of"=true) (k10:PySem.W.keepIn K (.ref f10)=true)
    (a11:PySem.W.nsIn K mainGlobals "with_most"=some (some (.ref f11))) (l11:K.lookup f11=some ⟨oc11,od11,.func (PySem.W.fnOf "with_most" "with_most" (aA dJ) (aq dJ) (ao dJ) .none kV11 dc11 pm11 an11 cd11 ct11),sl11⟩) (c11:PySem.W.codeIn K cd11 "with_most"=true) (k11:PySem.W.keepIn K (.ref f11)=true)
    (a12:PySem.W.nsIn K mainGlobals "ranked"=some (some (.ref f12))) (l12:K.lookup f12=some ⟨oc12,od12,.func (PySem.W.fnOf "ranked" "ranked" (aA iI) (aq iI) (ao iI) .none kV12 dc12 pm12 an12 (.ref cT1) ct12),sl12⟩) (c12:PySem.W.codeIn K (.ref cT1) "ranked"=true) (k12:PySem.W.keepIn K (.ref f12)=true)
    (a13:PySem.W.nsIn K mainGlobals "groups_of"=some (some (.ref f13))) (l13:K.lookup f13=some ⟨oc13,od13,.func (PySem.W.fnOf "groups_of" "groups_of" (aA dM) (aq dM) (ao dM) .none kV13 dc13 pm13 an13 cd13 ct13),sl13⟩) (c13:PySem.W.codeIn K cd13 "groups_of"=true) (k13:PySem.W.keepIn K (.ref f13)=true)
    (a14:PySem.W.nsIn K mainGlobals "wants_of"=some (some (.ref f14))) (l14:K.lookup f14=some ⟨oc14,od14,.func (PySem.W.fnOf "wants_of" "wants_of" (aA eE) (aq eE) (ao eE) .none kV14 dc14 pm14 an14 cd14 ct14),sl14⟩) (c14:PySem.W.codeIn K cd14 "wants_of"=true) (k14:PySem.W.keepIn K (.ref f14)=true)
    (a15:PySem.W.nsIn K mainGlobals "look_at_name"=some (some (.ref f15))) (l15:K.lookup f15=some ⟨oc15,od15,.func (PySem.W.fnOf "look_at_name" "look_at_name" (aA bQ) (aq bQ) (ao bQ) .none kV15 dc15 pm15 an15 cd15 ct15),sl15⟩) (c15:PySem.W.codeIn K cd15 "look_at_name"=true) (k15:PySem.W.keepIn K (.ref f15)=true)
    (a16:PySem.W.nsIn K mainGlobals "natural_of"=some (some (.ref f16))) (l16:K.lookup f16=some ⟨oc16,od16,.func (PySem.W.fnOf "natural_of" "natural_of" (aA cV) (aq cV) (ao cV) .none kV16 dc16 pm16 an16 cd16 ct16),sl16⟩) (c16:PySem.W.codeIn K cd16 "natural_of"=true) (k16:PySem.W.keepIn K (.ref f16)=true)
    (a17:PySem.W.nsIn K mainGlobals "count_ways"=some (some (.ref f17))) (l17:K.lookup f17=some ⟨oc17,od17,.func (PySem.W.fnOf "count_ways" "count_ways" (aA cZ) (aq cZ) (ao cZ) .none kV17 dc17 pm17 an17 cd17 ct17),sl17⟩) (c17:PySem.W.codeIn K cd17 "count_ways"=true) (k17:PySem.W.keepIn K (.ref f17)=true)
    (a18:PySem.W.nsIn K mainGlobals "whole_turns"=some (some (.ref f18))) (l18:K.lookup f18=some ⟨oc18,od18,.func (PySem.W.fnOf "whole_turns" "whole_turns" (aA bZ) (aq bZ) (ao bZ) .none kV18 dc18 pm18 an18 cd18 ct18),sl18⟩) (c18:PySem.W.codeIn K cd18 "whole_turns"=true) (k18:PySem.W.keepIn K (.ref f18)=true)
    (a19:PySem.W.nsIn K mainGlobals "draw"=some (some (.ref f19))) (l19:K.lookup f19=some ⟨oc19,od19,.func (PySem.W.fnOf "draw" "draw" (aA lX) (aq lX) (ao lX) .none kV19 dc19 pm19 an19 cd19 ct19),sl19⟩) (c19:PySem.W.codeIn K cd19 "draw"=true) (k19:PySem.W.keepIn K (.ref f19)=true)
    (a20:PySem.W.nsIn K mainGlobals "take_whole_turns"=some (some (.ref f20))) (l20:K.lookup f20=some ⟨oc20,od20,.func (PySem.W.fnOf "take_whole_turns" "take_whole_turns" (aA aP) (aq aP) (ao aP) .none kV20 dc20 pm20 an20 cd20 ct20),sl20⟩) (c20:PySem.W.codeIn K cd20 "take_whole_turns"=true) (k20:PySem.W.keepIn K (.ref f20)=true)
    (a21:PySem.W.nsIn K mainGlobals "take_one_turn"=some (some (.ref f21))) (l21:K.lookup f21=some ⟨oc21,od21,.func (PySem.W.fnOf "take_one_turn" "take_one_turn" (aA bG) (aq bG) (ao bG) .none kV21 dc21 pm21 an21 cd21 ct21),sl21⟩) (c21:PySem.W.codeIn K cd21 "take_one_turn"=true) (k21:PySem.W.keepIn K (.ref f21)=true)
    (a22:PySem.W.nsIn K mainGlobals "deal_turns"=some (some (.ref f22))) (l22:K.lookup f22=some ⟨oc22,od22,.func (PySem.W.fnOf "deal_turns" "deal_turns" (aA cX) (aq cX) (ao cX) .none kV22 dc22 pm22 an22 cd22 ct22),sl22⟩) (c22:PySem.W.codeIn K cd22 "deal_turns"=true) (k22:PySem.W.keepIn K (.ref f22)=true)
    (a23:PySem.W.nsIn K mainGlobals "deal"=some (some (.ref f23))) (l23:K.lookup f23=some ⟨oc23,od23,.func (PySem.W.fnOf "deal" "deal" (aA lC) (aq lC) (ao lC) .none kV23 dc23 pm23 an23 cd23 ct23),sl23⟩) (c23:PySem.W.codeIn K cd23 "deal"=true) (k23:PySem.W.keepIn K (.ref f23)=true)
    (a24:PySem.W.nsIn K mainGlobals "_law_cell_at"=some (some (.ref f24))) (l24:K.lookup f24=some ⟨oc24,od24,.func (PySem.W.fnOf "_law_cell_at" "_law_cell_at" (aA cC) (aq cC) (ao cC) .none kV24 dc24 pm24 an24 cd24 ct24),sl24⟩) (c24:PySem.W.codeIn K cd24 "_law_cell_at"=true) (k24:PySem.W.keepIn K (.ref f24)=true)
    (a25:PySem.W.nsIn K mainGlobals "_law_whole"=some (some (.ref f25))) (l25:K.lookup f25=some ⟨oc25,od25,.func (PySem.W.fnOf "_law_whole" "_law_whole" (aA dh) (aq dh) (ao dh) .none kV25 dc25 pm25 an25 cd25 ct25),sl25⟩) (c25:PySem.W.codeIn K cd25 "_law_whole"=true) (k25:PySem.W.keepIn K (.ref f25)=true)
    (a26:PySem.W.nsIn K mainGlobals "_law_draw"=some (some (.ref f26))) (l26:K.lookup f26=some ⟨oc26,od26,.func (PySem.W.fnOf "_law_draw" "_law_draw" (aA dO) (aq dO) (ao dO) .none kV26 dc26 pm26 an26 cd26 ct26),sl26⟩) (c26:PySem.W.codeIn K cd26 "_law_draw"=true) (k26:PySem.W.keepIn K (.ref f26)=true)
    (a27:PySem.W.nsIn K mainGlobals "_law_draws"=some (some (.ref f27))) (l27:K.lookup f27=some ⟨oc27,od27,.func (PySem.W.fnOf "_law_draws" "_law_draws" (aA cB) (aq cB) (ao cB) .none kV27 dc27 pm27 an27 cd27 ct27),sl27⟩) (c27:PySem.W.codeIn K cd27 "_law_draws"=true) (k27:PySem.W.keepIn K (.ref f27)=true)
    (a28:PySem.W.nsIn K mainGlobals "_law_river"=some (some (.ref f28))) (l28:K.lookup f28=some ⟨oc28,od28,.func (PySem.W.fnOf "_law_river" "_law_river" (aA cu) (aq cu) (ao cu) .none kV28 dc28 pm28 an28 cd28 ct28),sl28⟩) (c28:PySem.W.codeIn K cd28 "_law_river"=true) (k28:PySem.W.keepIn K (.ref f28)=true)
    (a29:PySem.W.nsIn K mainGlobals "_law_way"=some (some (.ref f29))) (l29:K.lookup f29=some ⟨oc29,od29,.func (PySem.W.fnOf "_law_way" "_law_way" (aA fL) (aq fL) (ao fL) .none kV29 dc29 pm29 an29 cd29 ct29),sl29⟩) (c29:PySem.W.codeIn K cd29 "_law_way"=true) (k29:PySem.W.keepIn K (.ref f29)=true)
    (a30:PySem.W.nsIn K mainGlobals "_law_amount"=some (some (.ref f30))) (l30:K.lookup f30=some ⟨oc30,od30,.func (PySem.W.fnOf "_law_amount" "_law_amount" (aA cg) (aq cg) (ao cg) .none kV30 dc30 pm30 an30 cd30 ct30),sl30⟩) (c30:PySem.W.codeIn K cd30 "_law_amount"=true) (k30:PySem.W.keepIn K (.ref f30)=true)
    (a31:PySem.W.nsIn K mainGlobals "_law_file"=some (some (.ref f31))) (l31:K.lookup f31=some ⟨oc31,od31,.func (PySem.W.fnOf "_law_file" "_law_file" (aA dN) (aq dN) (ao dN) .none kV31 dc31 pm31 an31 cd31 ct31),sl31⟩) (c31:PySem.W.codeIn K cd31 "_law_file"=true) (k31:PySem.W.keepIn K (.ref f31)=true)
    (a32:PySem.W.nsIn K mainGlobals "_law_split"=some (some (.ref f32))) (l32:K.lookup f32=some ⟨oc32,od32,.func (PySem.W.fnOf "_law_split" "_law_split" (aA dw) (aq dw) (ao dw) .none kV32 dc32 pm32 an32 cd32 ct32),sl32⟩) (c32:PySem.W.codeIn K cd32 "_law_split"=true) (k32:PySem.W.keepIn K (.ref f32)=true)
    (a33:PySem.W.nsIn K mainGlobals "law"=some (some (.ref f33))) (l33:K.lookup f33=some ⟨oc33,od33,.func (PySem.W.fnOf "law" "law" (aA nJ) (aq nJ) (ao nJ) .none kV33 dc33 pm33 an33 cd33 ct33),sl33⟩) (c33:PySem.W.codeIn K cd33 "law"=true) (k33:PySem.W.keepIn K (.ref f33)=true)
    (e0:PySem.W.nsIn K mainGlobals "MOST_WATER"=some (some (.int (1000000000000) t0)))
    (e1:PySem.W.nsIn K mainGlobals "LONGEST_NAME"=some (some (.int (8) t1)))
    (e2:PySem.W.nsIn K mainGlobals "LETTERS"=some (some (.str "abcdefghijklmnopqrstuvwxyz" t2)))
    (e3:PySem.W.nsIn K mainGlobals "MOST_REACHES"=some (some (.int (40) t3)))
    (e4:PySem.W.nsIn K mainGlobals "MOUTH"=some (some (.int (-1) t4)))
    (e5:PySem.W.nsIn K mainGlobals "LAST_DAY"=some (some (.int (1000000) t5)))
    (e6:PySem.W.nsIn K mainGlobals "MOST_LICENCES"=some (some (.int (60) t6)))
    (n_Roll:PySem.W.nsIn K mainGlobals "Roll"=some (some (.ref cR_Roll))) (ka_Roll:PySem.W.plainGet K cR_Roll Str.empty=true) (kb_Roll:PySem.W.hasDictIn K cR_Roll=true) (kc_Roll:PySem.W.plainOver K cR_Roll=true) (kd_Roll:PySem.W.findIn K (.ref cR_Roll) "__setattr__"=some (some (.builtin "object.__setattr__")))
    (ke_Roll:PySem.W.makesIn K cR_Roll=true) (kf_Roll:PySem.W.keepIn K (.ref cR_Roll)=true)
    (kn_Roll_below:PySem.W.findIn K (.ref cR_Roll) "below"=some none)
    (kn_Roll_day:PySem.W.findIn K (.ref cR_Roll) "day"=some none)
    (kn_Roll_licences:PySem.W.findIn K (.ref cR_Roll) "licences"=some none)
    (kn_Roll_names:PySem.W.findIn K (.ref cR_Roll) "names"=some none)
    (kn_Roll_done:PySem.W.findIn K (.ref cR_Roll) "done"=some none)
    (ma_Roll___init__:PySem.W.findIn K (.ref cR_Roll) "__init__"=some (some (.ref fm_Roll___init__))) (mf_Roll___init__:PySem.W.isFn K (.ref fm_Roll___init__)=true) (mk_Roll___init__:PySem.W.keepIn K (.ref fm_Roll___init__)=true) (ml_Roll___init__:K.lookup fm_Roll___init__=some ⟨ocM0,odM0,.func (PySem.W.fnOf "__init__" "Roll.__init__" (aA bR) (aq bR) (ao bR) .none kVM0 dcM0 pmM0 anM0 cdM0 ctM0),slM0⟩) (mc_Roll___init__:PySem.W.codeIn K cdM0 "Roll.__init__"=true)
    (ma_Roll_roll:PySem.W.findIn K (.ref cR_Roll) "roll"=some (some (.ref fm_Roll_roll))) (mf_Roll_roll:PySem.W.isFn K (.ref fm_Roll_roll)=true) (mk_Roll_roll:PySem.W.keepIn K (.ref fm_Roll_roll)=true) (ml_Roll_roll:K.lookup fm_Roll_roll=some ⟨ocM1,odM1,.func (PySem.W.fnOf "roll" "Roll.roll" (aA dU) (aq dU) (ao dU) .none kVM1 dcM1 pmM1 anM1 cdM1 ctM1),slM1⟩) (mc_Roll_roll:PySem.W.codeIn K cdM1 "Roll.roll"=true)
    (ma_Roll_turn:PySem.W.findIn K (.ref cR_Roll) "turn"=some (some (.ref fm_Roll_turn))) (mf_Roll_turn:PySem.W.isFn K (.ref fm_Roll_turn)=true) (mk_Roll_turn:PySem.W.keepIn K (.ref fm_Roll_turn)=true) (ml_Roll_turn:K.lookup fm_Roll_turn=some ⟨ocM2,odM2,.func (PySem.W.fnOf "turn" "Roll.turn" (aA dR) (aq dR) (ao dR) .none kVM2 dcM2 pmM2 anM2 cdM2 ctM2),slM2⟩) (mc_Roll_turn:PySem.W.codeIn K cdM2 "Roll.turn"=true)
    (ma_Roll_file:PySem.W.findIn K (.ref cR_Roll) "file"=some (some (.ref fm_Roll_file))) (mf_Roll_file:PySem.W.isFn K (.ref fm_Roll_file)=true) (mk_Roll_file:PySem.W.keepIn K (.ref fm_Roll_file)=true) (ml_Roll_file:K.lookup fm_Roll_file=some ⟨ocM3,odM3,.func (PySem.W.fnOf "file" "Roll.file" (aA dX) (aq dX) (ao dX) (.ref dT_Roll_file) kVM3 dcM3 pmM3 anM3 cdM3 ctM3),slM3⟩) (mc_Roll_file:PySem.W.codeIn K cdM3 "Roll.file"=true)
    (mt_Roll_file:K.lookup dT_Roll_file=some oT_Roll_file) (mu_Roll_file:∃ n,oT_Roll_file.data=.seq #[.none] n)
    (ma_Roll_part:PySem.W.findIn K (.ref cR_Roll) "part"=some (some (.ref fm_Roll_part))) (mf_Roll_part:PySem.W.isFn K (.ref fm_Roll_part)=true) (mk_Roll_part:PySem.W.keepIn K (.ref fm_Roll_part)=true) (ml_Roll_part:K.lookup fm_Roll_part=some ⟨ocM4,odM4,.func (PySem.W.fnOf "part" "Roll.part" (aA dW) (aq dW) (ao dW) .none kVM4 dcM4 pmM4 anM4 cdM4 ctM4),slM4⟩) (mc_Roll_part:PySem.W.codeIn K cdM4 "Roll.part"=true)
    (ma_Roll_enter:PySem.W.findIn K (.ref cR_Roll) "enter"=some (some (.ref fm_Roll_enter))) (mf_Roll_enter:PySem.W.isFn K (.ref fm_Roll_enter)=true) (mk_Roll_enter:PySem.W.keepIn K (.ref fm_Roll_enter)=true) (ml_Roll_enter:K.lookup fm_Roll_enter=some ⟨ocM5,odM5,.func (PySem.W.fnOf "enter" "Roll.enter" (aA cJ) (aq cJ) (ao cJ) .none kVM5 dcM5 pmM5 anM5 cdM5 ctM5),slM5⟩) (mc_Roll_enter:PySem.W.codeIn K cdM5 "Roll.enter"=true)
    (ma_Roll_is_alone:PySem.W.findIn K (.ref cR_Roll) "is_alone"=some (some (.ref fm_Roll_is_alone))) (mf_Roll_is_alone:PySem.W.isFn K (.ref fm_Roll_is_alone)=true) (mk_Roll_is_alone:PySem.W.keepIn K (.ref fm_Roll_is_alone)=true) (ml_Roll_is_alone:K.lookup fm_Roll_is_alone=some ⟨ocM6,odM6,.func (PySem.W.fnOf "is_alone" "Roll.is_alone" (aA bH) (aq bH) (ao bH) .none kVM6 dcM6 pmM6 anM6 cdM6 ctM6),slM6⟩) (mc_Roll_is_alone:PySem.W.codeIn K cdM6 "Roll.is_alone"=true)
    (ma_Roll_look_at_number:PySem.W.findIn K (.ref cR_Roll) "look_at_number"=some (some (.ref fm_Roll_look_at_number))) (mf_Roll_look_at_number:PySem.W.isFn K (.ref fm_Roll_look_at_number)=true) (mk_Roll_look_at_number:PySem.W.keepIn K (.ref fm_Roll_look_at_number)=true) (ml_Roll_look_at_number:K.lookup fm_Roll_look_at_number=some ⟨ocM7,odM7,.func (PySem.W.fnOf "look_at_number" "Roll.look_at_number" (aA aQ) (aq aQ) (ao aQ) .none kVM7 dcM7 pmM7 anM7 cdM7 ctM7),slM7⟩) (mc_Roll_look_at_number:PySem.W.codeIn K cdM7 "Roll.look_at_number"=true)
    (ma_Roll_look_at_holder:PySem.W.findIn K (.ref cR_Roll) "look_at_holder"=some (some (.ref fm_Roll_look_at_holder))) (mf_Roll_look_at_holder:PySem.W.isFn K (.ref fm_Roll_look_at_holder)=true) (mk_Roll_look_at_holder:PySem.W.keepIn K (.ref fm_Roll_look_at_holder)=true) (ml_Roll_look_at_holder:K.lookup fm_Roll_look_at_holder=some ⟨ocM8,odM8,.func (PySem.W.fnOf "look_at_holder" "Roll.look_at_holder" (aA aR) (aq aR) (ao aR) .none kVM8 dcM8 pmM8 anM8 cdM8 ctM8),slM8⟩) (mc_Roll_look_at_holder:PySem.W.codeIn K cdM8 "Roll.look_at_holder"=true)
    (ma_Roll_look_at_room:PySem.W.findIn K (.ref cR_Roll) "look_at_room"=some (some (.ref fm_Roll_look_at_room))) (mf_Roll_look_at_room:PySem.W.isFn K (.ref fm_Roll_look_at_room)=true) (mk_Roll_look_at_room:PySem.W.keepIn K (.ref fm_Roll_look_at_room)=true) (ml_Roll_look_at_room:K.lookup fm_Roll_look_at_room=some ⟨ocM9,odM9,.func (PySem.W.fnOf "look_at_room" "Roll.look_at_room" (aA aV) (aq aV) (ao aV) .none kVM9 dcM9 pmM9 anM9 cdM9 ctM9),slM9⟩) (mc_Roll_look_at_room:PySem.W.codeIn K cdM9 "Roll.look_at_room"=true)
    (z_len:PySem.W.nsIn K mainGlobals "len"=some none)
    (z_range:PySem.W.nsIn K mainGlobals "range"=some none)
    (z_list:PySem.W.nsIn K mainGlobals "list"=some none)
    (z_isinstance:PySem.W.nsIn K mainGlobals "isinstance"=some none)
    (z_bool:PySem.W.nsIn K mainGlobals "bool"=some none)
    (z_int:PySem.W.nsIn K mainGlobals "int"=some none)
    (z_all:PySem.W.nsIn K mainGlobals "all"=some none)
    (z_min:PySem.W.nsIn K mainGlobals "min"=some none)
    (z_max:PySem.W.nsIn K mainGlobals "max"=some none)
    (z_sum:PySem.W.nsIn K mainGlobals "sum"=some none)
    (z_sorted:PySem.W.nsIn K mainGlobals "sorted"=some none)
    (z_zip:PySem.W.nsIn K mainGlobals "zip"=some none)
    (z_tuple:PySem.W.nsIn K mainGlobals "tuple"=some none)
    (z_str:PySem.W.nsIn K mainGlobals "str"=some none)
    (z_any:PySem.W.nsIn K mainGlobals "any"=some none)
    (z_enumerate:PySem.W.nsIn K mainGlobals "enumerate"=some none)
    (z_reversed:PySem.W.nsIn K mainGlobals "reversed"=some none)
    (z_abs:PySem.W.nsIn K mainGlobals "abs"=some none)
    (z_ValueError:PySem.W.nsIn K mainGlobals "ValueError"=some none)
    (z_set:PySem.W.nsIn K mainGlobals "set"=some none)
    (n_NotYours:PySem.W.nsIn K mainGlobals "NotYours"=some (some (.ref cX_NotYours))) (q_NotYours:PySem.W.excIn K cX_NotYours Vm "ValueError.__new__"=true)
    (xa_NotYours:PySem.W.findIn K (.ref cX_NotYours) "__getattribute__"=some (some (.builtin "BaseException.__getattribute__"))) (xb_NotYours:PySem.W.findIn K (.ref cX_NotYours) "__getattr__"=some none) (xc_NotYours:PySem.W.findIn K (.ref cX_NotYours) "__class__"=some (some (.builtin "object.__class__")))
    (xd_NotYours:PySem.W.specialIn K (.builtin "object.__class__") "__get__"=some (some (.builtin "getset_descriptor.__get__"))) (xe_NotYours:PySem.W.takesIn K (.builtin "object.__class__")=some true) (xf_NotYours:PySem.W.mroIn K cX_NotYours (.type "object")=some true) (xg_NotYours:PySem.W.mroIn K cX_NotYours (.type "BaseException")=some true) (xh_NotYours:(PySem.W.clsIn K cX_NotYours).isSome=true)
    (n_NotAlone:PySem.W.nsIn K mainGlobals "NotAlone"=some (some (.ref cX_NotAlone))) (q_NotAlone:PySem.W.excIn K cX_NotAlone Vm "ValueError.__new__"=true)
    (xa_NotAlone:PySem.W.findIn K (.ref cX_NotAlone) "__getattribute__"=some (some (.builtin "BaseException.__getattribute__"))) (xb_NotAlone:PySem.W.findIn K (.ref cX_NotAlone) "__getattr__"=some none) (xc_NotAlone:PySem.W.findIn K (.ref cX_NotAlone) "__class__"=some (some (.builtin "object.__class__")))
    (xd_NotAlone:PySem.W.specialIn K (.builtin "object.__class__") "__get__"=some (some (.builtin "getset_descriptor.__get__"))) (xe_NotAlone:PySem.W.takesIn K (.builtin "object.__class__")=some true) (xf_NotAlone:PySem.W.mroIn K cX_NotAlone (.type "object")=some true) (xg_NotAlone:PySem.W.mroIn K cX_NotAlone (.type "BaseException")=some true) (xh_NotAlone:(PySem.W.clsIn K cX_NotAlone).isSome=true)
    (n_TooMuch:PySem.W.nsIn K mainGlobals "TooMuch"=some (some (.ref cX_TooMuch))) (q_TooMuch:PySem.W.excIn K cX_TooMuch Vm "ValueError.__new__"=true)
    (xa_TooMuch:PySem.W.findIn K (.ref cX_TooMuch) "__getattribute__"=some (some (.builtin "BaseException.__getattribute__"))) (xb_TooMuch:PySem.W.findIn K (.ref cX_TooMuch) "__getattr__"=some none) (xc_TooMuch:PySem.W.findIn K (.ref cX_TooMuch) "__class__"=some (some (.builtin "object.__class__")))
    (xd_TooMuch:PySem.W.specialIn K (.builtin "object.__class__") "__get__"=some (some (.builtin "getset_descriptor.__get__"))) (xe_TooMuch:PySem.W.takesIn K (.builtin "object.__class__")=some true) (xf_TooMuch:PySem.W.mroIn K cX_TooMuch (.type "object")=some true) (xg_TooMuch:PySem.W.mroIn K cX_TooMuch (.type "BaseException")=some true) (xh_TooMuch:(PySem.W.clsIn K cX_TooMuch).isSome=true)
    (y0:PySem.W.codeHdIn K cT0 pT0=true)
    (y1:PySem.W.codeHdIn K cT1 pT1=true)
    (dd0_1:pT0≠pT1)
    : ∃ fd:FuncData,(∀ (s:Shared) (v:Value),BindsTo s fd ⟨[v],[]⟩ [("script",v)])∧∀ base:Heap,K.In base→base.Ns mainGlobals mg→BM mg base→bN l.prog w K mg base CX0 9 fa fd ["script"] (wR K [(pT0,cO.1,cO.2),(pT1,bK.1,bK.2)]):=by
  have e:=hfa.symm.trans (PySem.W.mg_of X G a33)
  cases e
  have B:Blt mg:=⟨PySem.W.mg_none_of X G z_len,PySem.W.mg_none_of X G z_range,PySem.W.mg_none_of X G z_list,PySem.W.mg_none_of X G z_isinstance,PySem.W.mg_none_of X G z_bool,PySem.W.mg_none_of X G z_int,PySem.W.mg_none_of X G z_all,PySem.W.mg_none_of X G z_min,PySem.W.mg_none_of X G z_max,PySem.W.mg_none_of X G z_sum,PySem.W.mg_none_of X G z_sorted,PySem.W.mg_none_of X G z_zip,PySem.W.mg_none_of X G z_tuple,PySem.W.mg_none_of X G z_str,PySem.W.mg_none_of X G z_any,PySem.W.mg_none_of X G z_enumerate,PySem.W.mg_none_of X G z_reversed,PySem.W.mg_none_of X G z_abs,PySem.W.mg_none_of X G z_ValueError,PySem.W.mg_none_of X G z_set⟩
  have h_MOST_WATER:∃ t,mg "MOST_WATER"=some (.int (1000000000000) t):=⟨_,PySem.W.mg_of X G e0⟩
  have h_LONGEST_NAME:∃ t,mg "LONGEST_NAME"=some (.int (8) t):=⟨_,PySem.W.mg_of X G e1⟩
  have h_LETTERS:∃ t,mg "LETTERS"=some (.str "abcdefghijklmnopqrstuvwxyz" t):=⟨_,PySem.W.mg_of X G e2⟩
  have h_MOST_REACHES:∃ t,mg "MOST_REACHES"=some (.int (40) t):=⟨_,PySem.W.mg_of X G e3⟩
  have h_MOUTH:∃ t,mg "MOUTH"=some (.int (-1) t):=⟨_,PySem.W.mg_of X G e4⟩
  have h_LAST_DAY:∃ t,mg "LAST_DAY"=some (.int (1000000) t):=⟨_,PySem.W.mg_of X G e5⟩
  have h_MOST_LICENCES:∃ t,mg "MOST_LICENCES"=some (.int (60) t):=⟨_,PySem.W.mg_of X G e6⟩
  have FM_Roll___init__:=bC (st:=bR) ml_Roll___init__ mc_Roll___init__ mk_Roll___init__
  have gG:Dm K cR_Roll "__init__" "Roll.__init__" bR ["self","below"] fm_Roll___init__ _:=⟨FM_Roll___init__,iD FM_Roll___init__ (fun _ _ _ _ _ _ _ _=>rfl),⟨ma_Roll___init__,mf_Roll___init__,mk_Roll___init__⟩⟩
  have FM_Roll_roll:=bC (st:=dU) ml_Roll_roll mc_Roll_roll mk_Roll_roll
  have fu:Dm K cR_Roll "roll" "Roll.roll" dU ["self"] fm_Roll_roll _:=⟨FM_Roll_roll,jd FM_Roll_roll (fun _ _ _ _ _ _ _=>rfl),⟨ma_Roll_roll,mf_Roll_roll,mk_Roll_roll⟩⟩
  have FM_Roll_turn:=bC (st:=dR) ml_Roll_turn mc_Roll_turn mk_Roll_turn
  have je:Dm K cR_Roll "turn" "Roll.turn" dR ["self"] fm_Roll_turn _:=⟨FM_Roll_turn,jd FM_Roll_turn (fun _ _ _ _ _ _ _=>rfl),⟨ma_Roll_turn,mf_Roll_turn,mk_Roll_turn⟩⟩
  obtain ⟨nT_Roll_file,mu_Roll_file⟩:=mu_Roll_file
  have FM_Roll_file:Vy K "file" "Roll.file" dX [.none] fm_Roll_file _:=⟨⟨_,_,_,_,_,_,_,_,_,_,_,_,rfl,ml_Roll_file,mc_Roll_file,mt_Roll_file,mu_Roll_file⟩,mk_Roll_file⟩
  have fB:DmD K cR_Roll "file" "Roll.file" dX ["self","holder","start","most","back"] fm_Roll_file _:=⟨FM_Roll_file,FM_Roll_file.binds (fun _ _ _ _ _ _ _ us hl=>match us,(show us.length=5 by simpa using hl) with | [u0,u1,u2,u3,u4],_=>⟨_,rfl,rfl⟩),FM_Roll_file.binds (fun _ _ _ _ _ _ _ us hl=>match us,(show us.length=4 by simpa using hl) with | [u0,u1,u2,u3],_=>⟨_,rfl,rfl⟩),⟨ma_Roll_file,mf_Roll_file,mk_Roll_file⟩⟩
  have FM_Roll_part:=bC (st:=dW) ml_Roll_part mc_Roll_part mk_Roll_part
  have jf:Dm K cR_Roll "part" "Roll.part" dW ["self","number","holder","most","to"] fm_Roll_part _:=⟨FM_Roll_part,Jp FM_Roll_part (fun _ _ _ _ _ _ _ _ _ _ _=>rfl),⟨ma_Roll_part,mf_Roll_part,mk_Roll_part⟩⟩
  have FM_Roll_enter:=bC (st:=cJ) ml_Roll_enter mc_Roll_enter mk_Roll_enter
  have cM:Dm K cR_Roll "enter" "Roll.enter" cJ ["self","one","holder"] fm_Roll_enter _:=⟨FM_Roll_enter,qH FM_Roll_enter (fun _ _ _ _ _ _ _ _ _=>rfl),⟨ma_Roll_enter,mf_Roll_enter,mk_Roll_enter⟩⟩
  have FM_Roll_is_alone:=bC (st:=bH) ml_Roll_is_alone mc_Roll_is_alone mk_Roll_is_alone
  have dZ:Dm K cR_Roll "is_alone" "Roll.is_alone" bH ["self","number"] fm_Roll_is_alone _:=⟨FM_Roll_is_alone,iD FM_Roll_is_alone (fun _ _ _ _ _ _ _ _=>rfl),⟨ma_Roll_is_alone,mf_Roll_is_alone,mk_Roll_is_alone⟩⟩
  have FM_Roll_look_at_number:=bC (st:=aQ) ml_Roll_look_at_number mc_Roll_look_at_number mk_Roll_look_at_number
  have bU:Dm K cR_Roll "look_at_number" "Roll.look_at_number" aQ ["self","number"] fm_Roll_look_at_number _:=⟨FM_Roll_look_at_number,iD FM_Roll_look_at_number (fun _ _ _ _ _ _ _ _=>rfl),⟨ma_Roll_look_at_number,mf_Roll_look_at_number,mk_Roll_look_at_number⟩⟩
  have FM_Roll_look_at_holder:=bC (st:=aR) ml_Roll_look_at_holder mc_Roll_look_at_holder mk_Roll_look_at_holder
  have bV:Dm K cR_Roll "look_at_holder" "Roll.look_at_holder" aR ["self","number","holder"] fm_Roll_look_at_holder _:=⟨FM_Roll_look_at_holder,qH FM_Roll_look_at_holder (fun _ _ _ _ _ _ _ _ _=>rfl),⟨ma_Roll_look_at_holder,mf_Roll_look_at_holder,mk_Roll_look_at_holder⟩⟩
  have FM_Roll_look_at_room:=bC (st:=aV) ml_Roll_look_at_room mc_Roll_look_at_room mk_Roll_look_at_room
  have aX:Dm K cR_Roll "look_at_room" "Roll.look_at_room" aV ["self"] fm_Roll_look_at_room _:=⟨FM_Roll_look_at_room,jd FM_Roll_look_at_room (fun _ _ _ _ _ _ _=>rfl),⟨ma_Roll_look_at_room,mf_Roll_look_at_room,mk_Roll_look_at_room⟩⟩
  have R_Roll:Cl K mg "Roll" cR_Roll fm_Roll___init__ ["below","day","licences","names","done"]:=⟨⟨ka_Roll,kb_Roll,kc_Roll,kd_Roll⟩,⟨ke_Roll,ma_Roll___init__,mf_Roll___init__,kf_Roll⟩,PySem.W.mg_of X G n_Roll,by
    simp only [List.mem_cons,List.not_mem_nil,or_false,forall_eq_or_imp,forall_eq]
    exact ⟨kn_Roll_below,kn_Roll_day,kn_Roll_licences,kn_Roll_names,kn_Roll_done⟩⟩
  have X_NotYours:Vz K mg "NotYours" cX_NotYours:=⟨PySem.W.mg_of X G n_NotYours,q_NotYours,⟨xa_NotYours,xb_NotYours,xc_NotYours,xd_NotYours,xe_NotYours,xf_NotYours,xg_NotYours,xh_NotYours⟩⟩
  have X_NotAlone:Vz K mg "NotAlone" cX_NotAlone:=⟨PySem.W.mg_of X G n_NotAlone,q_NotAlone,⟨xa_NotAlone,xb_NotAlone,xc_NotAlone,xd_NotAlone,xe_NotAlone,xf_NotAlone,xg_NotAlone,xh_NotAlone⟩⟩
  have X_TooMuch:Vz K mg "TooMuch" cX_TooMuch:=⟨PySem.W.mg_of X G n_TooMuch,q_TooMuch,⟨xa_TooMuch,xb_TooMuch,xc_TooMuch,xd_TooMuch,xe_TooMuch,xf_TooMuch,xg_TooMuch,xh_TooMuch⟩⟩
  have F0:=bC (st:=fJ) l0 c0 k0
  have iR:Df K mg "is_water" fJ ["amount"] _ _:=⟨F0,jd F0 (fun _ _ _ _ _ _ _=>rfl),PySem.W.mg_of X G a0⟩
  have F1:=bC (st:=gC) l1 c1 k1
  have jE:Df K mg "is_name" gC ["text"] _ _:=⟨F1,jd F1 (fun _ _ _ _ _ _ _=>rfl),PySem.W.mg_of X G a1⟩
  have F2:=bC (st:=bL) l2 c2 k2
  have cH:Df K mg "comes_to_mouth" bL ["below","start"] _ _:=⟨F2,iD F2 (fun _ _ _ _ _ _ _ _=>rfl),PySem.W.mg_of X G a2⟩
  have F3:=bC (st:=dH) l3 c3 k3
  have iT:Df K mg "is_river" dH ["below"] _ _:=⟨F3,jd F3 (fun _ _ _ _ _ _ _=>rfl),PySem.W.mg_of X G a3⟩
  have F4:=bC (st:=gW) l4 c4 k4
  have cP:Df K mg "way_of" gW ["below","reach"] _ _:=⟨F4,iD F4 (fun _ _ _ _ _ _ _ _=>rfl),PySem.W.mg_of X G a4⟩
  have F5:=bC (st:=cI) l5 c5 k5
  have fM:Df K mg "tops_first" cI ["below"] _ _:=⟨F5,jd F5 (fun _ _ _ _ _ _ _=>rfl),PySem.W.mg_of X G a5⟩
  have F6:=bC (st:=cR) l6 c6 k6
  have fO:Df K mg "stretch_of" cR ["below","start","stop"] _ _:=⟨F6,qH F6 (fun _ _ _ _ _ _ _ _ _=>rfl),PySem.W.mg_of X G a6⟩
  have F7:=bC (st:=cW) l7 c7 k7
  have fU:Df K mg "is_licence" cW ["below","one"] _ _:=⟨F7,iD F7 (fun _ _ _ _ _ _ _ _=>rfl),PySem.W.mg_of X G a7⟩
  have F8:=bC (st:=cU) l8 c8 k8
  have fP:Df K mg "reaches_of" cU ["below","one"] _ _:=⟨F8,iD F8 (fun _ _ _ _ _ _ _ _=>rfl),PySem.W.mg_of X G a8⟩
  have F9:=bC (st:=cN) l9 c9 k9
  have aW:Df K mg "day_filed" cN ["one"] _ _:=⟨F9,jd F9 (fun _ _ _ _ _ _ _=>rfl),PySem.W.mg_of X G a9⟩
  have F10:=bC (st:=eU) l10 c10 k10
  have bI:Df K mg "most_of" eU ["one"] _ _:=⟨F10,jd F10 (fun _ _ _ _ _ _ _=>rfl),PySem.W.mg_of X G a10⟩
  have F11:=bC (st:=dJ) l11 c11 k11
  have dD:Df K mg "with_most" dJ ["one","most"] _ _:=⟨F11,iD F11 (fun _ _ _ _ _ _ _ _=>rfl),PySem.W.mg_of X G a11⟩
  have F12:=bC (st:=iI) l12 c12 k12
  have lA:Df K mg "ranked" iI ["roll"] _ _:=⟨F12,jd F12 (fun _ _ _ _ _ _ _=>rfl),PySem.W.mg_of X G a12⟩
  have F13:=bC (st:=dM) l13 c13 k13
  have gR:Df K mg "groups_of" dM ["roll"] _ _:=⟨F13,jd F13 (fun _ _ _ _ _ _ _=>rfl),PySem.W.mg_of X G a13⟩
  have F14:=bC (st:=eE) l14 c14 k14
  have iQ:Df K mg "wants_of" eE ["roll","calls"] _ _:=⟨F14,iD F14 (fun _ _ _ _ _ _ _ _=>rfl),PySem.W.mg_of X G a14⟩
  have F15:=bC (st:=bQ) l15 c15 k15
  have bD:Df K mg "look_at_name" bQ ["name"] _ _:=⟨F15,jd F15 (fun _ _ _ _ _ _ _=>rfl),PySem.W.mg_of X G a15⟩
  have F16:=bC (st:=cV) l16 c16 k16
  have fQ:Df K mg "natural_of" cV ["below","springs"] _ _:=⟨F16,iD F16 (fun _ _ _ _ _ _ _ _=>rfl),PySem.W.mg_of X G a16⟩
  have F17:=bC (st:=cZ) l17 c17 k17
  have fY:Df K mg "count_ways" cZ ["free","ways"] _ _:=⟨F17,iD F17 (fun _ _ _ _ _ _ _ _=>rfl),PySem.W.mg_of X G a17⟩
  have F18:=bC (st:=bZ) l18 c18 k18
  have eG:Df K mg "whole_turns" bZ ["free","ways","rests"] _ _:=⟨F18,qH F18 (fun _ _ _ _ _ _ _ _ _=>rfl),PySem.W.mg_of X G a18⟩
  have F19:=bC (st:=lX) l19 c19 k19
  have kI:Df K mg "draw" lX ["left","way","drops"] _ _:=⟨F19,qH F19 (fun _ _ _ _ _ _ _ _ _=>rfl),PySem.W.mg_of X G a19⟩
  have F20:=bC (st:=aP) l20 c20 k20
  have bW:Df K mg "take_whole_turns" aP ["left","ways","rests","takes","going"] _ _:=⟨F20,Jp F20 (fun _ _ _ _ _ _ _ _ _ _ _=>rfl),PySem.W.mg_of X G a20⟩
  have F21:=bC (st:=bG) l21 c21 k21
  have cQ:Df K mg "take_one_turn" bG ["left","ways","rests","takes","going"] _ _:=⟨F21,Jp F21 (fun _ _ _ _ _ _ _ _ _ _ _=>rfl),PySem.W.mg_of X G a21⟩
  have F22:=bC (st:=cX) l22 c22 k22
  have fV:Df K mg "deal_turns" cX ["free","ways","rests"] _ _:=⟨F22,qH F22 (fun _ _ _ _ _ _ _ _ _=>rfl),PySem.W.mg_of X G a22⟩
  have F23:=bC (st:=lC) l23 c23 k23
  have mU:Df K mg "deal" lC ["below","springs","roll","calls"] _ _:=⟨F23,Jq F23 (fun _ _ _ _ _ _ _ _ _ _=>rfl),PySem.W.mg_of X G a23⟩
  have F24:=bC (st:=cC) l24 c24 k24
  have aO:Df K mg "_law_cell_at" cC ["script","k"] _ _:=⟨F24,iD F24 (fun _ _ _ _ _ _ _ _=>rfl),PySem.W.mg_of X G a24⟩
  have F25:=bC (st:=dh) l25 c25 k25
  have fZ:Df K mg "_law_whole" dh ["found"] _ _:=⟨F25,jd F25 (fun _ _ _ _ _ _ _=>rfl),PySem.W.mg_of X G a25⟩
  have F26:=bC (st:=dO) l26 c26 k26
  have gV:Df K mg "_law_draw" dO ["cell","place"] _ _:=⟨F26,iD F26 (fun _ _ _ _ _ _ _ _=>rfl),PySem.W.mg_of X G a26⟩
  have F27:=bC (st:=cB) l27 c27 k27
  have aU:Df K mg "_law_draws" cB ["cell","many"] _ _:=⟨F27,iD F27 (fun _ _ _ _ _ _ _ _=>rfl),PySem.W.mg_of X G a27⟩
  have F28:=bC (st:=cu) l28 c28 k28
  have gq:Df K mg "_law_river" cu ["cell"] _ _:=⟨F28,jd F28 (fun _ _ _ _ _ _ _=>rfl),PySem.W.mg_of X G a28⟩
  have F29:=bC (st:=fL) l29 c29 k29
  have iU:Df K mg "_law_way" fL ["below","reach"] _ _:=⟨F29,iD F29 (fun _ _ _ _ _ _ _ _=>rfl),PySem.W.mg_of X G a29⟩
  have F30:=bC (st:=cg) l30 c30 k30
  have aZ:Df K mg "_law_amount" cg ["number","kind"] _ _:=⟨F30,iD F30 (fun _ _ _ _ _ _ _ _=>rfl),PySem.W.mg_of X G a30⟩
  have F31:=bC (st:=dN) l31 c31 k31
  have gU:Df K mg "_law_file" dN ["one","xs","below","least"] _ _:=⟨F31,Jq F31 (fun _ _ _ _ _ _ _ _ _ _=>rfl),PySem.W.mg_of X G a31⟩
  have F32:=bC (st:=dw) l32 c32 k32
  have gb:Df K mg "_law_split" dw ["call","most","piece","number"] _ _:=⟨F32,Jq F32 (fun _ _ _ _ _ _ _ _ _ _=>rfl),PySem.W.mg_of X G a32⟩
  have F33:=bC (st:=nJ) l33 c33 k33
  have aad:Df K mg "law" nJ ["script"] _ _:=⟨F33,jd F33 (fun _ _ _ _ _ _ _=>rfl),PySem.W.mg_of X G a33⟩
  refine ⟨PySem.W.fnOf "law" "law" (aA nJ) (aq nJ) (ao nJ) .none kV33 dc33 pm33 an33 cd33 ct33,fun s v=>.of_eq rfl,fun base _ _ hbm=>?_⟩
  have C:Mth mg:=⟨h_MOUTH⟩
  have CS:Cst mg:=⟨h_MOUTH,h_MOST_REACHES⟩
  have CNm:CN mg:=⟨h_LONGEST_NAME,h_LETTERS⟩
  have nd:([(pT0,cO.1,cO.2),(pT1,bK.1,bK.2)].map (·.1)).Nodup:=by
    show ([pT0,pT1]:List Addr).Nodup
    simp [dd0_1]
  have hT:TT1 pT0 [(pT0,cO.1,cO.2),(pT1,bK.1,bK.2)]:=⟨List.mem_cons_self,nd⟩
  have hT2:TT2 pT1 [(pT0,cO.1,cO.2),(pT1,bK.1,bK.2)]:=⟨List.mem_cons_of_mem _ List.mem_cons_self,nd⟩
  clear nd
  generalize ([(pT0,cO.1,cO.2),(pT1,bK.1,bK.2)]:eH)=T at hT hT2 ⊢
  have g1:=TY (P:=l.prog) (w:=w) (base:=base) aO B
  have g2:=ZL (P:=l.prog) (w:=w) (K:=K) (base:=base) gV
  have g3:=Wm (T:=T) aU B gV g2
  have g4:=J3 (P:=l.prog) (w:=w) (base:=base) fZ B
  have g5:=Wh (P:=l.prog) (w:=w) (base:=base) cP C
  have g6:=J6 fO C cP g5
  have g7:=yx fP fO g6
  have g8:=Tw (T:=T) fM rfl y0 hT hbm B cP g5
  have g9:=Wi fQ B C fM g8
  have g10:=TF (P:=l.prog) (w:=w) (base:=base) bI
  have g11:=J5 (T:=T) iQ B bI g10
  have g12:=Kc (P:=l.prog) (w:=w) (base:=base) (T:=T) fY B
  have g13:=ZF eG B fY g12
  have g14:=TQ (P:=l.prog) (w:=w) (base:=base) (T:=T) kI
  have g15:=ZJ bW B eG g13 kI g14
  have g16:=ZK cQ B kI g14
  have g17:=ZM fV B bW g15 cQ g16
  have g18:=Wn (P:=l.prog) (w:=w) (base:=base) aW
  have g19:=Ar (T:=T) lA rfl y1 hT2 hbm B aW g18
  have g20:=Aw gR B aW g18 lA g19
  have g21:=TV mU B fQ g9 iQ g11 gR g20 fP g7 fV g17
  have h1:=Kd (P:=l.prog) (w:=w) (base:=base) cH B CS
  have h2:=Wk iT B CS cH h1
  have h3:=J4 (P:=l.prog) (w:=w) (K:=K) (base:=base) iR h_MOST_WATER
  have h4:=Ka (T:=T) fU B C h_LAST_DAY iR h3 cP g5
  have h5:=Av (P:=l.prog) (w:=w) (K:=K) (base:=base) (T:=T) jE B CNm
  have h6:=vD bD jE h5
  have h7:=Kh (P:=l.prog) (w:=w) (mg:=mg) (base:=base) fu B R_Roll
  have h8:=Ke (P:=l.prog) (w:=w) (mg:=mg) (base:=base) (T:=T) je R_Roll
  have h9:=Ax (P:=l.prog) (w:=w) (mg:=mg) (base:=base) cM B R_Roll
  have h10:=Kg (P:=l.prog) (w:=w) (mg:=mg) (base:=base) aX B R_Roll h_MOST_LICENCES
  have h11:=Ko fB B C R_Roll bD h6 fU h4 aX h10 cM h9
  have h12:=Km (T:=T) gG B R_Roll iT h2
  have h13:=ZG (P:=l.prog) (w:=w) (base:=base) dD
  have h14:=vG (P:=l.prog) (w:=w) (base:=base) bU B R_Roll
  have h15:=vH (T:=T) bV B R_Roll X_NotYours bU h14
  have h16:=Ay (T:=T) dZ B R_Roll aW g18 bI g10
  have h17:=Kl jf B R_Roll X_TooMuch X_NotAlone bV h15 bD h6 bI g10 dZ h16 aX h10 dD h13 cM h9
  have h18:=J8 gq B aU g3
  have h19:=TJ (P:=l.prog) (w:=w) (base:=base) iU
  have h20:=Wo (P:=l.prog) (w:=w) (K:=K) (mg:=mg) (base:=base) (T:=T) aZ
  have h21:=J7 (P:=l.prog) (w:=w) (base:=base) gb B
  have h22:=J9 gU B R_Roll iU h19 aZ h20 fB h11
  exact Wj aad B R_Roll aO g1 gq h18 aU g3 aZ h20 gG h12 je h8 gU h22 gb h21 mU g21 fu h7 jf h17 fZ g4
def codeOf (K:PySem.W.Frag) (x:Str):Addr:=match PySem.W.nsIn K mainGlobals x with
  | some (some (.ref f))=>match K.lookup f with
    | some ⟨_,_,.func fd,_⟩=>match fd.code with
      | .ref c=>c
      | _=>0
    | _=>0
  | _=>0
theorem Jf {K:PySem.W.Frag} {P:Addr} (x:Str) (h:PySem.W.codeHdIn K (codeOf K x) P=true):∃ c,PySem.W.codeHdIn K c P=true:=⟨_,h⟩
theorem walk {l:PySem.W.OpenLaw} {q:Program} {loose:List Str} {XP:(Str→Option Value)→Heap→Prop} {YP:World→Heap→Prop} {d:DefRec} {K:Params→PySem.W.Frag} {P0 P1:Addr} (hn:l.most=some 63) (hdf:d.params.defaults=[])
    (hY:∀ (w:World) (h:Heap),YP w h→(K w.params).In h) (hYt:∀ (w:World) (h:Heap),YP w h→∀ P∈([P0,P1]:List Addr),h.get? P=some (PySem.W.tabObj #[])) (hts:∀ (w:World),∀ P∈([P0,P1]:List Addr),(K w.params).lookup P=none∧∃ c,PySem.W.codeHdIn (K w.params) c P=true)
    (F:∀ (w:World) (mg:Str→Option Value) (fa:Addr) (h:Heap),(K w.params).In h→h.Ns mainGlobals mg→mg d.name=some (.ref fa) →
      ∃ fd:FuncData,(∀ (s:Shared) (u:Value),BindsTo s fd ⟨[u],[]⟩ [("script",u)])∧∀ base:Heap,(K w.params).In base→base.Ns mainGlobals mg→BM mg base→bN l.prog w (K w.params) mg base CX0 9 fa fd ["script"] (wR (K w.params) [(P0,cO.1,cO.2),(P1,bK.1,bK.2)])) :
    PySem.W.WalkO q loose XP YP l.row.toRowW d [] (fun f vs=>PySem.call f vs) :=
  L2.JF (n:=63) (k:=9) (x:="script") (CX:=fun _=>CX0) (sp:=fun w=>wR (K w.params) [(P0,cO.1,cO.2),(P1,bK.1,bK.2)]) (ts:=([P0,P1]:List Addr)) hn (by decide) hdf ⟨rfl,by decide,by decide⟩ hY hYt hts F (fun _ H a ns hl _ hT hS=>⟨a,ns,rfl,hS,hl,fun t ht=>.inl (hT t.1 (by simp only [List.mem_cons,List.not_mem_nil,or_false] at ht ⊢;(try rcases ht with rfl | ht) <;> (try subst ht) <;> simp)),fun _=>rfl⟩) fun _ _ _ _ _ z=>z
end My
open PySem PySem.W PyProof.Rows
set_option maxRecDepth 100000 in
set_option maxHeartbeats 0 in
theorem PySem.Challenge.cw_sluice_k58_whole_parted_changes_nobody_holds : PySem.Challenge.rw_sluice_k58_whole_parted_changes_nobody.Holds := by
  w_on;o_law
  refine PySem.W.holds_open (q:=My.qv) (loose:=My.xr) (Xt:=(fun s=>PySem.W.xlAt My.qv [] s && PySem.W.recOk (PySem.W.RowW.records PySem.Challenge.rw_sluice_k58_whole_parted_changes_nobody.row.toRowW) s)) (XP:=PySem.W.XL My.qv []) (Yf:=PySem.W.Hook.obs (PySem.W.kmHook My.Kf My.asK My.hkE My.tsK)) (Ya:=PySem.W.Hook.val (PySem.W.kmHook My.Kf My.asK My.hkE My.tsK)) (YP:=PySem.W.Hook.says (PySem.W.kmHook My.Kf My.asK My.hkE My.tsK)) (N:=8266) My.hlE (PySem.W.Hook.of (PySem.W.kmHook My.Kf My.asK My.hkE My.tsK)) (PySem.W.Hook.keeps (PySem.W.kmHook My.Kf My.asK My.hkE My.tsK)) (fun s e=>PySem.W.xl_of s (Bool.and_eq_true_iff.mp e).1) PySem.W.XL.keeps (by rfl) (by rfl) (by rfl) (fun s e=>PySem.W.recFacts_of (Bool.and_eq_true_iff.mp e).2) (by rfl) (by first | assumption | decide +kernel) (by decide +kernel) ⟨rfl,rfl,rfl,rfl,rfl,by decide +kernel⟩ ?hw ?hc
  case hw=>w_witness2
  k_fill
  refine' My.walk (l:=PySem.Challenge.rw_sluice_k58_whole_parted_changes_nobody) rfl rfl (fun w h Y=>PySem.W.km_in_of Y) (fun w h Y=>PySem.W.km_tabs_of Y) ?hts ?F
  case F =>
    intro w mg fa h KX G hmg
    refine' My.all_mk KX G hmg ?a0 ?l0 ?c0 ?k0 ?a1 ?l1 ?c1 ?k1 ?a2 ?l2 ?c2 ?k2 ?a3 ?l3 ?c3 ?k3 ?a4 ?l4 ?c4 ?k4 ?a5 ?l5 ?c5 ?k5 ?a6 ?l6 ?c6 ?k6 ?a7 ?l7 ?c7 ?k7 ?a8 ?l8 ?c8 ?k8 ?a9 ?l9 ?c9 ?k9 ?a10 ?l10 ?c10 ?k10 ?a11 ?l11 ?c11 ?k11 ?a12 ?l12 ?c12 ?k12 ?a13 ?l13 ?c13 ?k13 ?a14 ?l14 ?c14 ?k14 ?a15 ?l15 ?c15 ?k15 ?a16 ?l16 ?c16 ?k16 ?a17 ?l17 ?c17 ?k17 ?a18 ?l18 ?c18 ?k18 ?a19 ?l19 ?c19 ?k19 ?a20 ?l20 ?c20 ?k20 ?a21 ?l21 ?c21 ?k21 ?a22 ?l22 ?c22 ?k22 ?a23 ?l23 ?c23 ?k23 ?a24 ?l24 ?c24 ?k24 ?a25 ?l25 ?c25 ?k25 ?a26 ?l26 ?c26 ?k26 ?a27 ?l27 ?c27 ?k27 ?a28 ?l28 ?c28 ?k28 ?a29 ?l29 ?c29 ?k29 ?a30 ?l30 ?c30 ?k30 ?a31 ?l31 ?c31 ?k31 ?a32 ?l32 ?c32 ?k32 ?a33 ?l33 ?c33 ?k33 ?e0 ?e1 ?e2 ?e3 ?e4 ?e5 ?e6 ?n_Roll ?ka_Roll ?kb_Roll ?kc_Roll ?kd_Roll ?ke_Roll ?kf_Roll ?kn_Roll_below ?kn_Roll_day ?kn_Roll_licences ?kn_Roll_names ?kn_Roll_done ?ma_Roll___init__ ?mf_Roll___init__ ?mk_Roll___init__ ?ml_Roll___init__ ?mc_Roll___init__ ?ma_Roll_roll ?mf_Roll_roll ?mk_Roll_roll ?ml_Roll_roll ?mc_Roll_roll ?ma_Roll_turn ?mf_Roll_turn ?mk_Roll_turn ?ml_Roll_turn ?mc_Roll_turn ?ma_Roll_file ?mf_Roll_file ?mk_Roll_file ?ml_Roll_file ?mc_Roll_file ?mt_Roll_file ?mu_Roll_file ?ma_Roll_part ?mf_Roll_part ?mk_Roll_part ?ml_Roll_part ?mc_Roll_part ?ma_Roll_enter ?mf_Roll_enter ?mk_Roll_enter ?ml_Roll_enter ?mc_Roll_enter ?ma_Roll_is_alone ?mf_Roll_is_alone ?mk_Roll_is_alone ?ml_Roll_is_alone ?mc_Roll_is_alone ?ma_Roll_look_at_number ?mf_Roll_look_at_number ?mk_Roll_look_at_number ?ml_Roll_look_at_number ?mc_Roll_look_at_number ?ma_Roll_look_at_holder ?mf_Roll_look_at_holder ?mk_Roll_look_at_holder ?ml_Roll_look_at_holder ?mc_Roll_look_at_holder ?ma_Roll_look_at_room ?mf_Roll_look_at_room ?mk_Roll_look_at_room ?ml_Roll_look_at_room ?mc_Roll_look_at_room ?z_len ?z_range ?z_list ?z_isinstance ?z_bool ?z_int ?z_all ?z_min ?z_max ?z_sum ?z_sorted ?z_zip ?z_tuple ?z_str ?z_any ?z_enumerate ?z_reversed ?z_abs ?z_ValueError ?z_set ?n_NotYours ?q_NotYours ?xa_NotYours ?xb_NotYours ?xc_NotYours ?xd_NotYours ?xe_NotYours ?xf_NotYours ?xg_NotYours ?xh_NotYours ?n_NotAlone ?q_NotAlone ?xa_NotAlone ?xb_NotAlone ?xc_NotAlone ?xd_NotAlone ?xe_NotAlone ?xf_NotAlone ?xg_NotAlone ?xh_NotAlone ?n_TooMuch ?q_TooMuch ?xa_TooMuch ?xb_TooMuch ?xc_TooMuch ?xd_TooMuch ?xe_TooMuch ?xf_TooMuch ?xg_TooMuch ?xh_TooMuch ?y0 ?y1 ?dd0_1
    (case a0=>k_is)
    (case l0=>k_is)
    (case c0=>k_is)
    (case k0=>k_is)
    (case a1=>k_is)
    (case l1=>k_is)
    (case c1=>k_is)
    (case k1=>k_is)
    (case a2=>k_is)
    (case l2=>k_is)
    (case c2=>k_is)
    (case k2=>k_is)
    (case a3=>k_is)
    (case l3=>k_is)
    (case c3=>k_is)
    (case k3=>k_is)
    (case a4=>k_is)
    (case l4=>k_is)
    (case c4=>k_is)
    (case k4=>k_is)
    (case a5=>k_is)
    (case l5=>k_is)
    (case c5=>k_is)
    (case k5=>k_is)
    (case a6=>k_is)
    (case l6=>k_is)
    (case c6=>k_is)
    (case k6=>k_is)
    (case a7=>k_is)
    (case l7=>k_is)
    (case c7=>k_is)
    (case k7=>k_is)
    (case a8=>k_is)
    (case l8=>k_is)
    (case c8=>k_is)
    (case k8=>k_is)
    (case a9=>k_is)
    (case l9=>k_is)
    (case c9=>k_is)
    (case k9=>k_is)
    (case a10=>k_is)
    (case l10=>k_is)
    (case c10=>k_is)
    (case k10=>k_is)
    (case a11=>k_is)
    (case l11=>k_is)
    (case c11=>k_is)
    (case k11=>k_is)
    (case a12=>k_is)
    (case l12=>k_is)
    (case c12=>k_is)
    (case k12=>k_is)
    (case a13=>k_is)
    (case l13=>k_is)
    (case c13=>k_is)
    (case k13=>k_is)
    (case a14=>k_is)
    (case l14=>k_is)
    (case c14=>k_is)
    (case k14=>k_is)
    (case a15=>k_is)
    (case l15=>k_is)
    (case c15=>k_is)
    (case k15=>k_is)
    (case a16=>k_is)
    (case l16=>k_is)
    (case c16=>k_is)
    (case k16=>k_is)
    (case a17=>k_is)
    (case l17=>k_is)
    (case c17=>k_is)
    (case k17=>k_is)
    (case a18=>k_is)
    (case l18=>k_is)
    (case c18=>k_is)
    (case k18=>k_is)
    (case a19=>k_is)
    (case l19=>k_is)
    (case c19=>k_is)
    (case k19=>k_is)
    (case a20=>k_is)
    (case l20=>k_is)
    (case c20=>k_is)
    (case k20=>k_is)
    (case a21=>k_is)
    (case l21=>k_is)
    (case c21=>k_is)
    (case k21=>k_is)
    (case a22=>k_is)
    (case l22=>k_is)
    (case c22=>k_is)
    (case k22=>k_is)
    (case a23=>k_is)
    (case l23=>k_is)
    (case c23=>k_is)
    (case k23=>k_is)
    (case a24=>k_is)
    (case l24=>k_is)
    (case c24=>k_is)
    (case k24=>k_is)
    (case a25=>k_is)
    (case l25=>k_is)
    (case c25=>k_is)
    (case k25=>k_is)
    (case a26=>k_is)
    (case l26=>k_is)
    (case c26=>k_is)
    (case k26=>k_is)
    (case a27=>k_is)
    (case l27=>k_is)
    (case c27=>k_is)
    (case k27=>k_is)
    (case a28=>k_is)
    (case l28=>k_is)
    (case c28=>k_is)
    (case k28=>k_is)
    (case a29=>k_is)
    (case l29=>k_is)
    (case c29=>k_is)
    (case k29=>k_is)
    (case a30=>k_is)
    (case l30=>k_is)
    (case c30=>k_is)
    (case k30=>k_is)
    (case a31=>k_is)
    (case l31=>k_is)
    (case c31=>k_is)
    (case k31=>k_is)
    (case a32=>k_is)
    (case l32=>k_is)
    (case c32=>k_is)
    (case k32=>k_is)
    (case a33=>k_is)
    (case l33=>k_is)
    (case c33=>k_is)
    (case k33=>k_is)
    (case e0=>k_is)
    (case e1=>k_is)
    (case e2=>k_is)
    (case e3=>k_is)
    (case e4=>k_is)
    (case e5=>k_is)
    (case e6=>k_is)
    (case n_Roll=>k_is)
    (case ka_Roll=>(first | k_is | kernel_rfl | rfl))
    (case kb_Roll=>(first | k_is | kernel_rfl | rfl))
    (case kc_Roll=>(first | k_is | kernel_rfl | rfl))
    (case kd_Roll=>(first | k_is | kernel_rfl | rfl))
    (case ke_Roll=>(first | k_is | kernel_rfl | rfl))
    (case kf_Roll=>(first | k_is | kernel_rfl | rfl))
    (case kn_Roll_below=>(first | k_is | kernel_rfl | rfl))
    (case kn_Roll_day=>(first | k_is | kernel_rfl | rfl))
    (case kn_Roll_licences=>(first | k_is | kernel_rfl | rfl))
    (case kn_Roll_names=>(first | k_is | kernel_rfl | rfl))
    (case kn_Roll_done=>(first | k_is | kernel_rfl | rfl))
    (case ma_Roll___init__=>k_is)
    (case mf_Roll___init__=>(first | k_is | kernel_rfl | rfl))
    (case mk_Roll___init__=>k_is)
    (case ml_Roll___init__=>k_is)
    (case mc_Roll___init__=>k_is)
    (case ma_Roll_roll=>k_is)
    (case mf_Roll_roll=>(first | k_is | kernel_rfl | rfl))
    (case mk_Roll_roll=>k_is)
    (case ml_Roll_roll=>k_is)
    (case mc_Roll_roll=>k_is)
    (case ma_Roll_turn=>k_is)
    (case mf_Roll_turn=>(first | k_is | kernel_rfl | rfl))
    (case mk_Roll_turn=>k_is)
    (case ml_Roll_turn=>k_is)
    (case mc_Roll_turn=>k_is)
    (case ma_Roll_file=>k_is)
    (case mf_Roll_file=>(first | k_is | kernel_rfl | rfl))
    (case mk_Roll_file=>k_is)
    (case ml_Roll_file=>k_is)
    (case mc_Roll_file=>k_is)
    (case mt_Roll_file=>k_is)
    (case mu_Roll_file=>exact ⟨_,rfl⟩)
    (case ma_Roll_part=>k_is)
    (case mf_Roll_part=>(first | k_is | kernel_rfl | rfl))
    (case mk_Roll_part=>k_is)
    (case ml_Roll_part=>k_is)
    (case mc_Roll_part=>k_is)
    (case ma_Roll_enter=>k_is)
    (case mf_Roll_enter=>(first | k_is | kernel_rfl | rfl))
    (case mk_Roll_enter=>k_is)
    (case ml_Roll_enter=>k_is)
    (case mc_Roll_enter=>k_is)
    (case ma_Roll_is_alone=>k_is)
    (case mf_Roll_is_alone=>(first | k_is | kernel_rfl | rfl))
    (case mk_Roll_is_alone=>k_is)
    (case ml_Roll_is_alone=>k_is)
    (case mc_Roll_is_alone=>k_is)
    (case ma_Roll_look_at_number=>k_is)
    (case mf_Roll_look_at_number=>(first | k_is | kernel_rfl | rfl))
    (case mk_Roll_look_at_number=>k_is)
    (case ml_Roll_look_at_number=>k_is)
    (case mc_Roll_look_at_number=>k_is)
    (case ma_Roll_look_at_holder=>k_is)
    (case mf_Roll_look_at_holder=>(first | k_is | kernel_rfl | rfl))
    (case mk_Roll_look_at_holder=>k_is)
    (case ml_Roll_look_at_holder=>k_is)
    (case mc_Roll_look_at_holder=>k_is)
    (case ma_Roll_look_at_room=>k_is)
    (case mf_Roll_look_at_room=>(first | k_is | kernel_rfl | rfl))
    (case mk_Roll_look_at_room=>k_is)
    (case ml_Roll_look_at_room=>k_is)
    (case mc_Roll_look_at_room=>k_is)
    (case z_len=>k_is)
    (case z_range=>k_is)
    (case z_list=>k_is)
    (case z_isinstance=>k_is)
    (case z_bool=>k_is)
    (case z_int=>k_is)
    (case z_all=>k_is)
    (case z_min=>k_is)
    (case z_max=>k_is)
    (case z_sum=>k_is)
    (case z_sorted=>k_is)
    (case z_zip=>k_is)
    (case z_tuple=>k_is)
    (case z_str=>k_is)
    (case z_any=>k_is)
    (case z_enumerate=>k_is)
    (case z_reversed=>k_is)
    (case z_abs=>k_is)
    (case z_ValueError=>k_is)
    (case z_set=>k_is)
    (case n_NotYours=>k_is)
    (case q_NotYours=>(first | k_is | kernel_rfl))
    (case xa_NotYours=>(first | k_is | kernel_rfl))
    (case xb_NotYours=>(first | k_is | kernel_rfl))
    (case xc_NotYours=>(first | k_is | kernel_rfl))
    (case xd_NotYours=>(first | k_is | kernel_rfl))
    (case xe_NotYours=>(first | k_is | kernel_rfl))
    (case xf_NotYours=>(first | k_is | kernel_rfl))
    (case xg_NotYours=>(first | k_is | kernel_rfl))
    (case xh_NotYours=>(first | k_is | kernel_rfl))
    (case n_NotAlone=>k_is)
    (case q_NotAlone=>(first | k_is | kernel_rfl))
    (case xa_NotAlone=>(first | k_is | kernel_rfl))
    (case xb_NotAlone=>(first | k_is | kernel_rfl))
    (case xc_NotAlone=>(first | k_is | kernel_rfl))
    (case xd_NotAlone=>(first | k_is | kernel_rfl))
    (case xe_NotAlone=>(first | k_is | kernel_rfl))
    (case xf_NotAlone=>(first | k_is | kernel_rfl))
    (case xg_NotAlone=>(first | k_is | kernel_rfl))
    (case xh_NotAlone=>(first | k_is | kernel_rfl))
    (case n_TooMuch=>k_is)
    (case q_TooMuch=>(first | k_is | kernel_rfl))
    (case xa_TooMuch=>(first | k_is | kernel_rfl))
    (case xb_TooMuch=>(first | k_is | kernel_rfl))
    (case xc_TooMuch=>(first | k_is | kernel_rfl))
    (case xd_TooMuch=>(first | k_is | kernel_rfl))
    (case xe_TooMuch=>(first | k_is | kernel_rfl))
    (case xf_TooMuch=>(first | k_is | kernel_rfl))
    (case xg_TooMuch=>(first | k_is | kernel_rfl))
    (case xh_TooMuch=>(first | k_is | kernel_rfl))
    (case y0=>kernel_rfl)
    (case y1=>kernel_rfl)
    (case dd0_1=>(first | decide | (intro h;cases h) | (intro h;simp at h)))
  case hts =>
    intro w P hP
    simp only [List.mem_cons,List.not_mem_nil,or_false] at hP
    rcases hP with rfl | rfl
    · exact ⟨by kernel_rfl,My.Jf "tops_first" (by kernel_rfl)⟩
    · exact ⟨by kernel_rfl,My.Jf "ranked" (by kernel_rfl)⟩
