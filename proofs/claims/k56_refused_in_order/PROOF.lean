import PyProof.Rows.All
import Wide.All
import OpenK.AllK
import Wide.FinOn
import Lean
import PyProof.EqAt
import PyProof.EqKinds
import PyProof.TupleCall
import KE.KSortTup
import PySem.Challenge.RW_sluice_k56_refused_in_order
set_option Elab.async false
set_option linter.all false
set_option maxRecDepth 100000
set_option maxHeartbeats 4000000
local macro_rules | `(tactic| omega) => `(tactic| first | lia | omega (splitDisjunctions := true))
namespace L2
open PySem
def inClass (s:Stmt) (j:Nat):Stmt:=match s with
  | .ClassDef _ _ _ body _ _ _ _ _ _ _=>body.getD j (.Pass ⟨0,0,0,0⟩)
  | _=>.Pass ⟨0,0,0,0⟩
def aB (s:Stmt):Arguments:=match s with
  | .FunctionDef _ a _ _ _ _ _ _ _ _=>a
  | _=>{ posonlyargs:=[],args:=[],vararg:=none,kwonlyargs:=[],kw_defaults:=[],kwarg:=none,defaults:=[] }
def aA (s:Stmt):List Stmt:=match s with
  | .FunctionDef _ _ b _ _ _ _ _ _ _=>b
  | _=>[]
def ak (s:Stmt):Scope:=match s with
  | .FunctionDef _ _ _ _ _ _ sc _ _ _=>sc
  | _=>{ kind:=.function,names:=[],isGenerator:=false,isCoroutine:=false }
end L2
namespace My
open PySem L2
noncomputable def top0 (i:Nat):Stmt:=PySem.Challenge.pw_sluice_k56_refused_in_order.main.body.getD i (.Pass ⟨0,0,0,0⟩)
noncomputable def en (P:Params) (x:Str) (t:Tok) (v:Value):DictEntry:=⟨PyData.keyHash P x,.str x t,v⟩
noncomputable section
def tq (a:Array Value):Obj:={ cls:=.type "tuple",data:=.seq a }
def fc (a:Array Value):Obj:={ cls:=.type "code",data:=.fields a }
def cp (n:Nat):Value:=.str "/claim/cut.py" n
def pr0 (x:Str) (i:Nat):Obj:={ cls:=.none,data:=.func { name:=x,qualname:=x,params:=aB (top0 i),body:=.stmts (aA (top0 i)),scope:=ak (top0 i),globals:=0,closure:=[],defaults:=.none,kwdefaults:=.none } }
def VR (P:Params):Obj:={ cls:=.type "dict",data:=Data.dict #[en P "__name__" 1 (.str "builtins" 160),en P "__doc__" 2 (.builtin "builtins.__doc__:str#opaque"),en P "__package__" 3 (.builtin "builtins.__package__:str#opaque"),en P "__loader__" 4 (.builtin "builtins.__loader__:shared#opaque"),en P "__spec__" 5 (.builtin "builtins.__spec__#opaque"),en P "__build_class__" 6 (.builtin "__build_class__"),en P "__import__" 7 (.builtin "__import__"),en P "abs" 8 (.builtin "abs"),en P "all" 9 (.builtin "all"),en P "any" 10 (.builtin "any"),en P "ascii" 11 (.builtin "ascii"),en P "bin" 12 (.builtin "bin"),en P "breakpoint" 13 (.builtin "breakpoint"),en P "callable" 14 (.builtin "callable"),en P "chr" 15 (.builtin "chr"),en P "compile" 16 (.builtin "compile"),en P "delattr" 17 (.builtin "delattr"),en P "dir" 18 (.builtin "dir"),en P "divmod" 19 (.builtin "divmod"),en P "eval" 20 (.builtin "eval"),en P "exec" 21 (.builtin "exec"),en P "format" 22 (.builtin "format"),en P "getattr" 23 (.builtin "getattr"),en P "globals" 24 (.builtin "globals"),en P "hasattr" 25 (.builtin "hasattr"),en P "hash" 26 (.builtin "hash"),en P "hex" 27 (.builtin "hex"),en P "id" 28 (.builtin "id"),en P "input" 29 (.builtin "input"),en P "isinstance" 30 (.builtin "isinstance"),en P "issubclass" 31 (.builtin "issubclass"),en P "iter" 32 (.builtin "iter"),en P "aiter" 33 (.builtin "aiter"),en P "len" 34 (.builtin "len"),en P "locals" 35 (.builtin "locals"),en P "max" 36 (.builtin "max"),en P "min" 37 (.builtin "min"),en P "next" 38 (.builtin "next"),en P "anext" 39 (.builtin "anext"),en P "oct" 40 (.builtin "oct"),en P "ord" 41 (.builtin "ord"),en P "pow" 42 (.builtin "pow"),en P "print" 43 (.builtin "print"),en P "repr" 44 (.builtin "repr"),en P "round" 45 (.builtin "round"),en P "setattr" 46 (.builtin "setattr"),en P "sorted" 47 (.builtin "sorted"),en P "sum" 48 (.builtin "sum"),en P "vars" 49 (.builtin "vars"),en P "None" 50 .none,en P "Ellipsis" 51 .ellipsis,en P "NotImplemented" 52 .notImplemented,en P "False" 53 (.bool false),en P "True" 54 (.bool true),en P "bool" 55 (.type "bool"),en P "memoryview" 56 (.type "memoryview"),en P "bytearray" 57 (.type "bytearray"),en P "bytes" 58 (.type "bytes"),en P "classmethod" 59 (.type "classmethod"),en P "complex" 60 (.type "complex"),en P "dict" 61 (.type "dict"),en P "enumerate" 62 (.type "enumerate"),en P "filter" 63 (.type "filter"),en P "float" 64 (.type "float"),en P "frozenset" 65 (.type "frozenset"),en P "property" 66 (.type "property"),en P "int" 67 (.type "int"),en P "list" 68 (.type "list"),en P "map" 69 (.type "map"),en P "object" 70 (.type "object"),en P "range" 71 (.type "range"),en P "reversed" 72 (.type "reversed"),en P "set" 73 (.type "set"),en P "slice" 74 (.type "slice"),en P "staticmethod" 75 (.type "staticmethod"),en P "str" 76 (.type "str"),en P "super" 77 (.type "super"),en P "tuple" 78 (.type "tuple"),en P "type" 79 (.type "type"),en P "zip" 80 (.type "zip"),en P "__debug__" 81 (.bool true),en P "BaseException" 82 (.type "BaseException"),en P "BaseExceptionGroup" 83 (.type "BaseExceptionGroup"),en P "Exception" 84 (.type "Exception"),en P "GeneratorExit" 85 (.type "GeneratorExit"),en P "KeyboardInterrupt" 86 (.type "KeyboardInterrupt"),en P "SystemExit" 87 (.type "SystemExit"),en P "ArithmeticError" 88 (.type "ArithmeticError"),en P "AssertionError" 89 (.type "AssertionError"),en P "AttributeError" 90 (.type "AttributeError"),en P "BufferError" 91 (.type "BufferError"),en P "EOFError" 92 (.type "EOFError"),en P "ImportError" 93 (.type "ImportError"),en P "LookupError" 94 (.type "LookupError"),en P "MemoryError" 95 (.type "MemoryError"),en P "NameError" 96 (.type "NameError"),en P "OSError" 97 (.type "OSError"),en P "ReferenceError" 98 (.type "ReferenceError"),en P "RuntimeError" 99 (.type "RuntimeError"),en P "StopAsyncIteration" 100 (.type "StopAsyncIteration"),en P "StopIteration" 101 (.type "StopIteration"),en P "SyntaxError" 102 (.type "SyntaxError"),en P "SystemError" 103 (.type "SystemError"),en P "TypeError" 104 (.type "TypeError"),en P "ValueError" 105 (.type "ValueError"),en P "Warning" 106 (.type "Warning"),en P "FloatingPointError" 107 (.type "FloatingPointError"),en P "OverflowError" 108 (.type "OverflowError"),en P "ZeroDivisionError" 109 (.type "ZeroDivisionError"),en P "BytesWarning" 110 (.type "BytesWarning"),en P "DeprecationWarning" 111 (.type "DeprecationWarning"),en P "EncodingWarning" 112 (.type "EncodingWarning"),en P "FutureWarning" 113 (.type "FutureWarning"),en P "ImportWarning" 114 (.type "ImportWarning"),en P "PendingDeprecationWarning" 115 (.type "PendingDeprecationWarning"),en P "ResourceWarning" 116 (.type "ResourceWarning"),en P "RuntimeWarning" 117 (.type "RuntimeWarning"),en P "SyntaxWarning" 118 (.type "SyntaxWarning"),en P "UnicodeWarning" 119 (.type "UnicodeWarning"),en P "UserWarning" 120 (.type "UserWarning"),en P "BlockingIOError" 121 (.type "BlockingIOError"),en P "ChildProcessError" 122 (.type "ChildProcessError"),en P "ConnectionError" 123 (.type "ConnectionError"),en P "FileExistsError" 124 (.type "FileExistsError"),en P "FileNotFoundError" 125 (.type "FileNotFoundError"),en P "InterruptedError" 126 (.type "InterruptedError"),en P "IsADirectoryError" 127 (.type "IsADirectoryError"),en P "NotADirectoryError" 128 (.type "NotADirectoryError"),en P "PermissionError" 129 (.type "PermissionError"),en P "ProcessLookupError" 130 (.type "ProcessLookupError"),en P "TimeoutError" 131 (.type "TimeoutError"),en P "IndentationError" 132 (.type "IndentationError"),en P "_IncompleteInputError" 133 (.type "_IncompleteInputError"),en P "IndexError" 134 (.type "IndexError"),en P "KeyError" 135 (.type "KeyError"),en P "ModuleNotFoundError" 136 (.type "ModuleNotFoundError"),en P "NotImplementedError" 137 (.type "NotImplementedError"),en P "PythonFinalizationError" 138 (.type "PythonFinalizationError"),en P "RecursionError" 139 (.type "RecursionError"),en P "UnboundLocalError" 140 (.type "UnboundLocalError"),en P "UnicodeError" 141 (.type "UnicodeError"),en P "BrokenPipeError" 142 (.type "BrokenPipeError"),en P "ConnectionAbortedError" 143 (.type "ConnectionAbortedError"),en P "ConnectionRefusedError" 144 (.type "ConnectionRefusedError"),en P "ConnectionResetError" 145 (.type "ConnectionResetError"),en P "TabError" 146 (.type "TabError"),en P "UnicodeDecodeError" 147 (.type "UnicodeDecodeError"),en P "UnicodeEncodeError" 148 (.type "UnicodeEncodeError"),en P "UnicodeTranslateError" 149 (.type "UnicodeTranslateError"),en P "ExceptionGroup" 150 (.type "ExceptionGroup"),en P "EnvironmentError" 151 (.type "OSError"),en P "IOError" 152 (.type "OSError"),en P "open" 153 (.builtin "open"),en P "quit" 154 (.builtin "builtins.quit#opaque"),en P "exit" 155 (.builtin "builtins.exit#opaque"),en P "copyright" 156 (.builtin "builtins.copyright#opaque"),en P "credits" 157 (.builtin "builtins.credits#opaque"),en P "license" 158 (.builtin "builtins.license#opaque"),en P "help" 159 (.builtin "builtins.help#opaque")] 159 }
def VN (P:Params):Obj:={ cls:=.type "dict",data:=Data.dict #[en P "builtins" 162 (.ref 4),en P "__main__" 163 (.ref 5)] 2 }
def Qx (P:Params):Obj:={ cls:=.none,data:=Data.dict #[] }
def WX (P:Params):Obj:={ cls:=.type "dict",data:=Data.dict #[en P "__name__" 165 (.str "__main__" 164),en P "__doc__" 166 .none,en P "__package__" 167 .none,en P "__loader__" 168 (.builtin "__main__.__loader__#opaque"),en P "__spec__" 169 .none,en P "__annotations__" 170 (.ref 6),en P "__builtins__" 171 (.ref 4),en P "__file__" 173 (cp 172),en P "__cached__" 174 .none] 9 }
def Tw (P:Params):Obj:={ cls:=.type "module",dict:=some 0 }
def SJ (P:Params):Obj:={ cls:=.type "module",dict:=some 3 }
def Sd (P:Params):Obj:={ cls:=.type "dict",data:=Data.dict #[] }
def R3 (P:Params):Obj:=(tq #[])
def RL (P:Params):Obj:={ cls:=.none,data:=Data.fields #[] }
def Ar (P:Params):Obj:=(fc #[.str "<module>" 176,.str "<module>" 177,cp 178,.int 1 0,.int 0 0,.int 0 0,.int 0 0,.int 0 0,.ref 7,.bool false,.int 175 0,.ref 8,.none,.none,.none,.none,.int 179 0,.int 1 0,cp 180])
def Ak (P:Params):Obj:={ cls:=.type "frame",slots:=#[some (.ref 9),some (.ref 3),some (.ref 3),none,some (.str "__main__" 164),none,some (.ref 0)] }
def Dd (P:Params):Obj:=(tq #[])
def VP (P:Params):Obj:={ cls:=.none,data:=Data.fields #[] }
def Dc (P:Params):Obj:=(fc #[.str "<module>" 182,.str "<module>" 183,cp 184,.int 1 0,.int 0 0,.int 0 0,.int 0 0,.int 0 0,.ref 11,.bool false,.int 181 0,.ref 12,.none,.none,.none,.none,.int 185 0,.int 1 0,cp 186])
def CZ (P:Params):Obj:={ cls:=.type "frame",slots:=#[some (.ref 13),some (.ref 3),some (.ref 3),none,some (.str "__main__" 164),none,some (.ref 0)] }
def W0 (P:Params):Obj:={ cls:=.type "dict",data:=Data.dict #[en P "__name__" 165 (.str "sluice.rolls" 562),en P "__doc__" 166 .none,en P "__package__" 167 .none,en P "__loader__" 168 (.builtin "__main__.__loader__#opaque"),en P "__spec__" 169 .none,en P "__annotations__" 170 (.ref 6),en P "__builtins__" 171 (.ref 4),en P "__file__" 173 (cp 172),en P "__cached__" 174 .none,en P "MOST_WATER" 190 (.int 1000000000000 189),en P "LONGEST_NAME" 192 (.int 8 191),en P "LETTERS" 194 (.str "abcdefghijklmnopqrstuvwxyz" 193),en P "is_water" 201 (.ref 21),en P "is_name" 207 (.ref 26),en P "SluiceError" 227 (.ref 36),en P "NoRiver" 243 (.ref 49),en P "NoReach" 259 (.ref 61),en P "NoLicence" 275 (.ref 73),en P "NoNumber" 291 (.ref 85),en P "NoHolder" 307 (.ref 97),en P "NotYours" 323 (.ref 109),en P "NotAlone" 339 (.ref 121),en P "TooMuch" 355 (.ref 133),en P "Full" 371 (.ref 145),en P "NoPaper" 387 (.ref 157),en P "NoCut" 403 (.ref 169),en P "NoPond" 419 (.ref 181),en P "NoDay" 435 (.ref 193),en P "Fixed" 451 (.ref 205),en P "Harms" 467 (.ref 217),en P "NoRow" 483 (.ref 229),en P "MOST_REACHES" 487 (.int 40 486),en P "MOUTH" 490 (.int (-1) 489),en P "comes_to_mouth" 500 (.ref 238),en P "is_river" 506 (.ref 243),en P "way_of" 515 (.ref 250),en P "LAST_DAY" 519 (.int 1000000 518),en P "is_licence" 531 (.ref 257),en P "day_filed" 538 (.ref 264),en P "most_of" 545 (.ref 271),en P "with_start" 553 (.ref 278),en P "with_most" 561 (.ref 285),en P "MOST_LICENCES" 565 (.int 60 564),en P "look_at_name" 572 (.ref 292)] 44 }
def WY (P:Params):Obj:={ cls:=.none,data:=Data.fields #[.int 5 0,.int 0 0,.ref 20,.int 7 0,.int 0 0,.ref 25,.int 10 0,.int 0 0,.ref 32,.int 12 0,.int 0 0,.ref 45,.int 14 0,.int 0 0,.ref 57,.int 16 0,.int 0 0,.ref 69,.int 18 0,.int 0 0,.ref 81,.int 20 0,.int 0 0,.ref 93,.int 22 0,.int 0 0,.ref 105,.int 24 0,.int 0 0,.ref 117,.int 26 0,.int 0 0,.ref 129,.int 28 0,.int 0 0,.ref 141,.int 30 0,.int 0 0,.ref 153,.int 32 0,.int 0 0,.ref 165,.int 34 0,.int 0 0,.ref 177,.int 36 0,.int 0 0,.ref 189,.int 38 0,.int 0 0,.ref 201,.int 40 0,.int 0 0,.ref 213,.int 42 0,.int 0 0,.ref 225,.int 47 0,.int 0 0,.ref 237,.int 54 0,.int 0 0,.ref 242,.int 60 0,.int 0 0,.ref 249,.int 67 0,.int 0 0,.ref 256,.int 72 0,.int 0 0,.ref 263,.int 74 0,.int 0 0,.ref 270,.int 76 0,.int 0 0,.ref 277,.int 78 0,.int 0 0,.ref 284,.int 82 0,.int 0 0,.ref 291] }
def Qg (P:Params):Obj:=(tq #[])
def VL (P:Params):Obj:={ cls:=.none,data:=Data.fields #[] }
def Qf (P:Params):Obj:=(tq #[.str "amount" 198])
def Qe (P:Params):Obj:=(tq #[])
def VJ (P:Params):Obj:=(pr0 "is_water" 4)
def Qd (P:Params):Obj:=(fc #[.str "is_water" 195,.str "is_water" 196,cp 197,.int 5 0,.int 1 0,.int 0 0,.int 0 0,.int 3 0,.ref 15,.bool true,.int 181 0,.ref 16,.none,.ref 17,.ref 18,.ref 19,.int 199 0,.int 5 0,cp 200])
def Qc (P:Params):Obj:=⟨.type "function",none,.func (PySem.W.fnOf "is_water" "is_water" (aB (top0 4)) (aA (top0 4)) (ak (top0 4)) .none .none .none (.str "sluice.bounds" 187) none (.ref 20) .none),#[]⟩
def Qa (P:Params):Obj:=(tq #[])
def VH (P:Params):Obj:={ cls:=.none,data:=Data.fields #[] }
def VG (P:Params):Obj:=(pr0 "is_name" 5)
def P0 (P:Params):Obj:=(fc #[.str "is_name" 202,.str "is_name" 203,cp 204,.int 7 0,.int 1 0,.int 0 0,.int 0 0,.int 3 0,.ref 22,.bool true,.int 181 0,.ref 23,.none,.none,.none,.ref 24,.int 205 0,.int 7 0,cp 206])
def PX (P:Params):Obj:=⟨.type "function",none,.func (PySem.W.fnOf "is_name" "is_name" (aB (top0 5)) (aA (top0 5)) (ak (top0 5)) .none .none .none (.str "sluice.bounds" 187) none (.ref 25) .none),#[]⟩
def PN (P:Params):Obj:=(tq #[.type "ValueError"])
def Vl (P:Params):Obj:={ cls:=.type "builtin_function_or_method",data:=Data.fields #[.builtin "type.__prepare__",.type "type"] }
def Vh (P:Params):Obj:={ cls:=.type "dict",data:=Data.dict #[en P "__module__" 217 (.str "sluice.errors" 208),en P "__qualname__" 219 (.str "SluiceError" 218),en P "__firstlineno__" 221 (.int 10 220),en P "__static_attributes__" 222 (.ref 34)] 4 }
def Ve (P:Params):Obj:=(tq #[])
def Va (P:Params):Obj:={ cls:=.none,data:=Data.fields #[] }
def U6 (P:Params):Obj:=(fc #[.str "SluiceError" 212,.str "SluiceError" 213,cp 214,.int 10 0,.int 0 0,.int 0 0,.int 0 0,.int 0 0,.ref 30,.bool false,.int 181 0,.ref 31,.none,.none,.none,.none,.int 215 0,.int 10 0,cp 216])
def U0 (P:Params):Obj:={ cls:=.type "frame",slots:=#[some (.ref 32),some (.ref 3),some (.ref 29),none,some (.str "sluice.errors" 208),none,some (.ref 0)] }
def PL (P:Params):Obj:=(tq #[])
def PK (P:Params):Obj:={ cls:=.type "dict",data:=Data.dict #[en P "__module__" 217 (.str "sluice.errors" 208),en P "__firstlineno__" 221 (.int 10 220),en P "__static_attributes__" 222 (.ref 34),en P "__weakref__" 224 (.ref 37),en P "__doc__" 225 .none] 3 }
def PJ (P:Params):Obj:={ cls:=.type "type",data:=Data.cls { name:="SluiceError",bases:=[.type "ValueError"],mro:=[.ref 36,.type "ValueError",.type "Exception",.type "BaseException",.type "object"],ns:=35,qualname:="SluiceError",subclasses:=[.ref 49,.ref 61,.ref 73,.ref 85,.ref 97,.ref 109,.ref 121,.ref 133,.ref 145,.ref 157,.ref 169,.ref 181,.ref 193,.ref 205,.ref 217,.ref 229] },slots:=#[some (.ref 27),none,some (.str "SluiceError" 210),some (.str "SluiceError" 218),some (.builtin "ValueError.__new__"),some (.bool true)] }
def PB (P:Params):Obj:={ cls:=.type "getset_descriptor",data:=Data.fields #[.str "__weakref__" 223,.ref 36,.builtin "ExceptionGroup.__weakref__",.none] }
def Um (P:Params):Obj:={ cls:=.type "super",data:=Data.fields #[.ref 36,.ref 36,.ref 36] }
def Ui (P:Params):Obj:={ cls:=.type "builtin_function_or_method",data:=Data.fields #[.builtin "object.__init_subclass__",.ref 36] }
def Pz (P:Params):Obj:=(tq #[.ref 36])
def T9 (P:Params):Obj:={ cls:=.type "builtin_function_or_method",data:=Data.fields #[.builtin "type.__prepare__",.type "type"] }
def T4 (P:Params):Obj:={ cls:=.type "dict",data:=Data.dict #[en P "__module__" 235 (.str "sluice.errors" 208),en P "__qualname__" 237 (.str "NoRiver" 236),en P "__firstlineno__" 239 (.int 12 238),en P "__static_attributes__" 240 (.ref 47)] 4 }
def TV (P:Params):Obj:=(tq #[])
def Tv (P:Params):Obj:={ cls:=.none,data:=Data.fields #[] }
def Tp (P:Params):Obj:=(fc #[.str "NoRiver" 230,.str "NoRiver" 231,cp 232,.int 12 0,.int 0 0,.int 0 0,.int 0 0,.int 0 0,.ref 43,.bool false,.int 181 0,.ref 44,.none,.none,.none,.none,.int 233 0,.int 12 0,cp 234])
def Te (P:Params):Obj:={ cls:=.type "frame",slots:=#[some (.ref 45),some (.ref 3),some (.ref 42),none,some (.str "sluice.errors" 208),none,some (.ref 0)] }
def Py (P:Params):Obj:=(tq #[])
def Px (P:Params):Obj:={ cls:=.type "dict",data:=Data.dict #[en P "__module__" 235 (.str "sluice.errors" 208),en P "__firstlineno__" 239 (.int 12 238),en P "__static_attributes__" 240 (.ref 47),en P "__doc__" 241 .none] 2 }
def Pu (P:Params):Obj:={ cls:=.type "type",data:=Data.cls { name:="NoRiver",bases:=[.ref 36],mro:=[.ref 49,.ref 36,.type "ValueError",.type "Exception",.type "BaseException",.type "object"],ns:=48,qualname:="NoRiver" },slots:=#[some (.ref 40),none,some (.str "NoRiver" 228),some (.str "NoRiver" 236),some (.builtin "ValueError.__new__"),some (.bool true)] }
def SQ (P:Params):Obj:={ cls:=.type "super",data:=Data.fields #[.ref 49,.ref 49,.ref 49] }
def SN (P:Params):Obj:={ cls:=.type "builtin_function_or_method",data:=Data.fields #[.builtin "object.__init_subclass__",.ref 49] }
def Pr (P:Params):Obj:=(tq #[.ref 36])
def SM (P:Params):Obj:={ cls:=.type "builtin_function_or_method",data:=Data.fields #[.builtin "type.__prepare__",.type "type"] }
def Sy (P:Params):Obj:={ cls:=.type "dict",data:=Data.dict #[en P "__module__" 251 (.str "sluice.errors" 208),en P "__qualname__" 253 (.str "NoReach" 252),en P "__firstlineno__" 255 (.int 14 254),en P "__static_attributes__" 256 (.ref 59)] 4 }
def Sx (P:Params):Obj:=(tq #[])
def Sw (P:Params):Obj:={ cls:=.none,data:=Data.fields #[] }
def Sv (P:Params):Obj:=(fc #[.str "NoReach" 246,.str "NoReach" 247,cp 248,.int 14 0,.int 0 0,.int 0 0,.int 0 0,.int 0 0,.ref 55,.bool false,.int 181 0,.ref 56,.none,.none,.none,.none,.int 249 0,.int 14 0,cp 250])
def Ss (P:Params):Obj:={ cls:=.type "frame",slots:=#[some (.ref 57),some (.ref 3),some (.ref 54),none,some (.str "sluice.errors" 208),none,some (.ref 0)] }
def Pq (P:Params):Obj:=(tq #[])
def Pn (P:Params):Obj:={ cls:=.type "dict",data:=Data.dict #[en P "__module__" 251 (.str "sluice.errors" 208),en P "__firstlineno__" 255 (.int 14 254),en P "__static_attributes__" 256 (.ref 59),en P "__doc__" 257 .none] 2 }
def Pk (P:Params):Obj:={ cls:=.type "type",data:=Data.cls { name:="NoReach",bases:=[.ref 36],mro:=[.ref 61,.ref 36,.type "ValueError",.type "Exception",.type "BaseException",.type "object"],ns:=60,qualname:="NoReach" },slots:=#[some (.ref 52),none,some (.str "NoReach" 244),some (.str "NoReach" 252),some (.builtin "ValueError.__new__"),some (.bool true)] }
def Sq (P:Params):Obj:={ cls:=.type "super",data:=Data.fields #[.ref 61,.ref 61,.ref 61] }
def Sg (P:Params):Obj:={ cls:=.type "builtin_function_or_method",data:=Data.fields #[.builtin "object.__init_subclass__",.ref 61] }
def Pj (P:Params):Obj:=(tq #[.ref 36])
def R9 (P:Params):Obj:={ cls:=.type "builtin_function_or_method",data:=Data.fields #[.builtin "type.__prepare__",.type "type"] }
def R8 (P:Params):Obj:={ cls:=.type "dict",data:=Data.dict #[en P "__module__" 267 (.str "sluice.errors" 208),en P "__qualname__" 269 (.str "NoLicence" 268),en P "__firstlineno__" 271 (.int 16 270),en P "__static_attributes__" 272 (.ref 71)] 4 }
def R7 (P:Params):Obj:=(tq #[])
def R6 (P:Params):Obj:={ cls:=.none,data:=Data.fields #[] }
def R5 (P:Params):Obj:=(fc #[.str "NoLicence" 262,.str "NoLicence" 263,cp 264,.int 16 0,.int 0 0,.int 0 0,.int 0 0,.int 0 0,.ref 67,.bool false,.int 181 0,.ref 68,.none,.none,.none,.none,.int 265 0,.int 16 0,cp 266])
def R4 (P:Params):Obj:={ cls:=.type "frame",slots:=#[some (.ref 69),some (.ref 3),some (.ref 66),none,some (.str "sluice.errors" 208),none,some (.ref 0)] }
def Ph (P:Params):Obj:=(tq #[])
def Pg (P:Params):Obj:={ cls:=.type "dict",data:=Data.dict #[en P "__module__" 267 (.str "sluice.errors" 208),en P "__firstlineno__" 271 (.int 16 270),en P "__static_attributes__" 272 (.ref 71),en P "__doc__" 273 .none] 2 }
def Pb (P:Params):Obj:={ cls:=.type "type",data:=Data.cls { name:="NoLicence",bases:=[.ref 36],mro:=[.ref 73,.ref 36,.type "ValueError",.type "Exception",.type "BaseException",.type "object"],ns:=72,qualname:="NoLicence" },slots:=#[some (.ref 64),none,some (.str "NoLicence" 260),some (.str "NoLicence" 268),some (.builtin "ValueError.__new__"),some (.bool true)] }
def R0 (P:Params):Obj:={ cls:=.type "super",data:=Data.fields #[.ref 73,.ref 73,.ref 73] }
def RZ (P:Params):Obj:={ cls:=.type "builtin_function_or_method",data:=Data.fields #[.builtin "object.__init_subclass__",.ref 73] }
def Pa (P:Params):Obj:=(tq #[.ref 36])
def RW (P:Params):Obj:={ cls:=.type "builtin_function_or_method",data:=Data.fields #[.builtin "type.__prepare__",.type "type"] }
def RV (P:Params):Obj:={ cls:=.type "dict",data:=Data.dict #[en P "__module__" 283 (.str "sluice.errors" 208),en P "__qualname__" 285 (.str "NoNumber" 284),en P "__firstlineno__" 287 (.int 18 286),en P "__static_attributes__" 288 (.ref 83)] 4 }
def RT (P:Params):Obj:=(tq #[])
def RQ (P:Params):Obj:={ cls:=.none,data:=Data.fields #[] }
def RN (P:Params):Obj:=(fc #[.str "NoNumber" 278,.str "NoNumber" 279,cp 280,.int 18 0,.int 0 0,.int 0 0,.int 0 0,.int 0 0,.ref 79,.bool false,.int 181 0,.ref 80,.none,.none,.none,.none,.int 281 0,.int 18 0,cp 282])
def RM (P:Params):Obj:={ cls:=.type "frame",slots:=#[some (.ref 81),some (.ref 3),some (.ref 78),none,some (.str "sluice.errors" 208),none,some (.ref 0)] }
def O9 (P:Params):Obj:=(tq #[])
def O8 (P:Params):Obj:={ cls:=.type "dict",data:=Data.dict #[en P "__module__" 283 (.str "sluice.errors" 208),en P "__firstlineno__" 287 (.int 18 286),en P "__static_attributes__" 288 (.ref 83),en P "__doc__" 289 .none] 2 }
def O7 (P:Params):Obj:={ cls:=.type "type",data:=Data.cls { name:="NoNumber",bases:=[.ref 36],mro:=[.ref 85,.ref 36,.type "ValueError",.type "Exception",.type "BaseException",.type "object"],ns:=84,qualname:="NoNumber" },slots:=#[some (.ref 76),none,some (.str "NoNumber" 276),some (.str "NoNumber" 284),some (.builtin "ValueError.__new__"),some (.bool true)] }
def RK (P:Params):Obj:={ cls:=.type "super",data:=Data.fields #[.ref 85,.ref 85,.ref 85] }
def RJ (P:Params):Obj:={ cls:=.type "builtin_function_or_method",data:=Data.fields #[.builtin "object.__init_subclass__",.ref 85] }
def O6 (P:Params):Obj:=(tq #[.ref 36])
def RG (P:Params):Obj:={ cls:=.type "builtin_function_or_method",data:=Data.fields #[.builtin "type.__prepare__",.type "type"] }
def RD (P:Params):Obj:={ cls:=.type "dict",data:=Data.dict #[en P "__module__" 299 (.str "sluice.errors" 208),en P "__qualname__" 301 (.str "NoHolder" 300),en P "__firstlineno__" 303 (.int 20 302),en P "__static_attributes__" 304 (.ref 95)] 4 }
def RB (P:Params):Obj:=(tq #[])
def Rz (P:Params):Obj:={ cls:=.none,data:=Data.fields #[] }
def Ry (P:Params):Obj:=(fc #[.str "NoHolder" 294,.str "NoHolder" 295,cp 296,.int 20 0,.int 0 0,.int 0 0,.int 0 0,.int 0 0,.ref 91,.bool false,.int 181 0,.ref 92,.none,.none,.none,.none,.int 297 0,.int 20 0,cp 298])
def Nr (P:Params):Obj:={ cls:=.type "frame",slots:=#[some (.ref 93),some (.ref 3),some (.ref 90),none,some (.str "sluice.errors" 208),none,some (.ref 0)] }
def Aq (P:Params):Obj:=(tq #[])
def Ao (P:Params):Obj:={ cls:=.type "dict",data:=Data.dict #[en P "__module__" 299 (.str "sluice.errors" 208),en P "__firstlineno__" 303 (.int 20 302),en P "__static_attributes__" 304 (.ref 95),en P "__doc__" 305 .none] 2 }
def Am (P:Params):Obj:={ cls:=.type "type",data:=Data.cls { name:="NoHolder",bases:=[.ref 36],mro:=[.ref 97,.ref 36,.type "ValueError",.type "Exception",.type "BaseException",.type "object"],ns:=96,qualname:="NoHolder" },slots:=#[some (.ref 88),none,some (.str "NoHolder" 292),some (.str "NoHolder" 300),some (.builtin "ValueError.__new__"),some (.bool true)] }
def Nq (P:Params):Obj:={ cls:=.type "super",data:=Data.fields #[.ref 97,.ref 97,.ref 97] }
def Np (P:Params):Obj:={ cls:=.type "builtin_function_or_method",data:=Data.fields #[.builtin "object.__init_subclass__",.ref 97] }
def Al (P:Params):Obj:=(tq #[.ref 36])
def Nm (P:Params):Obj:={ cls:=.type "builtin_function_or_method",data:=Data.fields #[.builtin "type.__prepare__",.type "type"] }
def Nk (P:Params):Obj:={ cls:=.type "dict",data:=Data.dict #[en P "__module__" 315 (.str "sluice.errors" 208),en P "__qualname__" 317 (.str "NotYours" 316),en P "__firstlineno__" 319 (.int 22 318),en P "__static_attributes__" 320 (.ref 107)] 4 }
def Nj (P:Params):Obj:=(tq #[])
def Ni (P:Params):Obj:={ cls:=.none,data:=Data.fields #[] }
def Nh (P:Params):Obj:=(fc #[.str "NotYours" 310,.str "NotYours" 311,cp 312,.int 22 0,.int 0 0,.int 0 0,.int 0 0,.int 0 0,.ref 103,.bool false,.int 181 0,.ref 104,.none,.none,.none,.none,.int 313 0,.int 22 0,cp 314])
def Ng (P:Params):Obj:={ cls:=.type "frame",slots:=#[some (.ref 105),some (.ref 3),some (.ref 102),none,some (.str "sluice.errors" 208),none,some (.ref 0)] }
def Aj (P:Params):Obj:=(tq #[])
def Ai (P:Params):Obj:={ cls:=.type "dict",data:=Data.dict #[en P "__module__" 315 (.str "sluice.errors" 208),en P "__firstlineno__" 319 (.int 22 318),en P "__static_attributes__" 320 (.ref 107),en P "__doc__" 321 .none] 2 }
def Ah (P:Params):Obj:={ cls:=.type "type",data:=Data.cls { name:="NotYours",bases:=[.ref 36],mro:=[.ref 109,.ref 36,.type "ValueError",.type "Exception",.type "BaseException",.type "object"],ns:=108,qualname:="NotYours" },slots:=#[some (.ref 100),none,some (.str "NotYours" 308),some (.str "NotYours" 316),some (.builtin "ValueError.__new__"),some (.bool true)] }
def Nf (P:Params):Obj:={ cls:=.type "super",data:=Data.fields #[.ref 109,.ref 109,.ref 109] }
def Nb (P:Params):Obj:={ cls:=.type "builtin_function_or_method",data:=Data.fields #[.builtin "object.__init_subclass__",.ref 109] }
def Ag (P:Params):Obj:=(tq #[.ref 36])
def M9 (P:Params):Obj:={ cls:=.type "builtin_function_or_method",data:=Data.fields #[.builtin "type.__prepare__",.type "type"] }
def M8 (P:Params):Obj:={ cls:=.type "dict",data:=Data.dict #[en P "__module__" 331 (.str "sluice.errors" 208),en P "__qualname__" 333 (.str "NotAlone" 332),en P "__firstlineno__" 335 (.int 24 334),en P "__static_attributes__" 336 (.ref 119)] 4 }
def M7 (P:Params):Obj:=(tq #[])
def M6 (P:Params):Obj:={ cls:=.none,data:=Data.fields #[] }
def M5 (P:Params):Obj:=(fc #[.str "NotAlone" 326,.str "NotAlone" 327,cp 328,.int 24 0,.int 0 0,.int 0 0,.int 0 0,.int 0 0,.ref 115,.bool false,.int 181 0,.ref 116,.none,.none,.none,.none,.int 329 0,.int 24 0,cp 330])
def M4 (P:Params):Obj:={ cls:=.type "frame",slots:=#[some (.ref 117),some (.ref 3),some (.ref 114),none,some (.str "sluice.errors" 208),none,some (.ref 0)] }
def Af (P:Params):Obj:=(tq #[])
def Ae (P:Params):Obj:={ cls:=.type "dict",data:=Data.dict #[en P "__module__" 331 (.str "sluice.errors" 208),en P "__firstlineno__" 335 (.int 24 334),en P "__static_attributes__" 336 (.ref 119),en P "__doc__" 337 .none] 2 }
def Ad (P:Params):Obj:={ cls:=.type "type",data:=Data.cls { name:="NotAlone",bases:=[.ref 36],mro:=[.ref 121,.ref 36,.type "ValueError",.type "Exception",.type "BaseException",.type "object"],ns:=120,qualname:="NotAlone" },slots:=#[some (.ref 112),none,some (.str "NotAlone" 324),some (.str "NotAlone" 332),some (.builtin "ValueError.__new__"),some (.bool true)] }
def MP (P:Params):Obj:={ cls:=.type "super",data:=Data.fields #[.ref 121,.ref 121,.ref 121] }
def MN (P:Params):Obj:={ cls:=.type "builtin_function_or_method",data:=Data.fields #[.builtin "object.__init_subclass__",.ref 121] }
def Ac (P:Params):Obj:=(tq #[.ref 36])
def MK (P:Params):Obj:={ cls:=.type "builtin_function_or_method",data:=Data.fields #[.builtin "type.__prepare__",.type "type"] }
def MJ (P:Params):Obj:={ cls:=.type "dict",data:=Data.dict #[en P "__module__" 347 (.str "sluice.errors" 208),en P "__qualname__" 349 (.str "TooMuch" 348),en P "__firstlineno__" 351 (.int 26 350),en P "__static_attributes__" 352 (.ref 131)] 4 }
def MF (P:Params):Obj:=(tq #[])
def Mz (P:Params):Obj:={ cls:=.none,data:=Data.fields #[] }
def Mx (P:Params):Obj:=(fc #[.str "TooMuch" 342,.str "TooMuch" 343,cp 344,.int 26 0,.int 0 0,.int 0 0,.int 0 0,.int 0 0,.ref 127,.bool false,.int 181 0,.ref 128,.none,.none,.none,.none,.int 345 0,.int 26 0,cp 346])
def Mw (P:Params):Obj:={ cls:=.type "frame",slots:=#[some (.ref 129),some (.ref 3),some (.ref 126),none,some (.str "sluice.errors" 208),none,some (.ref 0)] }
def Ab (P:Params):Obj:=(tq #[])
def Aa (P:Params):Obj:={ cls:=.type "dict",data:=Data.dict #[en P "__module__" 347 (.str "sluice.errors" 208),en P "__firstlineno__" 351 (.int 26 350),en P "__static_attributes__" 352 (.ref 131),en P "__doc__" 353 .none] 2 }
def z9 (P:Params):Obj:={ cls:=.type "type",data:=Data.cls { name:="TooMuch",bases:=[.ref 36],mro:=[.ref 133,.ref 36,.type "ValueError",.type "Exception",.type "BaseException",.type "object"],ns:=132,qualname:="TooMuch" },slots:=#[some (.ref 124),none,some (.str "TooMuch" 340),some (.str "TooMuch" 348),some (.builtin "ValueError.__new__"),some (.bool true)] }
def Mu (P:Params):Obj:={ cls:=.type "super",data:=Data.fields #[.ref 133,.ref 133,.ref 133] }
def Mt (P:Params):Obj:={ cls:=.type "builtin_function_or_method",data:=Data.fields #[.builtin "object.__init_subclass__",.ref 133] }
def z8 (P:Params):Obj:=(tq #[.ref 36])
def Ms (P:Params):Obj:={ cls:=.type "builtin_function_or_method",data:=Data.fields #[.builtin "type.__prepare__",.type "type"] }
def Mr (P:Params):Obj:={ cls:=.type "dict",data:=Data.dict #[en P "__module__" 363 (.str "sluice.errors" 208),en P "__qualname__" 365 (.str "Full" 364),en P "__firstlineno__" 367 (.int 28 366),en P "__static_attributes__" 368 (.ref 143)] 4 }
def Mq (P:Params):Obj:=(tq #[])
def Mp (P:Params):Obj:={ cls:=.none,data:=Data.fields #[] }
def Ml (P:Params):Obj:=(fc #[.str "Full" 358,.str "Full" 359,cp 360,.int 28 0,.int 0 0,.int 0 0,.int 0 0,.int 0 0,.ref 139,.bool false,.int 181 0,.ref 140,.none,.none,.none,.none,.int 361 0,.int 28 0,cp 362])
def Mj (P:Params):Obj:={ cls:=.type "frame",slots:=#[some (.ref 141),some (.ref 3),some (.ref 138),none,some (.str "sluice.errors" 208),none,some (.ref 0)] }
def z7 (P:Params):Obj:=(tq #[])
def z6 (P:Params):Obj:={ cls:=.type "dict",data:=Data.dict #[en P "__module__" 363 (.str "sluice.errors" 208),en P "__firstlineno__" 367 (.int 28 366),en P "__static_attributes__" 368 (.ref 143),en P "__doc__" 369 .none] 2 }
def zZ (P:Params):Obj:={ cls:=.type "type",data:=Data.cls { name:="Full",bases:=[.ref 36],mro:=[.ref 145,.ref 36,.type "ValueError",.type "Exception",.type "BaseException",.type "object"],ns:=144,qualname:="Full" },slots:=#[some (.ref 136),none,some (.str "Full" 356),some (.str "Full" 364),some (.builtin "ValueError.__new__"),some (.bool true)] }
def Mi (P:Params):Obj:={ cls:=.type "super",data:=Data.fields #[.ref 145,.ref 145,.ref 145] }
def Mh (P:Params):Obj:={ cls:=.type "builtin_function_or_method",data:=Data.fields #[.builtin "object.__init_subclass__",.ref 145] }
def zY (P:Params):Obj:=(tq #[.ref 36])
def Mg (P:Params):Obj:={ cls:=.type "builtin_function_or_method",data:=Data.fields #[.builtin "type.__prepare__",.type "type"] }
def Mf (P:Params):Obj:={ cls:=.type "dict",data:=Data.dict #[en P "__module__" 379 (.str "sluice.errors" 208),en P "__qualname__" 381 (.str "NoPaper" 380),en P "__firstlineno__" 383 (.int 30 382),en P "__static_attributes__" 384 (.ref 155)] 4 }
def Ma (P:Params):Obj:=(tq #[])
def LR (P:Params):Obj:={ cls:=.none,data:=Data.fields #[] }
def LQ (P:Params):Obj:=(fc #[.str "NoPaper" 374,.str "NoPaper" 375,cp 376,.int 30 0,.int 0 0,.int 0 0,.int 0 0,.int 0 0,.ref 151,.bool false,.int 181 0,.ref 152,.none,.none,.none,.none,.int 377 0,.int 30 0,cp 378])
def LK (P:Params):Obj:={ cls:=.type "frame",slots:=#[some (.ref 153),some (.ref 3),some (.ref 150),none,some (.str "sluice.errors" 208),none,some (.ref 0)] }
def zX (P:Params):Obj:=(tq #[])
def zW (P:Params):Obj:={ cls:=.type "dict",data:=Data.dict #[en P "__module__" 379 (.str "sluice.errors" 208),en P "__firstlineno__" 383 (.int 30 382),en P "__static_attributes__" 384 (.ref 155),en P "__doc__" 385 .none] 2 }
def zV (P:Params):Obj:={ cls:=.type "type",data:=Data.cls { name:="NoPaper",bases:=[.ref 36],mro:=[.ref 157,.ref 36,.type "ValueError",.type "Exception",.type "BaseException",.type "object"],ns:=156,qualname:="NoPaper" },slots:=#[some (.ref 148),none,some (.str "NoPaper" 372),some (.str "NoPaper" 380),some (.builtin "ValueError.__new__"),some (.bool true)] }
def LC (P:Params):Obj:={ cls:=.type "super",data:=Data.fields #[.ref 157,.ref 157,.ref 157] }
def Lz (P:Params):Obj:={ cls:=.type "builtin_function_or_method",data:=Data.fields #[.builtin "object.__init_subclass__",.ref 157] }
def zU (P:Params):Obj:=(tq #[.ref 36])
def Ly (P:Params):Obj:={ cls:=.type "builtin_function_or_method",data:=Data.fields #[.builtin "type.__prepare__",.type "type"] }
def Lx (P:Params):Obj:={ cls:=.type "dict",data:=Data.dict #[en P "__module__" 395 (.str "sluice.errors" 208),en P "__qualname__" 397 (.str "NoCut" 396),en P "__firstlineno__" 399 (.int 32 398),en P "__static_attributes__" 400 (.ref 167)] 4 }
def Lw (P:Params):Obj:=(tq #[])
def Ls (P:Params):Obj:={ cls:=.none,data:=Data.fields #[] }
def Lr (P:Params):Obj:=(fc #[.str "NoCut" 390,.str "NoCut" 391,cp 392,.int 32 0,.int 0 0,.int 0 0,.int 0 0,.int 0 0,.ref 163,.bool false,.int 181 0,.ref 164,.none,.none,.none,.none,.int 393 0,.int 32 0,cp 394])
def Lq (P:Params):Obj:={ cls:=.type "frame",slots:=#[some (.ref 165),some (.ref 3),some (.ref 162),none,some (.str "sluice.errors" 208),none,some (.ref 0)] }
def zT (P:Params):Obj:=(tq #[])
def zR (P:Params):Obj:={ cls:=.type "dict",data:=Data.dict #[en P "__module__" 395 (.str "sluice.errors" 208),en P "__firstlineno__" 399 (.int 32 398),en P "__static_attributes__" 400 (.ref 167),en P "__doc__" 401 .none] 2 }
def zQ (P:Params):Obj:={ cls:=.type "type",data:=Data.cls { name:="NoCut",bases:=[.ref 36],mro:=[.ref 169,.ref 36,.type "ValueError",.type "Exception",.type "BaseException",.type "object"],ns:=168,qualname:="NoCut" },slots:=#[some (.ref 160),none,some (.str "NoCut" 388),some (.str "NoCut" 396),some (.builtin "ValueError.__new__"),some (.bool true)] }
def Lp (P:Params):Obj:={ cls:=.type "super",data:=Data.fields #[.ref 169,.ref 169,.ref 169] }
def Ln (P:Params):Obj:={ cls:=.type "builtin_function_or_method",data:=Data.fields #[.builtin "object.__init_subclass__",.ref 169] }
def zP (P:Params):Obj:=(tq #[.ref 36])
def Lk (P:Params):Obj:={ cls:=.type "builtin_function_or_method",data:=Data.fields #[.builtin "type.__prepare__",.type "type"] }
def Lj (P:Params):Obj:={ cls:=.type "dict",data:=Data.dict #[en P "__module__" 411 (.str "sluice.errors" 208),en P "__qualname__" 413 (.str "NoPond" 412),en P "__firstlineno__" 415 (.int 34 414),en P "__static_attributes__" 416 (.ref 179)] 4 }
def Li (P:Params):Obj:=(tq #[])
def Lh (P:Params):Obj:={ cls:=.none,data:=Data.fields #[] }
def Lg (P:Params):Obj:=(fc #[.str "NoPond" 406,.str "NoPond" 407,cp 408,.int 34 0,.int 0 0,.int 0 0,.int 0 0,.int 0 0,.ref 175,.bool false,.int 181 0,.ref 176,.none,.none,.none,.none,.int 409 0,.int 34 0,cp 410])
def Lf (P:Params):Obj:={ cls:=.type "frame",slots:=#[some (.ref 177),some (.ref 3),some (.ref 174),none,some (.str "sluice.errors" 208),none,some (.ref 0)] }
def zO (P:Params):Obj:=(tq #[])
def zN (P:Params):Obj:={ cls:=.type "dict",data:=Data.dict #[en P "__module__" 411 (.str "sluice.errors" 208),en P "__firstlineno__" 415 (.int 34 414),en P "__static_attributes__" 416 (.ref 179),en P "__doc__" 417 .none] 2 }
def zM (P:Params):Obj:={ cls:=.type "type",data:=Data.cls { name:="NoPond",bases:=[.ref 36],mro:=[.ref 181,.ref 36,.type "ValueError",.type "Exception",.type "BaseException",.type "object"],ns:=180,qualname:="NoPond" },slots:=#[some (.ref 172),none,some (.str "NoPond" 404),some (.str "NoPond" 412),some (.builtin "ValueError.__new__"),some (.bool true)] }
def Le (P:Params):Obj:={ cls:=.type "super",data:=Data.fields #[.ref 181,.ref 181,.ref 181] }
def Ld (P:Params):Obj:={ cls:=.type "builtin_function_or_method",data:=Data.fields #[.builtin "object.__init_subclass__",.ref 181] }
def zL (P:Params):Obj:=(tq #[.ref 36])
def Lb (P:Params):Obj:={ cls:=.type "builtin_function_or_method",data:=Data.fields #[.builtin "type.__prepare__",.type "type"] }
def La (P:Params):Obj:={ cls:=.type "dict",data:=Data.dict #[en P "__module__" 427 (.str "sluice.errors" 208),en P "__qualname__" 429 (.str "NoDay" 428),en P "__firstlineno__" 431 (.int 36 430),en P "__static_attributes__" 432 (.ref 191)] 4 }
def K9 (P:Params):Obj:=(tq #[])
def K8 (P:Params):Obj:={ cls:=.none,data:=Data.fields #[] }
def K7 (P:Params):Obj:=(fc #[.str "NoDay" 422,.str "NoDay" 423,cp 424,.int 36 0,.int 0 0,.int 0 0,.int 0 0,.int 0 0,.ref 187,.bool false,.int 181 0,.ref 188,.none,.none,.none,.none,.int 425 0,.int 36 0,cp 426])
def K6 (P:Params):Obj:={ cls:=.type "frame",slots:=#[some (.ref 189),some (.ref 3),some (.ref 186),none,some (.str "sluice.errors" 208),none,some (.ref 0)] }
def zK (P:Params):Obj:=(tq #[])
def zJ (P:Params):Obj:={ cls:=.type "dict",data:=Data.dict #[en P "__module__" 427 (.str "sluice.errors" 208),en P "__firstlineno__" 431 (.int 36 430),en P "__static_attributes__" 432 (.ref 191),en P "__doc__" 433 .none] 2 }
def zH (P:Params):Obj:={ cls:=.type "type",data:=Data.cls { name:="NoDay",bases:=[.ref 36],mro:=[.ref 193,.ref 36,.type "ValueError",.type "Exception",.type "BaseException",.type "object"],ns:=192,qualname:="NoDay" },slots:=#[some (.ref 184),none,some (.str "NoDay" 420),some (.str "NoDay" 428),some (.builtin "ValueError.__new__"),some (.bool true)] }
def K5 (P:Params):Obj:={ cls:=.type "super",data:=Data.fields #[.ref 193,.ref 193,.ref 193] }
def K4 (P:Params):Obj:={ cls:=.type "builtin_function_or_method",data:=Data.fields #[.builtin "object.__init_subclass__",.ref 193] }
def zG (P:Params):Obj:=(tq #[.ref 36])
def K3 (P:Params):Obj:={ cls:=.type "builtin_function_or_method",data:=Data.fields #[.builtin "type.__prepare__",.type "type"] }
def K1 (P:Params):Obj:={ cls:=.type "dict",data:=Data.dict #[en P "__module__" 443 (.str "sluice.errors" 208),en P "__qualname__" 445 (.str "Fixed" 444),en P "__firstlineno__" 447 (.int 38 446),en P "__static_attributes__" 448 (.ref 203)] 4 }
def KZ (P:Params):Obj:=(tq #[])
def KY (P:Params):Obj:={ cls:=.none,data:=Data.fields #[] }
def KR (P:Params):Obj:=(fc #[.str "Fixed" 438,.str "Fixed" 439,cp 440,.int 38 0,.int 0 0,.int 0 0,.int 0 0,.int 0 0,.ref 199,.bool false,.int 181 0,.ref 200,.none,.none,.none,.none,.int 441 0,.int 38 0,cp 442])
def KQ (P:Params):Obj:={ cls:=.type "frame",slots:=#[some (.ref 201),some (.ref 3),some (.ref 198),none,some (.str "sluice.errors" 208),none,some (.ref 0)] }
def zF (P:Params):Obj:=(tq #[])
def zE (P:Params):Obj:={ cls:=.type "dict",data:=Data.dict #[en P "__module__" 443 (.str "sluice.errors" 208),en P "__firstlineno__" 447 (.int 38 446),en P "__static_attributes__" 448 (.ref 203),en P "__doc__" 449 .none] 2 }
def zB (P:Params):Obj:={ cls:=.type "type",data:=Data.cls { name:="Fixed",bases:=[.ref 36],mro:=[.ref 205,.ref 36,.type "ValueError",.type "Exception",.type "BaseException",.type "object"],ns:=204,qualname:="Fixed" },slots:=#[some (.ref 196),none,some (.str "Fixed" 436),some (.str "Fixed" 444),some (.builtin "ValueError.__new__"),some (.bool true)] }
def KN (P:Params):Obj:={ cls:=.type "super",data:=Data.fields #[.ref 205,.ref 205,.ref 205] }
def KJ (P:Params):Obj:={ cls:=.type "builtin_function_or_method",data:=Data.fields #[.builtin "object.__init_subclass__",.ref 205] }
def zA (P:Params):Obj:=(tq #[.ref 36])
def KH (P:Params):Obj:={ cls:=.type "builtin_function_or_method",data:=Data.fields #[.builtin "type.__prepare__",.type "type"] }
def KD (P:Params):Obj:={ cls:=.type "dict",data:=Data.dict #[en P "__module__" 459 (.str "sluice.errors" 208),en P "__qualname__" 461 (.str "Harms" 460),en P "__firstlineno__" 463 (.int 40 462),en P "__static_attributes__" 464 (.ref 215)] 4 }
def KC (P:Params):Obj:=(tq #[])
def Kz (P:Params):Obj:={ cls:=.none,data:=Data.fields #[] }
def Ky (P:Params):Obj:=(fc #[.str "Harms" 454,.str "Harms" 455,cp 456,.int 40 0,.int 0 0,.int 0 0,.int 0 0,.int 0 0,.ref 211,.bool false,.int 181 0,.ref 212,.none,.none,.none,.none,.int 457 0,.int 40 0,cp 458])
def Kw (P:Params):Obj:={ cls:=.type "frame",slots:=#[some (.ref 213),some (.ref 3),some (.ref 210),none,some (.str "sluice.errors" 208),none,some (.ref 0)] }
def zy (P:Params):Obj:=(tq #[])
def zx (P:Params):Obj:={ cls:=.type "dict",data:=Data.dict #[en P "__module__" 459 (.str "sluice.errors" 208),en P "__firstlineno__" 463 (.int 40 462),en P "__static_attributes__" 464 (.ref 215),en P "__doc__" 465 .none] 2 }
def zu (P:Params):Obj:={ cls:=.type "type",data:=Data.cls { name:="Harms",bases:=[.ref 36],mro:=[.ref 217,.ref 36,.type "ValueError",.type "Exception",.type "BaseException",.type "object"],ns:=216,qualname:="Harms" },slots:=#[some (.ref 208),none,some (.str "Harms" 452),some (.str "Harms" 460),some (.builtin "ValueError.__new__"),some (.bool true)] }
def Kv (P:Params):Obj:={ cls:=.type "super",data:=Data.fields #[.ref 217,.ref 217,.ref 217] }
def Ku (P:Params):Obj:={ cls:=.type "builtin_function_or_method",data:=Data.fields #[.builtin "object.__init_subclass__",.ref 217] }
def zq (P:Params):Obj:=(tq #[.ref 36])
def Ks (P:Params):Obj:={ cls:=.type "builtin_function_or_method",data:=Data.fields #[.builtin "type.__prepare__",.type "type"] }
def Kr (P:Params):Obj:={ cls:=.type "dict",data:=Data.dict #[en P "__module__" 475 (.str "sluice.errors" 208),en P "__qualname__" 477 (.str "NoRow" 476),en P "__firstlineno__" 479 (.int 42 478),en P "__static_attributes__" 480 (.ref 227)] 4 }
def Kq (P:Params):Obj:=(tq #[])
def Kp (P:Params):Obj:={ cls:=.none,data:=Data.fields #[] }
def Ko (P:Params):Obj:=(fc #[.str "NoRow" 470,.str "NoRow" 471,cp 472,.int 42 0,.int 0 0,.int 0 0,.int 0 0,.int 0 0,.ref 223,.bool false,.int 181 0,.ref 224,.none,.none,.none,.none,.int 473 0,.int 42 0,cp 474])
def Km (P:Params):Obj:={ cls:=.type "frame",slots:=#[some (.ref 225),some (.ref 3),some (.ref 222),none,some (.str "sluice.errors" 208),none,some (.ref 0)] }
def zp (P:Params):Obj:=(tq #[])
def zm (P:Params):Obj:={ cls:=.type "dict",data:=Data.dict #[en P "__module__" 475 (.str "sluice.errors" 208),en P "__firstlineno__" 479 (.int 42 478),en P "__static_attributes__" 480 (.ref 227),en P "__doc__" 481 .none] 2 }
def zj (P:Params):Obj:={ cls:=.type "type",data:=Data.cls { name:="NoRow",bases:=[.ref 36],mro:=[.ref 229,.ref 36,.type "ValueError",.type "Exception",.type "BaseException",.type "object"],ns:=228,qualname:="NoRow" },slots:=#[some (.ref 220),none,some (.str "NoRow" 468),some (.str "NoRow" 476),some (.builtin "ValueError.__new__"),some (.bool true)] }
def Kl (P:Params):Obj:={ cls:=.type "super",data:=Data.fields #[.ref 229,.ref 229,.ref 229] }
def Kh (P:Params):Obj:={ cls:=.type "builtin_function_or_method",data:=Data.fields #[.builtin "object.__init_subclass__",.ref 229] }
def zf (P:Params):Obj:=(tq #[])
def Kg (P:Params):Obj:={ cls:=.none,data:=Data.fields #[] }
def zc (P:Params):Obj:=(tq #[.str "below" 494,.str "start" 495,.str "reach" 496,.str "step" 497])
def za (P:Params):Obj:=(tq #[])
def Ke (P:Params):Obj:=(pr0 "comes_to_mouth" 27)
def yZ (P:Params):Obj:=(fc #[.str "comes_to_mouth" 491,.str "comes_to_mouth" 492,cp 493,.int 47 0,.int 2 0,.int 0 0,.int 0 0,.int 3 0,.ref 232,.bool true,.int 181 0,.ref 233,.none,.ref 234,.ref 235,.ref 236,.int 498 0,.int 47 0,cp 499])
def yX (P:Params):Obj:=⟨.type "function",none,.func (PySem.W.fnOf "comes_to_mouth" "comes_to_mouth" (aB (top0 27)) (aA (top0 27)) (ak (top0 27)) .none .none .none (.str "sluice.rivers" 484) none (.ref 237) .none),#[]⟩
def yW (P:Params):Obj:=(tq #[])
def Kd (P:Params):Obj:={ cls:=.none,data:=Data.fields #[] }
def Kc (P:Params):Obj:=(pr0 "is_river" 28)
def yV (P:Params):Obj:=(fc #[.str "is_river" 501,.str "is_river" 502,cp 503,.int 54 0,.int 1 0,.int 0 0,.int 0 0,.int 3 0,.ref 239,.bool true,.int 181 0,.ref 240,.none,.none,.none,.ref 241,.int 504 0,.int 54 0,cp 505])
def yU (P:Params):Obj:=⟨.type "function",none,.func (PySem.W.fnOf "is_river" "is_river" (aB (top0 28)) (aA (top0 28)) (ak (top0 28)) .none .none .none (.str "sluice.rivers" 484) none (.ref 242) .none),#[]⟩
def yS (P:Params):Obj:=(tq #[])
def Ka (P:Params):Obj:={ cls:=.none,data:=Data.fields #[] }
def yR (P:Params):Obj:=(tq #[.str "below" 510,.str "reach" 511,.str "way" 512])
def yQ (P:Params):Obj:=(tq #[])
def J9 (P:Params):Obj:=(pr0 "way_of" 29)
def yP (P:Params):Obj:=(fc #[.str "way_of" 507,.str "way_of" 508,cp 509,.int 60 0,.int 2 0,.int 0 0,.int 0 0,.int 3 0,.ref 244,.bool true,.int 181 0,.ref 245,.none,.ref 246,.ref 247,.ref 248,.int 513 0,.int 60 0,cp 514])
def yO (P:Params):Obj:=⟨.type "function",none,.func (PySem.W.fnOf "way_of" "way_of" (aB (top0 29)) (aA (top0 29)) (ak (top0 29)) .none .none .none (.str "sluice.rivers" 484) none (.ref 249) .none),#[]⟩
def yN (P:Params):Obj:=(tq #[])
def J8 (P:Params):Obj:={ cls:=.none,data:=Data.fields #[] }
def yM (P:Params):Obj:=(tq #[.str "below" 523,.str "one" 524,.str "day" 525,.str "start" 526,.str "back" 527,.str "most" 528])
def yL (P:Params):Obj:=(tq #[])
def J7 (P:Params):Obj:=(pr0 "is_licence" 32)
def yK (P:Params):Obj:=(fc #[.str "is_licence" 520,.str "is_licence" 521,cp 522,.int 67 0,.int 2 0,.int 0 0,.int 0 0,.int 3 0,.ref 251,.bool true,.int 181 0,.ref 252,.none,.ref 253,.ref 254,.ref 255,.int 529 0,.int 67 0,cp 530])
def yJ (P:Params):Obj:=⟨.type "function",none,.func (PySem.W.fnOf "is_licence" "is_licence" (aB (top0 32)) (aA (top0 32)) (ak (top0 32)) .none .none .none (.str "sluice.licences" 516) none (.ref 256) .none),#[]⟩
def yI (P:Params):Obj:=(tq #[])
def J6 (P:Params):Obj:={ cls:=.none,data:=Data.fields #[] }
def yH (P:Params):Obj:=(tq #[.str "one" 535])
def yG (P:Params):Obj:=(tq #[])
def J5 (P:Params):Obj:=(pr0 "day_filed" 33)
def yF (P:Params):Obj:=(fc #[.str "day_filed" 532,.str "day_filed" 533,cp 534,.int 72 0,.int 1 0,.int 0 0,.int 0 0,.int 3 0,.ref 258,.bool true,.int 181 0,.ref 259,.none,.ref 260,.ref 261,.ref 262,.int 536 0,.int 72 0,cp 537])
def yE (P:Params):Obj:=⟨.type "function",none,.func (PySem.W.fnOf "day_filed" "day_filed" (aB (top0 33)) (aA (top0 33)) (ak (top0 33)) .none .none .none (.str "sluice.licences" 516) none (.ref 263) .none),#[]⟩
def yD (P:Params):Obj:=(tq #[])
def J4 (P:Params):Obj:={ cls:=.none,data:=Data.fields #[] }
def yC (P:Params):Obj:=(tq #[.str "one" 542])
def yx (P:Params):Obj:=(tq #[])
def J3 (P:Params):Obj:=(pr0 "most_of" 34)
def yw (P:Params):Obj:=(fc #[.str "most_of" 539,.str "most_of" 540,cp 541,.int 74 0,.int 1 0,.int 0 0,.int 0 0,.int 3 0,.ref 265,.bool true,.int 181 0,.ref 266,.none,.ref 267,.ref 268,.ref 269,.int 543 0,.int 74 0,cp 544])
def yu (P:Params):Obj:=⟨.type "function",none,.func (PySem.W.fnOf "most_of" "most_of" (aB (top0 34)) (aA (top0 34)) (ak (top0 34)) .none .none .none (.str "sluice.licences" 516) none (.ref 270) .none),#[]⟩
def yt (P:Params):Obj:=(tq #[])
def J2 (P:Params):Obj:={ cls:=.none,data:=Data.fields #[] }
def yr (P:Params):Obj:=(tq #[.str "one" 549,.str "start" 550])
def yq (P:Params):Obj:=(tq #[])
def J1 (P:Params):Obj:=(pr0 "with_start" 35)
def yp (P:Params):Obj:=(fc #[.str "with_start" 546,.str "with_start" 547,cp 548,.int 76 0,.int 2 0,.int 0 0,.int 0 0,.int 3 0,.ref 272,.bool true,.int 181 0,.ref 273,.none,.ref 274,.ref 275,.ref 276,.int 551 0,.int 76 0,cp 552])
def yj (P:Params):Obj:=⟨.type "function",none,.func (PySem.W.fnOf "with_start" "with_start" (aB (top0 35)) (aA (top0 35)) (ak (top0 35)) .none .none .none (.str "sluice.licences" 516) none (.ref 277) .none),#[]⟩
def yh (P:Params):Obj:=(tq #[])
def J0 (P:Params):Obj:={ cls:=.none,data:=Data.fields #[] }
def yg (P:Params):Obj:=(tq #[.str "one" 557,.str "most" 558])
def yd (P:Params):Obj:=(tq #[])
def JZ (P:Params):Obj:=(pr0 "with_most" 36)
def yc (P:Params):Obj:=(fc #[.str "with_most" 554,.str "with_most" 555,cp 556,.int 78 0,.int 2 0,.int 0 0,.int 0 0,.int 3 0,.ref 279,.bool true,.int 181 0,.ref 280,.none,.ref 281,.ref 282,.ref 283,.int 559 0,.int 78 0,cp 560])
def xZ (P:Params):Obj:=⟨.type "function",none,.func (PySem.W.fnOf "with_most" "with_most" (aB (top0 36)) (aA (top0 36)) (ak (top0 36)) .none .none .none (.str "sluice.licences" 516) none (.ref 284) .none),#[]⟩
def xY (P:Params):Obj:=(tq #[])
def JX (P:Params):Obj:={ cls:=.none,data:=Data.fields #[] }
def xX (P:Params):Obj:=(tq #[.str "name" 569])
def xW (P:Params):Obj:=(tq #[])
def JW (P:Params):Obj:=(pr0 "look_at_name" 39)
def xV (P:Params):Obj:=(fc #[.str "look_at_name" 566,.str "look_at_name" 567,cp 568,.int 82 0,.int 1 0,.int 0 0,.int 0 0,.int 3 0,.ref 286,.bool true,.int 181 0,.ref 287,.none,.ref 288,.ref 289,.ref 290,.int 570 0,.int 82 0,cp 571])
def xU (P:Params):Obj:=⟨.type "function",none,.func (PySem.W.fnOf "look_at_name" "look_at_name" (aB (top0 39)) (aA (top0 39)) (ak (top0 39)) .none .none .none (.str "sluice.rolls" 562) none (.ref 291) .none),#[]⟩
def JV (P:Params):Obj:={ cls:=.type "dict",data:=Data.dict #[en P "__name__" 165 (.str "law_sluice_k56_refused_in_order" 750),en P "__doc__" 166 .none,en P "__package__" 167 .none,en P "__loader__" 168 (.builtin "__main__.__loader__#opaque"),en P "__spec__" 169 .none,en P "__annotations__" 170 (.ref 6),en P "__builtins__" 171 (.ref 4),en P "__file__" 173 (cp 172),en P "__cached__" 174 .none,en P "MOST_WATER" 190 (.int 1000000000000 189),en P "LONGEST_NAME" 192 (.int 8 191),en P "LETTERS" 194 (.str "abcdefghijklmnopqrstuvwxyz" 193),en P "is_water" 201 (.ref 21),en P "is_name" 207 (.ref 26),en P "SluiceError" 227 (.ref 36),en P "NoRiver" 243 (.ref 49),en P "NoReach" 259 (.ref 61),en P "NoLicence" 275 (.ref 73),en P "NoNumber" 291 (.ref 85),en P "NoHolder" 307 (.ref 97),en P "NotYours" 323 (.ref 109),en P "NotAlone" 339 (.ref 121),en P "TooMuch" 355 (.ref 133),en P "Full" 371 (.ref 145),en P "NoPaper" 387 (.ref 157),en P "NoCut" 403 (.ref 169),en P "NoPond" 419 (.ref 181),en P "NoDay" 435 (.ref 193),en P "Fixed" 451 (.ref 205),en P "Harms" 467 (.ref 217),en P "NoRow" 483 (.ref 229),en P "MOST_REACHES" 487 (.int 40 486),en P "MOUTH" 490 (.int (-1) 489),en P "comes_to_mouth" 500 (.ref 238),en P "is_river" 506 (.ref 243),en P "way_of" 515 (.ref 250),en P "LAST_DAY" 519 (.int 1000000 518),en P "is_licence" 531 (.ref 257),en P "day_filed" 538 (.ref 264),en P "most_of" 545 (.ref 271),en P "with_start" 553 (.ref 278),en P "with_most" 561 (.ref 285),en P "MOST_LICENCES" 565 (.int 60 564),en P "look_at_name" 572 (.ref 292),en P "Roll" 749 (.ref 425),en P "_law_cell_at" 759 (.ref 436),en P "_law_draw" 768 (.ref 443),en P "_law_draws" 774 (.ref 448),en P "_law_river" 780 (.ref 453),en P "_law_way" 789 (.ref 460),en P "_law_words" 795 (.ref 465),en P "_law_do" 803 (.ref 472),en P "_law_refused" 813 (.ref 479),en P "_law_bad_name" 823 (.ref 486),en P "_law_filed" 841 (.ref 493),en P "_law_begun" 856 (.ref 500),en P "_law_is_let" 865 (.ref 507),en P "_law_due_first" 871 (.ref 512),en P "_law_due" 877 (.ref 517),en P "_law_lapse" 883 (.ref 522),en P "_law_deed" 902 (.ref 529),en P "law" 919 (.ref 536)] 62 }
def VF (P:Params):Obj:={ cls:=.none,data:=Data.fields #[.int 5 0,.int 0 0,.ref 20,.int 7 0,.int 0 0,.ref 25,.int 10 0,.int 0 0,.ref 32,.int 12 0,.int 0 0,.ref 45,.int 14 0,.int 0 0,.ref 57,.int 16 0,.int 0 0,.ref 69,.int 18 0,.int 0 0,.ref 81,.int 20 0,.int 0 0,.ref 93,.int 22 0,.int 0 0,.ref 105,.int 24 0,.int 0 0,.ref 117,.int 26 0,.int 0 0,.ref 129,.int 28 0,.int 0 0,.ref 141,.int 30 0,.int 0 0,.ref 153,.int 32 0,.int 0 0,.ref 165,.int 34 0,.int 0 0,.ref 177,.int 36 0,.int 0 0,.ref 189,.int 38 0,.int 0 0,.ref 201,.int 40 0,.int 0 0,.ref 213,.int 42 0,.int 0 0,.ref 225,.int 47 0,.int 0 0,.ref 237,.int 54 0,.int 0 0,.ref 242,.int 60 0,.int 0 0,.ref 249,.int 67 0,.int 0 0,.ref 256,.int 72 0,.int 0 0,.ref 263,.int 74 0,.int 0 0,.ref 270,.int 76 0,.int 0 0,.ref 277,.int 78 0,.int 0 0,.ref 284,.int 82 0,.int 0 0,.ref 291,.int 85 0,.int 0 0,.ref 298,.int 195 0,.int 0 0,.ref 435,.int 199 0,.int 0 0,.ref 442,.int 202 0,.int 0 0,.ref 447,.int 204 0,.int 0 0,.ref 452,.int 213 0,.int 0 0,.ref 459,.int 218 0,.int 0 0,.ref 464,.int 226 0,.int 0 0,.ref 471,.int 239 0,.int 0 0,.ref 478,.int 248 0,.int 0 0,.ref 485,.int 253 0,.int 0 0,.ref 492,.int 264 0,.int 0 0,.ref 499,.int 284 0,.int 0 0,.ref 506,.int 288 0,.int 0 0,.ref 511,.int 308 0,.int 0 0,.ref 516,.int 320 0,.int 0 0,.ref 521,.int 328 0,.int 0 0,.ref 528,.int 355 0,.int 0 0,.ref 535] }
def VD (P:Params):Obj:=(tq #[])
def VB (P:Params):Obj:={ cls:=.type "builtin_function_or_method",data:=Data.fields #[.builtin "type.__prepare__",.type "type"] }
def Vz (P:Params):Obj:={ cls:=.type "dict",data:=Data.dict #[en P "__module__" 580 (.str "sluice.rolls" 562),en P "__qualname__" 582 (.str "Roll" 581),en P "__firstlineno__" 584 (.int 85 583),en P "__init__" 592 (.ref 306),en P "today" 599 (.ref 313),en P "roll" 606 (.ref 320),en P "holders" 613 (.ref 327),en P "deeds" 620 (.ref 334),en P "turn" 627 (.ref 341),en P "file" 640 (.ref 349),en P "sell" 650 (.ref 356),en P "part" 662 (.ref 363),en P "drop" 671 (.ref 370),en P "move" 682 (.ref 377),en P "look_move" 691 (.ref 384),en P "lapse" 697 (.ref 389),en P "enter" 706 (.ref 396),en P "is_alone" 712 (.ref 401),en P "look_at_number" 720 (.ref 408),en P "look_at_holder" 729 (.ref 415),en P "look_at_room" 736 (.ref 422),en P "__static_attributes__" 742 (.ref 423)] 22 }
def Vy (P:Params):Obj:=(tq #[])
def Vx (P:Params):Obj:={ cls:=.none,data:=Data.fields #[.int 87 0,.int 4 0,.ref 305,.int 96 0,.int 4 0,.ref 312,.int 99 0,.int 4 0,.ref 319,.int 102 0,.int 4 0,.ref 326,.int 105 0,.int 4 0,.ref 333,.int 108 0,.int 4 0,.ref 340,.int 112 0,.int 4 0,.ref 348,.int 122 0,.int 4 0,.ref 355,.int 128 0,.int 4 0,.ref 362,.int 141 0,.int 4 0,.ref 369,.int 146 0,.int 4 0,.ref 376,.int 155 0,.int 4 0,.ref 383,.int 158 0,.int 4 0,.ref 388,.int 172 0,.int 4 0,.ref 395,.int 177 0,.int 4 0,.ref 400,.int 182 0,.int 4 0,.ref 407,.int 186 0,.int 4 0,.ref 414,.int 191 0,.int 4 0,.ref 421] }
def Vw (P:Params):Obj:=(fc #[.str "Roll" 575,.str "Roll" 576,cp 577,.int 85 0,.int 0 0,.int 0 0,.int 0 0,.int 0 0,.ref 296,.bool false,.int 181 0,.ref 297,.none,.none,.none,.none,.int 578 0,.int 85 0,cp 579])
def Vv (P:Params):Obj:={ cls:=.type "frame",slots:=#[some (.ref 298),some (.ref 3),some (.ref 295),none,some (.str "sluice.rolls" 562),none,some (.ref 0)] }
def JT (P:Params):Obj:=(tq #[])
def Vu (P:Params):Obj:={ cls:=.none,data:=Data.fields #[] }
def JR (P:Params):Obj:=(tq #[.str "self" 588,.str "below" 589])
def JQ (P:Params):Obj:=(tq #[])
def Vt (P:Params):Obj:={ cls:=.none,data:=.func { name:="__init__",qualname:="Roll.__init__",params:=aB (inClass (top0 40) 0),body:=.stmts (aA (inClass (top0 40) 0)),scope:=ak (inClass (top0 40) 0),globals:=0,closure:=[],defaults:=.none,kwdefaults:=.none } }
def JN (P:Params):Obj:=(fc #[.str "__init__" 585,.str "Roll.__init__" 586,cp 587,.int 87 0,.int 2 0,.int 0 0,.int 0 0,.int 3 0,.ref 300,.bool true,.int 181 0,.ref 301,.none,.ref 302,.ref 303,.ref 304,.int 590 0,.int 87 0,cp 591])
def JM (P:Params):Obj:=⟨.type "function",none,.func (PySem.W.fnOf "__init__" "Roll.__init__" (aB (inClass (top0 40) 0)) (aA (inClass (top0 40) 0)) (ak (inClass (top0 40) 0)) .none .none .none (.str "sluice.rolls" 562) none (.ref 305) .none),#[]⟩
def JL (P:Params):Obj:=(tq #[])
def Vs (P:Params):Obj:={ cls:=.none,data:=Data.fields #[] }
def JK (P:Params):Obj:=(tq #[.str "self" 596])
def JH (P:Params):Obj:=(tq #[])
def Vr (P:Params):Obj:={ cls:=.none,data:=.func { name:="today",qualname:="Roll.today",params:=aB (inClass (top0 40) 1),body:=.stmts (aA (inClass (top0 40) 1)),scope:=ak (inClass (top0 40) 1),globals:=0,closure:=[],defaults:=.none,kwdefaults:=.none } }
def JG (P:Params):Obj:=(fc #[.str "today" 593,.str "Roll.today" 594,cp 595,.int 96 0,.int 1 0,.int 0 0,.int 0 0,.int 3 0,.ref 307,.bool true,.int 181 0,.ref 308,.none,.ref 309,.ref 310,.ref 311,.int 597 0,.int 96 0,cp 598])
def JF (P:Params):Obj:=⟨.type "function",none,.func (PySem.W.fnOf "today" "Roll.today" (aB (inClass (top0 40) 1)) (aA (inClass (top0 40) 1)) (ak (inClass (top0 40) 1)) .none .none .none (.str "sluice.rolls" 562) none (.ref 312) .none),#[]⟩
def JD (P:Params):Obj:=(tq #[])
def Vq (P:Params):Obj:={ cls:=.none,data:=Data.fields #[] }
def JC (P:Params):Obj:=(tq #[.str "self" 603])
def JB (P:Params):Obj:=(tq #[])
def Vp (P:Params):Obj:={ cls:=.none,data:=.func { name:="roll",qualname:="Roll.roll",params:=aB (inClass (top0 40) 2),body:=.stmts (aA (inClass (top0 40) 2)),scope:=ak (inClass (top0 40) 2),globals:=0,closure:=[],defaults:=.none,kwdefaults:=.none } }
def Jz (P:Params):Obj:=(fc #[.str "roll" 600,.str "Roll.roll" 601,cp 602,.int 99 0,.int 1 0,.int 0 0,.int 0 0,.int 3 0,.ref 314,.bool true,.int 181 0,.ref 315,.none,.ref 316,.ref 317,.ref 318,.int 604 0,.int 99 0,cp 605])
def Jy (P:Params):Obj:=⟨.type "function",none,.func (PySem.W.fnOf "roll" "Roll.roll" (aB (inClass (top0 40) 2)) (aA (inClass (top0 40) 2)) (ak (inClass (top0 40) 2)) .none .none .none (.str "sluice.rolls" 562) none (.ref 319) .none),#[]⟩
def Jx (P:Params):Obj:=(tq #[])
def Vo (P:Params):Obj:={ cls:=.none,data:=Data.fields #[] }
def Jw (P:Params):Obj:=(tq #[.str "self" 610])
def Jv (P:Params):Obj:=(tq #[])
def Vn (P:Params):Obj:={ cls:=.none,data:=.func { name:="holders",qualname:="Roll.holders",params:=aB (inClass (top0 40) 3),body:=.stmts (aA (inClass (top0 40) 3)),scope:=ak (inClass (top0 40) 3),globals:=0,closure:=[],defaults:=.none,kwdefaults:=.none } }
def Ju (P:Params):Obj:=(fc #[.str "holders" 607,.str "Roll.holders" 608,cp 609,.int 102 0,.int 1 0,.int 0 0,.int 0 0,.int 3 0,.ref 321,.bool true,.int 181 0,.ref 322,.none,.ref 323,.ref 324,.ref 325,.int 611 0,.int 102 0,cp 612])
def Jt (P:Params):Obj:=⟨.type "function",none,.func (PySem.W.fnOf "holders" "Roll.holders" (aB (inClass (top0 40) 3)) (aA (inClass (top0 40) 3)) (ak (inClass (top0 40) 3)) .none .none .none (.str "sluice.rolls" 562) none (.ref 326) .none),#[]⟩
def Js (P:Params):Obj:=(tq #[])
def Vm (P:Params):Obj:={ cls:=.none,data:=Data.fields #[] }
def Jr (P:Params):Obj:=(tq #[.str "self" 617])
def Jq (P:Params):Obj:=(tq #[])
def Vk (P:Params):Obj:={ cls:=.none,data:=.func { name:="deeds",qualname:="Roll.deeds",params:=aB (inClass (top0 40) 4),body:=.stmts (aA (inClass (top0 40) 4)),scope:=ak (inClass (top0 40) 4),globals:=0,closure:=[],defaults:=.none,kwdefaults:=.none } }
def Jp (P:Params):Obj:=(fc #[.str "deeds" 614,.str "Roll.deeds" 615,cp 616,.int 105 0,.int 1 0,.int 0 0,.int 0 0,.int 3 0,.ref 328,.bool true,.int 181 0,.ref 329,.none,.ref 330,.ref 331,.ref 332,.int 618 0,.int 105 0,cp 619])
def Jo (P:Params):Obj:=⟨.type "function",none,.func (PySem.W.fnOf "deeds" "Roll.deeds" (aB (inClass (top0 40) 4)) (aA (inClass (top0 40) 4)) (ak (inClass (top0 40) 4)) .none .none .none (.str "sluice.rolls" 562) none (.ref 333) .none),#[]⟩
def Jm (P:Params):Obj:=(tq #[])
def Vj (P:Params):Obj:={ cls:=.none,data:=Data.fields #[] }
def Jl (P:Params):Obj:=(tq #[.str "self" 624])
def Jk (P:Params):Obj:=(tq #[])
def Vi (P:Params):Obj:={ cls:=.none,data:=.func { name:="turn",qualname:="Roll.turn",params:=aB (inClass (top0 40) 5),body:=.stmts (aA (inClass (top0 40) 5)),scope:=ak (inClass (top0 40) 5),globals:=0,closure:=[],defaults:=.none,kwdefaults:=.none } }
def Jj (P:Params):Obj:=(fc #[.str "turn" 621,.str "Roll.turn" 622,cp 623,.int 108 0,.int 1 0,.int 0 0,.int 0 0,.int 3 0,.ref 335,.bool true,.int 181 0,.ref 336,.none,.ref 337,.ref 338,.ref 339,.int 625 0,.int 108 0,cp 626])
def Ji (P:Params):Obj:=⟨.type "function",none,.func (PySem.W.fnOf "turn" "Roll.turn" (aB (inClass (top0 40) 5)) (aA (inClass (top0 40) 5)) (ak (inClass (top0 40) 5)) .none .none .none (.str "sluice.rolls" 562) none (.ref 340) .none),#[]⟩
def Jh (P:Params):Obj:=(tq #[.none])
def Jg (P:Params):Obj:=(tq #[])
def Vg (P:Params):Obj:={ cls:=.none,data:=Data.fields #[] }
def Jf (P:Params):Obj:=(tq #[.str "self" 631,.str "holder" 632,.str "start" 633,.str "most" 634,.str "back" 635,.str "stop" 636,.str "one" 637])
def Je (P:Params):Obj:=(tq #[])
def Vf (P:Params):Obj:={ cls:=.none,data:=.func { name:="file",qualname:="Roll.file",params:=aB (inClass (top0 40) 6),body:=.stmts (aA (inClass (top0 40) 6)),scope:=ak (inClass (top0 40) 6),globals:=0,closure:=[],defaults:=.none,kwdefaults:=.none } }
def Jd (P:Params):Obj:=(fc #[.str "file" 628,.str "Roll.file" 629,cp 630,.int 112 0,.int 5 0,.int 0 0,.int 0 0,.int 3 0,.ref 343,.bool true,.int 181 0,.ref 344,.none,.ref 345,.ref 346,.ref 347,.int 638 0,.int 112 0,cp 639])
def Jc (P:Params):Obj:=⟨.type "function",none,.func (PySem.W.fnOf "file" "Roll.file" (aB (inClass (top0 40) 6)) (aA (inClass (top0 40) 6)) (ak (inClass (top0 40) 6)) (.ref 342) .none .none (.str "sluice.rolls" 562) none (.ref 348) .none),#[]⟩
def Jb (P:Params):Obj:=(tq #[])
def Vd (P:Params):Obj:={ cls:=.none,data:=Data.fields #[] }
def Ja (P:Params):Obj:=(tq #[.str "self" 644,.str "number" 645,.str "holder" 646,.str "to" 647])
def IW (P:Params):Obj:=(tq #[])
def Vc (P:Params):Obj:={ cls:=.none,data:=.func { name:="sell",qualname:="Roll.sell",params:=aB (inClass (top0 40) 7),body:=.stmts (aA (inClass (top0 40) 7)),scope:=ak (inClass (top0 40) 7),globals:=0,closure:=[],defaults:=.none,kwdefaults:=.none } }
def IV (P:Params):Obj:=(fc #[.str "sell" 641,.str "Roll.sell" 642,cp 643,.int 122 0,.int 4 0,.int 0 0,.int 0 0,.int 3 0,.ref 350,.bool true,.int 181 0,.ref 351,.none,.ref 352,.ref 353,.ref 354,.int 648 0,.int 122 0,cp 649])
def IK (P:Params):Obj:=⟨.type "function",none,.func (PySem.W.fnOf "sell" "Roll.sell" (aB (inClass (top0 40) 7)) (aA (inClass (top0 40) 7)) (ak (inClass (top0 40) 7)) .none .none .none (.str "sluice.rolls" 562) none (.ref 355) .none),#[]⟩
def Iz (P:Params):Obj:=(tq #[])
def Vb (P:Params):Obj:={ cls:=.none,data:=Data.fields #[] }
def Iw (P:Params):Obj:=(tq #[.str "self" 654,.str "number" 655,.str "holder" 656,.str "most" 657,.str "to" 658,.str "one" 659])
def Iu (P:Params):Obj:=(tq #[])
def U9 (P:Params):Obj:={ cls:=.none,data:=.func { name:="part",qualname:="Roll.part",params:=aB (inClass (top0 40) 8),body:=.stmts (aA (inClass (top0 40) 8)),scope:=ak (inClass (top0 40) 8),globals:=0,closure:=[],defaults:=.none,kwdefaults:=.none } }
def Ir (P:Params):Obj:=(fc #[.str "part" 651,.str "Roll.part" 652,cp 653,.int 128 0,.int 5 0,.int 0 0,.int 0 0,.int 3 0,.ref 357,.bool true,.int 181 0,.ref 358,.none,.ref 359,.ref 360,.ref 361,.int 660 0,.int 128 0,cp 661])
def Ip (P:Params):Obj:=⟨.type "function",none,.func (PySem.W.fnOf "part" "Roll.part" (aB (inClass (top0 40) 8)) (aA (inClass (top0 40) 8)) (ak (inClass (top0 40) 8)) .none .none .none (.str "sluice.rolls" 562) none (.ref 362) .none),#[]⟩
def Io (P:Params):Obj:=(tq #[])
def U8 (P:Params):Obj:={ cls:=.none,data:=Data.fields #[] }
def Im (P:Params):Obj:=(tq #[.str "self" 666,.str "number" 667,.str "holder" 668])
def Il (P:Params):Obj:=(tq #[])
def U7 (P:Params):Obj:={ cls:=.none,data:=.func { name:="drop",qualname:="Roll.drop",params:=aB (inClass (top0 40) 9),body:=.stmts (aA (inClass (top0 40) 9)),scope:=ak (inClass (top0 40) 9),globals:=0,closure:=[],defaults:=.none,kwdefaults:=.none } }
def Ik (P:Params):Obj:=(fc #[.str "drop" 663,.str "Roll.drop" 664,cp 665,.int 141 0,.int 3 0,.int 0 0,.int 0 0,.int 3 0,.ref 364,.bool true,.int 181 0,.ref 365,.none,.ref 366,.ref 367,.ref 368,.int 669 0,.int 141 0,cp 670])
def Ij (P:Params):Obj:=⟨.type "function",none,.func (PySem.W.fnOf "drop" "Roll.drop" (aB (inClass (top0 40) 9)) (aA (inClass (top0 40) 9)) (ak (inClass (top0 40) 9)) .none .none .none (.str "sluice.rolls" 562) none (.ref 369) .none),#[]⟩
def Ii (P:Params):Obj:=(tq #[])
def U5 (P:Params):Obj:={ cls:=.none,data:=Data.fields #[] }
def Ih (P:Params):Obj:=(tq #[.str "self" 675,.str "number" 676,.str "holder" 677,.str "start" 678,.str "one" 679])
def Ig (P:Params):Obj:=(tq #[])
def U4 (P:Params):Obj:={ cls:=.none,data:=.func { name:="move",qualname:="Roll.move",params:=aB (inClass (top0 40) 10),body:=.stmts (aA (inClass (top0 40) 10)),scope:=ak (inClass (top0 40) 10),globals:=0,closure:=[],defaults:=.none,kwdefaults:=.none } }
def Ie (P:Params):Obj:=(fc #[.str "move" 672,.str "Roll.move" 673,cp 674,.int 146 0,.int 4 0,.int 0 0,.int 0 0,.int 3 0,.ref 371,.bool true,.int 181 0,.ref 372,.none,.ref 373,.ref 374,.ref 375,.int 680 0,.int 146 0,cp 681])
def Ib (P:Params):Obj:=⟨.type "function",none,.func (PySem.W.fnOf "move" "Roll.move" (aB (inClass (top0 40) 10)) (aA (inClass (top0 40) 10)) (ak (inClass (top0 40) 10)) .none .none .none (.str "sluice.rolls" 562) none (.ref 376) .none),#[]⟩
def Ia (P:Params):Obj:=(tq #[])
def U3 (P:Params):Obj:={ cls:=.none,data:=Data.fields #[] }
def HY (P:Params):Obj:=(tq #[.str "self" 686,.str "number" 687,.str "start" 688])
def HX (P:Params):Obj:=(tq #[])
def UW (P:Params):Obj:={ cls:=.none,data:=.func { name:="look_move",qualname:="Roll.look_move",params:=aB (inClass (top0 40) 11),body:=.stmts (aA (inClass (top0 40) 11)),scope:=ak (inClass (top0 40) 11),globals:=0,closure:=[],defaults:=.none,kwdefaults:=.none } }
def HW (P:Params):Obj:=(fc #[.str "look_move" 683,.str "Roll.look_move" 684,cp 685,.int 155 0,.int 3 0,.int 0 0,.int 0 0,.int 3 0,.ref 378,.bool true,.int 181 0,.ref 379,.none,.ref 380,.ref 381,.ref 382,.int 689 0,.int 155 0,cp 690])
def HS (P:Params):Obj:=⟨.type "function",none,.func (PySem.W.fnOf "look_move" "Roll.look_move" (aB (inClass (top0 40) 11)) (aA (inClass (top0 40) 11)) (ak (inClass (top0 40) 11)) .none .none .none (.str "sluice.rolls" 562) none (.ref 383) .none),#[]⟩
def HN (P:Params):Obj:=(tq #[])
def UL (P:Params):Obj:={ cls:=.none,data:=Data.fields #[] }
def UJ (P:Params):Obj:={ cls:=.none,data:=.func { name:="lapse",qualname:="Roll.lapse",params:=aB (inClass (top0 40) 12),body:=.stmts (aA (inClass (top0 40) 12)),scope:=ak (inClass (top0 40) 12),globals:=0,closure:=[],defaults:=.none,kwdefaults:=.none } }
def HJ (P:Params):Obj:=(fc #[.str "lapse" 692,.str "Roll.lapse" 693,cp 694,.int 158 0,.int 2 0,.int 0 0,.int 0 0,.int 3 0,.ref 385,.bool true,.int 181 0,.ref 386,.none,.none,.none,.ref 387,.int 695 0,.int 158 0,cp 696])
def HF (P:Params):Obj:=⟨.type "function",none,.func (PySem.W.fnOf "lapse" "Roll.lapse" (aB (inClass (top0 40) 12)) (aA (inClass (top0 40) 12)) (ak (inClass (top0 40) 12)) .none .none .none (.str "sluice.rolls" 562) none (.ref 388) .none),#[]⟩
def HD (P:Params):Obj:=(tq #[])
def UG (P:Params):Obj:={ cls:=.none,data:=Data.fields #[] }
def HB (P:Params):Obj:=(tq #[.str "self" 701,.str "one" 702,.str "holder" 703])
def Hz (P:Params):Obj:=(tq #[])
def Uz (P:Params):Obj:={ cls:=.none,data:=.func { name:="enter",qualname:="Roll.enter",params:=aB (inClass (top0 40) 13),body:=.stmts (aA (inClass (top0 40) 13)),scope:=ak (inClass (top0 40) 13),globals:=0,closure:=[],defaults:=.none,kwdefaults:=.none } }
def Hy (P:Params):Obj:=(fc #[.str "enter" 698,.str "Roll.enter" 699,cp 700,.int 172 0,.int 3 0,.int 0 0,.int 0 0,.int 3 0,.ref 390,.bool true,.int 181 0,.ref 391,.none,.ref 392,.ref 393,.ref 394,.int 704 0,.int 172 0,cp 705])
def Hx (P:Params):Obj:=⟨.type "function",none,.func (PySem.W.fnOf "enter" "Roll.enter" (aB (inClass (top0 40) 13)) (aA (inClass (top0 40) 13)) (ak (inClass (top0 40) 13)) .none .none .none (.str "sluice.rolls" 562) none (.ref 395) .none),#[]⟩
def Hw (P:Params):Obj:=(tq #[])
def Uy (P:Params):Obj:={ cls:=.none,data:=Data.fields #[] }
def Ux (P:Params):Obj:={ cls:=.none,data:=.func { name:="is_alone",qualname:="Roll.is_alone",params:=aB (inClass (top0 40) 14),body:=.stmts (aA (inClass (top0 40) 14)),scope:=ak (inClass (top0 40) 14),globals:=0,closure:=[],defaults:=.none,kwdefaults:=.none } }
def Hv (P:Params):Obj:=(fc #[.str "is_alone" 707,.str "Roll.is_alone" 708,cp 709,.int 177 0,.int 2 0,.int 0 0,.int 0 0,.int 3 0,.ref 397,.bool true,.int 181 0,.ref 398,.none,.none,.none,.ref 399,.int 710 0,.int 177 0,cp 711])
def Hu (P:Params):Obj:=⟨.type "function",none,.func (PySem.W.fnOf "is_alone" "Roll.is_alone" (aB (inClass (top0 40) 14)) (aA (inClass (top0 40) 14)) (ak (inClass (top0 40) 14)) .none .none .none (.str "sluice.rolls" 562) none (.ref 400) .none),#[]⟩
def Ht (P:Params):Obj:=(tq #[])
def Uw (P:Params):Obj:={ cls:=.none,data:=Data.fields #[] }
def Hs (P:Params):Obj:=(tq #[.str "self" 716,.str "number" 717])
def Hr (P:Params):Obj:=(tq #[])
def Uv (P:Params):Obj:={ cls:=.none,data:=.func { name:="look_at_number",qualname:="Roll.look_at_number",params:=aB (inClass (top0 40) 15),body:=.stmts (aA (inClass (top0 40) 15)),scope:=ak (inClass (top0 40) 15),globals:=0,closure:=[],defaults:=.none,kwdefaults:=.none } }
def Hq (P:Params):Obj:=(fc #[.str "look_at_number" 713,.str "Roll.look_at_number" 714,cp 715,.int 182 0,.int 2 0,.int 0 0,.int 0 0,.int 3 0,.ref 402,.bool true,.int 181 0,.ref 403,.none,.ref 404,.ref 405,.ref 406,.int 718 0,.int 182 0,cp 719])
def Ho (P:Params):Obj:=⟨.type "function",none,.func (PySem.W.fnOf "look_at_number" "Roll.look_at_number" (aB (inClass (top0 40) 15)) (aA (inClass (top0 40) 15)) (ak (inClass (top0 40) 15)) .none .none .none (.str "sluice.rolls" 562) none (.ref 407) .none),#[]⟩
def Hl (P:Params):Obj:=(tq #[])
def Uu (P:Params):Obj:={ cls:=.none,data:=Data.fields #[] }
def Hj (P:Params):Obj:=(tq #[.str "self" 724,.str "number" 725,.str "holder" 726])
def Hi (P:Params):Obj:=(tq #[])
def Ut (P:Params):Obj:={ cls:=.none,data:=.func { name:="look_at_holder",qualname:="Roll.look_at_holder",params:=aB (inClass (top0 40) 16),body:=.stmts (aA (inClass (top0 40) 16)),scope:=ak (inClass (top0 40) 16),globals:=0,closure:=[],defaults:=.none,kwdefaults:=.none } }
def Hh (P:Params):Obj:=(fc #[.str "look_at_holder" 721,.str "Roll.look_at_holder" 722,cp 723,.int 186 0,.int 3 0,.int 0 0,.int 0 0,.int 3 0,.ref 409,.bool true,.int 181 0,.ref 410,.none,.ref 411,.ref 412,.ref 413,.int 727 0,.int 186 0,cp 728])
def G9 (P:Params):Obj:=⟨.type "function",none,.func (PySem.W.fnOf "look_at_holder" "Roll.look_at_holder" (aB (inClass (top0 40) 16)) (aA (inClass (top0 40) 16)) (ak (inClass (top0 40) 16)) .none .none .none (.str "sluice.rolls" 562) none (.ref 414) .none),#[]⟩
def G8 (P:Params):Obj:=(tq #[])
def Us (P:Params):Obj:={ cls:=.none,data:=Data.fields #[] }
def G7 (P:Params):Obj:=(tq #[.str "self" 733])
def G6 (P:Params):Obj:=(tq #[])
def Ur (P:Params):Obj:={ cls:=.none,data:=.func { name:="look_at_room",qualname:="Roll.look_at_room",params:=aB (inClass (top0 40) 17),body:=.stmts (aA (inClass (top0 40) 17)),scope:=ak (inClass (top0 40) 17),globals:=0,closure:=[],defaults:=.none,kwdefaults:=.none } }
def G5 (P:Params):Obj:=(fc #[.str "look_at_room" 730,.str "Roll.look_at_room" 731,cp 732,.int 191 0,.int 1 0,.int 0 0,.int 0 0,.int 3 0,.ref 416,.bool true,.int 181 0,.ref 417,.none,.ref 418,.ref 419,.ref 420,.int 734 0,.int 191 0,cp 735])
def G4 (P:Params):Obj:=⟨.type "function",none,.func (PySem.W.fnOf "look_at_room" "Roll.look_at_room" (aB (inClass (top0 40) 17)) (aA (inClass (top0 40) 17)) (ak (inClass (top0 40) 17)) .none .none .none (.str "sluice.rolls" 562) none (.ref 421) .none),#[]⟩
def G3 (P:Params):Obj:=(tq #[.str "below" 737,.str "day" 738,.str "done" 739,.str "licences" 740,.str "names" 741])
def GZ (P:Params):Obj:={ cls:=.type "dict",data:=Data.dict #[en P "__module__" 580 (.str "sluice.rolls" 562),en P "__firstlineno__" 584 (.int 85 583),en P "__init__" 592 (.ref 306),en P "today" 599 (.ref 313),en P "roll" 606 (.ref 320),en P "holders" 613 (.ref 327),en P "deeds" 620 (.ref 334),en P "turn" 627 (.ref 341),en P "file" 640 (.ref 349),en P "sell" 650 (.ref 356),en P "part" 662 (.ref 363),en P "drop" 671 (.ref 370),en P "move" 682 (.ref 377),en P "look_move" 691 (.ref 384),en P "lapse" 697 (.ref 389),en P "enter" 706 (.ref 396),en P "is_alone" 712 (.ref 401),en P "look_at_number" 720 (.ref 408),en P "look_at_holder" 729 (.ref 415),en P "look_at_room" 736 (.ref 422),en P "__static_attributes__" 742 (.ref 423),en P "__dict__" 744 (.ref 426),en P "__weakref__" 746 (.ref 427),en P "__doc__" 747 .none] 4 }
def GX (P:Params):Obj:={ cls:=.type "type",data:=Data.cls { name:="Roll",bases:=[.type "object"],mro:=[.ref 425,.type "object"],ns:=424,qualname:="Roll" },slots:=#[none,none,some (.str "Roll" 573),some (.str "Roll" 581),some (.builtin "object.__new__"),some (.bool true)] }
def GR (P:Params):Obj:={ cls:=.type "getset_descriptor",data:=Data.fields #[.str "__dict__" 743,.ref 425,.builtin "function.__dict__",.builtin "function.__dict__#set"] }
def GQ (P:Params):Obj:={ cls:=.type "getset_descriptor",data:=Data.fields #[.str "__weakref__" 745,.ref 425,.builtin "ExceptionGroup.__weakref__",.none] }
def Uq (P:Params):Obj:={ cls:=.type "super",data:=Data.fields #[.ref 425,.ref 425,.ref 425] }
def Uo (P:Params):Obj:={ cls:=.type "builtin_function_or_method",data:=Data.fields #[.builtin "object.__init_subclass__",.ref 425] }
def GP (P:Params):Obj:=(tq #[])
def Ul (P:Params):Obj:={ cls:=.none,data:=Data.fields #[] }
def GK (P:Params):Obj:=(tq #[.str "script" 755,.str "k" 756])
def GJ (P:Params):Obj:=(tq #[])
def Uk (P:Params):Obj:=(pr0 "_law_cell_at" 42)
def GF (P:Params):Obj:=(fc #[.str "_law_cell_at" 752,.str "_law_cell_at" 753,cp 754,.int 195 0,.int 2 0,.int 0 0,.int 0 0,.int 3 0,.ref 430,.bool true,.int 181 0,.ref 431,.none,.ref 432,.ref 433,.ref 434,.int 757 0,.int 195 0,cp 758])
def GD (P:Params):Obj:=⟨.type "function",none,.func (PySem.W.fnOf "_law_cell_at" "_law_cell_at" (aB (top0 42)) (aA (top0 42)) (ak (top0 42)) .none .none .none (.str "law_sluice_k56_refused_in_order" 750) none (.ref 435) .none),#[]⟩
def GC (P:Params):Obj:=(tq #[])
def Uj (P:Params):Obj:={ cls:=.none,data:=Data.fields #[] }
def Gz (P:Params):Obj:=(tq #[.str "cell" 763,.str "place" 764,.str "spot" 765])
def Gy (P:Params):Obj:=(tq #[])
def Uh (P:Params):Obj:=(pr0 "_law_draw" 43)
def Gx (P:Params):Obj:=(fc #[.str "_law_draw" 760,.str "_law_draw" 761,cp 762,.int 199 0,.int 2 0,.int 0 0,.int 0 0,.int 3 0,.ref 437,.bool true,.int 181 0,.ref 438,.none,.ref 439,.ref 440,.ref 441,.int 766 0,.int 199 0,cp 767])
def Gw (P:Params):Obj:=⟨.type "function",none,.func (PySem.W.fnOf "_law_draw" "_law_draw" (aB (top0 43)) (aA (top0 43)) (ak (top0 43)) .none .none .none (.str "law_sluice_k56_refused_in_order" 750) none (.ref 442) .none),#[]⟩
def Gv (P:Params):Obj:=(tq #[])
def Ug (P:Params):Obj:={ cls:=.none,data:=Data.fields #[] }
def Ue (P:Params):Obj:=(pr0 "_law_draws" 44)
def Gu (P:Params):Obj:=(fc #[.str "_law_draws" 769,.str "_law_draws" 770,cp 771,.int 202 0,.int 2 0,.int 0 0,.int 0 0,.int 3 0,.ref 444,.bool true,.int 181 0,.ref 445,.none,.none,.none,.ref 446,.int 772 0,.int 202 0,cp 773])
def Gs (P:Params):Obj:=⟨.type "function",none,.func (PySem.W.fnOf "_law_draws" "_law_draws" (aB (top0 44)) (aA (top0 44)) (ak (top0 44)) .none .none .none (.str "law_sluice_k56_refused_in_order" 750) none (.ref 447) .none),#[]⟩
def Gq (P:Params):Obj:=(tq #[])
def Ud (P:Params):Obj:={ cls:=.none,data:=Data.fields #[] }
def Uc (P:Params):Obj:=(pr0 "_law_river" 45)
def Gp (P:Params):Obj:=(fc #[.str "_law_river" 775,.str "_law_river" 776,cp 777,.int 204 0,.int 1 0,.int 0 0,.int 0 0,.int 3 0,.ref 449,.bool true,.int 181 0,.ref 450,.none,.none,.none,.ref 451,.int 778 0,.int 204 0,cp 779])
def Gn (P:Params):Obj:=⟨.type "function",none,.func (PySem.W.fnOf "_law_river" "_law_river" (aB (top0 45)) (aA (top0 45)) (ak (top0 45)) .none .none .none (.str "law_sluice_k56_refused_in_order" 750) none (.ref 452) .none),#[]⟩
def Gm (P:Params):Obj:=(tq #[])
def Ub (P:Params):Obj:={ cls:=.none,data:=Data.fields #[] }
def Gk (P:Params):Obj:=(tq #[.str "below" 784,.str "reach" 785,.str "found" 786])
def Gj (P:Params):Obj:=(tq #[])
def Ua (P:Params):Obj:=(pr0 "_law_way" 46)
def Gi (P:Params):Obj:=(fc #[.str "_law_way" 781,.str "_law_way" 782,cp 783,.int 213 0,.int 2 0,.int 0 0,.int 0 0,.int 3 0,.ref 454,.bool true,.int 181 0,.ref 455,.none,.ref 456,.ref 457,.ref 458,.int 787 0,.int 213 0,cp 788])
def Gh (P:Params):Obj:=⟨.type "function",none,.func (PySem.W.fnOf "_law_way" "_law_way" (aB (top0 46)) (aA (top0 46)) (ak (top0 46)) .none .none .none (.str "law_sluice_k56_refused_in_order" 750) none (.ref 459) .none),#[]⟩
def Gg (P:Params):Obj:=(tq #[])
def T8 (P:Params):Obj:={ cls:=.none,data:=Data.fields #[] }
def T7 (P:Params):Obj:=(pr0 "_law_words" 47)
def Gf (P:Params):Obj:=(fc #[.str "_law_words" 790,.str "_law_words" 791,cp 792,.int 218 0,.int 1 0,.int 0 0,.int 0 0,.int 3 0,.ref 461,.bool true,.int 181 0,.ref 462,.none,.none,.none,.ref 463,.int 793 0,.int 218 0,cp 794])
def Ge (P:Params):Obj:=⟨.type "function",none,.func (PySem.W.fnOf "_law_words" "_law_words" (aB (top0 47)) (aA (top0 47)) (ak (top0 47)) .none .none .none (.str "law_sluice_k56_refused_in_order" 750) none (.ref 464) .none),#[]⟩
def Gd (P:Params):Obj:=(tq #[])
def T6 (P:Params):Obj:={ cls:=.none,data:=Data.fields #[] }
def Gb (P:Params):Obj:=(tq #[.str "one" 799,.str "deed" 800])
def Ga (P:Params):Obj:=(tq #[])
def T5 (P:Params):Obj:=(pr0 "_law_do" 48)
def FZ (P:Params):Obj:=(fc #[.str "_law_do" 796,.str "_law_do" 797,cp 798,.int 226 0,.int 2 0,.int 0 0,.int 0 0,.int 3 0,.ref 466,.bool true,.int 181 0,.ref 467,.none,.ref 468,.ref 469,.ref 470,.int 801 0,.int 226 0,cp 802])
def FW (P:Params):Obj:=⟨.type "function",none,.func (PySem.W.fnOf "_law_do" "_law_do" (aB (top0 48)) (aA (top0 48)) (ak (top0 48)) .none .none .none (.str "law_sluice_k56_refused_in_order" 750) none (.ref 471) .none),#[]⟩
def FT (P:Params):Obj:=(tq #[])
def T3 (P:Params):Obj:={ cls:=.none,data:=Data.fields #[] }
def FQ (P:Params):Obj:=(tq #[.str "one" 807,.str "deed" 808,.str "caught" 809,.str "e" 810])
def FP (P:Params):Obj:=(tq #[])
def TY (P:Params):Obj:=(pr0 "_law_refused" 49)
def FN (P:Params):Obj:=(fc #[.str "_law_refused" 804,.str "_law_refused" 805,cp 806,.int 239 0,.int 2 0,.int 0 0,.int 0 0,.int 3 0,.ref 473,.bool true,.int 181 0,.ref 474,.none,.ref 475,.ref 476,.ref 477,.int 811 0,.int 239 0,cp 812])
def FJ (P:Params):Obj:=⟨.type "function",none,.func (PySem.W.fnOf "_law_refused" "_law_refused" (aB (top0 49)) (aA (top0 49)) (ak (top0 49)) .none .none .none (.str "law_sluice_k56_refused_in_order" 750) none (.ref 478) .none),#[]⟩
def Fz (P:Params):Obj:=(tq #[])
def TQ (P:Params):Obj:={ cls:=.none,data:=Data.fields #[] }
def Fy (P:Params):Obj:=(tq #[.str "number" 817,.str "word" 818,.str "at" 819,.str "sign" 820])
def Fx (P:Params):Obj:=(tq #[])
def TJ (P:Params):Obj:=(pr0 "_law_bad_name" 50)
def Fw (P:Params):Obj:=(fc #[.str "_law_bad_name" 814,.str "_law_bad_name" 815,cp 816,.int 248 0,.int 1 0,.int 0 0,.int 0 0,.int 3 0,.ref 480,.bool true,.int 181 0,.ref 481,.none,.ref 482,.ref 483,.ref 484,.int 821 0,.int 248 0,cp 822])
def Fv (P:Params):Obj:=⟨.type "function",none,.func (PySem.W.fnOf "_law_bad_name" "_law_bad_name" (aB (top0 50)) (aA (top0 50)) (ak (top0 50)) .none .none .none (.str "law_sluice_k56_refused_in_order" 750) none (.ref 485) .none),#[]⟩
def Ft (P:Params):Obj:=(tq #[])
def TF (P:Params):Obj:={ cls:=.none,data:=Data.fields #[] }
def Fq (P:Params):Obj:=(tq #[.str "one" 827,.str "xs" 828,.str "below" 829,.str "k" 830,.str "day" 831,.str "lines" 832,.str "owners" 833,.str "start" 834,.str "far" 835,.str "most" 836,.str "back" 837,.str "name" 838])
def Fp (P:Params):Obj:=(tq #[])
def Tt (P:Params):Obj:=(pr0 "_law_filed" 51)
def Fo (P:Params):Obj:=(fc #[.str "_law_filed" 824,.str "_law_filed" 825,cp 826,.int 253 0,.int 7 0,.int 0 0,.int 0 0,.int 3 0,.ref 487,.bool true,.int 181 0,.ref 488,.none,.ref 489,.ref 490,.ref 491,.int 839 0,.int 253 0,cp 840])
def Fl (P:Params):Obj:=⟨.type "function",none,.func (PySem.W.fnOf "_law_filed" "_law_filed" (aB (top0 51)) (aA (top0 51)) (ak (top0 51)) .none .none .none (.str "law_sluice_k56_refused_in_order" 750) none (.ref 492) .none),#[]⟩
def Fj (P:Params):Obj:=(tq #[])
def Tr (P:Params):Obj:={ cls:=.none,data:=Data.fields #[] }
def Fi (P:Params):Obj:=(tq #[.str "one" 845,.str "xs" 846,.str "below" 847,.str "lines" 848,.str "owners" 849,.str "day" 850,.str "size" 851,.str "k" 852,.str "line" 853])
def Fg (P:Params):Obj:=(tq #[])
def Tq (P:Params):Obj:=(pr0 "_law_begun" 52)
def Fe (P:Params):Obj:=(fc #[.str "_law_begun" 842,.str "_law_begun" 843,cp 844,.int 264 0,.int 3 0,.int 0 0,.int 0 0,.int 3 0,.ref 494,.bool true,.int 181 0,.ref 495,.none,.ref 496,.ref 497,.ref 498,.int 854 0,.int 264 0,cp 855])
def Fd (P:Params):Obj:=⟨.type "function",none,.func (PySem.W.fnOf "_law_begun" "_law_begun" (aB (top0 52)) (aA (top0 52)) (ak (top0 52)) .none .none .none (.str "law_sluice_k56_refused_in_order" 750) none (.ref 499) .none),#[]⟩
def Fb (P:Params):Obj:=(tq #[])
def Tj (P:Params):Obj:={ cls:=.none,data:=Data.fields #[] }
def EY (P:Params):Obj:=(tq #[.str "below" 860,.str "start" 861,.str "back" 862])
def Ez (P:Params):Obj:=(tq #[])
def Ti (P:Params):Obj:=(pr0 "_law_is_let" 53)
def Ey (P:Params):Obj:=(fc #[.str "_law_is_let" 857,.str "_law_is_let" 858,cp 859,.int 284 0,.int 3 0,.int 0 0,.int 0 0,.int 3 0,.ref 501,.bool true,.int 181 0,.ref 502,.none,.ref 503,.ref 504,.ref 505,.int 863 0,.int 284 0,cp 864])
def Ew (P:Params):Obj:=⟨.type "function",none,.func (PySem.W.fnOf "_law_is_let" "_law_is_let" (aB (top0 53)) (aA (top0 53)) (ak (top0 53)) .none .none .none (.str "law_sluice_k56_refused_in_order" 750) none (.ref 506) .none),#[]⟩
def Eu (P:Params):Obj:=(tq #[])
def Tg (P:Params):Obj:={ cls:=.none,data:=Data.fields #[] }
def Tf (P:Params):Obj:=(pr0 "_law_due_first" 54)
def Et (P:Params):Obj:=(fc #[.str "_law_due_first" 866,.str "_law_due_first" 867,cp 868,.int 288 0,.int 4 0,.int 0 0,.int 0 0,.int 3 0,.ref 508,.bool true,.int 181 0,.ref 509,.none,.none,.none,.ref 510,.int 869 0,.int 288 0,cp 870])
def Es (P:Params):Obj:=⟨.type "function",none,.func (PySem.W.fnOf "_law_due_first" "_law_due_first" (aB (top0 54)) (aA (top0 54)) (ak (top0 54)) .none .none .none (.str "law_sluice_k56_refused_in_order" 750) none (.ref 511) .none),#[]⟩
def Er (P:Params):Obj:=(tq #[])
def Td (P:Params):Obj:={ cls:=.none,data:=Data.fields #[] }
def Tc (P:Params):Obj:=(pr0 "_law_due" 55)
def Ep (P:Params):Obj:=(fc #[.str "_law_due" 872,.str "_law_due" 873,cp 874,.int 308 0,.int 4 0,.int 0 0,.int 0 0,.int 3 0,.ref 513,.bool true,.int 181 0,.ref 514,.none,.none,.none,.ref 515,.int 875 0,.int 308 0,cp 876])
def Eo (P:Params):Obj:=⟨.type "function",none,.func (PySem.W.fnOf "_law_due" "_law_due" (aB (top0 55)) (aA (top0 55)) (ak (top0 55)) .none .none .none (.str "law_sluice_k56_refused_in_order" 750) none (.ref 516) .none),#[]⟩
def En (P:Params):Obj:=(tq #[])
def S9 (P:Params):Obj:={ cls:=.none,data:=Data.fields #[] }
def S8 (P:Params):Obj:=(pr0 "_law_lapse" 56)
def Em (P:Params):Obj:=(fc #[.str "_law_lapse" 878,.str "_law_lapse" 879,cp 880,.int 320 0,.int 2 0,.int 0 0,.int 0 0,.int 3 0,.ref 518,.bool true,.int 181 0,.ref 519,.none,.none,.none,.ref 520,.int 881 0,.int 320 0,cp 882])
def El (P:Params):Obj:=⟨.type "function",none,.func (PySem.W.fnOf "_law_lapse" "_law_lapse" (aB (top0 56)) (aA (top0 56)) (ak (top0 56)) .none .none .none (.str "law_sluice_k56_refused_in_order" 750) none (.ref 521) .none),#[]⟩
def Ek (P:Params):Obj:=(tq #[])
def S7 (P:Params):Obj:={ cls:=.none,data:=Data.fields #[] }
def Ej (P:Params):Obj:=(tq #[.str "xs" 887,.str "below" 888,.str "lines" 889,.str "owners" 890,.str "far" 891,.str "many" 892,.str "number" 893,.str "name" 894,.str "to" 895,.str "start" 896,.str "amount" 897,.str "kind" 898,.str "back" 899])
def Ei (P:Params):Obj:=(tq #[])
def S6 (P:Params):Obj:=(pr0 "_law_deed" 57)
def Eh (P:Params):Obj:=(fc #[.str "_law_deed" 884,.str "_law_deed" 885,cp 886,.int 328 0,.int 4 0,.int 0 0,.int 0 0,.int 3 0,.ref 523,.bool true,.int 181 0,.ref 524,.none,.ref 525,.ref 526,.ref 527,.int 900 0,.int 328 0,cp 901])
def Ef (P:Params):Obj:=⟨.type "function",none,.func (PySem.W.fnOf "_law_deed" "_law_deed" (aB (top0 57)) (aA (top0 57)) (ak (top0 57)) .none .none .none (.str "law_sluice_k56_refused_in_order" 750) none (.ref 528) .none),#[]⟩
def Ed (P:Params):Obj:=(tq #[])
def S5 (P:Params):Obj:={ cls:=.none,data:=Data.fields #[] }
def Eb (P:Params):Obj:=(tq #[.str "script" 906,.str "first" 907,.str "below" 908,.str "one" 909,.str "day" 910,.str "lines" 911,.str "owners" 912,.str "trail" 913,.str "cell" 914,.str "deed" 915,.str "due" 916])
def Ea (P:Params):Obj:=(tq #[])
def SX (P:Params):Obj:=(pr0 "law" 58)
def DY (P:Params):Obj:=(fc #[.str "law" 903,.str "law" 904,cp 905,.int 355 0,.int 1 0,.int 0 0,.int 0 0,.int 3 0,.ref 530,.bool true,.int 181 0,.ref 531,.none,.ref 532,.ref 533,.ref 534,.int 917 0,.int 355 0,cp 918])
def DX (P:Params):Obj:=⟨.type "function",none,.func (PySem.W.fnOf "law" "law" (aB (top0 58)) (aA (top0 58)) (ak (top0 58)) .none .none .none (.str "law_sluice_k56_refused_in_order" 750) none (.ref 535) .none),#[]⟩
def H0:Params→Heap:=fun P=>{ objs:=⟨VR P :: VN P :: Qx P :: WX P :: Tw P :: SJ P :: Sd P :: R3 P :: RL P :: Ar P :: Ak P :: []⟩ }
def Ha:Params→Heap:=fun P=>{ objs:=⟨VR P :: VN P :: Qx P :: WX P :: Tw P :: SJ P :: Sd P :: R3 P :: RL P :: Ar P :: Ak P :: Dd P :: VP P :: Dc P :: CZ P :: []⟩ }
def Hb:Params→Heap:=fun P=>{ objs:=⟨VR P :: VN P :: Qx P :: WX P :: Tw P :: SJ P :: Sd P :: R3 P :: RL P :: Ar P :: Ak P :: Dd P :: VP P :: Dc P :: CZ P :: []⟩ }
def Hm:Params→Heap:=fun P=>{ objs:=⟨VR P :: VN P :: Qx P :: W0 P :: Tw P :: SJ P :: Sd P :: R3 P :: RL P :: Ar P :: Ak P :: Dd P :: WY P :: Dc P :: CZ P :: Qg P :: VL P :: Qf P :: Qe P :: VJ P :: Qd P :: Qc P :: Qa P :: VH P :: VG P :: P0 P :: PX P :: PN P :: Vl P :: Vh P :: Ve P :: Va P :: U6 P :: U0 P :: PL P :: PK P :: PJ P :: PB P :: Um P :: Ui P :: Pz P :: T9 P :: T4 P :: TV P :: Tv P :: Tp P :: Te P :: Py P :: Px P :: Pu P :: SQ P :: SN P :: Pr P :: SM P :: Sy P :: Sx P :: Sw P :: Sv P :: Ss P :: Pq P :: Pn P :: Pk P :: Sq P :: Sg P :: Pj P :: R9 P :: R8 P :: R7 P :: R6 P :: R5 P :: R4 P :: Ph P :: Pg P :: Pb P :: R0 P :: RZ P :: Pa P :: RW P :: RV P :: RT P :: RQ P :: RN P :: RM P :: O9 P :: O8 P :: O7 P :: RK P :: RJ P :: O6 P :: RG P :: RD P :: RB P :: Rz P :: Ry P :: Nr P :: Aq P :: Ao P :: Am P :: Nq P :: Np P :: Al P :: Nm P :: Nk P :: Nj P :: Ni P :: Nh P :: Ng P :: Aj P :: Ai P :: Ah P :: Nf P :: Nb P :: Ag P :: M9 P :: M8 P :: M7 P :: M6 P :: M5 P :: M4 P :: Af P :: Ae P :: Ad P :: MP P :: MN P :: Ac P :: MK P :: MJ P :: MF P :: Mz P :: Mx P :: Mw P :: Ab P :: Aa P :: z9 P :: Mu P :: Mt P :: z8 P :: Ms P :: Mr P :: Mq P :: Mp P :: Ml P :: Mj P :: z7 P :: z6 P :: zZ P :: Mi P :: Mh P :: zY P :: Mg P :: Mf P :: Ma P :: LR P :: LQ P :: LK P :: zX P :: zW P :: zV P :: LC P :: Lz P :: zU P :: Ly P :: Lx P :: Lw P :: Ls P :: Lr P :: Lq P :: zT P :: zR P :: zQ P :: Lp P :: Ln P :: zP P :: Lk P :: Lj P :: Li P :: Lh P :: Lg P :: Lf P :: zO P :: zN P :: zM P :: Le P :: Ld P :: zL P :: Lb P :: La P :: K9 P :: K8 P :: K7 P :: K6 P :: zK P :: zJ P :: zH P :: K5 P :: K4 P :: zG P :: K3 P :: K1 P :: KZ P :: KY P :: KR P :: KQ P :: zF P :: zE P :: zB P :: KN P :: KJ P :: zA P :: KH P :: KD P :: KC P :: Kz P :: Ky P :: Kw P :: zy P :: zx P :: zu P :: Kv P :: Ku P :: zq P :: Ks P :: Kr P :: Kq P :: Kp P :: Ko P :: Km P :: zp P :: zm P :: zj P :: Kl P :: Kh P :: zf P :: Kg P :: zc P :: za P :: Ke P :: yZ P :: yX P :: yW P :: Kd P :: Kc P :: yV P :: yU P :: yS P :: Ka P :: yR P :: yQ P :: J9 P :: yP P :: yO P :: yN P :: J8 P :: yM P :: yL P :: J7 P :: yK P :: yJ P :: yI P :: J6 P :: yH P :: yG P :: J5 P :: yF P :: yE P :: yD P :: J4 P :: yC P :: yx P :: J3 P :: yw P :: yu P :: yt P :: J2 P :: yr P :: yq P :: J1 P :: yp P :: yj P :: yh P :: J0 P :: yg P :: yd P :: JZ P :: yc P :: xZ P :: xY P :: JX P :: xX P :: xW P :: JW P :: xV P :: xU P :: []⟩ }
def H1:Params→Heap:=fun P=>{ objs:=⟨VR P :: VN P :: Qx P :: JV P :: Tw P :: SJ P :: Sd P :: R3 P :: RL P :: Ar P :: Ak P :: Dd P :: VF P :: Dc P :: CZ P :: Qg P :: VL P :: Qf P :: Qe P :: VJ P :: Qd P :: Qc P :: Qa P :: VH P :: VG P :: P0 P :: PX P :: PN P :: Vl P :: Vh P :: Ve P :: Va P :: U6 P :: U0 P :: PL P :: PK P :: PJ P :: PB P :: Um P :: Ui P :: Pz P :: T9 P :: T4 P :: TV P :: Tv P :: Tp P :: Te P :: Py P :: Px P :: Pu P :: SQ P :: SN P :: Pr P :: SM P :: Sy P :: Sx P :: Sw P :: Sv P :: Ss P :: Pq P :: Pn P :: Pk P :: Sq P :: Sg P :: Pj P :: R9 P :: R8 P :: R7 P :: R6 P :: R5 P :: R4 P :: Ph P :: Pg P :: Pb P :: R0 P :: RZ P :: Pa P :: RW P :: RV P :: RT P :: RQ P :: RN P :: RM P :: O9 P :: O8 P :: O7 P :: RK P :: RJ P :: O6 P :: RG P :: RD P :: RB P :: Rz P :: Ry P :: Nr P :: Aq P :: Ao P :: Am P :: Nq P :: Np P :: Al P :: Nm P :: Nk P :: Nj P :: Ni P :: Nh P :: Ng P :: Aj P :: Ai P :: Ah P :: Nf P :: Nb P :: Ag P :: M9 P :: M8 P :: M7 P :: M6 P :: M5 P :: M4 P :: Af P :: Ae P :: Ad P :: MP P :: MN P :: Ac P :: MK P :: MJ P :: MF P :: Mz P :: Mx P :: Mw P :: Ab P :: Aa P :: z9 P :: Mu P :: Mt P :: z8 P :: Ms P :: Mr P :: Mq P :: Mp P :: Ml P :: Mj P :: z7 P :: z6 P :: zZ P :: Mi P :: Mh P :: zY P :: Mg P :: Mf P :: Ma P :: LR P :: LQ P :: LK P :: zX P :: zW P :: zV P :: LC P :: Lz P :: zU P :: Ly P :: Lx P :: Lw P :: Ls P :: Lr P :: Lq P :: zT P :: zR P :: zQ P :: Lp P :: Ln P :: zP P :: Lk P :: Lj P :: Li P :: Lh P :: Lg P :: Lf P :: zO P :: zN P :: zM P :: Le P :: Ld P :: zL P :: Lb P :: La P :: K9 P :: K8 P :: K7 P :: K6 P :: zK P :: zJ P :: zH P :: K5 P :: K4 P :: zG P :: K3 P :: K1 P :: KZ P :: KY P :: KR P :: KQ P :: zF P :: zE P :: zB P :: KN P :: KJ P :: zA P :: KH P :: KD P :: KC P :: Kz P :: Ky P :: Kw P :: zy P :: zx P :: zu P :: Kv P :: Ku P :: zq P :: Ks P :: Kr P :: Kq P :: Kp P :: Ko P :: Km P :: zp P :: zm P :: zj P :: Kl P :: Kh P :: zf P :: Kg P :: zc P :: za P :: Ke P :: yZ P :: yX P :: yW P :: Kd P :: Kc P :: yV P :: yU P :: yS P :: Ka P :: yR P :: yQ P :: J9 P :: yP P :: yO P :: yN P :: J8 P :: yM P :: yL P :: J7 P :: yK P :: yJ P :: yI P :: J6 P :: yH P :: yG P :: J5 P :: yF P :: yE P :: yD P :: J4 P :: yC P :: yx P :: J3 P :: yw P :: yu P :: yt P :: J2 P :: yr P :: yq P :: J1 P :: yp P :: yj P :: yh P :: J0 P :: yg P :: yd P :: JZ P :: yc P :: xZ P :: xY P :: JX P :: xX P :: xW P :: JW P :: xV P :: xU P :: VD P :: VB P :: Vz P :: Vy P :: Vx P :: Vw P :: Vv P :: JT P :: Vu P :: JR P :: JQ P :: Vt P :: JN P :: JM P :: JL P :: Vs P :: JK P :: JH P :: Vr P :: JG P :: JF P :: JD P :: Vq P :: JC P :: JB P :: Vp P :: Jz P :: Jy P :: Jx P :: Vo P :: Jw P :: Jv P :: Vn P :: Ju P :: Jt P :: Js P :: Vm P :: Jr P :: Jq P :: Vk P :: Jp P :: Jo P :: Jm P :: Vj P :: Jl P :: Jk P :: Vi P :: Jj P :: Ji P :: Jh P :: Jg P :: Vg P :: Jf P :: Je P :: Vf P :: Jd P :: Jc P :: Jb P :: Vd P :: Ja P :: IW P :: Vc P :: IV P :: IK P :: Iz P :: Vb P :: Iw P :: Iu P :: U9 P :: Ir P :: Ip P :: Io P :: U8 P :: Im P :: Il P :: U7 P :: Ik P :: Ij P :: Ii P :: U5 P :: Ih P :: Ig P :: U4 P :: Ie P :: Ib P :: Ia P :: U3 P :: HY P :: HX P :: UW P :: HW P :: HS P :: HN P :: UL P :: UJ P :: HJ P :: HF P :: HD P :: UG P :: HB P :: Hz P :: Uz P :: Hy P :: Hx P :: Hw P :: Uy P :: Ux P :: Hv P :: Hu P :: Ht P :: Uw P :: Hs P :: Hr P :: Uv P :: Hq P :: Ho P :: Hl P :: Uu P :: Hj P :: Hi P :: Ut P :: Hh P :: G9 P :: G8 P :: Us P :: G7 P :: G6 P :: Ur P :: G5 P :: G4 P :: G3 P :: GZ P :: GX P :: GR P :: GQ P :: Uq P :: Uo P :: GP P :: Ul P :: GK P :: GJ P :: Uk P :: GF P :: GD P :: GC P :: Uj P :: Gz P :: Gy P :: Uh P :: Gx P :: Gw P :: Gv P :: Ug P :: Ue P :: Gu P :: Gs P :: Gq P :: Ud P :: Uc P :: Gp P :: Gn P :: Gm P :: Ub P :: Gk P :: Gj P :: Ua P :: Gi P :: Gh P :: Gg P :: T8 P :: T7 P :: Gf P :: Ge P :: Gd P :: T6 P :: Gb P :: Ga P :: T5 P :: FZ P :: FW P :: FT P :: T3 P :: FQ P :: FP P :: TY P :: FN P :: FJ P :: Fz P :: TQ P :: Fy P :: Fx P :: TJ P :: Fw P :: Fv P :: Ft P :: TF P :: Fq P :: Fp P :: Tt P :: Fo P :: Fl P :: Fj P :: Tr P :: Fi P :: Fg P :: Tq P :: Fe P :: Fd P :: Fb P :: Tj P :: EY P :: Ez P :: Ti P :: Ey P :: Ew P :: Eu P :: Tg P :: Tf P :: Et P :: Es P :: Er P :: Td P :: Tc P :: Ep P :: Eo P :: En P :: S9 P :: S8 P :: Em P :: El P :: Ek P :: S7 P :: Ej P :: Ei P :: S6 P :: Eh P :: Ef P :: Ed P :: S5 P :: Eb P :: Ea P :: SX P :: DY P :: DX P :: []⟩ }
def Kf:Params→PySem.W.Frag:=fun P=>(nat_lit 2,Qx P) ::
 (nat_lit 3,JV P) ::
 (nat_lit 15,Qg P) ::
 (nat_lit 17,Qf P) ::
 (nat_lit 18,Qe P) ::
 (nat_lit 20,Qd P) ::
 (nat_lit 21,Qc P) ::
 (nat_lit 22,Qa P) ::
 (nat_lit 25,P0 P) ::
 (nat_lit 26,PX P) ::
 (nat_lit 27,PN P) ::
 (nat_lit 34,PL P) ::
 (nat_lit 35,PK P) ::
 (nat_lit 36,PJ P) ::
 (nat_lit 37,PB P) ::
 (nat_lit 40,Pz P) ::
 (nat_lit 47,Py P) ::
 (nat_lit 48,Px P) ::
 (nat_lit 49,Pu P) ::
 (nat_lit 52,Pr P) ::
 (nat_lit 59,Pq P) ::
 (nat_lit 60,Pn P) ::
 (nat_lit 61,Pk P) ::
 (nat_lit 64,Pj P) ::
 (nat_lit 71,Ph P) ::
 (nat_lit 72,Pg P) ::
 (nat_lit 73,Pb P) ::
 (nat_lit 76,Pa P) ::
 (nat_lit 83,O9 P) ::
 (nat_lit 84,O8 P) ::
 (nat_lit 85,O7 P) ::
 (nat_lit 88,O6 P) ::
 (nat_lit 95,Aq P) ::
 (nat_lit 96,Ao P) ::
 (nat_lit 97,Am P) ::
 (nat_lit 100,Al P) ::
 (nat_lit 107,Aj P) ::
 (nat_lit 108,Ai P) ::
 (nat_lit 109,Ah P) ::
 (nat_lit 112,Ag P) ::
 (nat_lit 119,Af P) ::
 (nat_lit 120,Ae P) ::
 (nat_lit 121,Ad P) ::
 (nat_lit 124,Ac P) ::
 (nat_lit 131,Ab P) ::
 (nat_lit 132,Aa P) ::
 (nat_lit 133,z9 P) ::
 (nat_lit 136,z8 P) ::
 (nat_lit 143,z7 P) ::
 (nat_lit 144,z6 P) ::
 (nat_lit 145,zZ P) ::
 (nat_lit 148,zY P) ::
 (nat_lit 155,zX P) ::
 (nat_lit 156,zW P) ::
 (nat_lit 157,zV P) ::
 (nat_lit 160,zU P) ::
 (nat_lit 167,zT P) ::
 (nat_lit 168,zR P) ::
 (nat_lit 169,zQ P) ::
 (nat_lit 172,zP P) ::
 (nat_lit 179,zO P) ::
 (nat_lit 180,zN P) ::
 (nat_lit 181,zM P) ::
 (nat_lit 184,zL P) ::
 (nat_lit 191,zK P) ::
 (nat_lit 192,zJ P) ::
 (nat_lit 193,zH P) ::
 (nat_lit 196,zG P) ::
 (nat_lit 203,zF P) ::
 (nat_lit 204,zE P) ::
 (nat_lit 205,zB P) ::
 (nat_lit 208,zA P) ::
 (nat_lit 215,zy P) ::
 (nat_lit 216,zx P) ::
 (nat_lit 217,zu P) ::
 (nat_lit 220,zq P) ::
 (nat_lit 227,zp P) ::
 (nat_lit 228,zm P) ::
 (nat_lit 229,zj P) ::
 (nat_lit 232,zf P) ::
 (nat_lit 234,zc P) ::
 (nat_lit 235,za P) ::
 (nat_lit 237,yZ P) ::
 (nat_lit 238,yX P) ::
 (nat_lit 239,yW P) ::
 (nat_lit 242,yV P) ::
 (nat_lit 243,yU P) ::
 (nat_lit 244,yS P) ::
 (nat_lit 246,yR P) ::
 (nat_lit 247,yQ P) ::
 (nat_lit 249,yP P) ::
 (nat_lit 250,yO P) ::
 (nat_lit 251,yN P) ::
 (nat_lit 253,yM P) ::
 (nat_lit 254,yL P) ::
 (nat_lit 256,yK P) ::
 (nat_lit 257,yJ P) ::
 (nat_lit 258,yI P) ::
 (nat_lit 260,yH P) ::
 (nat_lit 261,yG P) ::
 (nat_lit 263,yF P) ::
 (nat_lit 264,yE P) ::
 (nat_lit 265,yD P) ::
 (nat_lit 267,yC P) ::
 (nat_lit 268,yx P) ::
 (nat_lit 270,yw P) ::
 (nat_lit 271,yu P) ::
 (nat_lit 272,yt P) ::
 (nat_lit 274,yr P) ::
 (nat_lit 275,yq P) ::
 (nat_lit 277,yp P) ::
 (nat_lit 278,yj P) ::
 (nat_lit 279,yh P) ::
 (nat_lit 281,yg P) ::
 (nat_lit 282,yd P) ::
 (nat_lit 284,yc P) ::
 (nat_lit 285,xZ P) ::
 (nat_lit 286,xY P) ::
 (nat_lit 288,xX P) ::
 (nat_lit 289,xW P) ::
 (nat_lit 291,xV P) ::
 (nat_lit 292,xU P) ::
 (nat_lit 300,JT P) ::
 (nat_lit 302,JR P) ::
 (nat_lit 303,JQ P) ::
 (nat_lit 305,JN P) ::
 (nat_lit 306,JM P) ::
 (nat_lit 307,JL P) ::
 (nat_lit 309,JK P) ::
 (nat_lit 310,JH P) ::
 (nat_lit 312,JG P) ::
 (nat_lit 313,JF P) ::
 (nat_lit 314,JD P) ::
 (nat_lit 316,JC P) ::
 (nat_lit 317,JB P) ::
 (nat_lit 319,Jz P) ::
 (nat_lit 320,Jy P) ::
 (nat_lit 321,Jx P) ::
 (nat_lit 323,Jw P) ::
 (nat_lit 324,Jv P) ::
 (nat_lit 326,Ju P) ::
 (nat_lit 327,Jt P) ::
 (nat_lit 328,Js P) ::
 (nat_lit 330,Jr P) ::
 (nat_lit 331,Jq P) ::
 (nat_lit 333,Jp P) ::
 (nat_lit 334,Jo P) ::
 (nat_lit 335,Jm P) ::
 (nat_lit 337,Jl P) ::
 (nat_lit 338,Jk P) ::
 (nat_lit 340,Jj P) ::
 (nat_lit 341,Ji P) ::
 (nat_lit 342,Jh P) ::
 (nat_lit 343,Jg P) ::
 (nat_lit 345,Jf P) ::
 (nat_lit 346,Je P) ::
 (nat_lit 348,Jd P) ::
 (nat_lit 349,Jc P) ::
 (nat_lit 350,Jb P) ::
 (nat_lit 352,Ja P) ::
 (nat_lit 353,IW P) ::
 (nat_lit 355,IV P) ::
 (nat_lit 356,IK P) ::
 (nat_lit 357,Iz P) ::
 (nat_lit 359,Iw P) ::
 (nat_lit 360,Iu P) ::
 (nat_lit 362,Ir P) ::
 (nat_lit 363,Ip P) ::
 (nat_lit 364,Io P) ::
 (nat_lit 366,Im P) ::
 (nat_lit 367,Il P) ::
 (nat_lit 369,Ik P) ::
 (nat_lit 370,Ij P) ::
 (nat_lit 371,Ii P) ::
 (nat_lit 373,Ih P) ::
 (nat_lit 374,Ig P) ::
 (nat_lit 376,Ie P) ::
 (nat_lit 377,Ib P) ::
 (nat_lit 378,Ia P) ::
 (nat_lit 380,HY P) ::
 (nat_lit 381,HX P) ::
 (nat_lit 383,HW P) ::
 (nat_lit 384,HS P) ::
 (nat_lit 385,HN P) ::
 (nat_lit 388,HJ P) ::
 (nat_lit 389,HF P) ::
 (nat_lit 390,HD P) ::
 (nat_lit 392,HB P) ::
 (nat_lit 393,Hz P) ::
 (nat_lit 395,Hy P) ::
 (nat_lit 396,Hx P) ::
 (nat_lit 397,Hw P) ::
 (nat_lit 400,Hv P) ::
 (nat_lit 401,Hu P) ::
 (nat_lit 402,Ht P) ::
 (nat_lit 404,Hs P) ::
 (nat_lit 405,Hr P) ::
 (nat_lit 407,Hq P) ::
 (nat_lit 408,Ho P) ::
 (nat_lit 409,Hl P) ::
 (nat_lit 411,Hj P) ::
 (nat_lit 412,Hi P) ::
 (nat_lit 414,Hh P) ::
 (nat_lit 415,G9 P) ::
 (nat_lit 416,G8 P) ::
 (nat_lit 418,G7 P) ::
 (nat_lit 419,G6 P) ::
 (nat_lit 421,G5 P) ::
 (nat_lit 422,G4 P) ::
 (nat_lit 423,G3 P) ::
 (nat_lit 424,GZ P) ::
 (nat_lit 425,GX P) ::
 (nat_lit 426,GR P) ::
 (nat_lit 427,GQ P) ::
 (nat_lit 430,GP P) ::
 (nat_lit 432,GK P) ::
 (nat_lit 433,GJ P) ::
 (nat_lit 435,GF P) ::
 (nat_lit 436,GD P) ::
 (nat_lit 437,GC P) ::
 (nat_lit 439,Gz P) ::
 (nat_lit 440,Gy P) ::
 (nat_lit 442,Gx P) ::
 (nat_lit 443,Gw P) ::
 (nat_lit 444,Gv P) ::
 (nat_lit 447,Gu P) ::
 (nat_lit 448,Gs P) ::
 (nat_lit 449,Gq P) ::
 (nat_lit 452,Gp P) ::
 (nat_lit 453,Gn P) ::
 (nat_lit 454,Gm P) ::
 (nat_lit 456,Gk P) ::
 (nat_lit 457,Gj P) ::
 (nat_lit 459,Gi P) ::
 (nat_lit 460,Gh P) ::
 (nat_lit 461,Gg P) ::
 (nat_lit 464,Gf P) ::
 (nat_lit 465,Ge P) ::
 (nat_lit 466,Gd P) ::
 (nat_lit 468,Gb P) ::
 (nat_lit 469,Ga P) ::
 (nat_lit 471,FZ P) ::
 (nat_lit 472,FW P) ::
 (nat_lit 473,FT P) ::
 (nat_lit 475,FQ P) ::
 (nat_lit 476,FP P) ::
 (nat_lit 478,FN P) ::
 (nat_lit 479,FJ P) ::
 (nat_lit 480,Fz P) ::
 (nat_lit 482,Fy P) ::
 (nat_lit 483,Fx P) ::
 (nat_lit 485,Fw P) ::
 (nat_lit 486,Fv P) ::
 (nat_lit 487,Ft P) ::
 (nat_lit 489,Fq P) ::
 (nat_lit 490,Fp P) ::
 (nat_lit 492,Fo P) ::
 (nat_lit 493,Fl P) ::
 (nat_lit 494,Fj P) ::
 (nat_lit 496,Fi P) ::
 (nat_lit 497,Fg P) ::
 (nat_lit 499,Fe P) ::
 (nat_lit 500,Fd P) ::
 (nat_lit 501,Fb P) ::
 (nat_lit 503,EY P) ::
 (nat_lit 504,Ez P) ::
 (nat_lit 506,Ey P) ::
 (nat_lit 507,Ew P) ::
 (nat_lit 508,Eu P) ::
 (nat_lit 511,Et P) ::
 (nat_lit 512,Es P) ::
 (nat_lit 513,Er P) ::
 (nat_lit 516,Ep P) ::
 (nat_lit 517,Eo P) ::
 (nat_lit 518,En P) ::
 (nat_lit 521,Em P) ::
 (nat_lit 522,El P) ::
 (nat_lit 523,Ek P) ::
 (nat_lit 525,Ej P) ::
 (nat_lit 526,Ei P) ::
 (nat_lit 528,Eh P) ::
 (nat_lit 529,Ef P) ::
 (nat_lit 530,Ed P) ::
 (nat_lit 532,Eb P) ::
 (nat_lit 533,Ea P) ::
 (nat_lit 535,DY P) ::
 (nat_lit 536,DX P) :: []
def asK:List Addr:=[2,3,15,17,18,20,21,22,25,26,27,34,35,36,37,40,47,48,49,52,59,60,61,64,71,72,73,76,83,84,85,88,95,96,97,100,107,108,109,112,119,120,121,124,131,132,133,136,143,144,145,148,155,156,157,160,167,168,169,172,179,180,181,184,191,192,193,196,203,204,205,208,215,216,217,220,227,228,229,232,234,235,237,238,239,242,243,244,246,247,249,250,251,253,254,256,257,258,260,261,263,264,265,267,268,270,271,272,274,275,277,278,279,281,282,284,285,286,288,289,291,292,300,302,303,305,306,307,309,310,312,313,314,316,317,319,320,321,323,324,326,327,328,330,331,333,334,335,337,338,340,341,342,343,345,346,348,349,350,352,353,355,356,357,359,360,362,363,364,366,367,369,370,371,373,374,376,377,378,380,381,383,384,385,388,389,390,392,393,395,396,397,400,401,402,404,405,407,408,409,411,412,414,415,416,418,419,421,422,423,424,425,426,427,430,432,433,435,436,437,439,440,442,443,444,447,448,449,452,453,454,456,457,459,460,461,464,465,466,468,469,471,472,473,475,476,478,479,480,482,483,485,486,487,489,490,492,493,494,496,497,499,500,501,503,504,506,507,508,511,512,513,516,517,518,521,522,523,525,526,528,529,530,532,533,535,536]
theorem hkE:∀ P,asK=(Kf P).map (·.1):=fun _=>by kernel_rfl
def qv:Program:={ PySem.Challenge.pw_sluice_k56_refused_in_order with main:={ PySem.Challenge.pw_sluice_k56_refused_in_order.main with body:=[top0 58] } }
def uQ:List Str:=("MOST_WATER":Str) :: ("LONGEST_NAME":Str) :: ("LETTERS":Str) :: ("is_water":Str) :: ("is_name":Str) :: ("SluiceError":Str) :: ("NoRiver":Str) :: ("NoReach":Str) :: ("NoLicence":Str) :: ("NoNumber":Str) :: ("NoHolder":Str) :: ("NotYours":Str) :: ("NotAlone":Str) :: ("TooMuch":Str) :: ("Full":Str) :: ("NoPaper":Str) :: ("NoCut":Str) :: ("NoPond":Str) :: ("NoDay":Str) :: ("Fixed":Str) :: ("Harms":Str) :: ("NoRow":Str) :: ("MOST_REACHES":Str) :: ("MOUTH":Str) :: ("comes_to_mouth":Str) :: ("is_river":Str) :: ("way_of":Str) :: ("LAST_DAY":Str) :: ("is_licence":Str) :: ("day_filed":Str) :: ("most_of":Str) :: ("with_start":Str) :: ("with_most":Str) :: ("MOST_LICENCES":Str) :: ("look_at_name":Str) :: ("Roll":Str) :: ("_law_cell_at":Str) :: ("_law_draw":Str) :: ("_law_draws":Str) :: ("_law_river":Str) :: ("_law_way":Str) :: ("_law_words":Str) :: ("_law_do":Str) :: ("_law_refused":Str) :: ("_law_bad_name":Str) :: ("_law_filed":Str) :: ("_law_begun":Str) :: ("_law_is_let":Str) :: ("_law_due_first":Str) :: ("_law_due":Str) :: ("_law_lapse":Str) :: ("_law_deed":Str) :: []
end
theorem hp1:∀ w:World,(PySem.W.fencedOpening PySem.treeTable PySem.Challenge.rw_sluice_k56_refused_in_order.row.toRowW.prog w 10818).map (fun s=>(s.heap,s.gens,s.drawn,s.toks))=some (H0 w.params,#[],{},181):=by
  intro w;kernel_rfl
theorem hp2:∀ w:World,((H0 w.params).isNs mainGlobals && (#[]:Array GenState).size == 0,(H0 w.params).objs.size,(H0 w.params).nsMap mainGlobals "__annotations__")=(true,11,some (Value.ref 6)):=by
  intro w;kernel_rfl
def evT:Env:={ scope:=PySem.Challenge.rw_sluice_k56_refused_in_order.row.toRowW.prog.main.scope,locals:=mainNs,globals:=mainNs,cells:=[],code:=Value.ref 13,frame:=some 14 }
def cT:Code:=.body (PySem.W.behindTheImports PySem.Challenge.rw_sluice_k56_refused_in_order.row.toRowW.prog) evT
theorem hp3a:∀ (w:World) (os:OsState),PySem.W.topGo PySem.treeTable PySem.Challenge.rw_sluice_k56_refused_in_order.row.toRowW.prog w 11 (some (Value.ref 6)) 12 ⟨H0 w.params,#[],{},181,os⟩ (PySem.W.topStub PySem.Challenge.rw_sluice_k56_refused_in_order.row.toRowW.prog)=some (⟨Ha w.params,#[],{},187,os⟩,⟨denote PySem.treeTable cT,cT,({ line:=0,col:=0,endLine:=0,endCol:=0 }:Pos),[PySem.W.topFrame ({ line:=0,col:=0,endLine:=0,endCol:=0 }:Pos)]⟩):=by
  intro w os;kernel_rfl
theorem hp3b:∀ (w:World) (os:OsState),PySem.W.segRun PySem.treeTable PySem.Challenge.rw_sluice_k56_refused_in_order.row.toRowW.prog w 11 (some (Value.ref 6)) 1 20 ⟨Ha w.params,#[],{},187,os⟩ (PySem.W.blockOf (PySem.W.behindTheImports PySem.Challenge.rw_sluice_k56_refused_in_order.row.toRowW.prog) evT cT ({ line:=0,col:=0,endLine:=0,endCol:=0 }:Pos) [PySem.W.topFrame ({ line:=0,col:=0,endLine:=0,endCol:=0 }:Pos)])=some (.next,⟨Hb w.params,#[],{},187,os⟩,cT,({ line:=0,col:=0,endLine:=0,endCol:=0 }:Pos)):=by
  intro w os;kernel_rfl
theorem hp3c:∀ (w:World) (os:OsState),PySem.W.segRun PySem.treeTable PySem.Challenge.rw_sluice_k56_refused_in_order.row.toRowW.prog w 11 (some (Value.ref 6)) 1 4232 ⟨Hb w.params,#[],{},187,os⟩ (PySem.W.piecesOf ((PySem.W.behindTheImports PySem.Challenge.rw_sluice_k56_refused_in_order.row.toRowW.prog).take 40) evT cT ({ line:=0,col:=0,endLine:=0,endCol:=0 }:Pos) [PySem.W.topFrame ({ line:=0,col:=0,endLine:=0,endCol:=0 }:Pos)])=some (.next,⟨Hm w.params,#[],{},573,os⟩,cT,({ line:=82,col:=0,endLine:=84,endCol:=78 }:Pos)):=by
  intro w os;kernel_rfl
theorem hp3d:∀ (w:World) (os:OsState),PySem.W.topRun PySem.treeTable PySem.Challenge.rw_sluice_k56_refused_in_order.row.toRowW.prog w 11 (some (Value.ref 6)) 1514 ⟨Hm w.params,#[],{},573,os⟩ (PySem.W.restOf ((PySem.W.behindTheImports PySem.Challenge.rw_sluice_k56_refused_in_order.row.toRowW.prog).drop 40) evT cT ({ line:=82,col:=0,endLine:=84,endCol:=78 }:Pos) [PySem.W.topFrame ({ line:=0,col:=0,endLine:=0,endCol:=0 }:Pos)])=some ⟨H1 w.params,#[],{},920,os⟩:=by
  intro w os;kernel_rfl
theorem hp3:∀ (w:World) (os:OsState),PySem.W.topRun PySem.treeTable PySem.Challenge.rw_sluice_k56_refused_in_order.row.toRowW.prog w 11 (some (Value.ref 6)) (12 + (20 + (4232 + 1514))) ⟨H0 w.params,#[],{},181,os⟩ (PySem.W.topStub PySem.Challenge.rw_sluice_k56_refused_in_order.row.toRowW.prog)=some ⟨H1 w.params,#[],{},920,os⟩:=fun w os=>PySem.W.go_top (hp3a w os) (PySem.W.piece_block (hp3b w os) (by
  have h:=PySem.W.piece_app (hp3c w os) (hp3d w os)
  rwa [List.take_append_drop] at h))
theorem hp4:∀ w:World,(fun os=>((PySem.W.staticsOk (importedModules PySem.Challenge.rw_sluice_k56_refused_in_order.row.toRowW.prog.main.body) (H0 w.params) (H1 w.params) && PySem.W.namesBound PySem.Challenge.rw_sluice_k56_refused_in_order.row.toRowW.prog (H1 w.params) && PySem.W.gensDone ⟨H1 w.params,#[],{},920,os⟩ && PySem.W.laidKept (H0 w.params) (H1 w.params)),PySem.W.openSeen qv uQ (importedModules PySem.Challenge.rw_sluice_k56_refused_in_order.row.toRowW.prog.main.body) (fun s=>PySem.W.xlAt My.qv [] s && PySem.W.recOk (PySem.W.RowW.records PySem.Challenge.rw_sluice_k56_refused_in_order.row.toRowW) s) true ⟨H1 w.params,#[],{},920,os⟩,(PySem.W.Hook.obs (PySem.W.kHook My.Kf My.asK My.hkE)) ⟨H1 w.params,#[],{},920,os⟩))=fun _=>(true,PySem.W.openGood qv uQ,(PySem.W.Hook.val (PySem.W.kHook My.Kf My.asK My.hkE)) w):=by
  intro w;kernel_rfl
theorem hlE:PySem.W.LeftO PySem.Challenge.rw_sluice_k56_refused_in_order.row.toRowW.prog qv My.uQ (fun s=>PySem.W.xlAt My.qv [] s && PySem.W.recOk (PySem.W.RowW.records PySem.Challenge.rw_sluice_k56_refused_in_order.row.toRowW) s) (PySem.W.Hook.obs (PySem.W.kHook My.Kf My.asK My.hkE)) (PySem.W.Hook.val (PySem.W.kHook My.Kf My.asK My.hkE)) 10818:=PySem.W.LeftO.of_pieces hp1 hp2 hp3 (by decide) hp4
end My
namespace L2
open PySem PySem.Spec PyProof.Rows
abbrev Key:=Sum Int Str
def Rt:Key→Value→Bool
  | .inl k,v=>Value.isInt k v
  | .inr x,v=>Value.isStrOf x v
def keyH (w:World):Key→Int
  | .inl k=>hashInt k
  | .inr x=>hashStr w x
theorem eE:∀ {k:Key} {v:Value},Rt k v=true→(∃ i t,k=Sum.inl i∧v=Value.int i t)∨(∃ x t,k=Sum.inr x∧v=Value.str x t)
  | .inl i,v,h=>by
    obtain ⟨t,e⟩:=Value.isInt_shape (k:=i) (v:=v) h
    exact .inl ⟨i,t,rfl,e⟩
  | .inr x,v,h=>by
    obtain ⟨t,e⟩:=Value.isStrOf_shape (x:=x) (v:=v) h
    exact .inr ⟨x,t,rfl,e⟩
theorem Rr (a b:Int):decide ((Sum.inl a:Key)=Sum.inl b)=(a == b):=by
  by_cases e:a=b
  · subst e;simp
  · have h:¬ (Sum.inl a:Key)=Sum.inl b:=fun q=>e (Sum.inl.inj q)
    rw [decide_eq_false h]
    exact (beq_eq_false_iff_ne.mpr e).symm
theorem Ro (a b:Str):decide ((Sum.inr a:Key)=Sum.inr b)=decide (a=b):=by
  by_cases e:a=b
  · subst e;simp
  · have h:¬ (Sum.inr a:Key)=Sum.inr b:=fun q=>e (Sum.inr.inj q)
    rw [decide_eq_false h,decide_eq_false e]
theorem Rq (a:Int) (b:Str):decide ((Sum.inl a:Key)=Sum.inr b)=false:=decide_eq_false (fun q=>nomatch q)
theorem Rp (a:Str) (b:Int):decide ((Sum.inr a:Key)=Sum.inl b)=false:=decide_eq_false (fun q=>nomatch q)
def xu (prog:Program) (w:World):PySem.KeyKind prog w Key where
  is:=Rt
  hash:=keyH w
  inj:=fun v a b ha hb=>by
    rcases eE ha with ⟨i,t,rfl,rfl⟩ | ⟨x,t,rfl,rfl⟩
    · rcases eE hb with ⟨j,u,rfl,e⟩ | ⟨y,u,rfl,e⟩
      · injection e with e1 _;rw [e1]
      · exact nomatch e
    · rcases eE hb with ⟨j,u,rfl,e⟩ | ⟨y,u,rfl,e⟩
      · exact nomatch e
      · injection e with e1 _;rw [e1]
  byValue:=fun k v h=>by
    rcases eE h with ⟨i,t,rfl,rfl⟩ | ⟨x,t,rfl,rfl⟩ <;> rfl
  pyHash:=fun hv h=>by
    rcases eE hv with ⟨i,t,rfl,rfl⟩ | ⟨x,t,rfl,rfl⟩
    · exact wpAny_pyHash_int h
    · exact wpAny_pyHash_str h
  eqBool:=fun hu hv h=>by
    rcases eE hu with ⟨i,t,rfl,rfl⟩ | ⟨x,t,rfl,rfl⟩
    · rcases eE hv with ⟨j,u,rfl,rfl⟩ | ⟨y,u,rfl,rfl⟩
      · rw [Rr] at h;exact wpAny_eqBool_int h
      · rw [Rq] at h;exact SeqAt.EqAt.int_str i t y u _ _ _ _ h
    · rcases eE hv with ⟨j,u,rfl,rfl⟩ | ⟨y,u,rfl,rfl⟩
      · rw [Rp] at h;exact SeqAt.EqAt.str_int x t j u _ _ _ _ h
      · rw [Ro] at h;exact wpAny_eqBool_str h
  «strs»:=fun k x t v h=>by
    rcases eE h with ⟨i,u,rfl,e⟩ | ⟨y,u,rfl,e⟩
    · exact nomatch e
    · injection e with e1 _
      subst e1
      cases v <;> rfl
end L2
namespace L2
open PySem PySem.Spec PyProof.Rows
inductive V where
  | non | bl (b:Bool) | int (i:Int) | str (x:Str) | byt (b:Array UInt8) | flt (b:UInt64) | ref (a:Addr) | ty (n:String)
  deriving DecidableEq
def RelV:V→Value→Prop
  | .non,u=>u=Value.none
  | .bl b,u=>u=Value.bool b
  | .int i,u=>∃ t,u=Value.int i t
  | .str x,u=>∃ t,u=Value.str x t
  | .byt b,u=>∃ t,u=Value.bytes b t
  | .flt b,u=>∃ t,u=Value.float b t
  | .ref a,u=>u=Value.ref a
  | .ty n,u=>u=Value.type n
abbrev Vals:List V→List Value→Prop:=Paired RelV
theorem Vals.length {xs:List V} {us:List Value} (r:Vals xs us):xs.length=us.length:=Paired.length r
theorem Vals.get:∀ {xs:List V} {us:List Value} {i:Nat} {x:V},Vals xs us→xs[i]?=some x→∃ u,us[i]?=some u∧RelV x u
  | _,_,_,_,.nil,e=>by simp at e
  | _,_,0,_,.cons r _,e=>by simp at e;subst e;exact ⟨_,rfl,r⟩
  | _,_,i + 1,x,.cons _ t,e=>by
    obtain ⟨u,h1,h2⟩:=Vals.get (i:=i) (x:=x) t (by simpa using e)
    exact ⟨u,by simpa using h1,h2⟩
theorem Vals.set {x:V} {u:Value} (r:RelV x u):∀ {xs:List V} {us:List Value} (i:Nat),Vals xs us→Vals (xs.set i x) (us.set i u)
  | _,_,_,.nil=>.nil
  | _,_,0,.cons _ t=>.cons r t
  | _,_,i + 1,.cons q t=>.cons q (Vals.set r i t)
theorem Vals.append:∀ {xs ys:List V} {us ws:List Value},Vals xs us→Vals ys ws→Vals (xs++ys) (us++ws)
  | _,_,_,_,.nil,s=>s
  | _,_,_,_,.cons r t,s=>.cons r (Vals.append t s)
theorem Vals.take:∀ {xs:List V} {us:List Value} (n:Nat),Vals xs us→Vals (xs.take n) (us.take n)
  | _,_,0,_=>.nil
  | _,_,_ + 1,.nil=>.nil
  | _,_,n + 1,.cons r t=>.cons r (Vals.take n t)
theorem Vals.drop:∀ {xs:List V} {us:List Value} (n:Nat),Vals xs us→Vals (xs.drop n) (us.drop n)
  | _,_,0,r=>r
  | _,_,_ + 1,.nil=>.nil
  | _,_,n + 1,.cons _ t=>Vals.drop n t
def Bu:Option V→Option Value→Prop
  | some v,some u=>RelV v u
  | none,none=>True
  | _,_=>False
def KV {κ:Type}:List (κ × V)→List (κ × Value)→Prop:=Paired fun (p:κ × V) (q:κ × Value)=>p.1=q.1∧RelV p.2 q.2
def kV:Key→V
  | .inl i=>.int i
  | .inr x=>.str x
inductive HO where
  /-- a list -/
  | lst (xs:List V)
  /-- a tuple (never changes) -/
  | tup (xs:List V)
  /-- a dict whose keys are ints and texts; one whose keys are tuples of ints and texts (the empty one is both) -/
  | dK (kvs:List (Key × V)) | dT (kvs:List (List Key × V))
  /-- a set of ints: its members, its size -/
  | set (S:Int→Bool) (n:Nat)
  /-- an instance of the class at C, its dict at dx, its attributes -/
  | ins (C dx:Addr) (fs:List (Str × V))
  /-- the dict of the instance at x -/
  | own (x:Addr)
  /-- the dict of an exception -/
  | xd (fs:List (Str × V))
  /-- a bound method, f of x -/
  | met (f x:Addr)
  /-- a range object lo, lo + 1, .. below hi -/
  | rng (lo hi:Int)
  /-- a thing that is known to the object (the script; a dict while a loop walks it): read, never written while it is so -/
  | frz (o:Obj) (u:HO)
  /-- a code object's table -/
  | tbl (ps:Array Value)
  /-- any other thing, by what is true of its one object (a def of one's own: SetO a S n := HO.ext fun h => ..) -/
  | ext (φ:Heap→Prop)
abbrev Hp:=Addr→Option HO
def upd (H:Hp) (a:Addr) (o:HO):Hp:=fun b=>if b=a then some o else H b
theorem cG {H:Hp} {a:Addr} {o:HO}:upd H a o a=some o:=by unfold upd;rw [if_pos rfl]
theorem bC {H:Hp} {a b:Addr} {o:HO} (h:b≠a):upd H a o b=H b:=by unfold upd;rw [if_neg h]
theorem cZ {H:Hp} {a b:Addr} {o:HO} (h:H a=some o) (h':H b=none):a≠b:=by
  intro e;subst e;rw [h] at h';cases h'
section
variable (P:Program) (w:World)
def jk (H:Hp) (h:Heap) (a:Addr):HO→Prop
  | .lst xs=>xs.length≤sizeLine∧∃ (its:List Value) (n:Nat),Vals xs its∧h.get? a=some { cls:=.type "list",data:=.seq its.toArray n }
  | .tup xs=>xs.length≤sizeLine∧∃ its:List Value,Vals xs its∧IsTup h a its.toArray
  | .dK kvs=>kvs.length≤sizeLine∧(a == sysModules)=false∧∃ vs,KV kvs vs∧h.DictOf (xu P w) a vs
  | .dT kvs=>kvs.length≤sizeLine∧(a == sysModules)=false∧∃ xs:List (List Key × Addr × Value),
      Paired (fun (p:List Key × V) (q:List Key × Addr × Value)=>p.1=q.1∧H q.2.1=some (.tup (p.1.map kV))∧RelV p.2 q.2.2) kvs xs ∧
      ∃ o es ep,h.get? a=some o∧o.ExactDict∧o.data=.dict es ep∧es.toList=xs.map (entryOfKey (tupleKind (xu P w)))∧(xs.map (·.1)).Nodup
  | .set S n=>h.SetOf (intKind P w) a S n
  | .ins C dx fs=>H dx=some (.own a)∧fs.length≤1000∧dx≠a∧h.get? a=some (PySem.W.instObj C dx) ∧
      ∃ mA,h.Ns1 dx mA∧(∀ f,Bu (fs.lookup f) (mA f))∧PySem.Within mA (fs.map (·.1))
  | .own _=>∃ o,h.get? a=some o
  | .xd fs=>∃ mA,h.Ns1 a mA∧∀ f,Bu (fs.lookup f) (mA f)
  | .rng lo hi=>∃ t u v,h.get? a=some { cls:=.type "range",data:=.fields #[.int lo t,.int hi u,.int 1 v] }
  | .frz o u=>h.get? a=some o∧jk H h a u
  | .tbl ps=>h.get? a=some { cls:=.none,data:=.fields ps }
  | .met f x=>h.get? a=some (PySem.W.methodObj (.ref f) (.ref x))
  | .ext φ=>φ h∧(∃ o,h.get? a=some o)∧∀ h1 h2:Heap,φ h1→(∀ o,h1.get? a=some o→h2.get? a=some o)→φ h2
def HOk (H:Hp) (h:Heap):Prop:=∀ a o,H a=some o→jk P w H h a o
end
section
variable {P:Program} {w:World} {H H':Hp} {h h':Heap} {a:Addr} {o:HO}
theorem jk.lt (x:jk P w H h a o):a<h.objs.size:=by
  cases o with
  | lst xs=>obtain ⟨_,_,_,_,e⟩:=x;exact Heap.lt_size e
  | tup xs=>obtain ⟨_,_,_,p⟩:=x;exact p.lt
  | dK kvs=>obtain ⟨_,_,_,_,o,_,_,e,_⟩:=x;exact Heap.lt_size e
  | dT kvs=>obtain ⟨_,_,_,_,o,_,_,e,_⟩:=x;exact Heap.lt_size e
  | set S n=>obtain ⟨o,_,_,_,e,_⟩:=x;exact Heap.lt_size e
  | ins C dx fs=>obtain ⟨_,_,_,e,_⟩:=x;exact Heap.lt_size e
  | own y=>obtain ⟨_,e⟩:=x;exact Heap.lt_size e
  | xd fs=>obtain ⟨_,⟨_,_,_,e,_⟩,_⟩:=x;exact Heap.lt_size e
  | rng lo hi=>obtain ⟨_,_,_,e⟩:=x;exact Heap.lt_size e
  | frz ob u=>obtain ⟨e,_⟩:=x;exact Heap.lt_size e
  | tbl ps=>exact Heap.lt_size (show h.get? a=some _ from x)
  | met f y=>exact Heap.lt_size (show h.get? a=some _ from x)
  | ext φ=>obtain ⟨_,⟨_,e⟩,_⟩:=x;exact Heap.lt_size e
theorem Paired.Xk {α β:Type} {F G:α→β→Prop}:∀ {l₁:List α} {l₂:List β},Paired F l₁ l₂→(∀ a b,F a b→G a b)→Paired G l₁ l₂
  | _,_,.nil,_=>.nil
  | _,_,.cons r t,f=>.cons (f _ _ r) (Paired.Xk t f)
theorem jk.stay (x:jk P w H h a o) (k:∀ b u,(b=a∨H b=some (.own a))→h.get? b=some u→h'.get? b=some u)
    (ho:∀ b,H b=some (.own a)→H' b=some (.own a)) (ht:∀ b xs,H b=some (.tup xs)→H' b=some (.tup xs)):jk P w H' h' a o:=by
  induction o with
  | lst xs=>obtain ⟨z,its,n,r,e⟩:=x;exact ⟨z,its,n,r,k _ _ (.inl rfl) e⟩
  | tup xs=>obtain ⟨z,its,r,ob,e,c⟩:=x;exact ⟨z,its,r,ob,k _ _ (.inl rfl) e,c⟩
  | dK kvs=>obtain ⟨z,y,vs,r,ob,es,ep,e,c⟩:=x;exact ⟨z,y,vs,r,ob,es,ep,k _ _ (.inl rfl) e,c⟩
  | dT kvs =>
    obtain ⟨z,y,xs,r,ob,es,ep,e,c⟩:=x
    exact ⟨z,y,xs,Paired.Xk r fun p q z=>⟨z.1,ht _ _ z.2.1,z.2.2⟩,ob,es,ep,k _ _ (.inl rfl) e,c⟩
  | set S n=>obtain ⟨ob,es,ep,t,e,c⟩:=x;exact ⟨ob,es,ep,t,k _ _ (.inl rfl) e,c⟩
  | ins C dx fs =>
    obtain ⟨d,z,ne,e,mA,⟨od,es,ep,e2,c⟩,r⟩:=x
    exact ⟨ho _ d,z,ne,k _ _ (.inl rfl) e,mA,⟨od,es,ep,k _ _ (.inr d) e2,c⟩,r⟩
  | own y=>obtain ⟨ob,e⟩:=x;exact ⟨ob,k _ _ (.inl rfl) e⟩
  | xd fs=>obtain ⟨mA,⟨od,es,ep,e,c⟩,r⟩:=x;exact ⟨mA,⟨od,es,ep,k _ _ (.inl rfl) e,c⟩,r⟩
  | rng lo hi=>obtain ⟨t,u,v,e⟩:=x;exact ⟨t,u,v,k _ _ (.inl rfl) e⟩
  | frz ob u ih=>obtain ⟨e,q⟩:=x;exact ⟨k _ _ (.inl rfl) e,ih q⟩
  | tbl ps =>
    have e:h.get? a=some { cls:=.none,data:=.fields ps }:=x
    show h'.get? a=some { cls:=.none,data:=.fields ps }
    exact k a _ (.inl rfl) e
  | met f y =>
    have e:h.get? a=some (PySem.W.methodObj (.ref f) (.ref y)):=x
    show h'.get? a=some (PySem.W.methodObj (.ref f) (.ref y))
    exact k a _ (.inl rfl) e
  | ext φ=>obtain ⟨p,⟨o,e⟩,st⟩:=x;exact ⟨st _ _ p fun o q=>k _ _ (.inl rfl) q,⟨o,k _ _ (.inl rfl) e⟩,st⟩
theorem HOk.lt (x:HOk P w H h) (e:H a=some o):a<h.objs.size:=(x a o e).lt
theorem HOk.fresh (x:HOk P w H h) (e:h.objs.size≤a):H a=none:=by
  cases q:H a with
  | none=>rfl
  | some u=>exact absurd (Nat.lt_of_lt_of_le (x.lt q) e) (Nat.lt_irrefl _)
theorem HOk.kept (x:HOk P w H h) (k:∀ b u,h.get? b=some u→h'.get? b=some u):HOk P w H h':=fun a o e =>
  (x a o e).stay (fun b u _ q=>k b u q) (fun _ q=>q) fun _ _ q=>q
theorem HOk.laid (x:HOk P w H h) (k:∀ b u,h.get? b=some u→h'.get? b=some u) (hp:h.objs.size≤a) (new:jk P w (upd H a o) h' a o):HOk P w (upd H a o) h':=fun b u e=>by
  have hn:=x.fresh hp
  by_cases hb:b=a
  · subst hb;rw [cG] at e;cases e;exact new
  · rw [bC hb] at e
    exact (x b u e).stay (fun c v _ q=>k c v q) (fun c q=>by rw [bC (cZ q hn)];exact q) fun c xs q=>by rw [bC (cZ q hn)];exact q
end
def Rd (H:Hp) (a:Addr) (u:HO):Prop:=H a=some u∨∃ o,H a=some (.frz o u)
theorem Rd.ok {P:Program} {w:World} {H:Hp} {h:Heap} {a:Addr} {u:HO} (r:Rd H a u) (x:HOk P w H h):jk P w H h a u:=by
  rcases r with r | ⟨o,r⟩
  · exact x a u r
  · obtain ⟨_,q⟩:=x a _ r
    exact q
def Mut:Option HO→Prop
  | some (.lst _)=>True
  | some (.dK _)=>True
  | some (.dT _)=>True
  | some (.set _ _)=>True
  | some (.ins _ _ _)=>True
  | some (.ext _)=>True
  | _=>False
section
variable {P:Program} {w:World} {H:Hp} {h h':Heap} {x e:Addr} {o':HO}
theorem HOk.write (ok:HOk P w H h) (mu:Mut (H x)) (he:e=x∨H e=some (.own x)) (k:∀ b u,b≠e→h.get? b=some u→h'.get? b=some u) (heo:∃ u,h'.get? e=some u)
    (new:jk P w (upd H x o') h' x o'):HOk P w (upd H x o') h':=fun b u q=>by
  have nown:∀ c y,H c=some (.own y)→c≠x:=fun c y r z=>by subst z;rw [r] at mu;exact mu
  have ntup:∀ c xs,H c=some (.tup xs)→c≠x:=fun c xs r z=>by subst z;rw [r] at mu;exact mu
  by_cases hb:b=x
  · subst hb;rw [cG] at q;cases q;exact new
  · rw [bC hb] at q
    by_cases hbe:b=e
    · have q':H b=some (.own x):=by
        rcases he with z | z
        · exact absurd (hbe.trans z) hb
        · rw [hbe];exact z
      rw [q] at q';cases q'
      obtain ⟨v,hv⟩:=heo
      exact ⟨v,by rw [hbe];exact hv⟩
    · refine (ok b u q).stay (fun c v hc r=>k c v ?_ r) (fun c r=>by rw [bC (nown c b r)];exact r) fun c xs r=>by rw [bC (ntup c xs r)];exact r
      rcases hc with rfl | hc
      · exact hbe
      · rintro rfl
        rcases he with z | z
        · exact nown c b hc z
        · rw [hc] at z;cases z;exact hb rfl
end
structure Un (fs ex:List Addr) (H H':Hp) (h h':Heap):Prop where
  keep:∀ b o,h.get? b=some o→H b=none→b ∉ fs→b ∉ ex→h'.get? b=some o
  slot:∀ b o,h.get? b=some o→H b=none→b∈fs→b ∉ ex→∃ sl,h'.get? b=some { o with slots:=sl }
  free:∀ b o,h.get? b=some o→H b=none→b ∉ ex→H' b=none
  there:∀ b o,h.get? b=some o→b ∉ ex→∃ o',h'.get? b=some o'
  tups:∀ b xs,H b=some (.tup xs)→H' b=some (.tup xs)
  frzs:∀ b o u,H b=some (.frz o u)→H' b=some (.frz o u)
  tbls:∀ b ps,H b=some (.tbl ps)→∃ more,H' b=some (.tbl (ps++more))
section
variable {fs fs' ex ex':List Addr} {H H1 H2:Hp} {h h1 h2 h':Heap} {a x e:Addr} {o:HO}
theorem Un.any (u:Un fs ex H H1 h h1) {b:Addr} {ob:Obj} (q:h.get? b=some ob) (n:H b=none) (hx:b ∉ ex):∃ sl,h1.get? b=some { ob with slots:=sl }:=by
  by_cases hb:b∈fs
  · exact u.slot b ob q n hb hx
  · exact ⟨ob.slots,u.keep b ob q n hb hx⟩
theorem Un.kept (k:∀ b u,h.get? b=some u→h'.get? b=some u):Un fs ex H H h h' :=
  ⟨fun b ob q _ _ _=>k b ob q,fun b ob q _ _ _=>⟨ob.slots,k b ob q⟩,fun _ _ _ n _=>n,fun b ob q _=>⟨ob,k b ob q⟩,fun _ _ q=>q,fun _ _ _ q=>q,fun _ ps q=>⟨#[],by rw [q];simp⟩⟩
theorem Un.refl:Un fs ex H H h h:=Un.kept fun _ _ q=>q
theorem Un.laid (k:∀ b u,h.get? b=some u→h'.get? b=some u) (hp:h.objs.size≤a) (hn:H a=none):Un fs ex H (upd H a o) h h' where
  keep:=fun b u q _ _ _=>k b u q
  slot:=fun b u q _ _ _=>⟨u.slots,k b u q⟩
  free:=fun b u q n _=>by rw [bC (Nat.ne_of_lt (Nat.lt_of_lt_of_le (Heap.lt_size q) hp))];exact n
  there:=fun b u q _=>⟨u,k b u q⟩
  tups:=fun b xs q=>by rw [bC (cZ q hn)];exact q
  frzs:=fun b u xs q=>by rw [bC (cZ q hn)];exact q
  tbls:=fun b ps q=>⟨#[],by rw [bC (cZ q hn),q];simp⟩
theorem Un.write (mu:Mut (H x)) (he:e=x∨H e=some (.own x)) (k:∀ b u,b≠e→h.get? b=some u→h'.get? b=some u) (heo:∃ u,h'.get? e=some u):Un fs ex H (upd H x o) h h':=by
  have hx:∀ b,H b=none→b≠x:=fun b n z=>by subst z;rw [n] at mu;exact mu
  have hb:∀ b,H b=none→b≠e:=fun b n z=>by
    subst z
    rcases he with r | r
    · exact hx b n r
    · rw [n] at r;cases r
  have hm:∀ b u,H b=some u→¬ Mut (some u)→b≠x:=fun b u q nm z=>by subst z;rw [q] at mu;exact nm mu
  refine ⟨fun b u q n _ _=>k b u (hb b n) q,fun b u q n _ _=>⟨u.slots,k b u (hb b n) q⟩,fun b u q n _=>by rw [bC (hx b n)];exact n,fun b u q _=>?_,
    fun b xs q=>by rw [bC (hm b _ q fun z=>z)];exact q,fun b u xs q=>by rw [bC (hm b _ q fun z=>z)];exact q,fun b ps q=>⟨#[],by rw [bC (hm b _ q fun z=>z),q];simp⟩⟩
  by_cases hbe:b=e
  · subst hbe;exact heo
  · exact ⟨u,k b u hbe q⟩
end
def trk (h:Heap) (H:Hp):List Addr:=(List.range h.objs.size).filter fun a=>(H a).isSome
def Dh (h:Heap) (H:Hp):Heap:=PySem.W.hideAll h (trk h H)
theorem Av (h:Heap) (H:Hp):(Dh h H).objs.size=h.objs.size:=PySem.W.hideAll_size _ _
theorem Dg {h:Heap} {H:Hp} {b:Addr} {o:Obj} (e:h.get? b=some o) (n:H b=none):(Dh h H).get? b=some o :=
  PySem.W.hideAll_get _ e fun hm=>by
    have q:(H b).isSome=true:=(List.mem_filter.mp hm).2
    rw [n] at q;simp at q
theorem Ox {h:Heap} {H:Hp} {b:Addr} {o:Obj} (e:(Dh h H).get? b=some o):h.get? b=some o∧H b=none:=by
  have e':h.get? b=some o:=PySem.W.of_hideAll (trk h H) e
  refine ⟨e',?_⟩
  cases q:H b with
  | none=>rfl
  | some x =>
    have hm:b∈trk h H:=List.mem_filter.mpr ⟨List.mem_range.mpr (Heap.lt_size e'),by simp [q]⟩
    have z:(Dh h H).get? b=none:=PySem.W.hideAll_none (trk h H) hm
    rw [z] at e;cases e
end L2
namespace L2
open PySem PySem.Spec PyProof.Rows
structure Mod (K:PySem.W.Frag) (mg:Str→Option Value) (base:Heap):Prop where
  kin:K.In base
  glob:base.Ns mainGlobals mg
  blt:∃ mb,base.Ns builtinsNs mb∧∀ x:Str,x≠"__name__"→mb x=bootBuiltins x
  nolimit:base.NoLimit
structure Cx where
  prog:Program
  w:World
  K:PySem.W.Frag
  mg:Str→Option Value
  base:Heap
  A:Around
  N:List Str
  s₀:Shared
  H₀:Hp
  env:Env
  outer:List Env
  stack:List Env
  ex:List Addr
  fn:Str→Bool
  calm:Bool
  pn:List (Addr × Obj)
  xe:Value→Shared→Prop
def frs (l:List Env):List Addr:=l.filterMap (·.frame)
abbrev Cx.fs (X:Cx):List Addr:=frs X.outer
def Vis (sc:Scope) (x:Str):Prop:=sc.names.lookup x=some .local∨sc.names.lookup x=some .cell∨sc.names.lookup x=some .free
def Loc (sc:Scope) (x:Str):Prop:=sc.names.lookup x=some .local∨sc.names.lookup x=some .cell
def Look (env:Env) (h:Heap) (m:Str→Option Value) (x:Str) (u:Value):Prop :=
  (env.kindOf x=some .local∧m x=some u)∨((env.kindOf x=some .cell∨env.kindOf x=some .free)∧∃ c,env.cells.lookup x=some c∧h.IsCell c (some u))
structure Cx.Ok (X:Cx):Prop where
  mod:Mod X.K X.mg X.base
  kind:X.env.scope.kind=.function
  glob:X.env.globals=mainGlobals
  blt:X.env.builtins=builtinsNs
  above:X.s₀.heap.objs.size≤X.env.locals
  inj:∀ x y c,X.env.cells.lookup x=some c→X.env.cells.lookup y=some c→x=y
  has:∀ x,(X.env.kindOf x=some .cell∨X.env.kindOf x=some .free)→∃ c,X.env.cells.lookup x=some c
  cab:∀ x c,X.fn x=true→X.env.cells.lookup x=some c→X.s₀.heap.objs.size≤c
  hd:X.calm=true→X.A.handled=none
  frames:X.A.frames=some X.stack
  stk:X.stack=X.outer∨(X.stack=X.env :: X.outer∧X.env.frame=some X.env.locals)
  exf:∀ b∈X.ex,b≠X.env.locals∧∀ x c,X.env.cells.lookup x=some c→c≠b
  bs:∀ b o,X.base.get? b=some o→X.s₀.heap.get? b=some o∧X.H₀ b=none
  bsz:X.base.objs.size≤X.s₀.heap.objs.size
  noex:∀ b o,X.base.get? b=some o→b ∉ X.ex
  exfs:∀ b∈X.ex,b ∉ X.fs
  uT:X.s₀.heap.FunFrames X.base X.outer
  frf:∀ b∈X.fs,X.H₀ b=none
structure Inv (X:Cx) (pins:List (Addr × Obj)) (σ:List (Option V)) (H:Hp) (s:Shared):Prop where
  ok:X.Ok
  os:s.os=X.s₀.os
  bare:AllBare s.gens
  base:Un X.fs X.ex X.H₀ H X.s₀.heap s.heap
  loc:∃ m,s.heap.Ns X.env.locals m∧∀ (i:Nat) (x:Str) (v:V),X.N[i]?=some x→σ[i]?=some (some v)→Vis X.env.scope x→∃ u,RelV v u∧Look X.env s.heap m x u
  cell:∀ x c,X.env.cells.lookup x=some c→∃ v,s.heap.IsCell c v
  free:H X.env.locals=none
  freeC:∀ x c,X.env.cells.lookup x=some c→H c=none
  pin:∀ p∈X.pn++pins,s.heap.get? p.1=some p.2∧H p.1=none∧p.1≠X.env.locals∧p.1 ∉ X.fs∧∀ v,p.2.data≠.cell v
  hok:HOk X.prog X.w H s.heap
  len:σ.length=X.N.length
section
variable {X:Cx} {pins:List (Addr × Obj)} {σ:List (Option V)} {H H':Hp} {s:Shared} {h':Heap}
theorem Cx.Ok.nofr (ok:X.Ok) {b:Addr} {o:Obj} (e:X.base.get? b=some o):b ∉ X.fs:=fun hb=>by
  have:=(ok.uT.mem hb).1
  rw [e] at this;cases this
theorem Inv.bs (I:Inv X pins σ H s):∀ b o,X.base.get? b=some o→s.heap.get? b=some o∧H b=none:=fun b o e =>
  ⟨I.base.keep b o (I.ok.bs b o e).1 (I.ok.bs b o e).2 (I.ok.nofr e) (I.ok.noex b o e),I.base.free b o (I.ok.bs b o e).1 (I.ok.bs b o e).2 (I.ok.noex b o e)⟩
theorem Inv.bk (I:Inv X pins σ H s):∀ b o,X.base.get? b=some o→s.heap.get? b=some o:=fun b o e=>(I.bs b o e).1
theorem Inv.mod (I:Inv X pins σ H s):Mod X.K X.mg X.base:=I.ok.mod
theorem Inv.kIn (I:Inv X pins σ H s):X.K.In s.heap:=I.ok.mod.kin.keeps I.bk
theorem Inv.lt (I:Inv X pins σ H s):X.env.locals<s.heap.objs.size:=let ⟨_,hn,_⟩:=I.loc;hn.lt
theorem Inv.sz (I:Inv X pins σ H s):X.s₀.heap.objs.size≤s.heap.objs.size:=Nat.le_trans I.ok.above (Nat.le_of_lt I.lt)
theorem Inv.nofs (I:Inv X pins σ H s) {a:Addr} (h:s.heap.objs.size≤a):a ∉ X.fs:=fun hb=>by
  obtain ⟨_,o,ho,_⟩:=I.ok.uT.mem hb
  exact absurd (Nat.lt_of_lt_of_le (Heap.lt_size ho) (Nat.le_trans I.sz h)) (Nat.lt_irrefl _)
theorem Inv.cne (I:Inv X pins σ H s):∀ x c,X.env.cells.lookup x=some c→c≠X.env.locals:=fun x c e z=>by
  obtain ⟨v,o,ho,hd⟩:=I.cell x c e
  obtain ⟨m,⟨o',es,ep,ho',hd',_⟩,_⟩:=I.loc
  rw [z,ho'] at ho;cases ho;rw [hd'] at hd;cases hd
theorem Inv.uT (I:Inv X pins σ H s):s.heap.FunFrames X.base X.outer:=by
  have all:∀ (l:List Env),(∀ b∈frs l,b∈X.fs)→X.s₀.heap.FunFrames X.base l→s.heap.FunFrames X.base l:=by
    intro l
    induction l with
    | nil=>intro _ _;trivial
    | cons env r ih =>
      intro hs hl
      obtain ⟨hk,⟨L,o,hf,hn,ho,hd⟩,hr⟩:=hl
      have hL:L∈X.fs:=hs L (by unfold frs;rw [List.filterMap_cons,hf];exact List.mem_cons_self)
      obtain ⟨sl,e⟩:=I.base.slot L o ho (I.ok.frf L hL) hL fun z=>I.ok.exfs L z hL
      exact ⟨hk,⟨L,_,hf,hn,e,hd⟩,ih (fun b hb=>hs b (by unfold frs;rw [List.filterMap_cons,hf];exact List.mem_cons_of_mem _ hb)) hr⟩
  exact all X.outer (fun _ hb=>hb) I.ok.uT
theorem Inv.stack (I:Inv X pins σ H s):s.heap.FunFrames X.base X.stack:=by
  rcases I.ok.stk with e | ⟨e,hf⟩
  · rw [e];exact I.uT
  · rw [e]
    obtain ⟨m,hn,_⟩:=I.loc
    refine .cons (by rw [I.ok.kind];decide) hf hn ?_ I.uT
    exact Heap.get?_none_of_le (Nat.le_trans I.ok.bsz I.ok.above)
theorem Inv.vQ (I:Inv X pins σ H s):∀ b∈frs X.stack,b∈X.env.locals :: X.fs:=fun b hb=>by
  rcases I.ok.stk with e | ⟨e,hf⟩
  · rw [e] at hb;exact List.mem_cons_of_mem _ hb
  · rw [e] at hb
    unfold frs at hb
    rw [List.filterMap_cons,hf] at hb
    exact hb
theorem Inv.sE (I:Inv X pins σ H s):∀ b∈frs X.stack,H b=none:=fun b hb=>by
  rcases List.mem_cons.mp (I.vQ b hb) with e | hb
  · rw [e];exact I.free
  · obtain ⟨_,o,ho,_⟩:=I.ok.uT.mem hb
    exact I.base.free b o ho (I.ok.frf b hb) fun z=>I.ok.exfs b z hb
theorem Inv.step {g':Array GenState} {t':Nat} {d':Drawn} {ch:List Addr} (I:Inv X pins σ H s)
    (hch:∀ b∈ch,(b∈X.ex∨X.s₀.heap.objs.size≤b)∧b≠X.env.locals∧(∀ x c,X.env.cells.lookup x=some c→c≠b)∧∀ p∈X.pn++pins,p.1≠b)
    (keep:∀ b o,b≠X.env.locals→b ∉ X.fs→b ∉ ch→s.heap.get? b=some o→H b=none→h'.get? b=some o)
    (slot:∀ b o,b≠X.env.locals→b∈X.fs→b ∉ ch→s.heap.get? b=some o→H b=none→∃ sl,h'.get? b=some { o with slots:=sl }) (free:∀ b o,b ∉ ch→s.heap.get? b=some o→H b=none→H' b=none)
    (there:∀ b o,b ∉ ch→s.heap.get? b=some o→∃ o',h'.get? b=some o')
    (tups:∀ b xs,H b=some (.tup xs)→H' b=some (.tup xs)) (frzs:∀ b o u,H b=some (.frz o u)→H' b=some (.frz o u)) (tbls:∀ b ps,H b=some (.tbl ps)→∃ more,H' b=some (.tbl (ps++more)))
    (ns:∀ m,s.heap.Ns X.env.locals m→h'.Ns X.env.locals m) (hok:HOk X.prog X.w H' h') (hg:AllBare g') :
    Inv X pins σ H' { s with heap:=h',gens:=g',drawn:=d',toks:=t' }:=by
  have neL:∀ b o,X.s₀.heap.get? b=some o→b≠X.env.locals:=fun b o e=>Nat.ne_of_lt (Nat.lt_of_lt_of_le (Heap.lt_size e) I.ok.above)
  have neC:∀ b o,X.s₀.heap.get? b=some o→b ∉ X.ex→b ∉ ch:=fun b o e hx hb=>by
    rcases (hch b hb).1 with z | z
    · exact hx z
    · exact absurd (Nat.lt_of_lt_of_le (Heap.lt_size e) z) (Nat.lt_irrefl _)
  have cellK:∀ x c,X.env.cells.lookup x=some c→∀ v,s.heap.IsCell c v→h'.IsCell c v:=fun x c e v ⟨o,ho,hd⟩=>by
    have nch:c ∉ ch:=fun z=>(hch c z).2.2.1 x c e rfl
    by_cases hc:c∈X.fs
    · obtain ⟨sl,q⟩:=slot c o (I.cne x c e) hc nch ho (I.freeC x c e)
      exact ⟨_,q,hd⟩
    · exact ⟨o,keep c o (I.cne x c e) hc nch ho (I.freeC x c e),hd⟩
  refine ⟨I.ok,I.os,hg,⟨fun b o e n hb hx=>?_,fun b o e n hb hx=>?_,fun b o e n hx=>?_,fun b o e hx=>?_,fun b xs e=>tups b xs (I.base.tups b xs e),fun b o xs e=>frzs b o xs (I.base.frzs b o xs e),fun b ps e=>?_⟩,?_,fun x c e=>?_,?_,fun x c e=>?_,fun p hp=>?_,hok,I.len⟩
  · exact keep b o (neL b o e) hb (neC b o e hx) (I.base.keep b o e n hb hx) (I.base.free b o e n hx)
  · obtain ⟨sl,e1⟩:=I.base.slot b o e n hb hx
    obtain ⟨sl',e2⟩:=slot b _ (neL b o e) hb (neC b o e hx) e1 (I.base.free b o e n hx)
    exact ⟨sl',e2⟩
  · obtain ⟨o',e1⟩:=I.base.there b o e hx
    exact free b o' (neC b o e hx) e1 (I.base.free b o e n hx)
  · obtain ⟨o',e1⟩:=I.base.there b o e hx
    exact there b o' (neC b o e hx) e1
  · obtain ⟨m1,e1⟩:=I.base.tbls b ps e
    obtain ⟨m2,e2⟩:=tbls b _ e1
    exact ⟨m1++m2,by rw [e2,Array.append_assoc]⟩
  · obtain ⟨m,hn,hl⟩:=I.loc
    refine ⟨m,ns m hn,fun i x v e1 e2 e3=>?_⟩
    obtain ⟨u,r,l⟩:=hl i x v e1 e2 e3
    refine ⟨u,r,?_⟩
    rcases l with l | ⟨k,c,e,z⟩
    · exact .inl l
    · exact .inr ⟨k,c,e,cellK x c e _ z⟩
  · obtain ⟨v,z⟩:=I.cell x c e
    exact ⟨v,cellK x c e v z⟩
  · obtain ⟨m,⟨o,_,_,ho,_⟩,_⟩:=I.loc
    exact free _ o (fun z=>(hch _ z).2.1 rfl) ho I.free
  · obtain ⟨v,o,ho,hd⟩:=I.cell x c e
    exact free c o (fun z=>(hch c z).2.2.1 x c e rfl) ho (I.freeC x c e)
  · obtain ⟨e,n,ne,nf,d⟩:=I.pin p hp
    have nch:p.1 ∉ ch:=fun z=>(hch p.1 z).2.2.2 p hp rfl
    exact ⟨keep p.1 p.2 ne nf nch e n,free p.1 p.2 nch e n,ne,nf,d⟩
theorem Inv.un {t':Nat} (I:Inv X pins σ H s) (u:Un X.fs [] H H' s.heap h') (hok:HOk X.prog X.w H' h'):Inv X pins σ H' { s with heap:=h',toks:=t' }:=by
  obtain ⟨m,⟨o,es,ep,ho,r⟩,_⟩:=id I.loc
  obtain ⟨sl,hL⟩:=u.any ho I.free (by simp)
  exact I.step (g':=s.gens) (d':=s.drawn) (ch:=[]) (fun _ z=>nomatch z) (fun b o _ hb _ e n=>u.keep b o e n hb (by simp)) (fun b o _ hb _ e n=>u.slot b o e n hb (by simp)) (fun b o _ e n=>u.free b o e n (by simp)) (fun b o _ e=>u.there b o e (by simp)) u.tups u.frzs u.tbls (fun m' hm=>by
    obtain ⟨o',es',ep',ho',r'⟩:=hm
    rw [ho] at ho';cases ho'
    exact ⟨_,es',ep',hL,r'⟩) hok I.bare
theorem Inv.call {g':Array GenState} {t':Nat} {d':Drawn} {ch:List Addr} (I:Inv X pins σ H s) (u:Un (frs X.stack) ch H H' s.heap h') (hok:HOk X.prog X.w H' h') (hg:AllBare g')
    (hch:∀ b∈ch,(b∈X.ex∨X.s₀.heap.objs.size≤b)∧b≠X.env.locals∧(∀ x c,X.env.cells.lookup x=some c→c≠b)∧∀ p∈X.pn++pins,p.1≠b) :
    Inv X pins σ H' { s with heap:=h',gens:=g',drawn:=d',toks:=t' }:=by
  obtain ⟨m,⟨o,es,ep,ho,r⟩,_⟩:=id I.loc
  obtain ⟨sl,hL⟩:=u.any ho I.free fun z=>(hch _ z).2.1 rfl
  exact I.step (ch:=ch) hch (fun b o hL hb hc e n=>u.keep b o e n (fun z=>(List.mem_cons.mp (I.vQ b z)).elim hL hb) hc) (fun b o _ _ hc e n=>u.any e n hc) (fun b o hc e n=>u.free b o e n hc) (fun b o hc e=>u.there b o e hc) u.tups u.frzs u.tbls (fun m' hm=>by
    obtain ⟨o',es',ep',ho',r'⟩:=hm
    rw [ho] at ho';cases ho'
    exact ⟨_,es',ep',hL,r'⟩) hok hg
theorem Inv.turned {t':Nat} {it:Addr} (I:Inv X pins σ H s) (k:∀ b o,b≠it→s.heap.get? b=some o→h'.get? b=some o) (hn:H it=none) (hL:it≠X.env.locals)
    (h1:it∈X.ex∨X.s₀.heap.objs.size≤it) (h2:∀ x c,X.env.cells.lookup x=some c→c≠it) (h3:∀ p∈X.pn++pins,p.1≠it):Inv X pins σ H { s with heap:=h',toks:=t' }:=by
  have nit:∀ b u,H b=some u→b≠it:=fun b u e z=>by rw [z,hn] at e;cases e
  refine I.step (g':=s.gens) (d':=s.drawn) (ch:=[it]) (fun b hb=>?_) (fun b o _ _ hc e _=>k b o (fun z=>hc (by simp [z])) e) (fun b o _ _ hc e _=>⟨o.slots,k b o (fun z=>hc (by simp [z])) e⟩) (fun _ _ _ _ n=>n)
    (fun b o hc e=>⟨o,k b o (fun z=>hc (by simp [z])) e⟩) (fun _ _ e=>e) (fun _ _ _ e=>e) (fun b ps e=>⟨#[],by rw [e];simp⟩) (fun m hm=>?_) (fun b u e=>?_) I.bare
  · have e:b=it:=by simpa using hb
    subst e
    exact ⟨h1,hL,h2,h3⟩
  · obtain ⟨o,es,ep,ho,r⟩:=hm
    exact ⟨o,es,ep,k _ o (Ne.symm hL) ho,r⟩
  · refine (I.hok b u e).stay (fun c v hc q=>k c v ?_ q) (fun _ q=>q) fun _ _ q=>q
    rcases hc with z | z
    · rw [z];exact nit b u e
    · exact nit c _ z
theorem Inv.tok (I:Inv X pins σ H s) (t:Nat):Inv X pins σ H { s with toks:=t }:=I.un (h':=s.heap) (t':=t) Un.refl I.hok
theorem Inv.kept {t':Nat} (I:Inv X pins σ H s) (k:∀ b u,s.heap.get? b=some u→h'.get? b=some u):Inv X pins σ H { s with heap:=h',toks:=t' }:=I.un (Un.kept k) (I.hok.kept k)
theorem Inv.laid {a:Addr} {o:HO} {t':Nat} (I:Inv X pins σ H s) (k:∀ b u,s.heap.get? b=some u→h'.get? b=some u) (hp:s.heap.objs.size≤a) (new:jk X.prog X.w (upd H a o) h' a o) :
    Inv X pins σ (upd H a o) { s with heap:=h',toks:=t' }:=I.un (Un.laid k hp (I.hok.fresh hp)) (I.hok.laid k hp new)
theorem Inv.write {x e:Addr} {o:HO} {t':Nat} (I:Inv X pins σ H s) (mu:Mut (H x)) (he:e=x∨H e=some (.own x)) (k:∀ b u,b≠e→s.heap.get? b=some u→h'.get? b=some u) (heo:∃ u,h'.get? e=some u)
    (new:jk X.prog X.w (upd H x o) h' x o):Inv X pins σ (upd H x o) { s with heap:=h',toks:=t' }:=I.un (Un.write mu he k heo) (I.hok.write mu he k heo new)
theorem Inv.wM {pins':List (Addr × Obj)} (I:Inv X pins σ H s) (h:∀ p∈pins',s.heap.get? p.1=some p.2∧H p.1=none∧p.1≠X.env.locals∧p.1 ∉ X.fs∧∀ v,p.2.data≠.cell v):Inv X pins' σ H s :=
  ⟨I.ok,I.os,I.bare,I.base,I.loc,I.cell,I.free,I.freeC,fun p hp=>(List.mem_append.mp hp).elim (fun z=>I.pin p (List.mem_append_left _ z)) (h p),I.hok,I.len⟩
theorem uO {N:List Str} (hN:N.Nodup) {i j:Nat} {x:Str} (a:N[i]?=some x) (b:N[j]?=some x):i=j:=by
  obtain ⟨h1,e1⟩:=List.getElem?_eq_some_iff.mp a
  obtain ⟨h2,e2⟩:=List.getElem?_eq_some_iff.mp b
  exact (List.getElem_inj hN).mp (e1.trans e2.symm)
theorem qF {M:Model} {A:Around} {E:Value→Shared→Prop} {i:Nat} {x:Str} {v:V} {u:Value} {Q:Unit→Shared→Prop} (I:Inv X pins σ H s) (hN:X.N.Nodup) (hi:X.N[i]?=some x) (hx:Loc X.env.scope x) (r:RelV v u)
    (h:∀ s',Inv X pins (σ.set i (some v)) H s'→(∃ a,Heap.SameBut a s.heap s'.heap∧(a=X.env.locals∨X.env.cells.lookup x=some a))→Q () s') (hf:X.fn x=true∨X.env.scope.names.lookup x=some .local:=by first | exact .inl rfl | exact .inr rfl | assumption):wpAny M A (storeName X.env x u) Q E s:=by
  obtain ⟨m,hn,hl⟩:=id I.loc
  have hcls:(X.env.scope.kind == .class || (X.env.scope.kind == .module && X.env.locals != X.env.globals))=false:=by rw [I.ok.kind];rfl
  have hiσ:i<σ.length:=by rw [I.len];exact (List.getElem?_eq_some_iff.mp hi).1
  have cne:=I.cne
  have tracked:∀ {a:Addr} {h':Heap},(∃ o,s.heap.get? a=some o∧H a=none)→Heap.SameBut a s.heap h'→HOk X.prog X.w H h':=fun {a h'} ha hs b ob e=>by
    obtain ⟨_,_,hfree⟩:=ha
    refine (I.hok b ob e).stay (fun c w' hc q=>(hs.2 c ?_).trans q) (fun _ q=>q) fun _ _ q=>q
    rintro rfl
    rcases hc with rfl | hc
    · rw [hfree] at e;cases e
    · rw [hfree] at hc;cases hc
  rcases hx with hk | hk
  · refine wpAny_storeName_local hk hn (fun h' hn' hs=>?_) hcls
    obtain ⟨oL,_,_,hoL,_⟩:=id hn
    refine h _ ⟨I.ok,I.os,I.bare,⟨fun b o e n hb hx=>?_,fun b o e n hb hx=>?_,I.base.free,fun b o e hx=>?_,I.base.tups,I.base.frzs,I.base.tbls⟩,⟨_,hn',fun j y v' e1 e2 e3=>?_⟩,fun y c e=>?_,I.free,I.freeC,fun p hp=>?_,tracked ⟨oL,hoL,I.free⟩ hs,by simpa using I.len⟩ ⟨_,hs,.inl rfl⟩
    · exact (hs.2 b (Nat.ne_of_lt (Nat.lt_of_lt_of_le (Heap.lt_size e) I.ok.above))).trans (I.base.keep b o e n hb hx)
    · obtain ⟨sl,e1⟩:=I.base.slot b o e n hb hx
      exact ⟨sl,(hs.2 b (Nat.ne_of_lt (Nat.lt_of_lt_of_le (Heap.lt_size e) I.ok.above))).trans e1⟩
    · obtain ⟨o',e1⟩:=I.base.there b o e hx
      exact ⟨o',(hs.2 b (Nat.ne_of_lt (Nat.lt_of_lt_of_le (Heap.lt_size e) I.ok.above))).trans e1⟩
    · by_cases hj:j=i
      · subst hj
        rw [hi] at e1;cases e1
        rw [List.getElem?_set_self hiσ] at e2
        cases e2
        exact ⟨u,r,.inl ⟨hk,by simp⟩⟩
      · rw [List.getElem?_set_ne (Ne.symm hj)] at e2
        obtain ⟨u',r',q⟩:=hl j y v' e1 e2 e3
        refine ⟨u',r',?_⟩
        rcases q with ⟨k,e⟩ | ⟨k,c,e,z⟩
        · refine .inl ⟨k,?_⟩
          have:y≠x:=fun e=>hj (uO hN e1 (e ▸ hi))
          simp [this,e]
        · exact .inr ⟨k,c,e,z.sameBut hs (cne y c e)⟩
    · obtain ⟨w',z⟩:=I.cell y c e
      exact ⟨w',z.sameBut hs (cne y c e)⟩
    · obtain ⟨e,n,ne,nf,d⟩:=I.pin p hp
      exact ⟨(hs.2 p.1 ne).trans e,n,ne,nf,d⟩
  · have hfn:X.fn x=true:=by
      rcases hf with z | z
      · exact z
      · rw [z] at hk;cases hk
    obtain ⟨c,hc⟩:=I.ok.has x (.inl hk)
    obtain ⟨w',z⟩:=I.cell x c hc
    refine wpAny_storeName_cell I.ok.kind hk hc z (fun h' hc' hs=>?_)
    obtain ⟨oc,hoc,hocd⟩:=id z
    refine h { s with heap:=h' } ⟨I.ok,I.os,I.bare,⟨fun b o e n hb hx=>?_,fun b o e n hb hx=>?_,I.base.free,fun b o e hx=>?_,I.base.tups,I.base.frzs,I.base.tbls⟩,⟨m,hn.sameBut hs (Ne.symm (cne x c hc)),fun j y v' e1 e2 e3=>?_⟩,fun y c' e=>?_,I.free,I.freeC,fun p hp=>?_,tracked ⟨oc,hoc,I.freeC x c hc⟩ hs,by simpa using I.len⟩ ⟨c,hs,.inr hc⟩
    · exact (hs.2 b (Nat.ne_of_lt (Nat.lt_of_lt_of_le (Heap.lt_size e) (I.ok.cab x c hfn hc)))).trans (I.base.keep b o e n hb hx)
    · obtain ⟨sl,e1⟩:=I.base.slot b o e n hb hx
      exact ⟨sl,(hs.2 b (Nat.ne_of_lt (Nat.lt_of_lt_of_le (Heap.lt_size e) (I.ok.cab x c hfn hc)))).trans e1⟩
    · obtain ⟨o',e1⟩:=I.base.there b o e hx
      exact ⟨o',(hs.2 b (Nat.ne_of_lt (Nat.lt_of_lt_of_le (Heap.lt_size e) (I.ok.cab x c hfn hc)))).trans e1⟩
    · by_cases hj:j=i
      · subst hj
        rw [hi] at e1;cases e1
        rw [List.getElem?_set_self hiσ] at e2
        cases e2
        exact ⟨u,r,.inr ⟨.inl hk,c,hc,hc'⟩⟩
      · rw [List.getElem?_set_ne (Ne.symm hj)] at e2
        obtain ⟨u',r',q⟩:=hl j y v' e1 e2 e3
        refine ⟨u',r',?_⟩
        rcases q with q | ⟨k,c',e,z'⟩
        · exact .inl q
        · refine .inr ⟨k,c',e,z'.sameBut hs ?_⟩
          rintro rfl
          exact hj (uO hN e1 (I.ok.inj _ _ _ e hc ▸ hi))
    · by_cases hcc:c'=c
      · subst hcc;exact ⟨_,hc'⟩
      · obtain ⟨w2,z2⟩:=I.cell y c' e
        exact ⟨w2,z2.sameBut hs hcc⟩
    · obtain ⟨e,n,ne,nf,d⟩:=I.pin p hp
      refine ⟨(hs.2 p.1 ?_).trans e,n,ne,nf,d⟩
      intro q
      rw [q,hoc] at e
      have q':oc=p.2:=Option.some.inj e
      exact d w' (by rw [← q'];exact hocd)
theorem pL {M:Model} {A:Around} {E:Value→Shared→Prop} {i:Nat} {x:Str} {v:V} {u:Value} {Q:Unit→Shared→Prop} (I:Inv X pins σ H s) (hN:X.N.Nodup) (hi:X.N[i]?=some x) (hx:Loc X.env.scope x) (r:RelV v u)
    (h:∀ s',Inv X pins (σ.set i (some v)) H s'→Q () s') (hf:X.fn x=true∨X.env.scope.names.lookup x=some .local:=by first | exact .inl rfl | exact .inr rfl | assumption):wpAny M A (storeName X.env x u) Q E s :=
  qF I hN hi hx r (fun s' I' _=>h s' I') hf
theorem Inv.call' {s':Shared} {ch:List Addr} (I:Inv X pins σ H s) (ho:s'.os=s.os) (u:Un (frs X.stack) ch H H' s.heap s'.heap) (hok:HOk X.prog X.w H' s'.heap) (hg:AllBare s'.gens)
    (hch:∀ b∈ch,(b∈X.ex∨X.s₀.heap.objs.size≤b)∧b≠X.env.locals∧(∀ x c,X.env.cells.lookup x=some c→c≠b)∧∀ p∈X.pn++pins,p.1≠b):Inv X pins σ H' s':=by
  obtain ⟨h',g',d',t',o'⟩:=s'
  have e:o'=s.os:=ho
  subst e
  exact I.call (g':=g') (t':=t') (d':=d') u hok hg hch
end
abbrev XK:=Value→Option Addr→Hp→Prop
abbrev St:=List (Option V)
abbrev VK:=V→Hp→Prop
abbrev TE:=St→Hp→VK→Prop
abbrev TT:=St→Hp→(Bool→Hp→Prop)→Prop
abbrev TA:=St→Hp→(List V→Hp→Prop)→Prop
structure Ends where
  nx:St→Hp→Prop
  rt:VK
  bk:St→Hp→Prop:=fun _ _=>False
  ct:St→Hp→Prop:=fun _ _=>False
abbrev TS:=Ends→St→Hp→Prop
def EP (X:Cx) (pins:List (Addr × Obj)) (σ:St) (Q:VK) (u:Value) (s':Shared):Prop:=∃ v H',Inv X pins σ H' s'∧RelV v u∧Q v H'
def TP (X:Cx) (pins:List (Addr × Obj)) (σ:St) (Q:Bool→Hp→Prop) (b:Bool) (s':Shared):Prop:=∃ H',Inv X pins σ H' s'∧Q b H'
def AP (X:Cx) (pins:List (Addr × Obj)) (σ:St) (Q:List V→Hp→Prop) (us:List Value) (s':Shared):Prop:=∃ vs H',Inv X pins σ H' s'∧Vals vs us∧Q vs H'
def SP (X:Cx) (pins:List (Addr × Obj)) (D:Ends) (f:Flow) (s':Shared):Prop :=
  match f with
  | .next=>∃ σ' H',Inv X pins σ' H' s'∧D.nx σ' H'
  | .brk=>∃ σ' H',Inv X pins σ' H' s'∧D.bk σ' H'
  | .cont=>∃ σ' H',Inv X pins σ' H' s'∧D.ct σ' H'
  | .ret u=>∃ v σ' H',Inv X pins σ' H' s'∧RelV v u∧D.rt v H'
def PE (X:Cx) (e:Expr) (t:TE):Prop :=
  ∀ (pins:List (Addr × Obj)) (s:Shared) (σ:St) (H:Hp) (Q:VK),Inv X pins σ H s→t σ H Q→wpAny (model X.prog X.w) X.A (eval e X.env) (EP X pins σ Q) X.xe s
def PT (X:Cx) (e:Expr) (t:TT):Prop :=
  ∀ (pins:List (Addr × Obj)) (s:Shared) (σ:St) (H:Hp) (Q:Bool→Hp→Prop),Inv X pins σ H s→t σ H Q→wpAny (model X.prog X.w) X.A (isTrue e X.env (eval e X.env)) (TP X pins σ Q) X.xe s
def PW (X:Cx) (e:Expr) (t:TT):Prop :=
  ∀ (whole:Sem Value) (pins:List (Addr × Obj)) (s:Shared) (σ:St) (H:Hp) (Q:Bool→Hp→Prop),Inv X pins σ H s→t σ H Q→wpAny (model X.prog X.w) X.A (isTrue e X.env whole) (TP X pins σ Q) X.xe s
theorem PW.pt {X:Cx} {e:Expr} {t:TT} (h:PW X e t):PT X e t:=h _
def PA (X:Cx) (es:List Expr) (t:TA):Prop :=
  ∀ (pos:Pos) (pins:List (Addr × Obj)) (s:Shared) (σ:St) (H:Hp) (Q:List V→Hp→Prop),Inv X pins σ H s→t σ H Q→wpAny (model X.prog X.w) X.A (spliced (backTo pos (starEach es X.env))) (AP X pins σ Q) X.xe s
def PS (X:Cx) (st:Stmt) (t:TS):Prop :=
  ∀ (pins:List (Addr × Obj)) (s:Shared) (σ:St) (H:Hp) (D:Ends),Inv X pins σ H s→t D σ H→wpAny (model X.prog X.w) X.A (exec st X.env) (SP X pins D) X.xe s
def PSs (X:Cx) (st:List Stmt) (t:TS):Prop :=
  ∀ (pins:List (Addr × Obj)) (s:Shared) (σ:St) (H:Hp) (D:Ends),Inv X pins σ H s→t D σ H→wpAny (model X.prog X.w) X.A (execs st X.env) (SP X pins D) X.xe s
theorem thn {α:Type} {t:Sem α} {Q Q':α→Shared→Prop} {M:Model} {A:Around} {E:Value→Shared→Prop} {s:Shared} (h:wpAny M A t Q E s) (hQ:∀ a s,Q a s→Q' a s):wpAny M A t Q' E s:=wpAny_mono h hQ fun _ _ x=>x
end L2
namespace L2
open PySem PySem.Spec PyProof.Rows
section
variable {X:Cx}
def Qv (i:Nat):TE:=fun σ H Q=>∃ v,σ[i]?=some (some v)∧Q v H
def tC (v:V):TE:=fun _ H Q=>Q v H
theorem QX {i:Nat} {x:Str} {pos:Pos} (hN:X.N[i]?=some x) (hv:Vis X.env.scope x) (hd:(x == ("__debug__":Str))=false:=by decide) (hcd:(x == ("__classdict__":Str))=false:=by decide):PE X (.Name x pos) (Qv i):=by
  intro pins s σ H Q I h
  obtain ⟨v,e,h⟩:=h
  obtain ⟨m,hn,hl⟩:=I.loc
  obtain ⟨u,r,l⟩:=hl i x v hN e hv
  have fin:EP X pins σ Q u s:=⟨v,H,I,r,h⟩
  rcases l with ⟨hk,hm⟩ | ⟨hk,c,hc,hcell⟩
  · exact wpAny_Name (wpAny_loadName_local I.ok.kind hk hn hm fin) hd
  · rcases hk with hk | hk
    · exact wpAny_Name (wpAny_loadName_cell I.ok.kind hk hc hcell fin) hd
    · exact wpAny_Name (wpAny_loadName_free I.ok.kind hk hc hcell fin hcd) hd
theorem ao {i j pos}:PE X (.Constant (.int i) j pos) (tC (.int i)):=fun _ _ _ H _ I h=>wpAny_Constant_int ⟨.int i,H,I.tok _,⟨_,rfl⟩,h⟩
theorem qe {b j pos}:PE X (.Constant (.bool b) j pos) (tC (.bl b)):=fun _ _ _ H _ I h=>Constant_bool ⟨.bl b,H,I,rfl,h⟩
theorem uN {j pos}:PE X (.Constant .none j pos) (tC .non):=fun _ _ _ H _ I h=>Constant_none ⟨.non,H,I,rfl,h⟩
theorem aL {x j pos}:PE X (.Constant (.str x) j pos) (tC (.str x)):=fun _ _ _ H _ I h=>Calls.Constant_str ⟨.str x,H,I.tok _,⟨_,rfl⟩,h⟩
def Gl (X:Cx) (x:Str):Prop:=X.env.kindOf x=some .globalImplicit
theorem lX {E:Value→Shared→Prop} {pins:List (Addr × Obj)} {s:Shared} {σ:St} {H:Hp} {x:Str} {u:Value} {pos:Pos} {Q:Value→Shared→Prop} (I:Inv X pins σ H s) (hg:Gl X x) (hm:X.mg x=some u) (h:Q u s)
    (hd:(x == ("__debug__":Str))=false:=by decide):wpAny (model X.prog X.w) X.A (eval (.Name x pos) X.env) Q E s :=
  Calls.Name_function_global I.ok.kind hg (Calls.loadGlobal_global (by rw [I.ok.glob];exact I.mod.glob.keeps I.bk) hm h) hd
theorem pD {E:Value→Shared→Prop} {pins:List (Addr × Obj)} {s:Shared} {σ:St} {H:Hp} {x:Str} {u:Value} {pos:Pos} {Q:Value→Shared→Prop} (I:Inv X pins σ H s) (hg:Gl X x) (hm:X.mg x=none) (hv:bootBuiltins x=some u) (h:Q u s)
    (hn:x≠"__name__":=by decide) (hd:(x == ("__debug__":Str))=false:=by decide):wpAny (model X.prog X.w) X.A (eval (.Name x pos) X.env) Q E s:=by
  obtain ⟨mb,h1,h2⟩:=I.mod.blt
  exact Calls.Name_function_global I.ok.kind hg (Calls.loadGlobal_builtin (by rw [I.ok.glob];exact I.mod.glob.keeps I.bk) hm (by rw [I.ok.blt];exact h1.keeps I.bk) ((h2 x hn).trans hv) h) hd
theorem iB {x:Str} {v:V} {u:Value} {pos:Pos} (hg:Gl X x) (hm:X.mg x=some u) (r:RelV v u) (hd:(x == ("__debug__":Str))=false:=by decide):PE X (.Name x pos) (tC v) :=
  fun _ _ _ H _ I h=>lX I hg hm ⟨v,H,I,r,h⟩ hd
theorem Ol {x:Str} {v:V} {u:Value} {pos:Pos} (hg:Gl X x) (hm:X.mg x=none) (hv:bootBuiltins x=some u) (r:RelV v u) (hn:x≠"__name__":=by decide) (hd:(x == ("__debug__":Str))=false:=by decide):PE X (.Name x pos) (tC v) :=
  fun _ _ _ H _ I h=>pD I hg hm hv ⟨v,H,I,r,h⟩ hn hd
def t2I (ta tb:TE) (k:Int→Int→Hp→Prop):St→Hp→Prop:=fun σ H=>ta σ H fun x H1=>tb σ H1 fun y H2=>∃ i j,x=.int i∧y=.int j∧k i j H2
variable {a b:Expr} {ta tb:TE} {pos:Pos}
def Qw (p:Int→Int→Bool) (ta tb:TE):TE:=fun σ H Q=>t2I ta tb (fun i j H2=>Q (.bl (p i j)) H2) σ H
abbrev tLt:TE→TE→TE:=Qw fun i j=>decide (i<j)
abbrev tLe:TE→TE→TE:=Qw fun i j=>decide (i≤j)
abbrev tGt:TE→TE→TE:=Qw fun i j=>decide (j<i)
abbrev tGe:TE→TE→TE:=Qw fun i j=>decide (j≤i)
abbrev tEqI:TE→TE→TE:=Qw fun i j=>decide (i=j)
abbrev tNeI:TE→TE→TE:=Qw fun i j=>!decide (i=j)
def tB (t:TE):TT:=fun σ H Q=>t σ H fun x H1=>∃ c,x=.bl c∧Q c H1
theorem jN {e:Expr} {t:TE} (h:PE X e t) (he:∀ whole,isTrue e X.env whole=(do let v ← whole;standAt e.pos;holding [v] (truthy v)):=by intro _;rfl):PT X e (tB t):=by
  intro pins s σ H Q I hw
  refine isTrue_plain (thn (h pins s σ H _ I hw) fun v s1 ⟨x,H1,I1,r1,q1⟩=>?_) (he _)
  obtain ⟨d,rfl,q⟩:=q1
  cases r1
  exact wpAny_truthy_bool ⟨H1,I1,q⟩
variable {tA tB':TT} {rest:List Expr}
def tAnd (t u:TT):TT:=fun σ H Q=>t σ H fun c H1=>if c=true then u σ H1 Q else Q false H1
def tOr (t u:TT):TT:=fun σ H Q=>t σ H fun c H1=>if c=true then Q true H1 else u σ H1 Q
def tNot (t:TT):TT:=fun σ H Q=>t σ H fun c H1=>Q (!c) H1
theorem pw_and1 (ha:PT X a tA):PW X (.BoolOp .And [a] pos) tA:=by
  intro wh pins s σ H Q I h
  refine isTrue_and (thn (ha pins s σ H Q I h) fun c s1 e=>?_)
  cases c with
  | true=>exact isTrue_and_nil e
  | false=>exact e
theorem pw_or1 (ha:PT X a tA):PW X (.BoolOp .Or [a] pos) tA:=by
  intro wh pins s σ H Q I h
  refine isTrue_or (thn (ha pins s σ H Q I h) fun c s1 e=>?_)
  cases c with
  | false=>exact isTrue_or_nil e
  | true=>exact e
theorem pw_and (ha:PT X a tA) (hb:PW X (.BoolOp .And (b :: rest) pos) tB'):PW X (.BoolOp .And (a :: b :: rest) pos) (tAnd tA tB'):=by
  intro wh pins s σ H Q I h
  refine isTrue_and (thn (ha pins s σ H _ I h) fun c s1 ⟨H1,I1,q1⟩=>?_)
  cases c with
  | true=>exact hb wh pins s1 σ H1 Q I1 q1
  | false=>exact ⟨H1,I1,q1⟩
theorem pw_or (ha:PT X a tA) (hb:PW X (.BoolOp .Or (b :: rest) pos) tB'):PW X (.BoolOp .Or (a :: b :: rest) pos) (tOr tA tB'):=by
  intro wh pins s σ H Q I h
  refine isTrue_or (thn (ha pins s σ H _ I h) fun c s1 ⟨H1,I1,q1⟩=>?_)
  cases c with
  | true=>exact ⟨H1,I1,q1⟩
  | false=>exact hb wh pins s1 σ H1 Q I1 q1
theorem iD (ha:PT X a tA):PT X (.UnaryOp .Not a pos) (tNot tA):=by
  intro pins s σ H Q I h
  exact isTrue_not (ha pins s σ H (fun c H1=>Q (!c) H1) I h)
def Wx (ta tb:TE):TE:=fun σ H Q=>ta σ H fun x H1=>∃ c,x=.bl c∧if c=true then tb σ H1 Q else Q (.bl false) H1
def tOrV (ta tb:TE):TE:=fun σ H Q=>ta σ H fun x H1=>∃ c,x=.bl c∧if c=true then Q (.bl true) H1 else tb σ H1 Q
def Wr (ta:TE):TE:=fun σ H Q=>ta σ H fun x H1=>∃ c,x=.bl c∧Q (.bl (!c)) H1
theorem wO {op} {t:TE} (h:PE X a t):PE X (.BoolOp op [a] pos) t:=fun pins s σ H Q I hw=>BoolOp_one (h pins s σ H Q I hw)
theorem Q5 (ha:PE X a ta) (hb:PE X (.BoolOp .And (b :: rest) pos) tb):PE X (.BoolOp .And (a :: b :: rest) pos) (Wx ta tb):=by
  intro pins s σ H Q I h
  refine BoolOp_and (thn (ha pins s σ H _ I h) fun v s1 ⟨x,H1,I1,r1,q1⟩=>?_)
  obtain ⟨c,rfl,q1⟩:=q1
  cases r1
  refine wpAny_truthy_bool ?_
  cases c with
  | true=>exact hb pins s1 σ H1 Q I1 q1
  | false=>exact ⟨.bl false,H1,I1,rfl,q1⟩
theorem QZ (ha:PE X a ta) (hb:PE X (.BoolOp .Or (b :: rest) pos) tb):PE X (.BoolOp .Or (a :: b :: rest) pos) (tOrV ta tb):=by
  intro pins s σ H Q I h
  refine BoolOp_or (thn (ha pins s σ H _ I h) fun v s1 ⟨x,H1,I1,r1,q1⟩=>?_)
  obtain ⟨c,rfl,q1⟩:=q1
  cases r1
  refine wpAny_truthy_bool ?_
  cases c with
  | false=>exact hb pins s1 σ H1 Q I1 q1
  | true=>exact ⟨.bl true,H1,I1,rfl,q1⟩
theorem Q0 (ha:PE X a ta):PE X (.UnaryOp .Not a pos) (Wr ta):=by
  intro pins s σ H Q I h
  refine UnaryOp_ (thn (ha pins s σ H _ I h) fun v s1 ⟨x,H1,I1,r1,q1⟩=>?_)
  obtain ⟨c,rfl,q1⟩:=q1
  cases r1
  exact not_of (wpAny_truthy_bool ⟨.bl (!c),H1,I1,rfl,q1⟩)
def tIf (t:TT) (ta tb:TE):TE:=fun σ H Q=>t σ H fun c H1=>if c=true then ta σ H1 Q else tb σ H1 Q
theorem BZ {c:Expr} (hc:PT X c tA) (ha:PE X a ta) (hb:PE X b tb):PE X (.IfExp c a b pos) (tIf tA ta tb):=by
  intro pins s σ H Q I h
  refine wpAny_IfExp (thn (hc pins s σ H _ I h) fun d s1 ⟨H1,I1,q1⟩=>?_)
  cases d with
  | true=>exact ha pins s1 σ H1 Q I1 q1
  | false=>exact hb pins s1 σ H1 Q I1 q1
end
end L2
namespace L2
open PySem PySem.Spec PyProof.Rows
def SqL (K:PySem.W.Frag) (H:Hp) (a:Addr) (xs:List V):Prop :=
  Rd H a (.lst xs) ∨
    ∃ (o:Obj) (its:Array Value) (n:Nat),K.lookup a=some o∧o.cls=.type "list"∧o.dict=none∧o.data=.seq its n∧its.size≤sizeLine∧Vals xs its.toList
def SqT (K:PySem.W.Frag) (H:Hp) (a:Addr) (xs:List V):Prop :=
  Rd H a (.tup xs) ∨
    ∃ (o:Obj) (its:Array Value) (n:Nat),K.lookup a=some o∧o.cls=.type "tuple"∧o.data=.seq its n∧its.size≤sizeLine∧Vals xs its.toList
def absV:Value→Option V
  | .none=>some .non
  | .bool b=>some (.bl b)
  | .int i _=>some (.int i)
  | .str x _=>some (.str x)
  | .bytes b _=>some (.byt b)
  | .float b _=>some (.flt b)
  | .ref a=>some (.ref a)
  | .type n=>some (.ty n)
  | _=>none
theorem RelV.abs {x:V} {u:Value} (r:RelV x u):absV u=some x:=by
  cases x with
  | non=>cases r;rfl
  | bl _=>cases r;rfl
  | int _=>obtain ⟨t,rfl⟩:=r;rfl
  | str _=>obtain ⟨t,rfl⟩:=r;rfl
  | byt _=>obtain ⟨t,rfl⟩:=r;rfl
  | flt _=>obtain ⟨t,rfl⟩:=r;rfl
  | ref _=>cases r;rfl
  | ty _=>cases r;rfl
theorem RelV.inj {x y:V} {u:Value} (r:RelV x u) (q:RelV y u):x=y:=Option.some.inj (r.abs.symm.trans q.abs)
theorem Vals.inj:∀ {xs ys:List V} {us:List Value},Vals xs us→Vals ys us→xs=ys
  | _,_,_,.nil,.nil=>rfl
  | _,_,_,.cons r t,.cons r' t'=>by rw [r.inj r',Vals.inj t t']
section
variable {X:Cx} {pins:List (Addr × Obj)} {σ:St} {H:Hp} {s:Shared} {a:Addr} {xs ys:List V}
theorem SqL.of {K:PySem.W.Frag} (h:H a=some (.lst xs)):SqL K H a xs:=.inl (.inl h)
theorem SqT.of {K:PySem.W.Frag} (h:H a=some (.tup xs)):SqT K H a xs:=.inl (.inl h)
theorem Inv.list (I:Inv X pins σ H s) (h:SqL X.K H a xs):∃ its:List Value,Vals xs its∧PlainL s.heap a its.toArray∧xs.length≤sizeLine:=by
  rcases h with h | ⟨o,its,n,hk,hc,hd,hs,hz,r⟩
  · obtain ⟨z,its,n,r,e⟩:=h.ok I.hok
    exact ⟨its,r,⟨_,n,e,rfl,rfl,rfl⟩,z⟩
  · refine ⟨its.toList,r,⟨o,n,I.kIn a o hk,hc,hd,by simpa using hs⟩,?_⟩
    have e:=r.length
    simp only [Array.length_toList] at e
    omega
theorem Inv.tuple (I:Inv X pins σ H s) (h:SqT X.K H a xs):∃ its:List Value,Vals xs its∧IsTup s.heap a its.toArray∧xs.length≤sizeLine:=by
  rcases h with h | ⟨o,its,n,hk,hc,hs,hz,r⟩
  · obtain ⟨z,its,r,p⟩:=h.ok I.hok
    exact ⟨its,r,p,z⟩
  · refine ⟨its.toList,r,⟨o,I.kIn a o hk,hc,n,by simpa using hs⟩,?_⟩
    have e:=r.length
    simp only [Array.length_toList] at e
    omega
theorem Inv.CQ (I:Inv X pins σ H s) (h:SqL X.K H a xs) (h':SqL X.K H a ys):xs=ys:=by
  obtain ⟨its,r,⟨o,n,e,_,_,d⟩,_⟩:=I.list h
  obtain ⟨its',r',⟨o',n',e',_,_,d'⟩,_⟩:=I.list h'
  rw [e] at e';cases e'
  rw [d] at d'
  injection d' with d1 _
  have:its=its':=by simpa using congrArg Array.toList d1
  subst this
  exact r.inj r'
end
abbrev Cx.wish (X:Cx) (E:Value→Shared→Prop):Cx:={ X with xe:=E }
abbrev Cx.nox (X:Cx):Cx:=X.wish fun _ _=>False
theorem Cx.Ok.wish {X:Cx} (ok:X.Ok) (E:Value→Shared→Prop):(X.wish E).Ok :=
  ⟨ok.mod,ok.kind,ok.glob,ok.blt,ok.above,ok.inj,ok.has,ok.cab,ok.hd,ok.frames,ok.stk,ok.exf,ok.bs,ok.bsz,ok.noex,ok.exfs,ok.uT,ok.frf⟩
theorem Cx.Ok.lE {X:Cx} {E:Value→Shared→Prop} (ok:(X.wish E).Ok):X.Ok :=
  ⟨ok.mod,ok.kind,ok.glob,ok.blt,ok.above,ok.inj,ok.has,ok.cab,ok.hd,ok.frames,ok.stk,ok.exf,ok.bs,ok.bsz,ok.noex,ok.exfs,ok.uT,ok.frf⟩
section
variable {X:Cx} {pins:List (Addr × Obj)} {σ:St} {H:Hp} {s:Shared} {E:Value→Shared→Prop}
theorem Inv.wish (I:Inv X pins σ H s) (E:Value→Shared→Prop):Inv (X.wish E) pins σ H s:=⟨I.ok.wish E,I.os,I.bare,I.base,I.loc,I.cell,I.free,I.freeC,I.pin,I.hok,I.len⟩
theorem Inv.lE (I:Inv (X.wish E) pins σ H s):Inv X pins σ H s:=⟨I.ok.lE,I.os,I.bare,I.base,I.loc,I.cell,I.free,I.freeC,I.pin,I.hok,I.len⟩
theorem SP.lE {D:Ends} {f:Flow} {s':Shared} (h:SP (X.wish E) pins D f s'):SP X pins D f s':=by
  cases f with
  | next=>obtain ⟨σ',H',I,q⟩:=h;exact ⟨σ',H',I.lE,q⟩
  | brk=>obtain ⟨σ',H',I,q⟩:=h;exact ⟨σ',H',I.lE,q⟩
  | cont=>obtain ⟨σ',H',I,q⟩:=h;exact ⟨σ',H',I.lE,q⟩
  | ret u=>obtain ⟨v,σ',H',I,r,q⟩:=h;exact ⟨v,σ',H',I.lE,r,q⟩
theorem PSs.nox {st:List Stmt} {t:TS} (h:PSs X.nox st t):PSs X st t:=fun pins s σ H D I hw =>
  wpAny_mono (h pins s σ H D (I.wish _) hw) (fun _ _ q=>q.lE) fun _ _ z=>False.elim z
end
section
variable {X:Cx} {st:Stmt} {rest:List Stmt} {t u:TS} {e:Expr} {te:TE} {pos:Pos}
def Wt:TS:=fun D σ H=>D.nx σ H
def Xd (t u:TS):TS:=fun D σ H=>t { D with nx:=u D } σ H
theorem aU:PSs X [] Wt:=fun _ _ σ H _ I h=>wpAny_execs_nil ⟨σ,H,I,h⟩
theorem au (h1:PS X st t) (h2:PSs X rest u):PSs X (st :: rest) (Xd t u):=by
  intro pins s σ H D I h
  refine wpAny_execs_cons (thn (h1 pins s σ H { D with nx:=u D } I h) fun f s1 q=>?_)
  cases f with
  | next =>
    obtain ⟨σ',H',I',q⟩:=q
    exact h2 pins s1 σ' H' D I' q
  | ret v=>exact q
  | brk=>exact q
  | cont=>exact q
theorem aC (h1:PS X st t):PSs X [st] t:=by
  intro pins s σ H D I h
  refine wpAny_execs_cons (thn (h1 pins s σ H D I h) fun f s1 q=>?_)
  cases f with
  | next=>exact wpAny_execs_nil q
  | ret v=>exact q
  | brk=>exact q
  | cont=>exact q
theorem Inv.quiet {pins:List (Addr × Obj)} {σ:St} {H:Hp} {s:Shared} (I:Inv X pins σ H s):interactive X.env=false:=by simp [interactive,I.ok.kind]
def QH (te:TE):TS:=fun D σ H=>te σ H fun _ H1=>D.nx σ H1
theorem bD (he:PE X e te) (hs:swapsWith e none pos.line X.env=pure false:=by rfl):PS X (.Expr e pos) (QH te):=by
  intro pins s σ H D I h
  exact wpAny_Expr_any (thn (he pins s σ H _ I h) fun v s1 ⟨x,H1,I1,r1,q1⟩=>⟨σ,H1,I1,q1⟩) I.quiet hs
def tRet (te:TE):TS:=fun D σ H=>te σ H D.rt
theorem aW (he:PE X e te):PS X (.Return (some e) pos) (tRet te):=by
  intro pins s σ H D I h
  exact wpAny_Return_some (thn (he pins s σ H _ I h) fun v s1 ⟨x,H1,I1,r1,q1⟩=>⟨x,σ,H1,I1,r1,q1⟩)
def tIfS (c:TT) (t u:TS):TS:=fun D σ H=>c σ H fun b H1=>if b=true then t D σ H1 else u D σ H1
theorem bY {c:Expr} {a b:List Stmt} {tc:TT} (hc:PT X c tc) (ha:PSs X a t) (hb:PSs X b u):PS X (.If c a b pos) (tIfS tc t u):=by
  intro pins s σ H D I h
  refine wpAny_If (thn (hc pins s σ H _ I h) fun d s1 ⟨H1,I1,q1⟩=>?_)
  cases d with
  | true=>exact ha pins s1 σ H1 D I1 q1
  | false=>exact hb pins s1 σ H1 D I1 q1
end
abbrev TG:=V→St→Hp→(St→Hp→Prop)→Prop
abbrev TGs:=List V→St→Hp→(St→Hp→Prop)→Prop
def PG (X:Cx) (target:Expr) (t:TG):Prop :=
  ∀ (pins:List (Addr × Obj)) (s:Shared) (σ:St) (H:Hp) (v:V) (u:Value) (Q:St→Hp→Prop),Inv X pins σ H s→RelV v u→t v σ H Q →
    wpAny (model X.prog X.w) X.A (assign target X.env u) (fun _ s'=>∃ σ' H',Inv X pins σ' H' s'∧Q σ' H') X.xe s
def PGs (X:Cx) (ts:List Expr) (t:TGs):Prop :=
  ∀ (pins:List (Addr × Obj)) (s:Shared) (σ:St) (H:Hp) (vs:List V) (us:List Value) (Q:St→Hp→Prop),Inv X pins σ H s→Vals vs us→t vs σ H Q →
    wpAny (model X.prog X.w) X.A (assignInOrder ((assignEach ts X.env).map (·.2)) us) (fun _ s'=>∃ σ' H',Inv X pins σ' H' s'∧Q σ' H') X.xe s
abbrev W8:=V→V→V→Hp→(Hp→Prop)→Prop
def Xp (X:Cx) (t:W8):Prop :=
  ∀ (pins:List (Addr × Obj)) (s:Shared) (σ:St) (H:Hp) (o i v:V) (ov iv u:Value) (Q:Hp→Prop),Inv X pins σ H s→RelV o ov→RelV i iv→RelV v u→t o i v H Q →
    wpAny (model X.prog X.w) X.A (setItem ov iv u) (fun _ s'=>∃ H',Inv X pins σ H' s'∧Q H') X.xe s
abbrev TIp:=V→V→Hp→VK→Prop
section
variable {X:Cx} {pos:Pos}
def Ax (i:Nat):TG:=fun v σ H Q=>Q (σ.set i (some v)) H
theorem bL {i:Nat} {x:Str} (hN:X.N.Nodup) (hi:X.N[i]?=some x) (hx:Loc X.env.scope x) (hf:X.fn x=true∨X.env.scope.names.lookup x=some .local:=by first | exact .inl rfl | exact .inr rfl | assumption):PG X (.Name x pos) (Ax i):=by
  intro pins s σ H v u Q I r h
  exact wpAny_assign_Name (pL I hN hi hx r (fun s' I'=>⟨_,H,I',h⟩) hf)
def gNil:TGs:=fun vs σ H Q=>vs=[]∧Q σ H
def W2 (t:TG) (u:TGs):TGs:=fun vs σ H Q=>∃ v r,vs=v :: r∧t v σ H fun σ' H'=>u r σ' H' Q
theorem jP:PGs X [] gNil:=by
  intro pins s σ H vs us Q I r h
  obtain ⟨e,h⟩:=h
  subst e
  cases r
  exact assignInOrder_nil ⟨σ,H,I,h⟩
theorem cL {e:Expr} {es:List Expr} {t:TG} {u:TGs} (h1:PG X e t) (h2:PGs X es u)
    (hs:(assignEach (e :: es) X.env).map (·.2)=assign e X.env :: (assignEach es X.env).map (·.2):=by rfl):PGs X (e :: es) (W2 t u):=by
  intro pins s σ H vs us Q I r h
  obtain ⟨v,vr,e1,h⟩:=h
  subst e1
  cases r with
  | cons r rr =>
    rw [hs]
    refine assignInOrder_cons (thn (h1 pins s σ H _ _ _ I r h) fun _ s1 ⟨σ1,H1,I1,q1⟩=>?_)
    exact h2 pins s1 σ1 H1 _ _ Q I1 rr q1
def Xl (K:PySem.W.Frag) (n:Nat) (t:TGs):TG:=fun v σ H Q=>∃ a xs,v=.ref a∧SqT K H a xs∧xs.length=n∧t xs σ H Q
theorem qX {es:List Expr} {k:Nat} {t:TGs} {n:Nat} (hc:X.calm=true) (h:PGs X es t)
    (hn:(assignEach es X.env).length=n:=by rfl) (hst:(assignEach es X.env).findIdx? (·.1)=none:=by rfl):PG X (.Tuple es k pos) (Xl X.K n t):=by
  intro pins s σ H v u Q I r hw
  obtain ⟨a,xs,e1,hq,hl,hw⟩:=hw
  subst e1
  cases r
  obtain ⟨its,rv,ht,hz⟩:=I.tuple hq
  refine assign_Tuple_tuple (I.ok.hd hc) ht (by simp [hn,← hl,rv.length]) hst fun h' hx=>?_
  have I1:Inv X pins σ H { s with heap:=h' }:=I.kept (t':=s.toks) fun b o e=>hx b o (Nat.ne_of_lt (Heap.lt_size e)) e
  exact h pins _ σ H xs _ Q I1 (by simpa using rv) hw
def gSub (to ti:TE) (t:W8):TG:=fun v σ H Q=>to σ H fun o H1=>ti σ H1 fun i H2=>t o i v H2 fun H3=>Q σ H3
theorem lG {o i:Expr} {to ti:TE} {t:W8} (ho:PE X o to) (hi:PE X i ti) (hs:Xp X t)
    (ha:∀ v,assign (.Subscript o i pos) X.env v=(do
      let ov ← holding [v] (eval o X.env)
      let iv ← holding [v,ov] (eval i X.env)
      standAt pos
      holding [v,ov,iv] (setItem ov iv v)
      release [v,ov,iv] []):=by intro _;rfl):PG X (.Subscript o i pos) (gSub to ti t):=by
  intro pins s σ H v u Q I r h
  rw [ha]
  refine wpAny_bind (wpAny_holding (thn (ho pins s σ H _ I h) fun ov s1 ⟨x,H1,I1,r1,q1⟩=>?_))
  refine wpAny_bind (wpAny_holding (thn (hi pins s1 σ H1 _ I1 q1) fun iv s2 ⟨y,H2,I2,r2,q2⟩=>?_))
  refine wpAny_bind (wpAny_standAt (wpAny_bind (wpAny_holding (thn (hs pins s2 σ H2 x y v ov iv u _ I2 r1 r2 r q2) fun _ s3 ⟨H3,I3,q3⟩=>?_))))
  exact wpAny_release ⟨σ,H3,I3,q3⟩
def Wf (te:TE) (g:TG):TS:=fun D σ H=>te σ H fun x H1=>g x σ H1 D.nx
theorem jO {tg e:Expr} {te:TE} {g:TG} (he:PE X e te) (hg:PG X tg g) (hs:swapsWithSole [tg] e pos.line X.env=pure false:=by rfl) (hw:swappedStores [tg] e X.env=pure none:=by rfl)
    (h1:(assignEach [tg] X.env).map (·.2)=[assign tg X.env]:=by rfl):PS X (.Assign [tg] e pos) (Wf te g):=by
  intro pins s σ H D I h
  refine wpAny_Assign_stores (thn (he pins s σ H _ I h) fun v s1 ⟨x,H1,I1,r1,q1⟩=>?_) hs hw
  rw [h1]
  exact thn (hg pins s1 σ H1 x v _ I1 r1 q1) fun _ s2 q=>q
theorem bf {i:Nat} {x:Str} {e:Expr} {te:TE} {pos':Pos} (hN:X.N.Nodup) (hi:X.N[i]?=some x) (hx:Loc X.env.scope x) (he:PE X e te) (hs:swapsWith e (some (.Name x pos')) pos.line X.env=pure false:=by rfl) (hf:X.fn x=true∨X.env.scope.names.lookup x=some .local:=by first | exact .inl rfl | exact .inr rfl | assumption) :
    PS X (.Assign [.Name x pos'] e pos) (Wf te (Ax i)):=by
  intro pins s σ H D I h
  refine wpAny_Assign_Name (thn (he pins s σ H _ I h) fun v s1 ⟨y,H1,I1,r1,q1⟩=>?_) hs
  exact pL I1 hN hi hx r1 (fun s2 I2=>⟨_,H1,I2,q1⟩) hf
end
section
variable {X:Cx} {pos:Pos}
def QF (c:TT) (tb:TS):TS:=fun D σ H=>∃ W:Nat→St→Hp→Prop,(∃ m,W m σ H)∧∀ m σ H,W m σ H →
  c σ H fun b H1=>if b=true then ∃ N:St→Hp→Prop,(∀ σ' H',N σ' H'→∃ m',m'<m∧W m' σ' H')∧tb { D with nx:=N,ct:=N,bk:=D.nx } σ H1 else D.nx σ H1
theorem uM {c:Expr} {body:List Stmt} {tc:TT} {tb:TS} (hp:PassesOwn (model X.prog X.w) X.A X.env X.xe) (hc:PT X c tc) (hb:PSs X body tb):PS X (.While c body [] pos) (QF tc tb):=by
  intro pins s σ H D I h
  obtain ⟨W,⟨m0,w0⟩,turn⟩:=h
  refine wpAny_While (codeAny_whileLoop (fun n s'=>∃ σ' H',Inv X pins σ' H' s'∧W n σ' H') ?_ m0 ⟨σ,H,I,w0⟩)
  rintro n s1 ⟨σ1,H1,I1,w1⟩
  refine wpAny_passesOwn hp (thn (hc pins s1 σ1 H1 _ I1 (turn n σ1 H1 w1)) fun b s2 ⟨H2,I2,q2⟩=>?_)
  cases b with
  | true =>
    obtain ⟨N,hN,q2⟩:=q2
    rw [if_pos rfl]
    refine wpAny_passesOwn hp (thn (hb pins s2 σ1 H2 _ I2 q2) fun f s3 q3=>?_)
    cases f with
    | next =>
      obtain ⟨σ3,H3,I3,n3⟩:=q3
      obtain ⟨m',hm,w3⟩:=hN σ3 H3 n3
      exact ⟨m',hm,σ3,H3,I3,w3⟩
    | cont =>
      obtain ⟨σ3,H3,I3,n3⟩:=q3
      obtain ⟨m',hm,w3⟩:=hN σ3 H3 n3
      exact ⟨m',hm,σ3,H3,I3,w3⟩
    | brk=>exact q3
    | ret v=>exact q3
  | false =>
    rw [if_neg Bool.false_ne_true]
    exact wpAny_execs_nil ⟨σ1,H2,I2,q2⟩
end
structure It where
  go:Nat→Hp→Prop
  yld:Nat→Hp→V→Hp→Prop
  stop:Nat→Hp→Prop
def Du (X:Cx) (pins:List (Addr × Obj)) (H:Hp) (b:Addr):Prop :=
  H b=none∧b≠X.env.locals∧b ∉ X.fs∧(b∈X.ex∨X.s₀.heap.objs.size≤b)∧(∀ x c,X.env.cells.lookup x=some c→c≠b)∧∀ p∈X.pn++pins,p.1≠b
theorem Inv.V1 {X:Cx} {pins:List (Addr × Obj)} {σ:St} {H H':Hp} {s:Shared} {b:Addr} (I:Inv X pins σ H s) (hb:s.heap.objs.size≤b) (hn:H' b=none):Du X pins H' b:=by
  refine ⟨hn,Nat.ne_of_gt (Nat.lt_of_lt_of_le I.lt hb),I.nofs hb,.inr (Nat.le_trans I.sz hb),fun x c e z=>?_,fun p hp z=>?_⟩
  · obtain ⟨v,q⟩:=I.cell x c e
    exact absurd (Nat.lt_of_lt_of_le q.lt (by rw [z];exact hb)) (Nat.lt_irrefl _)
  · exact absurd (Nat.lt_of_lt_of_le (Heap.lt_size (I.pin p hp).1) (by rw [z];exact hb)) (Nat.lt_irrefl _)
structure Turn (P:Program) (w:World) (K:PySem.W.Frag) (tg:Expr) (J:It) (fp:List Addr) (it:Addr) (tn:Nat→Heap→Prop):Prop where
  mem:it∈fp
  obj:∀ i h,tn i h→∀ b∈fp,∃ o,h.get? b=some o∧∀ v,o.data≠.cell v
  keep:∀ i h h',tn i h→(∀ b∈fp,∀ o,h.get? b=some o→h'.get? b=some o)→tn i h'
  item:∀ (X:Cx),X.prog=P→X.w=w→X.K=K→X.calm=true→∀ (i:Nat) (pins:List (Addr × Obj)) (s:Shared) (σ:St) (H:Hp) (E:Value→Shared→Prop),Inv X pins σ H s→(∀ b∈fp,Du X pins H b)→tn i s.heap→J.go i H →
    wpAny (model P w) X.A (pyNext (.ref it)) (fun r s1=>∃ u,r=some u ∧
      wpAny (model P w) X.A (letOwnedTupleGo tg (.ref it) u) (fun _ s2=>∃ x H',Inv X pins σ H' s2∧RelV x u∧J.yld i H x H'∧tn (i + 1) s2.heap∧∀ b∈fp,H' b=none) E s1) E s
  done:∀ (X:Cx),X.prog=P→X.w=w→X.K=K→X.calm=true→∀ (i:Nat) (pins:List (Addr × Obj)) (s:Shared) (σ:St) (H:Hp) (E:Value→Shared→Prop),Inv X pins σ H s→(∀ b∈fp,Du X pins H b)→tn i s.heap→J.stop i H →
    wpAny (model P w) X.A (pyNext (.ref it)) (fun r s1=>r=none∧Inv X pins σ H s1) E s
  self:∀ (A:Around) (i:Nat) (s:Shared) (Q:Value→Shared→Prop) (E:Value→Shared→Prop),tn i s.heap→Q (.ref it) s→wpAny (model P w) A (pyIter (.ref it)) Q E s
abbrev TI:=St→Hp→(It→Hp→Prop)→Prop
def PIE (X:Cx) (pins:List (Addr × Obj)) (σ:St) (tg:Expr) (R:It→Hp→Prop) (itv:Value) (s2:Shared):Prop :=
  ∃ (it:Addr) (fp:List Addr) (tn:Nat→Heap→Prop) (J:It) (H':Hp),itv=.ref it∧Inv X pins σ H' s2∧Turn X.prog X.w X.K tg J fp it tn∧tn 0 s2.heap∧(∀ b∈fp,Du X pins H' b)∧R J H'
def PI (X:Cx) (tg iter:Expr) (wi:TI):Prop :=
  ∀ (pins:List (Addr × Obj)) (s:Shared) (σ:St) (H:Hp) (R:It→Hp→Prop),Inv X pins σ H s→wi σ H R →
    wpAny (model X.prog X.w) X.A (eval iter X.env) (fun v s1=>wpAny (model X.prog X.w) X.A (pyIter v) (PIE X pins σ tg R) X.xe s1) X.xe s
theorem Qh {M:Model} {A:Around} {E:Value→Shared→Prop} {s:Shared} {tg:Expr} {it:Addr} {u:Value} {o:Obj} {n:String} {vs:Array Value} {Q:Unit→Shared→Prop} (ho:s.heap.get? it=some o) (hc:o.cls=.type n) (hd:o.data=.fields vs)
    (hn:["enumerate","zip","dict_itemiterator","dict_reverseitemiterator","odict_iterator","itertools.zip_longest","itertools.pairwise"].contains n=false) (hQ:Q () s):wpAny M A (letOwnedTupleGo tg (.ref it) u) Q E s:=by
  unfold letOwnedTupleGo
  cases tg <;> first
    | exact wpAny_pure hQ
    | (cases u <;> first
        | exact wpAny_pure hQ
        | (refine wpAny_bind (wpAny_load ho ?_)
           rw [hc,hd]
           show wpAny M A (if (["enumerate","zip","dict_itemiterator","dict_reverseitemiterator","odict_iterator","itertools.zip_longest","itertools.pairwise"].contains n && vs[0]? == some (rawInt _))=true then _ else _) Q E s
           rw [if_neg (by intro h;rw [hn,Bool.false_and] at h;cases h)]
           exact wpAny_pure hQ))
def Itl (K:PySem.W.Frag) (a:Addr):It :=
  ⟨fun i H=>∃ xs x,SqL K H a xs∧xs[i]?=some x,fun i H x H'=>H'=H∧∀ xs,SqL K H a xs→xs[i]?=some x,fun i H=>∃ xs,SqL K H a xs∧xs.length≤i⟩
def Itr (lo:Int) (n:Nat):It:=⟨fun i _=>i<n,fun i H x H'=>H'=H∧x=.int (lo + i),fun i _=>n≤i⟩
theorem vO {P:Program} {w:World} {K:PySem.W.Frag} {tg:Expr} (a it:Addr):Turn P w K tg (Itl K a) [it] it (fun i h=>h.IsListIter it a i) where
  mem:=by simp
  obj:=fun i h st b hb=>by
    have e:b=it:=by simpa using hb
    subst e
    obtain ⟨o,e,c,d⟩:=st
    exact ⟨o,e,fun v z=>by rw [d] at z;cases z⟩
  keep:=fun i h h' st k=>st.at fun o e=>k it (by simp) o e
  item:=by
    intro X hP hw hK hc i pins s σ H E I hf st hg
    subst hP hw hK
    obtain ⟨xs,x,hq,hx⟩:=hg
    obtain ⟨its,rv,p,hz⟩:=I.list hq
    obtain ⟨u,hu,ru⟩:=rv.get hx
    obtain ⟨f0,f1,f2,f3,f4,f5⟩:=hf it (by simp)
    refine wpAny_pyNext_list_item st p.isList (x:=u) (by simpa using hu) fun h' st' sb=>?_
    have I1:Inv X pins σ H { s with heap:=h' }:=I.turned (t':=s.toks) (fun b o hb e=>(sb.2 b hb).trans e) f0 f1 f3 f4 f5
    obtain ⟨o,e,c,d⟩:=id st'
    exact ⟨u,rfl,Qh (s:={ s with heap:=h' }) e c d (by decide) ⟨x,H,I1,ru,⟨rfl,fun ys hy=>by rw [I.CQ hy hq];exact hx⟩,st',fun b hb=>(hf b hb).1⟩⟩
  done:=by
    intro X hP hw hK hc i pins s σ H E I hf st hg
    subst hP hw hK
    obtain ⟨xs,hq,hx⟩:=hg
    obtain ⟨its,rv,p,hz⟩:=I.list hq
    obtain ⟨f0,f1,f2,f3,f4,f5⟩:=hf it (by simp)
    have hl:=rv.length
    exact wpAny_pyNext_list_end (I.ok.hd hc) st p.isList (by simp;omega) fun h' eb=>⟨rfl,I.turned (t':=s.toks) (fun b o hb e=>eb b o hb e) f0 f1 f3 f4 f5⟩
  self:=fun _ _ _ _ _ st h=>wpAny_pyIter_listiter st h
theorem vg {P:Program} {w:World} {K:PySem.W.Frag} {tg:Expr} (it:Addr) (lo:Int) (n:Nat):Turn P w K tg (Itr lo n) [it] it (fun i h=>IsRangeIter h it (lo + (i:Nat) * 1) ((n:Int) - (i:Nat)) 1) where
  mem:=by simp
  obj:=fun i h st b hb=>by
    have e:b=it:=by simpa using hb
    subst e
    exact ⟨_,st,fun v z=>by
      have z':Data.fields _=Data.cell v:=z
      cases z'⟩
  keep:=fun i h h' st k=>k it (by simp) _ st
  item:=by
    intro X hP hw hK hc i pins s σ H E I hf st hg
    subst hP hw hK
    obtain ⟨f0,f1,f2,f3,f4,f5⟩:=hf it (by simp)
    have W:=Walks.range (prog:=X.prog) (w:=X.w) (I.ok.hd hc) it lo 1 n
    refine W.item i s _ _ hg st fun v h' tk hv st' kk=>?_
    obtain ⟨t,rfl⟩:=hv
    have I1:Inv X pins σ H { s with heap:=h',toks:=tk }:=I.turned (fun b o hb e=>kk b o (by simpa using hb) e) f0 f1 f3 f4 f5
    refine ⟨_,rfl,Qh (s:={ s with heap:=h',toks:=tk }) (n:="range_iterator") st' rfl rfl (by decide) ⟨.int (lo + i),H,I1,⟨t,?_⟩,⟨rfl,rfl⟩,st',fun b hb=>(hf b hb).1⟩⟩
    rw [Int.mul_one]
  done:=by
    intro X hP hw hK hc i pins s σ H E I hf st hg
    subst hP hw hK
    obtain ⟨f0,f1,f2,f3,f4,f5⟩:=hf it (by simp)
    exact wpAny_pyNext_range_end (I.ok.hd hc) st (by have:n≤i:=hg;omega) fun h' eb=>⟨rfl,I.turned (t':=s.toks) (fun b o hb e=>eb b o hb e) f0 f1 f3 f4 f5⟩
  self:=fun _ _ _ _ _ st h=>wpAny_pyIter_rangeiter st h
end L2
namespace L2
open PySem PySem.Spec PyProof.Rows
section
variable {X:Cx} {tg:Expr}
def WT (K:PySem.W.Frag) (tl:TE):TI:=fun σ H R=>tl σ H fun x H1=>∃ a,x=.ref a∧(∃ xs,SqL K H1 a xs)∧R (Itl K a) H1
theorem p8 {l:Expr} {tl:TE} (hl:PE X l tl):PI X tg l (WT X.K tl):=by
  intro pins s σ H R I h
  refine thn (hl pins s σ H _ I h) fun v s1 ⟨x,H1,I1,r1,q1⟩=>?_
  obtain ⟨a,e,⟨xs,hq⟩,q⟩:=q1
  subst e
  cases r1
  obtain ⟨its,rv,p,hz⟩:=I1.list hq
  refine wpAny_pyIter_list p.isList ?_
  refine ⟨s1.heap.objs.size,[s1.heap.objs.size],_,_,H1,rfl,I1.kept (t':=s1.toks) fun b o e=>Heap.get?_push_of_some _ e,vO a _,⟨_,Heap.get?_push_size _ rfl,rfl,rfl⟩,fun b hb=>?_,q⟩
  have e:b=s1.heap.objs.size:=by simpa using hb
  subst e
  exact I1.V1 (Nat.le_refl _) (I1.hok.fresh (Nat.le_refl _))
theorem uL {pins:List (Addr × Obj)} {σ:St} {H:Hp} {s:Shared} {R:It→Hp→Prop} {E:Value→Shared→Prop} {lo hi:Int} {t u v:Tok} {tk:Nat} (I:Inv X pins σ H s) (h1:-(2 ^ 62)≤lo) (h2:lo<2 ^ 62) (h3:-(2 ^ 62)≤hi) (h4:hi<2 ^ 62)
    (q:R (Itr lo (hi - lo).toNat) H):wpAny (model X.prog X.w) X.A (pyIter (.ref s.heap.objs.size)) (PIE X pins σ tg R) E { s with heap:=s.heap.push { cls:=.type "range",data:=.fields #[.int lo t,.int hi u,.int 1 v] },toks:=tk }:=by
  refine wpAny_pyIter_range (IsRange.new ..) (small_one h1 h2 h3 h4) ?_
  have I1:Inv X pins σ H { s with heap:=s.heap.push { cls:=.type "range",data:=.fields #[.int lo t,.int hi u,.int 1 v] },toks:=tk }:=I.kept fun b o e=>Heap.get?_push_of_some _ e
  refine ⟨(s.heap.push { cls:=.type "range",data:=.fields #[.int lo t,.int hi u,.int 1 v] }).objs.size,[(s.heap.push { cls:=.type "range",data:=.fields #[.int lo t,.int hi u,.int 1 v] }).objs.size],_,_,H,rfl,
    I1.kept (t':=tk) fun b o e=>Heap.get?_push_of_some _ e,vg _ lo (hi - lo).toNat,?_,fun b hb=>?_,q⟩
  · have e1:lo + ((0:Nat):Int) * 1=lo:=by simp
    have e2:(((hi - lo).toNat:Nat):Int) - ((0:Nat):Int)=Builtin.Range.rangeSize lo hi 1:=by rw [rangeSize_one];split <;> omega
    show IsRangeIter _ _ (lo + ((0:Nat):Int) * 1) ((((hi - lo).toNat:Nat):Int) - ((0:Nat):Int)) 1
    rw [e1,e2]
    exact Heap.get?_push_size _ rfl
  · have e:b=(s.heap.push { cls:=.type "range",data:=.fields #[.int lo t,.int hi u,.int 1 v] }).objs.size:=by simpa using hb
    subst e
    exact I1.V1 (Nat.le_refl _) (I1.hok.fresh (Nat.le_refl _))
def WR (ta:TA):TI:=fun σ H R=>ta σ H fun vs H1=>∃ j:Int,vs=[.int j]∧-(2 ^ 62)≤j∧j<2 ^ 62∧R (Itr 0 j.toNat) H1
def WQ (ta:TA):TI:=fun σ H R=>ta σ H fun vs H1=>∃ i j:Int,vs=[.int i,.int j]∧(-(2 ^ 62)≤i∧i<2 ^ 62∧-(2 ^ 62)≤j∧j<2 ^ 62)∧R (Itr i (j - i).toNat) H1
theorem jq {a:Expr} {ta:TA} {p pos:Pos} (hg:Gl X "range") (hm:X.mg "range"=none) (ha:PA X [a] ta) (hs:starEach [a] X.env=[(false,eval a X.env)]:=by rfl):PI X tg (.Call (.Name "range" p) [a] [] pos) (WR ta):=by
  intro pins s σ H R I h
  refine Call_ (pD I hg hm boot_range (PyProof.Rows.callWith_type1 (thn (ha pos pins s σ H _ I h) fun us s1 ⟨vs,H1,I1,r1,q1⟩=>?_) hs rfl))
  obtain ⟨j,e,q1,q2,q⟩:=q1
  subst e
  cases r1 with
  | cons r rr =>
    cases rr
    obtain ⟨t,rfl⟩:=r
    exact call_range_1 (uL I1 (by omega) (by omega) q1 q2 (by simpa using q))
theorem wN {a b:Expr} {ta:TA} {p pos:Pos} (hg:Gl X "range") (hm:X.mg "range"=none) (ha:PA X [a,b] ta) (hs:starEach [a,b] X.env=[(false,eval a X.env),(false,eval b X.env)]:=by rfl) (hs2:starEach [b] X.env=[(false,eval b X.env)]:=by rfl) :
    PI X tg (.Call (.Name "range" p) [a,b] [] pos) (WQ ta):=by
  intro pins s σ H R I h
  refine Call_ (pD I hg hm boot_range (PyProof.Rows.callWith_type1 (thn (ha pos pins s σ H _ I h) fun us s1 ⟨vs,H1,I1,r1,q1⟩=>?_) (by rw [hs,hs2]) (by rw [hs2];rfl)))
  obtain ⟨i,j,e,⟨q1,q2,q3,q4⟩,q⟩:=q1
  subst e
  cases r1 with
  | cons r rr =>
    cases rr with
    | cons r' rr =>
      cases rr
      obtain ⟨t,rfl⟩:=r
      obtain ⟨t',rfl⟩:=r'
      exact call_range_2 (uL I1 q1 q2 q3 q4 q)
def tFor (wi:TI) (g:TG) (tb:TS):TS:=fun D σ H=>wi σ H fun J H1=>∃ W:Nat→Nat→St→Hp→Prop,(∃ m,W 0 m σ H1)∧∀ i m σ H,W i m σ H →
  (J.stop i H∧D.nx σ H)∨(J.go i H∧∃ N:St→Hp→Prop,(∀ σ' H',N σ' H'→∃ m',m'<m∧W (i + 1) m' σ' H')∧∀ x H',J.yld i H x H'→g x σ H' fun σ2 H2=>tb { D with nx:=N,ct:=N,bk:=D.nx } σ2 H2)
def qW (fp:List Addr) (h:Heap):List (Addr × Obj):=fp.filterMap fun b=>(h.get? b).map fun o=>(b,o)
theorem j5 {fp:List Addr} {h:Heap} {b:Addr} {o:Obj} (hb:b∈fp) (e:h.get? b=some o):(b,o)∈qW fp h:=List.mem_filterMap.mpr ⟨b,hb,by rw [e];rfl⟩
theorem xg {fp:List Addr} {h:Heap} {p:Addr × Obj} (hp:p∈qW fp h):p.1∈fp∧h.get? p.1=some p.2:=by
  obtain ⟨b,hb,e⟩:=List.mem_filterMap.mp hp
  cases q:h.get? b with
  | none=>rw [q] at e;cases e
  | some o =>
    rw [q] at e
    have e':(b,o)=p:=Option.some.inj e
    subst e'
    exact ⟨hb,q⟩
theorem Inv.pinned {pins:List (Addr × Obj)} {σ:St} {H:Hp} {s:Shared} {fp:List Addr} (I:Inv X pins σ H s) (hf:∀ b∈fp,Du X pins H b) (ho:∀ b∈fp,∃ o,s.heap.get? b=some o∧∀ v,o.data≠.cell v):Inv X (pins++qW fp s.heap) σ H s :=
  I.wM fun p hp=>(List.mem_append.mp hp).elim (fun z=>I.pin p (List.mem_append_right _ z)) fun z=>by
    obtain ⟨hb,e⟩:=xg z
    obtain ⟨f0,f1,f2,_⟩:=hf p.1 hb
    obtain ⟨o,e',d⟩:=ho p.1 hb
    rw [e] at e';cases e'
    exact ⟨e,f0,f1,f2,d⟩
theorem Inv.nj {pins pl:List (Addr × Obj)} {σ:St} {H:Hp} {s:Shared} (I:Inv X (pins++pl) σ H s):Inv X pins σ H s:=I.wM fun p hp=>I.pin p (List.mem_append_right _ (List.mem_append_left _ hp))
theorem pq {iter:Expr} {body:List Stmt} {wi:TI} {g:TG} {tb:TS} {pos:Pos} (hp:PassesOwn (model X.prog X.w) X.A X.env X.xe) (hc:X.calm=true) (hi:PI X tg iter wi) (hg:PG X tg g) (hb:PSs X body tb)
    (hs:∀ x,foldedSetIterable iter X.env x=pure x:=by intro _;rfl):PS X (.For tg iter body [] pos) (tFor wi g tb):=by
  intro pins s σ H D I h
  refine wpAny_For (thn (hi pins s σ H _ I h) fun v s1 h1=>thn h1 fun itv s2 h2=>?_) hs
  obtain ⟨it,fp,tn,J,H2,e,I2,T,st2,f2,W,⟨m0,w0⟩,turn⟩:=h2
  subst e
  have stat:∀ {H':Hp},(∀ b∈fp,H' b=none)→∀ b∈fp,Du X pins H' b:=fun hn b hb=>⟨hn b hb,(f2 b hb).2⟩
  refine codeAny_forLoop_any (fun n s'=>∃ i σ' H',Inv X pins σ' H' s'∧tn i s'.heap∧(∀ b∈fp,H' b=none)∧W i n σ' H') ?_ m0 ⟨0,σ,H2,I2,st2,fun b hb=>(f2 b hb).1,w0⟩
  rintro n s3 ⟨i,σ3,H3,I3,st3,fr3,w3⟩
  rcases turn i n σ3 H3 w3 with ⟨stop,qn⟩ | ⟨go,N,hN,step⟩
  · refine wpAny_passesOwn hp (thn (T.done X rfl rfl rfl hc i pins s3 σ3 H3 X.xe I3 (stat fr3) st3 stop) fun r s4 ⟨hr,I4⟩=>?_)
    subst hr
    exact wpAny_execs_nil ⟨σ3,H3,I4,qn⟩
  · refine wpAny_passesOwn hp (thn (T.item X rfl rfl rfl hc i pins s3 σ3 H3 X.xe I3 (stat fr3) st3 go) fun r s4 ⟨u,hr,h4⟩=>?_)
    subst hr
    refine wpAny_passesOwn hp (thn h4 fun _ s5 ⟨x,H5,I5,r5,y5,st5,fr5⟩=>?_)
    have I5':=I5.pinned (stat fr5) (T.obj _ _ st5)
    refine wpAny_passesOwn hp (thn (hg _ s5 σ3 H5 x u _ I5' r5 (step x H5 y5)) fun _ s6 ⟨σ6,H6,I6,q6⟩=>?_)
    refine wpAny_passesOwn hp (thn (hb _ s6 σ6 H6 _ I6 q6) fun f s7 q7=>?_)
    have again:∀ {σ7:St} {H7:Hp},Inv X (pins++qW fp s5.heap) σ7 H7 s7→N σ7 H7→∃ m,m<n∧∃ i σ' H',Inv X pins σ' H' s7∧tn i s7.heap∧(∀ b∈fp,H' b=none)∧W i m σ' H':=fun {σ7 H7} I7 n7=>by
      obtain ⟨m',hm,w7⟩:=hN σ7 H7 n7
      refine ⟨m',hm,i + 1,σ7,H7,I7.nj,T.keep _ _ _ st5 fun b hb o e=>(I7.pin (b,o) (List.mem_append_right _ (List.mem_append_right _ (j5 hb e)))).1,fun b hb=>?_,w7⟩
      obtain ⟨o,e,d⟩:=T.obj _ _ st5 b hb
      exact (I7.pin (b,o) (List.mem_append_right _ (List.mem_append_right _ (j5 hb e)))).2.1
    cases f with
    | next=>obtain ⟨σ7,H7,I7,n7⟩:=q7;exact again I7 n7
    | cont=>obtain ⟨σ7,H7,I7,n7⟩:=q7;exact again I7 n7
    | brk=>obtain ⟨σ7,H7,I7,q7⟩:=q7;exact ⟨σ7,H7,I7.nj,q7⟩
    | ret v=>obtain ⟨x7,σ7,H7,I7,r7,q7⟩:=q7;exact ⟨x7,σ7,H7,I7.nj,r7,q7⟩
end
theorem Dj {K:PySem.W.Frag} {a:Addr} {xs:List V} {g:TG} {tb:TS} {D:Ends} {σ:St} {H:Hp} (Pv:Nat→St→Hp→Prop) (h0:Pv 0 σ H) (hl:∀ i σ H,i≤xs.length→Pv i σ H→SqL K H a xs)
    (hs:∀ i x σ H,xs[i]?=some x→Pv i σ H→g x σ H fun σ2 H2=>tb { D with nx:=Pv (i + 1),ct:=Pv (i + 1),bk:=D.nx } σ2 H2) (hd:∀ σ H,Pv xs.length σ H→D.nx σ H) :
    ∃ W:Nat→Nat→St→Hp→Prop,(∃ m,W 0 m σ H)∧∀ i m σ H,W i m σ H →
      ((Itl K a).stop i H∧D.nx σ H)∨((Itl K a).go i H∧∃ N:St→Hp→Prop,(∀ σ' H',N σ' H'→∃ m',m'<m∧W (i + 1) m' σ' H')∧∀ x H',(Itl K a).yld i H x H'→g x σ H' fun σ2 H2=>tb { D with nx:=N,ct:=N,bk:=D.nx } σ2 H2):=by
  refine ⟨fun i m σ H=>m=xs.length - i∧i≤xs.length∧Pv i σ H,⟨xs.length,by simp,Nat.zero_le _,h0⟩,?_⟩
  rintro i m σ H ⟨rfl,hi,p⟩
  have q:=hl i σ H hi p
  by_cases hlt:i<xs.length
  · refine .inr ⟨⟨xs,xs[i],q,by simp [hlt]⟩,Pv (i + 1),fun σ' H' p'=>⟨xs.length - (i + 1),by omega,rfl,hlt,p'⟩,fun x H' y=>?_⟩
    obtain ⟨e,y⟩:=y
    subst e
    exact hs i x σ _ (y xs q) p
  · have e:i=xs.length:=by omega
    subst e
    exact .inl ⟨⟨xs,q,Nat.le_refl _⟩,hd σ H p⟩
theorem ou {lo:Int} {n:Nat} {g:TG} {tb:TS} {D:Ends} {σ:St} {H:Hp} (Pv:Nat→St→Hp→Prop) (h0:Pv 0 σ H)
    (hs:∀ i σ H,i<n→Pv i σ H→g (.int (lo + i)) σ H fun σ2 H2=>tb { D with nx:=Pv (i + 1),ct:=Pv (i + 1),bk:=D.nx } σ2 H2) (hd:∀ σ H,Pv n σ H→D.nx σ H) :
    ∃ W:Nat→Nat→St→Hp→Prop,(∃ m,W 0 m σ H)∧∀ i m σ H,W i m σ H →
      ((Itr lo n).stop i H∧D.nx σ H)∨((Itr lo n).go i H∧∃ N:St→Hp→Prop,(∀ σ' H',N σ' H'→∃ m',m'<m∧W (i + 1) m' σ' H')∧∀ x H',(Itr lo n).yld i H x H'→g x σ H' fun σ2 H2=>tb { D with nx:=N,ct:=N,bk:=D.nx } σ2 H2):=by
  refine ⟨fun i m σ H=>m=n - i∧i≤n∧Pv i σ H,⟨n,by simp,Nat.zero_le _,h0⟩,?_⟩
  rintro i m σ H ⟨rfl,hi,p⟩
  by_cases hlt:i<n
  · refine .inr ⟨hlt,Pv (i + 1),fun σ' H' p'=>⟨n - (i + 1),by omega,rfl,hlt,p'⟩,fun x H' y=>?_⟩
    obtain ⟨e,y⟩:=y
    subst e y
    exact hs i σ _ hlt p
  · have e:i=n:=by omega
    subst e
    exact .inl ⟨Nat.le_refl _,hd σ H p⟩
end L2
namespace L2
open PySem PySem.Spec PyProof.Rows
abbrev R2:=V→V→Hp→VK→Prop
def OpR (X:Cx) (f:Value→Value→Sem Value) (r:R2):Prop :=
  ∀ (pins:List (Addr × Obj)) (s:Shared) (σ:St) (H:Hp) (x y:V) (v u:Value) (Q:VK),Inv X pins σ H s→RelV x v→RelV y u→r x y H Q →
    wpAny (model X.prog X.w) X.A (f v u) (EP X pins σ Q) X.xe s
def UnR (X:Cx) (f:Value→Sem Value) (r:V→Hp→VK→Prop):Prop :=
  ∀ (pins:List (Addr × Obj)) (s:Shared) (σ:St) (H:Hp) (x:V) (v:Value) (Q:VK),Inv X pins σ H s→RelV x v→r x H Q →
    wpAny (model X.prog X.w) X.A (f v) (EP X pins σ Q) X.xe s
def oO (X:Cx) (f:Value) (r:List V→Hp→VK→Prop):Prop :=
  ∀ (pins:List (Addr × Obj)) (s:Shared) (σ:St) (H:Hp) (xs:List V) (us:List Value) (Q:VK),Inv X pins σ H s→Vals xs us→r xs H Q →
    wpAny (model X.prog X.w) X.A (call f us) (EP X pins σ Q) X.xe s
def tOp (r:R2) (ta tb:TE):TE:=fun σ H Q=>ta σ H fun x H1=>tb σ H1 fun y H2=>r x y H2 Q
def tUn (r:V→Hp→VK→Prop) (ta:TE):TE:=fun σ H Q=>ta σ H fun x H1=>r x H1 Q
def rI (C:Int→Int→Prop) (g:Int→Int→V):R2:=fun x y H Q=>∃ i j,x=.int i∧y=.int j∧C i j∧Q (g i j) H
def rI0 (g:Int→Int→V):R2:=fun x y H Q=>∃ i j,x=.int i∧y=.int j∧Q (g i j) H
def rU (g:Int→V):V→Hp→VK→Prop:=fun x H Q=>∃ i,x=.int i∧Q (g i) H
section
variable {X:Cx} {a b c:Expr} {ta tb tc:TE} {pos:Pos}
theorem Wi (ha:PE X a ta) (hb:PE X b tb) {pins:List (Addr × Obj)} {s:Shared} {σ:St} {H:Hp} {R:V→V→Hp→Prop} (I:Inv X pins σ H s)
    (h:ta σ H fun x H1=>tb σ H1 fun y H2=>R x y H2) {Q:Value→Shared→Prop} {f:Value→Value→Sem Value}
    (hf:∀ v u s2 x y H2,Inv X pins σ H2 s2→RelV x v→RelV y u→R x y H2→wpAny (model X.prog X.w) X.A (f v u) Q X.xe s2) :
    wpAny (model X.prog X.w) X.A (eval a X.env) (fun v s₁=>wpAny (model X.prog X.w) X.A (eval b X.env) (fun u s₂=>wpAny (model X.prog X.w) X.A (f v u) Q X.xe s₂) X.xe s₁) X.xe s:=by
  refine thn (ha pins s σ H _ I h) fun v s1 ⟨x,H1,I1,r1,q1⟩=>?_
  refine thn (hb pins s1 σ H1 _ I1 q1) fun u s2 ⟨y,H2,I2,r2,q2⟩=>?_
  exact hf v u s2 x y H2 I2 r1 r2 q2
theorem aH {op:Operator} {r:R2} (ho:OpR X (binaryOp op) r) (ha:PE X a ta) (hb:PE X b tb):PE X (.BinOp a op b pos) (tOp r ta tb):=by
  intro pins s σ H Q I h
  exact wpAny_BinOp (Wi ha hb I h fun v u s2 x y H2 I2 rx ry q=>ho pins s2 σ H2 x y v u Q I2 rx ry q)
theorem kY {op:UnaryOp} {r:V→Hp→VK→Prop} (ho:UnR X (unaryOp op) r) (ha:PE X a ta):PE X (.UnaryOp op a pos) (tUn r ta):=by
  intro pins s σ H Q I h
  exact UnaryOp_ (thn (ha pins s σ H _ I h) fun v s1 ⟨x,H1,I1,r1,q1⟩=>ho pins s1 σ H1 x v Q I1 r1 q1)
theorem opI {f:Value→Value→Sem Value} {C:Int→Int→Prop} {g:Int→Int→Int}
    (rule:∀ (i j:Int) (t u:Tok) (s:Shared) (Q:Value→Shared→Prop) (E:Value→Shared→Prop),C i j→Q (.int (g i j) s.toks) { s with toks:=s.toks + 1 }→wpAny (model X.prog X.w) X.A (f (.int i t) (.int j u)) Q E s) :
    OpR X f (rI C fun i j=>.int (g i j)):=by
  intro pins s σ H x y v u Q I rx ry h
  obtain ⟨i,j,rfl,rfl,hc,q⟩:=h
  obtain ⟨t,rfl⟩:=rx
  obtain ⟨t',rfl⟩:=ry
  exact rule i j t t' s _ _ hc ⟨.int (g i j),H,I.tok _,⟨_,rfl⟩,q⟩
theorem Xj {f:Value→Value→Sem Value} {g:Int→Int→Int}
    (rule:∀ (i j:Int) (t u:Tok) (s:Shared) (Q:Value→Shared→Prop) (E:Value→Shared→Prop),Q (.int (g i j) s.toks) { s with toks:=s.toks + 1 }→wpAny (model X.prog X.w) X.A (f (.int i t) (.int j u)) Q E s) :
    OpR X f (rI0 fun i j=>.int (g i j)):=by
  intro pins s σ H x y v u Q I rx ry h
  obtain ⟨i,j,rfl,rfl,q⟩:=h
  obtain ⟨t,rfl⟩:=rx
  obtain ⟨t',rfl⟩:=ry
  exact rule i j t t' s _ _ ⟨.int (g i j),H,I.tok _,⟨_,rfl⟩,q⟩
theorem Wg {f:Value→Value→Sem Value} {g:Int→Int→Bool}
    (rule:∀ (i j:Int) (t u:Tok) (s:Shared) (Q:Value→Shared→Prop) (E:Value→Shared→Prop),Q (.bool (g i j)) s→wpAny (model X.prog X.w) X.A (f (.int i t) (.int j u)) Q E s) :
    OpR X f (rI0 fun i j=>.bl (g i j)):=by
  intro pins s σ H x y v u Q I rx ry h
  obtain ⟨i,j,rfl,rfl,q⟩:=h
  obtain ⟨t,rfl⟩:=rx
  obtain ⟨t',rfl⟩:=ry
  exact rule i j t t' s _ _ ⟨.bl (g i j),H,I,rfl,q⟩
def Bs (i j:Int):Prop:=0<j∧j<1073741824
def CPow (i j:Int):Prop:=0≤j∧j≤1000000∧i.natAbs<2 ^ 64
def Xb (i j:Int):Prop:=(-(2 ^ 64)<i∧i<2 ^ 64)∨(-(2 ^ 64)<j∧j<2 ^ 64)
theorem Xb.ok {i j:Int} (h:Xb i j):IntMulOk i j:=by
  rcases h with ⟨h1,h2⟩ | ⟨h1,h2⟩
  · exact .of_left (intBits_le_64 h1 h2)
  · exact .of_right (intBits_le_64 h1 h2)
theorem cD:OpR X (binaryOp .Add) (rI0 fun i j=>.int (i + j)):=Xj fun _ _ _ _ _ _ _ q=>add_int q
theorem kI:OpR X (binaryOp .Sub) (rI0 fun i j=>.int (i - j)):=Xj fun _ _ _ _ _ _ _ q=>sub_int q
theorem mK:OpR X (binaryOp .Mult) (rI Xb fun i j=>.int (i * j)):=opI fun _ _ _ _ _ _ _ hc q=>mul_int q hc.ok
theorem cW:OpR X (binaryOp .FloorDiv) (rI Bs fun i j=>.int (i / j)):=opI fun i j _ _ _ _ _ hc q=>by
  have h1:(0:Int)<j:=hc.1
  have h2:j<1073741824:=hc.2
  exact floordiv_int (by omega) (by rw [Int.fdiv_eq_ediv_of_nonneg i (by omega)];exact q) (.inl (PyProof.noPylong_small (by omega)))
theorem bF:OpR X (binaryOp .Mod) (rI (fun _ j=>0<j) fun i j=>.int (i % j)):=opI fun i j _ _ _ _ _ hc q=>by
  have h1:(0:Int)<j:=hc
  exact mod_int' (by omega) (by rw [Int.fmod_eq_emod_of_nonneg i (by omega)];exact q)
theorem pA:OpR X (binaryOp .Pow) (rI CPow fun i j=>.int (i ^ j.toNat)):=opI fun _ _ _ _ _ _ _ hc q=>pow_int_small hc.1 hc.2.1 hc.2.2 q
theorem unI {f:Value→Sem Value} {g:Int→Int}
    (rule:∀ (i:Int) (t:Tok) (s:Shared) (Q:Value→Shared→Prop) (E:Value→Shared→Prop),Q (.int (g i) s.toks) { s with toks:=s.toks + 1 }→wpAny (model X.prog X.w) X.A (f (.int i t)) Q E s) :
    UnR X f (rU fun i=>.int (g i)):=by
  intro pins s σ H x v Q I rx h
  obtain ⟨i,rfl,q⟩:=h
  obtain ⟨t,rfl⟩:=rx
  exact rule i t s _ _ ⟨.int (g i),H,I.tok _,⟨_,rfl⟩,q⟩
theorem iU:UnR X (unaryOp .USub) (rU fun i=>.int (-i)):=unI fun _ _ _ _ _ q=>neg_int q
end
def Xe:V→V→Bool
  | .non,.non=>true | .non,.int _=>true | .int _,.non=>true | .non,.bl _=>true | .bl _,.non=>true | .non,.str _=>true | .str _,.non=>true
  | .int _,.int _=>true | .bl _,.bl _=>true | .str _,.str _=>true | .byt _,.byt _=>true
  | .int _,.str _=>true | .str _,.int _=>true | .bl _,.str _=>true | .str _,.bl _=>true
  | _,_=>false
def rEq:R2:=fun x y H Q=>Xe x y=true∧Q (.bl (decide (x=y))) H
def rNe:R2:=fun x y H Q=>Xe x y=true∧Q (.bl (!decide (x=y))) H
theorem Bb {i j:Int}:decide (V.int i=V.int j)=(i == j):=by
  rw [Bool.eq_iff_iff]
  simp
theorem Nu {i j:Bool}:decide (V.bl i=V.bl j)=(i == j):=by
  rw [Bool.eq_iff_iff]
  simp
theorem Az {i j:Str}:decide (V.str i=V.str j)=(i == j):=by
  rw [Bool.eq_iff_iff]
  simp
theorem Bd {i j:Array UInt8}:decide (V.byt i=V.byt j)=(i.toList == j.toList):=by
  rw [Bool.eq_iff_iff]
  cases i
  cases j
  simp
section
variable {X:Cx} {a b c:Expr} {ta tb tc:TE} {pos:Pos}
theorem cV {pins:List (Addr × Obj)} {σ:St} {H:Hp} {s:Shared} {Q:VK} {k k':Bool} (I:Inv X pins σ H s) (q:Q (.bl k) H) (e:k=k'):EP X pins σ Q (.bool k') s:=by
  subst e
  exact ⟨.bl k,H,I,rfl,q⟩
theorem fj:OpR X (compareOp .Eq) rEq:=by
  intro pins s σ H x y v u Q I rx ry h
  obtain ⟨hs,q⟩:=h
  cases x with
  | non =>
    cases rx
    cases y with
    | non=>cases ry;exact PySem.EqNone.eq_none_none (cV I q (by simp))
    | bl j=>cases ry;exact PySem.EqNone.eq_none_bool (cV I q (by simp))
    | int j=>obtain ⟨t',rfl⟩:=ry;exact PySem.EqNone.eq_none_int (cV I q (by simp))
    | str j=>obtain ⟨t',rfl⟩:=ry;exact PySem.EqNone.eq_none_str (cV I q (by simp))
    | _=>exact absurd (show false=true from hs) Bool.false_ne_true
  | bl i =>
    cases rx
    cases y with
    | non=>cases ry;exact PySem.EqNone.eq_bool_none (cV I q (by simp))
    | bl j=>cases ry;exact eq_bool (cV I q Nu)
    | str j=>obtain ⟨t',rfl⟩:=ry;exact PySem.EqMixed.eq_bool_str (cV I q (by simp))
    | _=>exact absurd (show false=true from hs) Bool.false_ne_true
  | int i =>
    obtain ⟨t,rfl⟩:=rx
    cases y with
    | non=>cases ry;exact PySem.EqNone.eq_int_none (cV I q (by simp))
    | int j=>obtain ⟨t',rfl⟩:=ry;exact eq_int (cV I q Bb)
    | str j=>obtain ⟨t',rfl⟩:=ry;exact PySem.EqMixed.eq_int_str (cV I q (by simp))
    | _=>exact absurd (show false=true from hs) Bool.false_ne_true
  | str i =>
    obtain ⟨t,rfl⟩:=rx
    cases y with
    | non=>cases ry;exact PySem.EqNone.eq_str_none (cV I q (by simp))
    | bl j=>cases ry;exact PySem.EqMixed.eq_str_bool (cV I q (by simp))
    | int j=>obtain ⟨t',rfl⟩:=ry;exact PySem.EqMixed.eq_str_int (cV I q (by simp))
    | str j=>obtain ⟨t',rfl⟩:=ry;exact eq_str (cV I q Az)
    | _=>exact absurd (show false=true from hs) Bool.false_ne_true
  | byt i =>
    obtain ⟨t,rfl⟩:=rx
    cases y with
    | byt j=>obtain ⟨t',rfl⟩:=ry;exact PySem.W.eq_bytes (cV I q Bd)
    | _=>exact absurd (show false=true from hs) Bool.false_ne_true
  | _=>cases y <;> exact absurd (show false=true from hs) Bool.false_ne_true
theorem nR:OpR X (compareOp .NotEq) rNe:=by
  intro pins s σ H x y v u Q I rx ry h
  obtain ⟨hs,q⟩:=h
  cases x with
  | non =>
    cases rx
    cases y with
    | non=>cases ry;exact PySem.EqNone.ne_none_none (cV I q (by simp))
    | bl j=>cases ry;exact PySem.EqNone.ne_none_bool (cV I q (by simp))
    | int j=>obtain ⟨t',rfl⟩:=ry;exact PySem.EqNone.ne_none_int (cV I q (by simp))
    | str j=>obtain ⟨t',rfl⟩:=ry;exact PySem.EqNone.ne_none_str (cV I q (by simp))
    | _=>exact absurd (show false=true from hs) Bool.false_ne_true
  | bl i =>
    cases rx
    cases y with
    | non=>cases ry;exact PySem.EqNone.ne_bool_none (cV I q (by simp))
    | bl j=>cases ry;exact ne_bool (cV I q (congrArg not Nu))
    | str j=>obtain ⟨t',rfl⟩:=ry;exact PySem.EqMixed.ne_bool_str (cV I q (by simp))
    | _=>exact absurd (show false=true from hs) Bool.false_ne_true
  | int i =>
    obtain ⟨t,rfl⟩:=rx
    cases y with
    | non=>cases ry;exact PySem.EqNone.ne_int_none (cV I q (by simp))
    | int j=>obtain ⟨t',rfl⟩:=ry;exact ne_int (cV I q (congrArg not Bb))
    | str j=>obtain ⟨t',rfl⟩:=ry;exact PySem.EqMixed.ne_int_str (cV I q (by simp))
    | _=>exact absurd (show false=true from hs) Bool.false_ne_true
  | str i =>
    obtain ⟨t,rfl⟩:=rx
    cases y with
    | non=>cases ry;exact PySem.EqNone.ne_str_none (cV I q (by simp))
    | bl j=>cases ry;exact PySem.EqMixed.ne_str_bool (cV I q (by simp))
    | int j=>obtain ⟨t',rfl⟩:=ry;exact PySem.EqMixed.ne_str_int (cV I q (by simp))
    | str j=>obtain ⟨t',rfl⟩:=ry;exact ne_str (cV I q (congrArg not Az))
    | _=>exact absurd (show false=true from hs) Bool.false_ne_true
  | byt i =>
    obtain ⟨t,rfl⟩:=rx
    cases y with
    | byt j=>obtain ⟨t',rfl⟩:=ry;exact PySem.W.ne_bytes (cV I q (congrArg not Bd))
    | _=>exact absurd (show false=true from hs) Bool.false_ne_true
  | _=>cases y <;> exact absurd (show false=true from hs) Bool.false_ne_true
theorem mX:OpR X (compareOp .Lt) (rI0 fun i j=>.bl (decide (i<j))):=Wg fun _ _ _ _ _ _ _ q=>lt_int q
theorem kE:OpR X (compareOp .LtE) (rI0 fun i j=>.bl (decide (i≤j))):=Wg fun _ _ _ _ _ _ _ q=>le_int q
theorem wU:OpR X (compareOp .Gt) (rI0 fun i j=>.bl (decide (j<i))):=Wg fun _ _ _ _ _ _ _ q=>gt_int q
theorem Q6:OpR X (compareOp .GtE) (rI0 fun i j=>.bl (decide (j≤i))):=Wg fun _ _ _ _ _ _ _ q=>ge_int q
theorem wR:OpR X (compareOp .In) (fun x y H Q=>∃ i j,x=.str i∧y=.str j∧Q (.bl (!(Builtin.Str.occurrences j i 0 j.length 1).isEmpty)) H):=by
  intro pins s σ H x y v u Q I rx ry h
  obtain ⟨i,j,rfl,rfl,q⟩:=h
  obtain ⟨t,rfl⟩:=rx
  obtain ⟨t',rfl⟩:=ry
  exact in_str (cV I q rfl)
theorem DP:OpR X (compareOp .Is) (fun x y H Q=>y=.non∧Q (.bl (decide (x=.non))) H):=by
  intro pins s σ H x y v u Q I rx ry h
  obtain ⟨rfl,q⟩:=h
  cases ry
  refine is_none_gen (cV I q ?_)
  cases x <;> first
    | (cases rx;rfl)
    | (obtain ⟨t,rfl⟩:=rx;rfl)
theorem aP (b:Expr) {op:CmpOp} (h:op≠.In:=by decide) (h2:op≠.NotIn:=by decide):behindInMarks op b=false:=by
  have e1:(op == CmpOp.In)=false:=by cases op <;> first | rfl | exact absurd rfl h
  have e2:(op == CmpOp.NotIn)=false:=by cases op <;> first | rfl | exact absurd rfl h2
  cases b <;> simp [behindInMarks,e1,e2]
theorem jC {op:CmpOp} {r:R2} (ho:OpR X (compareOp op) r) (ha:PE X a ta) (hb:PE X b tb) (hm:behindInMarks op b=false):PE X (.Compare a [op] [b] pos) (tOp r ta tb):=by
  intro pins s σ H Q I h
  exact wpAny_Compare1 (Wi ha hb I h fun v u s2 x y H2 I2 rx ry q=>ho pins s2 σ H2 x y v u Q I2 rx ry q) hm
def N5 (t:TE):TT:=fun σ H Q=>t σ H fun x H'=>∃ k,x=.bl k∧Q k H'
theorem aJ {op:CmpOp} {r:R2} (ho:OpR X (compareOp op) r) (ha:PE X a ta) (hb:PE X b tb) (hm:behindInMarks op b=false):PT X (.Compare a [op] [b] pos) (N5 (tOp r ta tb)):=by
  intro pins s σ H Q I h
  refine wpAny_isTrue_Compare1 (thn (ha pins s σ H _ I h) fun v s1 ⟨x,H1,I1,r1,q1⟩=>thn (hb pins s1 σ H1 _ I1 q1) fun u s2 ⟨y,H2,I2,r2,q2⟩ =>
    thn (ho pins s2 σ H2 x y v u _ I2 r1 r2 q2) fun c s3 ⟨z,H3,I3,r3,k,e,q3⟩=>?_) hm
  subst e
  cases r3
  exact wpAny_truthy_bool ⟨H3,I3,q3⟩
def Dv (r r':R2) (ta tb tc:TE):TE:=fun σ H Q=>ta σ H fun x H1=>tb σ H1 fun y H2=>r x y H2 fun z H3=>∃ k,z=.bl k ∧
  (if k=true then tc σ H3 fun w' H4=>r' y w' H4 Q else Q (.bl false) H3)
theorem qd {op op':CmpOp} {r r':R2} (ho:OpR X (compareOp op) r) (ho':OpR X (compareOp op') r') (ha:PE X a ta) (hb:PE X b tb) (hc:PE X c tc)
    (hm:lastMarks [op,op'] [b,c]=false:=by with_unfolding_all rfl):PE X (.Compare a [op,op'] [b,c] pos) (Dv r r' ta tb tc):=by
  intro pins s σ H Q I h
  refine Compare_chain (thn (ha pins s σ H _ I h) fun v s1 ⟨x,H1,I1,r1,q1⟩=>chain_link (thn (hb pins s1 σ H1 _ I1 q1) fun u s2 ⟨y,H2,I2,r2,q2⟩ =>
    thn (ho pins s2 σ H2 x y v u _ I2 r1 r2 q2) fun d s3 ⟨z,H3,I3,r3,k,e,q3⟩=>?_)) hm
  subst e
  cases r3
  refine wpAny_truthy_bool ?_
  cases k with
  | false=>exact ite_ff ⟨.bl false,H3,I3,rfl,q3⟩
  | true=>exact ite_tt (chain_last (thn (hc pins s3 σ H3 _ I3 q3) fun w' s4 ⟨z',H4,I4,r4,q4⟩=>ho' pins s4 σ H4 y z' u w' Q I4 r2 r4 q4))
theorem jf {op op':CmpOp} {r r':R2} (ho:OpR X (compareOp op) r) (ho':OpR X (compareOp op') r') (ha:PE X a ta) (hb:PE X b tb) (hc:PE X c tc)
    (hm:lastMarks [op,op'] [b,c]=false:=by with_unfolding_all rfl):PT X (.Compare a [op,op'] [b,c] pos) (N5 (Dv r r' ta tb tc)):=by
  intro pins s σ H Q I h
  refine isTrue_chain (thn (ha pins s σ H _ I h) fun v s1 ⟨x,H1,I1,r1,q1⟩=>test_link (thn (hb pins s1 σ H1 _ I1 q1) fun u s2 ⟨y,H2,I2,r2,q2⟩ =>
    thn (ho pins s2 σ H2 x y v u _ I2 r1 r2 q2) fun d s3 ⟨z,H3,I3,r3,k,e,q3⟩=>?_)) hm
  subst e
  cases r3
  refine wpAny_truthy_bool ?_
  cases k with
  | false =>
    obtain ⟨k',e',q'⟩:=q3
    cases e'
    exact ite_ff ⟨H3,I3,q'⟩
  | true =>
    refine ite_tt (test_last (thn (hc pins s3 σ H3 _ I3 q3) fun w' s4 ⟨z',H4,I4,r4,q4⟩=>thn (ho' pins s4 σ H4 y z' u w' _ I4 r2 r4 q4) fun d' s5 ⟨z2,H5,I5,r5,k2,e2,q5⟩=>?_))
    subst e2
    cases r5
    exact wpAny_truthy_bool ⟨H5,I5,q5⟩
theorem rD:(sizeLine:Nat)<2 ^ 63:=by rw [sizeLine_eq];decide
theorem pB:OpR X (binaryOp .Add) (fun x y H Q=>∃ i j,x=.str i∧y=.str j∧i.length + j.length≤sizeLine∧Q (.str (i++j)) H):=by
  intro pins s σ H x y v u Q I rx ry h
  obtain ⟨i,j,rfl,rfl,hz,q⟩:=h
  obtain ⟨t,rfl⟩:=rx
  obtain ⟨t',rfl⟩:=ry
  exact add_str (fun t' tk=>⟨.str (i++j),H,I.tok _,⟨_,rfl⟩,q⟩) hz
def Ds (b:Expr):Prop:=∀ o i,subscripted b false o i=operate [o,i] (getItem o i)
theorem nQ (ha:PE X a ta) (hb:PE X b tb) (hs:Ds b) :
    PE X (.Subscript a b pos) (tOp (fun x y H Q=>∃ z i c,x=.str z∧y=.int i∧0≤i∧i<2 ^ 63∧i<z.length∧z.cps[i.toNat]?=some c∧Q (.str ⟨#[c]⟩) H) ta tb):=by
  intro pins s σ H Q I h
  refine Subscript_ (Wi ha hb I h fun v u s2 x y H2 I2 rx ry q=>?_)
  obtain ⟨z,i,c,rfl,rfl,h0,h63,h1,hc,q⟩:=q
  obtain ⟨t,rfl⟩:=rx
  obtain ⟨t',rfl⟩:=ry
  have e:seqIndex? i z.length=some i.toNat:=PySem.StrLaws.seqIndex_nonneg h0 h1
  exact tail_any (typeIs_str s2 z t) slot_str_getitem.lookup (getItem_str (c:=c) (by
    have e1:decide (i < -(2 ^ 63:Int))=false:=decide_eq_false (by omega)
    have e2:decide (i ≥ 2 ^ 63)=false:=decide_eq_false (by omega)
    rw [e1,e2] <;> rfl) (by rw [e];exact hc) ⟨.str ⟨#[c]⟩,H2,I2.tok _,⟨_,rfl⟩,q⟩) (hs _ _)
theorem vals1 {x:V} {us:List Value} (r:Vals [x] us):∃ u,us=[u]∧RelV x u:=by
  cases r with
  | cons r1 r2=>cases r2;exact ⟨_,rfl,r1⟩
theorem vals2 {x y:V} {us:List Value} (r:Vals [x,y] us):∃ u w',us=[u,w']∧RelV x u∧RelV y w':=by
  cases r with
  | cons r1 r2 =>
    cases r2 with
    | cons r3 r4=>cases r4;exact ⟨_,_,rfl,r1,r3⟩
theorem Bm (hc:X.calm=true):oO X (.builtin "min") (fun xs H Q=>∃ i j,xs=[.int i,.int j]∧Q (.int (if j<i then j else i)) H):=by
  intro pins s σ H xs us Q I r h
  obtain ⟨i,j,rfl,q⟩:=h
  obtain ⟨u,w',rfl,⟨t,rfl⟩,⟨t',rfl⟩⟩:=vals2 r
  refine min_two_ints (I.ok.hd hc) fun h' tk k=>⟨_,H,I.kept k,?_,q⟩
  by_cases hj:j<i
  · rw [if_pos hj,if_pos hj];exact ⟨_,rfl⟩
  · rw [if_neg hj,if_neg hj];exact ⟨_,rfl⟩
theorem lM:oO X (.type "int") (fun xs H Q=>(∃ i,xs=[.int i]∧Q (.int i) H)∨∃ k,xs=[.bl k]∧Q (.int (if k then 1 else 0)) H):=by
  intro pins s σ H xs us Q I r h
  rcases h with ⟨i,rfl,q⟩ | ⟨k,rfl,q⟩
  · obtain ⟨u,rfl,t,rfl⟩:=vals1 r
    exact call_int_int ⟨.int i,H,I,⟨_,rfl⟩,q⟩
  · obtain ⟨u,rfl,r1⟩:=vals1 r
    cases r1
    exact call_int_bool ⟨.int (if k then 1 else 0),H,I.tok _,⟨_,rfl⟩,q⟩
end
end L2
namespace L2
open PySem PySem.Spec PyProof.Rows
structure Qs (h:Heap) (x dx C:Addr) (mA:Str→Option Value):Prop where
  obj:h.get? x=some (PySem.W.instObj C dx)
  ns:h.Ns1 dx mA
  ne:dx≠x
theorem xG {h:Heap} {dx:Addr} {mA:Str→Option Value} (n:h.Ns1 dx mA):∃ od,h.get? dx=some od∧∀ name,PySem.W.lookIn name od=some (mA name):=by
  obtain ⟨o,es,ep,ho,hd,hk,_,hm⟩:=n
  refine ⟨o,ho,fun name=>?_⟩
  have e:=hm name
  unfold nsFind findBy at e
  rw [← Array.find?_toList] at e
  unfold PySem.W.lookIn
  rw [hd]
  dsimp only
  split
  · rename_i y q
    rw [q] at e
    exact congrArg some e
  · rename_i q
    rw [q] at e
    have a:es.toList.any (·.refKey)=false:=by
      rw [List.any_eq_false]
      intro y hy
      obtain ⟨z,t,hkey⟩:=hk y (Array.mem_toList_iff.mp hy)
      simp [DictEntry.refKey,hkey]
    have a':¬ es.toList.any (·.refKey)=true:=by rw [a];exact Bool.false_ne_true
    rw [if_neg a']
    exact congrArg some e
theorem Qs.look {h:Heap} {x dx C:Addr} {mA:Str→Option Value} (I:Qs h x dx C mA):∃ od,PySem.W.InstAt h x (PySem.W.instObj C dx) C (some od)∧∀ name,PySem.W.lookIn name od=some (mA name) :=
  let ⟨od,ho,hl⟩:=xG I.ns
  ⟨od,⟨I.obj,rfl,rfl,ho⟩,hl⟩
section
variable {prog:Program} {w:World} {A:Around} {E:Value→Shared→Prop} {s:Shared} {K:PySem.W.Frag} {x dx C f:Addr} {mA:Str→Option Value} {name:Str} {v:Value}
theorem get_map {expr:Bool} {Q:Value→Shared→Prop} (X:K.In s.heap) (I:Qs s.heap x dx C mA) (hg:PySem.W.plainGet K C name=true) (hh:PySem.W.hasDictIn K C=true)
    (ha:PySem.W.findIn K (.ref C) name=some none) (hv:mA name=some v) (hv':PySem.W.handedIn v=true) (h:Q v { s with toks:=s.toks + 1 }) :
    wpAny (model prog w) A (getAttr (.ref x) name expr) Q E s:=by
  obtain ⟨od,J,hl⟩:=I.look
  exact PySem.W.get_value X J (PySem.W.plainGet_of hg).1 (PySem.W.findObj_own hh ha rfl (by rw [hl,hv])) hv' h
theorem Di {pl:Sem Bool} {Q:Value × List Value→Shared→Prop} (X:K.In s.heap) (I:Qs s.heap x dx C mA) (hg:PySem.W.plainGet K C name=true)
    (hf:PySem.W.findIn K (.ref C) name=some (some (.ref f))) (ht:PySem.W.isFn K (.ref f)=true) (hv:mA name=none) (h:Q (.ref f,[.ref x]) s) :
    wpAny (model prog w) A (getMethod (.ref x) name pl) Q E s:=by
  obtain ⟨od,J,hl⟩:=I.look
  exact PySem.W.method_fn X J (PySem.W.plainGet_of hg).1 (PySem.W.plainGet_of hg).2 hf (beq_iff_eq.mp ht) (by show (PySem.W.lookIn name od).map (·.isSome)=some false;rw [hl,hv];rfl) h
theorem Oc {ns:List Str} {Q:Unit→Shared→Prop} (X:K.In s.heap) (I:Qs s.heap x dx C mA)
    (hs:PySem.W.findIn K (.ref C) "__setattr__"=some (some (.builtin "object.__setattr__"))) (hp:PySem.W.plainOver K C=true) (ht:PySem.W.takerIn K C name=some none) (hh:PySem.W.hasDictIn K C=true)
    (hw:PySem.Within mA ns) (hsz:ns.length≤sizeLine)
    (h:∀ h',Qs h' x dx C (fun y=>if y=name then some v else mA y)→Heap.SameBut dx s.heap h'→Q () { s with heap:=h',toks:=s.toks + 2 }) :
    wpAny (model prog w) A (setAttr (.ref x) name v) Q E s:=by
  obtain ⟨od,J,hl⟩:=I.look
  refine PySem.W.set_plain X J hs (PySem.W.osa_open (s:={ s with toks:=s.toks + 1 }) (r:=none) X J hp ht fun b=>?_)
  obtain ⟨cd,hc,hd'⟩:=PySem.W.any_some hh
  have hx:s.heap.get? x=some ⟨.ref C,some dx,.plain,#[]⟩:=I.obj
  refine wpAny_bind (wpAny_pure (wpAny_bind (wpAny_bind (wpAny_loadPart hx (wpAny_bind (PySem.W.Looks.here (s:={ s with toks:=s.toks + 1 }) (PySem.W.looks_clsIn X hc) ?_))))))
  rw [hd']
  refine wpAny_pure (a:=some dx) (wpAny_bind (wpAny_pure (wpAny_bind ?_)))
  refine wpAny_nsSet1 (s:={ s with toks:=s.toks + 1 }) I.ns fun h' hn2 hs2=>?_
  obtain ⟨oD,esD,epD,hoD,hdD,hcD⟩:=hn2.count (PySem.Within.cons name v hw)
  refine wpAny_bind (wpAny_lookBehind hoD (by rw [hdD];exact pastItsLine_dict (Nat.le_trans hcD (by rw [List.length_cons];omega))) ?_)
  exact wpAny_pure (h _ ⟨(hs2.2 _ (Ne.symm I.ne)).trans I.obj,hn2,I.ne⟩ hs2)
theorem CP {R:Result→Shared→Prop} {vs:List Value} {kw:List (Str × Value)} (X:K.In s.heap) (hm:PySem.W.makesIn K C=true)
    (hi:PySem.W.findIn K (.ref C) "__init__"=some (some (.ref f))) (hf:PySem.W.typeIn K (.ref f)=some (.type "function"))
    (h:codeAny (model prog w) (A.under (.builtin "type.__call__" ⟨.ref C :: vs,kw⟩)) (.call (.ref f) ⟨.ref (s.heap.objs.size + 1) :: vs,kw⟩) (PySem.W.InitBack (s.heap.objs.size + 1) R)
      { s with heap:=(s.heap.push PySem.W.emptyDict).push (PySem.W.instObj C s.heap.objs.size) }) :
    codeAny (model prog w) A (.call (.ref C) ⟨vs,kw⟩) R s:=by
  obtain ⟨hh,g,d,t,os⟩:=s
  exact PySem.W.make_core (PySem.W.makes_of X hm) (PySem.W.looks_findIn X hi) (fun self=>PySem.W.bind_fn X self hf) (.inl rfl) h
end
def qw (f:Str) (v:V):List (Str × V)→List (Str × V)
  | []=>[(f,v)]
  | (g,x) :: r=>if g=f then (g,v) :: r else (g,x) :: qw f v r
theorem nT (f g:Str) (v:V):∀ fs:List (Str × V),(qw f v fs).lookup g=if g=f then some v else fs.lookup g
  | []=>by
    show List.lookup g [(f,v)]=_
    by_cases h:g=f
    · have hb:(g == f)=true:=beq_iff_eq.mpr h
      simp only [List.lookup,hb,if_pos h]
    · have hb:(g == f)=false:=beq_eq_false_iff_ne.mpr h
      simp only [List.lookup,hb,if_neg h]
  | (k,x) :: r=>by
    have ih:=nT f g v r
    rw [show qw f v ((k,x) :: r)=(if k=f then (k,v) :: r else (k,x) :: qw f v r) from rfl]
    by_cases hk:k=f
    · rw [if_pos hk]
      by_cases h:g=k
      · have hb:(g == k)=true:=beq_iff_eq.mpr h
        simp only [List.lookup,hb,if_pos (h.trans hk)]
      · have hb:(g == k)=false:=beq_eq_false_iff_ne.mpr h
        simp only [List.lookup,hb,if_neg (fun e:g=f=>h (e.trans hk.symm))]
    · rw [if_neg hk]
      by_cases h:g=k
      · have hb:(g == k)=true:=beq_iff_eq.mpr h
        simp only [List.lookup,hb,if_neg (fun e:g=f=>hk (h.symm.trans e))]
      · have hb:(g == k)=false:=beq_eq_false_iff_ne.mpr h
        simp only [List.lookup,hb]
        exact ih
theorem nY (f:Str) (v:V):∀ fs:List (Str × V),f∈(qw f v fs).map (·.1)∧∀ g,g∈fs.map (·.1)→g∈(qw f v fs).map (·.1)
  | []=>⟨by simp [qw],fun g h=>by simp at h⟩
  | (k,x) :: r=>by
    obtain ⟨i1,i2⟩:=nY f v r
    rw [show qw f v ((k,x) :: r)=(if k=f then (k,v) :: r else (k,x) :: qw f v r) from rfl]
    by_cases hk:k=f
    · rw [if_pos hk]
      subst hk
      exact ⟨by simp,fun g h=>by simpa using h⟩
    · rw [if_neg hk]
      refine ⟨?_,fun g h=>?_⟩
      · rw [List.map_cons]
        exact List.mem_cons_of_mem _ i1
      · rw [List.map_cons] at h ⊢
        rcases List.mem_cons.mp h with e | e
        · exact List.mem_cons.mpr (.inl e)
        · exact List.mem_cons_of_mem _ (i2 g e)
theorem nU (f:Str) (v:V):∀ fs:List (Str × V),(qw f v fs).length≤fs.length + 1
  | []=>by simp [qw]
  | (k,x) :: r=>by
    have ih:=nU f v r
    rw [show qw f v ((k,x) :: r)=(if k=f then (k,v) :: r else (k,x) :: qw f v r) from rfl]
    by_cases hk:k=f
    · rw [if_pos hk,List.length_cons,List.length_cons];omega
    · rw [if_neg hk,List.length_cons,List.length_cons];omega
theorem Bu.some_of {v:V} {o:Option Value} (r:Bu (some v) o):∃ u,o=some u∧RelV v u:=by
  cases o with
  | none=>exact (show False from r).elim
  | some u=>exact ⟨u,rfl,r⟩
theorem Bu.none_of {o:Option Value} (r:Bu none o):o=none:=by
  cases o with
  | none=>rfl
  | some u=>exact (show False from r).elim
theorem Aw {v:V} {u:Value} (r:RelV v u):PySem.W.handedIn u=true:=by
  cases v with
  | non=>cases (show u=Value.none from r);rfl
  | bl b=>cases (show u=Value.bool b from r);rfl
  | int i=>obtain ⟨t,e⟩:=(show ∃ t,u=Value.int i t from r);cases e;rfl
  | str x=>obtain ⟨t,e⟩:=(show ∃ t,u=Value.str x t from r);cases e;rfl
  | byt b=>obtain ⟨t,e⟩:=(show ∃ t,u=Value.bytes b t from r);cases e;rfl
  | flt b=>obtain ⟨t,e⟩:=(show ∃ t,u=Value.float b t from r);cases e;rfl
  | ref a=>cases (show u=Value.ref a from r);rfl
  | ty n=>cases (show u=Value.type n from r);rfl
section
variable {P:Program} {w:World} {H H':Hp} {h h':Heap} {a C dx:Addr} {fs fs':List (Str × V)}
theorem tQ (hok:HOk P w H h) (e:H a=some (.ins C dx fs)):∃ mA,Qs h a dx C mA∧(∀ f,Bu (fs.lookup f) (mA f))∧PySem.Within mA (fs.map (·.1))∧fs.length≤1000∧H dx=some (.own a):=by
  obtain ⟨d,z,ne,ob,mA,n,r,q⟩:=(show jk P w H h a (.ins C dx fs) from hok a _ e)
  exact ⟨mA,⟨ob,n,ne⟩,r,q,z,d⟩
end
structure Cls (K:PySem.W.Frag) (C:Addr):Prop where
  pg:PySem.W.plainGet K C Str.empty=true
  hd:PySem.W.hasDictIn K C=true
  po:PySem.W.plainOver K C=true
  sa:PySem.W.findIn K (.ref C) "__setattr__"=some (some (.builtin "object.__setattr__"))
theorem Cls.get {K:PySem.W.Frag} {C:Addr} (c:Cls K C) (f:Str):PySem.W.plainGet K C f=true:=c.pg
def ju (K:PySem.W.Frag) (C:Addr) (f:Str):Prop:=PySem.W.findIn K (.ref C) f=some none
theorem ju.taker {K:PySem.W.Frag} {C:Addr} {f:Str} (n:ju K C f):PySem.W.takerIn K C f=some none:=by
  unfold PySem.W.takerIn
  rw [show PySem.W.findIn K (.ref C) f=some none from n]
  rfl
structure Meth (K:PySem.W.Frag) (C:Addr) (m:Str) (f:Addr):Prop where
  at_:PySem.W.findIn K (.ref C) m=some (some (.ref f))
  fn:PySem.W.isFn K (.ref f)=true
  kp:PySem.W.keepIn K (.ref f)=true
section
variable {X:Cx} {pins:List (Addr × Obj)} {σ:St} {H:Hp} {s:Shared} {a C dx:Addr} {fs:List (Str × V)} {f:Str} {v:V} {A:Around} {E:Value→Shared→Prop}
theorem pG {b:Bool} {Q:Value→Shared→Prop} (I:Inv X pins σ H s) (e:H a=some (.ins C dx fs)) (c:Cls X.K C) (n:ju X.K C f) (l:fs.lookup f=some v)
    (h:∀ u s',Inv X pins σ H s'→RelV v u→Q u s'):wpAny (model X.prog X.w) A (getAttr (.ref a) f b) Q E s:=by
  obtain ⟨mA,O,r,_,_,_⟩:=tQ I.hok e
  obtain ⟨u,hu,ru⟩:=Bu.some_of (v:=v) (o:=mA f) (by rw [← l];exact r f)
  exact get_map I.kIn O (c.get f) c.hd n hu (Aw ru) (h u _ (I.tok _) ru)
theorem pF {m:Str} {g:Addr} {pl:Sem Bool} {Q:Value × List Value→Shared→Prop} (I:Inv X pins σ H s) (e:H a=some (.ins C dx fs)) (c:Cls X.K C) (k:Meth X.K C m g) (l:fs.lookup m=none)
    (h:Q (.ref g,[.ref a]) s):wpAny (model X.prog X.w) A (getMethod (.ref a) m pl) Q E s:=by
  obtain ⟨mA,O,r,_,_,_⟩:=tQ I.hok e
  have hn:mA m=none:=Bu.none_of (by rw [← l];exact r m)
  exact Di I.kIn O (c.get m) k.at_ k.fn hn h
theorem o8 {y:V} {u:Value} {Q:Unit→Shared→Prop} (I:Inv X pins σ H s) (e:H a=some (.ins C dx fs)) (c:Cls X.K C) (n:ju X.K C f) (hl:fs.length<1000) (ry:RelV y u)
    (h:∀ s',Inv X pins σ (upd H a (.ins C dx (qw f y fs))) s'→Q () s'):wpAny (model X.prog X.w) A (setAttr (.ref a) f u) Q E s:=by
  obtain ⟨mA,O,r,wi,_,ho⟩:=tQ I.hok e
  have hz:(fs.map (·.1)).length≤sizeLine:=by rw [List.length_map,sizeLine_eq];omega
  refine Oc I.kIn O c.sa c.po n.taker c.hd wi hz fun h' O' sb=>h _ ?_
  have hd:∃ o,h'.get? dx=some o:=let ⟨o,_,_,e',_⟩:=O'.ns;⟨o,e'⟩
  refine I.write (x:=a) (e:=dx) (by rw [e];exact True.intro) (.inr ho) (fun b q hb z=>(sb.2 b hb).trans z) hd ?_
  refine ⟨by rw [bC O.ne];exact ho,?_,O.ne,O'.obj,_,O'.ns,fun g=>?_,fun g hg=>?_⟩
  · have:=nU f y fs;omega
  · show Bu ((qw f y fs).lookup g) (if g=f then some u else mA g)
    rw [nT]
    by_cases q:g=f
    · rw [if_pos q,if_pos q];exact ry
    · rw [if_neg q,if_neg q];exact r g
  · by_cases q:g=f
    · rw [q];exact (nY f y fs).1
    · refine (nY f y fs).2 g (wi g fun z=>hg ?_)
      show (if g=f then some u else mA g)=none
      rw [if_neg q];exact z
theorem Inv.made (I:Inv X pins σ H s):Inv X pins σ (upd (upd H s.heap.objs.size (.own (s.heap.objs.size + 1))) (s.heap.objs.size + 1) (.ins C s.heap.objs.size []))
    { s with heap:=(s.heap.push PySem.W.emptyDict).push (PySem.W.instObj C s.heap.objs.size) }:=by
  have e1:(s.heap.push PySem.W.emptyDict).get? s.heap.objs.size=some PySem.W.emptyDict:=Heap.get?_push_size s.heap rfl
  have e2:((s.heap.push PySem.W.emptyDict).push (PySem.W.instObj C s.heap.objs.size)).get? (s.heap.objs.size + 1)=some (PySem.W.instObj C s.heap.objs.size):=by
    have:=Heap.get?_push_size (s.heap.push PySem.W.emptyDict) (o:=PySem.W.instObj C s.heap.objs.size) rfl
    rwa [Heap.size_push] at this
  have e3:(s.heap.push PySem.W.emptyDict).Ns s.heap.objs.size (fun _=>none):=⟨PySem.W.emptyDict,#[],_,e1,rfl,(fun e he=>absurd he (by simp)),fun _=>rfl⟩
  have I1:=I.laid (a:=s.heap.objs.size) (o:=.own (s.heap.objs.size + 1)) (h':=s.heap.push PySem.W.emptyDict) (t':=s.toks) (fun b u q=>Heap.get?_push_of_some _ q) (Nat.le_refl _) ⟨_,e1⟩
  refine I1.laid (a:=s.heap.objs.size + 1) (o:=.ins C s.heap.objs.size []) (t':=s.toks) (fun b u q=>Heap.get?_push_of_some _ q) (Nat.le_of_eq (Heap.size_push _ _)) ?_
  have ne:s.heap.objs.size≠s.heap.objs.size + 1:=Nat.ne_of_lt (Nat.lt_succ_self _)
  refine ⟨by rw [bC ne,cG],Nat.zero_le _,ne,e2,fun _=>none,(Heap.Ns1.of_empty e3).at fun o q=>Heap.get?_push_of_some _ q,fun _=>True.intro,fun y hy=>absurd rfl hy⟩
theorem Qp {prog:Program} {w:World} {env:Env} {e:Expr} {f:Str} {pos:Pos} {s:Shared} {Q:Value→Shared→Prop} (hb:attributeBase e f env (eval e env)=eval e env)
    (h:wpAny (model prog w) A (eval e env) (fun o s₁=>wpAny (model prog w) A (getAttr o f true) Q E s₁) E s):wpAny (model prog w) A (eval (.Attribute e f pos) env) Q E s :=
  Attribute_any_ h (by rw [arm_eval_Attribute,hb])
end
def tFld (K:PySem.W.Frag) (ta:TE) (f:Str):TE:=fun σ H Q=>ta σ H fun x H1=>∃ a C dx fs v,x=.ref a∧H1 a=some (.ins C dx fs)∧Cls K C∧ju K C f∧fs.lookup f=some v∧Q v H1
def sFld (K:PySem.W.Frag) (ta tv:TE) (f:Str):TS:=fun D σ H=>tv σ H fun y H1=>ta σ H1 fun x H2=>∃ a C dx fs,x=.ref a∧H2 a=some (.ins C dx fs)∧Cls K C∧ju K C f∧fs.length<1000 ∧
  D.nx σ (upd H2 a (.ins C dx (qw f y fs)))
def Xq (X:Cx) (op:Operator) (rd:V→V→Hp→VK→Prop):Prop :=
  ∀ (pins:List (Addr × Obj)) (s:Shared) (σ:St) (H:Hp) (x y:V) (u v:Value) (Q:VK),Inv X pins σ H s→RelV x u→RelV y v→rd x y H Q→wpAny (model X.prog X.w) X.A (inplaceOp op u v) (EP X pins σ Q) X.xe s
def Oe (K:PySem.W.Frag) (ta tv:TE) (rd:V→V→Hp→VK→Prop) (f:Str):TS:=fun D σ H=>ta σ H fun x H1=>∃ a C dx fs v,x=.ref a∧H1 a=some (.ins C dx fs)∧Cls K C∧ju K C f∧fs.lookup f=some v ∧
  tv σ H1 fun y H2=>rd v y H2 fun z H3=>∃ dx' fs',H3 a=some (.ins C dx' fs')∧fs'.length<1000∧D.nx σ (upd H3 a (.ins C dx' (qw f z fs')))
section
variable {X:Cx} {o e value:Expr} {f:Str} {pos pos' tpos:Pos} {ta tv:TE}
theorem cC (he:PE X e ta) (hb:attributeBase e f X.env (eval e X.env)=eval e X.env):PE X (.Attribute e f pos) (tFld X.K ta f):=by
  intro pins s σ H Q I h
  refine Qp hb (thn (he pins s σ H _ I h) fun u s1 ⟨x,H1,I1,rx,a,C,dx,fs,v,ex,ea,c,n,l,q⟩=>?_)
  subst ex
  obtain rfl:u=Value.ref a:=rx
  exact pG I1 ea c n l fun u' s2 I2 ru=>⟨v,H1,I2,ru,q⟩
theorem qU (ha:PE X o ta) (hv:PE X value tv) (hs:swapsWith value (some (.Attribute o f pos')) pos.line X.env=pure false):PS X (.Assign [.Attribute o f pos'] value pos) (sFld X.K ta tv f):=by
  intro pins s σ H D I h
  refine plainObj_wpAny_Assign_Attribute (thn (hv pins s σ H _ I h) fun u s1 ⟨y,H1,I1,ry,q⟩=>thn (ha pins s1 σ H1 _ I1 q) fun ov s2 ⟨x,H2,I2,rx,a,C,dx,fs,ex,ea,c,n,l,q2⟩=>?_) hs
  subst ex
  obtain rfl:ov=Value.ref a:=rx
  exact o8 I2 ea c n l ry fun s3 I3=>⟨σ,_,I3,q2⟩
theorem wJ {op:Operator} {rd:V→V→Hp→VK→Prop} (ha:PE X o ta) (hv:PE X value tv) (hop:Xq X op rd):PS X (.AugAssign (.Attribute o f tpos) op value pos) (Oe X.K ta tv rd f):=by
  intro pins s σ H D I h
  refine wpAny_AugAssign_AttributeAny (thn (ha pins s σ H _ I h) fun ov s1 ⟨x,H1,I1,rx,a,C,dx,fs,v,ex,ea,c,n,l,q⟩=>?_)
  subst ex
  obtain rfl:ov=Value.ref a:=rx
  refine pG I1 ea c n l fun u s2 I2 ru=>thn (hv pins s2 σ H1 _ I2 q) fun w3 s3 ⟨y,H2,I3,ry,q3⟩=>thn (hop pins s3 σ H2 v y u w3 _ I3 ru ry q3) fun w4 s4 ⟨z,H3,I4,rz,dx',fs',ea',l',q4⟩=>?_
  exact o8 I4 ea' c n l' rz fun s5 I5=>⟨σ,_,I5,q4⟩
def rAdd:V→V→Hp→VK→Prop:=fun x y H Q=>∃ i j,x=.int i∧y=.int j∧Q (.int (i + j)) H
theorem Rx:Xq X .Add rAdd:=by
  rintro pins s σ H x y u v Q I rx ry ⟨i,j,rfl,rfl,q⟩
  obtain ⟨t,rfl⟩:=(show ∃ t,u=Value.int i t from rx)
  obtain ⟨t',rfl⟩:=(show ∃ t',v=Value.int j t' from ry)
  exact PyProof.Rows.iadd_int ⟨.int (i + j),H,I.tok _,⟨_,rfl⟩,q⟩
end
end L2
namespace L2
open PySem PySem.Spec PyProof.Rows
structure lZ (k:Nat) (A:Around):Prop where
  hd:A.handled=none
  dp:A.depth + 3 * k + 5<recursionLimit
  un:A.units + 16 * k + 200<cLine
theorem lZ.mono {j k:Nat} {A:Around} (r:lZ k A) (h:j≤k):lZ j A:=⟨r.hd,by have:=r.dp;omega,by have:=r.un;omega⟩
theorem lZ.deeper {k:Nat} {A:Around} (r:lZ (k + 1) A) (env:Env):lZ k (A.deeper env) :=
  ⟨r.hd,by have:=r.dp;show A.depth + 1 + 3 * k + 5<_;omega,by have:=r.un;show A.units + 3 + 16 * k + 200<_;omega⟩
theorem vH {A:Around} {C:Addr} {us:List Value} {kw:List (Str × Value)}:(A.under (.builtin "type.__call__" ⟨.ref C :: us,kw⟩)).depth=A.depth + 1:=by
  first | rfl | simp [Around.under,Code.weight,Code.isCreation,Code.isGuard,Code.isCaller,Code.frames,Code.isFrame,guardIds]
theorem vG {A:Around} {C:Addr} {us:List Value} {kw:List (Str × Value)}:(A.under (.builtin "type.__call__" ⟨.ref C :: us,kw⟩)).units=A.units + 1:=by
  first | rfl | simp [Around.under,Code.cUnits,Code.frames,Code.isFrame]
theorem lZ.make {k:Nat} {A:Around} (r:lZ (k + 1) A) (C:Addr) (us:List Value) (kw:List (Str × Value)):lZ k (A.under (.builtin "type.__call__" ⟨.ref C :: us,kw⟩)) :=
  ⟨r.hd,by have:=r.dp;rw [vH];omega,by have:=r.un;rw [vG];omega⟩
theorem lZ.depth {k:Nat} {A:Around} (r:lZ k A):A.depth<recursionLimit:=by have:=r.dp;omega
theorem lZ.units {k:Nat} {A:Around} (r:lZ k A):A.units + 64<cLine:=by have:=r.un;omega
def Ws:TA:=fun _ H Q=>Q [] H
def Wv (ta:TE) (tr:TA):TA:=fun σ H Q=>ta σ H fun x H1=>tr σ H1 fun xs H2=>Q (x :: xs) H2
section
variable {X:Cx} {e:Expr} {es:List Expr} {te:TE} {t:TA} {pos:Pos}
theorem aq:PA X [] Ws:=fun _ _ _ _ H Q I h=>Calls.spliced_nil ⟨[],H,I,.nil,h⟩
theorem aj (ha:PE X e te) (hr:PA X es t) (hs:starEach (e :: es) X.env=(false,eval e X.env) :: starEach es X.env:=by rfl):PA X (e :: es) (Wv te t):=by
  intro pos pins s σ H Q I h
  rw [hs]
  show wpAny _ _ (spliced ((false,eval e X.env) :: backTo pos (starEach es X.env))) _ _ s
  refine Calls.spliced_cons (thn (ha pins s σ H _ I h) fun u s1 ⟨x,H1,I1,r1,q1⟩=>?_)
  exact thn (hr pos pins s1 σ H1 _ I1 q1) fun us s2 ⟨xs,H2,I2,r2,q2⟩=>⟨x :: xs,H2,I2,.cons r1 r2,q2⟩
def tTup (t:TA):TE:=fun σ H Q=>t σ H fun xs H1=>xs.length≤sizeLine∧∀ p,H1 p=none→Q (.ref p) (upd H1 p (.tup xs))
def tLst (t:TA):TE:=fun σ H Q=>t σ H fun xs H1=>xs.length≤sizeLine∧∀ p,H1 p=none→Q (.ref p) (upd H1 p (.lst xs))
theorem fY {x1} (h:PA X es t):PE X (.Tuple es x1 pos) (tTup t):=by
  intro pins s σ H Q I hq
  refine wpAny_Tuple_spliced (thn (h pos pins s σ H _ I hq) fun us s1 ⟨xs,H1,I1,r,z,q⟩=>⟨by rw [← r.length];exact z,?_⟩)
  have hf:H1 s1.heap.objs.size=none:=I1.hok.fresh (Nat.le_refl _)
  refine ⟨.ref s1.heap.objs.size,upd H1 s1.heap.objs.size (.tup xs),I1.laid (t':=s1.toks) (fun b u e=>Heap.get?_push_of_some _ e) (Nat.le_refl _) ?_,rfl,q _ hf⟩
  exact ⟨z,us,r,⟨_,Heap.get?_push_size _ rfl,rfl,_,rfl⟩⟩
theorem bK (h:PA X es t):PE X (.List es pos) (tLst t):=by
  intro pins s σ H Q I hq
  refine wpAny_List_spliced (thn (h pos pins s σ H _ I hq) fun us s1 ⟨xs,H1,I1,r,z,q⟩=>⟨by rw [← r.length];exact z,?_⟩)
  have hf:H1 s1.heap.objs.size=none:=I1.hok.fresh (Nat.le_refl _)
  refine ⟨.ref s1.heap.objs.size,upd H1 s1.heap.objs.size (.lst xs),I1.laid (t':=s1.toks) (fun b u e=>Heap.get?_push_of_some _ e) (Nat.le_refl _) ?_,rfl,q _ hf⟩
  exact ⟨z,us,0,r,Heap.get?_push_size _ rfl⟩
end
abbrev Sp:=List V→Hp→VK→XK→Prop
abbrev CXT:=List Env→Hp→Shared→XK→Value→Shared→Prop
structure Qu (P:Program) (w:World) (K:PySem.W.Frag) (mg:Str→Option Value) (base:Heap) (A:Around) (outer:List Env) (s:Shared) (H:Hp):Prop where
  frames:A.frames=some outer
  mod:Mod K mg base
  bs:∀ b o,base.get? b=some o→s.heap.get? b=some o∧H b=none
  bsz:base.objs.size≤s.heap.objs.size
  uT:s.heap.FunFrames base outer
  frf:∀ b∈frs outer,H b=none
  hok:HOk P w H s.heap
  bare:AllBare s.gens
def CE (outer:List Env) (P:Program) (w:World) (H:Hp) (s:Shared) (Q:VK) (u:Value) (s':Shared):Prop :=
  ∃ v H',s'.os=s.os∧AllBare s'.gens∧Un (frs outer) [] H H' s.heap s'.heap∧HOk P w H' s'.heap∧RelV v u∧Q v H'
def CR (CX:CXT) (outer:List Env) (P:Program) (w:World) (H:Hp) (s:Shared) (Q:VK) (E:XK) (r:Result) (s':Shared):Prop :=
  match r with
  | .ok (.ret u)=>CE outer P w H s Q u s'
  | .ok _=>False
  | .error e=>CX outer H s E e s'
structure bN (P:Program) (w:World) (K:PySem.W.Frag) (mg:Str→Option Value) (base:Heap) (CX:CXT) (k:Nat) (f:Addr) (fd:FuncData) (ps:List Str) (sp:Sp):Prop where
  len:∀ vs H Q E,sp vs H Q E→vs.length=ps.length
  run:∀ (A:Around) (outer:List Env) (s:Shared) (H:Hp) (args:Args) (us:List Value) (vs:List V) (Q:VK) (E:XK),lZ k A→Qu P w K mg base A outer s H→BindsTo s fd args (ps.zip us)→Vals vs us→sp vs H Q E →
    codeAny (model P w) A (.call (.ref f) args) (CR CX outer P w H s Q E) s
theorem Qu.make {P:Program} {w:World} {K:PySem.W.Frag} {mg:Str→Option Value} {base:Heap} {A:Around} {outer:List Env} {s:Shared} {H:Hp} (e:Qu P w K mg base A outer s H) (C:Addr) (us:List Value) (kw:List (Str × Value)) :
    Qu P w K mg base (A.under (.builtin "type.__call__" ⟨.ref C :: us,kw⟩)) outer s H:=⟨by first | exact e.frames | (simpa [Around.under,Code.envs,Code.isFrame,pushEnvs] using e.frames),e.mod,e.bs,e.bsz,e.uT,e.frf,e.hok,e.bare⟩
section
variable {X:Cx} {pins:List (Addr × Obj)} {σ:St} {H:Hp} {s s':Shared}
theorem Inv.env0 (I:Inv X pins σ H s):Qu X.prog X.w X.K X.mg X.base X.A X.stack s H :=
  ⟨I.ok.frames,I.ok.mod,I.bs,Nat.le_trans I.ok.bsz I.sz,I.stack,I.sE,I.hok,I.bare⟩
theorem Inv.after {Q:VK} {u:Value} (I:Inv X pins σ H s) (h:CE X.stack X.prog X.w H s Q u s'):EP X pins σ Q u s':=by
  obtain ⟨v,H',os,bare,un,hok,r,q⟩:=h
  obtain ⟨hh,g,d,t,os'⟩:=s'
  obtain rfl:os'=s.os:=os
  exact ⟨v,H',I.call (h':=hh) (g':=g) (d':=d) (t':=t) (ch:=[]) un hok bare (fun b z=>absurd z (by simp)),r,q⟩
end
def Ww (sp:Sp) (dvs:List V) (E:XK) (t:TA):TE:=fun σ H Q=>t σ H fun vs H1=>sp (vs++dvs) H1 Q E
def N7 (C:Addr) (m:Str) (sp:Sp) (dvs:List V) (E:XK) (ta:TE) (t:TA):TE:=fun σ H Q=>ta σ H fun x H1=>∃ a dx fs,x=.ref a∧H1 a=some (.ins C dx fs)∧fs.lookup m=none ∧
  t σ H1 fun vs H2=>sp (x :: (vs++dvs)) H2 Q E
def Wu (C:Addr) (sp:Sp) (dvs:List V) (E:XK) (t:TA):TE:=fun σ H Q=>t σ H fun vs H1=>∀ x dx,H1 x=none→H1 dx=none→dx≠x →
  sp (.ref x :: (vs++dvs)) (upd (upd H1 dx (.own x)) x (.ins C dx [])) (fun v H2=>v=.non∧Q (.ref x) H2) E
def Binds (K:PySem.W.Frag) (fd:FuncData) (ps:List Str) (ds:List Value):Prop :=
  ∀ (s:Shared) (us:List Value),K.In s.heap→(us++ds).length=ps.length→BindsTo s fd ⟨us,[]⟩ (ps.zip (us++ds))
theorem Binds.all {K:PySem.W.Frag} {fd:FuncData} {ps:List Str} (h:∀ us:List Value,us.length=ps.length→bindArgs fd ⟨us,[]⟩=pure (ps.zip us)):Binds K fd ps []:=fun s us _ hl=>by
  rw [List.append_nil] at hl ⊢
  exact .of_eq (h us hl)
def Passes (CX:CXT) (X:Cx) (E:XK):Prop:=∀ (pins:List (Addr × Obj)) (σ:St) (H:Hp) (s:Shared) (e:Value) (s':Shared),Inv X pins σ H s→CX X.stack H s E e s'→X.xe e s'
section
variable {X:Cx} {CX:CXT} {k:Nat} {f C:Addr} {fd:FuncData} {ps:List Str} {sp:Sp} {dvs:List V} {ds:List Value} {E:XK} {x m:Str} {p pos apos:Pos} {e o:Expr} {es:List Expr} {ta:TE} {t:TA}
theorem wF {pins:List (Addr × Obj)} {σ:St} {H:Hp} {s:Shared} {Q:VK} {us:List Value} {vs:List V} (F:bN X.prog X.w X.K X.mg X.base CX k f fd ps sp) (hr:lZ k X.A) (hb:Binds X.K fd ps ds) (hd:Vals dvs ds) (hx:Passes CX X E)
    (I:Inv X pins σ H s) (r:Vals vs us) (h:sp (vs++dvs) H Q E):wpAny (model X.prog X.w) X.A (call (.ref f) us) (EP X pins σ Q) X.xe s:=by
  have r2:Vals (vs++dvs) (us++ds):=r.append hd
  have hl:(us++ds).length=ps.length:=by rw [← r2.length];exact F.len _ _ _ _ h
  refine wpAny_call (codeAny_mono (F.run X.A X.stack s H ⟨us,[]⟩ (us++ds) (vs++dvs) Q E hr I.env0 (hb s us I.kIn hl) r2 h) fun r s' hq=>?_)
  cases r with
  | error e=>exact hx pins σ H s e s' I hq
  | ok fl =>
    cases fl with
    | ret u=>exact I.after hq
    | next=>exact False.elim hq
    | brk=>exact False.elim hq
    | cont=>exact False.elim hq
theorem aZ (F:bN X.prog X.w X.K X.mg X.base CX k f fd ps sp) (hr:lZ k X.A) (hg:Gl X x) (hm:X.mg x=some (.ref f)) (hk:PySem.W.keepIn X.K (.ref f)=true) (hb:Binds X.K fd ps ds) (hd:Vals dvs ds) (hx:Passes CX X E)
    (ha:PA X (e :: es) t) (hdb:(x == ("__debug__":Str))=false:=by decide) (he:starEach (e :: es) X.env=(false,eval e X.env) :: starEach es X.env:=by rfl) (hpl:(backTo pos (starEach es X.env)).any (·.1)=false:=by rfl) :
    PE X (.Call (.Name x p) (e :: es) [] pos) (Ww sp dvs E t):=by
  intro pins s σ H Q I h
  refine wpAny_Call_Name_kw (lX I hg hm ?_ hdb)
  refine PySem.W.callWith_K (h₀:=X.base) I.ok.mod.kin hk (thn (ha pos pins s σ H _ I h) fun us s1 ⟨vs,H1,I1,r,q⟩=>⟨I1.kIn,?_⟩) he hpl
  exact wF F hr hb hd hx I1 r q
theorem eZ {pl:Sem Bool} (he:PE X o ta) (c:Cls X.K C) (hm:Meth X.K C m f) (F:bN X.prog X.w X.K X.mg X.base CX k f fd ps sp) (hr:lZ k X.A) (hb:Binds X.K fd ps ds) (hd:Vals dvs ds) (hx:Passes CX X E) (ha:PA X (e :: es) t)
    (hst:starEach (e :: es) X.env=(false,eval e X.env) :: starEach es X.env:=by rfl) (hpl:(backTo pos (starEach es X.env)).any (·.1)=false:=by rfl)
    (ht:eval (.Call (.Attribute o m apos) (e :: es) [] pos) X.env=(do
      let ov ← eval o X.env
      standAt apos.atName
      let (f,first) ← holding [ov] (getMethod ov m pl)
      callWith pos f first (backTo pos (starEach (e :: es) X.env)) (backToKw pos (keywordEach [] X.env))):=by rfl) :
    PE X (.Call (.Attribute o m apos) (e :: es) [] pos) (N7 C m sp dvs E ta t):=by
  intro pins s σ H Q I h
  refine PySem.W.methodCall_KW (pl:=pl) (thn (he pins s σ H _ I h) fun u s1 ⟨x,H1,I1,rx,a,dx,fs,ex,ea,l,q⟩=>?_) ht
  subst ex
  obtain rfl:u=Value.ref a:=rx
  refine pF I1 ea c hm l ?_
  refine PySem.W.callWith_K (first:=[.ref a]) (h₀:=X.base) I.ok.mod.kin hm.kp (thn (ha pos pins s1 σ H1 _ I1 q) fun us s2 ⟨vs,H2,I2,r,q2⟩=>⟨I2.kIn,?_⟩) hst hpl
  exact wF (us:=.ref a :: us) (vs:=.ref a :: vs) F hr hb hd hx I2 (.cons rfl r) q2
theorem jh {pl:Sem Bool} (he:PE X o ta) (c:Cls X.K C) (hm:Meth X.K C m f) (F:bN X.prog X.w X.K X.mg X.base CX k f fd ps sp) (hr:lZ k X.A) (hb:Binds X.K fd ps ds) (hd:Vals dvs ds) (hx:Passes CX X E)
    (ht:eval (.Call (.Attribute o m apos) [] [] pos) X.env=(do
      let ov ← eval o X.env
      standAt apos.atName
      let (f,first) ← holding [ov] (getMethod ov m pl)
      callWith pos f first (backTo pos (starEach [] X.env)) (backToKw pos (keywordEach [] X.env))):=by rfl) :
    PE X (.Call (.Attribute o m apos) [] [] pos) (N7 C m sp dvs E ta Ws):=by
  intro pins s σ H Q I h
  refine PySem.W.methodCall_KW (pl:=pl) (thn (he pins s σ H _ I h) fun u s1 ⟨x,H1,I1,rx,a,dx,fs,ex,ea,l,q⟩=>?_) ht
  subst ex
  obtain rfl:u=Value.ref a:=rx
  refine pF I1 ea c hm l ?_
  exact PySem.W.callWith_K0 (first:=[.ref a]) I1.kIn hm.kp (wF (us:=[.ref a]) (vs:=[.ref a]) F hr hb hd hx I1 (.cons rfl .nil) q)
structure Mk (K:PySem.W.Frag) (C f:Addr):Prop where
  makes:PySem.W.makesIn K C=true
  init:PySem.W.findIn K (.ref C) "__init__"=some (some (.ref f))
  fn:PySem.W.isFn K (.ref f)=true
  kp:PySem.W.keepIn K (.ref C)=true
theorem BX {pins:List (Addr × Obj)} {σ:St} {H:Hp} {s:Shared} {Q:VK} {us:List Value} {vs:List V} (M:Mk X.K C f) (F:bN X.prog X.w X.K X.mg X.base CX k f fd ps sp) (hr:lZ (k + 1) X.A) (hb:Binds X.K fd ps ds) (hd:Vals dvs ds)
    (hx:Passes CX X E) (I:Inv X pins σ H s) (r:Vals vs us)
    (h:∀ x dx,H x=none→H dx=none→dx≠x→sp (.ref x :: (vs++dvs)) (upd (upd H dx (.own x)) x (.ins C dx [])) (fun v H2=>v=.non∧Q (.ref x) H2) E) :
    wpAny (model X.prog X.w) X.A (call (.ref C) us) (EP X pins σ Q) X.xe s:=by
  have hq:=h (s.heap.objs.size + 1) s.heap.objs.size (I.hok.fresh (Nat.le_succ _)) (I.hok.fresh (Nat.le_refl _)) (Nat.ne_of_lt (Nat.lt_succ_self _))
  have I2:=Inv.made (C:=C) I
  have r2:Vals (V.ref (s.heap.objs.size + 1) :: (vs++dvs)) (Value.ref (s.heap.objs.size + 1) :: (us++ds)):=.cons rfl (r.append hd)
  have hl:(Value.ref (s.heap.objs.size + 1) :: us++ds).length=ps.length:=by
    have e:=r2.length
    rw [F.len _ _ _ _ hq] at e
    exact e.symm
  refine wpAny_call (CP (f:=f) I.kIn M.makes M.init (beq_iff_eq.mp M.fn) (codeAny_mono (F.run _ X.stack _ _ ⟨Value.ref (s.heap.objs.size + 1) :: us,[]⟩ (Value.ref (s.heap.objs.size + 1) :: (us++ds)) _ _ E (hr.make C us [])
    (I2.env0.make C us []) (hb _ (Value.ref (s.heap.objs.size + 1) :: us) I2.kIn hl) r2 hq) fun r s' hq'=>?_))
  cases r with
  | error e=>exact hx pins σ _ _ e s' I2 hq'
  | ok fl =>
    cases fl with
    | ret u =>
      obtain ⟨v,H',I3,rv,ev,q3⟩:=I2.after hq'
      subst ev
      exact ⟨rv,⟨V.ref (s.heap.objs.size + 1),H',I3,rfl,q3⟩⟩
    | next=>exact False.elim hq'
    | brk=>exact False.elim hq'
    | cont=>exact False.elim hq'
theorem Oj (M:Mk X.K C f) (F:bN X.prog X.w X.K X.mg X.base CX k f fd ps sp) (hr:lZ (k + 1) X.A) (hg:Gl X x) (hm:X.mg x=some (.ref C)) (hb:Binds X.K fd ps ds) (hd:Vals dvs ds) (hx:Passes CX X E)
    (ha:PA X (e :: es) t) (hdb:(x == ("__debug__":Str))=false:=by decide) (he:starEach (e :: es) X.env=(false,eval e X.env) :: starEach es X.env:=by rfl) (hpl:(backTo pos (starEach es X.env)).any (·.1)=false:=by rfl) :
    PE X (.Call (.Name x p) (e :: es) [] pos) (Wu C sp dvs E t):=by
  intro pins s σ H Q I h
  refine wpAny_Call_Name_kw (lX I hg hm ?_ hdb)
  refine PySem.W.callWith_K (h₀:=X.base) I.ok.mod.kin M.kp (thn (ha pos pins s σ H _ I h) fun us s1 ⟨vs,H1,I1,r,q⟩=>⟨I1.kIn,?_⟩) he hpl
  exact BX M F hr hb hd hx I1 r q
end
structure aQ (N P:List Str) (sc:Scope):Prop where
  kind:sc.kind=.function
  co:sc.isCoroutine=false
  gen:sc.isGenerator=false
  nd:N.Nodup
  pre:N.take P.length=P
  par:∀ x∈P,sc.names.lookup x=some .local∨sc.names.lookup x=some .cell
  nofree:∀ y∈sc.names,y.2≠.free
theorem rG {kindOf:Str→Option NameKind} {x:Str}:∀ {binds:List (Str × Value)} {m:Str→Option Value},(∀ v,(x,v) ∉ binds)→bindL kindOf binds m x=m x
  | [],_,_=>rfl
  | (n,v) :: r,m,h=>by
    unfold bindL
    rw [rG fun w hw=>h w (List.mem_cons_of_mem _ hw)]
    split
    · have:x≠n:=by rintro rfl;exact h v List.mem_cons_self
      simp [this]
    · rfl
theorem rK {kindOf:Str→Option NameKind} {x:Str}:∀ {binds:List (Str × Value)} {m:Str→Option Value},(∀ v,(x,v) ∉ binds)→bindC kindOf binds m x=m x
  | [],_,_=>rfl
  | (n,v) :: r,m,h=>by
    unfold bindC
    rw [rK fun w hw=>h w (List.mem_cons_of_mem _ hw)]
    split
    · rfl
    · have:x≠n:=by rintro rfl;exact h v List.mem_cons_self
      simp [this]
theorem rH {kindOf:Str→Option NameKind} {x:Str} {v:Value}:∀ {P:List Str} {vs:List Value} {i:Nat} {m:Str→Option Value},P.Nodup→P[i]?=some x→vs[i]?=some v→kindOf x=some .local →
    bindL kindOf (P.zip vs) m x=some v
  | [],_,_,_,_,h,_,_=>by simp at h
  | _ :: _,[],_,_,_,_,h,_=>by simp at h
  | p :: P,w :: vs,0,m,nd,h1,h2,hk=>by
    simp at h1 h2;subst h1;subst h2
    show bindL kindOf ((p,w) :: P.zip vs) m p=_
    unfold bindL
    rw [rG fun v hv=>(List.nodup_cons.mp nd).1 (List.of_mem_zip hv).1,if_pos hk]
    simp
  | p :: P,w :: vs,i + 1,m,nd,h1,h2,hk=>by
    show bindL kindOf ((p,w) :: P.zip vs) m x=_
    unfold bindL
    exact rH (i:=i) (List.nodup_cons.mp nd).2 (by simpa using h1) (by simpa using h2) hk
theorem rM {kindOf:Str→Option NameKind} {x:Str} {v:Value}:∀ {P:List Str} {vs:List Value} {i:Nat} {m:Str→Option Value},P.Nodup→P[i]?=some x→vs[i]?=some v→kindOf x≠some .local →
    bindC kindOf (P.zip vs) m x=some v
  | [],_,_,_,_,h,_,_=>by simp at h
  | _ :: _,[],_,_,_,_,h,_=>by simp at h
  | p :: P,w :: vs,0,m,nd,h1,h2,hk=>by
    simp at h1 h2;subst h1;subst h2
    show bindC kindOf ((p,w) :: P.zip vs) m p=_
    unfold bindC
    rw [rK fun v hv=>(List.nodup_cons.mp nd).1 (List.of_mem_zip hv).1,if_neg hk]
    simp
  | p :: P,w :: vs,i + 1,m,nd,h1,h2,hk=>by
    show bindC kindOf ((p,w) :: P.zip vs) m x=_
    unfold bindC
    exact rM (i:=i) (List.nodup_cons.mp nd).2 (by simpa using h1) (by simpa using h2) hk
def start (N:List Str) (vs:List V):St:=vs.map some++List.replicate (N.length - vs.length) none
def Bt (CX:CXT) (P:Program) (w:World) (K:PySem.W.Frag) (mg:Str→Option Value) (base:Heap) (N:List Str) (qual:Str) (scope:Scope) (f:Addr) (cd:Value) (A:Around) (outer:List Env) (s:Shared) (H:Hp) (E:XK):Cx where
  prog:=P
  w:=w
  K:=K
  mg:=mg
  base:=base
  A:=A.deeper (envOfC qual scope s.heap.objs.size f cd)
  N:=N
  s₀:=s
  H₀:=H
  env:=envOfC qual scope s.heap.objs.size f cd
  outer:=outer
  stack:=envOfC qual scope s.heap.objs.size f cd :: outer
  ex:=[]
  calm:=true
  fn:=fun _=>true
  pn:=[]
  xe:=fun e s'=>wpAny (model P w) (A.deeper (envOfC qual scope s.heap.objs.size f cd)) (leaving (envOfC qual scope s.heap.objs.size f cd) e) (fun _ s''=>CX outer H s E e s'') (fun e' s''=>CX outer H s E e' s'') s'
theorem u9 {sc:Scope} {n:Nat} {x:Str} (h:sc.names.lookup x=some .cell):∃ c,(cellsFrom n sc.names []).lookup x=some c:=by
  have q:=PySem.W.cellsFrom_some sc.names n [] (.inl h)
  exact Option.isSome_iff_exists.mp q
theorem xR {CX:CXT} {P:Program} {w:World} {K:PySem.W.Frag} {mg:Str→Option Value} {base:Heap} {N ps:List Str} {qual:Str} {scope:Scope} {f:Addr} {cd:Value} {A:Around} {outer:List Env} {s s1:Shared} {H:Hp} {E:XK} {us:List Value} {vs:List V}
    (S:aQ N ps scope) (hd:A.handled=none) (e0:Qu P w K mg base A outer s H) (hl:vs.length=ps.length) (r:Vals vs us)
    (x:InCallC s s.heap.objs.size (bindL (envOfC qual scope s.heap.objs.size f cd).kindOf (ps.zip us) fun _=>none) (cellsFrom (s.heap.objs.size + 1) scope.names []) (bindC (envOfC qual scope s.heap.objs.size f cd).kindOf (ps.zip us) fun _=>none) s1) :
    Inv (Bt CX P w K mg base N qual scope f cd A outer s H E) [] (start N vs) H s1:=by
  have hpl:ps.length≤N.length:=by have:=congrArg List.length S.pre;rw [List.length_take] at this;omega
  obtain ⟨h1,tk,rfl,hk⟩:=x.done
  have noA:∀ b:Addr,b ∉ (Bt CX P w K mg base N qual scope f cd A outer s H E).ex:=fun b z=>absurd (show b∈([]:List Addr) from z) (by simp)
  refine ⟨⟨e0.mod,S.kind,rfl,rfl,Nat.le_refl _,fun y z c h1 h2=>?_,fun y hy=>?_,fun y c _ h=>?_,fun _=>hd,Around.frames_deeper e0.frames,.inr ⟨rfl,rfl⟩,fun b z=>absurd z (noA b),e0.bs,e0.bsz,fun b _ _=>noA b,fun b z=>absurd z (noA b),e0.uT,e0.frf⟩,
    rfl,e0.bare,Un.kept hk,⟨_,x.toInCall.ns,fun i y v h1 h2 h3=>?_⟩,fun y c h=>⟨_,x.cell y c h⟩,e0.hok.fresh (Nat.le_refl _),fun y c h=>?_,fun p hp=>absurd (show p∈([]:List (Addr × Obj)) from hp) (by simp),e0.hok.kept hk,?_⟩
  · exact name_of_addr x.apart (PySem.mem_of_lookup h1) (PySem.mem_of_lookup h2)
  · have hy:scope.names.lookup y=some .cell∨scope.names.lookup y=some .free:=hy
    rcases hy with hy | hy
    · exact u9 hy
    · exact absurd rfl (S.nofree _ (PySem.mem_of_lookup hy))
  · exact Nat.le_of_lt (x.above y c (PySem.mem_of_lookup h))
  · have hi:i<vs.length:=by
      unfold start at h2
      by_cases hi:i<vs.length
      · exact hi
      · rw [List.getElem?_append_right (by simpa using hi)] at h2
        rw [List.getElem?_replicate] at h2
        split at h2 <;> cases h2
    have ha:vs[i]?=some v:=by
      unfold start at h2
      rw [List.getElem?_append_left (by simpa using hi),List.getElem?_map] at h2
      cases e:vs[i]? with
      | none=>rw [e] at h2;cases h2
      | some a=>rw [e] at h2;cases h2;rfl
    obtain ⟨u,hu,rv⟩:=r.get ha
    have hp:ps[i]?=some y:=by
      rw [← S.pre,List.getElem?_take_of_lt (by omega)];exact h1
    have ndP:ps.Nodup:=by rw [← S.pre];exact S.nd.sublist (List.take_sublist _ _)
    refine ⟨u,rv,?_⟩
    rcases S.par y (List.mem_of_getElem? hp) with k | k
    · exact .inl ⟨k,rH ndP hp hu k⟩
    · obtain ⟨c,e⟩:=u9 (n:=s.heap.objs.size + 1) k
      refine .inr ⟨.inl k,c,e,?_⟩
      have q:=x.cell y c e
      rw [rM ndP hp hu (by show scope.names.lookup y≠_;rw [k];decide)] at q
      exact q
  · exact e0.hok.fresh (Nat.le_of_lt (x.above y c (PySem.mem_of_lookup h)))
  · unfold start
    show _=N.length
    rw [List.length_append,List.length_map,List.length_replicate]
    omega
theorem Qi {CX:CXT} {P:Program} {w:World} {K:PySem.W.Frag} {mg:Str→Option Value} {base:Heap} {k:Nat} {f:Addr} {name qual:Str} {params:Arguments} {body:List Stmt} {scope:Scope} {dV kV doc pm cdv ct oc:Value} {an od:Option Addr}
    {osl:Array (Option Value)} {N ps:List Str} {sp:Sp} (lk:K.lookup f=some ⟨oc,od,.func (PySem.W.fnOf name qual params body scope dV kV doc pm an cdv ct),osl⟩) (hcd:PySem.W.codeIn K cdv qual=true) (S:aQ N ps scope)
    (len:∀ vs H Q E,sp vs H Q E→vs.length=ps.length)
    (hbody:∀ (A:Around) (outer:List Env) (s:Shared) (H:Hp) (vs:List V) (Q:VK) (E:XK),lZ k (A.deeper (envOfC qual scope s.heap.objs.size f cdv))→sp vs H Q E →
      ∃ t,PSs (Bt CX P w K mg base N qual scope f cdv A outer s H E) body t∧t { nx:=fun _ H'=>Q .non H',rt:=Q } (start N vs) H) :
    bN P w K mg base CX (k + 1) f (PySem.W.fnOf name qual params body scope dV kV doc pm an cdv ct) ps sp:=by
  refine ⟨len,fun A outer s H args us vs Q E hr e0 hb r hsp=>?_⟩
  have hl:=len _ _ _ _ hsp
  have KX:K.In s.heap:=e0.mod.kin.keeps fun b o e=>(e0.bs b o e).1
  have lim:s.heap.NoLimit:=e0.mod.nolimit.keeps fun b o e=>(e0.bs b o e).1
  have hkind:∀ y∈ps.zip us,scope.names.lookup y.1=some .local∨(scope.names.lookup y.1=some .cell∧((cellsFrom (s.heap.objs.size + 1) scope.names []).lookup y.1).isSome=true):=fun ⟨n,v⟩ hy=>by
    rcases S.par n (List.of_mem_zip hy).1 with q | q
    · exact .inl q
    · exact .inr ⟨q,PySem.W.cellsFrom_some _ _ _ (.inl q)⟩
  refine codeAny_call_function hr.depth (KX _ _ lk) rfl S.co S.gen rfl (PySem.W.codeRec_of KX hcd) (hb _ _ _ _ ?_)
  refine wpAny_newFunctionEnv_cells S.kind hkind fun env he s1 x=>?_
  subst he
  refine ⟨lim.keeps x.toInCall.keep,codeAny_func ?_⟩
  obtain ⟨t,ht,hq⟩:=hbody A outer s H vs Q E (hr.deeper _) hsp
  have I:Inv (Bt CX P w K mg base N qual scope f cdv A outer s H E) [] (start N vs) H s1:=xR S hr.hd e0 hl r x
  refine wpAny_mono (ht [] s1 (start N vs) H _ I hq) (fun fl s' hs=>?_) fun e s' hs=>hs
  have fin:∀ {σ':St} {H':Hp} {v:V} {u:Value},Inv (Bt CX P w K mg base N qual scope f cdv A outer s H E) [] σ' H' s'→RelV v u→Q v H'→CE outer P w H s Q u s' :=
    fun {σ' H' v u} J rv q=>⟨v,H',J.os,J.bare,J.base,J.hok,rv,q⟩
  cases fl with
  | ret u =>
    obtain ⟨v,σ',H',J,rv,q⟩:=hs
    exact fin J rv q
  | next =>
    obtain ⟨σ',H',J,q⟩:=hs
    exact fin (v:=V.non) (u:=Value.none) J rfl q
  | brk =>
    obtain ⟨_,_,_,q⟩:=hs
    exact False.elim q
  | cont =>
    obtain ⟨_,_,_,q⟩:=hs
    exact False.elim q
end L2
namespace L2
open PySem PySem.Spec PyProof.Rows
section
variable {X:Cx} {x:Str} {p pos:Pos} {e:Expr} {es:List Expr} {t:TA} {id T:String} {r:List V→Hp→VK→Prop}
def tCB (r:List V→Hp→VK→Prop) (t:TA):TE:=fun σ H Q=>t σ H fun vs H1=>r vs H1 Q
theorem aK (hc:oO X (.builtin id) r) (hg:Gl X x) (hm:X.mg x=none) (hv:bootBuiltins x=some (.builtin id)) (ha:PA X (e :: es) t) (hn:x≠"__name__":=by decide) (hdb:(x == ("__debug__":Str))=false:=by decide)
    (he:starEach (e :: es) X.env=(false,eval e X.env) :: starEach es X.env:=by rfl) (hpl:(backTo pos (starEach es X.env)).any (·.1)=false:=by rfl):PE X (.Call (.Name x p) (e :: es) [] pos) (tCB r t):=by
  intro pins s σ H Q I h
  refine wpAny_Call_Name_kw (pD I hg hm hv ?_ hn hdb)
  exact PyProof.Rows.callWith_builtin1 (thn (ha pos pins s σ H _ I h) fun us s1 ⟨vs,H1,I1,r1,q1⟩=>hc pins s1 σ H1 vs us Q I1 r1 q1) he hpl
theorem fM (hc:oO X (.type T) r) (hg:Gl X x) (hm:X.mg x=none) (hv:bootBuiltins x=some (.type T)) (ha:PA X (e :: es) t) (hn:x≠"__name__":=by decide) (hdb:(x == ("__debug__":Str))=false:=by decide)
    (he:starEach (e :: es) X.env=(false,eval e X.env) :: starEach es X.env:=by rfl) (hpl:(backTo pos (starEach es X.env)).any (·.1)=false:=by rfl):PE X (.Call (.Name x p) (e :: es) [] pos) (tCB r t):=by
  intro pins s σ H Q I h
  refine wpAny_Call_Name_kw (pD I hg hm hv ?_ hn hdb)
  exact PyProof.Rows.callWith_type1 (thn (ha pos pins s σ H _ I h) fun us s1 ⟨vs,H1,I1,r1,q1⟩=>hc pins s1 σ H1 vs us Q I1 r1 q1) he hpl
end
end L2
namespace HT
open PySem PyProof.Rows
section
open PySem.SeqAt
open PySem.AutoSeq1 (wpAny_loadPart')
open PySem.MeetsSeq PySem.MeetsSeq2 PySem.MeetsSeq3
end
section
variable {prog:Program} {w:World} {A:Around} {E:Value→Shared→Prop} {s:Shared}
def sIx (n d:Nat):Option Int→Nat
  | none=>d
  | some v=>if v<0 then (v + (n:Int)).toNat else min v.toNat n
theorem sZ (n d k:Nat):sIx n d (some (k:Int))=min k n:=by
  show (if (k:Int)<0 then ((k:Int) + (n:Int)).toNat else min (k:Int).toNat n)=min k n
  rw [if_neg (by omega),Int.toNat_natCast]
end
end HT
namespace L2
open PySem PySem.Spec PyProof.Rows
abbrev TO:=St→Hp→(Option Int→Hp→Prop)→Prop
def PO (X:Cx) (e:Option Expr) (t:TO):Prop :=
  ∀ (pins:List (Addr × Obj)) (s:Shared) (σ:St) (H:Hp) (Q:Option Int→Hp→Prop),Inv X pins σ H s→t σ H Q →
    wpAny (model X.prog X.w) X.A (evalPart e X.env) (fun u s'=>∃ o H',Inv X pins σ H' s'∧IsPart u o∧Q o H') X.xe s
def N6:TO:=fun _ H Q=>Q none H
def Wq (t:TE):TO:=fun σ H Q=>t σ H fun x H1=>∃ i,x=.int i∧Q (some i) H1
section
variable {X:Cx} {e:Expr} {te:TE} {lo hi:Option Expr} {tl th:TO} {pos p2:Pos}
theorem kW:PO X none N6:=by
  intro pins s σ H Q I h
  rw [evalPart_none]
  exact wpAny_pure ⟨none,H,I,.none,h⟩
theorem jB (h:PE X e te):PO X (some e) (Wq te):=by
  intro pins s σ H Q I hw
  rw [evalPart_some]
  refine thn (h pins s σ H _ I hw) fun u s1 ⟨x,H1,I1,r1,q1⟩=>?_
  obtain ⟨i,rfl,q⟩:=q1
  obtain ⟨t,rfl⟩:=r1
  exact ⟨some i,H1,I1,.int i t,q⟩
def SlR (X:Cx) (r:V→Option Int→Option Int→Hp→VK→Prop):Prop :=
  ∀ (pins:List (Addr × Obj)) (s:Shared) (σ:St) (H:Hp) (x:V) (v vl vu:Value) (lo hi:Option Int) (sl:Addr) (Q:VK),Inv X pins σ H s→RelV x v→s.heap.IsSliceOf sl vl vu .none→IsPart vl lo→IsPart vu hi→r x lo hi H Q →
    ∃ T id,typeLookup (.type T) "__getitem__"=pure (some (.builtin id))∧s.TypeIs v T∧wpAny (model X.prog X.w) X.A (getItem v (.ref sl)) (EP X pins σ Q) X.xe s
def tSl (r:V→Option Int→Option Int→Hp→VK→Prop) (te:TE) (tl th:TO):TE:=fun σ H Q=>te σ H fun x H1=>tl σ H1 fun l H2=>th σ H2 fun u H3=>r x l u H3 Q
theorem jg {r:V→Option Int→Option Int→Hp→VK→Prop} (hr:SlR X r) (he:PE X e te) (hl:PO X lo tl) (hu:PO X hi th):PE X (.Subscript e (.Slice lo hi none p2) pos) (tSl r te tl th):=by
  intro pins s σ H Q I h
  refine Subscript_ (thn (he pins s σ H _ I h) fun v s1 ⟨x,H1,I1,r1,q1⟩=>?_)
  refine wpAny_Slice (thn (hl pins s1 σ H1 _ I1 q1) fun vl s2 ⟨l,H2,I2,pl,q2⟩=>thn (hu pins s2 σ H2 _ I2 q2) fun vu s3 ⟨u,H3,I3,pu,q3⟩=>?_)
  rw [evalPart_none]
  refine wpAny_pure ?_
  have I4:Inv X pins σ H3 { s3 with heap:=s3.heap.push { cls:=.type "slice",data:=.fields #[vl,vu,.none] } }:=I3.kept (t':=s3.toks) fun b ob q=>Heap.get?_push_of_some _ q
  obtain ⟨T,id,hT,ht,hg⟩:=hr pins { s3 with heap:=s3.heap.push { cls:=.type "slice",data:=.fields #[vl,vu,.none] } } σ H3 x v vl vu l u s3.heap.objs.size Q I4 r1 (Heap.IsSliceOf.new ..) pl pu q3
  show wpAny (model X.prog X.w) X.A (subscriptTail e (.Slice lo hi none p2) v (.ref s3.heap.objs.size)) (EP X pins σ Q) X.xe { s3 with heap:=s3.heap.push { cls:=.type "slice",data:=.fields #[vl,vu,.none] } }
  exact tail_any (ops:=[.ref s3.heap.objs.size,v]) ht hT hg (by with_unfolding_all rfl)
def tX (xs:List V) (lo hi:Option Int):List V:=(xs.drop (HT.sIx xs.length 0 lo)).take (HT.sIx xs.length xs.length hi - HT.sIx xs.length 0 lo)
theorem tV (xs:List V) (lo hi:Option Int):(tX xs lo hi).length≤xs.length:=by
  unfold tX
  rw [List.length_take,List.length_drop]
  omega
end
end L2
namespace L2
open PySem PySem.Spec PyProof.Rows
def ixN (n:Nat) (i:Int):Option Nat:=if 0≤i then (if i<n then some i.toNat else none) else if -(n:Int)≤i then some (i + n).toNat else none
def atI {α:Type} (xs:List α) (i:Int):Option α:=(ixN xs.length i).bind fun j=>xs[j]?
theorem xQ {n:Nat} {i:Int} {j:Nat} (h:ixN n i=some j):seqIndex? i n=some j∧j<n∧-(n:Int)≤i∧i<n:=by
  unfold ixN at h
  by_cases h0:0≤i
  · rw [if_pos h0] at h
    by_cases h1:i<n
    · rw [if_pos h1] at h
      have e:i.toNat=j:=Option.some.inj h
      exact ⟨by rw [seqIndex_of h0 h1,e],by omega,by omega,h1⟩
    · rw [if_neg h1] at h;cases h
  · rw [if_neg h0] at h
    by_cases h1:-(n:Int)≤i
    · rw [if_pos h1] at h
      have e:(i + n).toNat=j:=Option.some.inj h
      exact ⟨by rw [seqIndex_neg (by omega) h1,e],by omega,h1,by omega⟩
    · rw [if_neg h1] at h;cases h
theorem Bo {α:Type} {xs:List α} {i:Int} {v:α} (h:atI xs i=some v):∃ j,seqIndex? i xs.length=some j∧xs[j]?=some v∧j<xs.length∧-(xs.length:Int)≤i∧i<xs.length:=by
  unfold atI at h
  cases e:ixN xs.length i with
  | none=>rw [e] at h;cases h
  | some j =>
    rw [e] at h
    obtain ⟨h1,h2,h3,h4⟩:=xQ e
    exact ⟨j,h1,h,h2,h3,h4⟩
theorem cX {α:Type} {xs:List α} {j:Nat} {v:α} (h:xs[j]?=some v):atI xs (j:Int)=some v:=by
  have hj:j<xs.length:=(List.getElem?_eq_some_iff.mp h).1
  have e:ixN xs.length (j:Int)=some j:=by
    unfold ixN
    rw [if_pos (by omega),if_pos (by omega)];simp
  unfold atI;rw [e];exact h
theorem Dp {α:Type} (xs:List α) (v:α):atI (xs++[v]) (-1)=some v:=by
  have hl:(xs++[v]).length=xs.length + 1:=by simp
  have e:ixN (xs++[v]).length (-1)=some xs.length:=by
    unfold ixN
    rw [hl,if_neg (by decide),if_pos (by omega)]
    congr 1
    omega
  unfold atI
  rw [e]
  show (xs++[v])[xs.length]?=some v
  simp
def Qq (b:Expr):Prop:=∀ o i,subscripted b false o i=operate [o,i] (getItem o i)
def IxR (X:Cx) (r:R2):Prop :=
  ∀ (value slice:Expr) (pins:List (Addr × Obj)) (s:Shared) (σ:St) (H:Hp) (x y:V) (v u:Value) (Q:VK),Inv X pins σ H s→RelV x v→RelV y u→r x y H Q →
    subscripted slice false v u=operate [v,u] (getItem v u)→wpAny (model X.prog X.w) X.A (subscriptTail value slice v u) (EP X pins σ Q) X.xe s
def MtR (X:Cx) (id:String) (r:V→List V→Hp→VK→Prop):Prop :=
  ∀ (pins:List (Addr × Obj)) (s:Shared) (σ:St) (H:Hp) (x:V) (xs:List V) (v:Value) (us:List Value) (Q:VK),Inv X pins σ H s→RelV x v→Vals xs us→r x xs H Q →
    wpAny (model X.prog X.w) X.A (call (.builtin id) (v :: us)) (EP X pins σ Q) X.xe s
section
variable {X:Cx} {a b:Expr} {ta tb:TE} {pos:Pos}
theorem aF {r:R2} (hr:IxR X r) (ha:PE X a ta) (hb:PE X b tb) (hs:Qq b):PE X (.Subscript a b pos) (tOp r ta tb):=by
  intro pins s σ H Q I h
  exact Subscript_ (Wi ha hb I h fun v u s2 x y H2 I2 rx ry q=>hr a b pins s2 σ H2 x y v u Q I2 rx ry q (hs _ _))
def Xg (K:PySem.W.Frag):R2:=fun x y H Q=>∃ p xs i v,x=.ref p∧y=.int i∧SqL K H p xs∧atI xs i=some v∧Q v H
def Xf (K:PySem.W.Frag):R2:=fun x y H Q=>∃ p xs i v,x=.ref p∧y=.int i∧SqT K H p xs∧atI xs i=some v∧Q v H
theorem aD:IxR X (Xg X.K):=by
  intro value slice pins s σ H x y v u Q I rx ry h hs
  obtain ⟨p,xs,i,z,rfl,rfl,hq,he,q⟩:=h
  cases rx
  obtain ⟨t,rfl⟩:=ry
  obtain ⟨its,r,pl,hz⟩:=I.list hq
  obtain ⟨j,h1,h2,h3,h4,h5⟩:=Bo he
  obtain ⟨w,ew,rw'⟩:=r.get h2
  have hl:=r.length
  have hn:=rD
  have fin:EP X pins σ Q w s:=⟨z,H,I,rw',q⟩
  by_cases h0:0≤i
  · have hj:i.toNat=j:=by
      rw [seqIndex_of h0 h5] at h1
      exact Option.some.inj h1
    exact item_listR pl.isList h0 (by omega) (by rw [hj];simpa using ew) fin hs
  · have hj:(i + (its.toArray.size:Int)).toNat=j:=by
      rw [seqIndex_neg (by omega) h4] at h1
      rw [List.size_toArray,← hl]
      exact Option.some.inj h1
    exact subscriptTail_builtinR (x:=w) pl.isList.typeIs slot_list_getitem.lookup
      (wpAny_getItem_list_neg (Q:=fun r s'=>r=w∧EP X pins σ Q r s') pl.isList (by omega) (by rw [List.size_toArray] <;> omega) (by omega) (by rw [hj];simpa using ew) ⟨rfl,fin⟩) hs
theorem aV:IxR X (Xf X.K):=by
  intro value slice pins s σ H x y v u Q I rx ry h hs
  obtain ⟨p,xs,i,z,rfl,rfl,hq,he,q⟩:=h
  cases rx
  obtain ⟨t,rfl⟩:=ry
  obtain ⟨its,r,pl,hz⟩:=I.tuple hq
  obtain ⟨j,h1,h2,h3,h4,h5⟩:=Bo he
  obtain ⟨w,ew,rw'⟩:=r.get h2
  have hl:=r.length
  have hn:=rD
  have fin:EP X pins σ Q w s:=⟨z,H,I,rw',q⟩
  exact subscriptTail_builtinR (x:=w) pl.typeIs slot_tuple_getitem.lookup
    (getItem_tuple (j:=j) (Q:=fun r s'=>r=w∧EP X pins σ Q r s') pl (by omega) (by omega) (by rw [List.size_toArray,← hl];exact h1) (by simpa using ew) ⟨rfl,fin⟩) hs
theorem vD (its:List Value) (n j:Nat) (u:Value):Obj.mapSeq (·.setIfInBounds j u) { cls:=.type "list",data:=.seq its.toArray n }={ cls:=.type "list",data:=.seq (its.set j u).toArray n }:=by
  simp [Obj.mapSeq]
theorem Inv.lst {pins:List (Addr × Obj)} {σ:St} {H:Hp} {s:Shared} {p:Addr} {xs:List V} (I:Inv X pins σ H s) (h:H p=some (.lst xs)) :
    ∃ (its:List Value) (n:Nat),Vals xs its∧s.heap.get? p=some { cls:=.type "list",data:=.seq its.toArray n }∧xs.length≤sizeLine:=by
  obtain ⟨z,its,n,r,e⟩:=I.hok p _ h
  exact ⟨its,n,r,e,z⟩
theorem Inv.Rn {pins:List (Addr × Obj)} {σ:St} {H:Hp} {s:Shared} {p:Addr} {xs ys:List V} {its its':List Value} {n n':Nat} {f:Obj→Obj} (I:Inv X pins σ H s) (h:H p=some (.lst xs))
    (ho:s.heap.get? p=some { cls:=.type "list",data:=.seq its.toArray n }) (hf:f { cls:=.type "list",data:=.seq its.toArray n }={ cls:=.type "list",data:=.seq its'.toArray n' }) (r:Vals ys its') (hz:ys.length≤sizeLine) (t:Nat) :
    Inv X pins σ (upd H p (.lst ys)) { s with heap:=s.heap.update p f,toks:=t }:=by
  have e:(s.heap.update p f).get? p=some { cls:=.type "list",data:=.seq its'.toArray n' }:=by
    rw [Heap.get?_update_self f ho (by rw [hf] <;> rfl),hf]
  refine I.write (x:=p) (e:=p) (by rw [h];trivial) (.inl rfl) (fun b u hb q=>(Heap.get?_update_other _ _ (Ne.symm hb)).trans q) ⟨_,e⟩ ?_
  exact ⟨hz,its',n',r,e⟩
def QM:V→V→V→Hp→(Hp→Prop)→Prop:=fun o i v H Q=>∃ p xs k j,o=.ref p∧i=.int k∧H p=some (.lst xs)∧ixN xs.length k=some j∧Q (upd H p (.lst (xs.set j v)))
theorem set_list:Xp X QM:=by
  intro pins s σ H o i v ov iv u Q I ro ri rv h
  obtain ⟨p,xs,k,j,rfl,rfl,hp,hj,q⟩:=h
  cases ro
  obtain ⟨t,rfl⟩:=ri
  obtain ⟨its,n,r,ho,hz⟩:=I.lst hp
  obtain ⟨h1,h2,h3,h4⟩:=xQ hj
  have hl:=r.length
  have hn:=rD
  have I':Inv X pins σ (upd H p (.lst (xs.set j v))) { s with heap:=s.heap.update p (Obj.mapSeq (·.setIfInBounds j u)) } :=
    I.Rn hp ho (vD its n j u) (r.set rv j) (by rw [List.length_set];exact hz) s.toks
  by_cases h0:0≤k
  · have hk:k.toNat=j:=by
      rw [seqIndex_of h0 h4] at h1
      exact Option.some.inj h1
    exact PySem.W.ki_setAt ho h0 (by omega) (by rw [List.size_toArray,← hl];exact h4) (by rw [hk];exact ⟨_,I',q⟩)
  · have hk:(k + (its.toArray.size:Int)).toNat=j:=by
      rw [seqIndex_neg (by omega) h3] at h1
      rw [List.size_toArray,← hl]
      exact Option.some.inj h1
    exact PySem.W.ki_setBack ho (by omega) (by rw [List.size_toArray,← hl];exact h3) (by omega) (by rw [hk];exact ⟨_,I',q⟩)
theorem qI (lo hi:Option Int) (n:Nat):(sliceBounds lo hi none n).1=((HT.sIx n 0 lo:Nat):Int)∧(sliceBounds lo hi none n).2.1=((HT.sIx n n hi:Nat):Int)∧(sliceBounds lo hi none n).2.2=1:=by
  refine ⟨?_,?_,rfl⟩
  · cases lo with
    | none=>simp [sliceBounds,HT.sIx]
    | some i =>
      simp only [sliceBounds,HT.sIx,Option.getD_none,show (1:Int) > 0 by decide,if_true]
      by_cases h:i<0
      · simp only [h,if_true] <;> omega
      · simp only [h,if_false] <;> omega
  · cases hi with
    | none=>simp [sliceBounds,HT.sIx]
    | some i =>
      simp only [sliceBounds,HT.sIx,Option.getD_none,show (1:Int) > 0 by decide,if_true]
      by_cases h:i<0
      · simp only [h,if_true] <;> omega
      · simp only [h,if_false] <;> omega
theorem pR (its:List Value) (lo hi:Option Int):slicePick its.toArray lo hi none=((its.drop (HT.sIx its.length 0 lo)).take (HT.sIx its.length its.length hi - HT.sIx its.length 0 lo)).toArray:=by
  obtain ⟨h1,h2,h3⟩:=qI lo hi its.toArray.size
  unfold slicePick
  rw [h1,h2,h3]
  simp only [sliceRange_one,pick_run,List.size_toArray] <;> rfl
def rSlL (K:PySem.W.Frag):V→Option Int→Option Int→Hp→VK→Prop:=fun x lo hi H Q=>∃ a xs,x=.ref a∧SqL K H a xs∧∀ p,H p=none→Q (.ref p) (upd H p (.lst (tX xs lo hi)))
theorem nG:SlR X (rSlL X.K):=by
  intro pins s σ H x v vl vu lo hi sl Q I rx hs pl pu h
  obtain ⟨a,xs,rfl,hx,q⟩:=h
  cases rx
  obtain ⟨its,r,ht,hz⟩:=I.list hx
  have hlen:=r.length
  refine ⟨"list",_,slot_list_getitem.lookup,ht.isList.typeIs,?_⟩
  refine wpAny_getItem_list_slice ht.isList hs pl pu .none (by simp) ?_ (by rw [List.size_toArray] <;> omega)
  rw [pR,← hlen]
  refine ⟨.ref s.heap.objs.size,_,I.laid (t':=s.toks) (o:=.lst (tX xs lo hi)) (fun b ob q=>Heap.get?_push_of_some _ q) (Nat.le_refl _) ?_,rfl,q _ (I.hok.fresh (Nat.le_refl _))⟩
  exact ⟨Nat.le_trans (tV xs lo hi) hz,_,0,(r.drop (HT.sIx xs.length 0 lo)).take (HT.sIx xs.length xs.length hi - HT.sIx xs.length 0 lo),Heap.get?_push_size _ rfl⟩
def ql:V→Bool
  | .non=>true
  | .bl _=>true
  | .int _=>true
  | .str _=>true
  | _=>false
def eqV:V→V→Bool
  | .non,.non=>true
  | .bl a,.bl b=>a == b
  | .bl a,.int b=>(if a then 1 else 0) == b
  | .int a,.bl b=>a == (if b then 1 else 0)
  | .int a,.int b=>a == b
  | .str a,.str b=>a == b
  | _,_=>false
theorem V2 {A:Around} {s:Shared} {y x:V} {u v:Value} (ry:RelV y u) (rx:RelV x v) (fy:ql y=true) (fx:ql x=true):SeqAt.EqAt A s u v (eqV y x):=by
  cases y with
  | non =>
    cases ry
    cases x with
    | non=>cases rx;exact SeqAt.EqAt.same _
    | bl b=>cases rx;exact SeqAt.EqAt.none_bool b
    | int b=>obtain ⟨t,rfl⟩:=rx;exact SeqAt.EqAt.none_int b t
    | str b=>obtain ⟨t,rfl⟩:=rx;exact SeqAt.EqAt.none_str b t
    | _=>exact absurd (show false=true from fx) Bool.false_ne_true
  | bl a =>
    cases ry
    cases x with
    | non=>cases rx;exact SeqAt.EqAt.bool_none a
    | bl b=>cases rx;exact SeqAt.EqAt.bool_bool a b
    | int b=>obtain ⟨t,rfl⟩:=rx;exact SeqAt.EqAt.bool_int a b t
    | str b=>obtain ⟨t,rfl⟩:=rx;exact SeqAt.EqAt.bool_str a b t
    | _=>exact absurd (show false=true from fx) Bool.false_ne_true
  | int a =>
    obtain ⟨t',rfl⟩:=ry
    cases x with
    | non=>cases rx;exact SeqAt.EqAt.int_none a t'
    | bl b=>cases rx;exact SeqAt.EqAt.int_bool a t' b
    | int b=>obtain ⟨t,rfl⟩:=rx;exact SeqAt.EqAt.int_int a t' b t
    | str b=>obtain ⟨t,rfl⟩:=rx;exact SeqAt.EqAt.int_str a t' b t
    | _=>exact absurd (show false=true from fx) Bool.false_ne_true
  | str a =>
    obtain ⟨t',rfl⟩:=ry
    cases x with
    | non=>cases rx;exact SeqAt.EqAt.str_none a t'
    | bl b=>cases rx;exact SeqAt.EqAt.str_bool a t' b
    | int b=>obtain ⟨t,rfl⟩:=rx;exact SeqAt.EqAt.str_int a t' b t
    | str b=>obtain ⟨t,rfl⟩:=rx;exact SeqAt.EqAt.str_str a t' b t
    | _=>exact absurd (show false=true from fx) Bool.false_ne_true
  | _=>exact absurd (show false=true from fy) Bool.false_ne_true
def eqU (x:V) (u:Value):Bool:=match u with
  | .none=>eqV .non x
  | .bool b=>eqV (.bl b) x
  | .int i _=>eqV (.int i) x
  | .str z _=>eqV (.str z) x
  | _=>false
theorem Nt {x y:V} {u:Value} (r:RelV y u) (f:ql y=true):eqU x u=eqV y x:=by
  cases y with
  | non=>cases r;rfl
  | bl b=>cases r;rfl
  | int i=>obtain ⟨t,rfl⟩:=r;rfl
  | str z=>obtain ⟨t,rfl⟩:=r;rfl
  | _=>exact absurd (show false=true from f) Bool.false_ne_true
theorem oG {x:V}:∀ {xs:List V} {us:List Value},Vals xs us→xs.all ql=true→us.any (eqU x)=xs.any fun y=>eqV y x
  | _,_,.nil,_=>rfl
  | y :: xs,u :: us,.cons r t,f=>by
    rw [List.all_cons,Bool.and_eq_true] at f
    rw [List.any_cons,List.any_cons,Nt r f.1,oG t f.2]
theorem lH {A:Around} {s:Shared} {x:V} {v:Value} (rx:RelV x v) (fx:ql x=true):∀ {xs:List V} {us:List Value},Vals xs us→xs.all ql=true→∀ u∈us,SeqAt.EqAt A s u v (eqU x u)
  | _,_,.nil,_=>fun u hu=>by cases hu
  | y :: xs,u :: us,.cons r t,f=>fun u' hu=>by
    rw [List.all_cons,Bool.and_eq_true] at f
    rcases List.mem_cons.mp hu with rfl | hu
    · rw [Nt r f.1];exact V2 r rx f.1 fx
    · exact lH rx fx t f.2 u' hu
def inV (x:V) (xs:List V):Bool:=xs.any fun y=>eqV y x
def rIn (K:PySem.W.Frag) (neg:Bool):R2:=fun x y H Q=>∃ p xs,y=.ref p∧(SqL K H p xs∨SqT K H p xs)∧ql x=true∧xs.all ql=true∧Q (.bl (if neg then !inV x xs else inV x xs)) H
theorem rm:OpR X (compareOp .In) (rIn X.K false):=by
  intro pins s σ H x y v u Q I rx ry h
  obtain ⟨p,xs,rfl,hq,fx,fs,q⟩:=h
  cases ry
  rcases hq with hq | hq
  · obtain ⟨its,r,pl,hz⟩:=I.list hq
    refine SeqAt.in_listAt (eqU x) pl.isList (fun w hw=>lH rx fx r fs w (by simpa using hw)) ⟨.bl _,H,I,rfl,?_⟩
    rw [show its.toArray.any (eqU x)=its.any (eqU x) by simp,oG r fs]
    exact q
  · obtain ⟨its,r,pl,hz⟩:=I.tuple hq
    refine SeqAt.in_tupleAt (eqU x) pl (fun w hw=>lH rx fx r fs w (by simpa using hw)) ⟨.bl _,H,I,rfl,?_⟩
    rw [show its.toArray.any (eqU x)=its.any (eqU x) by simp,oG r fs]
    exact q
theorem jQ:OpR X (compareOp .NotIn) (rIn X.K true):=by
  intro pins s σ H x y v u Q I rx ry h
  obtain ⟨p,xs,rfl,hq,fx,fs,q⟩:=h
  cases ry
  rcases hq with hq | hq
  · obtain ⟨its,r,pl,hz⟩:=I.list hq
    refine SeqAt.notIn_listAt (eqU x) pl.isList (fun w hw=>lH rx fx r fs w (by simpa using hw)) ⟨.bl _,H,I,rfl,?_⟩
    rw [show its.toArray.any (eqU x)=its.any (eqU x) by simp,oG r fs]
    exact q
  · obtain ⟨its,r,pl,hz⟩:=I.tuple hq
    refine SeqAt.notIn_tupleAt (eqU x) pl (fun w hw=>lH rx fx r fs w (by simpa using hw)) ⟨.bl _,H,I,rfl,?_⟩
    rw [show its.toArray.any (eqU x)=its.any (eqU x) by simp,oG r fs]
    exact q
theorem aM:oO X (.builtin "len") (fun xs H Q=>∃ p ys,xs=[.ref p]∧(SqL X.K H p ys∨SqT X.K H p ys)∧Q (.int ys.length) H):=by
  intro pins s σ H xs us Q I r h
  obtain ⟨p,ys,rfl,hq,q⟩:=h
  obtain ⟨u,rfl,rx⟩:=vals1 r
  cases rx
  have hn:=rD
  rcases hq with hq | hq
  · obtain ⟨its,r',pl,hz⟩:=I.list hq
    have hlen:=r'.length
    exact Calls.call_len_list pl.isList (by simp only [List.size_toArray] <;> omega) ⟨.int ys.length,H,I.tok _,⟨s.toks + 1,by rw [List.size_toArray,hlen]⟩,q⟩
  · obtain ⟨its,r',pl,hz⟩:=I.tuple hq
    have hlen:=r'.length
    exact len_tuple pl (by simp only [List.size_toArray] <;> omega) ⟨.int ys.length,H,I.tok _,⟨s.toks + 1,by rw [List.size_toArray,hlen]⟩,q⟩
theorem mQ:oO X (.builtin "len") (fun xs H Q=>∃ z,xs=[.str z]∧z.length≤sizeLine∧Q (.int z.length) H):=by
  intro pins s σ H xs us Q I r h
  obtain ⟨z,rfl,hz,q⟩:=h
  obtain ⟨u,rfl,t,rfl⟩:=vals1 r
  have hn:=rD
  exact len_str (by omega) ⟨.int z.length,H,I.tok _,⟨_,rfl⟩,q⟩
theorem gA:oO X (.type "list") (fun xs H Q=>∃ p ys,xs=[.ref p]∧(SqL X.K H p ys∨SqT X.K H p ys)∧∀ l,H l=none→Q (.ref l) (upd H l (.lst ys))):=by
  intro pins s σ H xs us Q I r h
  obtain ⟨p,ys,rfl,hq,q⟩:=h
  obtain ⟨u,rfl,rx⟩:=vals1 r
  cases rx
  have fin:∀ (its:List Value),Vals ys its→ys.length≤sizeLine→∀ (h':Heap) (c':Nat),(∀ b o',s.heap.get? b=some o'→h'.get? b=some o') →
      h'.get? s.heap.objs.size=some { cls:=.type "list",dict:=none,data:=.seq its.toArray c',slots:=#[] }→EP X pins σ Q (.ref s.heap.objs.size) { s with heap:=h' }:=fun its r' hz h' c' kp e =>
    ⟨.ref s.heap.objs.size,_,I.laid (t':=s.toks) kp (Nat.le_refl _) (show jk X.prog X.w _ h' _ (.lst ys) from ⟨hz,its,c',r',e⟩),rfl,q _ (I.hok.fresh (Nat.le_refl _))⟩
  rcases hq with hq | hq
  · obtain ⟨its,r',pl,hz⟩:=I.list hq
    have hlen:=r'.length
    obtain ⟨o,ho,hc,n,hd⟩:=pl.isList
    exact call_list_seq p (.inl rfl) ho hc hd (fun h' c' kp e=>fin its r' hz h' c' kp e) (by simp only [List.size_toArray] <;> omega)
  · obtain ⟨its,r',pl,hz⟩:=I.tuple hq
    have hlen:=r'.length
    obtain ⟨o,ho,hc,n,hd⟩:=pl
    exact call_list_seq p (.inr rfl) ho hc hd (fun h' c' kp e=>fin its r' hz h' c' kp e) (by simp only [List.size_toArray] <;> omega)
theorem qp:oO X (.type "tuple") (fun xs H Q=>∃ p ys,xs=[.ref p]∧((SqL X.K H p ys∧∀ l,H l=none→Q (.ref l) (upd H l (.tup ys)))∨(SqT X.K H p ys∧Q (.ref p) H))):=by
  intro pins s σ H xs us Q I r h
  obtain ⟨p,ys,rfl,h⟩:=h
  obtain ⟨u,rfl,rx⟩:=vals1 r
  cases rx
  rcases h with ⟨hq,q⟩ | ⟨hq,q⟩
  · obtain ⟨its,r',pl,hz⟩:=I.list hq
    have hlen:=r'.length
    refine call_tuple_list pl.isList (fun h' kp=>?_) (by simp only [List.size_toArray] <;> omega)
    have I1:Inv X pins σ H { s with heap:=h' }:=I.kept (t':=s.toks) kp
    have I2:Inv X pins σ (upd H h'.objs.size (.tup ys)) { s with heap:=h'.push { cls:=.type "tuple",data:=.seq its.toArray } } :=
      I1.laid (t':=s.toks) (fun b o e=>Heap.get?_push_of_some _ e) (Nat.le_refl _) (show jk X.prog X.w _ _ _ (.tup ys) from ⟨hz,its,r',IsTup.new _ _⟩)
    exact ⟨.ref h'.objs.size,_,I2,rfl,q _ (I1.hok.fresh (Nat.le_refl _))⟩
  · obtain ⟨its,r',pl,hz⟩:=I.tuple hq
    exact call_tuple_same pl ⟨.ref p,H,I,rfl,q⟩
def tyV (K:PySem.W.Frag) (T:String) (x:V) (H:Hp):Prop:=match x with
  | .str _=>T="str"
  | .int _=>T="int"
  | .ref p=>(T="list"∧∃ xs,SqL K H p xs)∨(T="tuple"∧∃ o,K.lookup p=some o∧o.cls=.type "tuple"∧o.dict=none) ∨
      (T="dict"∧((∃ kvs,H p=some (.dK kvs))∨∃ kvs,H p=some (.dT kvs)))∨(T="set"∧∃ S n,H p=some (.set S n))
  | _=>False
theorem QC {pins:List (Addr × Obj)} {σ:St} {H:Hp} {s:Shared} {T:String} {x:V} {v:Value} (I:Inv X pins σ H s) (r:RelV x v) (ty:tyV X.K T x H) :
    s.TypeIs v T∧∀ a,v=.ref a→∃ ob,s.heap.get? a=some ob∧ob.dict=none:=by
  cases x with
  | str z =>
    obtain ⟨t,rfl⟩:=r
    cases (show T="str" from ty)
    exact ⟨typeIs_str s z t,fun _ e=>nomatch e⟩
  | int i =>
    obtain ⟨t,rfl⟩:=r
    cases (show T="int" from ty)
    exact ⟨typeIs_int s i t,fun _ e=>nomatch e⟩
  | ref p =>
    cases r
    rcases ty with ⟨rfl,xs,hq⟩ | ⟨rfl,o,hk,hc,hd⟩ | ⟨rfl,hk⟩ | ⟨rfl,S,n,hk⟩
    · obtain ⟨its,_,pl,_⟩:=I.list hq
      refine ⟨pl.isList.typeIs,fun a e=>?_⟩
      cases e
      obtain ⟨o,n,e,c,hd,_⟩:=pl
      exact ⟨o,e,hd⟩
    · refine ⟨⟨o,I.kIn p o hk,hc⟩,fun a e=>?_⟩
      cases e
      exact ⟨o,I.kIn _ o hk,hd⟩
    · have z:∃ o,s.heap.get? p=some o∧o.ExactDict:=by
        rcases hk with ⟨kvs,hk⟩ | ⟨kvs,hk⟩
        · obtain ⟨_,_,_,_,o,_,_,e,ex,_⟩:=I.hok p _ hk
          exact ⟨o,e,ex⟩
        · obtain ⟨_,_,_,_,o,_,_,e,ex,_⟩:=I.hok p _ hk
          exact ⟨o,e,ex⟩
      obtain ⟨o,e,ex⟩:=z
      refine ⟨⟨o,e,ex.1⟩,fun a e2=>?_⟩
      cases e2
      exact ⟨o,e,ex.2.1⟩
    · obtain ⟨o,_,_,_,e,ex,_⟩:=I.hok p _ hk
      refine ⟨⟨o,e,ex.1⟩,fun a e2=>?_⟩
      cases e2
      exact ⟨o,e,ex.2.1⟩
  | _=>exact False.elim ty
def tBM (K:PySem.W.Frag) (T:String) (r:V→List V→Hp→VK→Prop) (to:TE) (t:TA):TE:=fun σ H Q=>to σ H fun x H1=>tyV K T x H1∧t σ H1 fun xs H2=>r x xs H2 Q
variable {o e:Expr} {es:List Expr} {to:TE} {t:TA} {name:Str} {apos cpos:Pos} {T id:String} {r:V→List V→Hp→VK→Prop}
theorem kh (pa:PlainAttrs T) (slot:Slot T name id) (hty:typeOf (.builtin id)=pure (.type "method_descriptor")) (hm:MtR X id r) (ho:PE X o to) (ha:PA X (e :: es) t)
    (hbase:attributeBase o name X.env (eval o X.env)=eval o X.env:=by rfl)
    (hfew:((backTo cpos (starEach (e :: es) X.env)).all (fun x=>!x.1) && (backToKw cpos (keywordEach [] X.env)).all (fun x=>x.1.isSome)
      && decide ((e :: es).length + ([]:List Keyword).length + (if ([]:List Keyword).isEmpty then 0 else 1)<30))=true:=by rfl)
    (hline:(apos.endLine == cpos.line)=true:=by rfl) (hs:starEach (e :: es) X.env=(false,eval e X.env) :: starEach es X.env:=by rfl) (hplain:(backTo cpos (starEach es X.env)).any (·.1)=false:=by rfl) :
    PE X (.Call (.Attribute o name apos) (e :: es) [] cpos) (tBM X.K T r to t):=by
  intro pins s σ H Q I h
  refine wpAny_Call_method_late hbase hfew hline rfl (thn (ho pins s σ H _ I h) fun v s1 ⟨x,H1,I1,r1,ty,q1⟩=>?_)
  obtain ⟨h1,h2⟩:=QC I1 r1 ty
  refine ⟨T,id,pa,slot,hty,h1,h2,?_⟩
  have hA:=ha cpos pins s1 σ H1 _ I1 q1
  rw [hs] at hA ⊢
  refine Calls.callWith_builtin (by show (false || (backTo cpos (starEach es X.env)).any (·.1))=false;rw [hplain] <;> rfl) (Calls.evalArgs_plain ?_)
  exact thn hA fun us s2 ⟨vs,H2,I2,r2,q2⟩=>hm pins s2 σ H2 x vs v us Q I2 r1 r2 q2
end
end L2
namespace L2
open PySem PySem.Spec PyProof.Rows
def MtM (X:Cx) (id:String) (r:V→List V→Hp→VK→Prop):Prop :=
  ∀ (pins:List (Addr × Obj)) (s:Shared) (σ:St) (H:Hp) (x:V) (xs:List V) (v:Value) (us:List Value) (Q:VK),Inv X pins σ H s→RelV x v→Vals xs us→r x xs H Q →
    wpAny (model X.prog X.w) X.A (call (.builtin id) (v :: us)) (EP X pins σ Q) X.xe s
theorem Vals.one:∀ {x:V} {us:List Value},Vals [x] us→∃ u,us=[u]∧RelV x u
  | _,_,.cons r .nil=>⟨_,rfl,r⟩
section
variable {X:Cx} {pins:List (Addr × Obj)} {σ:St} {H:Hp} {s:Shared} {l b:Addr} {xs ys zs:List V}
theorem Inv.lset {its its':List Value} {n:Nat} {f:Array Value→Array Value} {t':Nat} (I:Inv X pins σ H s) (hH:H l=some (.lst xs))
    (e:s.heap.get? l=some { cls:=.type "list",data:=.seq its.toArray n }) (hf:f its.toArray=its'.toArray) (hv:Vals ys its') (hz:ys.length≤sizeLine) :
    Inv X pins σ (upd H l (.lst ys)) { s with heap:=s.heap.update l (Obj.mapSeq f),toks:=t' }:=by
  have q:=PySem.IsL.update e f
  rw [hf] at q
  refine I.write (x:=l) (e:=l) (by rw [hH];exact trivial) (.inl rfl) (fun b' u hb hu=>(Heap.get?_update_other s.heap (Obj.mapSeq f) (Ne.symm hb)).trans hu) ⟨_,q⟩ ?_
  exact ⟨hz,its',_,hv,q⟩
theorem Inv.lnew {its:List Value} {t':Nat} (I:Inv X pins σ H s) (hv:Vals ys its) (hz:ys.length≤sizeLine) :
    Inv X pins σ (upd H s.heap.objs.size (.lst ys)) { s with heap:=s.heap.push { cls:=.type "list",data:=.seq its.toArray },toks:=t' } :=
  I.laid (fun _ _ q=>Heap.get?_push_of_some _ q) (Nat.le_refl _) ⟨hz,its,0,hv,Heap.get?_push_size _ rfl⟩
theorem Inv.fresh (I:Inv X pins σ H s):H s.heap.objs.size=none:=I.hok.fresh (Nat.le_refl _)
theorem Inv.WL (I:Inv X pins σ H s) (hH:H l=some (.lst xs)):xs.length≤sizeLine∧∃ (its:List Value) (n:Nat),Vals xs its∧xs.length=its.length∧s.heap.get? l=some { cls:=.type "list",data:=.seq its.toArray n }:=by
  obtain ⟨z,its,n,r,e⟩:=I.hok l _ hH
  exact ⟨z,its,n,r,r.length,e⟩
end
section
variable {X:Cx}
def Oh:V→List V→Hp→VK→Prop:=fun x vs H Q=>∃ l xs y,x=.ref l∧vs=[y]∧H l=some (.lst xs)∧xs.length<sizeLine∧Q .non (upd H l (.lst (xs++[y])))
theorem cu:MtM X "list.append" Oh:=by
  intro pins s σ H x vs v us Q I rx rv h
  obtain ⟨l,xs,y,rfl,rfl,hH,hz,q⟩:=h
  cases rx
  obtain ⟨u,rfl,ru⟩:=rv.one
  obtain ⟨z,its,n,r,hl,e⟩:=I.WL hH
  refine call_meets F.slot_list_append ⟨_,e,rfl⟩ F.entry_list_append (F.args_list_append_2 _ _) (PySem.list_append l its.toArray n u (by rw [List.size_toArray];omega)) ⟨e,?_⟩
  refine ⟨.non,_,I.lset (its':=its++[u]) hH e (by simp) (r.append (.cons ru .nil)) ?_,rfl,q⟩
  rw [List.length_append,List.length_singleton]
  omega
def rCat:R2:=fun x y H Q=>∃ l b xs zs,x=.ref l∧y=.ref b∧H l=some (.lst xs)∧H b=some (.lst zs)∧xs.length + zs.length≤sizeLine∧∀ p,H p=none→Q (.ref p) (upd H p (.lst (xs++zs)))
theorem rA:OpR X (binaryOp .Add) rCat:=by
  intro pins s σ H x y v u Q I rx ry h
  obtain ⟨l,b,xs,zs,rfl,rfl,hH,hB,hz,q⟩:=h
  cases rx
  cases ry
  obtain ⟨z,its,n,r,hl,e⟩:=I.WL hH
  obtain ⟨z2,its2,n2,r2,hl2,e2⟩:=I.WL hB
  refine PySem.P.add_list e e2 ?_ (by rw [List.size_toArray,List.size_toArray];omega)
  have ea:its.toArray++its2.toArray=(its++its2).toArray:=by simp
  rw [ea]
  exact ⟨.ref _,_,I.lnew (t':=s.toks) (r.append r2) (by rw [List.length_append];omega),rfl,q _ I.fresh⟩
end
end L2
namespace Att
open PySem PySem.W PySem.Calls PyProof.Rows
theorem oh {P:Params} {h:Heap}:∀ (ns:List Int) (vs:List Value),WellAll P h vs (ns.map WData.int)→IntsAre vs ns:=by
  intro ns
  induction ns with
  | nil =>
    intro vs w
    rw [List.map_nil] at w
    cases w
    exact .nil
  | cons n ns ih =>
    intro vs w
    rw [List.map_cons] at w
    cases w with
    | cons a b =>
      cases a
      exact .cons _ _ (ih _ b)
theorem wD {l:OpenLaw} {n:Nat} (hn:l.most=some n) {P:Params} {h:Heap} {args:List WData} {vals:List Value}
    (hpre:l.row.toRowW.claim.pre args=true) (hwl:WellAll P h vals args) :
    ∃ a vs ns,vals=[Value.ref a]∧args=[WData.list (ns.map WData.int)]∧h.get? a=some { cls:=.type "list",data:=.seq vs.toArray }∧IntsAre vs ns∧ns.length≤n:=by
  have hsh:WShape.hasAll [] args [.list .int]=true:=(pre_splitW hpre).1
  have hc:l.pre.holds [] { args:=args }=true:=(pre_splitW hpre).2
  obtain ⟨d,r,rfl,h1,h2⟩:=hasAllW_cons hsh
  obtain rfl:=hasAllW_nil h2
  obtain ⟨xs,rfl,h3⟩:=hasW_list h1
  obtain ⟨ns,rfl⟩:=items_int h3
  have hlen:ns.length≤n:=by
    unfold OpenLaw.pre at hc
    have h4:(WTm.not (.lt (.lit (.int (n:Int))) (.len (.arg 0)))).holds [] { args:=[.list (ns.map .int)] }=true:=by
      have h4:=(holds_andW hc).1
      rw [hn] at h4
      exact h4
    have h5:=condW_of h4 (w_not (w_lt w_lit (w_len_list (w_arg rfl))))
    rw [List.length_map] at h5
    refine Nat.le_of_not_lt fun q=>?_
    have q':(n:Int)<((ns.length:Nat):Int):=by omega
    first
      | (rw [decide_eq_true q'] at h5;exact absurd h5 (by decide))
      | (simp at h5;omega)
  cases hwl with
  | cons w1 w2 =>
    cases w2
    cases w1 with
    | list ho hall=>exact ⟨_,_,ns,rfl,rfl,ho,oh ns _ hall,hlen⟩
theorem wK (l:OpenLaw) (args:List WData):l.row.toRowW.claim.post args (.bool true) args=true :=
  postW_of (r:=l.row.toRowW) (X:=(true == true))
    (show WShape.has [] (.bool true) .bool=true by first | rfl | decide | simp [WShape.has,WShape.arms,WShape.armsAll])
    (show (WTm.eq .res (.lit (.bool true))).value [] { args:=args,res:=some (.bool true),after:=args }=some (.bool (true == true)) from w_eq_bool (w_res rfl) w_lit) rfl
theorem ud {l:OpenLaw} {n:Nat} {q:Program} {loose:List Str} {XP:(Str→Option Value)→Heap→Prop} {YP:World→Heap→Prop} {d:DefRec}
    (hn:l.most=some n) (hdf:d.params.defaults=[])
    (call:∀ (w:World) (s₀ s₁:Shared) (mg mb:Str→Option Value) (fa:Addr) (o:Obj) (pm cd doc:Value) (a:Addr) (vs:List Value) (ns:List Int),
      Ground q loose [] XP w s₀ mg mb s₁.heap→YP w s₁.heap →
      s₁.heap.get? fa=some o→o.data=.func (docDef d.name d.params d.body d.scope pm cd doc)→s₁.heap.CodeRec cd d.name→mg d.name=some (.ref fa) →
      s₁.heap.get? a=some { cls:=.type "list",data:=.seq vs.toArray }→IntsAre vs ns→ns.length≤n→s₁.gens=#[] →
      codeAny (model l.prog w) callerA (.call (.ref fa) ⟨[.ref a],[]⟩) (fun r s'=>r=.ok (.ret (.bool true))∧OldK s₁.heap s'.heap∧s'.os=s₁.os∧AllBare s'.gens) s₁) :
    WalkO q loose XP YP l.row.toRowW d [] (fun f vs=>PySem.call f vs):=by
  intro w s₀ s₁ mg mb G Y fa o pm cd doc dV kV ho hd hcd hD hmg hg args vals as hpre hlay hrd hwl hlo
  obtain rfl:dV=.none:=Dflts.none hD hdf
  obtain rfl:kV=.none:=Dflts.noKw hD
  obtain ⟨a,vs,ns,rfl,rfl,hobj,hints,hlen⟩:=wD hn hpre hwl
  refine enter_call (codeAny_mono (call w s₀ s₁ mg mb fa o pm cd doc a vs ns G Y ho (fd_plain hd) hcd hmg hobj hints hlen hg) fun r s' hq=>?_)
  obtain ⟨rfl,h2,h3,h4⟩:=hq
  exact ⟨.inl ⟨.bool true,.bool true,[],rfl,fun _=>rfl,.bool true,wK l _,fun _=>⟨List.Pairwise.nil,fun _ hm=>(nomatch hm)⟩⟩,h2,h3,h4⟩
end Att
namespace L2
open PySem PySem.Spec PyProof.Rows
theorem qC:∀ {vs:List Value} {ns:List Int},IntsAre vs ns→Vals (ns.map V.int) vs
  | _,_,.nil=>.nil
  | _,_,.cons n t h=>.cons ⟨t,rfl⟩ (qC h)
def Only (H:Hp):Prop:=∀ b,H b=none∨∃ o xs,H b=some (.frz o (.lst xs))
theorem CT {P:Program} {w:World} {K:PySem.W.Frag} {mg mb:Str→Option Value} {CX:CXT} {k:Nat} {fa a:Addr} {fd:FuncData} {x:Str} {sp:Sp} {s₁:Shared} {vs:List Value} {ns:List Int}
    (KX:K.In s₁.heap) (hns:s₁.heap.Ns mainGlobals mg) (hb:s₁.heap.Ns builtinsNs mb) (hbb:∀ x:Str,x≠"__name__"→mb x=bootBuiltins x) (hlim:s₁.heap.NoLimit) (hg:s₁.gens=#[])
    (ha:s₁.heap.get? a=some { cls:=.type "list",data:=.seq vs.toArray }) (hi:IntsAre vs ns) (hl:ns.length≤sizeLine) (hr:lZ k callerA)
    (F:∀ base:Heap,K.In base→base.Ns mainGlobals mg→bN P w K mg base CX k fa fd [x] sp) (hbind:∀ (s:Shared) (u:Value),BindsTo s fd ⟨[u],[]⟩ [(x,u)])
    (hsp:∀ H:Hp,Only H→SqL K H a (ns.map V.int)→sp [.ref a] H (fun v _=>v=.bl true) fun _ _ _=>False)
    (hCX:∀ H e s',CX [] H s₁ (fun _ _ _=>False) e s'→False) :
    codeAny (model P w) callerA (.call (.ref fa) ⟨[.ref a],[]⟩) (fun r s'=>r=.ok (.ret (.bool true))∧OldK s₁.heap s'.heap∧s'.os=s₁.os∧AllBare s'.gens) s₁:=by
  have rv:=qC hi
  have lenV:=hi.length
  have core:∀ H:Hp,Only H→SqL K H a (ns.map V.int)→HOk P w H s₁.heap→(∀ b,H b≠none→b=a)→(H a≠none→K.lookup a=none) →
      codeAny (model P w) callerA (.call (.ref fa) ⟨[.ref a],[]⟩) (fun r s'=>r=.ok (.ret (.bool true))∧OldK s₁.heap s'.heap∧s'.os=s₁.os∧AllBare s'.gens) s₁:=by
    intro H hO hS hok hA hK
    have base_of:∀ {b:Addr} {o:Obj},s₁.heap.get? b=some o→H b=none→(Dh s₁.heap H).get? b=some o:=fun e n=>Dg e n
    have noA:∀ {b:Addr} {o:Obj} {es:Array DictEntry} {ep:Nat},s₁.heap.get? b=some o→o.data=.dict es ep→H b=none:=fun {b o es ep} e d=>by
      cases q:H b with
      | none=>rfl
      | some u =>
        have e':b=a:=hA b (by rw [q];simp)
        subst e'
        rw [ha] at e;cases e
        have d':Data.seq vs.toArray _=Data.dict es ep:=d
        cases d'
    have nsK:∀ {b:Addr} {m:Str→Option Value},s₁.heap.Ns b m→(Dh s₁.heap H).Ns b m:=fun {b m} ⟨o,es,ep,e,d,r⟩=>⟨o,es,ep,base_of e (noA e d),d,r⟩
    have hKb:K.In (Dh s₁.heap H):=fun b o e=>base_of (KX b o e) (by
      cases q:H b with
      | none=>rfl
      | some u =>
        have e':b=a:=hA b (by rw [q];simp)
        subst e'
        rw [hK (by rw [q];simp)] at e;cases e)
    have hM:Mod K mg (Dh s₁.heap H):=⟨hKb,nsK hns,⟨mb,nsK hb,hbb⟩,let ⟨mc,h1,h2⟩:=hlim;⟨mc,nsK h1,h2⟩⟩
    have e0:Qu P w K mg (Dh s₁.heap H) callerA [] s₁ H:=⟨rfl,hM,fun b o e=>Ox e,Nat.le_of_eq (Av _ _),trivial,fun b hb=>absurd (show b∈([]:List Addr) from hb) (by simp),hok,.of_eq hg⟩
    refine codeAny_mono ((F _ hKb (nsK hns)).run callerA [] s₁ H ⟨[.ref a],[]⟩ [.ref a] [.ref a] _ _ hr e0 (hbind s₁ (.ref a)) (.cons rfl .nil) (hsp H hO hS)) fun r s' h=>?_
    cases r with
    | error e=>exact (hCX H e s' h).elim
    | ok fl =>
      cases fl with
      | next=>exact False.elim h
      | brk=>exact False.elim h
      | cont=>exact False.elim h
      | ret u =>
        obtain ⟨v,H',os,bare,un,hok',r',q⟩:=h
        have q':v=.bl true:=q
        subst q'
        obtain rfl:u=Value.bool true:=r'
        refine ⟨rfl,OldK.of_keep fun b o e=>?_,os,bare⟩
        cases q:H b with
        | none=>exact un.keep b o e q (by intro z;exact absurd (show b∈([]:List Addr) from z) (by simp)) (by simp)
        | some u =>
          rcases hO b with z | ⟨ob,xs,z⟩
          · rw [q] at z;cases z
          · have z2:=un.frzs b ob _ z
            obtain ⟨e1,_⟩:=hok b _ z
            obtain ⟨e2,_⟩:=hok' b _ z2
            rw [e] at e1;cases e1
            exact e2
  cases hk:K.lookup a with
  | some o =>
    have e:=KX a o hk
    rw [ha] at e
    cases e
    refine core (fun _=>none) (fun _=>.inl rfl) (.inr ⟨_,vs.toArray,_,hk,rfl,rfl,rfl,by rw [List.size_toArray,lenV];exact hl,by simpa using rv⟩) (fun b u z=>by have z':(none:Option HO)=some u:=z;cases z') (fun b z=>absurd rfl z) fun z=>absurd rfl z
  | none =>
    refine core (fun b=>if b=a then some (.frz { cls:=.type "list",data:=.seq vs.toArray } (.lst (ns.map V.int))) else none) (fun b=>?_) (.inl (.inr ⟨{ cls:=.type "list",data:=.seq vs.toArray },if_pos rfl⟩)) (fun b u z=>?_) (fun b z=>?_) fun _=>hk
    · by_cases hb:b=a
      · exact .inr ⟨_,_,if_pos hb⟩
      · exact .inl (if_neg hb)
    · by_cases hb:b=a
      · have z':=(if_pos hb).symm.trans z
        cases z'
        subst hb
        exact ⟨ha,by rw [List.length_map];exact hl,vs,_,rv,ha⟩
      · have z':=(if_neg hb).symm.trans z
        cases z'
    · by_cases hb:b=a
      · exact hb
      · exact absurd (if_neg hb) z
end L2
namespace L2
open PySem PySem.Spec PyProof.Rows
abbrev KOf {K:PySem.W.Frag} {h:Heap} (_:K.In h):PySem.W.Frag:=K
theorem NT {l:PySem.W.OpenLaw} {n k:Nat} {q:Program} {loose:List Str} {XP:(Str→Option Value)→Heap→Prop} {YP:World→Heap→Prop} {d:DefRec} {K:Params→PySem.W.Frag} {CX:World→CXT} {sp:World→Sp} {x:Str}
    (hn:l.most=some n) (hn2:n≤sizeLine) (hdf:d.params.defaults=[]) (hr:lZ k callerA)
    (hY:∀ (w:World) (h:Heap),YP w h→(K w.params).In h)
    (F:∀ (w:World) (mg:Str→Option Value) (fa:Addr) (h:Heap),(K w.params).In h→h.Ns mainGlobals mg→mg d.name=some (.ref fa) →
      ∃ fd:FuncData,(∀ (s:Shared) (u:Value),BindsTo s fd ⟨[u],[]⟩ [(x,u)]) ∧
        ∀ base:Heap,(K w.params).In base→base.Ns mainGlobals mg→bN l.prog w (K w.params) mg base (CX w) k fa fd [x] (sp w))
    (hsp:∀ (w:World) (H:Hp) (a:Addr) (ns:List Int),ns.length≤n→Only H→SqL (K w.params) H a (ns.map V.int)→sp w [.ref a] H (fun v _=>v=.bl true) fun _ _ _=>False)
    (hCX:∀ (w:World) (H:Hp) (s:Shared) (e:Value) (s':Shared),CX w [] H s (fun _ _ _=>False) e s'→False) :
    PySem.W.WalkO q loose XP YP l.row.toRowW d [] (fun f vs=>PySem.call f vs):=by
  refine Att.ud hn hdf fun w s₀ s₁ mg mb fa o pm cd doc a vs ns G Y ho hd hcd hmg hobj hints hlen hg=>?_
  have KX:=hY w _ Y
  obtain ⟨fd,hb,hF⟩:=F w mg fa _ KX G.T.g hmg
  exact CT KX G.T.g G.T.b G.T.builtins G.T.nolimit hg hobj hints (Nat.le_trans hlen hn2) hr hF hb (fun H hO hS=>hsp w H a ns hlen hO hS) fun H e s'=>hCX w H s₁ e s'
end L2
namespace L2
open PySem PySem.Spec PyProof.Rows
abbrev CX0:CXT:=fun _ _ _ _ _ _=>False
abbrev E0:XK:=fun _ _ _=>False
theorem cM {X:Cx}:Passes CX0 X E0:=fun _ _ _ _ _ _ _ h=>h.elim
structure Fun (K:PySem.W.Frag) (x qual:Str) (st:Stmt) (f:Addr) (fd:FuncData):Prop where
  ex:∃ (oc:Value) (od:Option Addr) (kV doc pm:Value) (an:Option Addr) (cdv ct:Value) (osl:Array (Option Value)),
    fd=PySem.W.fnOf x qual (aB st) (aA st) (ak st) .none kV doc pm an cdv ct∧K.lookup f=some ⟨oc,od,.func fd,osl⟩∧PySem.W.codeIn K cdv qual=true
  kp:PySem.W.keepIn K (.ref f)=true
variable {P:Program} {w:World} {K:PySem.W.Frag} {mg:Str→Option Value} {base:Heap} {T:eX}
theorem Fun.ok {x qual:Str} {st:Stmt} {f:Addr} {fd:FuncData} {N ps:List Str} {k:Nat} {sp:Sp} (F:Fun K x qual st f fd) (S:aQ N ps (ak st)) (len:∀ vs H Q E,sp vs H Q E→vs.length=ps.length)
    (hbody:∀ (cdv:Value) (A:Around) (outer:List Env) (s:Shared) (H:Hp) (vs:List V) (Q:VK) (E:XK),lZ k (A.deeper (envOfC qual (ak st) s.heap.objs.size f cdv))→sp vs H Q E →
      ∃ t,PSs (Bt CX0 P w K mg base N qual (ak st) f cdv A outer s H E).nox (aA st) t∧t { nx:=fun _ H'=>Q .non H',rt:=Q } (start N vs) H):bN P w K mg base CX0 (k + 1) f fd ps sp:=by
  obtain ⟨oc,od,kV,doc,pm,an,cdv,ct,osl,rfl,lk,hcd⟩:=F.ex
  refine Qi lk hcd S len fun A outer s H vs Q E hr hsp=>?_
  obtain ⟨t,h,q⟩:=hbody cdv A outer s H vs Q E hr hsp
  exact ⟨t,h.nox,q⟩
theorem Fun.binds {x qual:Str} {st:Stmt} {f:Addr} {fd:FuncData} {ps:List Str} (F:Fun K x qual st f fd)
    (h:∀ (kV doc pm:Value) (an:Option Addr) (cdv ct:Value) (us:List Value),us.length=ps.length→bindArgs (PySem.W.fnOf x qual (aB st) (aA st) (ak st) .none kV doc pm an cdv ct) ⟨us,[]⟩=pure (ps.zip us)):Binds K fd ps []:=by
  obtain ⟨oc,od,kV,doc,pm,an,cdv,ct,osl,rfl,lk,hcd⟩:=F.ex
  exact .all (h kV doc pm an cdv ct)
theorem bH {x qual:Str} {st:Stmt} {f:Addr} {oc:Value} {od an:Option Addr} {osl:Array (Option Value)} {kV doc pm cdv ct:Value} (l:K.lookup f=some ⟨oc,od,.func (PySem.W.fnOf x qual (aB st) (aA st) (ak st) .none kV doc pm an cdv ct),osl⟩)
    (c:PySem.W.codeIn K cdv qual=true) (k:PySem.W.keepIn K (.ref f)=true):Fun K x qual st f (PySem.W.fnOf x qual (aB st) (aA st) (ak st) .none kV doc pm an cdv ct):=⟨⟨oc,od,kV,doc,pm,an,cdv,ct,osl,rfl,l,c⟩,k⟩
section
variable {X:Cx}
theorem pv (i:Nat) {x:Str} {pos:Pos} (hN:X.N[i]?=some x:=by rfl) (hv:Vis X.env.scope x:=by first | exact Or.inl rfl | exact Or.inr (Or.inl rfl) | exact Or.inr (Or.inr rfl)) (hd:(x == ("__debug__":Str))=false:=by decide)
    (hcd:(x == ("__classdict__":Str))=false:=by decide):PE X (.Name x pos) (Qv i):=QX hN hv hd hcd
end
theorem qy {A B:Prop} (h:B):if false=true then A else B:=by
  rw [if_neg Bool.false_ne_true]
  exact h
theorem jU {A B:Prop} (h:A):if true=true then A else B:=by
  rw [if_pos rfl]
  exact h
theorem Wh {c A B:Prop} [Decidable c] (h1:c→A) (h2:¬ c→B):if c then A else B:=by
  by_cases h:c
  · rw [if_pos h]
    exact h1 h
  · rw [if_neg h]
    exact h2 h
theorem Ru {c A B:Prop} [Decidable c] (hc:c) (h:B):if (!decide c)=true then A else B:=by
  rw [decide_eq_true hc]
  exact qy h
def Same (H H':Hp):Prop:=∀ b o,H b=some o→H' b=some o
theorem Same.refl (H:Hp):Same H H:=fun _ _ h=>h
theorem Same.free {H H':Hp} (e:Same H H') {l:Addr} (h:H' l=Option.none):H l=Option.none:=by
  cases q:H l with
  | none=>rfl
  | some o =>
    rw [e l o q] at h
    cases h
theorem Same.seq {K:PySem.W.Frag} {H H':Hp} {a:Addr} {xs:List V} (e:Same H H') (h:SqL K H a xs):SqL K H' a xs:=by
  rcases h with (h | ⟨o,h⟩) | h
  · exact .inl (.inl (e _ _ h))
  · exact .inl (.inr ⟨o,e _ _ h⟩)
  · exact .inr h
end L2
namespace L2
open PySem PySem.Spec PyProof.Rows
def clo (cells:List (Str × Addr)):List (Str × NameKind)→List (Str × Addr)→List (Str × Addr)
  | [],cs=>cs
  | (n,k) :: r,cs=>clo cells r (if k == .free then (n,(cells.lookup n).getD 0) :: cs else cs)
theorem Bj {env:Env}:∀ (names:List (Str × NameKind)) (cs:List (Str × Addr)),(∀ y∈names,y.2=.free→∃ c,env.cells.lookup y.1=some c) →
    (forIn names cs fun (x:Str × NameKind) (r:List (Str × Addr))=>(do
      let cs:=r
      match x with
      | (name,kind) =>
        if kind == .free then do
          let c ← cellOf env name
          let cs:=(name,c) :: cs
          pure (ForInStep.yield cs)
        else pure (ForInStep.yield cs):Sem (ForInStep (List (Str × Addr)))))=pure (clo env.cells names cs)
  | [],cs,_=>rfl
  | (n,k) :: r,cs,h=>by
    rw [List.forIn_cons]
    by_cases hk:k=.free
    · subst hk
      obtain ⟨c,hc⟩:=h (n,.free) List.mem_cons_self rfl
      have e:cellOf env n=pure c:=by unfold cellOf;rw [hc]
      simp only [beq_self_eq_true,if_true,e,pure_bind]
      rw [Bj r _ fun y hy=>h y (List.mem_cons_of_mem _ hy)]
      simp [clo,hc]
    · have hb:(k == NameKind.free)=false:=by simpa using hk
      simp only [hb,Bool.false_eq_true,if_false,pure_bind]
      rw [Bj r _ fun y hy=>h y (List.mem_cons_of_mem _ hy)]
      simp [clo,hb]
theorem oV {env:Env} {scope:Scope} (h:∀ y∈scope.names,y.2=.free→∃ c,env.cells.lookup y.1=some c):closureFor scope env=pure (clo env.cells scope.names []):=by
  unfold closureFor
  have e:=Bj (env:=env) scope.names [] h
  first
    | (rw [← e];rfl)
    | (simp only [bind_pure];exact e)
    | exact e
theorem Bh {cells:List (Str × Addr)}:∀ (names:List (Str × NameKind)) (cs:List (Str × Addr)) (p:Str × Addr),p∈clo cells names cs→p∈cs∨p.2=(cells.lookup p.1).getD 0
  | [],_,_,h=>.inl h
  | (n,k) :: r,cs,p,h=>by
    rcases Bh r _ p h with h' | h'
    · by_cases hk:(k == NameKind.free)=true
      · rw [if_pos hk] at h'
        rcases List.mem_cons.mp h' with e | e
        · subst e;exact .inr rfl
        · exact .inl e
      · rw [if_neg hk] at h';exact .inl h'
    · exact .inr h'
theorem uY {cells:List (Str × Addr)}:∀ (names:List (Str × NameKind)) (cs:List (Str × Addr)) (x:Str),(cs.lookup x).isSome=true→((clo cells names cs).lookup x).isSome=true
  | [],_,_,h=>h
  | (n,k) :: r,cs,x,h=>by
    refine uY r _ x ?_
    by_cases hk:(k == NameKind.free)=true
    · rw [if_pos hk]
      rw [List.lookup_cons]
      cases x == n with
      | true=>rfl
      | false=>exact h
    · rw [if_neg hk];exact h
theorem tY {cells:List (Str × Addr)}:∀ (names:List (Str × NameKind)) (cs:List (Str × Addr)) (x:Str),(x,NameKind.free)∈names→((clo cells names cs).lookup x).isSome=true
  | [],_,_,h=>nomatch h
  | (n,k) :: r,cs,x,h=>by
    show ((clo cells r _).lookup x).isSome=true
    rcases List.mem_cons.mp h with e | e
    · have e1:x=n:=congrArg Prod.fst e
      have e2:NameKind.free=k:=congrArg Prod.snd e
      subst e1
      subst e2
      refine uY r _ x ?_
      rw [if_pos (by decide),List.lookup_cons]
      simp
    · exact tY r _ x e
theorem Qn {cells:List (Str × Addr)} {names:List (Str × NameKind)} {x:Str} {c:Addr} (h:(clo cells names []).lookup x=some c):c=(cells.lookup x).getD 0:=by
  rcases Bh names [] _ (PySem.mem_of_lookup h) with z | z
  · exact nomatch z
  · exact z
theorem uZ {cells:List (Str × Addr)}:∀ {names:List (Str × NameKind)} (cs:List (Str × Addr)) {p:Str × Addr},p∈clo cells names cs→p∈cs∨(p.1,NameKind.free)∈names
  | [],_,_,h=>.inl h
  | (n,k) :: r,cs,p,h=>by
    rcases uZ (names:=r) _ h with h' | h'
    · by_cases hk:(k == NameKind.free)=true
      · rw [if_pos hk] at h'
        rcases List.mem_cons.mp h' with e | e
        · subst e
          have:k=.free:=by simpa using hk
          subst this
          exact .inr List.mem_cons_self
        · exact .inl e
      · rw [if_neg hk] at h';exact .inl h'
    · exact .inr (List.mem_cons_of_mem _ h')
def kJ (X:Cx) (scope:Scope) (N:List Str) (s:Shared) (H:Hp) (ex:List Addr):Cx :=
  { X with N:=N,s₀:=s,H₀:=H,env:=compEnvC scope (clo X.env.cells scope.names []) s.heap.objs.size X.env,outer:=X.stack,stack:=X.stack,ex:=ex,fn:=fun x=>((clo X.env.cells scope.names []).lookup x).isNone,pn:=[],xe:=fun _ _=>False }
def freeOk (sc scope:Scope):Bool:=scope.names.all fun y=>(y.2 != .free) || (sc.names.lookup y.1 == some .cell) || (sc.names.lookup y.1 == some .free)
def Cd (scope:Scope):Bool:=(scope.kind == .function) && (scope.names.all fun y=>y.2 != .cell) && (scope.names.all fun y=>y.2 != .local || scope.names.lookup y.1 == some .local)
def Dn (scope:Scope) (N N':List Str) (cap:List (Option Nat)):Bool:=(cap.length == N'.length) && (N'.zip cap).all fun p=>match p.2 with
  | none=>true
  | some j=>N[j]? == some p.1 && scope.names.lookup p.1 == some .free
def Bk (cap:List (Option Nat)) (σ:St):St:=cap.map fun o=>o.bind fun j=>(σ[j]?).bind id
theorem kZ {f:Str × NameKind→Str × NameKind} (hf:∀ y,(f y).1=y.1) (x:Str):∀ names:List (Str × NameKind),(names.map f).lookup x=(names.lookup x).map fun k=>(f (x,k)).2
  | []=>rfl
  | (n,k) :: r=>by
    have ih:=kZ hf x r
    have e1:(f (n,k)).1=n:=hf (n,k)
    have e2:f (n,k)=(n,(f (n,k)).2):=Prod.ext e1 rfl
    rw [List.map_cons,e2,List.lookup_cons,List.lookup_cons]
    cases hx:x == n with
    | true =>
      have:x=n:=by simpa using hx
      subst this
      rfl
    | false=>exact ih
def rlb (env:Env):Str × NameKind→Str × NameKind:=fun (n,k)=>if (k == NameKind.free && env.scope.kind == .function && env.kindOf n == some .cell) then (n,NameKind.cell) else (n,k)
theorem wH (env:Env) (y:Str × NameKind):(rlb env y).1=y.1:=by
  obtain ⟨n,k⟩:=y
  unfold rlb
  dsimp only
  split <;> rfl
theorem wG (env:Env) (n:Str) (k:NameKind):(rlb env (n,k)).2=k∨((rlb env (n,k)).2=.cell∧k=.free):=by
  unfold rlb
  dsimp only
  split
  · rename_i h
    rw [Bool.and_eq_true,Bool.and_eq_true] at h
    exact .inr ⟨rfl,by simpa using h.1.1⟩
  · exact .inl rfl
theorem lF (scope:Scope) (env:Env):(relabel scope env).names=scope.names.map (rlb env):=rfl
theorem qR {scope:Scope} {env:Env} {x:Str} (h:scope.names.lookup x=some .free):(relabel scope env).names.lookup x=some .cell∨(relabel scope env).names.lookup x=some .free:=by
  rw [lF,kZ (wH env),h]
  rcases wG env x .free with e | ⟨e,_⟩
  · exact .inr (congrArg some e)
  · exact .inl (congrArg some e)
theorem mH {scope:Scope} {env:Env} {x:Str} {k':NameKind} (hk:k'=.cell∨k'=.free) (hn:∀ y∈scope.names,y.2≠.cell) (h:(relabel scope env).names.lookup x=some k'):(x,NameKind.free)∈scope.names:=by
  rw [lF,kZ (wH env)] at h
  cases e:scope.names.lookup x with
  | none=>rw [e] at h;cases h
  | some k =>
    rw [e] at h
    have h':(rlb env (x,k)).2=k':=Option.some.inj h
    have hm:=PySem.mem_of_lookup e
    rcases wG env x k with z | ⟨_,z⟩
    · rw [z] at h'
      subst h'
      rcases hk with z2 | z2
      · exact absurd z2 (hn _ hm)
      · rw [z2] at hm;exact hm
    · rw [z] at hm;exact hm
def PTs (X:Cx) (ifs:List Expr) (t:TT):Prop :=
  ∀ (pins:List (Addr × Obj)) (s:Shared) (σ:St) (H:Hp) (Q:Bool→Hp→Prop),Inv X pins σ H s→t σ H Q →
    wpAny (model X.prog X.w) X.A (forIn ifs true fun c r=>if r=true then do let ok ← isTrue c X.env (eval c X.env);pure (ForInStep.yield ok) else pure (ForInStep.yield r)) (TP X pins σ Q) X.xe s
def Wn:TT:=fun _ H Q=>Q true H
theorem Nx {i:Nat} {x:V} {τ:St} {H:Hp} {A B:St→Hp→Prop} (h:A (τ.set i (some x)) H):Ax i x τ H fun τ4 H4=>Wn τ4 H4 fun b H5=>if b=true then A τ4 H5 else B τ4 H5:=by
  show if true=true then A (τ.set i (some x)) H else B (τ.set i (some x)) H
  rw [if_pos rfl];exact h
theorem jM {X:Cx}:PTs X [] Wn:=fun _ _ _ H _ I h=>wpAny_tests_nil ⟨H,I,h⟩
theorem p7 {X:Cx} {c:Expr} {t:TT} (h:PT X c t):PTs X [c] t:=fun pins s σ H Q I hq=>wpAny_tests_one (h pins s σ H Q I hq)
def qD (J:It) (acc:Addr) (g:TG) (tc:TT) (te:TE) (τ:St) (H1:Hp) (Q:Hp→Prop):Prop :=
  ∃ W:Nat→Nat→St→Hp→Prop,(∃ m,W 0 m τ (upd H1 acc (.lst [])))∧∀ i m τ H2,W i m τ H2→(J.stop i H2∧Q H2)∨(J.go i H2∧∃ N:St→Hp→Prop,(∀ τ' H',N τ' H'→∃ m',m'<m∧W (i + 1) m' τ' H')∧∀ x H3,J.yld i H2 x H3→g x τ H3 fun τ4 H4 =>
    tc τ4 H4 fun b H5=>if b=true then te τ4 H5 fun y H6=>∃ ys,H6 acc=some (.lst ys)∧ys.length<sizeLine∧N τ4 (upd H6 acc (.lst (ys++[y]))) else N τ4 H5)
theorem j7 {lo:Int} {n:Nat} {acc:Addr} {g:TG} {tc:TT} {te:TE} {τ:St} {H1:Hp} {Q:Hp→Prop} (Pv:Nat→St→Hp→Prop) (h0:Pv 0 τ (upd H1 acc (.lst [])))
    (hs:∀ i τ H,i<n→Pv i τ H→g (.int (lo + i)) τ H fun τ4 H4=>tc τ4 H4 fun b H5=>if b=true then te τ4 H5 fun y H6=>∃ ys,H6 acc=some (.lst ys)∧ys.length<sizeLine∧Pv (i + 1) τ4 (upd H6 acc (.lst (ys++[y]))) else Pv (i + 1) τ4 H5)
    (hd:∀ τ H,Pv n τ H→Q H):qD (Itr lo n) acc g tc te τ H1 Q:=by
  refine ⟨fun i m τ H=>m=n - i∧i≤n∧Pv i τ H,⟨n,by simp,Nat.zero_le _,h0⟩,?_⟩
  rintro i m τ H ⟨rfl,hi,p⟩
  by_cases hlt:i<n
  · refine .inr ⟨hlt,Pv (i + 1),fun τ' H' p'=>⟨n - (i + 1),by omega,rfl,hlt,p'⟩,fun x H' y=>?_⟩
    obtain ⟨e,y⟩:=y
    subst e y
    exact hs i τ _ hlt p
  · have e:i=n:=by omega
    subst e
    exact .inl ⟨Nat.le_refl _,hd τ H p⟩
theorem oF {K:PySem.W.Frag} {a:Addr} {xs:List V} {acc:Addr} {g:TG} {tc:TT} {te:TE} {τ:St} {H1:Hp} {Q:Hp→Prop} (Pv:Nat→St→Hp→Prop) (h0:Pv 0 τ (upd H1 acc (.lst []))) (hl:∀ i τ H,i≤xs.length→Pv i τ H→SqL K H a xs)
    (hs:∀ i x τ H,xs[i]?=some x→Pv i τ H→g x τ H fun τ4 H4=>tc τ4 H4 fun b H5=>if b=true then te τ4 H5 fun y H6=>∃ ys,H6 acc=some (.lst ys)∧ys.length<sizeLine∧Pv (i + 1) τ4 (upd H6 acc (.lst (ys++[y]))) else Pv (i + 1) τ4 H5)
    (hd:∀ τ H,Pv xs.length τ H→Q H):qD (Itl K a) acc g tc te τ H1 Q:=by
  refine ⟨fun i m τ H=>m=xs.length - i∧i≤xs.length∧Pv i τ H,⟨xs.length,by simp,Nat.zero_le _,h0⟩,?_⟩
  rintro i m τ H ⟨rfl,hi,p⟩
  have q:=hl i τ H hi p
  by_cases hlt:i<xs.length
  · refine .inr ⟨⟨xs,xs[i],q,by simp [hlt]⟩,Pv (i + 1),fun τ' H' p'=>⟨xs.length - (i + 1),by omega,rfl,hlt,p'⟩,fun x H' y=>?_⟩
    obtain ⟨e,y⟩:=y
    subst e
    exact hs i x τ _ (y xs q) p
  · have e:i=xs.length:=by omega
    subst e
    exact .inl ⟨⟨xs,q,Nat.le_refl _⟩,hd τ H p⟩
def N8 (wi:TI) (cap:List (Option Nat)) (g:TG) (tc:TT) (te:TE):TE:=fun σ H Q=>wi σ H fun J H1=>∀ acc,H1 acc=none→qD J acc g tc te (Bk cap σ) H1 (fun H2=>Q (.ref acc) H2)
abbrev V6 (ifs:List Expr) (env:Env):Sem Bool:=forIn ifs true fun c r=>if r=true then do let ok ← isTrue c env (eval c env);pure (ForInStep.yield ok) else pure (ForInStep.yield r)
abbrev wpQ {α:Type} (prog:Program) (w:World) (A:Around) (m:Sem α) (Q:α→Shared→Prop) (s:Shared):Prop:=wpAny (model prog w) A m Q (fun _ _=>False) s
theorem Bg {prog:Program} {w:World} {A:Around} {R:Result→Shared→Prop} {s:Shared} {elt target iter:Expr} {ifs:List Expr} {scope:Scope} {pos:Pos} {it acc:Value} {env:Env} (I:Nat→Shared→Prop)
    (turn:∀ k s0,I k s0→wpQ prog w A (pyNext it) (fun r s1=>(r=none∧R (.ok .next) s1)∨∃ v,r=some v ∧
      wpQ prog w A (letOwnedTupleGo target it v) (fun _ s2=>wpQ prog w A (assign target env v) (fun _ s3=>wpQ prog w A (V6 ifs env) (fun ok s4 =>
        (ok=false∧∃ m,m<k∧I m s4)∨(ok=true∧wpQ prog w A (eval elt env) (fun x s5=>wpQ prog w A (call (.builtin "list.append") [acc,x]) (fun _ s6=>∃ m,m<k∧I m s6) s5) s4)) s3) s2) s1) s0)
    (k:Nat) (h:I k s):codeAny (model prog w) A (.compLoop (.ListComp elt [⟨target,iter,ifs,0⟩] scope pos) 0 it acc env) R s:=by
  have quiet:∀ (e:Value) (s':Shared),False→notedBy (model prog w) A env (fun e s'=>R (.error e) s') e s':=fun _ _ z=>z.elim
  apply codeAny_loop rfl I _ k h
  intro k s0 start
  apply wpAny_noted
  rw [compTurn_list]
  apply wpAny_bind
  apply wpAny_standAt
  apply wpAny_bind
  apply wpAny_mono (turn k s0 start) _ quiet
  rintro r s1 (⟨rfl,stop⟩ | ⟨v,rfl,rest⟩)
  · exact wpAny_pure stop
  apply wpAny_bind
  apply wpAny_mono rest _ quiet
  intro _ s2 h2
  apply wpAny_bind
  apply wpAny_mono h2 _ quiet
  intro _ s3 h3
  apply wpAny_bind
  apply wpAny_mono h3 _ quiet
  rintro ok s4 (⟨rfl,skip⟩ | ⟨rfl,add⟩)
  · exact wpAny_pure ⟨rfl,skip⟩
  apply wpAny_bind
  apply wpAny_bind
  apply wpAny_mono add _ quiet
  intro x s5 h5
  apply wpAny_bind
  apply wpAny_mono h5 _ quiet
  intro _ s6 h6
  exact wpAny_pure (wpAny_pure ⟨rfl,h6⟩)
section
variable {X:Cx} {tg iter elt:Expr} {ifs:List Expr} {scope:Scope} {pos:Pos} {wi:TI} {N':List Str} {cap:List (Option Nat)} {g:TG} {tc:TT} {te:TE}
theorem pI {use:Option (Value→Sem Unit)} {R:Value→Shared→Prop} (sc:Scope) (hsc:X.env.scope=sc) (N₀:List Str) (hN₀:X.N=N₀) (f1:freeOk sc scope=true) (f2:Cd scope=true) (f3:Dn scope N₀ N' cap=true) (hcalm:X.calm=true)
    (hi:PI X tg iter wi)
    (hg:∀ (s:Shared) (H:Hp) (ex:List Addr),PG (kJ X scope N' s H ex) tg g)
    (hc:∀ (s:Shared) (H:Hp) (ex:List Addr),PTs (kJ X scope N' s H ex) ifs tc)
    (he:∀ (s:Shared) (H:Hp) (ex:List Addr),PE (kJ X scope N' s H ex) elt te)
    (hs:∀ x,foldedSetIterable iter X.env x=pure x)
    {pins:List (Addr × Obj)} {s:Shared} {σ:St} {H:Hp} {Q:V→Hp→Prop} (I:Inv X pins σ H s) (h:N8 wi cap g tc te σ H Q)
    (fin:∀ (acc C:Addr) (s':Shared) (H':Hp) (m:Str→Option Value),Inv X pins σ H' s'→s'.heap.Ns C m→H' C=none→C≠X.env.locals→X.s₀.heap.objs.size≤C→(∀ x c,X.env.cells.lookup x=some c→c≠C)→(∀ p∈X.pn++pins,p.1≠C)→Q (.ref acc) H' →
      compPost (model X.prog X.w) X.A X.xe use R (.ref acc) C (.ok .next) s') :
    wpAny (model X.prog X.w) X.A (comprehension (.ListComp elt [⟨tg,iter,ifs,0⟩] scope pos) scope X.env (firstIterPos [⟨tg,iter,ifs,0⟩] pos) (newList []) false (firstIter [⟨tg,iter,ifs,0⟩] X.env) use) R X.xe s:=by
  have ok:=I.ok
  have fr:∀ y∈scope.names,y.2=.free→X.env.kindOf y.1=some .cell∨X.env.kindOf y.1=some .free:=fun y hy e=>by
    have q:=List.all_eq_true.mp f1 y hy
    rw [e] at q
    have q':((sc.names.lookup y.1 == some NameKind.cell) || (sc.names.lookup y.1 == some NameKind.free))=true:=by simpa using q
    rw [Bool.or_eq_true] at q'
    unfold Env.kindOf
    rw [hsc]
    rcases q' with z | z
    · exact .inl (by simpa using z)
    · exact .inr (by simpa using z)
  obtain ⟨⟨k1,k2⟩,k3⟩:((scope.kind == .function)=true∧(scope.names.all fun y=>y.2 != .cell)=true)∧(scope.names.all fun y=>y.2 != .local || scope.names.lookup y.1 == some .local)=true:=by
    unfold Cd at f2
    rw [Bool.and_eq_true,Bool.and_eq_true] at f2
    exact f2
  have hkind:scope.kind=.function:=by simpa using k1
  have hcell:∀ y∈scope.names,y.2≠.cell:=fun y hy=>by
    have q:=List.all_eq_true.mp k2 y hy
    simpa using q
  have hnames:∀ y∈scope.names,y.2=.local→scope.names.lookup y.1=some .local:=fun y hy e=>by
    have q:=List.all_eq_true.mp k3 y hy
    rw [e] at q
    simpa using q
  have hclos:closureFor scope X.env=pure (clo X.env.cells scope.names []):=oV fun y hy e=>ok.has y.1 (fr y hy e)
  have clX:∀ x c,(clo X.env.cells scope.names []).lookup x=some c→X.env.cells.lookup x=some c:=fun x c e=>by
    have e1:=Qn e
    have hx:(x,NameKind.free)∈scope.names:=by
      rcases uZ [] (PySem.mem_of_lookup e) with z | z
      · exact nomatch z
      · exact z
    obtain ⟨c',e2⟩:=ok.has x (fr (x,.free) hx rfl)
    rw [e2] at e1 ⊢
    rw [e1];rfl
  refine wpAny_comprehension_free (use:=use) rfl hs hclos hkind hnames ?_
  show wpAny (model X.prog X.w) X.A (eval iter X.env) _ X.xe s
  refine thn (hi pins s σ H _ I h) fun v s1 h1=>thn h1 fun itv s2 h2=>?_
  obtain ⟨it,fp,tn,J,H2,e,I2,T,st2,f2',h3⟩:=h2
  subst e
  refine wpAny_newObj_type ?_
  have fresh2:H2 s2.heap.objs.size=none:=I2.hok.fresh (Nat.le_refl _)
  have I3:Inv X pins σ (upd H2 s2.heap.objs.size (.lst [])) { s2 with heap:=s2.heap.push { cls:=.type "list",data:=.seq ([]:List Value).toArray } } :=
    I2.laid (t':=s2.toks) (fun b o e=>Heap.get?_push_of_some _ e) (Nat.le_refl _) ⟨Nat.zero_le _,[],0,.nil,Heap.get?_push_size _ rfl⟩
  have st3:tn 0 (s2.heap.push { cls:=.type "list",data:=.seq ([]:List Value).toArray }):=T.keep _ _ _ st2 fun b _ o e=>Heap.get?_push_of_some _ e
  have fpne:∀ b∈fp,b≠s2.heap.objs.size:=fun b hb z=>by
    obtain ⟨o,eo,_⟩:=T.obj 0 _ st2 b hb
    exact absurd (Heap.lt_size eo) (by rw [z];exact Nat.lt_irrefl _)
  have fp3:∀ b∈fp,Du X pins (upd H2 s2.heap.objs.size (.lst [])) b:=fun b hb=>by
    obtain ⟨a0,a1⟩:=f2' b hb
    exact ⟨by rw [bC (fpne b hb)];exact a0,a1⟩
  obtain ⟨W,⟨m0,w0⟩,turn⟩:=h3 s2.heap.objs.size fresh2
  generalize hacc:s2.heap.objs.size=acc at I3 fp3 w0 turn fpne ⊢
  generalize hs3:({ s2 with heap:=s2.heap.push { cls:=.type "list",data:=.seq ([]:List Value).toArray } }:Shared)=s3 at I3 ⊢
  have st3:tn 0 s3.heap:=by rw [← hs3];exact st3
  have accTr:(upd H2 acc (.lst [])) acc=some (.lst []):=cG
  refine wpAny_newFunctionEnv hcell (by intro y hy;cases hy) (fun h4 hns hsb=>?_) hkind
  have hCf:s3.heap.get? s3.heap.objs.size=none:=Heap.get?_none_of_le (Nat.le_refl _)
  have kp4:∀ b o,s3.heap.get? b=some o→h4.get? b=some o:=fun b o e=>hsb.extBut b o (Nat.ne_of_lt (Heap.lt_size e)) (Heap.get?_push_of_some _ e)
  let Y:Cx:=kJ X scope N' s3 (upd H2 acc (.lst [])) fp
  have envY:Y.env=compEnvC scope (clo X.env.cells scope.names []) s3.heap.objs.size X.env:=rfl
  have okY:Y.Ok:=by
    refine ⟨ok.mod,?_,ok.glob,ok.blt,Nat.le_refl _,?_,?_,?_,ok.hd,ok.frames,.inl rfl,?_,?_,?_,?_,?_,?_,?_⟩
    · show (relabel scope X.env).kind=.function
      exact hkind
    · exact fun x y c h1 h2=>ok.inj x y c (clX x c h1) (clX y c h2)
    · intro x hx
      have hx':(relabel scope X.env).names.lookup x=some .cell∨(relabel scope X.env).names.lookup x=some .free:=hx
      have hm:(x,NameKind.free)∈scope.names:=by
        rcases hx' with z | z
        · exact mH (.inl rfl) hcell z
        · exact mH (.inr rfl) hcell z
      exact Option.isSome_iff_exists.mp (tY scope.names [] x hm)
    · intro x c hx h1
      have hx':((clo X.env.cells scope.names []).lookup x).isNone=true:=hx
      have h1':(clo X.env.cells scope.names []).lookup x=some c:=h1
      rw [h1'] at hx';cases hx'
    · intro b hb
      obtain ⟨q0,q1,q2,q3,q4,q5⟩:=fp3 b hb
      refine ⟨?_,fun x c h1=>q4 x c (clX x c h1)⟩
      obtain ⟨o,eo,_⟩:=T.obj 0 _ st3 b hb
      exact Nat.ne_of_lt (Heap.lt_size eo)
    · exact fun b o e=>I3.bs b o e
    · exact Nat.le_trans ok.bsz I3.sz
    · intro b o e hb
      obtain ⟨q0,q1,q2,q3,q4,q5⟩:=fp3 b hb
      rcases q3 with z | z
      · exact ok.noex b o e z
      · exact absurd (Nat.lt_of_lt_of_le (Heap.lt_size e) (Nat.le_trans ok.bsz z)) (Nat.lt_irrefl _)
    · intro b hb hf
      obtain ⟨q0,q1,q2,q3,q4,q5⟩:=fp3 b hb
      rcases List.mem_cons.mp (I3.vQ b hf) with z | z
      · exact q1 z
      · exact q2 z
    · exact I3.stack
    · exact I3.sE
  have capl:cap.length=N'.length∧∀ p∈N'.zip cap,(match p.2 with | none=>true | some j=>N₀[j]? == some p.1 && scope.names.lookup p.1 == some .free)=true:=by
    unfold Dn at f3
    rw [Bool.and_eq_true] at f3
    exact ⟨by simpa using f3.1,fun p hp=>List.all_eq_true.mp f3.2 p hp⟩
  have IY:Inv Y [] (Bk cap σ) (upd H2 acc (.lst [])) { s3 with heap:=h4,toks:=s3.toks + ([]:List (Str × Value)).length }:=by
    refine ⟨okY,rfl,I3.bare,Un.kept kp4,⟨_,hns,?_⟩,?_,?_,?_,fun p hp=>absurd (show p∈([]:List (Addr × Obj)) from hp) (by simp),I3.hok.kept kp4,?_⟩
    · intro i x v e1 e2 e3
      have e1':N'[i]?=some x:=e1
      unfold Bk at e2
      rw [List.getElem?_map] at e2
      cases ec:cap[i]? with
      | none=>rw [ec] at e2;cases e2
      | some o =>
        rw [ec] at e2
        cases o with
        | none=>cases e2
        | some j =>
          have e2':(σ[j]?).bind id=some v:=by simpa using e2
          have hz:(x,some j)∈N'.zip cap:=by
            refine List.mem_of_getElem? (i:=i) ?_
            rw [List.getElem?_zip_eq_some]
            exact ⟨e1',ec⟩
          have q:=capl.2 _ hz
          have q':(N₀[j]? == some x)=true∧(scope.names.lookup x == some NameKind.free)=true:=by simpa [Bool.and_eq_true] using q
          have q1:X.N[j]?=some x:=by rw [hN₀];simpa using q'.1
          have q2:scope.names.lookup x=some .free:=by simpa using q'.2
          have eσ:σ[j]?=some (some v):=by
            cases z:σ[j]? with
            | none=>rw [z] at e2';cases e2'
            | some y =>
              rw [z] at e2'
              have:y=some v:=e2'
              rw [this]
          have hk:=fr (x,.free) (PySem.mem_of_lookup q2) rfl
          obtain ⟨m,hn,hl⟩:=I3.loc
          have vis:Vis X.env.scope x:=by
            rcases hk with z | z
            · exact .inr (.inl z)
            · exact .inr (.inr z)
          obtain ⟨u,r,l⟩:=hl j x v q1 eσ vis
          refine ⟨u,r,.inr ⟨?_,?_⟩⟩
          · rcases qR (scope:=scope) (env:=X.env) q2 with z | z
            · exact .inl z
            · exact .inr z
          · rcases l with ⟨kl,_⟩ | ⟨_,c,ecx,hcx⟩
            · rcases hk with z | z
              · have z':X.env.kindOf x=some .cell:=z
                rw [kl] at z';cases z'
              · have z':X.env.kindOf x=some .free:=z
                rw [kl] at z';cases z'
            · have hh:=tY (cells:=X.env.cells) scope.names [] x (PySem.mem_of_lookup q2)
              obtain ⟨c',ec'⟩:=Option.isSome_iff_exists.mp hh
              have ec2:=clX x c' ec'
              rw [ecx] at ec2
              cases ec2
              exact ⟨c,ec',hcx.keeps kp4⟩
    · intro x c e
      obtain ⟨v,z⟩:=I3.cell x c (clX x c e)
      exact ⟨v,z.keeps kp4⟩
    · exact I3.hok.fresh (Nat.le_refl _)
    · exact fun x c e=>I3.freeC x c (clX x c e)
    · show (Bk cap σ).length=N'.length
      unfold Bk
      rw [List.length_map];exact capl.1
  have fpY:∀ {H':Hp},(∀ b∈fp,H' b=none)→∀ b∈fp,Du Y [] H' b:=fun {H'} hn b hb=>by
    obtain ⟨q0,q1,q2,q3,q4,q5⟩:=fp3 b hb
    refine ⟨hn b hb,(okY.exf b hb).1,okY.exfs b hb,.inl hb,(okY.exf b hb).2,fun p hp=>absurd (show p∈([]:List (Addr × Obj)) from hp) (by simp)⟩
  have st4:tn 0 h4:=T.keep _ _ _ st3 fun b _ o e=>kp4 b o e
  have back:∀ {τ:St} {H':Hp} {s':Shared},Inv Y [] τ H' s'→Q (.ref acc) H'→compPost (model X.prog X.w) X.A X.xe use R (.ref acc) s3.heap.objs.size (.ok .next) s':=fun {τ H' s'} J q=>by
    have un:Un (frs X.stack) fp (upd H2 acc (.lst [])) H' s3.heap s'.heap:=J.base
    have IX:Inv X pins σ H' s':=I3.call' (J.os) un J.hok J.bare fun b hb=>by
      obtain ⟨q0,q1,q2,q3,q4,q5⟩:=fp3 b hb
      exact ⟨q3,q1,q4,q5⟩
    obtain ⟨m,hn,_⟩:=J.loc
    refine fin acc s3.heap.objs.size s' H' m IX hn J.free (Nat.ne_of_gt I3.lt) I3.sz (fun x c e z=>?_) (fun p hp z=>?_) q
    · obtain ⟨v,q⟩:=I3.cell x c e
      exact absurd q.lt (by rw [z];exact Nat.lt_irrefl _)
    · exact absurd (Heap.lt_size (I3.pin p hp).1) (by rw [z];exact Nat.lt_irrefl _)
  have loop:∀ s5:Shared,s5={ s3 with heap:=h4,toks:=s3.toks + ([]:List (Str × Value)).length } →
      codeAny (model X.prog X.w) X.A (.compLoop (.ListComp elt [⟨tg,iter,ifs,0⟩] scope pos) 0 (.ref it) (.ref acc) Y.env) (compPost (model X.prog X.w) X.A X.xe use R (.ref acc) s3.heap.objs.size) s5:=by
    rintro s5 rfl
    refine Bg (fun n s'=>∃ i τ H',Inv Y [] τ H' s'∧tn i s'.heap∧(∀ b∈fp,H' b=none)∧W i n τ H') ?_ m0 ⟨0,_,_,IY,st4,fun b hb=>(fp3 b hb).1,w0⟩
    rintro n s6 ⟨i,τ,H6,I6,st6,fr6,w6⟩
    rcases turn i n τ H6 w6 with ⟨stop,q⟩ | ⟨go,N,hN,step⟩
    · refine wpAny_mono (T.done Y rfl rfl rfl hcalm i [] s6 τ H6 (fun _ _=>False) I6 (fpY fr6) st6 stop) (fun r s7 ⟨hr,I7⟩=>?_) fun _ _ z=>z.elim
      exact .inl ⟨hr,back I7 q⟩
    · refine wpAny_mono (T.item Y rfl rfl rfl hcalm i [] s6 τ H6 (fun _ _=>False) I6 (fpY fr6) st6 go) (fun r s6b ⟨u,hr,h7⟩=>?_) fun _ _ z=>z.elim
      refine .inr ⟨u,hr,?_⟩
      refine wpAny_mono h7 (fun _ s7 ⟨x,H7,I7,r7,y7,st7,fr7⟩=>?_) fun _ _ z=>z.elim
      have I7':=I7.pinned (fpY fr7) (T.obj _ _ st7)
      have again:∀ {τ8:St} {H8:Hp} {s8:Shared},Inv Y ([]++qW fp s7.heap) τ8 H8 s8→N τ8 H8→∃ m,m<n∧∃ i τ H',Inv Y [] τ H' s8∧tn i s8.heap∧(∀ b∈fp,H' b=none)∧W i m τ H':=fun {τ8 H8 s8} I8 n8=>by
        obtain ⟨m',hm,w8⟩:=hN τ8 H8 n8
        refine ⟨m',hm,i + 1,τ8,H8,I8.nj,T.keep _ _ _ st7 fun b hb o e=>(I8.pin (b,o) (List.mem_append_right _ (List.mem_append_right _ (j5 hb e)))).1,fun b hb=>?_,w8⟩
        obtain ⟨o,e,d⟩:=T.obj _ _ st7 b hb
        exact (I8.pin (b,o) (List.mem_append_right _ (List.mem_append_right _ (j5 hb e)))).2.1
      refine wpAny_mono (hg s3 (upd H2 acc (.lst [])) fp _ s7 τ H7 x u _ I7' r7 (step x H7 y7)) (fun _ s8 ⟨τ8,H8,I8,q8⟩=>?_) fun _ _ z=>z.elim
      refine wpAny_mono (hc s3 (upd H2 acc (.lst [])) fp _ s8 τ8 H8 _ I8 q8) (fun b s9 ⟨H9,I9,q9⟩=>?_) fun _ _ z=>z.elim
      cases b with
      | false =>
        rw [if_neg Bool.false_ne_true] at q9
        exact .inl ⟨rfl,again I9 q9⟩
      | true =>
        rw [if_pos rfl] at q9
        refine .inr ⟨rfl,?_⟩
        refine wpAny_mono (he s3 (upd H2 acc (.lst [])) fp _ s9 τ8 H9 _ I9 q9) (fun y s10 ⟨yv,H10,I10,r10,ys,hl,hz,q10⟩=>?_) fun _ _ z=>z.elim
        refine wpAny_mono (cu (X:=Y) _ s10 τ8 H10 (.ref acc) [yv] (.ref acc) [y] (fun v H'=>N τ8 H') I10 rfl (.cons r10 .nil) ⟨acc,ys,yv,rfl,rfl,hl,hz,q10⟩) (fun v s11 ⟨vv,H11,I11,r11,q11⟩=>?_) fun _ _ z=>z.elim
        exact again I11 q11
  exact codeAny_compStart_list (loop _ rfl) (T.self _ _ _ _ _ st4 (loop _ rfl))
theorem lW (sc:Scope) (hsc:X.env.scope=sc) (N₀:List Str) (hN₀:X.N=N₀) (N':List Str) (cap:List (Option Nat)) (f1:freeOk sc scope=true) (f2:Cd scope=true) (f3:Dn scope N₀ N' cap=true) (hcalm:X.calm=true)
    (hi:PI X tg iter wi)
    (hg:∀ (s:Shared) (H:Hp) (ex:List Addr),PG (kJ X scope N' s H ex) tg g)
    (hc:∀ (s:Shared) (H:Hp) (ex:List Addr),PTs (kJ X scope N' s H ex) ifs tc)
    (he:∀ (s:Shared) (H:Hp) (ex:List Addr),PE (kJ X scope N' s H ex) elt te)
    (hs:∀ x,foldedSetIterable iter X.env x=pure x:=by intro _;rfl) :
    PE X (.ListComp elt [⟨tg,iter,ifs,0⟩] scope pos) (N8 wi cap g tc te):=by
  intro pins s σ H Q I h
  rw [eval_ListComp]
  refine pI (use:=none) sc hsc N₀ hN₀ f1 f2 f3 hcalm hi hg hc he hs I h ?_
  intro acc C s' H' m IX hn hC h1 h2 h3 h4 q
  refine ⟨m,hn,fun h'' hs''=>?_⟩
  exact ⟨.ref acc,H',IX.turned (t':=s'.toks) (fun b o hb e=>(hs''.2 b hb).trans e) hC h1 (.inr h2) h3 h4,rfl,q⟩
theorem iM {i:Nat} {x:Str} {pos' spos:Pos} (sc:Scope) (hsc:X.env.scope=sc) (N₀:List Str) (hN₀:X.N=N₀) (N':List Str) (cap:List (Option Nat)) (f1:freeOk sc scope=true) (f2:Cd scope=true) (f3:Dn scope N₀ N' cap=true) (hcalm:X.calm=true)
    (hnd:X.N.Nodup) (hix:X.N[i]?=some x) (hx:X.env.scope.names.lookup x=some .local)
    (hi:PI X tg iter wi)
    (hg:∀ (s:Shared) (H:Hp) (ex:List Addr),PG (kJ X scope N' s H ex) tg g)
    (hc:∀ (s:Shared) (H:Hp) (ex:List Addr),PTs (kJ X scope N' s H ex) ifs tc)
    (he:∀ (s:Shared) (H:Hp) (ex:List Addr),PE (kJ X scope N' s H ex) elt te)
    (hsw:swapsWith (.ListComp elt [⟨tg,iter,ifs,0⟩] scope pos) (some (.Name x pos')) spos.line X.env=pure true)
    (hs:∀ x,foldedSetIterable iter X.env x=pure x:=by intro _;rfl) :
    PS X (.Assign [.Name x pos'] (.ListComp elt [⟨tg,iter,ifs,0⟩] scope pos) spos) (Wf (N8 wi cap g tc te) (Ax i)):=by
  intro pins s σ H D I h
  rw [exec_Assign_Name_used _ _ _ _ hsw]
  refine wpAny_bind (wpAny_standAt (wpAny_bind ?_))
  show wpAny _ X.A (do let _ ← comprehension (.ListComp elt [⟨tg,iter,ifs,0⟩] scope pos) scope X.env _ (newList []) false (firstIter [⟨tg,iter,ifs,0⟩] X.env) (some (assign (.Name x pos') X.env))) _ _ s
  refine wpAny_bind (wpAny_mono (pI (use:=some (assign (.Name x pos') X.env)) (R:=fun _ s'=>SP X pins D .next s') sc hsc N₀ hN₀ f1 f2 f3 hcalm hi hg hc he hs I h ?_) (fun _ s' hq=>wpAny_pure (wpAny_pure hq)) fun _ _ e=>e)
  intro acc C s' H' m IX hn hC h1 h2 h3 h4 q
  show wpAny _ X.A (assign (.Name x pos') X.env (.ref acc)) _ _ _
  refine wpAny_assign_Name (qF (v:=.ref acc) IX hnd hix (.inl hx) rfl (fun s2 I2 hsb=>?_) (.inr hx))
  obtain ⟨a,sb,ha⟩:=hsb
  have hCa:C≠a:=by
    rcases ha with z | z
    · rw [z];exact h1
    · exact fun w=>h3 x a z w.symm
  refine ⟨m,hn.sameBut sb hCa,fun h'' hs''=>?_⟩
  exact ⟨_,H',I2.turned (t':=s2.toks) (fun b o hb e=>(hs''.2 b hb).trans e) hC h1 (.inr h2) h3 h4,q⟩
end
end L2
namespace L2
open PySem PySem.Spec PyProof.Rows
section
variable {X:Cx}
def Xh (K:PySem.W.Frag) (neg:Bool):R2:=fun x y H Q=>∃ (a b:Addr) (ns ms:List Int),x=.ref a∧y=.ref b∧SqL K H a (ns.map V.int)∧SqL K H b (ms.map V.int)∧Q (.bl (if neg then !decide (ns=ms) else decide (ns=ms))) H
theorem vA:∀ (bs:List Bool),((List.range bs.length).all fun i=>(bs[i]?).getD true)=bs.all id:=by
  intro bs
  rw [Bool.eq_iff_iff]
  simp only [List.all_eq_true,List.mem_range,id_eq]
  constructor
  · intro h b hb
    obtain ⟨i,hi,e⟩:=List.getElem_of_mem hb
    have:=h i hi
    rw [List.getElem?_eq_getElem hi,e] at this
    exact this
  · intro h i hi
    rw [List.getElem?_eq_getElem hi]
    exact h _ (List.getElem_mem hi)
theorem nu (hc:X.calm=true):oO X (.builtin "all") (fun xs H Q=>∃ (p:Addr) (bs:List Bool),xs=[.ref p]∧SqL X.K H p (bs.map V.bl)∧Q (.bl (bs.all id)) H):=by
  intro pins s σ H xs us Q I r h
  obtain ⟨p,bs,rfl,hq,q⟩:=h
  obtain ⟨u,rfl,ru⟩:=vals1 r
  cases ru
  obtain ⟨its,r1,p1,hz⟩:=I.list hq
  have hl:=p1.isList
  have hlt:p<s.heap.objs.size:=p1.lt
  have hlen:=r1.length
  rw [List.length_map] at hlen
  refine call_all_walk (wpAny_pyIter_list hl ?_)
  refine ⟨s.heap.objs.size,[s.heap.objs.size,p],[s.heap.objs.size],its.toArray.size,_,_,fun i=>(bs[i]?).getD true,rfl,Walks.list (A:=X.A.in1) (I.ok.hd hc) _ p (Nat.ne_of_lt hlt) its.toArray,
    ⟨⟨_,Heap.get?_push_size _ rfl,rfl,rfl⟩,hl.push _⟩,fun i v s' Q' E' hP hQ=>?_,fun h' tk hk=>?_⟩
  · have hP':its[i]?=some v:=by simpa using hP
    have hi:i<bs.length:=by
      have:=(List.getElem?_eq_some_iff.mp hP').1
      omega
    obtain ⟨u,eu,ru⟩:=r1.get (x:=.bl bs[i]) (by rw [List.getElem?_map,List.getElem?_eq_getElem hi];rfl)
    rw [hP'] at eu
    cases eu
    cases ru
    dsimp only at hQ
    rw [List.getElem?_eq_getElem hi] at hQ
    exact wpAny_truthy_bool hQ
  · have e:((List.range its.toArray.size).all fun i=>(bs[i]?).getD true)=bs.all id:=by
      rw [List.size_toArray,← hlen];exact vA bs
    rw [e]
    refine ⟨.bl _,H,I.kept fun b o eo=>hk b o (fun hm=>?_) (Heap.get?_push_of_some _ eo),rfl,q⟩
    rw [List.mem_singleton.mp hm] at eo
    exact Nat.lt_irrefl _ (Heap.lt_size eo)
end
end L2
namespace L2
open PySem PySem.Spec PyProof.Rows
section
variable {X:Cx} {st:Stmt} {rest:List Stmt} {t u:TS}
def Wo (t u:TS):TS:=fun D σ H=>∃ M:St→Hp→Prop,t { D with nx:=M } σ H∧∀ σ' H',M σ' H'→u D σ' H'
theorem gP (h1:PS X st t) (h2:PSs X rest u):PSs X (st :: rest) (Wo t u):=by
  intro pins s σ H D I h
  obtain ⟨M,ha,hb⟩:=h
  refine wpAny_execs_cons (thn (h1 pins s σ H { D with nx:=M } I ha) fun f s1 q=>?_)
  cases f with
  | next =>
    obtain ⟨σ',H',I',q⟩:=q
    exact h2 pins s1 σ' H' D I' (hb σ' H' q)
  | ret v=>exact q
  | brk=>exact q
  | cont=>exact q
end
end L2
namespace L2
open PySem PySem.Spec PyProof.Rows
def Xn (H:Hp) (P:List V→Prop) (Q:VK):Prop:=∀ (l:Addr) (H':Hp) (xs:List V),Same H H'→H l=none→H' l=some (.lst xs)→P xs→Q (.ref l) H'
structure Df (K:PySem.W.Frag) (mg:Str→Option Value) (x:Str) (st:Stmt) (ps:List Str) (a:Addr) (fd:FuncData):Prop where
  F:Fun K x x st a fd
  b:Binds K fd ps []
  m:mg x=some (.ref a)
theorem Same.upd {H H':Hp} {l:Addr} {o:HO} (s:Same H H') (h:H l=none):Same H (L2.upd H' l o):=fun b u e=>by
  rw [bC (cZ e h)];exact s b u e
theorem ints_get {ns:List Int} {i:Nat} {y:V} (h:(ns.map V.int)[i]?=some y):∃ z,ns[i]?=some z∧y=V.int z:=by
  rw [List.getElem?_map] at h
  cases e:ns[i]? with
  | none=>rw [e] at h;cases h
  | some z=>rw [e] at h;exact ⟨z,rfl,(Option.some.inj h).symm⟩
theorem aN {ns:List Int} {i:Nat} {z:Int} (h:ns[i]?=some z):atI (ns.map V.int) (i:Int)=some (V.int z):=cX (by rw [List.getElem?_map,h];rfl)
theorem j6 {ns:List Int} {i:Int} {z:Int} (h0:0≤i) (h:ns[i.toNat]?=some z):atI (ns.map V.int) i=some (V.int z):=by
  obtain ⟨k,rfl⟩:=Int.eq_ofNat_of_zero_le h0
  exact aN (by simpa using h)
theorem jT {n j:Nat} (h:j<n):ixN n (j:Int)=some j:=by
  unfold ixN
  rw [if_pos (by omega),if_pos (by omega)];simp
theorem j4 {n:Nat} (h:n≤100000):n≤sizeLine:=Nat.le_trans h (by decide)
theorem aR {n:Nat} (h:n≤100000):n<sizeLine:=Nat.lt_of_le_of_lt h (by decide)
structure Blt (mg:Str→Option Value):Prop where
  len:mg "len"=none
  range:mg "range"=none
  list:mg "list"=none
  isinstance:mg "isinstance"=none
  bool:mg "bool"=none
  int:mg "int"=none
  all:mg "all"=none
  min:mg "min"=none
  max:mg "max"=none
  sum:mg "sum"=none
  sorted:mg "sorted"=none
  zip:mg "zip"=none
  tuple:mg "tuple"=none
  str:mg "str"=none
  any:mg "any"=none
  enumerate:mg "enumerate"=none
  reversed:mg "reversed"=none
  abs:mg "abs"=none
  ValueError:mg "ValueError"=none
  set:mg "set"=none
structure Mth (mg:Str→Option Value):Prop where
  MOUTH:∃ t,mg "MOUTH"=some (.int (-1) t)
section
variable {X:Cx} {K:PySem.W.Frag}
theorem lJ (h:X.K=K):IxR X (Xg K):=h ▸ aD
theorem nZ (h:X.K=K):IxR X (Xf K):=h ▸ aV
theorem qt (h:X.K=K):oO X (.builtin "len") (fun xs H Q=>∃ p ys,xs=[.ref p]∧(SqL K H p ys∨SqT K H p ys)∧Q (.int ys.length) H):=h ▸ aM
end
end L2
namespace L2
open PySem PySem.W PyProof.Rows
section
variable {N:Nat} {κ:Nat→Int} {R:Shared→Prop} {cmp:Nat→Nat→(Bool→Shared→Prop)→Shared→Prop}
def Cmp (N:Nat) (κ:Nat→Int) (R:Shared→Prop) (cmp:Nat→Nat→(Bool→Shared→Prop)→Shared→Prop):Prop :=
  ∀ i j C s,i<N→j<N→R s→(∀ s',R s'→C (decide (κ i<κ j)) s')→cmp i j C s
def Inj (N:Nat) (κ:Nat→Int):Prop:=∀ i j,i<N→j<N→i≠j→κ i≠κ j
variable (hc:Cmp N κ R cmp) (hI:Inj N κ)
include hc hI
end
end L2
namespace L2
open PySem PySem.Spec PyProof.Rows
section
variable {X:Cx} {pins:List (Addr × Obj)} {σ:St} {H:Hp} {s:Shared} {a:Addr} {o:HO}
theorem Inv.adopt (I:Inv X pins σ H s) (hn:H a=none) (hL:a≠X.env.locals) (h0:X.s₀.heap.objs.size≤a) (hc:∀ x c,X.env.cells.lookup x=some c→c≠a) (hp:∀ p∈X.pn++pins,p.1≠a)
    (new:jk X.prog X.w (upd H a o) s.heap a o):Inv X pins σ (upd H a o) s:=by
  have ne:∀ b u,H b=some u→b≠a:=fun b u e=>cZ e hn
  refine ⟨I.ok,I.os,I.bare,⟨I.base.keep,I.base.slot,fun b ob e n hx=>?_,I.base.there,fun b xs e=>?_,fun b ob xs e=>?_,fun b ps e=>?_⟩,I.loc,I.cell,?_,fun x c e=>?_,fun p hq=>?_,fun b u e=>?_,I.len⟩
  · rw [bC (Nat.ne_of_lt (Nat.lt_of_lt_of_le (Heap.lt_size e) h0))];exact I.base.free b ob e n hx
  · have:=I.base.tups b xs e;rw [bC (ne b _ this)];exact this
  · have:=I.base.frzs b ob xs e;rw [bC (ne b _ this)];exact this
  · obtain ⟨m,e1⟩:=I.base.tbls b ps e;exact ⟨m,by rw [bC (ne b _ e1)];exact e1⟩
  · rw [bC hL.symm];exact I.free
  · rw [bC (hc x c e)];exact I.freeC x c e
  · obtain ⟨e1,n,r⟩:=I.pin p hq;exact ⟨e1,by rw [bC (hp p hq)];exact n,r⟩
  · by_cases hb:b=a
    · subst hb;rw [cG] at e;cases e;exact new
    · rw [bC hb] at e
      exact (I.hok b u e).stay (fun _ _ _ q=>q) (fun c q=>by rw [bC (ne c _ q)];exact q) fun c xs q=>by rw [bC (ne c _ q)];exact q
end
end L2
namespace L2
open PySem PySem.W PySem.Spec PyProof.Rows
end L2
namespace L2
open PySem PySem.W PySem.Spec PyProof.Rows
end L2
namespace L2
open PySem PySem.W PySem.Spec PyProof.Rows
end L2
namespace L2
open PySem PySem.W PySem.Spec PyProof.Rows
end L2
namespace L2
open PySem PySem.W PySem.Spec PyProof.Rows
section
variable {X:Cx} {pins:List (Addr × Obj)} {σ:St} {H:Hp} {s:Shared}
def TabOk (P:Addr) (pos:Pos) (qual:Str) (H:Hp):Prop:=H P=some (.tbl #[])∨∃ c':Addr,H P=some (.tbl #[rawInt pos.line,rawInt pos.col,.ref c'])∧H c'=some (.ext fun h=>h.CodeRec (.ref c') qual)
end
end L2
namespace L2
open PySem PySem.W PySem.Spec PyProof.Rows
end L2
namespace L2
open PySem PySem.W PySem.Spec PyProof.Rows
end L2
namespace L2
open PySem PySem.Spec PyProof.Rows
mutual
inductive Den (K:PySem.W.Frag) (H:Hp):V→PyData→Prop
  | non:Den K H .non .none
  | bl (b:Bool):Den K H (.bl b) (.bool b)
  | int (i:Int):Den K H (.int i) (.int i)
  | str (x:Str):Den K H (.str x) (.str x)
  | list {a:Addr} {xs:List V} {ds:List PyData}:SqL K H a xs→dM K H xs ds→Den K H (.ref a) (.list ds)
  | tuple {a:Addr} {xs:List V} {ds:List PyData}:SqT K H a xs→dM K H xs ds→Den K H (.ref a) (.tuple ds)
inductive dM (K:PySem.W.Frag) (H:Hp):List V→List PyData→Prop
  | nil:dM K H [] []
  | cons {v:V} {vs:List V} {d:PyData} {ds:List PyData}:Den K H v d→dM K H vs ds→dM K H (v :: vs) (d :: ds)
end
theorem dM.length {K:PySem.W.Frag} {H:Hp}:∀ {vs:List V} {ds:List PyData},dM K H vs ds→vs.length=ds.length
  | _,_,.nil=>rfl
  | _,_,.cons _ hs=>by rw [List.length_cons,List.length_cons,dM.length hs]
theorem dM.append {K:PySem.W.Frag} {H:Hp}:∀ {vs ws:List V} {ds es:List PyData},dM K H vs ds→dM K H ws es→dM K H (vs++ws) (ds++es)
  | _,_,_,_,.nil,h=>h
  | _,_,_,_,.cons h hs,h'=>.cons h (dM.append hs h')
theorem dM.get {K:PySem.W.Frag} {H:Hp}:∀ {vs:List V} {ds:List PyData} {i:Nat} {d:PyData},dM K H vs ds→ds[i]?=some d→∃ v,vs[i]?=some v∧Den K H v d
  | _,_,_,_,.nil,e=>by simp at e
  | _,_,0,_,.cons h _,e=>by simp at e;subst e;exact ⟨_,rfl,h⟩
  | _,_,i + 1,d,.cons _ hs,e=>by
    obtain ⟨v,h1,h2⟩:=dM.get (i:=i) (d:=d) hs (by simpa using e)
    exact ⟨v,by simpa using h1,h2⟩
theorem dM.get' {K:PySem.W.Frag} {H:Hp}:∀ {vs:List V} {ds:List PyData} {i:Nat} {v:V},dM K H vs ds→vs[i]?=some v→∃ d,ds[i]?=some d∧Den K H v d
  | _,_,_,_,.nil,e=>by simp at e
  | _,_,0,_,.cons h _,e=>by simp at e;subst e;exact ⟨_,rfl,h⟩
  | _,_,i + 1,v,.cons _ hs,e=>by
    obtain ⟨d,h1,h2⟩:=dM.get' (i:=i) (v:=v) hs (by simpa using e)
    exact ⟨d,by simpa using h1,h2⟩
theorem dM.set {K:PySem.W.Frag} {H:Hp} {v:V} {d:PyData} (h:Den K H v d):∀ {vs:List V} {ds:List PyData} (i:Nat),dM K H vs ds→dM K H (vs.set i v) (ds.set i d)
  | _,_,_,.nil=>.nil
  | _,_,0,.cons _ hs=>.cons h hs
  | _,_,i + 1,.cons q hs=>.cons q (dM.set h i hs)
theorem dM.ints {K:PySem.W.Frag} {H:Hp}:∀ (ns:List Int),dM K H (ns.map V.int) (ns.map PyData.int)
  | []=>.nil
  | n :: ns=>.cons (.int n) (dM.ints ns)
def Bf (ns:List Int):PyData:=.list (ns.map PyData.int)
theorem Den.ints {K:PySem.W.Frag} {H:Hp} {a:Addr} {ns:List Int} (h:SqL K H a (ns.map V.int)):Den K H (.ref a) (Bf ns):=.list h (dM.ints ns)
theorem dM.int_inv {K:PySem.W.Frag} {H:Hp}:∀ {vs:List V} {ns:List Int},dM K H vs (ns.map PyData.int)→vs=ns.map V.int
  | _,[],.nil=>rfl
  | _,n :: ns,.cons h hs=>by
    cases h
    rw [dM.int_inv hs];rfl
section
variable {X:Cx} {pins:List (Addr × Obj)} {σ:St} {H:Hp} {s:Shared}
mutual
theorem Den.reads (I:Inv X pins σ H s):∀ {v:V} {d:PyData} {u:Value},Den X.K H v d→RelV v u→∃ as,Reads s.heap u d as
  | _,_,_,.non,r=>by cases r;exact ⟨_,.none⟩
  | _,_,_,.bl b,r=>by cases r;exact ⟨_,.bool b⟩
  | _,_,_,.int i,r=>by obtain ⟨t,rfl⟩:=r;exact ⟨_,.int i t⟩
  | _,_,_,.str x,r=>by obtain ⟨t,rfl⟩:=r;exact ⟨_,.str x t⟩
  | _,_,_,.list h hs,r=>by
    cases r
    obtain ⟨its,r1,⟨o,n,e,c,_,d⟩,_⟩:=I.list h
    obtain ⟨as,q⟩:=dM.reads I hs r1
    exact ⟨_,.list e c d (by simpa using q)⟩
  | _,_,_,.tuple h hs,r=>by
    cases r
    obtain ⟨its,r1,⟨o,e,c,n,d⟩,_⟩:=I.tuple h
    obtain ⟨as,q⟩:=dM.reads I hs r1
    exact ⟨_,.tuple e c d (by simpa using q)⟩
theorem dM.reads (I:Inv X pins σ H s):∀ {vs:List V} {ds:List PyData} {us:List Value},dM X.K H vs ds→Vals vs us→∃ as,ReadsAll s.heap us ds as
  | _,_,_,.nil,r=>by cases r;exact ⟨_,.nil⟩
  | _,_,_,.cons h hs,r=>by
    cases r with
    | cons r1 r2 =>
      obtain ⟨as,q⟩:=Den.reads I h r1
      obtain ⟨bs,q'⟩:=dM.reads I hs r2
      exact ⟨_,.cons q q'⟩
end
def Xi (K:PySem.W.Frag) (neg:Bool):R2:=fun x y H Q=>∃ d e,Den K H x d∧Den K H y e∧SeqAt.shaped d=true∧SeqAt.shaped e=true∧Q (.bl (if neg then !PyData.eqv d e else PyData.eqv d e)) H
theorem Q8 (hu:X.A.units + 64<cLine):OpR X (compareOp .Eq) (Xi X.K false):=by
  intro pins s σ H x y v u Q I rx ry h
  obtain ⟨d,e,hd,he,sd,se,q⟩:=h
  obtain ⟨as,ra⟩:=hd.reads I rx
  obtain ⟨bs,rb⟩:=he.reads I ry
  exact SeqAt.compareEq_shaped ra rb sd se hu ⟨.bl _,H,I,rfl,q⟩
theorem qZ (hu:X.A.units + 64<cLine):OpR X (compareOp .NotEq) (Xi X.K true):=by
  intro pins s σ H x y v u Q I rx ry h
  obtain ⟨d,e,hd,he,sd,se,q⟩:=h
  obtain ⟨as,ra⟩:=hd.reads I rx
  obtain ⟨bs,rb⟩:=he.reads I ry
  exact SeqAt.compareNe_shaped ra rb sd se hu ⟨.bl _,H,I,rfl,q⟩
end
def Sh (n:Nat) (d:PyData):Prop:=d.canLay0=true∧d.depth≤n
theorem Bl:∀ {ds:List PyData},(∀ d∈ds,d.canLay0=true)→PyData.canLayAll0 ds=true
  | [],_=>rfl
  | d :: ds,h=>by rw [PyData.canLayAll0,h d List.mem_cons_self,Bl fun x hx=>h x (List.mem_cons_of_mem _ hx)];rfl
theorem Ay {n:Nat}:∀ {ds:List PyData},(∀ d∈ds,d.depth≤n)→PyData.depthAll ds≤n
  | [],_=>by simp [PyData.depthAll]
  | d :: ds,h=>by
    have h1:=h d List.mem_cons_self
    have h2:=Ay fun x hx=>h x (List.mem_cons_of_mem _ hx)
    simp only [PyData.depthAll]
    omega
theorem Sh.int (n:Nat) (i:Int):Sh n (.int i):=⟨rfl,by simp [PyData.depth]⟩
theorem Sh.list {n:Nat} {ds:List PyData} (h:∀ d∈ds,Sh n d):Sh (n + 1) (.list ds):=⟨by rw [PyData.canLay0];exact Bl fun d hd=>(h d hd).1,by
  have:=Ay fun d hd=>(h d hd).2
  simp only [PyData.depth];omega⟩
theorem Sh.tuple {n:Nat} {ds:List PyData} (h:∀ d∈ds,Sh n d):Sh (n + 1) (.tuple ds):=⟨by rw [PyData.canLay0];exact Bl fun d hd=>(h d hd).1,by
  have:=Ay fun d hd=>(h d hd).2
  simp only [PyData.depth];omega⟩
theorem Sh.ints (n:Nat) (ns:List Int):Sh (n + 1) (Bf ns):=.list fun d hd=>by
  obtain ⟨i,_,rfl⟩:=List.mem_map.mp hd
  exact .int n i
theorem Sh.ok {n:Nat} {d:PyData} (h:Sh n d) (hn:n≤64):SeqAt.shaped d=true:=by
  unfold SeqAt.shaped
  rw [h.1,decide_eq_true (by have:=h.2;omega)];rfl
theorem nq {n:Nat} {d:PyData} (h:Sh n d):PyData.eqv d d=true:=SeqAt.eqv_refl d h.1
abbrev eX:=List (Addr × Pos × Str)
def TabsOk (T:eX) (H:Hp):Prop:=∀ t∈T,TabOk t.1 t.2.1 t.2.2 H
structure aY (T:eX) (H H':Hp):Prop where
  t0:TabsOk T H
  t1:TabsOk T H'
  keep:∀ b o,H b=some o→(∀ ps,o≠.tbl ps)→H' b=some o
  tb:∀ b ps,H b=some (.tbl ps)→∃ ps',H' b=some (.tbl ps')
theorem TabsOk.nil (H:Hp):TabsOk [] H:=fun t ht=>nomatch ht
theorem TabsOk.mono {T:eX} {H H':Hp} (t:TabsOk T H) (s:Same H H'):TabsOk T H':=fun q hq=>by
  rcases t q hq with e | ⟨c,e1,e2⟩
  · exact .inl (s _ _ e)
  · exact .inr ⟨c,s _ _ e1,s _ _ e2⟩
theorem aY.refl {T:eX} {H:Hp} (t:TabsOk T H):aY T H H:=⟨t,t,fun _ _ h _=>h,fun _ ps h=>⟨ps,h⟩⟩
theorem aY.of {T:eX} {H H':Hp} (t:TabsOk T H) (s:Same H H'):aY T H H':=⟨t,t.mono s,fun b o h _=>s b o h,fun b ps h=>⟨ps,s _ _ h⟩⟩
theorem aY.trans {T:eX} {H H1 H2:Hp} (a:aY T H H1) (b:aY T H1 H2):aY T H H2:=⟨a.t0,b.t1,fun c o h n=>b.keep c o (a.keep c o h n) n,fun c ps h=>by
  obtain ⟨ps',e⟩:=a.tb c ps h
  exact b.tb c ps' e⟩
theorem aY.free {T:eX} {H H':Hp} (a:aY T H H') {l:Addr} (h:H' l=none):H l=none:=by
  cases q:H l with
  | none=>rfl
  | some o =>
    have key:(∃ ps,o=.tbl ps)∨∀ ps,o≠.tbl ps:=by
      cases o with
      | tbl ps=>exact .inl ⟨ps,rfl⟩
      | _=>exact .inr fun _ z=>by cases z
    rcases key with ⟨ps,rfl⟩ | n
    · obtain ⟨ps',e⟩:=a.tb l ps q
      rw [h] at e;cases e
    · have:=a.keep l o q n
      rw [h] at this;cases this
theorem aY.seq {T:eX} {K:PySem.W.Frag} {H H':Hp} {a:Addr} {xs:List V} (e:aY T H H') (h:SqL K H a xs):SqL K H' a xs:=by
  rcases h with (h | ⟨o,h⟩) | h
  · exact .inl (.inl (e.keep _ _ h fun _ z=>by cases z))
  · exact .inl (.inr ⟨o,e.keep _ _ h fun _ z=>by cases z⟩)
  · exact .inr h
theorem aY.Od {T:eX} {K:PySem.W.Frag} {H H':Hp} {a:Addr} {xs:List V} (e:aY T H H') (h:SqT K H a xs):SqT K H' a xs:=by
  rcases h with (h | ⟨o,h⟩) | h
  · exact .inl (.inl (e.keep _ _ h fun _ z=>by cases z))
  · exact .inl (.inr ⟨o,e.keep _ _ h fun _ z=>by cases z⟩)
  · exact .inr h
mutual
theorem Den.vC {T:eX} {K:PySem.W.Frag} {H H':Hp} (e:aY T H H'):∀ {v:V} {d:PyData},Den K H v d→Den K H' v d
  | _,_,.non=>.non
  | _,_,.bl b=>.bl b
  | _,_,.int i=>.int i
  | _,_,.str x=>.str x
  | _,_,.list h hs=>.list (e.seq h) (dM.vC e hs)
  | _,_,.tuple h hs=>.tuple (e.Od h) (dM.vC e hs)
theorem dM.vC {T:eX} {K:PySem.W.Frag} {H H':Hp} (e:aY T H H'):∀ {vs:List V} {ds:List PyData},dM K H vs ds→dM K H' vs ds
  | _,_,.nil=>.nil
  | _,_,.cons h hs=>.cons (Den.vC e h) (dM.vC e hs)
end
def vJ (T:eX) (H:Hp) (P:List V→Prop) (Q:VK):Prop:=∀ (l:Addr) (H':Hp) (xs:List V),aY T H H'→H l=none→H' l=some (.lst xs)→P xs→Q (.ref l) H'
def jF:HO→Bool
  | .tbl _=>false
  | .ext _=>false
  | _=>true
structure Ow (T:eX) (H0 H:Hp) (L:List (Addr × HO)):Prop where
  same:aY T H0 H
  new:∀ p∈L,H0 p.1=none
  at_:∀ p∈L,H p.1=some p.2
  pl:∀ p∈L,jF p.2=true
  nd:(L.map (·.1)).Nodup
section
variable {T:eX} {H0 H1 H H':Hp} {L L':List (Addr × HO)} {a l:Addr} {o o':HO} {xs:List V}
theorem Ow.refl (t:TabsOk T H):Ow T H H []:=⟨aY.refl t,(fun p hp=>nomatch hp),(fun p hp=>nomatch hp),(fun p hp=>nomatch hp),List.nodup_nil⟩
theorem Ow.Wy (H:Hp):Ow [] H H []:=Ow.refl (TabsOk.nil H)
theorem Ow.get (O:Ow T H0 H L) (k:Nat) (h:L[k]?=some (a,o):=by rfl):H a=some o:=O.at_ _ (List.mem_of_getElem? h)
theorem Ow.fr (O:Ow T H0 H L) (k:Nat) (h:L[k]?=some (a,o):=by rfl):H0 a=none:=O.new _ (List.mem_of_getElem? h)
theorem Ow.sq {K:PySem.W.Frag} (O:Ow T H0 H L) (k:Nat) (h:L[k]?=some (a,.lst xs):=by rfl):SqL K H a xs:=SqL.of (O.get k h)
theorem Ow.sqT {K:PySem.W.Frag} (O:Ow T H0 H L) (k:Nat) (h:L[k]?=some (a,.tup xs):=by rfl):SqT K H a xs:=SqT.of (O.get k h)
theorem TabOk.upd {P:Addr} {pos:Pos} {q:Str} (t:TabOk P pos q H) (h:H a=none∨∃ o,H a=some o∧jF o=true):TabOk P pos q (L2.upd H a o'):=by
  have ne:∀ b u,H b=some u→jF u=false→b≠a:=fun b u e p z=>by
    subst z
    rcases h with h | ⟨o,h,ho⟩
    · rw [h] at e;cases e
    · rw [h] at e;cases e;rw [ho] at p;cases p
  rcases t with e | ⟨c,e1,e2⟩
  · exact .inl (by rw [bC (ne _ _ e rfl)];exact e)
  · exact .inr ⟨c,by rw [bC (ne _ _ e1 rfl)];exact e1,by rw [bC (ne _ _ e2 rfl)];exact e2⟩
theorem aY.upd (s:aY T H0 H) (h:H0 a=none) (h':H a=none∨∃ o,H a=some o∧jF o=true):aY T H0 (L2.upd H a o') :=
  ⟨s.t0,fun t ht=>(s.t1 t ht).upd h',fun b u e n=>by rw [bC (cZ e h)];exact s.keep b u e n,fun b ps e=>by rw [bC (cZ e h)];exact s.tb b ps e⟩
theorem Ow.mk' (O:Ow T H0 H L) (h:H a=none) (ho:jF o=true):Ow T H0 (upd H a o) ((a,o) :: L):=by
  have ne:∀ p∈L,p.1≠a:=fun p hp=>cZ (O.at_ p hp) h
  have n0:H0 a=none:=O.same.free h
  refine ⟨O.same.upd n0 (.inl h),fun p hp=>?_,fun p hp=>?_,fun p hp=>?_,?_⟩
  · rcases List.mem_cons.mp hp with e | e
    · rw [e];exact n0
    · exact O.new p e
  · rcases List.mem_cons.mp hp with e | e
    · rw [e];exact cG
    · rw [bC (ne p e)];exact O.at_ p e
  · rcases List.mem_cons.mp hp with e | e
    · rw [e];exact ho
    · exact O.pl p e
  · rw [List.map_cons,List.nodup_cons]
    refine ⟨fun hm=>?_,O.nd⟩
    obtain ⟨p,hp,e⟩:=List.mem_map.mp hm
    exact ne p hp e
theorem wC:∀ {L:List (Addr × HO)} {k:Nat} {a:Addr} {o o':HO},L[k]?=some (a,o)→(L.set k (a,o')).map (·.1)=L.map (·.1)
  | [],_,_,_,_,h=>by simp at h
  | p :: L,0,a,o,o',h=>by
    have:p=(a,o):=by simpa using h
    rw [this];rfl
  | p :: L,k + 1,a,o,o',h=>by
    rw [List.set_cons_succ,List.map_cons,List.map_cons,wC (L:=L) (k:=k) (o:=o) (by simpa using h)]
theorem Ow.Oi (O:Ow T H0 H L) (k:Nat) (h:L[k]?=some (a,o)) (ho:jF o'=true):Ow T H0 (upd H a o') (L.set k (a,o')):=by
  have hm0:=List.mem_of_getElem? h
  have n0:H0 a=none:=O.new _ hm0
  have hk:k<L.length:=(List.getElem?_eq_some_iff.mp h).1
  refine ⟨O.same.upd n0 (.inr ⟨o,O.at_ _ hm0,O.pl _ hm0⟩),fun p hp=>?_,fun p hp=>?_,fun p hp=>?_,by rw [wC h];exact O.nd⟩
  · rcases List.mem_or_eq_of_mem_set hp with e | e
    · exact O.new p e
    · rw [e];exact n0
  · obtain ⟨j,hj,e⟩:=List.getElem_of_mem hp
    by_cases hjk:j=k
    · subst hjk
      rw [List.getElem_set_self] at e
      rw [← e];exact cG
    · rw [List.getElem_set_ne (Ne.symm hjk)] at e
      have hj':j<L.length:=by rw [List.length_set] at hj;exact hj
      have hm:p∈L:=by rw [← e];exact List.getElem_mem hj'
      rw [bC]
      · exact O.at_ p hm
      · intro z
        have e1:(L.map (·.1))[j]?=some p.1:=by rw [List.getElem?_map,List.getElem?_eq_getElem hj',e];rfl
        have e2:(L.map (·.1))[k]?=some a:=by rw [List.getElem?_map,h];rfl
        rw [z] at e1
        obtain ⟨a1,a2⟩:=List.getElem?_eq_some_iff.mp e1
        obtain ⟨b1,b2⟩:=List.getElem?_eq_some_iff.mp e2
        exact hjk ((List.getElem_inj O.nd).mp (a2.trans b2.symm))
  · rcases List.mem_or_eq_of_mem_set hp with e | e
    · exact O.pl p e
    · rw [e];exact ho
theorem wL {o:HO} (h:jF o=true):∀ ps,o≠.tbl ps:=fun ps z=>by rw [z] at h;cases h
theorem Ow.m6 (O:Ow T H0 H L) (s:aY T H H'):Ow T H0 H' L:=⟨O.same.trans s,O.new,fun p hp=>s.keep _ _ (O.at_ p hp) (wL (O.pl p hp)),O.pl,O.nd⟩
theorem Ow.Rm (O:Ow T H0 H L) (s:aY T H H') (n:H l=none) (h:H' l=some o) (ho:jF o=true):Ow T H0 H' ((l,o) :: L):=by
  have O2:=O.m6 s
  refine ⟨O2.same,fun p hp=>?_,fun p hp=>?_,fun p hp=>?_,?_⟩
  · rcases List.mem_cons.mp hp with e | e
    · rw [e];exact O.same.free n
    · exact O.new p e
  · rcases List.mem_cons.mp hp with e | e
    · rw [e];exact h
    · exact O2.at_ p e
  · rcases List.mem_cons.mp hp with e | e
    · rw [e];exact ho
    · exact O.pl p e
  · rw [List.map_cons,List.nodup_cons]
    refine ⟨fun hm=>?_,O.nd⟩
    obtain ⟨p,hp,e⟩:=List.mem_map.mp hm
    exact cZ (O.at_ p hp) n e
theorem Ow.more (O:Ow T H0 H L) (s:Same H H') (n:H l=none) (h:H' l=some o) (ho:jF o=true):Ow T H0 H' ((l,o) :: L):=O.Rm (aY.of O.same.t1 s) n h ho
theorem Ow.sub (O:Ow T H0 H L) (h:L'.Sublist L):Ow T H0 H L':=⟨O.same,fun p hp=>O.new p (h.subset hp),fun p hp=>O.at_ p (h.subset hp),fun p hp=>O.pl p (h.subset hp),O.nd.sublist (h.map _)⟩
theorem Ow.perm (O:Ow T H0 H L) (h:L'.Perm L):Ow T H0 H L':=⟨O.same,fun p hp=>O.new p (h.mem_iff.mp hp),fun p hp=>O.at_ p (h.mem_iff.mp hp),fun p hp=>O.pl p (h.mem_iff.mp hp),(h.map _).nodup_iff.mpr O.nd⟩
theorem Ow.tail {p:Addr × HO} (O:Ow T H0 H (p :: L)):Ow T H0 H L:=O.sub (List.sublist_cons_self _ _)
theorem Ow.two {p q:Addr × HO} (O:Ow T H0 H (p :: q :: L)):Ow T H0 H (p :: L):=O.sub ((List.sublist_cons_self _ _).cons₂ _)
theorem Ow.reb (O:Ow T H0 H L):∃ H1,Ow T H1 H L∧aY T H0 H1∧∀ b o,H b=some o→(∀ p∈L,p.1≠b)→H1 b=some o:=by
  have keep:∀ b u,H b=some u→(∀ p∈L,p.1≠b)→(fun b=>if b∈L.map (·.1) then none else H b:Hp) b=some u:=fun b u e h=>by
    show (if b∈L.map (·.1) then none else H b)=some u
    rw [if_neg fun hm=>?_];· exact e
    obtain ⟨p,hp,z⟩:=List.mem_map.mp hm
    exact h p hp z
  have back:∀ b u,(fun b=>if b∈L.map (·.1) then none else H b:Hp) b=some u→H b=some u:=fun b u e=>by
    dsimp only at e
    split at e
    · cases e
    · exact e
  have npl:∀ b u,H b=some u→jF u=false→∀ p∈L,p.1≠b:=fun b u e h p hp z=>by
    have:=O.at_ p hp
    rw [z,e] at this
    have e':u=p.2:=Option.some.inj this
    rw [e',O.pl p hp] at h;cases h
  have tk:TabsOk T (fun b=>if b∈L.map (·.1) then none else H b):=fun t ht=>by
    rcases O.same.t1 t ht with e | ⟨c,e1,e2⟩
    · exact .inl (keep _ _ e (npl _ _ e rfl))
    · exact .inr ⟨c,keep _ _ e1 (npl _ _ e1 rfl),keep _ _ e2 (npl _ _ e2 rfl)⟩
  refine ⟨fun b=>if b∈L.map (·.1) then none else H b,⟨⟨tk,O.same.t1,fun b u e _=>back b u e,fun b ps e=>⟨ps,back _ _ e⟩⟩,fun p hp=>?_,O.at_,O.pl,O.nd⟩,⟨O.same.t0,tk,fun b u e n=>?_,fun b ps e=>?_⟩,keep⟩
  · exact if_pos (List.mem_map.mpr ⟨p,hp,rfl⟩)
  · refine keep b u (O.same.keep b u e n) fun p hp z=>?_
    rw [← z,O.new p hp] at e;cases e
  · obtain ⟨ps',e'⟩:=O.same.tb b ps e
    exact ⟨ps',keep _ _ e' (npl _ _ e' rfl)⟩
theorem mJ {i:Int} {j:Nat} {v:V} {Q:Hp→Prop} (O:Ow T H0 H L) (k:Nat) (h:L[k]?=some (l,.lst xs)) (hi:ixN xs.length i=some j) (q:∀ H',Ow T H0 H' (L.set k (l,.lst (xs.set j v)))→Q H'):QM (.ref l) (.int i) v H Q :=
  ⟨l,xs,i,j,rfl,rfl,O.get k h,hi,q _ (O.Oi k h rfl)⟩
theorem Ow.ret {P:List V→Prop} {Q:VK} (O:Ow T H0 H L) (k:Nat) (h:L[k]?=some (l,.lst xs)) (q:vJ T H0 P Q) (p:P xs):Q (.ref l) H:=q l H xs O.same (O.fr k h) (O.get k h) p
theorem Ow.got {P:List V→Prop} {Q:VK} (O:Ow T H0 H L) (k:∀ l H' xs,Ow T H0 H' ((l,.lst xs) :: L)→P xs→Q (.ref l) H'):Xn H P Q:=fun l H' xs s n h p=>k l H' xs (O.more s n h rfl) p
theorem Ow.V0 {P:List V→Prop} {Q:VK} (O:Ow T H0 H L) (k:∀ l H' xs,Ow T H0 H' ((l,.lst xs) :: L)→P xs→Q (.ref l) H'):vJ T H P Q:=fun l H' xs s n h p=>k l H' xs (O.Rm s n h rfl) p
end
end L2
namespace L2
open PySem PySem.W PySem.Spec PyProof.Rows
theorem szl {n:Nat} (h:Nat.ble n 100000=true:=by rfl):n≤sizeLine:=j4 (Nat.le_of_ble_eq_true h)
theorem xT (p:Int) (ns:List Int):inV (.int p) (ns.map V.int)=decide (p∈ns):=by
  unfold inV
  rw [List.any_map,Bool.eq_iff_iff]
  simp only [List.any_eq_true,decide_eq_true_eq]
  constructor
  · rintro ⟨x,hx,e⟩
    have e':(x == p)=true:=e
    have:x=p:=by simpa using e'
    rw [← this];exact hx
  · intro h
    exact ⟨p,h,show (p == p)=true by simp⟩
theorem rE (ns:List Int):(ns.map V.int).all ql=true:=by
  rw [List.all_map,List.all_eq_true];intro _ _;rfl
section
variable {X:Cx}
theorem oE:∀ ns ms:List Int,PyData.eqvAll (ns.map PyData.int) (ms.map PyData.int)=decide (ns=ms)
  | [],[]=>by simp [PyData.eqvAll]
  | [],_ :: _=>by simp [PyData.eqvAll]
  | _ :: _,[]=>by simp [PyData.eqvAll]
  | n :: ns,m :: ms=>by
    rw [List.map_cons,List.map_cons,PyData.eqvAll,oE ns ms]
    have e:PyData.eqv (.int n) (.int m)=decide (n=m):=by
      rw [PyData.eqv];rfl
    rw [e,Bool.eq_iff_iff]
    simp
theorem uW (ns ms:List Int):PyData.eqv (Bf ns) (Bf ms)=decide (ns=ms):=by
  unfold Bf
  rw [PyData.eqv];exact oE ns ms
theorem Q7 (hu:X.A.units + 64<cLine):OpR X (compareOp .Eq) (Xh X.K false):=by
  intro pins s σ H x y v u Q I rx ry h
  obtain ⟨a,b,ns,ms,rfl,rfl,ha,hb,q⟩:=h
  refine Q8 hu pins s σ H _ _ v u Q I rx ry ⟨_,_,Den.ints ha,Den.ints hb,(Sh.ints 0 ns).ok (by decide),(Sh.ints 0 ms).ok (by decide),?_⟩
  rw [uW];exact q
theorem wQ (hu:X.A.units + 64<cLine):OpR X (compareOp .NotEq) (Xh X.K true):=by
  intro pins s σ H x y v u Q I rx ry h
  obtain ⟨a,b,ns,ms,rfl,rfl,ha,hb,q⟩:=h
  refine qZ hu pins s σ H _ _ v u Q I rx ry ⟨_,_,Den.ints ha,Den.ints hb,(Sh.ints 0 ns).ok (by decide),(Sh.ints 0 ms).ok (by decide),?_⟩
  rw [uW];exact q
end
section
variable {T:eX} {H0 H:Hp} {L:List (Addr × HO)} {l:Addr} {xs:List V}
theorem Ow.mkE {a:Addr} {o:HO} {H':Hp} (O:Ow T H0 H L) (h:H a=none) (e:upd H a o=H') (ho:jF o=true):Ow T H0 H' ((a,o) :: L):=e ▸ O.mk' h ho
theorem Ow.mW {a:Addr} {o o':HO} {H':Hp} (O:Ow T H0 H L) (k:Nat) (h:L[k]?=some (a,o)) (e:upd H a o'=H') (ho:jF o'=true):Ow T H0 H' (L.set k (a,o')):=e ▸ O.Oi k h ho
end
def dMv (m:Int × Int × Int):PyData:=.tuple [.int m.1,.int m.2.1,.int m.2.2]
end L2
namespace L2
open PySem PySem.W PySem.Spec PySem.Calls PyProof.Rows PySem.Builtin PySem.Builtin.ObjectAttr PySem.Builtin.Getset_descriptor
section
variable {prog:Program} {w:World} {A:Around} {E:Value→Shared→Prop} {K:Frag} {e D:Addr} {hh:Heap} {g:Array GenState} {d:Drawn} {t:Nat} {os:OsState}
structure Nv (K:Frag) (D:Addr):Prop where
  ga:findIn K (.ref D) "__getattribute__"=some (some (.builtin "BaseException.__getattribute__"))
  gt:findIn K (.ref D) "__getattr__"=some none
  at_:findIn K (.ref D) "__class__"=some (some (.builtin "object.__class__"))
  sp:specialIn K (.builtin "object.__class__") "__get__"=some (some (.builtin "getset_descriptor.__get__"))
  tk:takesIn K (.builtin "object.__class__")=some true
  mo:mroIn K D (.type "object")=some true
  mb:mroIn K D (.type "BaseException")=some true
  cl:(clsIn K D).isSome=true
theorem NP {M:Model} (X:K.In hh) (C:Nv K D):Looks M hh (Builtin.ObjectAttr.find (.ref e) (.ref D) "__class__") (.bind (.builtin "getset_descriptor.__get__") (.builtin "object.__class__")):=by
  have L3:Looks M hh (Builtin.ObjectAttr.dataDescriptor? (some (.builtin "object.__class__")) (some (.builtin "getset_descriptor.__get__"))) (some (.builtin "getset_descriptor.__get__",.builtin "object.__class__")):=(looks_takesIn X C.tk).andThen .now
  exact (looks_findIn X C.at_).andThen ((looks_specialIn X C.sp).andThen (L3.andThen (Looks.tag .now)))
theorem Qz {R:Result→Shared→Prop} {tp:Value} (LT:Looks (model prog w) hh (typeOf (.ref e)) (.ref D)) (X:K.In hh) (C:Nv K D) (q:R (.ok (.ret (.ref D))) ⟨hh,g,d,t,os⟩) :
    codeAny (model prog w) A (.call (.builtin "getset_descriptor.__get__") ⟨[.builtin "object.__class__",.ref e,tp],[]⟩) R ⟨hh,g,d,t,os⟩:=by
  have LS:=looks_mroIn (M:=model prog w) X C.mo
  clear C X
  refine codeAny_call_builtin KF.slot_gs.plain KF.entry_gs (KF.slot_gs.check _ _ _ _ _ _ _ _ KF.type_class (KF.args_gs _ _ (tp)) ?_)
  unfold Builtin.«getset_descriptor.__get__» descrGet;rw [dga_obj];refine wpAny_bind (wpAny_pure ?_)
  unfold descrGetter descrCheckInstance descrNameAndClass isInstance;simp only [KF.owner_class];repeat lk
  refine ⟨Code.quiet_builtin _ (by decide +kernel),codeAny_builtin KF.entry_class ?_⟩;unfold Builtin.«object.__class__» shownTypeOf;(repeat lk);exact q
theorem Bw {tk:Tok} {Q:Fin→Shared→Prop} (LT:Looks (model prog w) hh (typeOf (.ref e)) (.ref D)) (X:K.In hh) (C:Nv K D) (h:Q (.done (.ret (.ref D))) ⟨hh,g,d,t,os⟩) :
    wpAny (model prog w) A (Builtin.«object.__getattribute__» ⟨[.ref e,.str "__class__" tk],[]⟩) Q E ⟨hh,g,d,t,os⟩:=by
  unfold Builtin.«object.__getattribute__»
  refine wpAny_bind (m:=slotArgs "__getattribute__" 1 _) (wpAny_pure ?_)
  refine wpAny_bind (m:=Builtin.ObjectAttr.attrName _) (wpAny_pure ?_)
  refine wpAny_bind (LT.at (wpAny_bind ((NP X C).at ?_)))
  unfold Builtin.ObjectAttr.bindTo
  exact wpAny_bind (wpAny_holding (wpAny_call (Qz LT X C (wpAny_pure h))))
theorem Bx {Q:Option Value→Shared→Prop} (LT:Looks (model prog w) hh (typeOf (.ref e)) (.ref D)) (X:K.In hh) (C:Nv K D) (h:Q (some (.ref D)) ⟨hh,g,d,t + 1,os⟩) :
    wpAny (model prog w) A (getAttr? (.ref e) "__class__") Q E ⟨hh,g,d,t,os⟩:=by
  have L1:=looks_findIn (M:=model prog w) X C.ga
  have L2:=looks_findIn (M:=model prog w) X C.gt
  have LI:Looks (model prog w) hh (isInstance (.ref e) (.type "BaseException")) true:=LT.andThen (looks_mroIn X C.mb)
  have f3:=PySem.F.attr_ValueError.ga.bind (.ref e)
  have hx2:(Value.builtin "BaseException.__getattribute__" == Value.builtin "object.__getattribute__")=false:=by decide +kernel
  unfold getAttr? getAttrBy? getAttrBy
  refine wpAny_bind (wpAny_mkText (wpAny_bind (wpAny_attempt (wpAny_holding (wpAny_bind (LT.at (wpAny_bind (L1.at ?_))))))))
  dsimp only
  rw [if_neg (by rw [hx2];simp)]
  unfold getAttrByItsOwn hookBefore callGetattribute
  refine wpAny_bind ?_
  rw [if_pos (show onTheHeap (Value.ref D)=true from rfl)]
  refine L2.at ?_
  refine wpAny_bind (wpAny_attempt (wpAny_holding ?_))
  rw [if_neg (by simp)]
  unfold boundAndCalled
  rw [f3]
  refine wpAny_bind (wpAny_pure ?_)
  refine wpAny_call (codeAny_call_builtin PySem.F.attr_ValueError.ga.plain PySem.F.entry_bexc_ga ?_)
  have kd:builtinKind "BaseException.__getattribute__"=some .slot:=by decide +kernel
  have spl:splitId "BaseException.__getattribute__"=some ("BaseException","__getattribute__"):=by decide +kernel
  have ha:=PySem.F.args_bexc_ga (.ref e) (.str "__class__" t)
  simp only [checkBuiltinCall,kd,spl]
  refine wpAny_bind (LI.at ?_)
  rw [if_neg (by simp)]
  refine wpAny_of_eq (a:=()) ha ?_
  refine Bw (t:=t + 1) LT X C ?_
  show wpAny (model prog w) A (handedOut (.ref D)) _ _ _
  exact wpAny_pure (wpAny_pure h)
def XAt (e D:Addr) (h:Heap):Prop:=∃ o,h.get? e=some o∧o.cls=.ref D
theorem vM {M:Model} {h:Heap} (x:XAt e D h):Looks M h (typeOf (.ref e)) (.ref D):=by
  obtain ⟨o,h1,h2⟩:=x
  rw [← h2]
  exact (Looks.ld h1).andThen .now
theorem CV (C:Nv K D):KitX K (.ref e) (.ref D) (XAt e D) where
  ty:=fun _ _ _ p=>vM p
  it:=fun M h X _=>by
    have c:=C.cl
    unfold clsIn at c
    split at c
    · rename_i ho
      intro _ _ _ _ k q
      unfold isType loadHead
      exact wpAny_bind (wpAny_loadPart (k _ _ (X _ _ ho)) (wpAny_pure q))
    · cases c
  ne:=fun h tp dd its n sl X htp=>by
    have c:=C.cl
    refine Bool.eq_false_iff.mpr fun q=>?_
    cases Value.ref.inj (beq_iff_eq.mp q)
    unfold clsIn at c
    split at c
    · rename_i ho
      cases (X _ _ ho).symm.trans htp
    · cases c
  ca:=fun {_ _ _ _ _ s} X p k=>by
    obtain ⟨h0,g0,d0,t0,o0⟩:=s
    exact Bx (vM p) X C k
end
end L2
namespace L2
open PySem PySem.W PySem.Spec PySem.Calls PyProof.Rows
theorem jk.obj {P:Program} {w:World} {H:Hp} {h:Heap} {a:Addr} {o:HO} (x:jk P w H h a o):∃ ob,h.get? a=some ob:=by
  cases o with
  | lst xs=>obtain ⟨_,_,_,_,e⟩:=x;exact ⟨_,e⟩
  | tup xs=>obtain ⟨_,_,_,o,e,_⟩:=x;exact ⟨_,e⟩
  | dK kvs=>obtain ⟨_,_,_,_,o,_,_,e,_⟩:=x;exact ⟨_,e⟩
  | dT kvs=>obtain ⟨_,_,_,_,o,_,_,e,_⟩:=x;exact ⟨_,e⟩
  | set S n=>obtain ⟨o,_,_,_,e,_⟩:=x;exact ⟨_,e⟩
  | ins C dx fs=>obtain ⟨_,_,_,e,_⟩:=x;exact ⟨_,e⟩
  | own y=>exact x
  | xd fs=>obtain ⟨_,⟨_,_,_,e,_⟩,_⟩:=x;exact ⟨_,e⟩
  | rng lo hi=>obtain ⟨_,_,_,e⟩:=x;exact ⟨_,e⟩
  | frz ob u=>obtain ⟨e,_⟩:=x;exact ⟨_,e⟩
  | tbl ps=>exact ⟨_,x⟩
  | met f y=>exact ⟨_,x⟩
  | ext φ=>obtain ⟨_,e,_⟩:=x;exact e
structure Fly (P:Program) (w:World) (B:Heap) (fs:List Addr) (H:Hp) (h0:Heap) (H':Hp) (h:Heap):Prop where
  un:Un fs [] H H' h0 h
  hok:HOk P w H' h
  old:∀ b o,h0.get? b=some o→b ∉ fs→∃ o',B.get? b=some o'∧(H b=none→o'=o)
  trk:∀ b u,H' b=some u→∃ o,h.get? b=some o∧B.get? b=some o
section
variable {P:Program} {w:World} {B h0 h h2:Heap} {fs:List Addr} {H H':Hp}
theorem Fly.on (x:Fly P w B fs H h0 H' h) (sb:B.StaysIn h2) (sm:∀ b∈fs,∀ o,h.get? b=some o→∃ sl,h2.get? b=some { o with slots:=sl }):Fly P w B fs H h0 H' h2:=by
  have kp:∀ b o,h0.get? b=some o→H b=none→b ∉ fs→h2.get? b=some o:=fun b o q n hb=>by
    obtain ⟨o',e,k⟩:=x.old b o q hb
    rw [← k n];exact sb b o' e
  have sl:∀ b o,h0.get? b=some o→H b=none→b∈fs→∃ s,h2.get? b=some { o with slots:=s }:=fun b o q n hb=>by
    obtain ⟨s1,e1⟩:=x.un.slot b o q n hb (by simp)
    obtain ⟨s2,e2⟩:=sm b hb _ e1
    exact ⟨s2,e2⟩
  refine ⟨⟨fun b o q n hb _=>kp b o q n hb,fun b o q n hb _=>sl b o q n hb,x.un.free,fun b o q _=>?_,x.un.tups,x.un.frzs,x.un.tbls⟩,fun a u e=>?_,x.old,fun b u e=>?_⟩
  · by_cases hb:b∈fs
    · obtain ⟨o1,e1⟩:=x.un.there b o q (by simp)
      obtain ⟨s2,e2⟩:=sm b hb _ e1
      exact ⟨_,e2⟩
    · obtain ⟨o',e,_⟩:=x.old b o q hb
      exact ⟨o',sb b o' e⟩
  · refine (x.hok a u e).stay (fun b v hb q=>?_) (fun _ q=>q) fun _ _ q=>q
    have tr:∃ u',H' b=some u':=by
      rcases hb with z | z
      · exact ⟨u,by rw [z];exact e⟩
      · exact ⟨_,z⟩
    obtain ⟨u',e'⟩:=tr
    obtain ⟨o,e1,e2⟩:=x.trk b u' e'
    rw [q] at e1;cases e1
    exact sb b v e2
  · obtain ⟨o,e1,e2⟩:=x.trk b u e
    exact ⟨o,sb b o e2,e2⟩
end
def CXE (P:Program) (w:World):CXT:=fun outer H s E e s'=>∃ (ea t C:Addr) (B:Heap) (H':Hp),e=.ref ea∧s'.os=s.os∧AllBare s'.gens∧Fly P w B (frs outer) H s.heap H' s'.heap∧Heap.FlyingW B outer ea (.ref C) (.ref t) s'.heap ∧
  s.heap.get? ea=none∧H' ea=none∧E (.ref C) (some ea) H'
theorem qj {env:Env} {l:List Env} {L:Addr} (hf:env.frame=some L):frs (env :: l)=L :: frs l:=by unfold frs;rw [List.filterMap_cons,hf]
theorem Rw {l:List Env}:∀ env∈l,∀ b,env.frame=some b→b∈frs l:=fun env he b hb=>List.mem_filterMap.mpr ⟨env,he,hb⟩
theorem jJ {B h:Heap} {l:List Env} {h2:Heap} (f:h.FunFrames B l) (sm:h.UpToSlots h2):∀ b∈frs l,∀ o,h.get? b=some o→∃ sl,h2.get? b=some { o with slots:=sl }:=fun b hb o e=>by
  obtain ⟨_,o',e',d⟩:=f.mem hb
  rw [e] at e';cases e'
  exact sm b o e d
section
variable {X:Cx} {pins:List (Addr × Obj)} {σ:St} {H:Hp} {s:Shared} {E:XK}
structure Body (X:Cx):Prop where
  st:X.stack=X.env :: X.outer
  fr:X.env.frame=some X.env.locals
  ex:X.ex=[]
theorem Inv.tK (I:Inv X pins σ H s) (hB:Body X) {b:Addr} {o:Obj} (e:X.s₀.heap.get? b=some o) (hb:b ∉ frs X.outer):b ∉ frs X.stack:=by
  rw [hB.st,qj hB.fr]
  intro hm
  rcases List.mem_cons.mp hm with z | z
  · exact absurd (Heap.lt_size e) (by rw [z];exact Nat.not_lt.mpr I.ok.above)
  · exact hb z
theorem qT {e C:Addr} {args:List Value} {h':Heap} {F:Value→Shared→Prop} (hB:Body X) (I:Inv X pins σ H s) (hm:Heap.MadeExcOf s.heap h' e (.ref C) args) (hE:H e=none→E (.ref C) (some e) H) :
    wpAny (model X.prog X.w) X.A (leaving X.env (.ref e)) (fun _ s''=>CXE X.prog X.w X.outer X.H₀ X.s₀ E (.ref e) s'') F { s with heap:=h' }:=by
  have hfr:X.A.frames=some (X.env :: X.outer):=by rw [← hB.st];exact I.ok.frames
  have stk:=I.stack
  have hl:s.heap.FunFrames (hideAll s.heap (frs X.stack)) (X.env :: X.outer):=by
    have:=funFrames_hide stk Rw
    rw [hB.st] at this ⊢;exact this
  have hne:∀ b o,s.heap.get? b=some o→b ∉ frs X.stack→(hideAll s.heap (frs X.stack)).get? b=some o:=fun b o q n=>hideAll_get _ q n
  have htr:∀ b u,H b=some u→∃ o,s.heap.get? b=some o∧(hideAll s.heap (frs X.stack)).get? b=some o:=fun b u q=>by
    obtain ⟨o,eo⟩:=(I.hok b u q).obj
    exact ⟨o,eo,hne b o eo fun z=>by rw [I.sE b z] at q;cases q⟩
  have hnx:∀ b:Addr,b ∉ X.ex:=fun b=>by rw [hB.ex];simp
  refine wpAny_leaves_madeW (base:=hideAll s.heap (frs X.stack)) (h:=s.heap) hfr hB.fr (fun b o q=>of_hideAll _ q) hl hm fun h2 t fl _ _ sm=>?_
  have F0:Fly X.prog X.w (hideAll s.heap (frs X.stack)) (frs X.outer) X.H₀ X.s₀.heap H s.heap:=by
    refine ⟨?_,I.hok,fun b o q n=>?_,htr⟩
    · have u:=I.base
      rw [hB.ex] at u
      exact u
    · obtain ⟨o',e'⟩:=I.base.there b o q (hnx b)
      refine ⟨o',hne b o' e' (I.tK hB q n),fun z=>?_⟩
      have:=I.base.keep b o q z n (hnx b)
      rw [e'] at this;exact Option.some.inj this
  have F1:=F0.on (h2:=h2) fl.1 fun b hb o q=>by
    have hb':b∈frs X.stack:=by rw [hB.st,qj hB.fr];exact List.mem_cons_of_mem _ hb
    obtain ⟨_,o',e',d⟩:=stk.mem hb'
    rw [q] at e';cases e'
    exact sm b o (hm.keeps b o q) d
  have he0:H e=none:=by
    cases q:H e with
    | none=>rfl
    | some u =>
      obtain ⟨o,eo⟩:=(I.hok e u q).obj
      rw [hm.new] at eo;cases eo
  refine ⟨e,t,C,_,H,rfl,I.os,I.bare,F1,fl,?_,he0,hE he0⟩
  · cases q:X.s₀.heap.get? e with
    | none=>rfl
    | some o =>
      obtain ⟨o',e'⟩:=I.base.there e o q (hnx e)
      rw [hm.new] at e';cases e'
theorem tZ {e:Value} {s':Shared} {F:Value→Shared→Prop} (hB:Body X) (I:Inv X pins σ H s) (h:CXE X.prog X.w X.stack H s E e s') :
    wpAny (model X.prog X.w) X.A (leaving X.env e) (fun _ s''=>CXE X.prog X.w X.outer X.H₀ X.s₀ E e s'') F s':=by
  obtain ⟨ea,t,C,B,H',rfl,os,bare,fl,fy,new,nh,hE⟩:=h
  have hfr:X.A.frames=some (X.env :: X.outer):=by rw [← hB.st];exact I.ok.frames
  have hnx:∀ b:Addr,b ∉ X.ex:=fun b=>by rw [hB.ex];simp
  rw [hB.st] at fy
  refine wpAny_leaves_onW hfr hB.fr fy fun h2 fy2 sm=>?_
  have sub:∀ b,b∈frs X.outer→b∈frs X.stack:=fun b hb=>by rw [hB.st,qj hB.fr];exact List.mem_cons_of_mem _ hb
  have F0:Fly X.prog X.w B (frs X.outer) X.H₀ X.s₀.heap H' s'.heap:=by
    refine ⟨⟨fun b o q n hb _=>?_,fun b o q n hb _=>?_,fun b o q n _=>?_,fun b o q _=>?_,fun b xs q=>fl.un.tups b xs (I.base.tups b xs q),fun b o u q=>fl.un.frzs b o u (I.base.frzs b o u q),fun b ps q=>?_⟩,fl.hok,fun b o q n=>?_,fl.trk⟩
    · have e1:=I.base.keep b o q n hb (hnx b)
      exact fl.un.keep b o e1 (I.base.free b o q n (hnx b)) (I.tK hB q hb) (by simp)
    · obtain ⟨s1,e1⟩:=I.base.slot b o q n hb (hnx b)
      obtain ⟨s2,e2⟩:=fl.un.slot b _ e1 (I.base.free b o q n (hnx b)) (sub b hb) (by simp)
      exact ⟨s2,e2⟩
    · obtain ⟨o',e'⟩:=I.base.there b o q (hnx b)
      exact fl.un.free b o' e' (I.base.free b o q n (hnx b)) (by simp)
    · obtain ⟨o',e'⟩:=I.base.there b o q (hnx b)
      exact fl.un.there b o' e' (by simp)
    · obtain ⟨m1,e1⟩:=I.base.tbls b ps q
      obtain ⟨m2,e2⟩:=fl.un.tbls b _ e1
      exact ⟨m1++m2,by rw [e2,Array.append_assoc]⟩
    · obtain ⟨o',e'⟩:=I.base.there b o q (hnx b)
      obtain ⟨o2,e2,k⟩:=fl.old b o' e' (I.tK hB q n)
      refine ⟨o2,e2,fun z=>?_⟩
      rw [k (I.base.free b o q z (hnx b))]
      have:=I.base.keep b o q z n (hnx b)
      rw [e'] at this;exact Option.some.inj this
  have F1:=F0.on (h2:=h2) fy2.1 fun b hb o q=>by
    obtain ⟨_,o',e',d⟩:=fy.2.2.1.mem (by rw [hB.st] at sub;exact sub b hb)
    rw [q] at e';cases e'
    exact sm b o q d
  refine ⟨ea,t,C,B,H',rfl,os.trans I.os,bare,F1,fy2,?_,nh,hE⟩
  cases q:X.s₀.heap.get? ea with
  | none=>rfl
  | some o =>
    obtain ⟨o',e'⟩:=I.base.there ea o q (hnx ea)
    rw [new] at e';cases e'
end
section
variable {P:Program} {w:World} {K:PySem.W.Frag} {mg:Str→Option Value} {base:Heap} {N:List Str} {qual:Str} {scope:Scope} {f:Addr} {cd:Value} {A:Around} {outer:List Env} {s:Shared} {H:Hp} {E:XK}
theorem iC {CX:CXT}:Body (Bt CX P w K mg base N qual scope f cd A outer s H E):=⟨rfl,rfl,rfl⟩
theorem kj:Passes (CXE P w) (Bt (CXE P w) P w K mg base N qual scope f cd A outer s H E) E:=fun _ _ _ _ _ _ I h=>tZ iC I h
theorem Fun.okX {x:Str} {st:Stmt} {fd:FuncData} {ps:List Str} {k:Nat} {sp:Sp} (F:Fun K x qual st f fd) (S:aQ N ps (ak st)) (len:∀ vs H Q E,sp vs H Q E→vs.length=ps.length)
    (hbody:∀ (cdv:Value) (A:Around) (outer:List Env) (s:Shared) (H:Hp) (vs:List V) (Q:VK) (E:XK),lZ k (A.deeper (envOfC qual (ak st) s.heap.objs.size f cdv))→sp vs H Q E →
      ∃ t,PSs (Bt (CXE P w) P w K mg base N qual (ak st) f cdv A outer s H E) (aA st) t∧t { nx:=fun _ H'=>Q .non H',rt:=Q } (start N vs) H):bN P w K mg base (CXE P w) (k + 1) f fd ps sp:=by
  obtain ⟨oc,od,kV,doc,pm,an,cdv,ct,osl,rfl,lk,hcd⟩:=F.ex
  exact Qi lk hcd S len fun A outer s H vs Q E hr hsp=>hbody cdv A outer s H vs Q E hr hsp
end
end L2
namespace L2
open PySem PySem.W PySem.Spec PySem.Calls PyProof.Rows
abbrev oW:List Value:=[.type "ValueError",.type "Exception",.type "BaseException",.type "object"]
theorem Qj {K:Frag} {h:Heap} {C:Addr} (X:K.In h) (q:excIn K C oW "ValueError.__new__"=true) :
    ∃ bm N nm qn bs hdct sn sub ab col dd k0 k1 k2 k3 k5 mN,h.get? C=some (excClassObj nm qn C N bs bm hdct sn sub ab col dd k0 k1 k2 k3 k5 "ValueError.__new__")∧h.Ns N mN∧mN "__init__"=none∧OwnTail h oW bm:=by
  unfold excIn at q
  split at q
  · rename_i d1 c1 s1 look
    split at q
    · rename_i C1 bm1 a0 a1 a2 a3 n1 a5 m1 l1
      simp only [Bool.and_eq_true,beq_iff_eq,Bool.not_eq_true'] at q
      obtain ⟨⟨⟨⟨⟨e1,e2⟩,e3⟩,e4⟩,e5⟩,e6⟩:=q
      subst e1 e2
      obtain ⟨nm,bs,mro,ns,qn,hd,sn,sub,ab,col,del⟩:=c1
      dsimp only at m1 e3 e5 e6
      subst m1 e3
      have es:s1=#[a0,a1,a2,a3,some (.builtin "ValueError.__new__"),a5]:=by cases s1;simp only at l1;rw [l1]
      subst es
      exact ⟨bm1,ns,nm,qn,bs,hd,sn,sub,ab,col,d1,a0,a1,a2,a3,a5,_,X _ _ look,Heap.Ns.of_isNs (isNs_of_in X e5),nsMap_none_of_in X e5 e6,tail_of_in X e4⟩
    · cases q
  · cases q
def QG (E:XK) (C:Addr) (ta:TA):TS:=fun _ σ H=>ta σ H fun vs H1=>vs.length≤sizeLine∧∀ e,H1 e=none→E (.ref C) (some e) H1
section
variable {X:Cx} {E:XK} {x:Str} {C:Addr} {np cpos pos:Pos} {e0:Expr} {ta:TA}
theorem gQ (hB:Body X) (hc:X.calm=true) (hx:∀ e s',wpAny (model X.prog X.w) X.A (leaving X.env e) (fun _ s''=>CXE X.prog X.w X.outer X.H₀ X.s₀ E e s'') (fun e s''=>CXE X.prog X.w X.outer X.H₀ X.s₀ E e s'') s'→X.xe e s')
    (hg:Gl X x) (hm:X.mg x=some (.ref C)) (hq:excIn X.K C oW "ValueError.__new__"=true) (ha:PA X [e0] ta) (he:starEach [e0] X.env=[(false,eval e0 X.env)]:=by rfl) (hd:(x == ("__debug__":Str))=false:=by decide) :
    PS X (.Raise (some (.Call (.Name x np) [e0] [] cpos)) none pos) (QG E C ta):=by
  intro pins s σ H D I h
  obtain ⟨bm,Nn,nm,qn,bs,hdct,sn,sub,ab,col,dd,k0,k1,k2,k3,k5,mN,hC,hN,hni,TL⟩:=Qj I.ok.mod.kin hq
  refine wpAny_Raise_call_subU (C:=C) (nm:=nm) (q:=qn) (N:=Nn) (bs:=bs) (bm:=bm) (hdct:=hdct) (sn:=sn) (sub:=sub) (ab:=ab) (col:=col) (dd:=dd) (k0:=k0) (k1:=k1) (k2:=k2) (k3:=k3) (k5:=k5) (mN:=mN) (newId:="ValueError.__new__")
    PySem.F.excBase_ValueError PySem.F.excBase_ValueError.hasB PySem.F.excBase_ValueError (TL.hasType PySem.F.excBase_ValueError.hasBase) (I.ok.hd hc) (by rw [he];rfl) hni ?_
  refine lX I hg hm ⟨rfl,?_⟩ hd
  have a:=ha cpos pins s σ H _ I h
  rw [he] at a ⊢
  refine Calls.evalArgs_plain (wpAny_mono a (fun us s1 ⟨vs,H1,I1,r1,hz,q1⟩=>?_) fun _ _ z=>z)
  exact ⟨rfl,by show us.length≤_;rw [← r1.length];exact hz,I1.bk _ _ hC,hN.keeps I1.bk,TL.keeps I1.bk,fun h' e mk=>hx _ _ (qT hB I1 mk (q1 e))⟩
end
end L2
namespace L2
open PySem PySem.W PySem.Spec PySem.Calls PyProof.Rows
def XS (X:Cx) (pins:List (Addr × Obj)) (Ex:St→XK) (ev:Value) (s':Shared):Prop:=∃ σ H s,Inv X pins σ H s∧CXE X.prog X.w X.stack H s (Ex σ) ev s'
def PEx (X:Cx) (e:Expr) (t:St→Hp→VK→XK→Prop):Prop :=
  ∀ (pins:List (Addr × Obj)) (s:Shared) (σ:St) (H:Hp) (Q:VK) (Ex:St→XK),Inv X pins σ H s→t σ H Q (Ex σ)→wpAny (model X.prog X.w) X.A (eval e X.env) (EP X pins σ Q) (XS X pins Ex) s
abbrev TX:=Ends→(St→XK)→St→Hp→Prop
def PSx (X:Cx) (st:Stmt) (t:TX):Prop :=
  ∀ (pins:List (Addr × Obj)) (s:Shared) (σ:St) (H:Hp) (D:Ends) (Ex:St→XK),Inv X pins σ H s→t D Ex σ H→wpAny (model X.prog X.w) X.A (exec st X.env) (SP X pins D) (XS X pins Ex) s
def Xo (X:Cx) (sts:List Stmt) (t:TX):Prop :=
  ∀ (pins:List (Addr × Obj)) (s:Shared) (σ:St) (H:Hp) (D:Ends) (Ex:St→XK),Inv X pins σ H s→t D Ex σ H→wpAny (model X.prog X.w) X.A (execs sts X.env) (SP X pins D) (XS X pins Ex) s
section
variable {X:Cx} {k:Nat} {f:Addr} {fd:FuncData} {ps:List Str} {sp:Sp} {dvs:List V} {ds:List Value} {x:Str} {p pos:Pos} {e:Expr} {es:List Expr} {t:TA}
def Wk (sp:Sp) (dvs:List V) (t:TA):St→Hp→VK→XK→Prop:=fun σ H Q Ex=>t σ H fun vs H1=>sp (vs++dvs) H1 Q Ex
theorem NK (F:bN X.prog X.w X.K X.mg X.base (CXE X.prog X.w) k f fd ps sp) (hr:lZ k X.A) (hg:Gl X x) (hm:X.mg x=some (.ref f)) (hk:PySem.W.keepIn X.K (.ref f)=true) (hb:Binds X.K fd ps ds) (hd:Vals dvs ds)
    (ha:PA X.nox (e :: es) t) (hdb:(x == ("__debug__":Str))=false:=by decide) (he:starEach (e :: es) X.env=(false,eval e X.env) :: starEach es X.env:=by rfl) (hpl:(backTo pos (starEach es X.env)).any (·.1)=false:=by rfl) :
    PEx X (.Call (.Name x p) (e :: es) [] pos) (Wk sp dvs t):=by
  intro pins s σ H Q Ex I h
  refine wpAny_Call_Name_kw (lX I hg hm ?_ hdb)
  refine PySem.W.callWith_K (h₀:=X.base) I.ok.mod.kin hk (wpAny_mono (ha pos pins s σ H _ (I.wish _) h) (fun us s1 ⟨vs,H1,I1,r,q⟩=>?_) fun _ _ z=>z.elim) he hpl
  have I1:=I1.lE
  refine ⟨I1.kIn,?_⟩
  have r2:Vals (vs++dvs) (us++ds):=r.append hd
  have hl:(us++ds).length=ps.length:=by rw [← r2.length];exact F.len _ _ _ _ q
  refine wpAny_call (codeAny_mono (F.run X.A X.stack s1 H1 ⟨us,[]⟩ (us++ds) (vs++dvs) Q (Ex σ) hr I1.env0 (hb s1 us I1.kIn hl) r2 q) fun rr s' hq=>?_)
  cases rr with
  | error ev=>exact ⟨σ,H1,s1,I1,hq⟩
  | ok fl =>
    cases fl with
    | ret u=>exact I1.after hq
    | next=>exact False.elim hq
    | brk=>exact False.elim hq
    | cont=>exact False.elim hq
theorem Nz {te:St→Hp→VK→XK→Prop} {pos:Pos} (he:PEx X e te) (hs:swapsWith e none pos.line X.env=pure false:=by rfl):PSx X (.Expr e pos) (fun D Ex σ H=>te σ H (fun _ H1=>D.nx σ H1) (Ex σ)):=by
  intro pins s σ H D Ex I h
  exact wpAny_Expr_any (wpAny_mono (he pins s σ H _ Ex I h) (fun v s1 ⟨x,H1,I1,r1,q1⟩=>⟨σ,H1,I1,q1⟩) fun _ _ z=>z) I.quiet hs
theorem Ny {st:Stmt} {tx:TX} (h:PSx X st tx):Xo X [st] tx:=by
  intro pins s σ H D Ex I hq
  refine wpAny_execs_cons (wpAny_mono (h pins s σ H D Ex I hq) (fun fl s1 q=>?_) fun _ _ z=>z)
  cases fl with
  | next=>exact wpAny_execs_nil q
  | ret v=>exact q
  | brk=>exact q
  | cont=>exact q
end
section
variable {X:Cx} {pins:List (Addr × Obj)} {σ:St} {H:Hp} {s:Shared}
def vh (X:Cx) (e:Addr):Cx:={ X with A:=X.A.mark (some (.ref e)),calm:=false,xe:=fun _ _=>False }
theorem Inv.sup (I:Inv X pins σ H s) (e:Addr):Inv (vh X e) pins σ H s :=
  ⟨⟨I.ok.mod,I.ok.kind,I.ok.glob,I.ok.blt,I.ok.above,I.ok.inj,I.ok.has,I.ok.cab,fun z=>(by cases z),I.ok.frames,I.ok.stk,I.ok.exf,I.ok.bs,I.ok.bsz,I.ok.noex,I.ok.exfs,I.ok.uT,I.ok.frf⟩,I.os,I.bare,I.base,I.loc,I.cell,I.free,I.freeC,I.pin,I.hok,I.len⟩
theorem Inv.Wm {e:Addr} (hc:X.calm=true→X.A.handled=none) (I:Inv (vh X e) pins σ H s):Inv X pins σ H s :=
  ⟨⟨I.ok.mod,I.ok.kind,I.ok.glob,I.ok.blt,I.ok.above,I.ok.inj,I.ok.has,I.ok.cab,hc,I.ok.frames,I.ok.stk,I.ok.exf,I.ok.bs,I.ok.bsz,I.ok.noex,I.ok.exfs,I.ok.uT,I.ok.frf⟩,I.os,I.bare,I.base,I.loc,I.cell,I.free,I.freeC,I.pin,I.hok,I.len⟩
theorem Inv.Wb {a:Addr} {o:HO} (I:Inv X pins σ H s) (hn:H a=none) (hL:a≠X.env.locals) (h0:X.s₀.heap.get? a=none) (hc:∀ x c,X.env.cells.lookup x=some c→c≠a) (hp:∀ p∈X.pn++pins,p.1≠a)
    (new:jk X.prog X.w (upd H a o) s.heap a o):Inv X pins σ (upd H a o) s:=by
  have ne:∀ b u,H b=some u→b≠a:=fun b u e=>cZ e hn
  refine ⟨I.ok,I.os,I.bare,⟨I.base.keep,I.base.slot,fun b ob e n hx=>?_,I.base.there,fun b xs e=>?_,fun b ob xs e=>?_,fun b ps e=>?_⟩,I.loc,I.cell,?_,fun x c e=>?_,fun p hq=>?_,fun b u e=>?_,I.len⟩
  · rw [bC fun z=>by rw [z,h0] at e;cases e];exact I.base.free b ob e n hx
  · have:=I.base.tups b xs e;rw [bC (ne b _ this)];exact this
  · have:=I.base.frzs b ob xs e;rw [bC (ne b _ this)];exact this
  · obtain ⟨m,e1⟩:=I.base.tbls b ps e;exact ⟨m,by rw [bC (ne b _ e1)];exact e1⟩
  · rw [bC hL.symm];exact I.free
  · rw [bC (hc x c e)];exact I.freeC x c e
  · obtain ⟨e1,n,r⟩:=I.pin p hq;exact ⟨e1,by rw [bC (hp p hq)];exact n,r⟩
  · by_cases hb:b=a
    · subst hb;rw [cG] at e;cases e;exact new
    · rw [bC hb] at e
      exact (I.hok b u e).stay (fun _ _ _ q=>q) (fun c q=>by rw [bC (ne c _ q)];exact q) fun c xs q=>by rw [bC (ne c _ q)];exact q
theorem Inv.QB {i:Nat} {n:Str} {h':Heap} {v:Option Value} {m:Str→Option Value} {t':Nat} (I:Inv X pins σ H s) (hN:X.N.Nodup) (hi:X.N[i]?=some n) (hs:Heap.SameBut X.env.locals s.heap h') (hm:s.heap.Ns X.env.locals m)
    (hl:∀ (j:Nat) (x:Str) (w:V),X.N[j]?=some x→σ[j]?=some (some w)→Vis X.env.scope x→∃ u,RelV w u∧Look X.env s.heap m x u) (hn:h'.Ns X.env.locals (fun x=>if x=n then v else m x)):Inv X pins (σ.set i none) H { s with heap:=h',toks:=t' }:=by
  have kp:∀ b o,b≠X.env.locals→s.heap.get? b=some o→h'.get? b=some o:=fun b o hb e=>(hs.2 b hb).trans e
  have old:∀ b o,X.s₀.heap.get? b=some o→b≠X.env.locals:=fun b o e=>Nat.ne_of_lt (Nat.lt_of_lt_of_le (Heap.lt_size e) I.ok.above)
  refine ⟨I.ok,I.os,I.bare,⟨fun b o e n hb hx=>kp b o (old b o e) (I.base.keep b o e n hb hx),fun b o e n hb hx=>?_,I.base.free,fun b o e hx=>?_,I.base.tups,I.base.frzs,I.base.tbls⟩,⟨_,hn,fun j x w e1 e2 e3=>?_⟩,fun x c e=>?_,I.free,I.freeC,fun p hp=>?_,fun b u e=>?_,by rw [List.length_set];exact I.len⟩
  · obtain ⟨sl,e1⟩:=I.base.slot b o e n hb hx
    exact ⟨sl,kp b _ (old b o e) e1⟩
  · obtain ⟨o',e1⟩:=I.base.there b o e hx
    exact ⟨o',kp b _ (old b o e) e1⟩
  · by_cases hj:j=i
    · subst hj
      have hj':j<σ.length:=by
        have:=(List.getElem?_eq_some_iff.mp e2).1
        rw [List.length_set] at this;exact this
      rw [List.getElem?_set_self hj'] at e2;cases e2
    · rw [List.getElem?_set_ne (Ne.symm hj)] at e2
      have hx:x≠n:=fun z=>by
        subst z
        obtain ⟨a1,a2⟩:=List.getElem?_eq_some_iff.mp e1
        obtain ⟨b1,b2⟩:=List.getElem?_eq_some_iff.mp hi
        exact hj ((List.getElem_inj hN).mp (a2.trans b2.symm))
      obtain ⟨u,r,l⟩:=hl j x w e1 e2 e3
      refine ⟨u,r,?_⟩
      rcases l with ⟨k,z⟩ | ⟨k,c,ec,z⟩
      · exact .inl ⟨k,by dsimp only;rw [if_neg hx];exact z⟩
      · refine .inr ⟨k,c,ec,?_⟩
        obtain ⟨o,ho,hd⟩:=z
        exact ⟨o,kp c o (I.cne x c ec) ho,hd⟩
  · obtain ⟨w,o,ho,hd⟩:=I.cell x c e
    exact ⟨w,o,kp c o (I.cne x c e) ho,hd⟩
  · obtain ⟨e1,n1,l1,r⟩:=I.pin p hp
    exact ⟨kp _ _ l1 e1,n1,l1,r⟩
  · refine (I.hok b u e).stay (fun c w hc q=>kp c w (fun z=>?_) q) (fun _ q=>q) fun _ _ q=>q
    rcases hc with y | y
    · rw [← y,z,I.free] at e;cases e
    · rw [z,I.free] at y;cases y
end
end L2
namespace L2
open PySem PySem.W PySem.Spec PySem.Calls PyProof.Rows
def Wj (K:PySem.W.Frag) (Bc:Value) (i:Nat) (th:TS) (D:Ends):St→XK:=fun σ cls oe H=>∃ C e,cls=.ref C∧oe=some e∧exmOne K (.ref C) Bc=some true ∧
  th { nx:=fun σ' H'=>D.nx (σ'.set i none) H',rt:=D.rt,bk:=fun σ' H'=>D.bk (σ'.set i none) H',ct:=fun σ' H'=>D.ct (σ'.set i none) H' } (σ.set i (some (.ref e))) (upd H e (.ext (XAt e C)))
def tTry (K:PySem.W.Frag) (Bc:Value) (i:Nat) (tb:TX) (th:TS):TS:=fun D σ H=>tb D (Wj K Bc i th D) σ H
section
variable {X:Cx} {body suite:List Stmt} {b0:Stmt} {x n:Str} {Ba:Addr} {i:Nat} {tb:TX} {th:TS} {np hpos pos:Pos}
theorem QT (hB:Body X) (hc:X.calm=true) (hb:Xo X body tb) (hg:Gl X x) (hm:X.mg x=some (.ref Ba)) (hN:X.N.Nodup) (hi:X.N[i]?=some n) (hlo:X.env.scope.names.lookup n=some .local)
    (hs:∀ e:Addr,PSs (vh X e) (b0 :: suite) th) (hd:(x == ("__debug__":Str))=false:=by decide) :
    PS X (.Try body [.ExceptHandler (some (.Name x np)) (some n) (b0 :: suite) hpos] [] [] pos) (tTry X.K (.ref Ba) i tb th):=by
  intro pins s σ H D I h
  refine wpAny_Try_except (wpAny_mono (hb pins s σ H D _ I h) (fun fl s1 q=>?_) fun ev s1 q=>?_)
  · cases fl with
    | next=>exact wpAny_execs_nil q
    | ret v=>exact q
    | brk=>exact q
    | cont=>exact q
  obtain ⟨σ1,H1,s0,I1,ea,t,C,B,H',rfl,os,bare,fl,fy,new,nh,C',e',ec,ee,hx,ht⟩:=q
  cases ec
  cases ee
  have hfr:X.A.frames=some (X.env :: X.outer):=by rw [← hB.st];exact I1.ok.frames
  have fy0:Heap.FlyingW B (X.env :: X.outer) ea (.ref C) (.ref t) s1.heap:=by rw [← hB.st];exact fy
  refine wpAny_looks_onW hfr hB.fr fy0 fun h4 hd4 sm4=>?_
  have fl4:=fl.on (h2:=h4) hd4.1 (jJ fy.2.2.1 sm4)
  refine wpAny_landsW hd4 fun h5 fy5 sm5=>?_
  have fl5:=fl4.on (h2:=h5) fy5.1 (by rw [hB.st];exact jJ hd4.2.2.1 sm5)
  have I5:Inv X pins σ1 H' { s1 with heap:=h5 }:=I1.call' (s':={ s1 with heap:=h5 }) (ch:=[]) os fl5.un fl5.hok bare (fun b z=>nomatch z)
  have hxe:XAt ea C h5:=by obtain ⟨ob,h1,h2⟩:=fy5.there;exact ⟨ob,h1,h2⟩
  refine wpAny_handleBy_cons (codeAny_handlers_test ?_) (by intro q;cases q)
  refine lX (X:=vh X ea) (I5.sup ea) hg hm ?_ hd
  refine (exm_one (K:=X.K) I5.kIn (vM hxe) hx).at ?_
  show codeAny _ _ _ _ _
  refine codeAny_handlers_suite_as ?_
  refine lands_againW fy5 fun h6 fy6 sm6=>?_
  have fl6:=fl5.on (h2:=h6) fy6.1 (by rw [hB.st];exact jJ fy5.2.2.1 sm6)
  have I6:Inv X pins σ1 H' { s1 with heap:=h6 }:=I1.call' (s':={ s1 with heap:=h6 }) (ch:=[]) os fl6.un fl6.hok bare (fun b z=>nomatch z)
  have hxe6:XAt ea C h6:=by obtain ⟨ob,h1,h2⟩:=fy6.there;exact ⟨ob,h1,h2⟩
  have newS:X.s₀.heap.get? ea=none:=by
    cases q:X.s₀.heap.get? ea with
    | none=>rfl
    | some o =>
      obtain ⟨o',e'⟩:=I1.base.there ea o q (by rw [hB.ex];simp)
      rw [new] at e';cases e'
  have I7:Inv X pins σ1 (upd H' ea (.ext (XAt ea C))) { s1 with heap:=h6 }:=by
    refine I6.Wb nh (fun z=>?_) newS (fun y c e z=>?_) (fun p hp z=>?_) ⟨hxe6,(by obtain ⟨o,h1,_⟩:=hxe6;exact ⟨o,h1⟩),fun g1 g2 p k=>?_⟩
    · obtain ⟨m,⟨o,_,_,ho,_⟩,_⟩:=I1.loc
      rw [← z,new] at ho;cases ho
    · obtain ⟨v,o,ho,_⟩:=I1.cell y c e
      rw [z,new] at ho;cases ho
    · have ho:=(I1.pin p hp).1
      rw [z,new] at ho;cases ho
    · obtain ⟨o,h1,h2⟩:=p
      exact ⟨o,k o h1,h2⟩
  refine pL (X:=vh X ea) (I7.sup ea) hN hi (.inl hlo) (v:=.ref ea) rfl (fun s8 I8=>?_) (.inr hlo)
  refine wpAny_mono (hs ea pins s8 _ _ _ I8 ht) (fun f s9 q=>?_) fun _ _ z=>z.elim
  have out:∀ {σ9:St} {H9:Hp} (J:Inv (vh X ea) pins σ9 H9 s9) (Z:Shared→Prop),(∀ s10,Inv X pins (σ9.set i none) H9 s10→Z s10)→wpAny (model X.prog X.w) X.A (do bindName X.env n .none;unbindBehindTheSuite X.env n hpos) (fun _ s10=>Z s10) X.xe s9:=fun {σ9 H9} J Z k=>by
    have J':Inv X pins σ9 H9 s9:=J.Wm fun hc=>I1.ok.hd hc
    obtain ⟨m,hn,hl⟩:=id J'.loc
    exact wpAny_nameGoes_keeps hlo hn (by rw [J'.ok.kind];rfl) fun h' v hn' hsb=>k _ (J'.QB hN hi hsb hn hl hn')
  cases f with
  | next=>obtain ⟨σ9,H9,J,q⟩:=q;exact out J _ fun s10 J10=>⟨_,H9,J10,q⟩
  | brk=>obtain ⟨σ9,H9,J,q⟩:=q;exact out J _ fun s10 J10=>⟨_,H9,J10,q⟩
  | cont=>obtain ⟨σ9,H9,J,q⟩:=q;exact out J _ fun s10 J10=>⟨_,H9,J10,q⟩
  | ret u=>obtain ⟨v,σ9,H9,J,r,q⟩:=q;exact out J _ fun s10 J10=>⟨v,_,H9,J10,r,q⟩
def ClsV (c:V) (t:Value):Prop:=(∃ T,c=.ty T∧t=.type T)∨∃ a,c=.ref a∧t=.ref a
theorem bw:oO X (.builtin "isinstance") (fun xs H Q=>∃ (e D:Addr) (c:V) (t:Value) (b:Bool),xs=[.ref e,c]∧H e=some (.ext (XAt e D))∧Nv X.K D∧ClsV c t∧PySem.W.kitOne X.K (.ref D) t=some b∧Q (.bl b) H):=by
  intro pins s σ H xs us Q I r h
  obtain ⟨e,D,c,t,b,rfl,he,hD,hc,hk,q⟩:=h
  obtain ⟨u,v,rfl,ru,rv⟩:=vals2 r
  cases ru
  have ev:v=t:=by
    rcases hc with ⟨T,rfl,rfl⟩ | ⟨a,rfl,rfl⟩
    · exact rv
    · exact rv
  subst ev
  obtain ⟨hx,_,_⟩:=(show jk X.prog X.w H s.heap e (.ext (XAt e D)) from I.hok e _ he)
  exact PySem.W.kia_one (CV hD) I.kIn hx hk (fun z=>nomatch z) fun tk=>⟨.bl b,H,I.tok tk,rfl,q⟩
end
theorem Qo:bootBuiltins "ValueError"=some (.type "ValueError"):=by kernel_rfl
theorem Ca {X:Cx}:Passes (CXE X.prog X.w) X E0:=fun _ _ _ _ _ _ _ h=>by
  obtain ⟨_,_,_,_,_,_,_,_,_,_,_,_,hE⟩:=h
  exact hE.elim
theorem iG {X:Cx} {x:Str} {C:Addr} {pos:Pos} (hg:Gl X x) (hm:X.mg x=some (.ref C)) (hd:(x == ("__debug__":Str))=false:=by decide):PE X (.Name x pos) (tC (.ref C)):=iB (v:=.ref C) hg hm rfl hd
structure jd (K:PySem.W.Frag) (mg:Str→Option Value) (x:Str) (C:Addr):Prop where
  m:mg x=some (.ref C)
  q:excIn K C oW "ValueError.__new__"=true
  x:Nv K C
end L2
namespace L2
open PySem PySem.Spec PyProof.Rows
section
variable {X:Cx}
theorem Inv.vN {pins:List (Addr × Obj)} {σ:St} {H:Hp} {s:Shared} {h':Heap} {t':Nat} {ch:List Addr} (I:Inv X pins σ H s) (k:∀ b o,b ∉ ch→s.heap.get? b=some o→h'.get? b=some o) (f:∀ b∈ch,Du X pins H b):Inv X pins σ H { s with heap:=h',toks:=t' }:=by
  have nit:∀ b u,H b=some u→b ∉ ch:=fun b u e z=>by rw [(f b z).1] at e;cases e
  refine I.step (g':=s.gens) (d':=s.drawn) (ch:=ch) (fun b hb=>?_) (fun b o _ _ hc e _=>k b o hc e) (fun b o _ _ hc e _=>⟨o.slots,k b o hc e⟩) (fun _ _ _ _ n=>n)
    (fun b o hc e=>⟨o,k b o hc e⟩) (fun _ _ e=>e) (fun _ _ _ e=>e) (fun b ps e=>⟨#[],by rw [e];simp⟩) (fun m hm=>?_) (fun b u e=>?_) I.bare
  · obtain ⟨f0,f1,f2,f3,f4,f5⟩:=f b hb
    exact ⟨f3,f1,f4,f5⟩
  · obtain ⟨o,es,ep,ho,r⟩:=hm
    exact ⟨o,es,ep,k _ o (fun z=>(f _ z).2.1 rfl) ho,r⟩
  · refine (I.hok b u e).stay (fun c v hc q=>k c v ?_ q) (fun _ q=>q) fun _ _ q=>q
    rcases hc with z | z
    · rw [z];exact nit b u e
    · exact nit c _ z
end
end L2
namespace L2
open PySem PySem.Spec PyProof.Rows
section
variable {X:Cx}
def Ite (K:PySem.W.Frag) (l:Addr) (xs:List V):It :=
  ⟨fun i H=>SqL K H l xs∧i<xs.length,fun i H x H'=>∃ T a,x=.ref T∧H T=none∧xs[i]?=some a∧H'=upd H T (.tup [.int (i:Int),a]),fun i H=>SqL K H l xs∧xs.length≤i⟩
def Wd (e it l:Addr) (i:Nat) (h:Heap):Prop:=(∃ old,IsEnum h e it i old)∧h.IsListIter it l i
theorem vP {P:Program} {w:World} {K:PySem.W.Frag} {elts:List Expr} {kk:Nat} {tpos:Pos} {e it l:Addr} {xs:List V} (hei:e≠it) :
    Turn P w K (.Tuple elts kk tpos) (Ite K l xs) [e,it] e (Wd e it l) where
  mem:=by simp
  obj:=fun i h st b hb=>by
    obtain ⟨⟨old,he⟩,⟨o1,e1,c1,d1⟩⟩:=st
    simp at hb
    rcases hb with rfl | rfl
    · exact ⟨_,he,fun v z=>by cases (show Data.fields _=Data.cell v from z)⟩
    · exact ⟨o1,e1,fun v z=>by rw [d1] at z;cases z⟩
  keep:=fun i h h' st k=>by
    obtain ⟨⟨old,he⟩,h1⟩:=st
    exact ⟨⟨old,k e (by simp) _ he⟩,h1.at fun o x=>k it (by simp) o x⟩
  item:=by
    intro X hP hw hK hc i pins s σ H E I hf st hg
    subst hP hw hK
    obtain ⟨⟨old,he⟩,h1⟩:=st
    obtain ⟨hq1,hi1⟩:=hg
    obtain ⟨its1,rv1,pl1,hz1⟩:=I.list hq1
    obtain ⟨u1,hu1,ru1⟩:=rv1.get (List.getElem?_eq_getElem hi1)
    refine wpAny_pyNext_enum_item he h1 pl1.isList (x:=u1) (by simpa using hu1) hei fun h' a1 a2 a3 a4 hk=>?_
    have lt:∀ {c o},s.heap.get? c=some o→s.heap.objs.size≠c:=fun e=>Nat.ne_of_gt (Heap.lt_size e)
    refine ⟨.ref s.heap.objs.size,rfl,wpAny_letOwnedTupleGo_enum (s:={ s with heap:=h',toks:=s.toks + 1 }) a1 fun h'' hz' hs'=>?_⟩
    have Tz:s.heap.objs.size≠e:=lt he
    have I1:Inv X pins σ H { s with heap:=h'',toks:=s.toks + 1 }:=I.vN (ch:=[e,it])
      (fun b o hb x=>hs'.extBut b o (fun z=>hb (by simp [z])) (hk b o (fun z=>hb (by simp [z])) (fun z=>hb (by simp [z])) x)) fun b hb=>hf b hb
    obtain ⟨F0,F1,F2,F3,F4,F5⟩:=I.V1 (H':=H) (Nat.le_refl _) (I.hok.fresh (Nat.le_refl _))
    have hT:IsTup h'' s.heap.objs.size #[.int (i:Int) s.toks,u1]:=⟨_,hs'.extBut _ _ Tz a3,rfl,_,rfl⟩
    have I2:Inv X pins σ (upd H s.heap.objs.size (.tup [.int (i:Int),xs[i]])) { s with heap:=h'',toks:=s.toks + 1 }:=I1.adopt F0 F1 I.sz F4 F5 (show jk X.prog X.w _ h'' _ (.tup [.int (i:Int),xs[i]]) from ⟨by rw [sizeLine_eq];simp,[.int (i:Int) s.toks,u1],.cons ⟨_,rfl⟩ (.cons ru1 .nil),hT⟩)
    refine ⟨.ref s.heap.objs.size,_,I2,rfl,⟨_,_,rfl,F0,List.getElem?_eq_getElem hi1,rfl⟩,?_,fun b hb=>?_⟩
    · exact ⟨⟨_,by simpa using hz'⟩,a2.extBut hs'.extBut hei.symm⟩
    · rw [bC]
      · exact (hf b hb).1
      · simp at hb
        obtain ⟨o1,e1,_⟩:=h1
        rcases hb with rfl | rfl
        · exact (lt he).symm
        · exact (lt e1).symm
  done:=by
    intro X hP hw hK hc i pins s σ H E I hf st hg
    subst hP hw hK
    obtain ⟨⟨old,he⟩,h1⟩:=st
    obtain ⟨hq1,hend⟩:=hg
    obtain ⟨its1,rv1,pl1,hz1⟩:=I.list hq1
    have e1:=rv1.length
    exact wpAny_pyNext_enum_end (I.ok.hd hc) he h1 pl1.isList (by simp;omega) fun h' hk=>⟨rfl,I.vN (t':=s.toks) (ch:=[e,it])
      (fun b o hb x=>hk b o (fun z=>hb (by simp [z])) x) fun b hb=>hf b hb⟩
  self:=fun _ _ _ _ _ st h=>by
    obtain ⟨⟨old,he⟩,_⟩:=st
    exact wpAny_pyIter_enum he h
def WW (K:PySem.W.Frag) (ta:TA):TI:=fun σ H R=>ta σ H fun vs H1=>∃ l xs,vs=[.ref l]∧SqL K H1 l xs∧R (Ite K l xs) H1
theorem lV {elts:List Expr} {kk:Nat} {tpos:Pos} {a:Expr} {ta:TA} {p pos:Pos} (hg:Gl X "enumerate") (hm:X.mg "enumerate"=none) (ha:PA X [a] ta) (hs:starEach [a] X.env=[(false,eval a X.env)]:=by rfl) :
    PI X (.Tuple elts kk tpos) (.Call (.Name "enumerate" p) [a] [] pos) (WW X.K ta):=by
  intro pins s σ H R I h
  refine Call_ (pD I hg hm boot_enumerate (PyProof.Rows.callWith_type1 (thn (ha pos pins s σ H _ I h) fun us s1 ⟨vs,H1,I1,r1,q1⟩=>?_) hs rfl))
  obtain ⟨l1,xs,e,hq1,q⟩:=q1
  subst e
  obtain ⟨u,rfl,ru⟩:=vals1 r1
  cases ru
  obtain ⟨its1,rv1,pl1,hz1⟩:=I1.list hq1
  refine call_enumerate_list pl1.isList fun h' a1 a2 a3 hk=>?_
  refine wpAny_pyIter_enum a1 ?_
  refine ⟨_,_,_,_,H1,rfl,I1.kept (t':=s1.toks) hk,vP (l:=l1) (xs:=xs) (it:=s1.heap.objs.size) (Nat.succ_ne_self _),⟨⟨_,a1⟩,a2⟩,fun b hb=>?_,q⟩
  have hb':s1.heap.objs.size≤b:=by
    simp at hb
    rcases hb with rfl | rfl <;> simp
  exact I1.V1 hb' (I1.hok.fresh hb')
theorem uU {K:PySem.W.Frag} {l:Addr} {xs:List V} {g:TG} {tb:TS} {D:Ends} {σ:St} {H:Hp} (Pv:Nat→St→Hp→Prop) (h0:Pv 0 σ H) (hl:∀ i σ H,i≤xs.length→Pv i σ H→SqL K H l xs)
    (hs:∀ i a T σ H,xs[i]?=some a→Pv i σ H→H T=none→g (.ref T) σ (upd H T (.tup [.int (i:Int),a])) fun σ2 H2=>tb { D with nx:=Pv (i + 1),ct:=Pv (i + 1),bk:=D.nx } σ2 H2) (hd:∀ σ H,Pv xs.length σ H→D.nx σ H) :
    ∃ W:Nat→Nat→St→Hp→Prop,(∃ m,W 0 m σ H)∧∀ i m σ H,W i m σ H →
      ((Ite K l xs).stop i H∧D.nx σ H)∨((Ite K l xs).go i H∧∃ N:St→Hp→Prop,(∀ σ' H',N σ' H'→∃ m',m'<m∧W (i + 1) m' σ' H')∧∀ x H',(Ite K l xs).yld i H x H'→g x σ H' fun σ2 H2=>tb { D with nx:=N,ct:=N,bk:=D.nx } σ2 H2):=by
  refine ⟨fun i m σ H=>m=xs.length - i∧i≤xs.length∧Pv i σ H,⟨xs.length,by simp,Nat.zero_le _,h0⟩,?_⟩
  rintro i m σ H ⟨rfl,hi,p⟩
  have q1:=hl i σ H hi p
  by_cases hlt:i<xs.length
  · refine .inr ⟨⟨q1,hlt⟩,Pv (i + 1),fun σ' H' p'=>⟨xs.length - (i + 1),by omega,rfl,hlt,p'⟩,fun x H' y=>?_⟩
    obtain ⟨T,a,rfl,hT,ha,rfl⟩:=y
    exact hs i a T σ _ ha p hT
  · have e:i=xs.length:=by omega
    subst e
    exact .inl ⟨⟨q1,Nat.le_refl _⟩,hd σ H p⟩
theorem iV {K:PySem.W.Frag} {a:Addr} {xs:List V} {acc:Addr} {g:TG} {tc:TT} {te:TE} {τ:St} {H1:Hp} {Q:Hp→Prop} (Pv:Nat→St→Hp→Prop) (h0:Pv 0 τ (upd H1 acc (.lst []))) (hl:∀ i τ H,i≤xs.length→Pv i τ H→SqL K H a xs)
    (hs:∀ i x T τ H,xs[i]?=some x→Pv i τ H→H T=none→g (.ref T) τ (upd H T (.tup [.int (i:Int),x])) fun τ4 H4=>tc τ4 H4 fun b H5=>if b=true then te τ4 H5 fun y H6=>∃ ys,H6 acc=some (.lst ys)∧ys.length<sizeLine∧Pv (i + 1) τ4 (upd H6 acc (.lst (ys++[y]))) else Pv (i + 1) τ4 H5)
    (hd:∀ τ H,Pv xs.length τ H→Q H):qD (Ite K a xs) acc g tc te τ H1 Q:=by
  refine ⟨fun i m τ H=>m=xs.length - i∧i≤xs.length∧Pv i τ H,⟨xs.length,by simp,Nat.zero_le _,h0⟩,?_⟩
  rintro i m τ H ⟨rfl,hi,p⟩
  have q:=hl i τ H hi p
  by_cases hlt:i<xs.length
  · refine .inr ⟨⟨q,hlt⟩,Pv (i + 1),fun τ' H' p'=>⟨xs.length - (i + 1),by omega,rfl,hlt,p'⟩,fun x H' y=>?_⟩
    obtain ⟨T,b,rfl,hT,hb,rfl⟩:=y
    exact hs i b T τ _ hb p hT
  · have e:i=xs.length:=by omega
    subst e
    exact .inl ⟨⟨q,Nat.le_refl _⟩,hd τ H p⟩
end
end L2
namespace L2
open PySem PySem.Spec PyProof.Rows
structure Iv (P:Prop):Prop where
  t:True
  p:P
theorem ifT {c:Bool} {A B:Prop} (h:c=true) (a:A):if c=true then A else B:=by rw [if_pos h];exact a
theorem ifF {c:Bool} {A B:Prop} (h:c=false) (b:B):if c=true then A else B:=by rw [if_neg (by rw [h];exact Bool.false_ne_true)];exact b
theorem ifB {c:Bool} {A B:Prop} (h1:c=true→A) (h2:c=false→B):if c=true then A else B:=by
  cases c with
  | true=>exact ifT rfl (h1 rfl)
  | false=>exact ifF rfl (h2 rfl)
theorem Qk (x y:Int):decide (V.int x=V.int y)=decide (x=y):=by
  by_cases h:x=y
  · simp [h]
  · have:¬ V.int x=V.int y:=fun e=>h (by cases e;rfl)
    simp [h,this]
theorem ig {ns:List Int} {i:Int} (h0:0≤i) (h1:i<(ns.length:Int)):atI (ns.map V.int) i=some (V.int (ns.getD i.toNat 0)):=by
  refine j6 h0 ?_
  rw [List.getD_eq_getElem?_getD,List.getElem?_eq_getElem (by omega)];rfl
theorem lK {ns:List Int} {k:Nat} (h:k<ns.length):ns[k]?=some (ns.getD k 0):=by
  rw [List.getD_eq_getElem?_getD,List.getElem?_eq_getElem h];rfl
theorem WM {n:Nat} {i:Int} (h0:0≤i) (h1:i<(n:Int)):ixN n i=some i.toNat:=by
  unfold ixN;rw [if_pos h0,if_pos h1]
theorem dM.mo {T:eX} {K:PySem.W.Frag} {H H':Hp} {vs:List V} {ds:List PyData} (h:dM K H vs ds) (e:aY T H H'):dM K H' vs ds:=dM.vC e h
theorem SqL.mo {T:eX} {K:PySem.W.Frag} {H H':Hp} {a:Addr} {xs:List V} (h:SqL K H a xs) (e:aY T H H'):SqL K H' a xs:=e.seq h
theorem SqT.mo {T:eX} {K:PySem.W.Frag} {H H':Hp} {a:Addr} {xs:List V} (h:SqT K H a xs) (e:aY T H H'):SqT K H' a xs:=e.Od h
section
variable {T:eX} {H0 H1 H H':Hp} {L L':List (Addr × HO)} {a l p:Addr} {o o':HO} {xs:List V} {K:PySem.W.Frag}
theorem Ow.frz (O:Ow T H0 H ((p,o) :: L)):∃ Hn,Ow T Hn H L∧aY T H0 Hn∧Hn p=some o:=by
  obtain ⟨Hn,On,sn,kn⟩:=O.tail.reb
  refine ⟨Hn,On,sn,kn p o (O.get 0) fun q hq z=>?_⟩
  have nd:=O.nd
  rw [List.map_cons,List.nodup_cons] at nd
  exact nd.1 (List.mem_map.mpr ⟨q,hq,z⟩)
theorem Ow.join (O:Ow T H0 H L) (O':Ow T H H' L'):Ow T H0 H' (L'++L):=by
  have keep:∀ q∈L,H' q.1=some q.2:=fun q hq=>(O.m6 O'.same).at_ q hq
  refine ⟨O.same.trans O'.same,fun q hq=>?_,fun q hq=>?_,fun q hq=>?_,?_⟩
  · rcases List.mem_append.mp hq with h | h
    · exact O.same.free (O'.new q h)
    · exact O.new q h
  · rcases List.mem_append.mp hq with h | h
    · exact O'.at_ q h
    · exact keep q h
  · rcases List.mem_append.mp hq with h | h
    · exact O'.pl q h
    · exact O.pl q h
  · rw [List.map_append,List.nodup_append]
    refine ⟨O'.nd,O.nd,fun x hx y hy z=>?_⟩
    obtain ⟨q,hq,rfl⟩:=List.mem_map.mp hx
    obtain ⟨r,hr,rfl⟩:=List.mem_map.mp hy
    have:=O'.new q hq
    rw [z,O.at_ r hr] at this
    cases this
end
def dTup (ns:List Int):PyData:=.tuple (ns.map PyData.int)
section
variable {K:PySem.W.Frag} {H:Hp} {v:V} {a:Addr} {ns:List Int} {rs:List (List Int)}
theorem Den.tup (h:SqT K H a (ns.map V.int)):Den K H (.ref a) (dTup ns):=.tuple h (dM.ints ns)
theorem Den.NZ (h:Den K H v (dTup ns)):∃ a,v=.ref a∧SqT K H a (ns.map V.int):=by
  cases h with
  | tuple h hs=>exact ⟨_,rfl,by rw [← dM.int_inv hs];exact h⟩
theorem Sh.tup (n:Nat) (ns:List Int):Sh (n + 1) (dTup ns):=.tuple fun d hd=>by
  obtain ⟨i,_,rfl⟩:=List.mem_map.mp hd
  exact .int n i
end
end L2
namespace L2
open PySem PySem.Spec PyProof.Rows
section
variable {A B:Prop}
theorem ifD {p:Prop} [Decidable p] (h1:p→A) (h2:¬ p→B):if decide p=true then A else B:=ifB (fun h=>h1 (of_decide_eq_true h)) fun h=>h2 (of_decide_eq_false h)
theorem ifI {x y:Int} (h1:x=y→A) (h2:¬ x=y→B):if decide (V.int x=V.int y)=true then A else B:=by rw [Qk];exact ifD h1 h2
theorem ifN {c:Bool} (h:if c=true then B else A):if (!c)=true then A else B:=by cases c <;> simpa using h
end
structure Lic where
  day:Int
  start:Int
  back:Int
  most:Int
def mZ (l:Lic):PyData:=dTup [l.day,l.start,l.back,l.most]
def W6 (ls:List Lic):PyData:=.list (ls.map mZ)
abbrev mC (l:Lic):List V:=[.int l.day,.int l.start,.int l.back,.int l.most]
section
variable {K:PySem.W.Frag} {H:Hp} {v:V} {a:Addr} {ls:List Lic} {l:Lic} {xs:List V} {k:Nat}
theorem Den.lic (h:SqT K H a (mC l)):Den K H (.ref a) (mZ l):=Den.tup (ns:=[l.day,l.start,l.back,l.most]) h
theorem Den.xH (h:Den K H v (mZ l)):∃ a,v=.ref a∧SqT K H a (mC l):=h.NZ
theorem dM.jR (h:dM K H xs (ls.map mZ)) (hk:ls[k]?=some l):∃ a,xs[k]?=some (.ref a)∧SqT K H a (mC l):=by
  obtain ⟨v,h1,h2⟩:=h.get (i:=k) (d:=mZ l) (by rw [List.getElem?_map,hk];rfl)
  obtain ⟨a,rfl,hT⟩:=h2.xH
  exact ⟨a,h1,hT⟩
theorem dM.lu (h:dM K H xs (ls.map mZ)) (hx:xs[k]?=some v):∃ a l,v=.ref a∧ls[k]?=some l∧SqT K H a (mC l):=by
  obtain ⟨d,h1,h2⟩:=h.get' hx
  rw [List.getElem?_map] at h1
  cases e:ls[k]? with
  | none=>rw [e] at h1;cases h1
  | some l =>
    rw [e] at h1
    cases h1
    obtain ⟨a,rfl,hT⟩:=h2.xH
    exact ⟨a,l,rfl,rfl,hT⟩
theorem Sh.lic (n:Nat) (l:Lic):Sh (n + 1) (mZ l):=Sh.tup n _
theorem Sh.roll (n:Nat) (ls:List Lic):Sh (n + 2) (W6 ls):=.list fun d hd=>by
  obtain ⟨i,_,rfl⟩:=List.mem_map.mp hd
  exact .lic n i
end
theorem Qm (xs:List V) (i j:Nat):tX xs (some (i:Int)) (some (j:Int))=(xs.drop i).take (j - i):=by
  unfold tX
  rw [HT.sZ,HT.sZ]
  refine List.ext_getElem? fun k=>?_
  simp only [List.getElem?_take,List.getElem?_drop]
  by_cases h1:k<j - i
  · rw [if_pos h1]
    by_cases h2:i + k<xs.length
    · rw [if_pos (by omega),show min i xs.length=i by omega]
    · rw [List.getElem?_eq_none (l:=xs) (i:=i + k) (by omega)]
      split
      · exact List.getElem?_eq_none (by omega)
      · rfl
  · rw [if_neg h1]
    split
    · rename_i h3
      omega
    · rfl
theorem V4 (ns:List Int) (i j:Nat):tX (ns.map V.int) (some (i:Int)) (some (j:Int))=((ns.drop i).take (j - i)).map V.int:=by
  rw [Qm,List.map_take,List.map_drop]
theorem qm (ns:List Int) (i:Nat):tX (ns.map V.int) (some (i:Int)) none=(ns.drop i).map V.int:=by
  unfold tX
  rw [HT.sZ,List.length_map,show HT.sIx ns.length ns.length none=ns.length from rfl,List.map_drop]
  by_cases h:i≤ns.length
  · rw [Nat.min_eq_left h,List.take_of_length_le (by rw [List.length_drop,List.length_map];omega)]
  · rw [Nat.min_eq_right (by omega),List.drop_of_length_le (l:=ns.map V.int) (i:=i) (by rw [List.length_map];omega),Nat.sub_self,List.take_zero]
end L2
namespace L2
open PySem PySem.Spec PyProof.Rows
end L2
namespace L2
open PySem PySem.Spec PyProof.Rows
theorem qb {X:Cx} {K:PySem.W.Frag} {pos:Pos} {es:List Expr} {k:Nat} {t:TGs} {n:Nat} (hK:X.K=K) (hc:X.calm=true) (h:PGs X es t) (hn:(assignEach es X.env).length=n:=by rfl) (hst:(assignEach es X.env).findIdx? (·.1)=none:=by rfl):PG X (.Tuple es k pos) (Xl K n t):=hK ▸ qX hc h hn hst
end L2
namespace L2
open PySem PySem.Spec PyProof.Rows
theorem Xc {τ:St} {H:Hp} {A B:Hp→Prop} (h:A H):Wn τ H fun b H5=>if b=true then A H5 else B H5:=by
  show if true=true then A H else B H
  rw [if_pos rfl];exact h
end L2
namespace L2
open PySem PySem.Spec PyProof.Rows
theorem pH {α:Type}:∀ {L:List α} {k:Nat} {p:α},L[k]?=some p→(p :: L.eraseIdx k).Perm L
  | [],_,_,h=>by simp at h
  | a :: L,0,p,h=>by
    have e:a=p:=by simpa using h
    subst e;exact List.Perm.refl _
  | a :: L,k + 1,p,h=>by
    have h':L[k]?=some p:=by simpa using h
    rw [List.eraseIdx_cons_succ]
    exact (List.Perm.swap a p _).trans ((pH h').cons a)
section
variable {T:eX} {H0 H:Hp} {L:List (Addr × HO)} {p:Addr} {o:HO}
theorem Ow.pull (O:Ow T H0 H L) (k:Nat) (h:L[k]?=some (p,o):=by rfl):Ow T H0 H ((p,o) :: L.eraseIdx k):=O.perm (pH h)
end
end L2
namespace L2
open PySem PySem.Spec PyProof.Rows
end L2
namespace L2
open PySem PySem.Spec PyProof.Rows
end L2
namespace L2
open PySem PySem.W PySem.Spec PyProof.Rows
end L2
namespace L2
open PySem PySem.Spec PyProof.Rows
abbrev KT (H:Hp):List (List Key × V)→List (List Key × Addr × Value)→Prop:=Paired fun p q=>p.1=q.1∧H q.2.1=some (.tup (p.1.map kV))∧RelV p.2 q.2.2
abbrev VV:List (V × V)→List (Value × Value)→Prop:=Paired fun p q=>RelV p.1 q.1∧RelV p.2 q.2
end L2
namespace L2
open PySem PySem.W PySem.Spec PyProof.Rows
end L2
namespace L2
open PySem PySem.W PySem.Spec PyProof.Rows
section
variable {X:Cx}
abbrev oLic (l:Lic):HO:=.tup (mC l)
abbrev oInts (w:List Int):HO:=.lst (w.map V.int)
end
end L2
namespace L2
open PySem PySem.W PySem.Spec PyProof.Rows
end L2
namespace L2
open PySem PySem.W PySem.Spec PyProof.Rows
end L2
namespace HT
open PySem PyProof.Rows
end HT
namespace L2
open PySem PySem.W PySem.Spec PyProof.Rows
end L2
namespace L2
open PySem PySem.Spec PyProof.Rows
def Its (x:Str):It:=⟨fun i _=>i<x.cps.size,fun i H y H'=>H'=H∧∃ c,x.cps[i]?=some c∧y=.str ⟨#[c]⟩,fun i _=>x.cps.size≤i⟩
theorem BP {P:Program} {w:World} {K:PySem.W.Frag} {tg:Expr} (it:Addr) (x:Str) (t:Tok):Turn P w K tg (Its x) [it] it (fun i h=>h.IsStrIter it "str_ascii_iterator" x t i) where
  mem:=by simp
  obj:=fun i h st b hb=>by
    have e:b=it:=by simpa using hb
    subst e
    obtain ⟨o,e,c,d⟩:=st
    exact ⟨o,e,fun v z=>by rw [d] at z;cases z⟩
  keep:=fun i h h' st k=>let ⟨o,e,r⟩:=st;⟨o,k it (by simp) o e,r⟩
  item:=by
    intro X hP hw hK hc i pins s σ H E I hf st hg
    subst hP hw hK
    obtain ⟨f0,f1,f2,f3,f4,f5⟩:=hf it (by simp)
    have hg:i<x.cps.size:=hg
    have hx:x.cps[i]?=some x.cps[i]:=by simp [hg]
    refine wpAny_pyNext_ascii_item st hx fun h' st' sb=>?_
    have I1:Inv X pins σ H { s with heap:=h',toks:=s.toks + 1 }:=I.turned (fun b o hb e=>(sb.2 b hb).trans e) f0 f1 f3 f4 f5
    obtain ⟨o,e,c,d⟩:=id st'
    exact ⟨_,rfl,Qh (s:={ s with heap:=h',toks:=s.toks + 1 }) e c d (by decide) ⟨.str ⟨#[x.cps[i]]⟩,H,I1,⟨_,rfl⟩,⟨rfl,_,hx,rfl⟩,st',fun b hb=>(hf b hb).1⟩⟩
  done:=by
    intro X hP hw hK hc i pins s σ H E I hf st hg
    subst hP hw hK
    obtain ⟨f0,f1,f2,f3,f4,f5⟩:=hf it (by simp)
    have hg:x.cps.size≤i:=hg
    exact wpAny_pyNext_ascii_end (I.ok.hd hc) st (by simp [hg]) fun h' eb=>⟨rfl,I.turned (t':=s.toks) (fun b o hb e=>eb b o hb e) f0 f1 f3 f4 f5⟩
  self:=fun _ _ _ _ _ st h=>wpAny_pyIter_striter_ascii st h
section
variable {X:Cx} {tg:Expr}
def iStr (tl:TE):TI:=fun σ H R=>tl σ H fun v H1=>∃ x,v=.str x∧x.cps.all (·<128)=true∧R (Its x) H1
theorem QW {l:Expr} {tl:TE} (hl:PE X l tl):PI X tg l (iStr tl):=by
  intro pins s σ H R I h
  refine thn (hl pins s σ H _ I h) fun v s1 ⟨x,H1,I1,r1,q1⟩=>?_
  obtain ⟨z,e,ha,q⟩:=q1
  subst e
  obtain ⟨t,rfl⟩:=r1
  refine wpAny_pyIter_ascii ha ?_
  refine ⟨s1.heap.objs.size,[s1.heap.objs.size],_,_,H1,rfl,I1.kept (t':=s1.toks) fun b o e=>Heap.get?_push_of_some _ e,BP _ z t,⟨_,Heap.get?_push_size _ rfl,rfl,rfl⟩,fun b hb=>?_,q⟩
  have e:b=s1.heap.objs.size:=by simpa using hb
  subst e
  exact I1.V1 (Nat.le_refl _) (I1.hok.fresh (Nat.le_refl _))
theorem Dl {x:Str} {acc:Addr} {g:TG} {tc:TT} {te:TE} {τ:St} {H1:Hp} {Q:Hp→Prop} (Pv:Nat→St→Hp→Prop) (h0:Pv 0 τ (upd H1 acc (.lst [])))
    (hs:∀ i c τ H,x.cps[i]?=some c→Pv i τ H→g (.str ⟨#[c]⟩) τ H fun τ4 H4=>tc τ4 H4 fun b H5=>if b=true then te τ4 H5 fun y H6=>∃ ys,H6 acc=some (.lst ys)∧ys.length<sizeLine∧Pv (i + 1) τ4 (upd H6 acc (.lst (ys++[y]))) else Pv (i + 1) τ4 H5)
    (hd:∀ τ H,Pv x.cps.size τ H→Q H):qD (Its x) acc g tc te τ H1 Q:=by
  refine ⟨fun i m τ H=>m=x.cps.size - i∧i≤x.cps.size∧Pv i τ H,⟨x.cps.size,by simp,Nat.zero_le _,h0⟩,?_⟩
  rintro i m τ H ⟨rfl,hi,p⟩
  by_cases hlt:i<x.cps.size
  · refine .inr ⟨hlt,Pv (i + 1),fun τ' H' p'=>⟨x.cps.size - (i + 1),by omega,rfl,hlt,p'⟩,fun y H' e=>?_⟩
    obtain ⟨e,c,hc,ey⟩:=e
    subst e ey
    exact hs i c τ _ hc p
  · have e:i=x.cps.size:=by omega
    subst e
    exact .inl ⟨Nat.le_refl _,hd τ H p⟩
structure Dm (K:PySem.W.Frag) (C:Addr) (x qual:Str) (st:Stmt) (ps:List Str) (a:Addr) (fd:FuncData):Prop where
  F:Fun K x qual st a fd
  b:Binds K fd ps []
  m:Meth K C x a
structure Qy (K:PySem.W.Frag) (x qual:Str) (st:Stmt) (dv:List Value) (f:Addr) (fd:FuncData):Prop where
  ex:∃ (oc:Value) (od:Option Addr) (T:Addr) (o:Obj) (n:Nat) (kV doc pm:Value) (an:Option Addr) (cdv ct:Value) (osl:Array (Option Value)),
    fd=PySem.W.fnOf x qual (aB st) (aA st) (ak st) (.ref T) kV doc pm an cdv ct∧K.lookup f=some ⟨oc,od,.func fd,osl⟩∧PySem.W.codeIn K cdv qual=true∧K.lookup T=some o∧o.data=.seq dv.toArray n
  kp:PySem.W.keepIn K (.ref f)=true
section
variable {P:Program} {w:World} {K:PySem.W.Frag} {mg:Str→Option Value} {base:Heap} {x qual:Str} {st:Stmt} {dv:List Value} {f:Addr} {fd:FuncData} {N ps:List Str} {k:Nat} {sp:Sp}
theorem Qy.okX (F:Qy K x qual st dv f fd) (S:aQ N ps (ak st)) (len:∀ vs H Q E,sp vs H Q E→vs.length=ps.length)
    (hbody:∀ (cdv:Value) (A:Around) (outer:List Env) (s:Shared) (H:Hp) (vs:List V) (Q:VK) (E:XK),lZ k (A.deeper (envOfC qual (ak st) s.heap.objs.size f cdv))→sp vs H Q E →
      ∃ t,PSs (Bt (CXE P w) P w K mg base N qual (ak st) f cdv A outer s H E) (aA st) t∧t { nx:=fun _ H'=>Q .non H',rt:=Q } (start N vs) H):bN P w K mg base (CXE P w) (k + 1) f fd ps sp:=by
  obtain ⟨oc,od,T,o,n,kV,doc,pm,an,cdv,ct,osl,rfl,lk,hcd,_⟩:=F.ex
  exact Qi lk hcd S len fun A outer s H vs Q E hr hsp=>hbody cdv A outer s H vs Q E hr hsp
theorem Qy.binds {ds:List Value} (F:Qy K x qual st dv f fd)
    (h:∀ (T:Addr) (kV doc pm:Value) (an:Option Addr) (cdv ct:Value) (us:List Value),(us++ds).length=ps.length→∃ k:Option (Array Value)→Sem (List (Str × Value)),
      bindArgs (PySem.W.fnOf x qual (aB st) (aA st) (ak st) (.ref T) kV doc pm an cdv ct) ⟨us,[]⟩=(seqItems? (.ref T) >>= k)∧k (some dv.toArray)=pure (ps.zip (us++ds))):Binds K fd ps ds:=by
  obtain ⟨oc,od,T,o,n,kV,doc,pm,an,cdv,ct,osl,rfl,lk,hcd,lt,hs⟩:=F.ex
  intro s us X hl
  obtain ⟨k,h1,h2⟩:=h T kV doc pm an cdv ct us hl
  exact BindsTo.of_defaults rfl (X _ _ lt) hs h1 h2
end
structure DmD (K:PySem.W.Frag) (C:Addr) (x qual:Str) (st:Stmt) (ps:List Str) (a:Addr) (fd:FuncData):Prop where
  F:Qy K x qual st [.none] a fd
  b0:Binds K fd ps []
  b1:Binds K fd ps [.none]
  m:Meth K C x a
structure Cl (K:PySem.W.Frag) (mg:Str→Option Value) (x:Str) (C f:Addr) (fs:List Str):Prop where
  c:Cls K C
  k:Mk K C f
  m:mg x=some (.ref C)
  n:∀ y∈fs,ju K C y
end
section
variable {T:eX} {H0 H:Hp} {L R B:List (Addr × HO)} {a b:Addr} {o o':HO} {x y:Addr × HO}
theorem Ow.ne (O:Ow T H0 H L) (i j:Nat) (hi:L[i]?=some (a,o):=by rfl) (hj:L[j]?=some (b,o'):=by rfl) (hij:i≠j:=by decide):a≠b:=by
  intro e
  subst e
  have h1:(L.map (·.1))[i]?=some a:=by rw [List.getElem?_map,hi];rfl
  have h2:(L.map (·.1))[j]?=some a:=by rw [List.getElem?_map,hj];rfl
  exact hij ((List.getElem?_inj (List.getElem?_eq_some_iff.mp h1).1 O.nd).mp (h1.trans h2.symm))
theorem Ow.mid (O:Ow T H0 H (x :: (R++B))):Ow T H0 H (R++x :: B):=O.perm List.perm_middle
end
end L2
namespace L2
open PySem PySem.Spec PyProof.Rows
def rSlS:V→Option Int→Option Int→Hp→VK→Prop:=fun x lo hi H Q=>∃ z,x=.str z∧z.length≤100000∧Q (.str (Txt.slice z lo hi)) H
theorem wB {X:Cx}:SlR X rSlS:=by
  intro pins s σ H x v vl vu lo hi sl Q I rx hs pl pu h
  obtain ⟨z,rfl,hz,q⟩:=h
  obtain ⟨t,rfl⟩:=rx
  refine ⟨"str",_,F.slot_str_getitem.lookup,typeIs_str _ _ _,?_⟩
  have hk:∀ (lo hi:Option Int),(Txt.slice z lo hi).length≤sizeLine:=fun lo hi=>Nat.le_trans (Txt.slice_le z lo hi) (by rw [sizeLine_eq];omega)
  cases pl with
  | none =>
    cases pu with
    | none=>exact wpAny_getItem_str_slice (l:=none) (u:=none) (st:=none) hs rfl (post_val_or_str ⟨hk _ _,fun t' k=>⟨.str _,H,I.tok _,⟨_,rfl⟩,q⟩⟩)
    | int j tj=>exact wpAny_getItem_str_slice (l:=none) (u:=some (j,tj)) (st:=none) hs rfl (post_val_or_str ⟨hk _ _,fun t' k=>⟨.str _,H,I.tok _,⟨_,rfl⟩,q⟩⟩)
  | int i ti =>
    cases pu with
    | none=>exact wpAny_getItem_str_slice (l:=some (i,ti)) (u:=none) (st:=none) hs rfl (post_val_or_str ⟨hk _ _,fun t' k=>⟨.str _,H,I.tok _,⟨_,rfl⟩,q⟩⟩)
    | int j tj=>exact wpAny_getItem_str_slice (l:=some (i,ti)) (u:=some (j,tj)) (st:=none) hs rfl (post_val_or_str ⟨hk _ _,fun t' k=>⟨.str _,H,I.tok _,⟨_,rfl⟩,q⟩⟩)
theorem nF {x:Str} {lo hi:Option Int} {c:Nat} (h:c∈(Txt.slice x lo hi).cps.toList):c∈x.cps.toList:=by
  unfold Txt.slice at h
  split at h
  · exact h
  · simp only [List.mem_filterMap] at h
    obtain ⟨a,_,h⟩:=h
    exact Array.mem_toList_iff.mpr (Array.mem_of_getElem? h)
end L2
namespace L2
open PySem PySem.W PySem.Spec PyProof.Rows
theorem dM.strs {K:PySem.W.Frag} {H:Hp}:∀ xs:List Str,dM K H (xs.map V.str) (xs.map PyData.str)
  | []=>.nil
  | x :: xs=>.cons (.str x) (dM.strs xs)
end L2
namespace L2
open PySem PySem.Spec PyProof.Rows
end L2
namespace Rv
def lN (r:List Int):Prop:=∃ rk:Nat→Nat,(∀ i,i<r.length→rk i<r.length) ∧
  ∀ (i:Nat) (x:Int),r[i]?=some x→x=-1∨(0≤x∧x<r.length∧rk x.toNat<rk i)
def nxt (r:List Int) (p:Int):Int:=r.getD p.toNat (-1)
theorem jV {r:List Int} {p:Int} (h0:0≤p) (h1:p<r.length):r[p.toNat]?=some (nxt r p):=by
  have h:p.toNat<r.length:=by omega
  unfold nxt
  rw [List.getD_eq_getElem?_getD,List.getElem?_eq_getElem h];rfl
theorem lN.step {r:List Int} (h:lN r) {p:Int} (h0:0≤p) (h1:p<r.length):nxt r p=-1∨(0≤nxt r p∧nxt r p<r.length):=by
  obtain ⟨rk,_,h3⟩:=h
  rcases h3 _ _ (jV h0 h1) with e | ⟨a,b,_⟩
  · exact .inl e
  · exact .inr ⟨a,b⟩
def nA (r:List Int):Nat→Int→List Int
  | 0,_=>[]
  | f + 1,p=>if p=-1 then [] else p :: nA r f (nxt r p)
def walk (r:List Int) (p:Int):List Int:=nA r (r.length + 1) p
theorem lD (r:List Int) (f:Nat):nA r f (-1)=[]:=by
  cases f with
  | zero=>rfl
  | succ f=>unfold nA;rw [if_pos rfl]
theorem pK (r:List Int):walk r (-1)=[]:=lD r _
theorem mz {r:List Int} {rk:Nat→Nat} (h:∀ (i:Nat) (x:Int),r[i]?=some x→x=-1∨(0≤x∧x<r.length∧rk x.toNat<rk i)) :
    ∀ (f g:Nat) (p:Int),0≤p→p<r.length→rk p.toNat<f→rk p.toNat<g→nA r f p=nA r g p
  | 0,_,_,_,_,hf,_=>by omega
  | _ + 1,0,_,_,_,_,hg=>by omega
  | f + 1,g + 1,p,h0,h1,hf,hg=>by
    unfold nA
    rw [if_neg (by omega),if_neg (by omega)]
    rcases h _ _ (jV h0 h1) with e | ⟨a,b,c⟩
    · rw [e,lD,lD]
    · rw [mz h f g _ a b (by omega) (by omega)]
theorem iT {r:List Int} (h:lN r) {p:Int} (h0:0≤p) (h1:p<r.length):walk r p=p :: walk r (nxt r p):=by
  obtain ⟨rk,h2,h3⟩:=h
  show nA r (r.length + 1) p=_
  unfold nA
  rw [if_neg (by omega)]
  rcases h3 _ _ (jV h0 h1) with e | ⟨a,b,c⟩
  · rw [e,lD,pK]
  · have:=h2 p.toNat (by omega)
    unfold walk
    rw [mz h3 r.length (r.length + 1) _ a b (by omega) (by omega)]
theorem qz (r:List Int):∀ (f:Nat) (p:Int),(nA r f p).length≤f
  | 0,_=>Nat.le_refl _
  | f + 1,p=>by
    unfold nA
    split
    · exact Nat.zero_le _
    · exact Nat.succ_le_succ (qz r f _)
theorem ur (r:List Int) (p:Int):(walk r p).length≤r.length + 1:=qz r _ _
noncomputable def mea (r:List Int) (p:Int):Nat:=(walk r p).length
theorem DQ {r:List Int} (h:lN r) {p:Int} (h0:0≤p) (h1:p<r.length):mea r (nxt r p)<mea r p:=by
  unfold mea;rw [iT h h0 h1];exact Nat.lt_succ_self _
def stp (r:List Int) (p:Int):Int:=if p=-1 then -1 else nxt r p
def lQ (r:List Int):Nat→Int→Int
  | 0,p=>p
  | f + 1,p=>lQ r f (stp r p)
theorem uw (r:List Int):∀ f,lQ r f (-1)=-1
  | 0=>rfl
  | f + 1=>by
    show lQ r f (stp r (-1))=-1
    unfold stp
    rw [if_pos rfl];exact uw r f
theorem jZ (r:List Int):∀ (f:Nat) (p:Int),lQ r (f + 1) p=stp r (lQ r f p)
  | 0,_=>rfl
  | f + 1,p=>by
    show lQ r (f + 1) (stp r p)=stp r (lQ r f (stp r p))
    exact jZ r f (stp r p)
theorem ux (r:List Int) (p:Int) {f:Nat} (h:lQ r f p=-1):∀ g,lQ r (f + g) p=-1
  | 0=>h
  | g + 1=>by
    rw [show f + (g + 1)=(f + g) + 1 from rfl,jZ,ux r p h g]
    unfold stp;rw [if_pos rfl]
def inB (r:List Int):Prop:=∀ x∈r,-1≤x∧x<(r.length:Int)
instance (r:List Int):Decidable (inB r):=inferInstanceAs (Decidable (∀ x∈r,-1≤x∧x<(r.length:Int)))
theorem O1 {r:List Int} (h:inB r) {p:Int} (h0:0≤p) (h1:p<r.length):-1≤nxt r p∧nxt r p<r.length:=h _ (List.mem_of_getElem? (jV h0 h1))
theorem uR {r:List Int} (h:inB r) {p:Int} (h0:0≤p) (h1:p<r.length):∀ f,-1≤lQ r f p∧lQ r f p<(r.length:Int)
  | 0=>⟨by show -1≤p;omega,h1⟩
  | f + 1=>by
    rw [jZ]
    obtain ⟨a,b⟩:=uR h h0 h1 f
    unfold stp
    by_cases e:lQ r f p=-1
    · rw [if_pos e];omega
    · rw [if_neg e];exact O1 h (by omega) b
def isR (r:List Int):Bool:=decide (1≤r.length∧r.length≤40) && decide (inB r) && decide (∀ i,i<r.length→lQ r r.length (i:Int)=-1)
end Rv
namespace Rv
end Rv
namespace Rv
abbrev Mv:=Int × Int × Int
end Rv
namespace Rv
end Rv
namespace Rv
end Rv
namespace Rv
end Rv
namespace Rv
end Rv
namespace Rv
end Rv
namespace Tn
end Tn
namespace Tn
end Tn
namespace Tn
end Tn
namespace Tn
end Tn
namespace Tn
end Tn
namespace Tn
end Tn
namespace Tn
end Tn
namespace Tn
end Tn
namespace Tn
end Tn
namespace Tn
theorem jm {α:Type} {gs:List α} {i:Nat} {k:α} (h:gs[i]?=some k):gs.take (i + 1)=gs.take i++[k]:=by
  rw [List.take_add_one,h];rfl
end Tn
namespace Tn
end Tn
namespace Tn
end Tn
namespace Tn
end Tn
namespace Tn
end Tn
namespace Rv
end Rv
namespace Rv
def spot (n x s:Int) (k:Nat):Int:=(x + s * (k:Int)) % n
theorem uX {n a b:Int} (hn:0<n) (h:a % n=b % n) (h1:a - b<n) (h2:b - a<n):a=b:=by
  have ea:=Int.emod_add_mul_ediv a n
  have eb:=Int.emod_add_mul_ediv b n
  have e:a - b=n * (a / n - b / n):=by rw [Int.mul_sub];omega
  generalize a / n - b / n=q at e
  by_cases h0:q=0
  · rw [h0,Int.mul_zero] at e;omega
  · by_cases hp:1≤q
    · have:=Int.mul_le_mul_of_nonneg_left hp (Int.le_of_lt hn)
      rw [Int.mul_one] at this;omega
    · have:q≤-1:=by omega
      have:=Int.mul_le_mul_of_nonneg_left this (Int.le_of_lt hn)
      rw [Int.mul_neg,Int.mul_one] at this;omega
theorem BR {n x s:Int} (hn:0<n) (hs:s=1∨s=n - 1) {j k:Nat} (hj:(j:Int)<n) (hk:(k:Int)<n) (h:spot n x s j=spot n x s k):j=k:=by
  unfold spot at h
  rcases hs with rfl | rfl
  · rw [Int.one_mul,Int.one_mul] at h
    have:=uX hn h (by omega) (by omega)
    omega
  · have e:∀ m:Nat,(x + (n - 1) * (m:Int)) % n=(x - (m:Int)) % n:=fun m=>by
      have:x + (n - 1) * (m:Int)=(x - (m:Int)) + n * (m:Int):=by rw [Int.sub_mul];omega
      rw [this,Int.add_mul_emod_self_left]
    rw [e j,e k] at h
    have:=uX hn h (by omega) (by omega)
    omega
theorem vV {n x s:Int} (hn:0<n) (k:Nat):0≤spot n x s k:=Int.emod_nonneg _ (by omega)
theorem vW {n x s:Int} (hn:0<n) (k:Nat):spot n x s k<n:=Int.emod_lt_of_pos _ hn
def spots (n x s:Int) (m:Nat):List Int:=(List.range m).map (spot n x s)
theorem vU (n x s:Int) (m:Nat):(spots n x s m).length=m:=by simp [spots]
theorem vm (n x s:Int) (m:Nat):spots n x s (m + 1)=spots n x s m++[spot n x s m]:=by
  unfold spots;rw [List.range_succ,List.map_append];rfl
theorem uy {n x s:Int} {m k:Nat} (h:k<m):(spots n x s m)[k]?=some (spot n x s k):=by
  unfold spots;rw [List.getElem?_map,List.getElem?_range h];rfl
structure Lnk (n:Nat) (sp:Nat→Int) (k:Nat) (b:List Int):Prop where
  len:b.length=n
  at_:∀ (i:Nat) (x:Int),b[i]?=some x→x=-1∨∃ j m,j<m∧m<k∧m<n∧sp m=(i:Int)∧x=sp j
theorem Lnk.start (n:Nat) (sp:Nat→Int):Lnk n sp 1 (List.replicate n (-1)) :=
  ⟨by simp,fun i x h=>.inl (by
    rw [List.getElem?_replicate] at h
    split at h
    · exact (Option.some.inj h).symm
    · cases h)⟩
theorem Lnk.skip {n:Nat} {sp:Nat→Int} {k:Nat} {b:List Int} (h:Lnk n sp k b):Lnk n sp (k + 1) b :=
  ⟨h.len,fun i x hx=>(h.at_ i x hx).imp id fun ⟨j,m,h1,h2,h3⟩=>⟨j,m,h1,by omega,h3⟩⟩
theorem Lnk.turn {n:Nat} {sp:Nat→Int} {k j:Nat} {b:List Int} (h:Lnk n sp k b) (hk:k<n) (hj:j<k) (h0:0≤sp k):Lnk n sp (k + 1) (b.set (sp k).toNat (sp j)):=by
  refine ⟨by rw [List.length_set];exact h.len,fun i x hx=>?_⟩
  rw [List.getElem?_set] at hx
  split at hx
  · rename_i e
    split at hx
    · exact .inr ⟨j,k,hj,by omega,hk,by omega,(Option.some.inj hx).symm⟩
    · cases hx
  · exact h.skip.at_ i x hx
theorem Lnk.jA {n:Nat} {sp:Nat→Int} {k:Nat} {b:List Int} (h:Lnk n sp k b) (h0:∀ k,0≤sp k) (h1:∀ k,sp k<n) (inj:∀ j k,j<n→k<n→sp j=sp k→j=k) (hn:0<n):lN b:=by
  classical
  let rk:Nat→Nat:=fun i=>if h:∃ k,k<n∧sp k=(i:Int) then h.choose else 0
  have rk_at:∀ k,k<n→rk (sp k).toNat=k:=fun k hk=>by
    have hex:∃ m,m<n∧sp m=((sp k).toNat:Int):=⟨k,hk,by have:=h0 k;omega⟩
    show (if h:∃ m,m<n∧sp m=((sp k).toNat:Int) then h.choose else 0)=k
    rw [dif_pos hex]
    obtain ⟨a1,a2⟩:=hex.choose_spec
    exact inj _ _ a1 hk (by have:=h0 k;omega)
  refine ⟨rk,fun i _=>?_,fun i x hx=>?_⟩
  · rw [h.len]
    show (if h:∃ k,k<n∧sp k=(i:Int) then h.choose else 0)<n
    split
    · rename_i hex;exact hex.choose_spec.1
    · exact hn
  · rcases h.at_ i x hx with e | ⟨j,m,hjm,_,hm,e,rfl⟩
    · exact .inl e
    · refine .inr ⟨h0 j,by rw [h.len];exact h1 j,?_⟩
      have ei:i=(sp m).toNat:=by have:=h0 m;omega
      rw [ei,rk_at m hm,rk_at j (by omega)]
      exact hjm
end Rv
namespace Tn
end Tn
namespace Rv
end Rv
namespace Tn
end Tn
namespace Tn
end Tn
namespace Rv
end Rv
namespace Tn
end Tn
namespace Rv
end Rv
namespace Tn
end Tn
namespace Rv
end Rv
namespace My
open PySem L2
local macro_rules | `(tactic| walk_at "new") => `(tactic| (generalize hE : upd _ _ _ = Hn; have On := Ow.mkE (by assumption) (by assumption) hE rfl; clear hE; revert On; revert Hn))
local macro_rules | `(tactic| walk_at "put") => `(tactic| (generalize hE : upd _ _ _ = Hn; (first | have On := Ow.mW (by assumption) 0 rfl hE rfl | have On := Ow.mW (by assumption) 1 rfl hE rfl | have On := Ow.mW (by assumption) 2 rfl hE rfl | have On := Ow.mW (by assumption) 3 rfl hE rfl | have On := Ow.mW (by assumption) 4 rfl hE rfl | have On := Ow.mW (by assumption) 5 rfl hE rfl); clear hE; (try simp only [List.set_cons_zero, List.set_cons_succ] at On); revert On; revert Hn))
set_option hygiene false
local macro_rules | `(tactic| walk_at "get") => `(tactic| first | assumption | exact O.get 0 | exact O.get 1 | exact O.get 2 | exact O.get 3 | exact O.get 4 | exact O.get 5 | exact O.get 6 | exact O.get 7 | exact O.get 8 | exact O.get 9 | exact O.get 10 | exact O.get 11 | exact O.get 12 | fail)
local macro_rules | `(tactic| walk_at "sq") => `(tactic| first | assumption | exact O.sq 0 | exact O.sq 1 | exact O.sq 2 | exact O.sq 3 | exact O.sq 4 | exact O.sq 5 | exact O.sq 6 | exact O.sq 7 | exact O.sq 8 | exact O.sq 9 | exact O.sq 10 | exact O.sq 11 | exact O.sq 12 | exact SqL.mo (by assumption) O.same | exact SqL.mo (by assumption) (s0.trans O.same) | fail)
local macro_rules | `(tactic| walk_at "sqT") => `(tactic| first | assumption | exact O.sqT 0 | exact O.sqT 1 | exact O.sqT 2 | exact O.sqT 3 | exact O.sqT 4 | exact O.sqT 5 | exact O.sqT 6 | exact O.sqT 7 | exact SqT.mo (by assumption) O.same | exact SqT.mo (by assumption) (s0.trans O.same) | fail)
local macro_rules | `(tactic| walk_at "at") => `(tactic| first | rfl | exact aN (by assumption) | exact cX (by assumption) | exact ig (by omega) (by omega) | exact lastV _ _ | exact ints_last (by omega) | exact ig (ns := [_, _]) (by omega) (by simp only [List.length_cons, List.length_nil]; omega) | exact ig (ns := [_, _, _]) (by omega) (by simp only [List.length_cons, List.length_nil]; omega) | exact ig (ns := [_, _, _, _]) (by omega) (by simp only [List.length_cons, List.length_nil]; omega) | exact ig (ns := [_, _, _, _, _]) (by omega) (by simp only [List.length_cons, List.length_nil]; omega) | exact ig (ns := [_, _, _, _, _, _]) (by omega) (by simp only [List.length_cons, List.length_nil]; omega) | exact ig (ns := [_, _, _, _, _, _, _]) (by omega) (by simp only [List.length_cons, List.length_nil]; omega) | exact ig (ns := [_, _, _, _, _, _, _, _]) (by omega) (by simp only [List.length_cons, List.length_nil]; omega) | fail)
local macro_rules | `(tactic| walk_at "c") => `(tactic| first | omega | (simp only [List.length_map]; omega) | exact szl | (show (0 : Int) < _; decide) | (show (0 : Int) < _; omega) | exact ⟨by decide, by decide⟩ | exact .inl ⟨by decide, by decide⟩ | exact .inr ⟨by decide, by decide⟩ | exact ⟨by decide, by decide, by decide⟩ | exact .inl ⟨by omega, by omega⟩ | exact .inr ⟨by omega, by omega⟩ | exact ⟨by omega, by omega⟩ | (split <;> omega) | fail)
local macro_rules | `(tactic| walk_at "ty") => `(tactic| first | exact .int _ | exact .bl _ | exact .lst (by walk_at "get") | exact .tup (by walk_at "get") | exact .non | fail)
local macro_rules | `(tactic| walk_at "kit") => `(tactic| first | exact kit_ii K | exact kit_ib K | exact kit_ll K | exact kit_bb K | exact kit_bi K | exact kit_tt K | fail)
local macro_rules | `(tactic| walk_at "sz") => `(tactic| exact aR (by (try simp only [List.length_map, List.length_append, List.length_cons, List.length_nil]); omega))
local macro_rules | `(tactic| walk_at "s") => `(tactic| first | refine Xc ?_ | refine ⟨_, rfl, ?_⟩ | refine ⟨_, _, rfl, rfl, ?_⟩ | refine And.intro rfl ?_ | refine And.intro (by walk_at "c") ?_ | refine ⟨_, _, _, _, rfl, rfl, (show SqL _ _ _ _ by walk_at "sq"), (show atI _ _ = some _ by walk_at "at"), ?_⟩ | refine ⟨_, _, _, _, rfl, rfl, (show SqT _ _ _ _ by walk_at "sqT"), (show atI _ _ = some _ by walk_at "at"), ?_⟩ | refine ⟨_, _, rfl, .inl (show SqL _ _ _ _ by walk_at "sq"), ?_⟩ | refine ⟨_, _, rfl, .inr (show SqT _ _ _ _ by walk_at "sqT"), ?_⟩ | refine ⟨_, _, rfl, (show SqL _ _ _ _ by walk_at "sq"), ?_⟩ | refine And.intro ⟨_, (show SqL _ _ _ _ by walk_at "sq")⟩ ?_ | refine And.intro (.inl ⟨rfl, _, (show SqL _ _ _ _ by walk_at "sq")⟩) ?_ | refine ⟨_, _, _, _, rfl, (show TyOf _ _ _ _ by walk_at "ty"), (show PySem.W.kitOne _ _ _ = some _ by walk_at "kit"), ?_⟩ | refine ⟨_, _, rfl, ?_⟩ | fail)
local macro_rules | `(tactic| walk_at "w") => `(tactic| repeat walk_at "s")
local macro_rules | `(tactic| walk_at "if") => `(tactic| first | refine jU ?_ | refine qy ?_ | refine ifN ?_ | refine ifI (fun hc => ?_) (fun hc => ?_) | refine ifD (fun hc => ?_) (fun hc => ?_) | refine ifB (fun hc => ?_) (fun hc => ?_) | fail)
local macro_rules | `(tactic| walk_at "go") => `(tactic| repeat' (first | walk_at "if" | walk_at "s" | fail))
local macro_rules | `(tactic| walk_at "nw") => `(tactic| (generalize hE : upd _ _ _ = Hn; replace O := Ow.mkE O (by assumption) hE rfl; clear hE))
local macro_rules | `(tactic| walk_at "pt") => `(tactic| (generalize hE : upd _ _ _ = Hn; (first | replace O := Ow.mW O 0 rfl hE rfl | replace O := Ow.mW O 1 rfl hE rfl | replace O := Ow.mW O 2 rfl hE rfl | replace O := Ow.mW O 3 rfl hE rfl | replace O := Ow.mW O 4 rfl hE rfl | replace O := Ow.mW O 5 rfl hE rfl | replace O := Ow.mW O 6 rfl hE rfl | replace O := Ow.mW O 7 rfl hE rfl); clear hE; (try simp only [List.set_cons_zero, List.set_cons_succ] at O)))
local macro_rules | `(tactic| walk_at "app") => `(tactic| (refine ⟨_, _, _, rfl, rfl, (by walk_at "get"), (by walk_at "sz"), ?_⟩; walk_at "pt"))
local macro_rules | `(tactic| walk_at "elt") => `(tactic| (refine ⟨_, (by walk_at "get"), (by walk_at "sz"), ?_⟩; walk_at "pt"))
local macro_rules | `(tactic| walk_at "frz") => `(tactic| (obtain ⟨Hn, On, sn, en⟩ := O.frz; clear O; have O := On; clear On; (try replace s0 := s0.mo sn); (try replace d0 := d0.mo sn); (try replace d1 := d1.mo sn); (try replace d2 := d2.mo sn); (try replace d3 := d3.mo sn); (try replace d4 := d4.mo sn); (try replace d5 := d5.mo sn); (try replace d6 := d6.mo sn); (try replace d7 := d7.mo sn)))
local macro_rules | `(tactic| walk_at "mo") => `(tactic| ((try simp only [List.eraseIdx_cons_zero, List.eraseIdx_cons_succ] at O); (try replace s0 := s0.mo sn); (try replace d0 := d0.mo sn); (try replace d1 := d1.mo sn); (try replace d2 := d2.mo sn); (try replace d3 := d3.mo sn); (try replace d4 := d4.mo sn); (try replace d5 := d5.mo sn); (try replace d6 := d6.mo sn); (try replace d7 := d7.mo sn)))
local macro_rules | `(tactic| walk_at "er") => `(tactic| simp only [List.eraseIdx_cons_zero, List.eraseIdx_cons_succ] at O)
local macro_rules | `(tactic| walk_at "jn") => `(tactic| simp only [List.cons_append, List.nil_append] at O)
def top (i:Nat):Stmt:=PySem.Challenge.pw_sluice_k56_refused_in_order.main.body.getD i (.Pass ⟨0,0,0,0⟩)
abbrev je:Stmt:=top 29
theorem qK:aQ ["below","reach","way"] ["below","reach"] (ak je):=⟨rfl,rfl,rfl,by decide +kernel,rfl,by decide +kernel,by decide +kernel⟩
def qG (K:PySem.W.Frag):Sp:=fun vs H Q _=>∃ (a:Addr) (r:List Int) (p:Int),vs=[.ref a,.int p]∧SqL K H a (r.map V.int)∧Rv.lN r∧0≤p∧p<r.length∧r.length≤900 ∧
  Xn H (fun xs=>xs=(Rv.walk r p).map V.int) Q
theorem qu (pre:List Int) (z:Int):atI ((pre++[z]).map V.int) (-1)=some (V.int z):=by
  rw [List.map_append];exact Dp _ _
theorem Ra {f:Addr} {fd:FuncData} (D:Df K mg "way_of" je ["below","reach"] f fd) (C:Mth mg):bN P w K mg base CX0 1 f fd ["below","reach"] (qG K):=by
  obtain ⟨tM,hMOUTH⟩:=C.MOUTH
  refine D.F.ok qK (fun vs H Q E h=>?_) (fun cdv A outer s H vs Q E hr h=>?_)
  · obtain ⟨a,r,p,rfl,_⟩:=h;rfl
  · obtain ⟨a,r,p,rfl,hS,hR,p0,p1,hn,q⟩:=h
    refine ⟨_,(au (bf (i:=2) qK.nd rfl (Or.inl rfl) (bK (aj (pv 1) aq)))
      (au (uM PassesOwn.never (aJ nR (aF aD (pv 0) (aF aD (pv 2) (kY iU ao) (fun _ _=>rfl)) (fun _ _=>rfl)) (iB (v:=.int (-1)) rfl hMOUTH ⟨_,rfl⟩) (aP _))
        (aC (bD (kh PySem.F.plainAttrs_list PySem.F.slot_list_append PySem.F.type_list_append cu (pv 2) (aj (aF aD (pv 0) (aF aD (pv 2) (kY iU ao) (fun _ _=>rfl)) (fun _ _=>rfl)) aq)))))
      (aC (aW (pv 2))))),?_⟩
    refine ⟨_,rfl,(by show 1≤sizeLine;decide),fun lw hlw=>?_⟩
    refine ⟨fun m σ H'=>∃ (pre:List Int) (z:Int),σ=[some (.ref a),some (.int p),some (.ref lw)]∧Same H H'∧H' lw=some (.lst ((pre++[z]).map V.int))∧0≤z∧z<r.length∧pre++Rv.walk r z=Rv.walk r p∧m=Rv.mea r z,
      ⟨_,[],p,rfl,(Same.refl H).upd hlw,cG,p0,p1,rfl,rfl⟩,?_⟩
    rintro m σ H2 ⟨pre,z,rfl,s2,h2,z0,z1,e,rfl⟩
    have g:=Rv.jV z0 z1
    have hlen:pre.length + (Rv.walk r z).length≤r.length + 1:=by
      have:=Rv.ur r p
      rw [← e,List.length_append] at this;exact this
    refine ⟨_,rfl,_,rfl,_,rfl,lw,_,_,_,rfl,rfl,SqL.of h2,qu pre z,a,_,_,_,rfl,rfl,s2.seq hS,j6 z0 g,rfl,_,rfl,?_⟩
    rcases hR.step z0 z1 with hm | ⟨n0,n1⟩
    · rw [hm]
      refine Ru rfl ?_
      refine ⟨_,rfl,q lw H2 _ s2 hlw h2 ?_⟩
      have ew:Rv.walk r z=[z]:=by rw [Rv.iT hR z0 z1,hm,Rv.pK]
      rw [← e,ew]
    · have hd:(!decide (V.int (Rv.nxt r z)=V.int (-1)))=true:=by
        have:¬ Rv.nxt r z=-1:=by omega
        simp [this]
      rw [hd]
      refine jU ?_
      refine ⟨fun σ' H'=>∃ m',m'<Rv.mea r z∧∃ (pre:List Int) (z:Int),σ'=[some (.ref a),some (.int p),some (.ref lw)]∧Same H H'∧H' lw=some (.lst ((pre++[z]).map V.int))∧0≤z∧z<r.length∧pre++Rv.walk r z=Rv.walk r p∧m'=Rv.mea r z,fun _ _ x=>x,?_⟩
      refine ⟨_,rfl,.inl ⟨rfl,_,SqL.of h2⟩,_,rfl,_,rfl,_,rfl,lw,_,_,_,rfl,rfl,SqL.of h2,qu pre z,a,_,_,_,rfl,rfl,s2.seq hS,j6 z0 g,lw,_,_,rfl,rfl,h2,aR ?_,?_⟩
      · rw [List.length_map,List.length_append]
        have:1≤(Rv.walk r z).length:=by rw [Rv.iT hR z0 z1];exact Nat.succ_le_succ (Nat.zero_le _)
        show pre.length + 1≤_
        omega
      · refine ⟨_,Rv.DQ hR z0 z1,pre++[z],Rv.nxt r z,rfl,s2.upd hlw,?_,n0,n1,?_,rfl⟩
        · rw [cG,List.map_append (l₁:=pre++[z])];rfl
        · rw [List.append_assoc]
          show pre++(z :: Rv.walk r (Rv.nxt r z))=_
          rw [← Rv.iT hR z0 z1];exact e
abbrev bU:Stmt:=top 27
theorem fQ:aQ ["below","start","reach","step"] ["below","start"] (ak bU):=⟨rfl,rfl,rfl,by decide +kernel,rfl,by decide +kernel,by decide +kernel⟩
def uI (K:PySem.W.Frag):Sp:=fun vs H Q _=>∃ (a:Addr) (r:List Int) (i:Nat),vs=[.ref a,.int (i:Int)]∧SqL K H a (r.map V.int)∧Rv.inB r∧i<r.length∧r.length≤900∧Q (.bl (decide (Rv.lQ r r.length (i:Int)=-1))) H
structure Cst (mg:Str→Option Value):Prop where
  MOUTH:∃ t,mg "MOUTH"=some (.int (-1) t)
  MOST_REACHES:∃ t,mg "MOST_REACHES"=some (.int 40 t)
theorem Cm {f:Addr} {fd:FuncData} (D:Df K mg "comes_to_mouth" bU ["below","start"] f fd) (B:Blt mg) (C:Cst mg):bN P w K mg base CX0 1 f fd ["below","start"] (uI K):=by
  obtain ⟨tM,hMOUTH⟩:=C.MOUTH
  refine D.F.ok fQ (fun vs H Q E h=>?_) (fun cdv A outer s H vs Q E hr h=>?_)
  · obtain ⟨a,r,i,rfl,_⟩:=h;rfl
  · obtain ⟨a,r,i,rfl,hS,hB,hi,hn,q⟩:=h
    refine ⟨_,(au (bf (i:=2) fQ.nd rfl (Or.inl rfl) (pv 1))
      (au (pq PassesOwn.never rfl (jq rfl B.range (aj (aK aM rfl B.len PySem.boot_len (aj (pv 0) aq)) aq)) (bL (i:=3) fQ.nd rfl (Or.inl rfl))
        (au (bf (i:=2) fQ.nd rfl (Or.inl rfl) (aF aD (pv 0) (pv 2) (fun _ _=>rfl)))
        (aC (bY (aJ fj (pv 2) (iB (v:=.int (-1)) rfl hMOUTH ⟨_,rfl⟩) (aP _))
          (aC (aW qe))
          aU))))
      (aC (aW qe)))),?_⟩
    refine ⟨_,rfl,_,rfl,a,_,rfl,.inl hS,_,rfl,by rw [List.length_map];omega,by rw [List.length_map];omega,?_⟩
    rw [List.length_map,Int.toNat_natCast]
    refine ou (n:=r.length) (fun j σ H2=>∃ (v:Option V),σ=[some (.ref a),some (.int (i:Int)),some (.int (Rv.lQ r j (i:Int))),v]∧H=H2∧(j=0∨Rv.lQ r j (i:Int)≠-1)) ⟨none,rfl,rfl,.inl rfl⟩ ?_ ?_
    · rintro j σ H2 hj ⟨v,rfl,rfl,hne⟩
      obtain ⟨b0,b1⟩:=Rv.uR hB (p:=(i:Int)) (by omega) (by omega) j
      have hne':Rv.lQ r j (i:Int)≠-1:=by
        rcases hne with e | e
        · subst e
          show (i:Int)≠-1
          omega
        · exact e
      have g:=Rv.jV (r:=r) (p:=Rv.lQ r j (i:Int)) (by omega) b1
      have es:Rv.nxt r (Rv.lQ r j (i:Int))=Rv.lQ r (j + 1) (i:Int):=by
        rw [Rv.jZ];unfold Rv.stp;rw [if_neg hne']
      rw [es] at g
      refine ⟨_,rfl,_,rfl,a,_,_,_,rfl,rfl,hS,j6 (by omega) g,_,rfl,rfl,_,rfl,?_⟩
      refine Wh (fun h=>?_) (fun h=>?_)
      · have e:Rv.lQ r (j + 1) (i:Int)=-1:=by
          have:=of_decide_eq_true h
          exact V.int.inj this
        have e2:Rv.lQ r r.length (i:Int)=-1:=by
          have:=Rv.ux r (i:Int) e (r.length - (j + 1))
          rw [show j + 1 + (r.length - (j + 1))=r.length by omega] at this
          exact this
        rw [decide_eq_true e2] at q
        exact q
      · refine ⟨_,rfl,rfl,.inr fun e=>h (decide_eq_true (by rw [e]))⟩
    · rintro σ H2 ⟨v,rfl,rfl,hne⟩
      have e:¬ Rv.lQ r r.length (i:Int)=-1:=by
        rcases hne with e | e
        · omega
        · exact e
      rw [decide_eq_false e] at q
      exact q
abbrev eV:Stmt:=top 28
theorem sW:aQ ["below"] ["below"] (ak eV):=⟨rfl,rfl,rfl,by decide +kernel,rfl,by decide +kernel,by decide +kernel⟩
def Dz (K:PySem.W.Frag):Sp:=fun vs H Q _=>∃ (a:Addr) (r:List Int),vs=[.ref a]∧SqL K H a (r.map V.int)∧r.length≤900∧∀ H',Same H H'→Q (.bl (Rv.isR r)) H'
theorem vf {α:Type} {p:α→Bool} {l:List α}:(l.map p).all id=l.all p:=by
  rw [List.all_map];rfl
theorem O4 (r:List Int):(r.all fun x=>decide (-1≤x) && decide (x<(r.length:Int)))=decide (Rv.inB r):=by
  rw [Bool.eq_iff_iff]
  simp only [List.all_eq_true,Bool.and_eq_true,decide_eq_true_eq]
  exact Iff.rfl
theorem Rg {f fC:Addr} {fd fdC:FuncData} (D:Df K mg "is_river" eV ["below"] f fd) (B:Blt mg) (C:Cst mg) (dg:Df K mg "comes_to_mouth" bU ["below","start"] fC fdC)
    (m7:bN P w K mg base CX0 1 fC fdC ["below","start"] (uI K)):bN P w K mg base CX0 2 f fd ["below"] (Dz K):=by
  obtain ⟨tM,hMOUTH⟩:=C.MOUTH
  obtain ⟨tR,hMOST_REACHES⟩:=C.MOST_REACHES
  refine D.F.ok sW (fun vs H Q E h=>?_) (fun cdv A outer s H vs Q E hr h=>?_)
  · obtain ⟨a,r,rfl,_⟩:=h;rfl
  · obtain ⟨a,r,rfl,hS,hn,q⟩:=h
    refine ⟨_,(au (bY (iD (jf kE kE ao (aK aM rfl B.len PySem.boot_len (aj (pv 0) aq)) (iB (v:=.int (40)) rfl hMOST_REACHES ⟨_,rfl⟩)))
        (aC (aW qe))
        aU)
      (au (bY (iD (jN (aK (nu rfl) rfl B.all PyProof.Rows.boot_all (aj (lW (ak eV) rfl ["below"] rfl ["reach","below"] [none,some 0] (by decide +kernel) (by decide +kernel) (by decide +kernel) rfl (p8 (pv 0)) (fun _ _ _=>(bL (i:=0) (show (["reach","below"]:List Str).Nodup by decide +kernel) rfl (Or.inl rfl))) (fun _ _ _=>jM) (fun _ _ _=>(qd kE mX (iB (v:=.int (-1)) rfl hMOUTH ⟨_,rfl⟩) (pv 0) (aK (qt (K:=K) rfl) rfl B.len PySem.boot_len (aj (pv 1) aq))))) aq))))
        (aC (aW qe))
        aU)
      (aC (aW (aK (nu rfl) rfl B.all PyProof.Rows.boot_all (aj (lW (ak eV) rfl ["below"] rfl ["start","below"] [none,some 0] (by decide +kernel) (by decide +kernel) (by decide +kernel) rfl (jq rfl B.range (aj (aK aM rfl B.len PySem.boot_len (aj (pv 0) aq)) aq)) (fun _ _ _=>(bL (i:=0) (show (["start","below"]:List Str).Nodup by decide +kernel) rfl (Or.inl rfl))) (fun _ _ _=>jM) (fun _ _ _=>(aZ m7 (hr.mono (by decide)) rfl dg.m dg.F.kp dg.b .nil cM (aj (pv 1) (aj (pv 0) aq))))) aq)))))),?_⟩
    refine ⟨_,rfl,a,_,rfl,.inl hS,_,_,rfl,rfl,_,rfl,?_⟩
    rw [List.length_map]
    have no1:¬ (1≤r.length∧r.length≤40)→Q (.bl false) H:=fun h=>by
      have e:Rv.isR r=false:=by unfold Rv.isR;rw [decide_eq_false h];rfl
      have:=q H (Same.refl H)
      rw [e] at this
      exact this
    refine Wh (fun h1=>⟨_,_,rfl,rfl,_,rfl,?_⟩) (fun h1=>⟨_,rfl,?_⟩)
    case refine_2=>exact jU (no1 fun z=>h1 (decide_eq_true (by omega)))
    have g1:=of_decide_eq_true h1
    by_cases h2:r.length≤40
    case neg =>
      rw [decide_eq_false (by omega)]
      exact jU (no1 fun z=>h2 z.2)
    rw [decide_eq_true (by omega)]
    refine qy ?_
    refine ⟨_,rfl,a,rfl,⟨_,hS⟩,fun acc hacc=>?_⟩
    refine oF (K:=K) (a:=a) (xs:=r.map V.int) (fun i τ H2=>∃ v,τ=[v,some (.ref a)]∧Same H H2∧H2 acc=some (.lst (((r.take i).map fun x=>decide (-1≤x) && decide (x<(r.length:Int))).map V.bl)))
      ⟨none,rfl,(Same.refl H).upd hacc,by rw [cG];rfl⟩ (fun i τ H2 _ ⟨_,_,s2,_⟩=>s2.seq hS) ?_ ?_
    · rintro i y τ H2 hi ⟨v,rfl,s2,h2'⟩
      obtain ⟨z,hz,rfl⟩:=ints_get hi
      have hil:i<r.length:=(List.getElem?_eq_some_iff.mp hz).1
      have e:∀ b:Bool,b=(decide (-1≤z) && decide (z<(r.length:Int)))→((r.take i).map fun x=>decide (-1≤x) && decide (x<(r.length:Int))).map V.bl++[V.bl b]=((r.take (i + 1)).map fun x=>decide (-1≤x) && decide (x<(r.length:Int))).map V.bl:=fun b hb=>by
        rw [List.take_add_one,hz,List.map_append,List.map_append,hb];rfl
      have hsz:(((r.take i).map fun x=>decide (-1≤x) && decide (x<(r.length:Int))).map V.bl).length<sizeLine:=aR (by rw [List.length_map,List.length_map,List.length_take];omega)
      refine Nx ?_
      refine ⟨_,rfl,_,_,rfl,rfl,_,rfl,?_⟩
      refine Wh (fun h3=>?_) (fun h3=>?_)
      · refine ⟨_,rfl,a,_,rfl,.inl (s2.seq hS),_,_,rfl,rfl,_,h2',hsz,_,rfl,s2.upd hacc,?_⟩
        rw [cG,e _ (by rw [h3,List.length_map];rfl)]
      · refine ⟨_,h2',hsz,_,rfl,s2.upd hacc,?_⟩
        have h3':decide (-1≤z)=false:=by simpa using h3
        rw [cG,e false (by rw [h3'];rfl)]
    · rintro τ H2 ⟨v,rfl,s2,h2'⟩
      rw [List.length_map,List.take_length] at h2'
      refine ⟨acc,_,rfl,SqL.of h2',_,rfl,?_⟩
      rw [vf,O4]
      by_cases hB:Rv.inB r
      case neg =>
        rw [decide_eq_false hB]
        refine jU ?_
        have e:Rv.isR r=false:=by unfold Rv.isR;rw [decide_eq_false hB,Bool.and_false];rfl
        have:=q H2 s2
        rw [e] at this
        exact this
      rw [decide_eq_true hB]
      refine qy ?_
      refine ⟨_,rfl,a,_,rfl,.inl (s2.seq hS),_,rfl,by rw [List.length_map];omega,by rw [List.length_map];omega,fun ac2 hac2=>?_⟩
      rw [List.length_map,Int.toNat_natCast]
      have nac2:H ac2=none:=s2.free hac2
      refine j7 (fun i τ H3=>∃ v,τ=[v,some (.ref a)]∧Same H H3∧H3 ac2=some (.lst (((List.range i).map fun (j:Nat)=>decide (Rv.lQ r r.length (j:Int)=-1)).map V.bl))) ⟨none,rfl,s2.upd nac2,by rw [cG];rfl⟩ ?_ ?_
      · rintro i τ H3 hi ⟨v,rfl,s3,h3⟩
        rw [show (0:Int) + (i:Int)=(i:Int) by omega]
        refine Nx ?_
        refine ⟨_,rfl,_,rfl,a,r,i,rfl,s3.seq hS,hB,hi,hn,?_⟩
        refine ⟨_,h3,aR (by rw [List.length_map,List.length_map,List.length_range];omega),_,rfl,s3.upd nac2,?_⟩
        rw [cG,List.range_succ,List.map_append,List.map_append];rfl
      · rintro τ H3 ⟨v,rfl,s3,h3⟩
        refine ⟨ac2,_,rfl,SqL.of h3,?_⟩
        have e:(((List.range r.length).map fun (j:Nat)=>decide (Rv.lQ r r.length (j:Int)=-1)).all id)=Rv.isR r:=by
          unfold Rv.isR
          rw [vf,decide_eq_true (show 1≤r.length∧r.length≤40 from ⟨by omega,h2⟩),decide_eq_true hB,Bool.true_and,Bool.true_and,Bool.eq_iff_iff]
          simp only [List.all_eq_true,List.mem_range,decide_eq_true_eq]
        rw [e]
        exact q H3 s3
abbrev fV:Stmt:=top 4
theorem sU:aQ ["amount"] ["amount"] (ak fV):=⟨rfl,rfl,rfl,by decide +kernel,rfl,by decide +kernel,by decide +kernel⟩
def pN:Sp:=fun vs H Q _=>∃ (z:Int),vs=[.int z]∧∀ b:Bool,(b=true↔(0≤z∧z≤1000000000000))→Q (.bl b) H
theorem Cg {f:Addr} {fd:FuncData} (D:Df K mg "is_water" fV ["amount"] f fd) (CW:∃ t,mg "MOST_WATER"=some (.int 1000000000000 t)):bN P w K mg base CX0 1 f fd ["amount"] pN:=by
  obtain ⟨tW,hMOST_WATER⟩:=CW
  refine D.F.ok sU (fun vs H Q E h=>?_) (fun cdv A outer s H vs Q E hr h=>?_)
  · obtain ⟨_,rfl,_⟩:=h;rfl
  · obtain ⟨z,rfl,q⟩:=h
    refine ⟨_,(aC (aW (qd kE kE ao (pv 0) (iB (v:=.int (1000000000000)) rfl hMOST_WATER ⟨_,rfl⟩)))),?_⟩
    walk_at "go"
    all_goals refine q _ ?_
    all_goals simp only [decide_eq_true_eq,Bool.false_eq_true,true_iff,false_iff]
    all_goals omega
abbrev dj:Stmt:=top 32
theorem gJ:aQ ["below","one","day","start","back","most"] ["below","one"] (ak dj):=⟨rfl,rfl,rfl,by decide +kernel,rfl,by decide +kernel,by decide +kernel⟩
def rO (r:List Int) (l:Lic):Prop:=(0≤l.day∧l.day≤1000000∧0≤l.start∧l.start<r.length∧0≤l.most∧l.most≤1000000000000)∧(l.back=-1∨l.back∈(Rv.walk r l.start).drop 1)
def pP (K:PySem.W.Frag) (T:eX):Sp:=fun vs H Q _=>∃ (a t:Addr) (r:List Int) (l:Lic),vs=[.ref a,.ref t]∧SqL K H a (r.map V.int)∧Rv.lN r∧r.length≤900∧SqT K H t (mC l)∧TabsOk T H∧∀ (b:Bool) (H':Hp),aY T H H'→(b=true↔rO r l)→Q (.bl b) H'
theorem Cj {f f1 f2:Addr} {fd fd1 fd2:FuncData} (D:Df K mg "is_licence" dj ["below","one"] f fd) (B:Blt mg) (C:Mth mg) (CD:∃ t,mg "LAST_DAY"=some (.int 1000000 t))
    (dH:Df K mg "is_water" fV ["amount"] f1 fd1) (mj:bN P w K mg base CX0 1 f1 fd1 ["amount"] pN)
    (j8:Df K mg "way_of" je ["below","reach"] f2 fd2) (Dt:bN P w K mg base CX0 1 f2 fd2 ["below","reach"] (qG K)):bN P w K mg base CX0 2 f fd ["below","one"] (pP K T):=by
  obtain ⟨tM,hMOUTH⟩:=C.MOUTH
  obtain ⟨tD,hLAST_DAY⟩:=CD
  refine D.F.ok gJ (fun vs H Q E h=>?_) (fun cdv A outer s H vs Q E hr h=>?_)
  · obtain ⟨_,_,_,_,rfl,_⟩:=h;rfl
  · obtain ⟨a,t,r,l,rfl,hA,hR,hn,hT,tk,q⟩:=h
    have hml:((r.map V.int).length:Int)=(r.length:Int):=by rw [List.length_map]
    have O:=Ow.refl tk
    have s0:=O.same
    have no:¬ (0≤l.day∧l.day≤1000000∧0≤l.start∧l.start<r.length∧0≤l.most∧l.most≤1000000000000)→Q (.bl false) H:=fun h=>q _ _ O.same ⟨(fun e=>by cases e),fun z=>absurd z.1 h⟩
    refine ⟨_,(au (jO (pv 1) (qX rfl (cL (bL (i:=2) gJ.nd rfl (Or.inl rfl)) (cL (bL (i:=3) gJ.nd rfl (Or.inl rfl)) (cL (bL (i:=4) gJ.nd rfl (Or.inl rfl)) (cL (bL (i:=5) gJ.nd rfl (Or.inl rfl)) jP))))))
      (au (bY (iD (PW.pt (pw_and (jf kE kE ao (pv 2) (iB (v:=.int (1000000)) rfl hLAST_DAY ⟨_,rfl⟩)) (pw_and (jf kE mX ao (pv 3) (aK aM rfl B.len PySem.boot_len (aj (pv 0) aq))) (pw_and1 (jN (aZ mj (hr.mono (by decide)) rfl dH.m dH.F.kp dH.b .nil cM (aj (pv 5) aq))))))))
        (aC (aW qe))
        aU)
      (aC (aW (QZ (jC fj (pv 4) (iB (v:=.int (-1)) rfl hMOUTH ⟨_,rfl⟩) (aP _)) (wO (jC rm (pv 4) (jg nG (aZ Dt (hr.mono (by decide)) rfl j8.m j8.F.kp j8.b .nil cM (aj (pv 0) (aj (pv 3) aq))) (jB ao) kW) (by rfl)))))))),?_⟩
    refine ⟨_,rfl,t,_,rfl,hT,rfl,_,_,rfl,_,_,rfl,_,_,rfl,_,_,rfl,rfl,?_⟩
    walk_at "go"
    all_goals first | (refine no ?_;omega) | skip
    intro b hb
    walk_at "go"
    · have hm:=hb.mp (by assumption)
      have num:0≤l.day∧l.day≤1000000∧0≤l.start∧l.start<r.length∧0≤l.most∧l.most≤1000000000000:=by omega
      exact q _ _ O.same ⟨fun _=>⟨num,.inl (by omega)⟩,fun _=>rfl⟩
    · have hm:=hb.mp (by assumption)
      have num:0≤l.day∧l.day≤1000000∧0≤l.start∧l.start<r.length∧0≤l.most∧l.most≤1000000000000:=by omega
      refine ⟨a,r,l.start,rfl,hA,hR,by omega,by omega,hn,O.got fun lw H2 xs O e=>?_⟩
      subst e
      refine ⟨1,rfl,lw,_,rfl,O.sq 0,fun l1 h1=>?_⟩
      walk_at "nw"
      rw [show tX ((Rv.walk r l.start).map V.int) (some 1) none=((Rv.walk r l.start).drop 1).map V.int from qm _ 1] at O
      refine ⟨l1,_,rfl,.inl (O.sq 0),rfl,rE _,?_⟩
      rw [if_neg Bool.false_ne_true,xT]
      refine q _ _ O.same ?_
      rw [decide_eq_true_iff]
      exact ⟨fun h=>⟨num,.inr h⟩,fun h=>h.2.resolve_left (by omega)⟩
    · refine no fun z=>?_
      have:=hb.mpr ⟨z.2.2.2.2.1,z.2.2.2.2.2⟩
      simp_all
abbrev cR:Stmt:=top 42
theorem nM:aQ ["script","k"] ["script","k"] (ak cR):=⟨rfl,rfl,rfl,by decide +kernel,rfl,by decide +kernel,by decide +kernel⟩
def wA (K:PySem.W.Frag):Sp:=fun vs H Q _=>∃ (a:Addr) (ns:List Int) (k:Nat),vs=[.ref a,.int (k:Int)]∧SqL K H a (ns.map V.int)∧Q (.int (ns.getD k 0)) H
theorem Ov {f:Addr} {fd:FuncData} (D:Df K mg "_law_cell_at" cR ["script","k"] f fd) (B:Blt mg):bN P w K mg base CX0 1 f fd ["script","k"] (wA K):=by
  refine D.F.ok nM (fun vs H Q E h=>?_) (fun cdv A outer s H vs Q E hr h=>?_)
  · obtain ⟨a,ns,k,rfl,_⟩:=h;rfl
  · obtain ⟨a,ns,k,rfl,hS,q⟩:=h
    refine ⟨_,(au (bY (aJ mX (pv 1) (aK aM rfl B.len PySem.boot_len (aj (pv 0) aq)) (aP _))
        (aC (aW (aF aD (pv 0) (pv 1) (fun _ _=>rfl))))
        aU)
      (aC (aW ao))),?_⟩
    refine ⟨_,rfl,_,rfl,a,_,rfl,.inl hS,_,_,rfl,rfl,_,rfl,?_⟩
    refine Wh (fun h=>?_) (fun h=>?_)
    · have hk:k<ns.length:=by
        have:=of_decide_eq_true h
        rw [List.length_map] at this;omega
      have e:ns[k]?=some (ns.getD k 0):=by rw [List.getD_eq_getElem?_getD,List.getElem?_eq_getElem hk];rfl
      exact ⟨_,rfl,_,rfl,a,_,_,_,rfl,rfl,hS,aN e,q⟩
    · have hk:¬ k<ns.length:=fun z=>h (decide_eq_true (by rw [List.length_map];omega))
      have e:ns.getD k 0=0:=by rw [List.getD_eq_getElem?_getD,List.getElem?_eq_none (by omega)];rfl
      rw [e] at q
      exact q
def gR (x:Str):Prop:=1≤x.cps.size∧x.cps.size≤8∧∀ c∈x.cps.toList,97≤c∧c≤122
def Asc (x:Str):Prop:=x.cps.all (·<128)=true∧x.cps.size≤1000
theorem vI:∀ c:Nat,c<128→(!(Builtin.Str.occurrences ("abcdefghijklmnopqrstuvwxyz":Str) ⟨#[c]⟩ 0 ("abcdefghijklmnopqrstuvwxyz":Str).length 1).isEmpty)=decide (97≤c∧c≤122):=by
  have h:∀ k:Fin 128,(!(Builtin.Str.occurrences ("abcdefghijklmnopqrstuvwxyz":Str) ⟨#[k.val]⟩ 0 ("abcdefghijklmnopqrstuvwxyz":Str).length 1).isEmpty)=decide (97≤k.val∧k.val≤122):=by decide +kernel
  exact fun c hc=>h ⟨c,hc⟩
abbrev gO:Stmt:=top 5
theorem vp:aQ ["text"] ["text"] (ak gO):=⟨rfl,rfl,rfl,by decide +kernel,rfl,by decide +kernel,by decide +kernel⟩
def qH (T:eX):Sp:=fun vs H Q _=>∃ (x:Str),vs=[.str x]∧Asc x∧TabsOk T H∧∀ (b:Bool) H',(b=true↔gR x)→aY T H H'→Q (.bl b) H'
structure CN (mg:Str→Option Value):Prop where
  LONGEST_NAME:∃ t,mg "LONGEST_NAME"=some (.int 8 t)
  LETTERS:∃ t,mg "LETTERS"=some (.str "abcdefghijklmnopqrstuvwxyz" t)
theorem wV {f:Addr} {fd:FuncData} (D:Df K mg "is_name" gO ["text"] f fd) (B:Blt mg) (CN:CN mg):bN P w K mg base CX0 1 f fd ["text"] (qH T):=by
  obtain ⟨tM,hLONGEST_NAME⟩:=CN.LONGEST_NAME
  obtain ⟨tL,hLETTERS⟩:=CN.LETTERS
  refine D.F.ok vp (fun vs H Q E h=>?_) (fun cdv A outer s H vs Q E hr h=>?_)
  · obtain ⟨_,rfl,_⟩:=h;rfl
  · obtain ⟨x,rfl,⟨ha,hx⟩,tk,q⟩:=h
    have hu:=hr.units
    have O:=Ow.refl tk
    refine ⟨_,(aC (aW (Q5 (qd kE kE ao (aK mQ rfl B.len PySem.boot_len (aj (pv 0) aq)) (iB (v:=.int (8)) rfl hLONGEST_NAME ⟨_,rfl⟩)) (wO (aK (nu rfl) rfl B.all PyProof.Rows.boot_all (aj (lW (ak gO) rfl ["text"] rfl ["sign"] [none] (by decide +kernel) (by decide +kernel) (by decide +kernel) rfl (QW (pv 0)) (fun _ _ _=>(bL (i:=0) (show (["sign"]:List Str).Nodup by decide +kernel) rfl (Or.inl rfl))) (fun _ _ _=>jM) (fun _ _ _=>(jC wR (pv 0) (iB (v:=.str "abcdefghijklmnopqrstuvwxyz") rfl hLETTERS ⟨_,rfl⟩) (by rfl)))) aq)))))),?_⟩
    have hl:x.length=x.cps.size:=rfl
    refine ⟨_,rfl,x,rfl,(by rw [hl,sizeLine_eq];omega),_,_,rfl,rfl,?_⟩
    refine ⟨_,rfl,?_⟩
    refine ifD (fun h1=>?_) (fun h1=>?_)
    rotate_left
    · exact ⟨_,rfl,qy (q _ _ ⟨(fun z=>nomatch z),fun z=>absurd z.1 (by omega)⟩ O.same)⟩
    refine ⟨_,_,rfl,rfl,_,rfl,?_⟩
    refine ifD (fun h2=>?_) (fun h2=>?_)
    rotate_left
    · exact q _ _ ⟨(fun z=>nomatch z),fun z=>absurd z.2.1 (by omega)⟩ O.same
    refine ⟨_,rfl,x,rfl,ha,fun lw hlw=>?_⟩
    refine Dl (fun i τ H'=>Iv (∃ (v0:Option V) (bs:List Bool),τ=[v0]∧bs.length=i∧(bs.all id=true↔∀ c∈x.cps.toList.take i,97≤c∧c≤122)∧Ow T H H' [(lw,.lst (bs.map V.bl))])) ⟨trivial,none,[],rfl,rfl,⟨(fun _ c hc=>nomatch hc),fun _=>rfl⟩,O.mk' hlw rfl⟩ ?_ ?_
    · rintro i c τ H4 hc ⟨-,v0,bs,rfl,hbl,hb,O⟩
      have hi:i<x.cps.size:=by
        rcases Nat.lt_or_ge i x.cps.size with h | h
        · exact h
        · rw [Array.getElem?_eq_none h] at hc;cases hc
      have hm:x.cps.toList[i]?=some c:=by rw [Array.getElem?_toList];exact hc
      have hc128:c<128:=by
        have:=Array.all_eq_true.mp ha i hi
        rw [Array.getElem?_eq_getElem hi] at hc
        cases hc;exact of_decide_eq_true this
      refine Nx ?_
      refine ⟨_,rfl,_,_,rfl,rfl,?_⟩
      rw [vI c hc128]
      refine ⟨_,O.get 0,aR (by rw [List.length_map];omega),?_⟩
      walk_at "pt"
      refine ⟨trivial,_,bs++[decide (97≤c∧c≤122)],rfl,by rw [List.length_append,hbl];rfl,?_,?_⟩
      · rw [Tn.jm hm,List.all_append,Bool.and_eq_true,hb]
        constructor
        · rintro ⟨z1,z2⟩ y hy
          rcases List.mem_append.mp hy with h | h
          · exact z1 y h
          · rw [List.mem_singleton.mp h];simpa using z2
        · intro z
          exact ⟨fun y hy=>z y (List.mem_append_left _ hy),by simpa using z c (List.mem_append_right _ (List.mem_singleton.mpr rfl))⟩
      · rw [List.map_append];exact O
    rintro τ H4 ⟨-,v0,bs,rfl,hbl,hb,O⟩
    refine ⟨lw,_,rfl,O.sq 0,?_⟩
    rw [show x.cps.size=x.cps.toList.length by simp,List.take_length] at hb
    exact q _ _ ⟨fun z=>⟨by omega,by omega,hb.mp z⟩,fun z=>hb.mpr z.2.2⟩ O.same
abbrev bO:Stmt:=top 39
theorem nH:aQ ["name"] ["name"] (ak bO):=⟨rfl,rfl,rfl,by decide +kernel,rfl,by decide +kernel,by decide +kernel⟩
def jz (T:eX) (cH:Addr):Sp:=fun vs H Q E=>∃ (x:Str),vs=[.str x]∧Asc x∧TabsOk T H∧(gR x→∀ H',aY T H H'→Q .non H')∧(¬ gR x→∀ (e:Addr) (H':Hp),aY T H H'→H' e=none→E (.ref cH) (some e) H')
theorem tu {f f1 cH:Addr} {fd fd1:FuncData} (D:Df K mg "look_at_name" bO ["name"] f fd) (X_NoHolder:jd K mg "NoHolder" cH)
    (jx:Df K mg "is_name" gO ["text"] f1 fd1) (Bq:bN P w K mg base CX0 1 f1 fd1 ["text"] (qH T)):bN P w K mg base (CXE P w) 2 f fd ["name"] (jz T cH):=by
  refine D.F.okX nH (fun vs H Q E h=>?_) (fun cdv A outer s H vs Q E hr h=>?_)
  · obtain ⟨_,rfl,_⟩:=h;rfl
  · obtain ⟨x,rfl,ax,tk,q,qx⟩:=h
    refine ⟨_,(aC (bY (iD (jN (aZ Bq (hr.mono (by decide)) rfl jx.m jx.F.kp jx.b .nil cM (aj (pv 0) aq))))
        (aC (gQ iC rfl (fun _ _ z=>z) rfl X_NoHolder.m X_NoHolder.q (aj aL aq)))
        aU)),?_⟩
    refine ⟨_,rfl,x,rfl,ax,tk,fun b H1 hb s1=>?_⟩
    cases b with
    | true=>exact ⟨_,rfl,qy (q (hb.mp rfl) _ s1)⟩
    | false=>exact ⟨_,rfl,jU ⟨szl,fun e he=>qx (fun z=>nomatch hb.mpr z) e _ s1 he⟩⟩
structure Rs where
  p:Addr
  dx:Addr
  lb:Addr
  ll:Addr
  ln:Addr
  lo:Addr
abbrev QL:List Str:=["below","day","licences","names","done"]
abbrev DR (C:Addr) (A:Rs) (ex:List (Str × V)) (day:Int):HO:=.ins C A.dx (("below",.ref A.lb) :: ("day",.int day) :: ("licences",.ref A.ll) :: ("names",.ref A.ln) :: ("done",.ref A.lo) :: ex)
abbrev RX (C:Addr) (A:Rs) (ex:List (Str × V)) (r:List Int) (day:Int) (us:List V) (ns:List Str) (ds:List V):List (Addr × HO) :=
  [(A.p,DR C A ex day),(A.dx,.own A.p),(A.lb,.lst (r.map V.int)),(A.ll,.lst us),(A.ln,.lst (ns.map V.str)),(A.lo,.lst ds)]
structure RC (K:PySem.W.Frag) (C:Addr):Prop where
  c:Cls K C
  nB:ju K C "below"
  nD:ju K C "day"
  nL:ju K C "licences"
  nN:ju K C "names"
  nO:ju K C "done"
theorem Og {K:PySem.W.Frag} {mg:Str→Option Value} {C f0:Addr} (R:Cl K mg "Roll" C f0 QL):RC K C :=
  ⟨R.c,R.n _ (.head _),R.n _ (.tail _ (.head _)),R.n _ (.tail _ (.tail _ (.head _))),R.n _ (.tail _ (.tail _ (.tail _ (.head _)))),R.n _ (.tail _ (.tail _ (.tail _ (.tail _ (.head _)))))⟩
theorem QS (A:Rs) (ex:List (Str × V)) (day:Int) (z:V):qw "day" z (("below",.ref A.lb) :: ("day",.int day) :: ("licences",.ref A.ll) :: ("names",.ref A.ln) :: ("done",.ref A.lo) :: ex)=((("below",.ref A.lb) :: ("day",z) :: ("licences",.ref A.ll) :: ("names",.ref A.ln) :: ("done",.ref A.lo) :: ex):List (Str × V)):=rfl
inductive lO
  | turn
  | file (x:Str) (s m b:Int)
  | sell (n:Int) (y z:Str)
  | part (n:Int) (y:Str) (m:Int) (z:Str)
  | drop (n:Int) (y:Str)
  | move (n:Int) (y:Str) (s:Int)
  | lapse (xs:List Int)
def tU:lO→PyData
  | .turn=>.tuple [.str "turn"]
  | .file x s m b=>.tuple [.str "file",.str x,.int s,.int m,.int b]
  | .sell n y z=>.tuple [.str "sell",.int n,.str y,.str z]
  | .part n y m z=>.tuple [.str "part",.int n,.str y,.int m,.str z]
  | .drop n y=>.tuple [.str "drop",.int n,.str y]
  | .move n y s=>.tuple [.str "move",.int n,.str y,.int s]
  | .lapse xs=>.tuple [.str "lapse",.tuple (xs.map PyData.int)]
structure RS where
  day:Int
  ls:List Lic
  ns:List Str
  ds:List lO
inductive EK
  | number | yours | holder | licence | much | alone | full | jA
structure Ec where
  number:Addr
  yours:Addr
  holder:Addr
  licence:Addr
  much:Addr
  alone:Addr
  full:Addr
  jA:Addr
def Ec.at_ (c:Ec):EK→Addr
  | .number=>c.number | .yours=>c.yours | .holder=>c.holder | .licence=>c.licence | .much=>c.much | .alone=>c.alone | .full=>c.full | .jA=>c.jA
def wm (l:Lic) (m:Int):Lic:=⟨l.day,l.start,l.back,m⟩
def wst (l:Lic) (s:Int):Lic:=⟨l.day,s,l.back,l.most⟩
def fu (ls:List Lic) (d:Int):Nat→List Int
  | 0=>[]
  | i + 1=>fu ls d i++(match ls[i]? with | some l=>if l.day=d∧0<l.most then [(i:Int)] else [] | none=>[])
def nW (ls:List Lic) (xs:List Int):List Lic:=List.zipWith (fun l x=>wm l (min l.most x)) ls xs
def RS.at_ (S:RS) (n:Int):Lic:=S.ls.getD n.toNat ⟨0,0,0,0⟩
open Classical in
noncomputable def RS.sy (S:RS) (n:Int) (y:Str) (k:Except EK RS):Except EK RS :=
  if ¬ (0≤n∧n<S.ls.length) then .error .number else if S.ns[n.toNat]?≠some y then .error .yours else k
open Classical in
noncomputable def step (r:List Int) (S:RS):lO→Except EK RS
  | .turn=>.ok ⟨S.day + 1,S.ls,S.ns,S.ds++[.turn]⟩
  | .file x s m b=>if ¬ gR x then .error .holder else if m=0∨¬ rO r ⟨S.day,s,b,m⟩ then .error .licence else if 60≤S.ls.length then .error .full else
      .ok ⟨S.day,S.ls++[⟨S.day,s,b,m⟩],S.ns++[x],S.ds++[.file x s m b]⟩
  | .sell n y z=>S.sy n y (if ¬ gR z then .error .holder else .ok ⟨S.day,S.ls,S.ns.set n.toNat z,S.ds++[.sell n y z]⟩)
  | .part n y m z=>S.sy n y (if ¬ gR z then .error .holder else if ¬ (1≤m∧m<(S.at_ n).most) then .error .much else if fu S.ls (S.at_ n).day S.ls.length≠[n] then .error .alone else if 60≤S.ls.length then .error .full else
      .ok ⟨S.day,S.ls.set n.toNat (wm (S.at_ n) ((S.at_ n).most - m))++[wm (S.at_ n) m],S.ns++[z],S.ds++[.part n y m z]⟩)
  | .drop n y=>S.sy n y (.ok ⟨S.day,S.ls.set n.toNat (wm (S.at_ n) 0),S.ns,S.ds++[.drop n y]⟩)
  | .move n y s=>S.sy n y (if ¬ rO r (wst (S.at_ n) s) then .error .licence else .ok ⟨S.day,S.ls.set n.toNat (wst (S.at_ n) s),S.ns,S.ds++[.move n y s]⟩)
  | .lapse xs=>if xs.length≠S.ls.length then .error .number else if ¬ ∀ x∈xs,0≤x∧x≤1000000000000 then .error .much else
      .ok ⟨S.day,nW S.ls xs,S.ns,S.ds++[.lapse xs]⟩
def RA (K:PySem.W.Frag) (T:eX) (C:Addr) (A:Rs) (ex:List (Str × V)) (r:List Int) (H0 H:Hp) (B:List (Addr × HO)) (S:RS):Prop :=
  ∃ us vs,Ow T H0 H (RX C A ex r S.day us S.ns vs++B)∧dM K H0 us (S.ls.map mZ)∧dM K H0 vs (S.ds.map tU)
structure Wc (ex:List (Str × V)):Prop where
  num:ex.lookup ("look_at_number":Str)=none
  hol:ex.lookup ("look_at_holder":Str)=none
  room:ex.lookup ("look_at_room":Str)=none
  ent:ex.lookup ("enter":Str)=none
  al:ex.lookup ("is_alone":Str)=none
  lmv:ex.lookup ("look_move":Str)=none
  lp:ex.lookup ("lapse":Str)=none
  tn:ex.lookup ("turn":Str)=none
  rl:ex.lookup ("roll":Str)=none
  hs:ex.lookup ("holders":Str)=none
  de:ex.lookup ("deeds":Str)=none
  td:ex.lookup ("today":Str)=none
  fi:ex.lookup ("file":Str)=none
  se:ex.lookup ("sell":Str)=none
  pa:ex.lookup ("part":Str)=none
  dr:ex.lookup ("drop":Str)=none
  mv:ex.lookup ("move":Str)=none
theorem Wc.nil:Wc []:=⟨rfl,rfl,rfl,rfl,rfl,rfl,rfl,rfl,rfl,rfl,rfl,rfl,rfl,rfl,rfl,rfl,rfl⟩
structure RP (r:List Int) (ex:List (Str × V)) (S:RS):Prop where
  rv:Rv.lN r
  r40:r.length≤40
  nn:S.ns.length=S.ls.length
  l60:S.ls.length≤60
  dl:S.ds.length≤9000
  e9:ex.length≤100
  ex:Wc ex
def After (K:PySem.W.Frag) (T:eX) (C:Addr) (c:Ec) (A:Rs) (ex:List (Str × V)) (r:List Int) (H0 H:Hp) (B:List (Addr × HO)) (S:RS) (d:lO) (v:V) (Q:VK) (E:XK):Prop :=
  (∀ S',step r S d=.ok S'→∀ Hb H',aY T H0 Hb→RA K T C A ex r Hb H' B S'→Q v H')∧(∀ k,step r S d=.error k→∀ (e:Addr) (H':Hp),aY T H H'→H' e=none→E (.ref (c.at_ k)) (some e) H')
def lR (K:PySem.W.Frag) (C:Addr) (y:Str):Sp:=fun vs H Q _=>∃ (p dx l:Addr) (fs:List (Str × V)) (us:List V),vs=[.ref p]∧H p=some (.ins C dx fs)∧fs.lookup y=some (.ref l)∧SqL K H l us∧∀ l',H l'=none→Q (.ref l') (upd H l' (.lst us))
abbrev fK:Stmt:=inClass (top 40) 2
theorem qP:aQ ["self"] ["self"] (ak fK):=⟨rfl,rfl,rfl,by decide +kernel,rfl,by decide +kernel,by decide +kernel⟩
section
variable {P:Program} {w:World} {K:PySem.W.Frag} {mg:Str→Option Value} {base:Heap} {C:Addr}
theorem Cv {f:Addr} {fd:FuncData} (D:Dm K C "roll" "Roll.roll" fK ["self"] f fd) (B:Blt mg) (R:RC K C):bN P w K mg base CX0 1 f fd ["self"] (lR K C "licences"):=by
  refine D.F.ok qP (fun vs H Q E h=>?_) (fun cdv A outer s H vs Q E hr h=>?_)
  · obtain ⟨_,_,_,_,_,rfl,_⟩:=h;rfl
  · obtain ⟨p,dx,l,fs,us,rfl,hp,hf,hl,q⟩:=h
    refine ⟨_,(aC (aW (fM gA rfl B.list PyProof.Rows.boot_list (aj (cC (pv 0) rfl) aq)))),?_⟩
    exact ⟨_,rfl,p,C,dx,fs,.ref l,rfl,hp,R.c,R.nL,hf,l,us,rfl,.inl hl,q⟩
end
abbrev cU:Stmt:=inClass (top 40) 3
theorem nP:aQ ["self"] ["self"] (ak cU):=⟨rfl,rfl,rfl,by decide +kernel,rfl,by decide +kernel,by decide +kernel⟩
section
variable {P:Program} {w:World} {K:PySem.W.Frag} {mg:Str→Option Value} {base:Heap} {C:Addr}
theorem tH {f:Addr} {fd:FuncData} (D:Dm K C "holders" "Roll.holders" cU ["self"] f fd) (B:Blt mg) (R:RC K C):bN P w K mg base CX0 1 f fd ["self"] (lR K C "names"):=by
  refine D.F.ok nP (fun vs H Q E h=>?_) (fun cdv A outer s H vs Q E hr h=>?_)
  · obtain ⟨_,_,_,_,_,rfl,_⟩:=h;rfl
  · obtain ⟨p,dx,l,fs,us,rfl,hp,hf,hl,q⟩:=h
    refine ⟨_,(aC (aW (fM gA rfl B.list PyProof.Rows.boot_list (aj (cC (pv 0) rfl) aq)))),?_⟩
    exact ⟨_,rfl,p,C,dx,fs,.ref l,rfl,hp,R.c,R.nN,hf,l,us,rfl,.inl hl,q⟩
end
abbrev dW:Stmt:=inClass (top 40) 4
theorem pZ:aQ ["self"] ["self"] (ak dW):=⟨rfl,rfl,rfl,by decide +kernel,rfl,by decide +kernel,by decide +kernel⟩
section
variable {P:Program} {w:World} {K:PySem.W.Frag} {mg:Str→Option Value} {base:Heap} {C:Addr}
theorem wZ {f:Addr} {fd:FuncData} (D:Dm K C "deeds" "Roll.deeds" dW ["self"] f fd) (B:Blt mg) (R:RC K C):bN P w K mg base CX0 1 f fd ["self"] (lR K C "done"):=by
  refine D.F.ok pZ (fun vs H Q E h=>?_) (fun cdv A outer s H vs Q E hr h=>?_)
  · obtain ⟨_,_,_,_,_,rfl,_⟩:=h;rfl
  · obtain ⟨p,dx,l,fs,us,rfl,hp,hf,hl,q⟩:=h
    refine ⟨_,(aC (aW (fM gA rfl B.list PyProof.Rows.boot_list (aj (cC (pv 0) rfl) aq)))),?_⟩
    exact ⟨_,rfl,p,C,dx,fs,.ref l,rfl,hp,R.c,R.nO,hf,l,us,rfl,.inl hl,q⟩
end
abbrev dU:Stmt:=inClass (top 40) 1
theorem pX:aQ ["self"] ["self"] (ak dU):=⟨rfl,rfl,rfl,by decide +kernel,rfl,by decide +kernel,by decide +kernel⟩
def uD (C:Addr):Sp:=fun vs H Q _=>∃ (A:Rs) (ex:List (Str × V)) (day:Int),vs=[.ref A.p]∧H A.p=some (DR C A ex day)∧Q (.int day) H
section
variable {P:Program} {w:World} {K:PySem.W.Frag} {mg:Str→Option Value} {base:Heap} {C:Addr}
theorem wW {f:Addr} {fd:FuncData} (D:Dm K C "today" "Roll.today" dU ["self"] f fd) (R:RC K C):bN P w K mg base CX0 1 f fd ["self"] (uD C):=by
  refine D.F.ok pX (fun vs H Q E h=>?_) (fun cdv A outer s H vs Q E hr h=>?_)
  · obtain ⟨_,_,_,rfl,_⟩:=h;rfl
  · obtain ⟨A,ex,day,rfl,hp,q⟩:=h
    refine ⟨_,(aC (aW (cC (pv 0) rfl))),?_⟩
    exact ⟨_,rfl,A.p,C,A.dx,_,.int day,rfl,hp,R.c,R.nD,rfl,q⟩
end
abbrev fH:Stmt:=inClass (top 40) 5
theorem qM:aQ ["self"] ["self"] (ak fH):=⟨rfl,rfl,rfl,by decide +kernel,rfl,by decide +kernel,by decide +kernel⟩
def sG (K:PySem.W.Frag) (T:eX) (C:Addr) (c:Ec):Sp:=fun vs H Q E=>∃ (A:Rs) (ex:List (Str × V)) (H0:Hp) (B:List (Addr × HO)) (r:List Int) (S:RS),vs=[.ref A.p]∧RA K T C A ex r H0 H B S∧RP r ex S∧After K T C c A ex r H0 H B S .turn .non Q E
section
variable {P:Program} {w:World} {K:PySem.W.Frag} {mg:Str→Option Value} {base:Heap} {T:eX} {C:Addr} {c:Ec}
theorem Cq {f:Addr} {fd:FuncData} (D:Dm K C "turn" "Roll.turn" fH ["self"] f fd) (R:RC K C):bN P w K mg base CX0 1 f fd ["self"] (sG K T C c):=by
  refine D.F.ok qM (fun vs H Q E h=>?_) (fun cdv A outer s H vs Q E hr h=>?_)
  · obtain ⟨_,_,_,_,_,_,rfl,_⟩:=h;rfl
  · obtain ⟨A,ex,H0,L,r,S,rfl,⟨us,vs,O,d0,d1⟩,hp,q,-⟩:=h
    have hvl:vs.length=S.ds.length:=by rw [d1.length,List.length_map]
    have hdl:=hp.dl
    have hel:=hp.e9
    refine ⟨_,(au (wJ (pv 0) ao Rx)
      (aC (bD (kh PySem.F.plainAttrs_list PySem.F.slot_list_append PySem.F.type_list_append cu (cC (pv 0) rfl) (aj (fY (aj aL aq)) aq))))),?_⟩
    simp only [List.cons_append,List.nil_append] at O
    refine ⟨_,rfl,A.p,C,A.dx,_,_,rfl,O.get 0,R.c,R.nD,rfl,_,_,rfl,rfl,A.dx,_,O.get 0,(by simp only [List.length_cons];omega),?_⟩
    rw [QS]
    walk_at "pt"
    refine ⟨_,rfl,A.p,C,A.dx,_,.ref A.lo,rfl,O.get 0,R.c,R.nO,rfl,.inl ⟨rfl,_,O.sq 5⟩,szl,fun t ht=>?_⟩
    walk_at "nw"
    refine ⟨A.lo,_,_,rfl,rfl,O.get 6,aR (by omega),?_⟩
    walk_at "pt"
    obtain ⟨Hb,O,sb,e1⟩:=O.frz
    refine q _ rfl Hb _ sb ⟨us,vs++[V.ref t],O,d0.mo sb,?_⟩
    rw [List.map_append]
    exact (d1.mo sb).append (.cons (.tuple (SqT.of e1) (.cons (.str _) .nil)) .nil)
end
abbrev dD:Stmt:=inClass (top 40) 13
theorem pY:aQ ["self","one","holder"] ["self","one","holder"] (ak dD):=⟨rfl,rfl,rfl,by decide +kernel,rfl,by decide +kernel,by decide +kernel⟩
def pQ (C:Addr):Sp:=fun vs H Q _=>∃ (A:Rs) (ex:List (Str × V)) (day:Int) (us:List V) (ns:List V) (v x:V),vs=[.ref A.p,v,x]∧H A.p=some (DR C A ex day)∧H A.ll=some (.lst us)∧H A.ln=some (.lst ns)∧us.length≤900∧ns.length≤900∧A.p≠A.ll∧A.p≠A.ln∧A.ln≠A.ll ∧
  Q (.int us.length) (upd (upd H A.ll (.lst (us++[v]))) A.ln (.lst (ns++[x])))
section
variable {P:Program} {w:World} {K:PySem.W.Frag} {mg:Str→Option Value} {base:Heap} {T:eX} {C:Addr}
theorem wY {f:Addr} {fd:FuncData} (D:Dm K C "enter" "Roll.enter" dD ["self","one","holder"] f fd) (B:Blt mg) (R:RC K C):bN P w K mg base CX0 1 f fd ["self","one","holder"] (pQ C):=by
  refine D.F.ok pY (fun vs H Q E h=>?_) (fun cdv A outer s H vs Q E hr h=>?_)
  · obtain ⟨_,_,_,_,_,_,_,rfl,_⟩:=h;rfl
  · obtain ⟨A,ex,day,us,ns,v,x,rfl,hp,hl,hn,ul,nl,n1,n2,n3,q⟩:=h
    refine ⟨_,(au (bD (kh PySem.F.plainAttrs_list PySem.F.slot_list_append PySem.F.type_list_append cu (cC (pv 0) rfl) (aj (pv 1) aq)))
      (au (bD (kh PySem.F.plainAttrs_list PySem.F.slot_list_append PySem.F.type_list_append cu (cC (pv 0) rfl) (aj (pv 2) aq)))
      (aC (aW (aH kI (aK aM rfl B.len PySem.boot_len (aj (cC (pv 0) rfl) aq)) ao))))),?_⟩
    refine ⟨_,rfl,A.p,C,A.dx,_,.ref A.ll,rfl,hp,R.c,R.nL,rfl,.inl ⟨rfl,_,SqL.of hl⟩,_,rfl,A.ll,_,_,rfl,rfl,hl,aR (by omega),?_⟩
    have hp:=(bC (H:=H) (o:=.lst (us++[v])) n1).trans hp
    have hn:=(bC (H:=H) (o:=.lst (us++[v])) n3).trans hn
    have hl:upd H A.ll (.lst (us++[v])) A.ll=some (.lst (us++[v])):=cG
    refine ⟨_,rfl,A.p,C,A.dx,_,.ref A.ln,rfl,hp,R.c,R.nN,rfl,.inl ⟨rfl,_,SqL.of hn⟩,_,rfl,A.ln,_,_,rfl,rfl,hn,aR (by omega),?_⟩
    have hp:=(bC (o:=.lst (ns++[x])) n2).trans hp
    have hl:=(bC (o:=.lst (ns++[x])) n3.symm).trans hl
    refine ⟨_,rfl,A.p,C,A.dx,_,.ref A.ll,rfl,hp,R.c,R.nL,rfl,A.ll,_,rfl,.inl (SqL.of hl),_,_,rfl,rfl,?_⟩
    dsimp only
    rw [show (((us++[v]).length:Nat):Int) - 1=(us.length:Int) by rw [List.length_append];simp]
    exact q
end
abbrev bx:Stmt:=inClass (top 40) 17
theorem j9:aQ ["self"] ["self"] (ak bx):=⟨rfl,rfl,rfl,by decide +kernel,rfl,by decide +kernel,by decide +kernel⟩
def sI (K:PySem.W.Frag) (T:eX) (C cF:Addr):Sp:=fun vs H Q E=>∃ (A:Rs) (ex:List (Str × V)) (day:Int) (us:List V),vs=[.ref A.p]∧H A.p=some (DR C A ex day)∧SqL K H A.ll us∧TabsOk T H∧(us.length<60→Q .non H)∧(60≤us.length→∀ (e:Addr) (H':Hp),aY T H H'→H' e=none→E (.ref cF) (some e) H')
section
variable {P:Program} {w:World} {K:PySem.W.Frag} {mg:Str→Option Value} {base:Heap} {T:eX} {C:Addr}
theorem Cu {f cF:Addr} {fd:FuncData} (D:Dm K C "look_at_room" "Roll.look_at_room" bx ["self"] f fd) (B:Blt mg) (R:RC K C) (X_Full:jd K mg "Full" cF) (CL:∃ t,mg "MOST_LICENCES"=some (.int 60 t)):bN P w K mg base (CXE P w) 1 f fd ["self"] (sI K T C cF):=by
  obtain ⟨tL,hMOST_LICENCES⟩:=CL
  refine D.F.okX j9 (fun vs H Q E h=>?_) (fun cdv A outer s H vs Q E hr h=>?_)
  · obtain ⟨_,_,_,_,rfl,_⟩:=h;rfl
  · obtain ⟨A,ex,day,us,rfl,hp,hl,tk,q,qx⟩:=h
    refine ⟨_,(aC (bY (aJ Q6 (aK aM rfl B.len PySem.boot_len (aj (cC (pv 0) rfl) aq)) (iB (v:=.int (60)) rfl hMOST_LICENCES ⟨_,rfl⟩) (aP _))
        (aC (gQ iC rfl (fun _ _ z=>z) rfl X_Full.m X_Full.q (aj aL aq)))
        aU)),?_⟩
    refine ⟨_,rfl,A.p,C,A.dx,_,.ref A.ll,rfl,hp,R.c,R.nL,rfl,A.ll,_,rfl,.inl hl,_,_,rfl,rfl,_,rfl,ifD (fun h=>?_) (fun h=>?_)⟩
    · have h:(60:Int)≤(us.length:Int):=h
      exact ⟨szl,fun e he=>qx (by omega) e H (aY.refl tk) he⟩
    · have h:¬ (60:Int)≤(us.length:Int):=h
      exact q (by omega)
end
abbrev bh:Stmt:=inClass (top 40) 15
theorem jG:aQ ["self","number"] ["self","number"] (ak bh):=⟨rfl,rfl,rfl,by decide +kernel,rfl,by decide +kernel,by decide +kernel⟩
def o7 (K:PySem.W.Frag) (T:eX) (C cN:Addr):Sp:=fun vs H Q E=>∃ (A:Rs) (ex:List (Str × V)) (day:Int) (us:List V) (n:Int),vs=[.ref A.p,.int n]∧H A.p=some (DR C A ex day)∧SqL K H A.ll us∧TabsOk T H∧(0≤n→n<us.length→Q .non H)∧(¬ (0≤n∧n<us.length)→∀ (e:Addr) (H':Hp),aY T H H'→H' e=none→E (.ref cN) (some e) H')
section
variable {P:Program} {w:World} {K:PySem.W.Frag} {mg:Str→Option Value} {base:Heap} {T:eX} {C:Addr}
theorem tE {f cN:Addr} {fd:FuncData} (D:Dm K C "look_at_number" "Roll.look_at_number" bh ["self","number"] f fd) (B:Blt mg) (R:RC K C) (X_NoNumber:jd K mg "NoNumber" cN):bN P w K mg base (CXE P w) 1 f fd ["self","number"] (o7 K T C cN):=by
  refine D.F.okX jG (fun vs H Q E h=>?_) (fun cdv A outer s H vs Q E hr h=>?_)
  · obtain ⟨_,_,_,_,_,rfl,_⟩:=h;rfl
  · obtain ⟨A,ex,day,us,n,rfl,hp,hl,tk,q,qx⟩:=h
    refine ⟨_,(aC (bY (iD (jf kE mX ao (pv 1) (aK aM rfl B.len PySem.boot_len (aj (cC (pv 0) rfl) aq))))
        (aC (gQ iC rfl (fun _ _ z=>z) rfl X_NoNumber.m X_NoNumber.q (aj aL aq)))
        aU)),?_⟩
    refine ⟨_,rfl,_,_,rfl,rfl,_,rfl,ifD (fun h1=>?_) (fun h1=>?_)⟩
    rotate_left
    · refine ⟨_,rfl,jU ⟨szl,fun e he=>qx (fun z=>h1 z.1) e H (aY.refl tk) he⟩⟩
    refine ⟨_,rfl,A.p,C,A.dx,_,.ref A.ll,rfl,hp,R.c,R.nL,rfl,A.ll,_,rfl,.inl hl,_,_,rfl,rfl,_,rfl,ifN (ifD (fun h2=>?_) (fun h2=>?_))⟩
    · exact q h1 h2
    · exact ⟨szl,fun e he=>qx (fun z=>h2 z.2) e H (aY.refl tk) he⟩
end
abbrev aO:Stmt:=inClass (top 40) 16
theorem jH:aQ ["self","number","holder"] ["self","number","holder"] (ak aO):=⟨rfl,rfl,rfl,by decide +kernel,rfl,by decide +kernel,by decide +kernel⟩
def jo (K:PySem.W.Frag) (T:eX) (C cN cY:Addr):Sp:=fun vs H Q E=>∃ (A:Rs) (ex:List (Str × V)) (day:Int) (us:List V) (ns:List Str) (n:Int) (y:Str),vs=[.ref A.p,.int n,.str y]∧H A.p=some (DR C A ex day)∧SqL K H A.ll us∧SqL K H A.ln (ns.map V.str)∧us.length=ns.length∧Wc ex∧TabsOk T H ∧
  (0≤n→n<ns.length→ns[n.toNat]?=some y→Q .non H)∧(¬ (0≤n∧n<ns.length)→∀ (e:Addr) (H':Hp),aY T H H'→H' e=none→E (.ref cN) (some e) H') ∧
  (0≤n→n<ns.length→ns[n.toNat]?≠some y→∀ (e:Addr) (H':Hp),aY T H H'→H' e=none→E (.ref cY) (some e) H')
section
variable {P:Program} {w:World} {K:PySem.W.Frag} {mg:Str→Option Value} {base:Heap} {T:eX} {C:Addr}
theorem tG {f f1 cN cY:Addr} {fd fd1:FuncData} (D:Dm K C "look_at_holder" "Roll.look_at_holder" aO ["self","number","holder"] f fd) (B:Blt mg) (R_Roll:RC K C) (X_NotYours:jd K mg "NotYours" cY)
    (cB:Dm K C "look_at_number" "Roll.look_at_number" bh ["self","number"] f1 fd1) (jX:bN P w K mg base (CXE P w) 1 f1 fd1 ["self","number"] (o7 K T C cN)) :
    bN P w K mg base (CXE P w) 2 f fd ["self","number","holder"] (jo K T C cN cY):=by
  have R:=R_Roll
  refine D.F.okX jH (fun vs H Q E h=>?_) (fun cdv A outer s H vs Q E hr h=>?_)
  · obtain ⟨_,_,_,_,_,_,_,rfl,_⟩:=h;rfl
  · obtain ⟨A,ex,day,us,ns,n,y,rfl,hp,hl,hn,hul,hex,tk,q,qN,qY⟩:=h
    refine ⟨_,(au (bD (eZ (pv 0) R_Roll.c cB.m jX (hr.mono (by decide)) cB.b .nil kj (aj (pv 1) aq)))
      (aC (bY (aJ nR (aF aD (cC (pv 0) rfl) (pv 1) (fun _ _=>rfl)) (pv 2) (aP _))
        (aC (gQ iC rfl (fun _ _ z=>z) rfl X_NotYours.m X_NotYours.q (aj aL aq)))
        aU))),?_⟩
    refine ⟨_,rfl,A.p,A.dx,_,rfl,hp,hex.num,_,rfl,A,ex,day,us,n,rfl,hp,hl,tk,fun h0 h1=>?_,fun h=>qN (fun z=>h (by omega))⟩
    obtain ⟨k,rfl⟩:=Int.eq_ofNat_of_zero_le h0
    obtain ⟨x,hx⟩:∃ x,ns[k]?=some x:=⟨_,List.getElem?_eq_getElem (by omega)⟩
    refine ⟨_,rfl,A.p,C,A.dx,_,.ref A.ln,rfl,hp,R.c,R.nN,rfl,_,rfl,A.ln,_,_,_,rfl,rfl,hn,cX (show (ns.map V.str)[k]?=some (.str x) by rw [List.getElem?_map,hx];rfl),_,rfl,rfl,_,rfl,ifN (ifD (fun h=>?_) (fun h=>?_))⟩
    · exact q h0 (by omega) (by rw [Int.toNat_natCast,hx,V.str.inj h])
    · refine ⟨szl,fun e he=>?_⟩
      exact qY h0 (by omega) (fun z=>h (by rw [Int.toNat_natCast,hx] at z;rw [Option.some.inj z])) e H (aY.refl tk) he
end
abbrev fB:Stmt:=top 33
theorem qL:aQ ["one"] ["one"] (ak fB):=⟨rfl,rfl,rfl,by decide +kernel,rfl,by decide +kernel,by decide +kernel⟩
def DK (K:PySem.W.Frag):Sp:=fun vs H Q _=>∃ (a:Addr) (l:Lic),vs=[.ref a]∧SqT K H a (mC l)∧Q (.int l.day) H
theorem Rj {f:Addr} {fd:FuncData} (D:Df K mg "day_filed" fB ["one"] f fd):bN P w K mg base CX0 1 f fd ["one"] (DK K):=by
  refine D.F.ok qL (fun vs H Q E h=>?_) (fun cdv A outer s H vs Q E hr h=>?_)
  · obtain ⟨_,_,rfl,_⟩:=h;rfl
  · obtain ⟨a,l,rfl,hT,q⟩:=h
    exact ⟨_,(aC (aW (aF aV (pv 0) ao (fun _ _=>rfl)))),_,rfl,a,_,0,_,rfl,rfl,hT,rfl,q⟩
abbrev fZ:Stmt:=top 34
theorem vo:aQ ["one"] ["one"] (ak fZ):=⟨rfl,rfl,rfl,by decide +kernel,rfl,by decide +kernel,by decide +kernel⟩
def pO (K:PySem.W.Frag):Sp:=fun vs H Q _=>∃ (a:Addr) (l:Lic),vs=[.ref a]∧SqT K H a (mC l)∧Q (.int l.most) H
theorem Oo {f:Addr} {fd:FuncData} (D:Df K mg "most_of" fZ ["one"] f fd):bN P w K mg base CX0 1 f fd ["one"] (pO K):=by
  refine D.F.ok vo (fun vs H Q E h=>?_) (fun cdv A outer s H vs Q E hr h=>?_)
  · obtain ⟨_,_,rfl,_⟩:=h;rfl
  · obtain ⟨a,l,rfl,hT,q⟩:=h
    exact ⟨_,(aC (aW (aF aV (pv 0) ao (fun _ _=>rfl)))),_,rfl,a,_,3,_,rfl,rfl,hT,rfl,q⟩
abbrev dG:Stmt:=top 36
theorem qJ:aQ ["one","most"] ["one","most"] (ak dG):=⟨rfl,rfl,rfl,by decide +kernel,rfl,by decide +kernel,by decide +kernel⟩
def BW (K:PySem.W.Frag):Sp:=fun vs H Q _=>∃ (a:Addr) (l:Lic) (m:Int),vs=[.ref a,.int m]∧SqT K H a (mC l)∧∀ t,H t=none→Q (.ref t) (upd H t (.tup (mC (wm l m))))
theorem Wz {f:Addr} {fd:FuncData} (D:Df K mg "with_most" dG ["one","most"] f fd):bN P w K mg base CX0 1 f fd ["one","most"] (BW K):=by
  refine D.F.ok qJ (fun vs H Q E h=>?_) (fun cdv A outer s H vs Q E hr h=>?_)
  · obtain ⟨_,_,_,rfl,_⟩:=h;rfl
  · obtain ⟨a,l,m,rfl,hT,q⟩:=h
    refine ⟨_,(aC (aW (fY (aj (aF aV (pv 0) ao (fun _ _=>rfl)) (aj (aF aV (pv 0) ao (fun _ _=>rfl)) (aj (aF aV (pv 0) ao (fun _ _=>rfl)) (aj (pv 1) aq))))))),?_⟩
    exact ⟨_,rfl,a,_,0,_,rfl,rfl,hT,rfl,_,rfl,a,_,1,_,rfl,rfl,hT,rfl,_,rfl,a,_,2,_,rfl,rfl,hT,rfl,_,rfl,szl,q⟩
abbrev dN:Stmt:=top 35
theorem pU:aQ ["one","start"] ["one","start"] (ak dN):=⟨rfl,rfl,rfl,by decide +kernel,rfl,by decide +kernel,by decide +kernel⟩
def Dw (K:PySem.W.Frag):Sp:=fun vs H Q _=>∃ (a:Addr) (l:Lic) (m:Int),vs=[.ref a,.int m]∧SqT K H a (mC l)∧∀ t,H t=none→Q (.ref t) (upd H t (.tup (mC (wst l m))))
theorem Q9 {f:Addr} {fd:FuncData} (D:Df K mg "with_start" dN ["one","start"] f fd):bN P w K mg base CX0 1 f fd ["one","start"] (Dw K):=by
  refine D.F.ok pU (fun vs H Q E h=>?_) (fun cdv A outer s H vs Q E hr h=>?_)
  · obtain ⟨_,_,_,rfl,_⟩:=h;rfl
  · obtain ⟨a,l,m,rfl,hT,q⟩:=h
    refine ⟨_,(aC (aW (fY (aj (aF aV (pv 0) ao (fun _ _=>rfl)) (aj (pv 1) (aj (aF aV (pv 0) ao (fun _ _=>rfl)) (aj (aF aV (pv 0) ao (fun _ _=>rfl)) aq))))))),?_⟩
    exact ⟨_,rfl,a,_,0,_,rfl,rfl,hT,rfl,_,rfl,_,rfl,a,_,2,_,rfl,rfl,hT,rfl,_,rfl,a,_,3,_,rfl,rfl,hT,rfl,szl,q⟩
theorem oZ (ls:List Lic) (d:Int):∀ i,(fu ls d i).length≤i
  | 0=>Nat.le_refl _
  | i + 1=>by
    have:=oZ ls d i
    unfold fu
    rw [List.length_append]
    split
    · split <;> simp <;> omega
    · simp;omega
abbrev bQ:Stmt:=inClass (top 40) 14
theorem iz:aQ ["self","number","day","taking"] ["self","number"] (ak bQ):=⟨rfl,rfl,rfl,by decide +kernel,rfl,by decide +kernel,by decide +kernel⟩
def uK (K:PySem.W.Frag) (T:eX) (C:Addr):Sp:=fun vs H Q _=>∃ (A:Rs) (ex:List (Str × V)) (day:Int) (us:List V) (ls:List Lic) (n:Nat) (l:Lic),vs=[.ref A.p,.int (n:Int)]∧H A.p=some (DR C A ex day)∧SqL K H A.ll us∧dM K H us (ls.map mZ)∧ls[n]?=some l∧ls.length≤64∧TabsOk T H ∧
  ∀ H',aY T H H'→Q (.bl (decide (fu ls l.day ls.length=[(n:Int)]))) H'
section
variable {P:Program} {w:World} {K:PySem.W.Frag} {mg:Str→Option Value} {base:Heap} {T:eX} {C:Addr}
theorem w5 {f f1 f2:Addr} {fd fd1 fd2:FuncData} (D:Dm K C "is_alone" "Roll.is_alone" bQ ["self","number"] f fd) (B:Blt mg) (R:RC K C)
    (eF:Df K mg "day_filed" fB ["one"] f1 fd1) (oH:bN P w K mg base CX0 1 f1 fd1 ["one"] (DK K))
    (bR:Df K mg "most_of" fZ ["one"] f2 fd2) (jw:bN P w K mg base CX0 1 f2 fd2 ["one"] (pO K)):bN P w K mg base CX0 2 f fd ["self","number"] (uK K T C):=by
  refine D.F.ok iz (fun vs H Q E h=>?_) (fun cdv A outer s H vs Q E hr h=>?_)
  · obtain ⟨_,_,_,_,_,_,_,rfl,_⟩:=h;rfl
  · obtain ⟨A,ex,day,us,ls,n,l,rfl,hp,hl,d0,hn,l64,tk,q⟩:=h
    have hu:=hr.units
    have O:=Ow.refl tk
    have hul:us.length=ls.length:=by rw [d0.length,List.length_map]
    obtain ⟨al,hal,hT⟩:=d0.jR hn
    refine ⟨_,(au (bf (i:=2) iz.nd rfl (Or.inr rfl) (aZ oH (hr.mono (by decide)) rfl eF.m eF.F.kp eF.b .nil cM (aj (aF aD (cC (pv 0) rfl) (pv 1) (fun _ _=>rfl)) aq)))
      (au (iM (i:=3) (ak bQ) rfl ["self","number","day","taking"] rfl ["other","one","day"] [none,none,some 2] (by decide +kernel) (by decide +kernel) (by decide +kernel) rfl iz.nd rfl rfl (lV rfl B.enumerate (aj (cC (pv 0) rfl) aq)) (fun _ _ _=>(qb (K:=K) (n:=2) rfl rfl (cL (bL (i:=0) (show (["other","one","day"]:List Str).Nodup by decide +kernel) rfl (Or.inl rfl)) (cL (bL (i:=1) (show (["other","one","day"]:List Str).Nodup by decide +kernel) rfl (Or.inl rfl)) jP)))) (fun _ _ _=>(p7 (PW.pt (pw_and (aJ fj (aZ oH (hr.mono (by decide)) rfl eF.m eF.F.kp eF.b .nil cM (aj (pv 1) aq)) (pv 2) (aP _)) (pw_and1 (aJ wU (aZ jw (hr.mono (by decide)) rfl bR.m bR.F.kp bR.b .nil cM (aj (pv 1) aq)) ao (aP _))))))) (fun _ _ _=>(pv 0)) rfl)
      (aC (aW (jC (Q7 hu) (pv 3) (bK (aj (pv 1) aq)) (aP _)))))),?_⟩
    refine ⟨_,rfl,A.p,C,A.dx,_,.ref A.ll,rfl,hp,R.c,R.nL,rfl,_,rfl,A.ll,_,_,_,rfl,rfl,hl,cX hal,al,l,rfl,hT,?_⟩
    refine ⟨_,rfl,A.p,C,A.dx,_,.ref A.ll,rfl,hp,R.c,R.nL,rfl,A.ll,_,rfl,hl,fun lw hlw=>?_⟩
    refine iV (K:=K) (xs:=us) (fun i τ H'=>Iv (∃ (v0 v1:Option V),τ=[v0,v1,some (.int l.day)]∧Ow T H H' [(lw,.lst ((fu ls l.day i).map V.int))]))
      ⟨trivial,none,none,rfl,O.mk' hlw rfl⟩ (fun i τ H' _ ⟨_,_,_,_,O⟩=>hl.mo O.same) ?_ ?_
    · rintro i y T0 τ H5 hy ⟨-,v0,v1,rfl,O⟩ hT0
      obtain ⟨al,l2,rfl,hl2,hT2⟩:=d0.lu hy
      have hi:=(List.getElem?_eq_some_iff.mp hl2).1
      have ht:=oZ ls l.day i
      walk_at "nw"
      refine ⟨T0,_,rfl,O.sqT 0,rfl,_,_,rfl,_,_,rfl,rfl,?_⟩
      have O:=O.tail
      have hT3:=hT2.mo O.same
      refine ⟨_,rfl,al,l2,rfl,hT3,_,rfl,rfl,_,rfl,ifI (fun hd=>?_) (fun hd=>?_)⟩
      · refine ⟨_,rfl,al,l2,rfl,hT3,_,_,rfl,rfl,_,rfl,ifD (fun hm=>?_) (fun hm=>?_)⟩
        · refine ⟨_,rfl,_,O.get 0,aR (by rw [List.length_map];omega),?_⟩
          walk_at "pt"
          refine ⟨trivial,_,_,rfl,?_⟩
          unfold fu
          rw [hl2]
          simp only [if_pos (And.intro hd hm)]
          rw [List.map_append];exact O
        · refine ⟨trivial,_,_,rfl,?_⟩
          unfold fu
          rw [hl2]
          simp only [if_neg (fun z:l2.day=l.day∧0<l2.most=>hm z.2),List.append_nil]
          exact O
      · refine ⟨trivial,_,_,rfl,?_⟩
        unfold fu
        rw [hl2]
        simp only [if_neg (fun z:l2.day=l.day∧0<l2.most=>hd z.1),List.append_nil]
        exact O
    rintro τ H5 ⟨-,v0,v1,rfl,O⟩
    rw [hul] at O
    refine ⟨_,rfl,_,rfl,szl,fun l0 hl0=>?_⟩
    walk_at "nw"
    refine ⟨lw,l0,fu ls l.day ls.length,[(n:Int)],rfl,rfl,O.sq 1,O.sq 0,?_⟩
    rw [if_neg Bool.false_ne_true]
    exact q _ O.same
end
theorem mO {S:RS} {n:Int} {k:Nat} {l:Lic} (e:n=(k:Int)) (h:S.ls[k]?=some l):S.at_ n=l:=by
  unfold RS.at_
  rw [e,Int.toNat_natCast,List.getD_eq_getElem?_getD,h];rfl
section
variable {K:PySem.W.Frag} {T:eX} {C:Addr} {c:Ec} {A:Rs} {ex:List (Str × V)} {r:List Int} {H0 H:Hp} {B:List (Addr × HO)} {S S':RS} {d:lO} {v:V} {Q:VK} {E:XK} {n:Int} {y:Str} {k:Except EK RS} {ek:EK}
theorem iK (h:¬ (0≤n∧n<S.ls.length)):S.sy n y k=.error .number:=if_pos h
theorem jt (h0:0≤n) (h1:n<S.ls.length) (h:S.ns[n.toNat]?≠some y):S.sy n y k=.error .yours:=by unfold RS.sy;rw [if_neg (not_not_intro ⟨h0,h1⟩),if_pos h]
theorem jj (h0:0≤n) (h1:n<S.ls.length) (h:S.ns[n.toNat]?=some y):S.sy n y k=k:=by unfold RS.sy;rw [if_neg (not_not_intro ⟨h0,h1⟩),if_neg (not_not_intro h)]
theorem After.sy {k:Except EK RS} (q:After K T C c A ex r H0 H B S d v Q E) (hk:step r S d=S.sy n y k) (hnn:S.ns.length=S.ls.length) :
    (¬ (0≤n∧n<S.ns.length)→∀ (e:Addr) (H':Hp),aY T H H'→H' e=none→E (.ref c.number) (some e) H')∧(0≤n→n<S.ns.length→S.ns[n.toNat]?≠some y→∀ (e:Addr) (H':Hp),aY T H H'→H' e=none→E (.ref c.yours) (some e) H') :=
  ⟨fun h=>q.2 .number (hk.trans (iK (by rw [← hnn];exact h))),fun h0 h1 h=>q.2 .yours (hk.trans (jt h0 (by rw [← hnn];exact h1) h))⟩
end
theorem Den.W5 {K:PySem.W.Frag} {H:Hp} {a:Addr} {x y:V} {d e:PyData} (h:H a=some (.tup [x,y])) (h1:Den K H x d) (h2:Den K H y e):Den K H (.ref a) (.tuple [d,e]):=.tuple (SqT.of h) (.cons h1 (.cons h2 .nil))
abbrev d9:Stmt:=inClass (top 40) 9
theorem qQ:aQ ["self","number","holder"] ["self","number","holder"] (ak d9):=⟨rfl,rfl,rfl,by decide +kernel,rfl,by decide +kernel,by decide +kernel⟩
def sS (K:PySem.W.Frag) (T:eX) (C:Addr) (c:Ec):Sp:=fun vs H Q E=>∃ (A:Rs) (ex:List (Str × V)) (H0:Hp) (B:List (Addr × HO)) (r:List Int) (S:RS) (n:Int) (y:Str),vs=[.ref A.p,.int n,.str y]∧RA K T C A ex r H0 H B S∧RP r ex S∧After K T C c A ex r H0 H B S (.drop n y) .non Q E
section
variable {P:Program} {w:World} {K:PySem.W.Frag} {mg:Str→Option Value} {base:Heap} {T:eX} {C:Addr} {c:Ec}
theorem CJ {f f1 f2:Addr} {fd fd1 fd2:FuncData} (D:Dm K C "drop" "Roll.drop" d9 ["self","number","holder"] f fd) (R_Roll:RC K C)
    (aG:Dm K C "look_at_holder" "Roll.look_at_holder" aO ["self","number","holder"] f1 fd1) (bG:bN P w K mg base (CXE P w) 2 f1 fd1 ["self","number","holder"] (jo K T C c.number c.yours))
    (bA:Df K mg "with_most" dG ["one","most"] f2 fd2) (gW:bN P w K mg base CX0 1 f2 fd2 ["one","most"] (BW K)):bN P w K mg base (CXE P w) 3 f fd ["self","number","holder"] (sS K T C c):=by
  have R:=R_Roll
  refine D.F.okX qQ (fun vs H Q E h=>?_) (fun cdv A outer s H vs Q E hr h=>?_)
  · obtain ⟨_,_,_,_,_,_,_,_,rfl,_⟩:=h;rfl
  · obtain ⟨A,ex,H0,L,r,S,n,y,rfl,⟨us,vs,O,d0,d1⟩,hp,q⟩:=h
    have hul:us.length=S.ls.length:=by rw [d0.length,List.length_map]
    have hvl:vs.length=S.ds.length:=by rw [d1.length,List.length_map]
    have hnn:=hp.nn
    have hdl:=hp.dl
    obtain ⟨qN,qY⟩:=After.sy (n:=n) (y:=y) q rfl hnn
    refine ⟨_,(au (bD (eZ (pv 0) R_Roll.c aG.m bG (hr.mono (by decide)) aG.b .nil kj (aj (pv 1) (aj (pv 2) aq))))
      (au (jO (aZ gW (hr.mono (by decide)) rfl bA.m bA.F.kp bA.b .nil cM (aj (aF aD (cC (pv 0) rfl) (pv 1) (fun _ _=>rfl)) (aj ao aq))) (lG (cC (pv 0) rfl) (pv 1) set_list))
      (aC (bD (kh PySem.F.plainAttrs_list PySem.F.slot_list_append PySem.F.type_list_append cu (cC (pv 0) rfl) (aj (fY (aj aL (aj (pv 1) (aj (pv 2) aq)))) aq)))))),?_⟩
    refine ⟨_,rfl,A.p,A.dx,_,rfl,O.get 0,(by exact hp.ex.hol),_,rfl,_,rfl,A,ex,S.day,us,S.ns,n,y,rfl,O.get 0,O.sq 3,O.sq 4,by omega,hp.ex,O.same.t1,fun h0 h1 hx=>?_,qN,qY⟩
    have hst:step r S (.drop n y)=.ok ⟨S.day,S.ls.set n.toNat (wm (S.at_ n) 0),S.ns,S.ds++[.drop n y]⟩:=jj h0 (by omega) hx
    obtain ⟨k,rfl⟩:=Int.eq_ofNat_of_zero_le h0
    obtain ⟨l,hl⟩:∃ l,S.ls[k]?=some l:=⟨_,List.getElem?_eq_getElem (by omega)⟩
    obtain ⟨al,hal,hT⟩:=d0.jR hl
    rw [mO rfl hl,Int.toNat_natCast] at hst
    refine ⟨_,rfl,A.p,C,A.dx,_,.ref A.ll,rfl,O.get 0,R.c,R.nL,rfl,_,rfl,A.ll,_,_,_,rfl,rfl,O.sq 3,cX hal,al,l,0,rfl,hT.mo O.same,fun t1 ht1=>?_⟩
    walk_at "nw"
    refine ⟨_,rfl,A.p,C,A.dx,_,.ref A.ll,rfl,O.get 1,R.c,R.nL,rfl,_,rfl,?_⟩
    refine mJ O 4 rfl (jT (by omega)) fun H6 O=>?_
    refine ⟨_,rfl,A.p,C,A.dx,_,.ref A.lo,rfl,O.get 1,R.c,R.nO,rfl,.inl ⟨rfl,_,O.sq 6⟩,_,rfl,_,rfl,szl,fun t2 ht2=>?_⟩
    walk_at "nw"
    refine ⟨A.lo,_,_,rfl,rfl,O.get 7,aR (by omega),?_⟩
    generalize hE:upd _ _ _=Hn
    have O:=Ow.mW O 7 rfl hE rfl
    have O:Ow T H0 Hn ((t2,.tup [.str "drop",.int (k:Int),.str y]) :: (t1,.tup (mC (wm l 0))) :: (RX C A ex r S.day (us.set k (.ref t1)) S.ns (vs++[V.ref t2])++L)):=O
    obtain ⟨Hb,O,sb,e2⟩:=O.frz
    obtain ⟨Hc,O,sc,e1⟩:=O.frz
    have e2:=sc.keep _ _ e2 (fun _ z=>nomatch z)
    refine q.1 _ hst Hc _ (sb.trans sc) ⟨us.set k (.ref t1),vs++[V.ref t2],O,?_,?_⟩
    · rw [List.map_set]
      exact ((d0.mo sb).mo sc).set (Den.lic (l:=wm l 0) (SqT.of e1)) k
    · rw [List.map_append]
      exact ((d1.mo sb).mo sc).append (.cons (.tuple (SqT.of e2) (.cons (.str _) (.cons (.int _) (.cons (.str _) .nil)))) .nil)
end
abbrev fJ:Stmt:=inClass (top 40) 7
theorem qO:aQ ["self","number","holder","to"] ["self","number","holder","to"] (ak fJ):=⟨rfl,rfl,rfl,by decide +kernel,rfl,by decide +kernel,by decide +kernel⟩
def vX (K:PySem.W.Frag) (T:eX) (C:Addr) (c:Ec):Sp:=fun vs H Q E=>∃ (A:Rs) (ex:List (Str × V)) (H0:Hp) (B:List (Addr × HO)) (r:List Int) (S:RS) (n:Int) (y z:Str),vs=[.ref A.p,.int n,.str y,.str z]∧RA K T C A ex r H0 H B S∧RP r ex S∧Asc z∧After K T C c A ex r H0 H B S (.sell n y z) .non Q E
section
variable {P:Program} {w:World} {K:PySem.W.Frag} {mg:Str→Option Value} {base:Heap} {T:eX} {C:Addr} {c:Ec}
theorem Cr {f f1 f2:Addr} {fd fd1 fd2:FuncData} (D:Dm K C "sell" "Roll.sell" fJ ["self","number","holder","to"] f fd) (R_Roll:RC K C)
    (aG:Dm K C "look_at_holder" "Roll.look_at_holder" aO ["self","number","holder"] f1 fd1) (bG:bN P w K mg base (CXE P w) 2 f1 fd1 ["self","number","holder"] (jo K T C c.number c.yours))
    (aX:Df K mg "look_at_name" bO ["name"] f2 fd2) (gj:bN P w K mg base (CXE P w) 2 f2 fd2 ["name"] (jz T c.holder)):bN P w K mg base (CXE P w) 3 f fd ["self","number","holder","to"] (vX K T C c):=by
  have R:=R_Roll
  refine D.F.okX qO (fun vs H Q E h=>?_) (fun cdv A outer s H vs Q E hr h=>?_)
  · obtain ⟨_,_,_,_,_,_,_,_,_,rfl,_⟩:=h;rfl
  · obtain ⟨A,ex,H0,L,r,S,n,y,z,rfl,⟨us,vs,O,d0,d1⟩,hp,az,q⟩:=h
    have hul:us.length=S.ls.length:=by rw [d0.length,List.length_map]
    have hvl:vs.length=S.ds.length:=by rw [d1.length,List.length_map]
    have hnn:=hp.nn
    have hdl:=hp.dl
    obtain ⟨qN,qY⟩:=After.sy (n:=n) (y:=y) q rfl hnn
    refine ⟨_,(au (bD (eZ (pv 0) R_Roll.c aG.m bG (hr.mono (by decide)) aG.b .nil kj (aj (pv 1) (aj (pv 2) aq))))
      (au (bD (aZ gj (hr.mono (by decide)) rfl aX.m aX.F.kp aX.b .nil kj (aj (pv 3) aq)))
      (au (jO (pv 3) (lG (cC (pv 0) rfl) (pv 1) set_list))
      (aC (bD (kh PySem.F.plainAttrs_list PySem.F.slot_list_append PySem.F.type_list_append cu (cC (pv 0) rfl) (aj (fY (aj aL (aj (pv 1) (aj (pv 2) (aj (pv 3) aq))))) aq))))))),?_⟩
    refine ⟨_,rfl,A.p,A.dx,_,rfl,O.get 0,(by exact hp.ex.hol),_,rfl,_,rfl,A,ex,S.day,us,S.ns,n,y,rfl,O.get 0,O.sq 3,O.sq 4,by omega,hp.ex,O.same.t1,fun h0 h1 hx=>?_,qN,qY⟩
    have hst:step r S (.sell n y z)=_:=jj h0 (by omega) hx
    refine ⟨_,rfl,z,rfl,az,O.same.t1,fun nz H2 s2=>?_,fun nz e H' s' he=>q.2 .holder (hst.trans (if_pos nz)) e H' s' he⟩
    have hst:=hst.trans (if_neg (not_not_intro nz))
    have O:=O.m6 s2
    obtain ⟨k,rfl⟩:=Int.eq_ofNat_of_zero_le h0
    rw [Int.toNat_natCast] at hst
    refine ⟨_,rfl,_,rfl,A.p,C,A.dx,_,.ref A.ln,rfl,O.get 0,R.c,R.nN,rfl,_,rfl,?_⟩
    refine mJ O 4 rfl (jT (by rw [List.length_map];omega)) fun H6 O=>?_
    refine ⟨_,rfl,A.p,C,A.dx,_,.ref A.lo,rfl,O.get 0,R.c,R.nO,rfl,.inl ⟨rfl,_,O.sq 5⟩,_,rfl,_,rfl,_,rfl,szl,fun t2 ht2=>?_⟩
    walk_at "nw"
    refine ⟨A.lo,_,_,rfl,rfl,O.get 6,aR (by omega),?_⟩
    generalize hE:upd _ _ _=Hn
    have O:=Ow.mW O 6 rfl hE rfl
    obtain ⟨Hb,O,sb,e2⟩:=(show Ow T H0 Hn ((t2,.tup [.str "sell",.int (k:Int),.str y,.str z]) :: (RX C A ex r S.day us (S.ns.set k z) (vs++[V.ref t2])++L) ) from by simp only [RX,List.map_set];exact O).frz
    refine q.1 _ hst Hb _ sb ⟨us,vs++[V.ref t2],O,d0.mo sb,?_⟩
    rw [List.map_append]
    exact (d1.mo sb).append (.cons (.tuple (SqT.of e2) (.cons (.str _) (.cons (.int _) (.cons (.str _) (.cons (.str _) .nil))))) .nil)
end
abbrev dZ:Stmt:=inClass (top 40) 8
theorem mF:aQ ["self","number","holder","most","to","one"] ["self","number","holder","most","to"] (ak dZ):=⟨rfl,rfl,rfl,by decide +kernel,rfl,by decide +kernel,by decide +kernel⟩
def sJ (K:PySem.W.Frag) (T:eX) (C:Addr) (c:Ec):Sp:=fun vs H Q E=>∃ (A:Rs) (ex:List (Str × V)) (H0:Hp) (B:List (Addr × HO)) (r:List Int) (S:RS) (n:Int) (y:Str) (m:Int) (z:Str),vs=[.ref A.p,.int n,.str y,.int m,.str z]∧RA K T C A ex r H0 H B S∧RP r ex S∧Asc z∧After K T C c A ex r H0 H B S (.part n y m z) (.int (S.ls.length:Int)) Q E
section
variable {P:Program} {w:World} {K:PySem.W.Frag} {mg:Str→Option Value} {base:Heap} {T:eX} {C:Addr} {c:Ec}
theorem Cw {f f1 f2 f3 f4 f5 f6 f7:Addr} {fd fd1 fd2 fd3 fd4 fd5 fd6 fd7:FuncData} (D:Dm K C "part" "Roll.part" dZ ["self","number","holder","most","to"] f fd) (B:Blt mg) (R_Roll:RC K C) (X_TooMuch:jd K mg "TooMuch" c.much) (X_NotAlone:jd K mg "NotAlone" c.alone)
    (aG:Dm K C "look_at_holder" "Roll.look_at_holder" aO ["self","number","holder"] f1 fd1) (bG:bN P w K mg base (CXE P w) 2 f1 fd1 ["self","number","holder"] (jo K T C c.number c.yours))
    (aX:Df K mg "look_at_name" bO ["name"] f2 fd2) (gj:bN P w K mg base (CXE P w) 2 f2 fd2 ["name"] (jz T c.holder))
    (bR:Df K mg "most_of" fZ ["one"] f3 fd3) (jw:bN P w K mg base CX0 1 f3 fd3 ["one"] (pO K))
    (fO:Dm K C "is_alone" "Roll.is_alone" bQ ["self","number"] f4 fd4) (oK:bN P w K mg base CX0 2 f4 fd4 ["self","number"] (uK K T C))
    (bB:Dm K C "look_at_room" "Roll.look_at_room" bx ["self"] f5 fd5) (gw:bN P w K mg base (CXE P w) 1 f5 fd5 ["self"] (sI K T C c.full))
    (bA:Df K mg "with_most" dG ["one","most"] f6 fd6) (gW:bN P w K mg base CX0 1 f6 fd6 ["one","most"] (BW K))
    (dF:Dm K C "enter" "Roll.enter" dD ["self","one","holder"] f7 fd7) (jY:bN P w K mg base CX0 1 f7 fd7 ["self","one","holder"] (pQ C)) :
    bN P w K mg base (CXE P w) 3 f fd ["self","number","holder","most","to"] (sJ K T C c):=by
  have R:=R_Roll
  refine D.F.okX mF (fun vs H Q E h=>?_) (fun cdv A outer s H vs Q E hr h=>?_)
  · obtain ⟨_,_,_,_,_,_,_,_,_,_,rfl,_⟩:=h;rfl
  · obtain ⟨A,ex,H0,L,r,S,n,y,m,z,rfl,⟨us,vs,O,d0,d1⟩,hp,az,q⟩:=h
    have hul:us.length=S.ls.length:=by rw [d0.length,List.length_map]
    have hvl:vs.length=S.ds.length:=by rw [d1.length,List.length_map]
    have hnn:=hp.nn
    have hdl:=hp.dl
    have hl60:=hp.l60
    obtain ⟨qN,qY⟩:=After.sy (n:=n) (y:=y) q rfl hnn
    refine ⟨_,(au (bD (eZ (pv 0) R_Roll.c aG.m bG (hr.mono (by decide)) aG.b .nil kj (aj (pv 1) (aj (pv 2) aq))))
      (au (bD (aZ gj (hr.mono (by decide)) rfl aX.m aX.F.kp aX.b .nil kj (aj (pv 4) aq)))
      (au (bf (i:=5) mF.nd rfl (Or.inl rfl) (aF aD (cC (pv 0) rfl) (pv 1) (fun _ _=>rfl)))
      (au (bY (iD (jf kE mX ao (pv 3) (aZ jw (hr.mono (by decide)) rfl bR.m bR.F.kp bR.b .nil cM (aj (pv 5) aq))))
        (aC (gQ iC rfl (fun _ _ z=>z) rfl X_TooMuch.m X_TooMuch.q (aj aL aq)))
        aU)
      (au (bY (iD (jN (eZ (pv 0) R_Roll.c fO.m oK (hr.mono (by decide)) fO.b .nil cM (aj (pv 1) aq))))
        (aC (gQ iC rfl (fun _ _ z=>z) rfl X_NotAlone.m X_NotAlone.q (aj aL aq)))
        aU)
      (au (bD (jh (pv 0) R_Roll.c bB.m gw (hr.mono (by decide)) bB.b .nil kj))
      (au (jO (aZ gW (hr.mono (by decide)) rfl bA.m bA.F.kp bA.b .nil cM (aj (pv 5) (aj (aH kI (aZ jw (hr.mono (by decide)) rfl bR.m bR.F.kp bR.b .nil cM (aj (pv 5) aq)) (pv 3)) aq))) (lG (cC (pv 0) rfl) (pv 1) set_list))
      (au (bD (kh PySem.F.plainAttrs_list PySem.F.slot_list_append PySem.F.type_list_append cu (cC (pv 0) rfl) (aj (fY (aj aL (aj (pv 1) (aj (pv 2) (aj (pv 3) (aj (pv 4) aq)))))) aq)))
      (aC (aW (eZ (pv 0) R_Roll.c dF.m jY (hr.mono (by decide)) dF.b .nil cM (aj (aZ gW (hr.mono (by decide)) rfl bA.m bA.F.kp bA.b .nil cM (aj (pv 5) (aj (pv 3) aq))) (aj (pv 4) aq))))))))))))),?_⟩
    refine ⟨_,rfl,A.p,A.dx,_,rfl,O.get 0,(by exact hp.ex.hol),_,rfl,_,rfl,A,ex,S.day,us,S.ns,n,y,rfl,O.get 0,O.sq 3,O.sq 4,by omega,hp.ex,O.same.t1,fun h0 h1 hx=>?_,qN,qY⟩
    have hst:step r S (.part n y m z)=_:=jj h0 (by omega) hx
    refine ⟨_,rfl,z,rfl,az,O.same.t1,fun nz H2 s2=>?_,fun nz e H' s' he=>q.2 .holder (hst.trans (if_pos nz)) e H' s' he⟩
    have hst:=hst.trans (if_neg (not_not_intro nz))
    have O:=O.m6 s2
    obtain ⟨k,rfl⟩:=Int.eq_ofNat_of_zero_le h0
    obtain ⟨l,hl⟩:∃ l,S.ls[k]?=some l:=⟨_,List.getElem?_eq_getElem (by omega)⟩
    obtain ⟨al,hal,hT⟩:=d0.jR hl
    rw [mO rfl hl,Int.toNat_natCast] at hst
    refine ⟨_,rfl,A.p,C,A.dx,_,.ref A.ll,rfl,O.get 0,R.c,R.nL,rfl,_,rfl,A.ll,_,_,_,rfl,rfl,O.sq 3,cX hal,?_⟩
    refine ⟨_,rfl,?_⟩
    have hTm:=hT.mo O.same
    refine ⟨_,_,rfl,rfl,_,rfl,?_⟩
    refine ifD (fun h1=>?_) (fun h1=>?_)
    rotate_left
    · refine ⟨_,rfl,jU ⟨szl,fun e he=>?_⟩⟩
      exact q.2 .much (hst.trans (if_pos fun z=>h1 z.1)) e _ s2 he
    refine ⟨_,rfl,al,l,rfl,hTm,_,_,rfl,rfl,_,rfl,ifN (ifD (fun h2=>?_) (fun h2=>?_))⟩
    rotate_left
    · refine ⟨szl,fun e he=>?_⟩
      exact q.2 .much (hst.trans (if_pos fun z=>h2 z.2)) e _ s2 he
    have hst:=hst.trans (if_neg (not_not_intro ⟨h1,h2⟩))
    refine ⟨_,rfl,A.p,A.dx,_,rfl,O.get 0,(by exact hp.ex.al),_,rfl,A,ex,S.day,us,S.ls,k,l,rfl,O.get 0,O.sq 3,d0.mo O.same,hl,by omega,O.same.t1,fun H3 s3=>?_⟩
    have O:=O.m6 s3
    have hTm:=hT.mo O.same
    refine ⟨_,rfl,ifN (ifD (fun h3=>?_) (fun h3=>?_))⟩
    rotate_left
    · refine ⟨szl,fun e he=>?_⟩
      exact q.2 .alone (hst.trans (if_pos h3)) e _ (s2.trans s3) he
    have hst:=hst.trans (if_neg (not_not_intro h3))
    refine ⟨_,rfl,A.p,A.dx,_,rfl,O.get 0,(by exact hp.ex.room),A,ex,S.day,us,rfl,O.get 0,O.sq 3,O.same.t1,fun h4=>?_,fun h4 e H' s' he=>q.2 .full (hst.trans (if_pos (by omega))) e H' ((s2.trans s3).trans s') he⟩
    have hst:=hst.trans (if_neg (by omega))
    refine ⟨_,rfl,_,rfl,al,l,rfl,hTm,_,rfl,_,_,rfl,rfl,al,l,_,rfl,hTm,fun t1 ht1=>?_⟩
    walk_at "nw"
    refine ⟨_,rfl,A.p,C,A.dx,_,.ref A.ll,rfl,O.get 1,R.c,R.nL,rfl,_,rfl,?_⟩
    refine mJ O 4 rfl (jT (by omega)) fun H6 O=>?_
    refine ⟨_,rfl,A.p,C,A.dx,_,.ref A.lo,rfl,O.get 1,R.c,R.nO,rfl,.inl ⟨rfl,_,O.sq 6⟩,_,rfl,_,rfl,_,rfl,_,rfl,szl,fun t2 ht2=>?_⟩
    walk_at "nw"
    refine ⟨A.lo,_,_,rfl,rfl,O.get 7,aR (by omega),?_⟩
    generalize hE:upd _ _ _=Hn
    have O:=Ow.mW O 7 rfl hE rfl
    clear hE
    refine ⟨_,rfl,A.p,A.dx,_,rfl,O.get 2,(by exact hp.ex.ent),_,rfl,_,rfl,al,l,m,rfl,hT.mo O.same,fun t3 ht3=>?_⟩
    walk_at "nw"
    refine ⟨_,rfl,A,ex,S.day,us.set k (.ref t1),S.ns.map V.str,.ref t3,.str z,rfl,O.get 3,O.get 6,O.get 7,by rw [List.length_set];omega,by rw [List.length_map];omega,O.ne 3 6,O.ne 3 7,O.ne 7 6,?_⟩
    have O:=(O.Oi 6 rfl (o':=.lst (us.set k (.ref t1)++[.ref t3])) rfl).Oi 7 rfl (o':=.lst (S.ns.map V.str++[.str z])) rfl
    rw [List.length_set,hul]
    obtain ⟨Hb,O,sb,e3⟩:=(show Ow T H0 _ ((t3,.tup (mC (wm l m))) :: (t2,.tup [.str "part",.int (k:Int),.str y,.int m,.str z]) :: (t1,.tup (mC (wm l (l.most - m)))) :: (RX C A ex r S.day (us.set k (.ref t1)++[.ref t3]) (S.ns++[z]) (vs++[V.ref t2])++L)) from by simp only [RX,List.map_append,List.map_cons,List.map_nil];exact O).frz
    obtain ⟨Hc,O,sc,e2⟩:=O.frz
    obtain ⟨Hd,O,sd,e1⟩:=O.frz
    have e3:=(sc.trans sd).keep _ _ e3 (fun _ z=>nomatch z)
    have e2:=sd.keep _ _ e2 (fun _ z=>nomatch z)
    have sx:=sb.trans (sc.trans sd)
    refine q.1 _ hst Hd _ sx ⟨us.set k (.ref t1)++[V.ref t3],vs++[V.ref t2],O,?_,?_⟩
    · rw [List.map_append,List.map_set]
      exact ((d0.mo sx).set (Den.lic (l:=wm l (l.most - m)) (SqT.of e1)) k).append (.cons (Den.lic (l:=wm l m) (SqT.of e3)) .nil)
    · rw [List.map_append]
      exact (d1.mo sx).append (.cons (.tuple (SqT.of e2) (.cons (.str _) (.cons (.int _) (.cons (.str _) (.cons (.int _) (.cons (.str _) .nil)))))) .nil)
end
abbrev bV:Stmt:=inClass (top 40) 11
theorem lU:aQ ["self","number","start"] ["self","number","start"] (ak bV):=⟨rfl,rfl,rfl,by decide +kernel,rfl,by decide +kernel,by decide +kernel⟩
def nC:Sp:=fun vs H Q _=>∃ (p n s:V),vs=[p,n,s]∧Q .non H
section
variable {P:Program} {w:World} {K:PySem.W.Frag} {mg:Str→Option Value} {base:Heap} {C:Addr}
theorem rB {f:Addr} {fd:FuncData} (D:Dm K C "look_move" "Roll.look_move" bV ["self","number","start"] f fd):bN P w K mg base CX0 1 f fd ["self","number","start"] nC:=by
  refine D.F.ok lU (fun vs H Q E h=>?_) (fun cdv A outer s H vs Q E hr h=>?_)
  · obtain ⟨_,_,_,rfl,_⟩:=h;rfl
  · obtain ⟨_,_,_,rfl,q⟩:=h
    exact ⟨_,(aC (aW uN)),q⟩
end
abbrev fL:Stmt:=inClass (top 40) 10
theorem mG:aQ ["self","number","holder","start","one"] ["self","number","holder","start"] (ak fL):=⟨rfl,rfl,rfl,by decide +kernel,rfl,by decide +kernel,by decide +kernel⟩
def vZ (K:PySem.W.Frag) (T:eX) (C:Addr) (c:Ec):Sp:=fun vs H Q E=>∃ (A:Rs) (ex:List (Str × V)) (H0:Hp) (B:List (Addr × HO)) (r:List Int) (S:RS) (n:Int) (y:Str) (st:Int),vs=[.ref A.p,.int n,.str y,.int st]∧RA K T C A ex r H0 H B S∧RP r ex S∧After K T C c A ex r H0 H B S (.move n y st) .non Q E
section
variable {P:Program} {w:World} {K:PySem.W.Frag} {mg:Str→Option Value} {base:Heap} {T:eX} {C:Addr} {c:Ec}
theorem Cy {f f1 f2 f3 f4:Addr} {fd fd1 fd2 fd3 fd4:FuncData} (D:Dm K C "move" "Roll.move" fL ["self","number","holder","start"] f fd) (B:Blt mg) (R_Roll:RC K C) (X_NoLicence:jd K mg "NoLicence" c.licence)
    (aG:Dm K C "look_at_holder" "Roll.look_at_holder" aO ["self","number","holder"] f1 fd1) (bG:bN P w K mg base (CXE P w) 2 f1 fd1 ["self","number","holder"] (jo K T C c.number c.yours))
    (gB:Df K mg "with_start" dN ["one","start"] f2 fd2) (rP:bN P w K mg base CX0 1 f2 fd2 ["one","start"] (Dw K))
    (cA:Df K mg "is_licence" dj ["below","one"] f3 fd3) (jW:bN P w K mg base CX0 2 f3 fd3 ["below","one"] (pP K T))
    (eU:Dm K C "look_move" "Roll.look_move" bV ["self","number","start"] f4 fd4) (ni:bN P w K mg base CX0 1 f4 fd4 ["self","number","start"] nC):bN P w K mg base (CXE P w) 3 f fd ["self","number","holder","start"] (vZ K T C c):=by
  have R:=R_Roll
  refine D.F.okX mG (fun vs H Q E h=>?_) (fun cdv A outer s H vs Q E hr h=>?_)
  · obtain ⟨_,_,_,_,_,_,_,_,_,rfl,_⟩:=h;rfl
  · obtain ⟨A,ex,H0,L,r,S,n,y,st,rfl,⟨us,vs,O,d0,d1⟩,hp,q⟩:=h
    have hul:us.length=S.ls.length:=by rw [d0.length,List.length_map]
    have hvl:vs.length=S.ds.length:=by rw [d1.length,List.length_map]
    have hnn:=hp.nn
    have hdl:=hp.dl
    have hr40:=hp.r40
    obtain ⟨qN,qY⟩:=After.sy (n:=n) (y:=y) q rfl hnn
    have sA:=aY.refl O.same.t1
    refine ⟨_,(au (bD (eZ (pv 0) R_Roll.c aG.m bG (hr.mono (by decide)) aG.b .nil kj (aj (pv 1) (aj (pv 2) aq))))
      (au (bf (i:=4) mG.nd rfl (Or.inl rfl) (aZ rP (hr.mono (by decide)) rfl gB.m gB.F.kp gB.b .nil cM (aj (aF aD (cC (pv 0) rfl) (pv 1) (fun _ _=>rfl)) (aj (pv 3) aq))))
      (au (bY (iD (jN (aZ jW (hr.mono (by decide)) rfl cA.m cA.F.kp cA.b .nil cM (aj (cC (pv 0) rfl) (aj (pv 4) aq)))))
        (aC (gQ iC rfl (fun _ _ z=>z) rfl X_NoLicence.m X_NoLicence.q (aj aL aq)))
        aU)
      (au (bD (eZ (pv 0) R_Roll.c eU.m ni (hr.mono (by decide)) eU.b .nil cM (aj (pv 1) (aj (pv 3) aq))))
      (au (jO (pv 4) (lG (cC (pv 0) rfl) (pv 1) set_list))
      (aC (bD (kh PySem.F.plainAttrs_list PySem.F.slot_list_append PySem.F.type_list_append cu (cC (pv 0) rfl) (aj (fY (aj aL (aj (pv 1) (aj (pv 2) (aj (pv 3) aq))))) aq))))))))),?_⟩
    refine ⟨_,rfl,A.p,A.dx,_,rfl,O.get 0,(by exact hp.ex.hol),_,rfl,_,rfl,A,ex,S.day,us,S.ns,n,y,rfl,O.get 0,O.sq 3,O.sq 4,by omega,hp.ex,O.same.t1,fun h0 h1 hx=>?_,qN,qY⟩
    have hst:step r S (.move n y st)=_:=jj h0 (by omega) hx
    obtain ⟨k,rfl⟩:=Int.eq_ofNat_of_zero_le h0
    obtain ⟨l,hl⟩:∃ l,S.ls[k]?=some l:=⟨_,List.getElem?_eq_getElem (by omega)⟩
    obtain ⟨al,hal,hT⟩:=d0.jR hl
    rw [mO rfl hl,Int.toNat_natCast] at hst
    refine ⟨_,rfl,A.p,C,A.dx,_,.ref A.ll,rfl,O.get 0,R.c,R.nL,rfl,_,rfl,A.ll,_,_,_,rfl,rfl,O.sq 3,cX hal,_,rfl,al,l,st,rfl,hT.mo O.same,fun t1 ht1=>?_⟩
    have sA:=sA.upd (o':=.tup (mC (wst l st))) ht1 (.inl ht1)
    have O:=O.mk' ht1 (o:=.tup (mC (wst l st))) rfl
    refine ⟨_,rfl,A.p,C,A.dx,_,.ref A.lb,rfl,O.get 1,R.c,R.nB,rfl,_,rfl,A.lb,t1,r,wst l st,rfl,O.sq 3,hp.rv,by omega,O.sqT 0,O.same.t1,fun b H2 s2 hb2=>?_⟩
    have O:=O.m6 s2
    have sA:=sA.trans s2
    refine ⟨_,rfl,?_⟩
    cases b with
    | false =>
      refine jU ⟨szl,fun e he=>?_⟩
      exact q.2 .licence (hst.trans (if_pos fun h=>nomatch hb2.mpr h)) e _ sA he
    | true =>
      refine qy ?_
      have hst:=hst.trans (if_neg (not_not_intro (hb2.mp rfl)))
      refine ⟨_,rfl,A.p,A.dx,_,rfl,O.get 1,(by exact hp.ex.lmv),_,rfl,_,rfl,_,_,_,rfl,?_⟩
      refine ⟨_,rfl,_,rfl,A.p,C,A.dx,_,.ref A.ll,rfl,O.get 1,R.c,R.nL,rfl,_,rfl,?_⟩
      refine mJ O 4 rfl (jT (by omega)) fun H6 O=>?_
      refine ⟨_,rfl,A.p,C,A.dx,_,.ref A.lo,rfl,O.get 1,R.c,R.nO,rfl,.inl ⟨rfl,_,O.sq 6⟩,_,rfl,_,rfl,_,rfl,szl,fun t2 ht2=>?_⟩
      walk_at "nw"
      refine ⟨A.lo,_,_,rfl,rfl,O.get 7,aR (by omega),?_⟩
      generalize hE:upd _ _ _=Hn
      have O:=Ow.mW O 7 rfl hE rfl
      clear hE
      obtain ⟨Hb,O,sb,e2⟩:=(show Ow T H0 Hn ((t2,.tup [.str "move",.int (k:Int),.str y,.int st]) :: (t1,.tup (mC (wst l st))) :: (RX C A ex r S.day (us.set k (.ref t1)) S.ns (vs++[V.ref t2])++L)) from O).frz
      obtain ⟨Hc,O,sc,e1⟩:=O.frz
      have e2:=sc.keep _ _ e2 (fun _ z=>nomatch z)
      have sx:=sb.trans sc
      refine q.1 _ hst Hc _ sx ⟨us.set k (.ref t1),vs++[V.ref t2],O,?_,?_⟩
      · rw [List.map_set]
        exact (d0.mo sx).set (Den.lic (l:=wst l st) (SqT.of e1)) k
      · rw [List.map_append]
        exact (d1.mo sx).append (.cons (.tuple (SqT.of e2) (.cons (.str _) (.cons (.int _) (.cons (.str _) (.cons (.int _) .nil))))) .nil)
end
abbrev d8:Stmt:=inClass (top 40) 6
theorem jL:aQ ["self","holder","start","most","back","stop","one"] ["self","holder","start","most","back"] (ak d8):=⟨rfl,rfl,rfl,by decide +kernel,rfl,by decide +kernel,by decide +kernel⟩
def sO (K:PySem.W.Frag) (T:eX) (C:Addr) (c:Ec):Sp:=fun vs H Q E=>∃ (A:Rs) (ex:List (Str × V)) (H0:Hp) (B:List (Addr × HO)) (r:List Int) (S:RS) (x:Str) (st m b:Int) (bv:V),vs=[.ref A.p,.str x,.int st,.int m,bv]∧(bv=.non∧b=-1∨bv=.int b)∧RA K T C A ex r H0 H B S∧RP r ex S∧Asc x∧After K T C c A ex r H0 H B S (.file x st m b) (.int (S.ls.length:Int)) Q E
theorem Oa {j:Nat} {σ:St} {H:Hp} {Q:VK} {bv:V} {stop:Int} (hb:bv=.non∧stop=-1∨bv=.int stop) (hj:σ[j]?=some (some bv)) (h:Q (.int stop) H) :
    tIf (N5 (tOp (fun x y H Q=>y=V.non∧Q (V.bl (decide (x=V.non))) H) (Qv j) (tC V.non))) (tC (V.int (-1))) (Qv j) σ H Q:=by
  refine ⟨bv,hj,rfl,_,rfl,?_⟩
  rcases hb with ⟨rfl,rfl⟩ | rfl
  · exact jU h
  · exact qy ⟨_,hj,h⟩
section
variable {P:Program} {w:World} {K:PySem.W.Frag} {mg:Str→Option Value} {base:Heap} {T:eX} {C:Addr} {c:Ec}
theorem CG {f f1 f2 f3 f4:Addr} {fd fd1 fd2 fd3 fd4:FuncData} (D:DmD K C "file" "Roll.file" d8 ["self","holder","start","most","back"] f fd) (B:Blt mg) (CM:Mth mg) (R_Roll:RC K C) (X_NoLicence:jd K mg "NoLicence" c.licence)
    (aX:Df K mg "look_at_name" bO ["name"] f1 fd1) (gj:bN P w K mg base (CXE P w) 2 f1 fd1 ["name"] (jz T c.holder))
    (cA:Df K mg "is_licence" dj ["below","one"] f2 fd2) (jW:bN P w K mg base CX0 2 f2 fd2 ["below","one"] (pP K T))
    (bB:Dm K C "look_at_room" "Roll.look_at_room" bx ["self"] f3 fd3) (gw:bN P w K mg base (CXE P w) 1 f3 fd3 ["self"] (sI K T C c.full))
    (dF:Dm K C "enter" "Roll.enter" dD ["self","one","holder"] f4 fd4) (jY:bN P w K mg base CX0 1 f4 fd4 ["self","one","holder"] (pQ C)) :
    bN P w K mg base (CXE P w) 3 f fd ["self","holder","start","most","back"] (sO K T C c):=by
  obtain ⟨tM,hMOUTH⟩:=CM.MOUTH
  have R:=R_Roll
  refine D.F.okX jL (fun vs H Q E h=>?_) (fun cdv A outer s H vs Q E hr h=>?_)
  · obtain ⟨_,_,_,_,_,_,_,_,_,_,_,rfl,_⟩:=h;rfl
  · obtain ⟨A,ex,H0,L,r,S,x,st,m,b,bv,rfl,hb,⟨us,vs,O,d0,d1⟩,hp,ax,q⟩:=h
    have hul:us.length=S.ls.length:=by rw [d0.length,List.length_map]
    have hvl:vs.length=S.ds.length:=by rw [d1.length,List.length_map]
    have hnn:=hp.nn
    have hdl:=hp.dl
    have hr40:=hp.r40
    have hl60:=hp.l60
    have sA:=aY.refl O.same.t1
    refine ⟨_,(au (bD (aZ gj (hr.mono (by decide)) rfl aX.m aX.F.kp aX.b .nil kj (aj (pv 1) aq)))
      (au (bf (i:=5) jL.nd rfl (Or.inl rfl) (BZ (aJ DP (pv 4) uN (aP _)) (iB (v:=.int (-1)) rfl hMOUTH ⟨_,rfl⟩) (pv 4)))
      (au (bf (i:=6) jL.nd rfl (Or.inl rfl) (fY (aj (cC (pv 0) rfl) (aj (pv 2) (aj (pv 5) (aj (pv 3) aq))))))
      (au (bY (PW.pt (pw_or (aJ fj (pv 3) ao (aP _)) (pw_or1 (iD (jN (aZ jW (hr.mono (by decide)) rfl cA.m cA.F.kp cA.b .nil cM (aj (cC (pv 0) rfl) (aj (pv 6) aq))))))))
        (aC (gQ iC rfl (fun _ _ z=>z) rfl X_NoLicence.m X_NoLicence.q (aj aL aq)))
        aU)
      (au (bD (jh (pv 0) R_Roll.c bB.m gw (hr.mono (by decide)) bB.b .nil kj))
      (au (bD (kh PySem.F.plainAttrs_list PySem.F.slot_list_append PySem.F.type_list_append cu (cC (pv 0) rfl) (aj (fY (aj aL (aj (pv 1) (aj (pv 2) (aj (pv 3) (aj (pv 5) aq)))))) aq)))
      (aC (aW (eZ (pv 0) R_Roll.c dF.m jY (hr.mono (by decide)) dF.b .nil cM (aj (pv 6) (aj (pv 1) aq))))))))))),?_⟩
    refine ⟨_,rfl,x,rfl,ax,O.same.t1,fun nx H1 s1=>?_,fun nx e H' s' he=>q.2 .holder (if_pos nx) e H' s' he⟩
    have hst:step r S (.file x st m b)=_:=if_neg (not_not_intro nx)
    have O:=O.m6 s1
    refine Oa hb rfl ?_
    refine ⟨_,rfl,A.p,C,A.dx,_,.int S.day,rfl,O.get 0,R.c,R.nD,rfl,_,rfl,_,rfl,_,rfl,szl,fun t1 ht1=>?_⟩
    generalize hE:upd _ _ _=Hn
    have s2:aY T H Hn:=hE ▸ s1.upd (s1.free ht1) (.inl ht1)
    replace O:=Ow.mkE O ht1 hE rfl
    clear hE
    refine ⟨_,rfl,rfl,_,rfl,ifI (fun m0=>?_) (fun m0=>?_)⟩
    · exact ⟨szl,fun e he=>q.2 .licence (hst.trans (if_pos (.inl m0))) e _ s2 he⟩
    refine ⟨_,rfl,A.p,C,A.dx,_,.ref A.lb,rfl,O.get 1,R.c,R.nB,rfl,_,rfl,A.lb,t1,r,⟨S.day,st,b,m⟩,rfl,O.sq 3,hp.rv,by omega,O.sqT 0,O.same.t1,fun bb H2 s3 hb2=>?_⟩
    have O:=O.m6 s3
    cases bb with
    | false=>exact ⟨_,rfl,jU ⟨szl,fun e he=>q.2 .licence (hst.trans (if_pos (.inr fun z=>nomatch hb2.mpr z))) e _ (s2.trans s3) he⟩⟩
    | true =>
    refine ⟨_,rfl,qy ?_⟩
    have hl:=hb2.mp rfl
    have hst:=hst.trans (if_neg (show ¬ (m=0∨¬ rO r ⟨S.day,st,b,m⟩) from fun z=>z.elim m0 fun w=>w hl))
    refine ⟨_,rfl,A.p,A.dx,_,rfl,O.get 1,(by exact hp.ex.room),A,ex,S.day,us,rfl,O.get 1,O.sq 4,O.same.t1,fun h4=>?_,fun h4 e H' s' he=>q.2 .full (hst.trans (if_pos (by omega))) e H' ((s2.trans s3).trans s') he⟩
    have hst:=hst.trans (if_neg (by omega))
    refine ⟨_,rfl,A.p,C,A.dx,_,.ref A.lo,rfl,O.get 1,R.c,R.nO,rfl,.inl ⟨rfl,_,O.sq 6⟩,_,rfl,_,rfl,_,rfl,_,rfl,szl,fun t2 ht2=>?_⟩
    walk_at "nw"
    refine ⟨A.lo,_,_,rfl,rfl,O.get 7,aR (by omega),?_⟩
    generalize hE:upd _ _ _=Hn2
    replace O:=Ow.mW O 7 rfl hE rfl
    clear hE
    refine ⟨_,rfl,A.p,A.dx,_,rfl,O.get 2,(by exact hp.ex.ent),_,rfl,_,rfl,A,ex,S.day,us,S.ns.map V.str,.ref t1,.str x,rfl,O.get 2,O.get 5,O.get 6,by omega,by rw [List.length_map];omega,O.ne 2 5,O.ne 2 6,O.ne 6 5,?_⟩
    have O:=(O.Oi 5 rfl (o':=.lst (us++[.ref t1])) rfl).Oi 6 rfl (o':=.lst (S.ns.map V.str++[.str x])) rfl
    rw [hul]
    obtain ⟨Hb,O,sb,e2⟩:=(show Ow T H0 _ ((t2,.tup [.str "file",.str x,.int st,.int m,.int b]) :: (t1,.tup (mC ⟨S.day,st,b,m⟩)) :: (RX C A ex r S.day (us++[.ref t1]) (S.ns++[x]) (vs++[V.ref t2])++L)) from by simp only [RX,List.map_append,List.map_cons,List.map_nil];exact O).frz
    obtain ⟨Hc,O,sc,e1⟩:=O.frz
    have e2:=sc.keep _ _ e2 (fun _ z=>nomatch z)
    have sx:=sb.trans sc
    refine q.1 _ hst Hc _ sx ⟨us++[V.ref t1],vs++[V.ref t2],O,?_,?_⟩
    · rw [List.map_append]
      exact (d0.mo sx).append (.cons (Den.lic (l:=⟨S.day,st,b,m⟩) (SqT.of e1)) .nil)
    · rw [List.map_append]
      exact (d1.mo sx).append (.cons (.tuple (SqT.of e2) (.cons (.str _) (.cons (.str _) (.cons (.int _) (.cons (.int _) (.cons (.int _) .nil)))))) .nil)
end
def xP (ls:List Lic) (xs:List Int) (i:Nat):List Lic:=nW (ls.take i) (xs.take i)++ls.drop i
def fall (ls:List Lic) (xs:List Int):Nat→List (Int × Int × Int)
  | 0=>[]
  | i + 1=>fall ls xs i++(match ls[i]?,xs[i]? with | some l,some x=>if x<l.most then [((i:Int),l.most,x)] else [] | _,_=>[])
theorem uV (ls:List Lic) (xs:List Int):∀ i,(fall ls xs i).length≤i
  | 0=>Nat.le_refl _
  | i + 1=>by
    have:=uV ls xs i
    unfold fall
    rw [List.length_append]
    split
    · split <;> simp <;> omega
    · simp;omega
theorem xJ (ls:List Lic) (xs:List Int):xP ls xs 0=ls:=by unfold xP nW;simp
theorem xM {ls:List Lic} {xs:List Int} (h:ls.length=xs.length):xP ls xs xs.length=nW ls xs:=by unfold xP;rw [← h,List.take_length,h,List.take_length,← h,List.drop_length,List.append_nil]
theorem xO {ls:List Lic} {xs:List Int} {i:Nat} {l:Lic} {x:Int} (hl:ls[i]?=some l) (hx:xs[i]?=some x):(xP ls xs i)[i]?=some l∧xP ls xs (i + 1)=(xP ls xs i).set i (wm l (min l.most x)):=by
  have h1:=(List.getElem?_eq_some_iff.mp hl).1
  have h2:=(List.getElem?_eq_some_iff.mp hx).1
  have hn:(nW (ls.take i) (xs.take i)).length=i:=by unfold nW;rw [List.length_zipWith,List.length_take,List.length_take];omega
  have hd:ls.drop i=l :: ls.drop (i + 1):=by
    rw [List.drop_eq_getElem_cons h1]
    rw [List.getElem?_eq_getElem h1] at hl;cases hl;rfl
  unfold xP
  constructor
  · rw [List.getElem?_append_right (by omega),hn,hd,Nat.sub_self];rfl
  · rw [List.set_append_right _ _ (by omega),hn,hd,Nat.sub_self,Tn.jm hl,Tn.jm hx]
    unfold nW
    rw [List.zipWith_append (by rw [List.length_take,List.length_take];omega)]
    simp
theorem xK {ls:List Lic} {xs:List Int} {i:Nat} {l:Lic} {x:Int} (hl:ls[i]?=some l) (hx:xs[i]?=some x) (h:¬ x<l.most):xP ls xs (i + 1)=xP ls xs i:=by
  obtain ⟨h1,h2⟩:=xO hl hx
  rw [h2,show wm l (min l.most x)=l by unfold wm;rw [Int.min_eq_left (by omega)]]
  obtain ⟨hi,e⟩:=List.getElem?_eq_some_iff.mp h1
  rw [← e];exact List.set_getElem_self hi
abbrev dB:Stmt:=inClass (top 40) 12
theorem gM:aQ ["self","numbers","fallen","number","amount","before"] ["self","numbers"] (ak dB):=⟨rfl,rfl,rfl,by decide +kernel,rfl,by decide +kernel,by decide +kernel⟩
def uG (K:PySem.W.Frag) (T:eX) (C:Addr) (c:Ec):Sp:=fun vs H Q E=>∃ (A:Rs) (ex:List (Str × V)) (H0:Hp) (B:List (Addr × HO)) (r:List Int) (S:RS) (a:Addr) (xs:List Int),vs=[.ref A.p,.ref a]∧RA K T C A ex r H0 H B S∧RP r ex S∧xs.length≤1000∧(∀ (Hb H':Hp) (X:List (Addr × HO)),aY T H0 Hb→Ow T Hb H' (X++B)→SqL K H' a (xs.map V.int)) ∧
  (∀ S',step r S (.lapse xs)=.ok S'→∀ (Hb H':Hp) (fl:Addr) (fs:List V),aY T H0 Hb→RA K T C A ex r Hb H' ((fl,.lst fs) :: B) S'→dM K Hb fs ((fall S.ls xs xs.length).map dMv)→Q (.ref fl) H') ∧
  (∀ k,step r S (.lapse xs)=.error k→∀ (e:Addr) (H':Hp),aY T H H'→H' e=none→E (.ref (c.at_ k)) (some e) H')
section
variable {P:Program} {w:World} {K:PySem.W.Frag} {mg:Str→Option Value} {base:Heap} {T:eX} {C:Addr} {c:Ec}
theorem wX {f f1 f2 f3:Addr} {fd fd1 fd2 fd3:FuncData} (D:Dm K C "lapse" "Roll.lapse" dB ["self","numbers"] f fd) (B:Blt mg) (R:RC K C) (X_NoNumber:jd K mg "NoNumber" c.number) (X_TooMuch:jd K mg "TooMuch" c.much)
    (dH:Df K mg "is_water" fV ["amount"] f1 fd1) (mj:bN P w K mg base CX0 1 f1 fd1 ["amount"] pN)
    (bR:Df K mg "most_of" fZ ["one"] f2 fd2) (jw:bN P w K mg base CX0 1 f2 fd2 ["one"] (pO K))
    (bA:Df K mg "with_most" dG ["one","most"] f3 fd3) (gW:bN P w K mg base CX0 1 f3 fd3 ["one","most"] (BW K)) :
    bN P w K mg base (CXE P w) 2 f fd ["self","numbers"] (uG K T C c):=by
  refine D.F.okX gM (fun vs H Q E h=>?_) (fun cdv A outer s H vs Q E hr h=>?_)
  · obtain ⟨_,_,_,_,_,_,_,_,rfl,_⟩:=h;rfl
  · obtain ⟨A,ex,H0,L,r,S,a,xs,rfl,⟨us,vs,O,d0,d1⟩,hp,hx1,ha0,q,qx⟩:=h
    refine ⟨_,(au (bY (aJ nR (aK aM rfl B.len PySem.boot_len (aj (pv 1) aq)) (aK aM rfl B.len PySem.boot_len (aj (cC (pv 0) rfl) aq)) (aP _))
        (aC (gQ iC rfl (fun _ _ z=>z) rfl X_NoNumber.m X_NoNumber.q (aj aL aq)))
        aU)
      (au (bY (iD (jN (aK (nu rfl) rfl B.all PyProof.Rows.boot_all (aj (lW (ak dB) rfl ["self","numbers","fallen","number","amount","before"] rfl ["amount"] [none] (by decide +kernel) (by decide +kernel) (by decide +kernel) rfl (p8 (pv 1)) (fun _ _ _=>(bL (i:=0) (show (["amount"]:List Str).Nodup by decide +kernel) rfl (Or.inl rfl))) (fun _ _ _=>jM) (fun _ _ _=>(aZ mj (hr.mono (by decide)) rfl dH.m dH.F.kp dH.b .nil cM (aj (pv 0) aq)))) aq))))
        (aC (gQ iC rfl (fun _ _ z=>z) rfl X_TooMuch.m X_TooMuch.q (aj aL aq)))
        aU)
      (au (bf (i:=2) gM.nd rfl (Or.inl rfl) (bK aq))
      (au (pq PassesOwn.leaving rfl (lV rfl B.enumerate (aj (pv 1) aq)) (qX rfl (cL (bL (i:=3) gM.nd rfl (Or.inl rfl)) (cL (bL (i:=4) gM.nd rfl (Or.inl rfl)) jP)))
        (au (bf (i:=5) gM.nd rfl (Or.inl rfl) (aZ jw (hr.mono (by decide)) rfl bR.m bR.F.kp bR.b .nil cM (aj (aF aD (cC (pv 0) rfl) (pv 3) (fun _ _=>rfl)) aq)))
        (aC (bY (aJ mX (pv 4) (pv 5) (aP _))
          (au (jO (aZ gW (hr.mono (by decide)) rfl bA.m bA.F.kp bA.b .nil cM (aj (aF aD (cC (pv 0) rfl) (pv 3) (fun _ _=>rfl)) (aj (pv 4) aq))) (lG (cC (pv 0) rfl) (pv 3) set_list))
          (aC (bD (kh PySem.F.plainAttrs_list PySem.F.slot_list_append PySem.F.type_list_append cu (pv 2) (aj (fY (aj (pv 3) (aj (pv 5) (aj (pv 4) aq)))) aq)))))
          aU))))
      (au (bD (kh PySem.F.plainAttrs_list PySem.F.slot_list_append PySem.F.type_list_append cu (cC (pv 0) rfl) (aj (fY (aj aL (aj (fM qp rfl B.tuple PyProof.Rows.boot_tuple (aj (pv 1) aq)) aq))) aq)))
      (aC (aW (pv 2)))))))),?_⟩
    have hul:us.length=S.ls.length:=by rw [d0.length,List.length_map]
    have hvl:vs.length=S.ds.length:=by rw [d1.length,List.length_map]
    have hdl:=hp.dl
    have hl60:=hp.l60
    have hxm:(xs.map V.int).length=xs.length:=List.length_map _
    have sA:=aY.refl O.same.t1
    have t0:=O.same.t0
    have ha:∀ {Hb H':Hp} (X:List (Addr × HO)),aY T H0 Hb→Ow T Hb H' (X++L)→SqL K H' a (xs.map V.int):=fun X s O=>ha0 _ _ X s O
    have ha1:SqL K H a (xs.map V.int):=ha _ (aY.refl t0) O
    refine ⟨_,rfl,a,_,rfl,.inl ha1,_,rfl,A.p,C,A.dx,_,.ref A.ll,rfl,O.get 0,R.c,R.nL,rfl,A.ll,_,rfl,.inl (O.sq 3),rfl,_,rfl,ifN (ifI (fun hlen=>?_) fun hlen=>?_)⟩
    rotate_left
    · refine ⟨szl,fun e he=>qx .number (if_pos (fun z=>hlen (by rw [hxm,hul,z]))) e H sA he⟩
    have hll:S.ls.length=xs.length:=by rw [hxm] at hlen;omega
    have hst:step r S (.lapse xs)=_:=if_neg (not_not_intro hll.symm)
    refine ⟨_,rfl,a,rfl,⟨_,ha1⟩,fun lw hlw=>?_⟩
    refine oF (K:=K) (xs:=xs.map V.int) (fun i τ H'=>Iv (∃ (v0:Option V) (bs:List Bool),τ=[v0]∧bs.length=i∧(bs.all id=true↔∀ x∈xs.take i,0≤x∧x≤1000000000000)∧Ow T H0 H' ((lw,.lst (bs.map V.bl)) :: (RX C A ex r S.day us S.ns vs++L))∧aY T H H')) ⟨trivial,none,[],rfl,rfl,⟨(fun _ x hx=>nomatch hx),fun _=>rfl⟩,O.mk' hlw rfl,sA.upd hlw (.inl hlw)⟩ (fun i τ H' _ ⟨_,_,_,_,_,_,O,_⟩=>ha (_ :: RX C A ex r S.day us S.ns vs) (aY.refl t0) O) ?_ ?_
    · rintro i y τ H4 hy ⟨-,v0,bs,rfl,hbl,hb,O,sA⟩
      obtain ⟨z,hz,rfl⟩:=ints_get hy
      have hi:=(List.getElem?_eq_some_iff.mp hz).1
      refine Nx ⟨_,rfl,z,rfl,fun b hbz=>?_⟩
      refine ⟨_,O.get 0,aR (by rw [List.length_map];omega),?_⟩
      have hnew:H lw=none:=hlw
      generalize hE:upd _ _ _=Hn
      have sA:aY T H Hn:=hE ▸ sA.upd hnew (.inr ⟨_,O.get 0,rfl⟩)
      replace O:=Ow.mW O 0 rfl hE rfl
      refine ⟨trivial,_,bs++[b],rfl,by rw [List.length_append,hbl];rfl,?_,?_,sA⟩
      · rw [Tn.jm hz,List.all_append,Bool.and_eq_true,hb]
        constructor
        · rintro ⟨z1,z2⟩ y hy
          rcases List.mem_append.mp hy with h | h
          · exact z1 y h
          · rw [List.mem_singleton.mp h];exact hbz.mp (by simpa using z2)
        · intro w
          exact ⟨fun y hy=>w y (List.mem_append_left _ hy),by simpa using hbz.mpr (w z (List.mem_append_right _ (List.mem_singleton.mpr rfl)))⟩
      · rw [List.map_append];exact O
    clear O sA
    rintro τ H4 ⟨-,v0,bs,rfl,hbl,hb,O,sA⟩
    rw [hxm,List.take_length] at hb
    refine ⟨lw,_,rfl,O.sq 0,?_⟩
    cases hba:bs.all id with
    | false =>
      exact ⟨_,rfl,jU ⟨szl,fun e he=>qx .much (hst.trans (if_pos fun z=>by rw [hb.mpr z] at hba;cases hba)) e _ sA he⟩⟩
    | true =>
    have hxs:=hb.mp hba
    have hst:=hst.trans (if_neg (not_not_intro hxs))
    refine ⟨_,rfl,qy ?_⟩
    clear hb hba
    have O:=O.tail
    refine ⟨szl,fun fl hfl=>?_⟩
    walk_at "nw"
    refine ⟨_,rfl,a,_,rfl,ha (_ :: RX C A ex r S.day us S.ns vs) (aY.refl t0) O,?_⟩
    refine uU (K:=K) (xs:=xs.map V.int) (fun i σ H'=>Iv (∃ (Hb:Hp) (us' fs:List V) (v3 v4 v5:Option V),σ=[some (.ref A.p),some (.ref a),some (.ref fl),v3,v4,v5]∧Ow T Hb H' ((fl,.lst fs) :: (RX C A ex r S.day us' S.ns vs++L))∧aY T H0 Hb∧dM K Hb us' ((xP S.ls xs i).map mZ)∧dM K Hb fs ((fall S.ls xs i).map dMv)))
      ⟨trivial,H0,us,[],none,none,none,rfl,O,aY.refl t0,by rw [xJ];exact d0,.nil⟩ (fun i σ H' _ ⟨_,Hb,us',_,_,_,_,_,O,s,_⟩=>ha (_ :: RX C A ex r S.day us' S.ns vs) s O) ?_ ?_
    · rintro i y T0 σ H5 hy ⟨-,Hb,us',fs,v3,v4,v5,rfl,O,s0,d0,d2⟩ hT0
      obtain ⟨x,hx,rfl⟩:=ints_get hy
      have hi:=(List.getElem?_eq_some_iff.mp hx).1
      obtain ⟨l,hl⟩:∃ l,S.ls[i]?=some l:=⟨_,List.getElem?_eq_getElem (by omega)⟩
      obtain ⟨e1,e2⟩:=xO hl hx
      obtain ⟨al,hal,hT⟩:=d0.jR e1
      have hil:i<us'.length:=(List.getElem?_eq_some_iff.mp hal).1
      have hfl2:fs.length≤i:=by have:=uV S.ls xs i;rw [d2.length,List.length_map];exact this
      walk_at "nw"
      refine ⟨T0,_,rfl,O.sqT 0,rfl,_,_,rfl,_,_,rfl,rfl,?_⟩
      have O:=O.tail
      refine ⟨_,rfl,A.p,C,A.dx,_,.ref A.ll,rfl,O.get 1,R.c,R.nL,rfl,_,rfl,A.ll,_,_,_,rfl,rfl,O.sq 4,cX hal,al,_,rfl,hT.mo O.same,?_⟩
      refine ⟨_,rfl,_,rfl,_,_,rfl,rfl,_,rfl,?_⟩
      refine ifD (fun hlt=>?_) (fun hge=>?_)
      · refine ⟨_,rfl,A.p,C,A.dx,_,.ref A.ll,rfl,O.get 1,R.c,R.nL,rfl,_,rfl,A.ll,_,_,_,rfl,rfl,O.sq 4,cX hal,_,rfl,al,l,x,rfl,hT.mo O.same,fun t ht=>?_⟩
        walk_at "nw"
        refine ⟨_,rfl,A.p,C,A.dx,_,.ref A.ll,rfl,O.get 2,R.c,R.nL,rfl,_,rfl,?_⟩
        refine mJ O 5 rfl (jT hil) fun H6 O=>?_
        have O:Ow T Hb H6 ((t,.tup (mC (wm l x))) :: (fl,.lst fs) :: (RX C A ex r S.day (us'.set i (.ref t)) S.ns vs++L)):=O
        refine ⟨_,rfl,.inl ⟨rfl,_,O.sq 1⟩,_,rfl,_,rfl,_,rfl,szl,fun t2 ht2=>?_⟩
        walk_at "nw"
        refine ⟨fl,_,_,rfl,rfl,O.get 2,aR (by omega),?_⟩
        walk_at "pt"
        have O:Ow T Hb _ ((t2,.tup [.int (i:Int),.int l.most,.int x]) :: (t,.tup (mC (wm l x))) :: (fl,.lst (fs++[.ref t2])) :: (RX C A ex r S.day (us'.set i (.ref t)) S.ns vs++L)):=O
        obtain ⟨Hn2,O,sn,en⟩:=O.frz
        obtain ⟨Hn3,O,sn3,en2⟩:=O.frz
        have en:=sn3.keep _ _ en (fun _ z=>nomatch z)
        have sn:=sn.trans sn3
        refine ⟨trivial,Hn3,us'.set i (.ref t),fs++[V.ref t2],_,_,_,rfl,O,s0.trans sn,?_,?_⟩
        · rw [e2,show wm l (min l.most x)=wm l x by rw [Int.min_eq_right (by omega)],List.map_set]
          exact (d0.mo sn).set (Den.lic (l:=wm l x) (SqT.of en2)) i
        · unfold fall
          rw [hl,hx]
          simp only [if_pos hlt]
          rw [List.map_append]
          exact (d2.mo sn).append (.cons (Den.tup (ns:=[(i:Int),l.most,x]) (SqT.of en)) .nil)
      · refine ⟨trivial,Hb,us',fs,_,_,_,rfl,O,s0,by rw [xK hl hx hge];exact d0,?_⟩
        unfold fall
        rw [hl,hx]
        simp only [if_neg hge,List.append_nil]
        exact d2
    clear O d0
    rintro σ H5 ⟨-,Hb,us',fs,v3,v4,v5,rfl,O,s0,d0,d2⟩
    rw [hxm,xM hll] at d0
    rw [hxm] at d2
    refine ⟨_,rfl,A.p,C,A.dx,_,.ref A.lo,rfl,O.get 1,R.c,R.nO,rfl,.inl ⟨rfl,_,O.sq 6⟩,_,rfl,a,_,rfl,.inl ⟨ha (_ :: RX C A ex r S.day us' S.ns vs) s0 O,fun tt htt=>?_⟩⟩
    walk_at "nw"
    refine ⟨szl,fun t ht=>?_⟩
    walk_at "nw"
    refine ⟨A.lo,_,_,rfl,rfl,O.get 8,aR (by omega),?_⟩
    generalize hE:upd _ _ _=Hn
    have O:=Ow.mW O 8 rfl hE rfl
    obtain ⟨Hc,O,sc,e1⟩:=(show Ow T Hb Hn ((t,.tup [.str "lapse",.ref tt]) :: (tt,.tup (xs.map V.int)) :: (fl,.lst fs) :: (RX C A ex r S.day us' S.ns (vs++[V.ref t])++L)) from O).frz
    obtain ⟨Hd,O,sd,e2⟩:=O.frz
    have e1:=sd.keep _ _ e1 (fun _ z=>nomatch z)
    have sc:=sc.trans sd
    refine ⟨_,rfl,q _ hst Hd _ fl fs (s0.trans sc) ⟨us',vs++[V.ref t],O.mid,d0.mo sc,?_⟩ (d2.mo sc)⟩
    rw [List.map_append]
    exact ((d1.mo s0).mo sc).append (.cons (Den.W5 e1 (.str _) (.tuple (SqT.of e2) (dM.ints xs))) .nil)
end
theorem RA.drop {K:PySem.W.Frag} {T:eX} {C:Addr} {A:Rs} {ex:List (Str × V)} {r:List Int} {H0 H:Hp} {x:Addr × HO} {B:List (Addr × HO)} {S:RS} (h:RA K T C A ex r H0 H (x :: B) S):RA K T C A ex r H0 H B S:=by
  obtain ⟨us,vs,O,d0,d1⟩:=h
  exact ⟨us,vs,O.sub (List.Sublist.append_left (List.sublist_cons_self _ _) _),d0,d1⟩
def oN:lO→Prop
  | .file x _ _ _=>Asc x
  | .sell _ y z=>Asc y∧Asc z
  | .part _ y _ z=>Asc y∧Asc z
  | .drop _ y=>Asc y
  | .move _ y _=>Asc y
  | .lapse xs=>xs.length≤1000
  | .turn=>True
theorem ifS {x y:Str} {A B:Prop} (h1:x=y→A) (h2:¬ x=y→B):if decide (V.str x=V.str y)=true then A else B:=ifD (fun h=>h1 (V.str.inj h)) (fun h=>h2 fun z=>h (by rw [z]))
theorem jl {x y:Str} {A B:Prop} (h:(x == y)=false) (b:B):if decide (V.str x=V.str y)=true then A else B:=ifS (fun z=>by rw [z,beq_self_eq_true] at h;cases h) fun _=>b
section
variable {K:PySem.W.Frag} {T:eX} {C:Addr} {c:Ec}
theorem After.any {A:Rs} {ex:List (Str × V)} {r:List Int} {H0 H:Hp} {B:List (Addr × HO)} {S:RS} {d:lO} {v v':V} {Q Q':VK} {E:XK} (h:After K T C c A ex r H0 H B S d v Q E) (f:∀ H',Q v H'→Q' v' H'):After K T C c A ex r H0 H B S d v' Q' E :=
  ⟨fun S' e Hb H' s a=>f H' (h.1 S' e Hb H' s a),h.2⟩
end
theorem Sh.str (n:Nat) {x:Str} (h:Asc x):Sh n (.str x):=by
  refine ⟨?_,by simp [PyData.depth]⟩
  rw [PyData.canLay0]
  show x.cps.all (·<0x110000)=true
  rw [Array.all_eq_true]
  intro i hi
  have:=of_decide_eq_true (Array.all_eq_true.mp h.1 i hi)
  exact decide_eq_true (by omega)
theorem Sh.strs (n:Nat) {xs:List Str} (h:∀ x∈xs,Asc x):Sh (n + 1) (.list (xs.map PyData.str)):=.list fun d hd=>by
  obtain ⟨i,hi,rfl⟩:=List.mem_map.mp hd
  exact Sh.str n (h i hi)
theorem jD:∀ x∈(["turn","file","sell","part","drop","move","lapse"]:List Str),Asc x:=fun x hx=>by
  simp only [List.mem_cons,List.not_mem_nil,or_false] at hx
  rcases hx with rfl | rfl | rfl | rfl | rfl | rfl | rfl <;> exact ⟨by decide +kernel,by decide +kernel⟩
theorem Sh.deed {d:lO} (h:oN d):Sh 2 (tU d):=by
  cases d with
  | turn =>
    exact .tuple fun e he=>by
      simp only [List.mem_cons,List.not_mem_nil,or_false] at he
      subst he;exact Sh.str _ (jD _ (by simp))
  | file x s m b =>
    exact .tuple fun e he=>by
      simp only [List.mem_cons,List.not_mem_nil,or_false] at he
      rcases he with rfl | rfl | rfl | rfl | rfl
      · exact Sh.str _ (jD _ (by simp))
      · exact Sh.str _ h
      · exact Sh.int _ _
      · exact Sh.int _ _
      · exact Sh.int _ _
  | sell n y z =>
    exact .tuple fun e he=>by
      simp only [List.mem_cons,List.not_mem_nil,or_false] at he
      rcases he with rfl | rfl | rfl | rfl
      · exact Sh.str _ (jD _ (by simp))
      · exact Sh.int _ _
      · exact Sh.str _ h.1
      · exact Sh.str _ h.2
  | part n y m z =>
    exact .tuple fun e he=>by
      simp only [List.mem_cons,List.not_mem_nil,or_false] at he
      rcases he with rfl | rfl | rfl | rfl | rfl
      · exact Sh.str _ (jD _ (by simp))
      · exact Sh.int _ _
      · exact Sh.str _ h.1
      · exact Sh.int _ _
      · exact Sh.str _ h.2
  | drop n y =>
    exact .tuple fun e he=>by
      simp only [List.mem_cons,List.not_mem_nil,or_false] at he
      rcases he with rfl | rfl | rfl
      · exact Sh.str _ (jD _ (by simp))
      · exact Sh.int _ _
      · exact Sh.str _ h
  | move n y s =>
    exact .tuple fun e he=>by
      simp only [List.mem_cons,List.not_mem_nil,or_false] at he
      rcases he with rfl | rfl | rfl | rfl
      · exact Sh.str _ (jD _ (by simp))
      · exact Sh.int _ _
      · exact Sh.str _ h
      · exact Sh.int _ _
  | lapse xs =>
    exact .tuple fun e he=>by
      simp only [List.mem_cons,List.not_mem_nil,or_false] at he
      rcases he with rfl | rfl
      · exact Sh.str _ (jD _ (by simp))
      · exact .tuple fun e he=>by
          obtain ⟨i,_,rfl⟩:=List.mem_map.mp he
          exact Sh.int _ _
theorem Sh.W4 {ds:List lO} (h:∀ d∈ds,oN d):Sh 3 (.list (ds.map tU)):=.list fun e he=>by
  obtain ⟨d,hd,rfl⟩:=List.mem_map.mp he
  exact Sh.deed (h d hd)
abbrev cj:Stmt:=inClass (top 40) 0
theorem mV:aQ ["self","below"] ["self","below"] (ak cj):=⟨rfl,rfl,rfl,by decide +kernel,rfl,by decide +kernel,by decide +kernel⟩
def wj (K:PySem.W.Frag) (T:eX) (C:Addr) (c:Ec):Sp:=fun vs H Q E=>∃ (p dx lv:Addr) (H0:Hp) (B:List (Addr × HO)) (r:List Int),vs=[.ref p,.ref lv]∧Ow T H0 H ((p,.ins C dx []) :: (dx,.own p) :: B)∧SqL K H lv (r.map V.int)∧r.length≤900 ∧
  (Rv.isR r=true→∀ (A:Rs) (H':Hp),A.p=p→Ow T H0 H' (RX C A [] r 0 [] [] []++B)→Q .non H')∧(Rv.isR r=false→∀ (e:Addr) (H':Hp),aY T H H'→H' e=none→E (.ref c.jA) (some e) H')
section
variable {P:Program} {w:World} {K:PySem.W.Frag} {mg:Str→Option Value} {base:Heap} {T:eX} {C:Addr} {c:Ec}
theorem Cz {f f1:Addr} {fd fd1:FuncData} (D:Dm K C "__init__" "Roll.__init__" cj ["self","below"] f fd) (B:Blt mg) (R:RC K C) (X_NoRiver:jd K mg "NoRiver" c.jA)
    (iQ:Df K mg "is_river" eV ["below"] f1 fd1) (vK:bN P w K mg base CX0 2 f1 fd1 ["below"] (Dz K)) :
    bN P w K mg base (CXE P w) 3 f fd ["self","below"] (wj K T C c):=by
  refine D.F.okX mV (fun vs H Q E h=>?_) (fun cdv A outer s H vs Q E hr h=>?_)
  · obtain ⟨_,_,_,_,_,_,rfl,_⟩:=h;rfl
  · obtain ⟨p,dx,lv,H0,L,r,rfl,O,hv,r9,q,qx⟩:=h
    refine ⟨_,(au (bY (iD (jN (aZ vK (hr.mono (by decide)) rfl iQ.m iQ.F.kp iQ.b .nil cM (aj (pv 1) aq))))
        (aC (gQ iC rfl (fun _ _ z=>z) rfl X_NoRiver.m X_NoRiver.q (aj aL aq)))
        aU)
      (au (qU (pv 0) (fM gA rfl B.list PyProof.Rows.boot_list (aj (pv 1) aq)) rfl)
      (au (qU (pv 0) ao rfl)
      (au (qU (pv 0) (bK aq) rfl)
      (au (qU (pv 0) (bK aq) rfl)
      (aC (qU (pv 0) (bK aq) rfl))))))),?_⟩
    refine ⟨_,rfl,lv,r,rfl,hv,by omega,fun H1 s1=>?_⟩
    have s1:=aY.of O.same.t1 s1
    cases hR:Rv.isR r with
    | false=>exact ⟨_,rfl,jU ⟨szl,fun e he=>qx hR e _ s1 he⟩⟩
    | true =>
    refine ⟨_,rfl,qy ?_⟩
    have hv:=s1.seq hv
    have O:=O.m6 s1
    refine ⟨_,rfl,lv,_,rfl,.inl hv,fun lb hlb=>?_⟩
    walk_at "nw"
    refine ⟨_,rfl,p,C,dx,_,rfl,O.get 1,R.c,R.nB,(by show 0<1000;decide),?_⟩
    walk_at "pt"
    refine ⟨_,rfl,p,C,dx,_,rfl,O.get 1,R.c,R.nD,(by show 1<1000;decide),?_⟩
    walk_at "pt"
    refine ⟨szl,fun ll hll=>?_⟩
    walk_at "nw"
    refine ⟨_,rfl,p,C,dx,_,rfl,O.get 2,R.c,R.nL,(by show 2<1000;decide),?_⟩
    walk_at "pt"
    refine ⟨szl,fun ln hln=>?_⟩
    walk_at "nw"
    refine ⟨_,rfl,p,C,dx,_,rfl,O.get 3,R.c,R.nN,(by show 3<1000;decide),?_⟩
    walk_at "pt"
    refine ⟨szl,fun lo hlo=>?_⟩
    walk_at "nw"
    refine ⟨_,rfl,p,C,dx,_,rfl,O.get 4,R.c,R.nO,(by show 4<1000;decide),?_⟩
    walk_at "pt"
    have O:=((((O.pull 1 rfl).pull 2 rfl).pull 3 rfl).pull 5 rfl).pull 5 rfl
    exact q hR ⟨p,dx,lb,ll,ln,lo⟩ _ rfl O
end
abbrev fW:Stmt:=top 46
theorem nJ:aQ ["below","reach","found"] ["below","reach"] (ak fW):=⟨rfl,rfl,rfl,by decide +kernel,rfl,by decide +kernel,by decide +kernel⟩
theorem Oq {f:Addr} {fd:FuncData} (D:Df K mg "_law_way" fW ["below","reach"] f fd):bN P w K mg base CX0 1 f fd ["below","reach"] (qG K):=by
  refine D.F.ok nJ (fun vs H Q E h=>?_) (fun cdv A outer s H vs Q E hr h=>?_)
  · obtain ⟨a,r,p,rfl,_⟩:=h;rfl
  · obtain ⟨a,r,p,rfl,hS,hR,p0,p1,hn,q⟩:=h
    refine ⟨_,(au (bf (i:=2) nJ.nd rfl (Or.inl rfl) (bK (aj (pv 1) aq)))
      (au (uM PassesOwn.never (aJ nR (aF aD (pv 0) (aF aD (pv 2) (kY iU ao) (fun _ _=>rfl)) (fun _ _=>rfl)) (kY iU ao) (aP _))
        (aC (bD (kh PySem.F.plainAttrs_list PySem.F.slot_list_append PySem.F.type_list_append cu (pv 2) (aj (aF aD (pv 0) (aF aD (pv 2) (kY iU ao) (fun _ _=>rfl)) (fun _ _=>rfl)) aq)))))
      (aC (aW (pv 2))))),?_⟩
    refine ⟨_,rfl,(by show 1≤sizeLine;decide),fun lw hlw=>?_⟩
    refine ⟨fun m σ H'=>∃ (pre:List Int) (z:Int),σ=[some (.ref a),some (.int p),some (.ref lw)]∧Same H H'∧H' lw=some (.lst ((pre++[z]).map V.int))∧0≤z∧z<r.length∧pre++Rv.walk r z=Rv.walk r p∧m=Rv.mea r z,
      ⟨_,[],p,rfl,(Same.refl H).upd hlw,cG,p0,p1,rfl,rfl⟩,?_⟩
    rintro m σ H2 ⟨pre,z,rfl,s2,h2,z0,z1,e,rfl⟩
    have g:=Rv.jV z0 z1
    have hlen:pre.length + (Rv.walk r z).length≤r.length + 1:=by
      have:=Rv.ur r p
      rw [← e,List.length_append] at this;exact this
    refine ⟨_,rfl,_,rfl,_,rfl,lw,_,_,_,rfl,rfl,SqL.of h2,qu pre z,a,_,_,_,rfl,rfl,s2.seq hS,j6 z0 g,1,rfl,rfl,_,rfl,?_⟩
    rcases hR.step z0 z1 with hm | ⟨n0,n1⟩
    · rw [hm]
      refine Ru rfl ?_
      refine ⟨_,rfl,q lw H2 _ s2 hlw h2 ?_⟩
      have ew:Rv.walk r z=[z]:=by rw [Rv.iT hR z0 z1,hm,Rv.pK]
      rw [← e,ew]
    · have hd:(!decide (V.int (Rv.nxt r z)=V.int (-1)))=true:=by
        have:¬ Rv.nxt r z=-1:=by omega
        simp [this]
      rw [hd]
      refine jU ?_
      refine ⟨fun σ' H'=>∃ m',m'<Rv.mea r z∧∃ (pre:List Int) (z:Int),σ'=[some (.ref a),some (.int p),some (.ref lw)]∧Same H H'∧H' lw=some (.lst ((pre++[z]).map V.int))∧0≤z∧z<r.length∧pre++Rv.walk r z=Rv.walk r p∧m'=Rv.mea r z,fun _ _ x=>x,?_⟩
      refine ⟨_,rfl,.inl ⟨rfl,_,SqL.of h2⟩,_,rfl,_,rfl,_,rfl,lw,_,_,_,rfl,rfl,SqL.of h2,qu pre z,a,_,_,_,rfl,rfl,s2.seq hS,j6 z0 g,lw,_,_,rfl,rfl,h2,aR ?_,?_⟩
      · rw [List.length_map,List.length_append]
        have:1≤(Rv.walk r z).length:=by rw [Rv.iT hR z0 z1];exact Nat.succ_le_succ (Nat.zero_le _)
        show pre.length + 1≤_
        omega
      · refine ⟨_,Rv.DQ hR z0 z1,pre++[z],Rv.nxt r z,rfl,s2.upd hlw,?_,n0,n1,?_,rfl⟩
        · rw [cG,List.map_append (l₁:=pre++[z])];rfl
        · rw [List.append_assoc]
          show pre++(z :: Rv.walk r (Rv.nxt r z))=_
          rw [← Rv.iT hR z0 z1];exact e
abbrev fD:Stmt:=top 43
theorem mD:aQ ["cell","place","spot"] ["cell","place"] (ak fD):=⟨rfl,rfl,rfl,by decide +kernel,rfl,by decide +kernel,by decide +kernel⟩
def dv (c k:Int):Int:=(c % 999983 + 400009 + 7001 * k) * (c % 999983 + 400009 + 7001 * k) * (c % 999983 + 400009 + 7001 * k) * (2 * k + 3) % 1000000007
theorem V3 (c k:Int):0≤dv c k:=Int.emod_nonneg _ (by decide)
theorem W3 (c k:Int):dv c k<1000000007:=Int.emod_lt_of_pos _ (by decide)
def QJ:Sp:=fun vs H Q _=>∃ (c k:Int),vs=[.int c,.int k]∧0≤k∧k≤1000∧Q (.int (dv c k)) H
theorem WD {f:Addr} {fd:FuncData} (D:Df K mg "_law_draw" fD ["cell","place"] f fd):bN P w K mg base CX0 1 f fd ["cell","place"] QJ:=by
  refine D.F.ok mD (fun vs H Q E h=>?_) (fun cdv A outer s H vs Q E hr h=>?_)
  · obtain ⟨c,k,rfl,_⟩:=h;rfl
  · obtain ⟨c,k,rfl,h0,h1,q⟩:=h
    have a0:=Int.emod_nonneg c (show (999983:Int)≠0 by decide)
    have a1:=Int.emod_lt_of_pos c (show (0:Int)<999983 by decide)
    refine ⟨_,(au (bf (i:=2) mD.nd rfl (Or.inl rfl) (aH cD (aH cD (aH bF (pv 0) ao) ao) (aH mK ao (pv 1))))
      (aC (aW (aH bF (aH mK (aH mK (aH mK (pv 2) (pv 2)) (pv 2)) (aH cD (aH mK ao (pv 1)) ao)) ao)))),?_⟩
    refine ⟨_,rfl,_,_,rfl,rfl,(by show (0:Int)<999983;decide),_,_,rfl,rfl,_,rfl,_,_,rfl,rfl,.inl ⟨by decide,by decide⟩,_,_,rfl,rfl,?_⟩
    exact ⟨_,rfl,_,rfl,_,_,rfl,rfl,.inl ⟨by omega,by omega⟩,_,rfl,_,_,rfl,rfl,.inr ⟨by omega,by omega⟩,_,rfl,_,_,rfl,rfl,.inl ⟨by decide,by decide⟩,_,_,rfl,rfl,_,_,rfl,rfl,.inr ⟨by omega,by omega⟩,_,_,rfl,rfl,(by show (0:Int)<1000000007;decide),q⟩
abbrev cQ:Stmt:=top 44
theorem pW:aQ ["cell","many"] ["cell","many"] (ak cQ):=⟨rfl,rfl,rfl,by decide +kernel,rfl,by decide +kernel,by decide +kernel⟩
def dvs (c:Int) (n:Nat):List Int:=(List.range n).map fun (i:Nat)=>dv c (i:Int)
theorem Dk (c:Int) (n:Nat):dvs c (n + 1)=dvs c n++[dv c (n:Int)]:=by
  unfold dvs;rw [List.range_succ,List.map_append];rfl
theorem lY (c:Int) (n:Nat):(dvs c n).length=n:=by unfold dvs;simp
theorem rF {c:Int} {n k:Nat} (h:k<n):(dvs c n)[k]?=some (dv c (k:Int)):=by
  unfold dvs;rw [List.getElem?_map,List.getElem?_range h];rfl
def wk (T:eX):Sp:=fun vs H Q _=>∃ (c:Int) (n:Nat),vs=[.int c,.int (n:Int)]∧n≤100∧TabsOk T H∧vJ T H (fun xs=>xs=(dvs c n).map V.int) Q
theorem Rh {f f1:Addr} {fd fd1:FuncData} (D:Df K mg "_law_draws" cQ ["cell","many"] f fd) (B:Blt mg)
    (gY:Df K mg "_law_draw" fD ["cell","place"] f1 fd1) (uf:bN P w K mg base CX0 1 f1 fd1 ["cell","place"] QJ):bN P w K mg base CX0 2 f fd ["cell","many"] (wk T):=by
  refine D.F.ok pW (fun vs H Q E h=>?_) (fun cdv A outer s H vs Q E hr h=>?_)
  · obtain ⟨c,n,rfl,_⟩:=h;rfl
  · obtain ⟨c,n,rfl,h1,tk,q⟩:=h
    refine ⟨_,(aC (aW (lW (ak cQ) rfl ["cell","many"] rfl ["place","cell"] [none,some 0] (by decide +kernel) (by decide +kernel) (by decide +kernel) rfl (jq rfl B.range (aj (pv 1) aq)) (fun _ _ _=>(bL (i:=0) (show (["place","cell"]:List Str).Nodup by decide +kernel) rfl (Or.inl rfl))) (fun _ _ _=>jM) (fun _ _ _=>(aZ uf (hr.mono (by decide)) rfl gY.m gY.F.kp gY.b .nil cM (aj (pv 1) (aj (pv 0) aq))))))),?_⟩
    have O:=Ow.refl tk
    refine ⟨_,rfl,n,rfl,by omega,by omega,fun lw hlw=>?_⟩
    refine j7 (fun i τ H'=>Iv (∃ (v0:Option V),τ=[v0,some (.int c)]∧Ow T H H' [(lw,.lst ((dvs c i).map V.int))])) ⟨trivial,none,rfl,O.mk' hlw rfl⟩ ?_ ?_
    · rintro i τ H4 hi ⟨-,v0,rfl,O⟩
      refine Nx ⟨_,rfl,_,rfl,c,_,rfl,by omega,by omega,?_⟩
      refine ⟨_,O.get 0,aR (by rw [List.length_map,lY];omega),?_⟩
      walk_at "pt"
      refine ⟨trivial,_,rfl,?_⟩
      rw [Dk,List.map_append,← Int.zero_add (i:Int)];exact O
    rintro τ H4 ⟨-,v0,rfl,O⟩
    rw [show ((n:Int)).toNat=n by omega] at O
    exact O.ret 0 rfl q rfl
abbrev cO:Stmt:=top 45
theorem fU:aQ ["cell","xs","many","spots","below","k"] ["cell"] (ak cO):=⟨rfl,rfl,rfl,by decide +kernel,rfl,by decide +kernel,by decide +kernel⟩
def uE (T:eX):Sp:=fun vs H Q _=>∃ (c:Int),vs=[.int c]∧TabsOk T H∧vJ T H (fun xs=>∃ r,xs=r.map V.int∧Rv.lN r∧1≤r.length∧r.length≤12) Q
theorem QV {n:Nat} {w:Int} (h0:0≤w) (h1:w<2):∃ s:Int,atI [V.int 1,V.int ((n:Int) - 1)] w=some (V.int s)∧s=(if w=0 then 1 else (n:Int) - 1):=by
  rcases (by omega:w=0∨w=1) with e | e <;> subst e <;> exact ⟨_,rfl,rfl⟩
theorem Ci {f f1:Addr} {fd fd1:FuncData} (D:Df K mg "_law_river" cO ["cell"] f fd) (B:Blt mg)
    (bI:Df K mg "_law_draws" cQ ["cell","many"] f1 fd1) (ji:bN P w K mg base CX0 2 f1 fd1 ["cell","many"] (wk T)):bN P w K mg base CX0 3 f fd ["cell"] (uE T):=by
  refine D.F.ok fU (fun vs H Q E h=>?_) (fun cdv A outer s H vs Q E hr h=>?_)
  · obtain ⟨_,rfl,_⟩:=h;rfl
  · obtain ⟨c,rfl,tk,q⟩:=h
    refine ⟨_,(au (bf (i:=1) fU.nd rfl (Or.inr rfl) (aZ ji (hr.mono (by decide)) rfl bI.m bI.F.kp bI.b .nil cM (aj (aH cW (pv 0) ao) (aj ao aq))))
      (au (bf (i:=2) fU.nd rfl (Or.inr rfl) (aH cD ao (aH bF (pv 0) ao)))
      (au (iM (i:=3) (ak cO) rfl ["cell","xs","many","spots","below","k"] rfl ["k","many","xs"] [none,some 2,some 1] (by decide +kernel) (by decide +kernel) (by decide +kernel) rfl fU.nd rfl rfl (jq rfl B.range (aj (pv 2) aq)) (fun _ _ _=>(bL (i:=0) (show (["k","many","xs"]:List Str).Nodup by decide +kernel) rfl (Or.inl rfl))) (fun _ _ _=>jM) (fun _ _ _=>(aH bF (aH cD (aF (lJ (K:=K) rfl) (pv 2) ao (fun _ _=>rfl)) (aH mK (pv 0) (aF (lJ (K:=K) rfl) (bK (aj ao (aj (aH kI (pv 1) ao) aq))) (aH bF (aF (lJ (K:=K) rfl) (pv 2) ao (fun _ _=>rfl)) ao) (fun _ _=>rfl)))) (pv 1))) rfl)
      (au (iM (i:=4) (ak cO) rfl ["cell","xs","many","spots","below","k"] rfl ["k"] [none] (by decide +kernel) (by decide +kernel) (by decide +kernel) rfl fU.nd rfl rfl (jq rfl B.range (aj (pv 2) aq)) (fun _ _ _=>(bL (i:=0) (show (["k"]:List Str).Nodup by decide +kernel) rfl (Or.inl rfl))) (fun _ _ _=>jM) (fun _ _ _=>(kY iU ao)) rfl)
      (au (pq PassesOwn.never rfl (wN rfl B.range (aj ao (aj (pv 2) aq))) (bL (i:=5) fU.nd rfl (Or.inl rfl))
        (aC (bY (aJ nR (aH bF (aF aD (pv 1) (pv 5) (fun _ _=>rfl)) ao) ao (aP _))
          (aC (jO (aF aD (pv 3) (aH bF (aH cW (aF aD (pv 1) (pv 5) (fun _ _=>rfl)) ao) (pv 5)) (fun _ _=>rfl)) (lG (pv 4) (aF aD (pv 3) (pv 5) (fun _ _=>rfl)) set_list)))
          aU)))
      (aC (aW (pv 4)))))))),?_⟩
    have O:=Ow.refl tk
    have c0:=Int.emod_nonneg c (show (12:Int)≠0 by decide)
    have c1:=Int.emod_lt_of_pos c (show (0:Int)<12 by decide)
    refine ⟨_,rfl,_,_,rfl,rfl,⟨by decide,by decide⟩,_,14,rfl,by omega,tk,O.V0 fun lx H2 xs O e=>?_⟩
    subst e
    refine ⟨_,rfl,_,_,rfl,rfl,(by show (0:Int)<12;decide),_,_,rfl,rfl,?_⟩
    dsimp only
    obtain ⟨n,hn⟩:∃ n:Nat,1 + c % 12=(n:Int):=⟨(1 + c % 12).toNat,by omega⟩
    rw [hn]
    have n1:1≤n:=by omega
    have n12:n≤12:=by omega
    have hx14:=lY (c / 12) 14
    have g12:(dvs (c / 12) 14)[12]?=some (dv (c / 12) 12):=rF (by decide)
    have g13:(dvs (c / 12) 14)[13]?=some (dv (c / 12) 13):=rF (by decide)
    have gk:∀ k:Nat,k<14→(dvs (c / 12) 14)[k]?=some (dv (c / 12) (k:Int)):=fun k hk=>rF hk
    generalize dvs (c / 12) 14=ys at O hx14 g12 g13 gk
    have w0:=Int.emod_nonneg (dv (c / 12) 13) (show (2:Int)≠0 by decide)
    have w1:=Int.emod_lt_of_pos (dv (c / 12) 13) (show (0:Int)<2 by decide)
    obtain ⟨st,hst,est⟩:=QV (n:=n) w0 w1
    have hst2:st=1∨st=(n:Int) - 1:=by rw [est];split <;> simp
    have nn:(0:Int)<(n:Int):=by omega
    generalize dv (c / 12) 12=x1 at g12
    generalize dv (c / 12) 13=x2 at g13 hst w0 w1
    refine ⟨_,rfl,n,rfl,by omega,by omega,fun acc hacc=>?_⟩
    refine j7 (fun i τ H'=>Iv (∃ (v0:Option V),τ=[v0,some (.int (n:Int)),some (.ref lx)]∧Ow T H H' [(acc,.lst ((Rv.spots n x1 st i).map V.int)),(lx,.lst (ys.map V.int))])) ⟨trivial,none,rfl,O.mk' hacc rfl⟩ ?_ ?_
    · rintro i τ H3 hi ⟨-,v0,rfl,O⟩
      have hi:i<n:=by omega
      rw [show (0:Int) + (i:Int)=(i:Int) by omega]
      refine Nx ?_
      refine ⟨_,rfl,lx,_,12,_,rfl,rfl,O.sq 1,aN (i:=12) g12,_,rfl,_,rfl,_,_,rfl,rfl,szl,fun l3 h3=>?_⟩
      walk_at "nw"
      refine ⟨_,rfl,lx,_,13,_,rfl,rfl,O.sq 2,aN (i:=13) g13,_,_,rfl,rfl,(by show (0:Int)<2;decide),l3,_,_,_,rfl,rfl,O.sq 0,hst,_,_,rfl,rfl,.inl ⟨by omega,by omega⟩,_,_,rfl,rfl,_,rfl,_,_,rfl,rfl,nn,?_⟩
      have O:=O.tail
      refine ⟨_,O.get 0,aR (by rw [List.length_map,Rv.vU];omega),?_⟩
      walk_at "pt"
      refine ⟨trivial,_,rfl,?_⟩
      rw [Rv.vm,List.map_append]
      rw [Int.mul_comm (i:Int) st] at O
      exact O
    rintro τ H3 ⟨-,v0,rfl,O⟩
    rw [Int.toNat_natCast] at O
    refine ⟨_,rfl,n,rfl,by omega,by omega,fun lb hlb=>?_⟩
    refine j7 (fun i τ H'=>Iv (∃ (v0:Option V),τ=[v0]∧Ow T H H' [(lb,.lst ((List.replicate i (-1:Int)).map V.int)),(acc,.lst ((Rv.spots n x1 st n).map V.int)),(lx,.lst (ys.map V.int))])) ⟨trivial,none,rfl,O.mk' hlb rfl⟩ ?_ ?_
    · rintro i τ H3 hi ⟨-,v0,rfl,O⟩
      refine Nx ?_
      refine ⟨1,rfl,_,O.get 0,aR (by rw [List.length_map,List.length_replicate];omega),?_⟩
      walk_at "pt"
      refine ⟨trivial,_,rfl,?_⟩
      rw [List.replicate_succ',List.map_append];exact O
    rintro τ H4 ⟨-,v0,rfl,O⟩
    rw [Int.toNat_natCast] at O
    refine ⟨_,rfl,1,(n:Int),rfl,⟨by omega,by omega,by omega,by omega⟩,?_⟩
    rw [show ((n:Int) - 1).toNat=n - 1 by omega]
    refine ou (n:=n - 1) (fun i σ H'=>Iv (∃ (v5:Option V) (b:List Int),σ=[some (.int c),some (.ref lx),some (.int (n:Int)),some (.ref acc),some (.ref lb),v5]∧Rv.Lnk n (Rv.spot n x1 st) (i + 1) b ∧
      Ow T H H' [(lb,.lst (b.map V.int)),(acc,.lst ((Rv.spots n x1 st n).map V.int)),(lx,.lst (ys.map V.int))])) ⟨trivial,none,_,rfl,Rv.Lnk.start _ _,O⟩ ?_ ?_
    · rintro i σ H3 hi ⟨-,v5,b,rfl,L,O⟩
      rw [show (1:Int) + (i:Int)=((i + 1:Nat):Int) by omega]
      have gz:=gk (i + 1) (by omega)
      generalize dv (c / 12) ((i + 1:Nat):Int)=z at gz
      refine ⟨_,rfl,_,rfl,lx,_,_,_,rfl,rfl,O.sq 2,aN gz,_,_,rfl,rfl,(by show (0:Int)<9;decide),rfl,_,rfl,ifN (ifI (fun hc=>?_) fun hc=>?_)⟩
      · exact ⟨trivial,_,b,rfl,L.skip,O⟩
      · have m0:=Int.emod_nonneg (z / 9) (show ((i + 1:Nat):Int)≠0 by omega)
        have m1:=Int.emod_lt_of_pos (z / 9) (show (0:Int)<((i + 1:Nat):Int) by omega)
        obtain ⟨j,hj⟩:∃ j:Nat,z / 9 % ((i + 1:Nat):Int)=(j:Int):=⟨(z / 9 % ((i + 1:Nat):Int)).toNat,by omega⟩
        have hjk:j<i + 1:=by omega
        refine ⟨_,rfl,_,rfl,_,rfl,lx,_,_,_,rfl,rfl,O.sq 2,aN gz,_,_,rfl,rfl,⟨by decide,by decide⟩,_,rfl,_,_,rfl,rfl,(by show (0:Int)<((i + 1:Nat):Int);omega),?_⟩
        dsimp only
        rw [hj]
        refine ⟨acc,_,_,_,rfl,rfl,O.sq 1,aN (Rv.uy (by omega)),?_⟩
        have s0:=Rv.vV (x:=x1) (s:=st) nn (i + 1)
        have s1:=Rv.vW (x:=x1) (s:=st) nn (i + 1)
        refine ⟨_,rfl,_,rfl,_,rfl,acc,_,_,_,rfl,rfl,O.sq 1,aN (Rv.uy (by omega)),lb,_,_,_,rfl,rfl,O.get 0,WM s0 (by rw [List.length_map,L.len];exact s1),?_⟩
        walk_at "pt"
        refine ⟨trivial,_,_,rfl,L.turn (by omega) hjk s0,?_⟩
        rw [List.map_set];exact O
    · rintro σ H3 ⟨-,v5,b,rfl,L,O⟩
      refine ⟨_,rfl,O.ret 0 rfl q ⟨b,rfl,L.jA (Rv.vV nn) (Rv.vW nn) (fun j k hj hk h=>Rv.BR nn hst2 (by omega) (by omega) h) n1,by rw [L.len];exact n1,by rw [L.len];exact n12⟩⟩
def DW:EK→Nat
  | .number=>0 | .yours=>1 | .holder=>2 | .licence=>3 | .much=>4 | .alone=>5 | .full=>6 | .jA=>7
def mU:EK→Str
  | .number=>"number" | .yours=>"yours" | .holder=>"holder" | .licence=>"licence" | .much=>"much" | .alone=>"alone" | .full=>"full" | .jA=>"other"
structure Bp (K:PySem.W.Frag) (c:Ec) (cl:List Addr) (cS:Addr):Prop where
  m:∀ k,k≠EK.jA→PySem.W.exmOne K (.ref (c.at_ k)) (.ref cS)=some true
  kt:∀ k,k≠EK.jA→∀ j a,cl[j]?=some a→PySem.W.kitOne K (.ref (c.at_ k)) (.ref a)=some (decide (j=DW k))
  kv:∀ k,k≠EK.jA→PySem.W.kitOne K (.ref (c.at_ k)) (.type "ValueError")=some true
  x:∀ k,k≠EK.jA→Nv K (c.at_ k)
def oA (k:EK) (n:Nat):List V:=(List.range n).map fun j=>V.bl (decide (j=DW k))
abbrev dw:Stmt:=top 47
theorem dX:aQ ["e","flags","words","found"] ["e"] (ak dw):=⟨rfl,rfl,rfl,by decide +kernel,rfl,by decide +kernel,by decide +kernel⟩
def uz (K:PySem.W.Frag) (T:eX) (c:Ec):Sp:=fun vs H Q _=>∃ (e:Addr) (k:EK),vs=[.ref e]∧k≠.jA∧H e=some (.ext (XAt e (c.at_ k)))∧TabsOk T H∧vJ T H (fun xs=>xs=[.str (mU k)]) Q
section
variable {P:Program} {w:World} {K:PySem.W.Frag} {mg:Str→Option Value} {base:Heap} {T:eX} {c:Ec} {cS b0 b1 b2 b3 b4 b5 b6 b7 b8 b9 b10 b11 b12 b13 b14 b15:Addr}
theorem Ce {f:Addr} {fd:FuncData} (D:Df K mg "_law_words" dw ["e"] f fd) (B:Blt mg) (TT:Bp K c [b0,b1,b2,b3,b4,b5,b6,b7,b8,b9,b10,b11,b12,b13,b14,b15] cS)
    (X_NoNumber:jd K mg "NoNumber" b0) (X_NotYours:jd K mg "NotYours" b1) (X_NoHolder:jd K mg "NoHolder" b2) (X_NoLicence:jd K mg "NoLicence" b3) (X_TooMuch:jd K mg "TooMuch" b4) (X_NotAlone:jd K mg "NotAlone" b5) (X_Full:jd K mg "Full" b6) (X_NoRiver:jd K mg "NoRiver" b7)
    (X_NoReach:jd K mg "NoReach" b8) (X_NoPaper:jd K mg "NoPaper" b9) (X_NoCut:jd K mg "NoCut" b10) (X_NoPond:jd K mg "NoPond" b11) (X_NoDay:jd K mg "NoDay" b12) (X_Fixed:jd K mg "Fixed" b13) (X_Harms:jd K mg "Harms" b14) (X_NoRow:jd K mg "NoRow" b15):bN P w K mg base CX0 1 f fd ["e"] (uz K T c):=by
  refine D.F.ok dX (fun vs H Q E h=>?_) (fun cdv A outer s H vs Q E hr h=>?_)
  · obtain ⟨_,_,rfl,_⟩:=h;rfl
  · obtain ⟨e,k,rfl,hk,hX,tk,q⟩:=h
    have hD:=TT.x k hk
    have kt:=TT.kt k hk
    have O:=Ow.refl tk
    have hXs:∀ {H'},aY T H H'→H' e=some (.ext (XAt e (c.at_ k))):=fun s=>s.keep _ _ hX (fun _ z=>nomatch z)
    change ∃ t,PSs _ (_ :: _) t∧_
    generalize hc0:Expr.Constant (Const.str "number") 0 ⟨223,13,223,21⟩=a0
    have hA0:∀ X:Cx,PE X a0 (tC (.str "number")):=fun X=>by rw [← hc0];exact aL
    have hN0:∀ (es:List Expr) (env:Env),starEach (a0 :: es) env=(false,eval a0 env) :: starEach es env:=fun es env=>by rw [← hc0];rfl
    generalize hc1:Expr.Constant (Const.str "yours") 0 ⟨223,23,223,30⟩=a1
    have hA1:∀ X:Cx,PE X a1 (tC (.str "yours")):=fun X=>by rw [← hc1];exact aL
    have hN1:∀ (es:List Expr) (env:Env),starEach (a1 :: es) env=(false,eval a1 env) :: starEach es env:=fun es env=>by rw [← hc1];rfl
    generalize hc2:Expr.Constant (Const.str "holder") 0 ⟨223,32,223,40⟩=a2
    have hA2:∀ X:Cx,PE X a2 (tC (.str "holder")):=fun X=>by rw [← hc2];exact aL
    have hN2:∀ (es:List Expr) (env:Env),starEach (a2 :: es) env=(false,eval a2 env) :: starEach es env:=fun es env=>by rw [← hc2];rfl
    generalize hc3:Expr.Constant (Const.str "licence") 0 ⟨223,42,223,51⟩=a3
    have hA3:∀ X:Cx,PE X a3 (tC (.str "licence")):=fun X=>by rw [← hc3];exact aL
    have hN3:∀ (es:List Expr) (env:Env),starEach (a3 :: es) env=(false,eval a3 env) :: starEach es env:=fun es env=>by rw [← hc3];rfl
    generalize hc4:Expr.Constant (Const.str "much") 0 ⟨223,53,223,59⟩=a4
    have hA4:∀ X:Cx,PE X a4 (tC (.str "much")):=fun X=>by rw [← hc4];exact aL
    have hN4:∀ (es:List Expr) (env:Env),starEach (a4 :: es) env=(false,eval a4 env) :: starEach es env:=fun es env=>by rw [← hc4];rfl
    generalize hc5:Expr.Constant (Const.str "alone") 0 ⟨223,61,223,68⟩=a5
    have hA5:∀ X:Cx,PE X a5 (tC (.str "alone")):=fun X=>by rw [← hc5];exact aL
    have hN5:∀ (es:List Expr) (env:Env),starEach (a5 :: es) env=(false,eval a5 env) :: starEach es env:=fun es env=>by rw [← hc5];rfl
    generalize hc6:Expr.Constant (Const.str "full") 0 ⟨223,70,223,76⟩=a6
    have hA6:∀ X:Cx,PE X a6 (tC (.str "full")):=fun X=>by rw [← hc6];exact aL
    have hN6:∀ (es:List Expr) (env:Env),starEach (a6 :: es) env=(false,eval a6 env) :: starEach es env:=fun es env=>by rw [← hc6];rfl
    refine ⟨_,(au (bf (i:=1) dX.nd rfl (Or.inl rfl) (bK (aj (aK bw rfl B.isinstance PyProof.Rows.boot_isinstance (aj (pv 0) (aj (iG rfl X_NoNumber.m) aq))) (aj (aK bw rfl B.isinstance PyProof.Rows.boot_isinstance (aj (pv 0) (aj (iG rfl X_NotYours.m) aq))) (aj (aK bw rfl B.isinstance PyProof.Rows.boot_isinstance (aj (pv 0) (aj (iG rfl X_NoHolder.m) aq))) (aj (aK bw rfl B.isinstance PyProof.Rows.boot_isinstance (aj (pv 0) (aj (iG rfl X_NoLicence.m) aq))) aq))))))
      (au (bf (i:=1) dX.nd rfl (Or.inl rfl) (aH rA (pv 1) (bK (aj (aK bw rfl B.isinstance PyProof.Rows.boot_isinstance (aj (pv 0) (aj (iG rfl X_TooMuch.m) aq))) (aj (aK bw rfl B.isinstance PyProof.Rows.boot_isinstance (aj (pv 0) (aj (iG rfl X_NotAlone.m) aq))) (aj (aK bw rfl B.isinstance PyProof.Rows.boot_isinstance (aj (pv 0) (aj (iG rfl X_Full.m) aq))) (aj (aK bw rfl B.isinstance PyProof.Rows.boot_isinstance (aj (pv 0) (aj (iG rfl X_NoRiver.m) aq))) aq)))))))
      (au (bf (i:=1) dX.nd rfl (Or.inl rfl) (aH rA (pv 1) (bK (aj (aK bw rfl B.isinstance PyProof.Rows.boot_isinstance (aj (pv 0) (aj (iG rfl X_NoReach.m) aq))) (aj (aK bw rfl B.isinstance PyProof.Rows.boot_isinstance (aj (pv 0) (aj (iG rfl X_NoPaper.m) aq))) (aj (aK bw rfl B.isinstance PyProof.Rows.boot_isinstance (aj (pv 0) (aj (iG rfl X_NoCut.m) aq))) (aj (aK bw rfl B.isinstance PyProof.Rows.boot_isinstance (aj (pv 0) (aj (iG rfl X_NoPond.m) aq))) aq)))))))
      (au (bf (i:=1) dX.nd rfl (Or.inl rfl) (aH rA (pv 1) (bK (aj (aK bw rfl B.isinstance PyProof.Rows.boot_isinstance (aj (pv 0) (aj (iG rfl X_NoDay.m) aq))) (aj (aK bw rfl B.isinstance PyProof.Rows.boot_isinstance (aj (pv 0) (aj (iG rfl X_Fixed.m) aq))) (aj (aK bw rfl B.isinstance PyProof.Rows.boot_isinstance (aj (pv 0) (aj (iG rfl X_Harms.m) aq))) (aj (aK bw rfl B.isinstance PyProof.Rows.boot_isinstance (aj (pv 0) (aj (iG rfl X_NoRow.m) aq))) aq)))))))
      (au (bf (i:=2) dX.nd rfl (Or.inr rfl) (bK (aj (hA0 _) (aj (hA1 _) (aj (hA2 _) (aj (hA3 _) (aj (hA4 _) (aj (hA5 _) (aj (hA6 _) aq (hN6 _ _)) (hN5 _ _)) (hN4 _ _)) (hN3 _ _)) (hN2 _ _)) (hN1 _ _)) (hN0 _ _))))
      (au (iM (i:=3) (ak dw) rfl ["e","flags","words","found"] rfl ["k","flag","words"] [none,none,some 2] (by decide +kernel) (by decide +kernel) (by decide +kernel) rfl dX.nd rfl rfl (lV rfl B.enumerate (aj (pv 1) aq)) (fun _ _ _=>(qb (K:=K) (n:=2) rfl rfl (cL (bL (i:=0) (show (["k","flag","words"]:List Str).Nodup by decide +kernel) rfl (Or.inl rfl)) (cL (bL (i:=1) (show (["k","flag","words"]:List Str).Nodup by decide +kernel) rfl (Or.inl rfl)) jP)))) (fun _ _ _=>(p7 (jN (pv 1)))) (fun _ _ _=>(aF (lJ (K:=K) rfl) (aH rA (pv 2) (bK (aj aL aq))) (aK (Bm rfl) rfl B.min PyProof.Rows.boot_min (aj (pv 0) (aj ao aq))) (fun _ _=>rfl))) rfl)
      (aC (aW (aF aD (bK (aj (pv 3) (aj (bK (aj aL aq)) aq))) (fM lM rfl B.int PyProof.Rows.boot_int (aj (Q0 (aK bw rfl B.isinstance PyProof.Rows.boot_isinstance (aj (pv 0) (aj (Ol (v:=.ty "ValueError") rfl B.ValueError Qo rfl) aq)))) aq)) (fun _ _=>rfl)))))))))),?_⟩
    refine ⟨_,rfl,e,_,_,_,_,rfl,hX,hD,.inr ⟨_,rfl,rfl⟩,kt 0 _ rfl,_,rfl,e,_,_,_,_,rfl,hX,hD,.inr ⟨_,rfl,rfl⟩,kt 1 _ rfl,_,rfl,e,_,_,_,_,rfl,hX,hD,.inr ⟨_,rfl,rfl⟩,kt 2 _ rfl,_,rfl,e,_,_,_,_,rfl,hX,hD,.inr ⟨_,rfl,rfl⟩,kt 3 _ rfl,szl,fun l1 h1=>?_⟩
    walk_at "nw"
    refine ⟨_,rfl,_,rfl,e,_,_,_,_,rfl,(hXs O.same),hD,.inr ⟨_,rfl,rfl⟩,kt 4 _ rfl,_,rfl,e,_,_,_,_,rfl,(hXs O.same),hD,.inr ⟨_,rfl,rfl⟩,kt 5 _ rfl,_,rfl,e,_,_,_,_,rfl,(hXs O.same),hD,.inr ⟨_,rfl,rfl⟩,kt 6 _ rfl,_,rfl,e,_,_,_,_,rfl,(hXs O.same),hD,.inr ⟨_,rfl,rfl⟩,kt 7 _ rfl,szl,fun l2 h2=>?_⟩
    walk_at "nw"
    refine ⟨l1,l2,_,_,rfl,rfl,O.get 1,O.get 0,j4 (by simp),fun l3 h3=>?_⟩
    walk_at "nw"
    have O:=O.two.two
    refine ⟨_,rfl,_,rfl,e,_,_,_,_,rfl,(hXs O.same),hD,.inr ⟨_,rfl,rfl⟩,kt 8 _ rfl,_,rfl,e,_,_,_,_,rfl,(hXs O.same),hD,.inr ⟨_,rfl,rfl⟩,kt 9 _ rfl,_,rfl,e,_,_,_,_,rfl,(hXs O.same),hD,.inr ⟨_,rfl,rfl⟩,kt 10 _ rfl,_,rfl,e,_,_,_,_,rfl,(hXs O.same),hD,.inr ⟨_,rfl,rfl⟩,kt 11 _ rfl,szl,fun l4 h4=>?_⟩
    walk_at "nw"
    refine ⟨l3,l4,_,_,rfl,rfl,O.get 1,O.get 0,j4 (by simp),fun l5 h5=>?_⟩
    walk_at "nw"
    have O:=O.two.two
    refine ⟨_,rfl,_,rfl,e,_,_,_,_,rfl,(hXs O.same),hD,.inr ⟨_,rfl,rfl⟩,kt 12 _ rfl,_,rfl,e,_,_,_,_,rfl,(hXs O.same),hD,.inr ⟨_,rfl,rfl⟩,kt 13 _ rfl,_,rfl,e,_,_,_,_,rfl,(hXs O.same),hD,.inr ⟨_,rfl,rfl⟩,kt 14 _ rfl,_,rfl,e,_,_,_,_,rfl,(hXs O.same),hD,.inr ⟨_,rfl,rfl⟩,kt 15 _ rfl,szl,fun l6 h6=>?_⟩
    walk_at "nw"
    refine ⟨l5,l6,_,_,rfl,rfl,O.get 1,O.get 0,j4 (by simp),fun lg hg=>?_⟩
    walk_at "nw"
    have O:=O.two.two
    have O:Ow T H _ [(lg,.lst (oA k 16))]:=O
    refine ⟨szl,fun lw hw=>?_⟩
    walk_at "nw"
    refine ⟨_,rfl,lg,_,rfl,O.sq 1,fun lf hlf=>?_⟩
    refine iV (K:=K) (xs:=oA k 16) (fun i τ H'=>Iv (∃ (v0 v1:Option V),τ=[v0,v1,some (.ref lw)]∧Ow T H H' [(lf,.lst (if DW k<i then [V.str (mU k)] else [])),(lw,.lst [V.str "number",V.str "yours",V.str "holder",V.str "licence",V.str "much",V.str "alone",V.str "full"]),(lg,.lst (oA k 16))]))
      ⟨trivial,none,none,rfl,O.mk' hlf rfl⟩ (fun i τ H' _ ⟨_,_,_,_,O⟩=>O.sq 2) ?_ ?_
    · clear O
      rintro i y T0 τ H5 hy ⟨-,v0,v1,rfl,O⟩ hT0
      have hi:=(List.getElem?_eq_some_iff.mp hy).1
      have hi16:i<16:=by unfold oA at hi;simpa using hi
      have ey:y=V.bl (decide (i=DW k)):=by
        unfold oA at hy
        rw [List.getElem?_map,List.getElem?_range hi16] at hy
        exact (Option.some.inj hy).symm
      subst ey
      walk_at "nw"
      refine ⟨T0,_,rfl,O.sqT 0,rfl,_,_,rfl,_,_,rfl,rfl,?_⟩
      have O:=O.tail
      refine ⟨_,rfl,_,rfl,ifD (fun he=>?_) (fun he=>?_)⟩
      · rw [if_neg (by omega)] at O
        refine ⟨_,rfl,szl,fun lo ho=>?_⟩
        walk_at "nw"
        refine ⟨lw,lo,_,_,rfl,rfl,O.get 2,O.get 0,j4 (by simp),fun lc hc=>?_⟩
        walk_at "nw"
        have h7:DW k<7:=by cases k <;> first | decide | exact absurd rfl hk
        have hat:atI [V.str "number",V.str "yours",V.str "holder",V.str "licence",V.str "much",V.str "alone",V.str "full",V.str "other"] (i:Int)=some (V.str (mU k)):=by
          rw [he];cases k <;> first | rfl | exact absurd rfl hk
        refine ⟨_,rfl,_,_,rfl,?_⟩
        dsimp only
        rw [if_neg (by omega)]
        refine ⟨lc,_,_,_,rfl,rfl,O.sq 0,hat,?_⟩
        refine ⟨_,O.get 2,aR (by simp),?_⟩
        have O:=O.tail.tail
        walk_at "pt"
        refine ⟨trivial,_,_,rfl,?_⟩
        rw [if_pos (by omega)];exact O
      · refine ⟨trivial,_,_,rfl,?_⟩
        by_cases hlt:DW k<i
        · rw [if_pos hlt] at O;rw [if_pos (by omega)];exact O
        · rw [if_neg hlt] at O;rw [if_neg (by omega)];exact O
    clear O
    rintro τ H5 ⟨-,v0,v1,rfl,O⟩
    have hfl:DW k<(oA k 16).length:=by unfold oA;cases k <;> simp [DW]
    rw [if_pos hfl] at O
    refine ⟨_,rfl,szl,fun lo ho=>?_⟩
    walk_at "nw"
    refine ⟨szl,fun lp hp=>?_⟩
    walk_at "nw"
    refine ⟨_,rfl,e,_,_,_,_,rfl,hXs O.same,hD,.inl ⟨_,rfl,rfl⟩,TT.kv k hk,?_⟩
    refine ⟨_,rfl,.inr ⟨_,rfl,lp,_,0,_,rfl,rfl,O.sq 0,rfl,?_⟩⟩
    exact O.ret 2 rfl q rfl
end
def Bv (K:PySem.W.Frag) (H:Hp) (t:Addr):lO→Prop
  | .turn=>False
  | .file x s m b=>SqT K H t [.str "file",.str x,.int s,.int m,.int b]
  | .sell n y z=>SqT K H t [.str "sell",.int n,.str y,.str z]
  | .part n y m z=>SqT K H t [.str "part",.int n,.str y,.int m,.str z]
  | .drop n y=>SqT K H t [.str "drop",.int n,.str y]
  | .move n y s=>SqT K H t [.str "move",.int n,.str y,.int s]
  | .lapse xs=>∃ a,SqT K H t [.str "lapse",.ref a]∧SqL K H a (xs.map V.int)
theorem Bv.mo {K:PySem.W.Frag} {T:eX} {H H':Hp} {t:Addr} {d:lO} (h:Bv K H t d) (s:aY T H H'):Bv K H' t d:=by
  cases d with
  | turn=>exact h.elim
  | lapse xs=>obtain ⟨a,h1,h2⟩:=h;exact ⟨a,s.Od h1,s.seq h2⟩
  | _=>exact s.Od h
def Xa:lO→Prop
  | .file x _ _ _=>Asc x
  | .sell _ _ z=>Asc z
  | .part _ _ _ z=>Asc z
  | .lapse xs=>xs.length≤1000
  | _=>True
abbrev iu:Stmt:=top 48
theorem vq:aQ ["one","deed"] ["one","deed"] (ak iu):=⟨rfl,rfl,rfl,by decide +kernel,rfl,by decide +kernel,by decide +kernel⟩
def QK (K:PySem.W.Frag) (T:eX) (C:Addr) (c:Ec):Sp:=fun vs H Q E=>∃ (A:Rs) (ex:List (Str × V)) (H0:Hp) (B:List (Addr × HO)) (r:List Int) (S:RS) (t:Addr) (d:lO),vs=[.ref A.p,.ref t]∧RA K T C A ex r H0 H B S∧RP r ex S∧Bv K H0 t d∧Xa d∧After K T C c A ex r H0 H B S d .non Q E
section
variable {P:Program} {w:World} {K:PySem.W.Frag} {mg:Str→Option Value} {base:Heap} {T:eX} {C:Addr} {c:Ec}
theorem WK {f f2 f3 f4 f5 f6 f7:Addr} {fd fd2 fd3 fd4 fd5 fd6 fd7:FuncData} (D:Df K mg "_law_do" iu ["one","deed"] f fd) (R_Roll:RC K C)
    (eN:DmD K C "file" "Roll.file" d8 ["self","holder","start","most","back"] f2 fd2) (lB:bN P w K mg base (CXE P w) 3 f2 fd2 ["self","holder","start","most","back"] (sO K T C c))
    (iY:Dm K C "sell" "Roll.sell" fJ ["self","number","holder","to"] f3 fd3) (um:bN P w K mg base (CXE P w) 3 f3 fd3 ["self","number","holder","to"] (vX K T C c))
    (eG:Dm K C "part" "Roll.part" dZ ["self","number","holder","most","to"] f4 fd4) (lA:bN P w K mg base (CXE P w) 3 f4 fd4 ["self","number","holder","most","to"] (sJ K T C c))
    (eO:Dm K C "drop" "Roll.drop" d9 ["self","number","holder"] f5 fd5) (lC:bN P w K mg base (CXE P w) 3 f5 fd5 ["self","number","holder"] (sS K T C c))
    (jc:Dm K C "move" "Roll.move" fL ["self","number","holder","start"] f6 fd6) (uq:bN P w K mg base (CXE P w) 3 f6 fd6 ["self","number","holder","start"] (vZ K T C c))
    (iy:Dm K C "lapse" "Roll.lapse" dB ["self","numbers"] f7 fd7) (su:bN P w K mg base (CXE P w) 2 f7 fd7 ["self","numbers"] (uG K T C c)) :
    bN P w K mg base (CXE P w) 4 f fd ["one","deed"] (QK K T C c):=by
  refine D.F.okX vq (fun vs H Q E h=>?_) (fun cdv A outer s H vs Q E hr h=>?_)
  · obtain ⟨_,_,_,_,_,_,_,_,rfl,_⟩:=h;rfl
  · obtain ⟨A,ex,H0,L,r,S,t,d,rfl,ra,hp,d0A,hok,q⟩:=h
    have hA:H A.p=some (DR C A ex S.day):=by obtain ⟨us,vs,O,_⟩:=ra;exact O.get 0
    have sH:aY T H0 H:=by obtain ⟨us,vs,O,_⟩:=ra;exact O.same
    have dA:=d0A.mo sH
    refine ⟨_,(aC (bY (aJ fj (aF aV (pv 1) ao (fun _ _=>rfl)) aL (aP _))
        (aC (bD (eZ (pv 0) R_Roll.c eN.m lB (hr.mono (by decide)) eN.b0 .nil kj (aj (aF aV (pv 1) ao (fun _ _=>rfl)) (aj (aF aV (pv 1) ao (fun _ _=>rfl)) (aj (aF aV (pv 1) ao (fun _ _=>rfl)) (aj (aF aV (pv 1) ao (fun _ _=>rfl)) aq)))))))
        (aC (bY (aJ fj (aF aV (pv 1) ao (fun _ _=>rfl)) aL (aP _))
          (aC (bD (eZ (pv 0) R_Roll.c iY.m um (hr.mono (by decide)) iY.b .nil kj (aj (aF aV (pv 1) ao (fun _ _=>rfl)) (aj (aF aV (pv 1) ao (fun _ _=>rfl)) (aj (aF aV (pv 1) ao (fun _ _=>rfl)) aq))))))
          (aC (bY (aJ fj (aF aV (pv 1) ao (fun _ _=>rfl)) aL (aP _))
            (aC (bD (eZ (pv 0) R_Roll.c eG.m lA (hr.mono (by decide)) eG.b .nil kj (aj (aF aV (pv 1) ao (fun _ _=>rfl)) (aj (aF aV (pv 1) ao (fun _ _=>rfl)) (aj (aF aV (pv 1) ao (fun _ _=>rfl)) (aj (aF aV (pv 1) ao (fun _ _=>rfl)) aq)))))))
            (aC (bY (aJ fj (aF aV (pv 1) ao (fun _ _=>rfl)) aL (aP _))
              (aC (bD (eZ (pv 0) R_Roll.c eO.m lC (hr.mono (by decide)) eO.b .nil kj (aj (aF aV (pv 1) ao (fun _ _=>rfl)) (aj (aF aV (pv 1) ao (fun _ _=>rfl)) aq)))))
              (aC (bY (aJ fj (aF aV (pv 1) ao (fun _ _=>rfl)) aL (aP _))
                (aC (bD (eZ (pv 0) R_Roll.c jc.m uq (hr.mono (by decide)) jc.b .nil kj (aj (aF aV (pv 1) ao (fun _ _=>rfl)) (aj (aF aV (pv 1) ao (fun _ _=>rfl)) (aj (aF aV (pv 1) ao (fun _ _=>rfl)) aq))))))
                (aC (bD (eZ (pv 0) R_Roll.c iy.m su (hr.mono (by decide)) iy.b .nil kj (aj (aF aV (pv 1) ao (fun _ _=>rfl)) aq)))))))))))))),?_⟩
    cases d with
    | turn=>exact dA.elim
    | file x st m b =>
      refine ⟨_,rfl,t,_,0,_,rfl,rfl,dA,rfl,rfl,_,rfl,jU ?_⟩
      exact ⟨_,rfl,A.p,A.dx,_,rfl,hA,(by exact hp.ex.fi),_,rfl,t,_,1,_,rfl,rfl,dA,rfl,_,rfl,t,_,2,_,rfl,rfl,dA,rfl,_,rfl,t,_,3,_,rfl,rfl,dA,rfl,_,rfl,t,_,4,_,rfl,rfl,dA,rfl,A,ex,H0,L,r,S,x,st,m,b,_,rfl,.inr rfl,ra,hp,hok,q.any fun _ h=>h⟩
    | sell n y z =>
      refine ⟨_,rfl,t,_,0,_,rfl,rfl,dA,rfl,rfl,_,rfl,jl rfl ?_⟩
      refine ⟨_,rfl,t,_,0,_,rfl,rfl,dA,rfl,rfl,_,rfl,jU ?_⟩
      exact ⟨_,rfl,A.p,A.dx,_,rfl,hA,(by exact hp.ex.se),_,rfl,t,_,1,_,rfl,rfl,dA,rfl,_,rfl,t,_,2,_,rfl,rfl,dA,rfl,_,rfl,t,_,3,_,rfl,rfl,dA,rfl,A,ex,H0,L,r,S,n,y,z,rfl,ra,hp,hok,q⟩
    | part n y m z =>
      refine ⟨_,rfl,t,_,0,_,rfl,rfl,dA,rfl,rfl,_,rfl,jl rfl ?_⟩
      refine ⟨_,rfl,t,_,0,_,rfl,rfl,dA,rfl,rfl,_,rfl,jl rfl ?_⟩
      refine ⟨_,rfl,t,_,0,_,rfl,rfl,dA,rfl,rfl,_,rfl,jU ?_⟩
      exact ⟨_,rfl,A.p,A.dx,_,rfl,hA,(by exact hp.ex.pa),_,rfl,t,_,1,_,rfl,rfl,dA,rfl,_,rfl,t,_,2,_,rfl,rfl,dA,rfl,_,rfl,t,_,3,_,rfl,rfl,dA,rfl,_,rfl,t,_,4,_,rfl,rfl,dA,rfl,A,ex,H0,L,r,S,n,y,m,z,rfl,ra,hp,hok,q.any fun _ h=>h⟩
    | drop n y =>
      refine ⟨_,rfl,t,_,0,_,rfl,rfl,dA,rfl,rfl,_,rfl,jl rfl ?_⟩
      refine ⟨_,rfl,t,_,0,_,rfl,rfl,dA,rfl,rfl,_,rfl,jl rfl ?_⟩
      refine ⟨_,rfl,t,_,0,_,rfl,rfl,dA,rfl,rfl,_,rfl,jl rfl ?_⟩
      refine ⟨_,rfl,t,_,0,_,rfl,rfl,dA,rfl,rfl,_,rfl,jU ?_⟩
      exact ⟨_,rfl,A.p,A.dx,_,rfl,hA,(by exact hp.ex.dr),_,rfl,t,_,1,_,rfl,rfl,dA,rfl,_,rfl,t,_,2,_,rfl,rfl,dA,rfl,A,ex,H0,L,r,S,n,y,rfl,ra,hp,q⟩
    | move n y st =>
      refine ⟨_,rfl,t,_,0,_,rfl,rfl,dA,rfl,rfl,_,rfl,jl rfl ?_⟩
      refine ⟨_,rfl,t,_,0,_,rfl,rfl,dA,rfl,rfl,_,rfl,jl rfl ?_⟩
      refine ⟨_,rfl,t,_,0,_,rfl,rfl,dA,rfl,rfl,_,rfl,jl rfl ?_⟩
      refine ⟨_,rfl,t,_,0,_,rfl,rfl,dA,rfl,rfl,_,rfl,jl rfl ?_⟩
      refine ⟨_,rfl,t,_,0,_,rfl,rfl,dA,rfl,rfl,_,rfl,jU ?_⟩
      exact ⟨_,rfl,A.p,A.dx,_,rfl,hA,(by exact hp.ex.mv),_,rfl,t,_,1,_,rfl,rfl,dA,rfl,_,rfl,t,_,2,_,rfl,rfl,dA,rfl,_,rfl,t,_,3,_,rfl,rfl,dA,rfl,A,ex,H0,L,r,S,n,y,st,rfl,ra,hp,q⟩
    | lapse xs =>
      obtain ⟨a,hT0,hA0⟩:=d0A
      have dA:=sH.Od hT0
      refine ⟨_,rfl,t,_,0,_,rfl,rfl,dA,rfl,rfl,_,rfl,jl rfl ?_⟩
      refine ⟨_,rfl,t,_,0,_,rfl,rfl,dA,rfl,rfl,_,rfl,jl rfl ?_⟩
      refine ⟨_,rfl,t,_,0,_,rfl,rfl,dA,rfl,rfl,_,rfl,jl rfl ?_⟩
      refine ⟨_,rfl,t,_,0,_,rfl,rfl,dA,rfl,rfl,_,rfl,jl rfl ?_⟩
      refine ⟨_,rfl,t,_,0,_,rfl,rfl,dA,rfl,rfl,_,rfl,jl rfl ?_⟩
      exact ⟨_,rfl,A.p,A.dx,_,rfl,hA,(by exact hp.ex.lp),_,rfl,t,_,1,_,rfl,rfl,dA,rfl,A,ex,H0,L,r,S,a,xs,rfl,ra,hp,hok,fun Hb H' X s O=>(s.trans O.same).seq hA0,fun S' e Hb H' fl fs s ra' _=>q.1 S' e Hb H' s ra'.drop,q.2⟩
end
theorem vR {r:List Int} {S:RS} {d:lO} {k:EK} (h:step r S d=.error k):k≠.jA:=by
  cases d <;> simp only [step,RS.sy] at h <;> (repeat' split at h) <;> first | (cases h;done) | (cases h;intro z;cases z)
abbrev cP:Stmt:=top 49
theorem gK:aQ ["one","deed","caught","e"] ["one","deed"] (ak cP):=⟨rfl,rfl,rfl,by decide +kernel,rfl,by decide +kernel,by decide +kernel⟩
def vY (K:PySem.W.Frag) (T:eX) (C:Addr):Sp:=fun vs H Q _=>∃ (A:Rs) (ex:List (Str × V)) (H0:Hp) (B:List (Addr × HO)) (r:List Int) (S:RS) (t:Addr) (d:lO) (k:EK),vs=[.ref A.p,.ref t]∧RA K T C A ex r H0 H B S∧RP r ex S∧Bv K H0 t d∧Xa d∧step r S d=.error k∧vJ T H (fun xs=>xs=[.str (mU k)]) Q
section
variable {P:Program} {w:World} {K:PySem.W.Frag} {mg:Str→Option Value} {base:Heap} {T:eX} {C:Addr} {c:Ec} {cl:List Addr}
theorem Om {f f1 f2 cS:Addr} {fd fd1 fd2:FuncData} (D:Df K mg "_law_refused" cP ["one","deed"] f fd) (X_SluiceError:jd K mg "SluiceError" cS) (TT:Bp K c cl cS)
    (jy:Df K mg "_law_do" iu ["one","deed"] f1 fd1) (Br:bN P w K mg base (CXE P w) 4 f1 fd1 ["one","deed"] (QK K T C c))
    (gC:Df K mg "_law_words" dw ["e"] f2 fd2) (rQ:bN P w K mg base CX0 1 f2 fd2 ["e"] (uz K T c)):bN P w K mg base CX0 5 f fd ["one","deed"] (vY K T C):=by
  refine D.F.ok gK (fun vs H Q E h=>?_) (fun cdv A outer s H vs Q E hr h=>?_)
  · obtain ⟨_,_,_,_,_,_,_,_,_,rfl,_⟩:=h;rfl
  · obtain ⟨A,ex,H0,L,r,S,t,d,k,rfl,ra,hp,d0A,hok,hst,q⟩:=h
    refine ⟨_,(au (bf (i:=2) gK.nd rfl (Or.inl rfl) uN)
      (au (QT (i:=3) ⟨rfl,rfl,rfl⟩ rfl (Ny (Nz (NK Br (hr.mono (by decide)) rfl jy.m jy.F.kp jy.b .nil (aj (pv 0) (aj (pv 1) aq))))) rfl X_SluiceError.m gK.nd rfl rfl (fun e =>
        (aC (bf (i:=2) gK.nd rfl (Or.inl rfl) (pv 3)))))
      (au (bY (aJ DP (pv 2) uN (aP _))
        (aC (aW (bK aq)))
        aU)
      (aC (aW (aZ rQ (hr.mono (by decide)) rfl gC.m gC.F.kp gC.b .nil cM (aj (pv 2) aq))))))),?_⟩
    refine ⟨_,rfl,_,rfl,A,ex,H0,L,r,S,t,d,rfl,ra,hp,d0A,hok,(fun S' e=>by rw [hst] at e;cases e),fun k' hk e H' s' he=>⟨_,e,rfl,rfl,TT.m k' (vR hk),?_⟩⟩
    rw [hst] at hk
    cases hk
    have hk:=vR hst
    have hX:(upd H' e (.ext (XAt e (c.at_ k)))) e=some (.ext (XAt e (c.at_ k))):=cG
    have sX:aY T H (upd H' e (.ext (XAt e (c.at_ k)))):=s'.upd (s'.free he) (.inl he)
    generalize upd H' e (.ext (XAt e (c.at_ k)))=H2 at hX sX
    refine ⟨_,rfl,?_⟩
    refine ⟨_,rfl,rfl,_,rfl,qy ?_⟩
    exact ⟨_,rfl,e,k,rfl,hk,hX,sX.t1,fun l H3 xs s3 n3 h3 e3=>q l H3 xs (sX.trans s3) (sX.free n3) h3 e3⟩
end
def Qt (r:List Int) (s b:Int):Prop:=0≤s∧s<r.length∧(b=-1∨b∈(Rv.walk r s).drop 1)
abbrev cJ:Stmt:=top 53
theorem oR:aQ ["below","start","back"] ["below","start","back"] (ak cJ):=⟨rfl,rfl,rfl,by decide +kernel,rfl,by decide +kernel,by decide +kernel⟩
def wg (K:PySem.W.Frag) (T:eX):Sp:=fun vs H Q _=>∃ (a:Addr) (r:List Int) (s b:Int),vs=[.ref a,.int s,.int b]∧SqL K H a (r.map V.int)∧Rv.lN r∧r.length≤900∧TabsOk T H∧∀ (o:Bool) H',(o=true↔Qt r s b)→aY T H H'→Q (.bl o) H'
theorem Rc {f f1:Addr} {fd fd1:FuncData} (D:Df K mg "_law_is_let" cJ ["below","start","back"] f fd) (B:Blt mg)
    (dI:Df K mg "_law_way" fW ["below","reach"] f1 fd1) (mq:bN P w K mg base CX0 1 f1 fd1 ["below","reach"] (qG K)):bN P w K mg base CX0 2 f fd ["below","start","back"] (wg K T):=by
  refine D.F.ok oR (fun vs H Q E h=>?_) (fun cdv A outer s H vs Q E hr h=>?_)
  · obtain ⟨_,_,_,_,rfl,_⟩:=h;rfl
  · obtain ⟨a,r,st,b,rfl,hS,hR,hn,tk,q⟩:=h
    have O:=Ow.refl tk
    have hml:(((r.map V.int).length:Nat):Int)=(r.length:Int):=by rw [List.length_map]
    refine ⟨_,(au (bY (PW.pt (pw_or (aJ mX (pv 1) ao (aP _)) (pw_or1 (aJ Q6 (pv 1) (aK aM rfl B.len PySem.boot_len (aj (pv 0) aq)) (aP _)))))
        (aC (aW qe))
        aU)
      (aC (aW (QZ (jC fj (pv 2) (kY iU ao) (aP _)) (wO (jC rm (pv 2) (jg nG (aZ mq (hr.mono (by decide)) rfl dI.m dI.F.kp dI.b .nil cM (aj (pv 0) (aj (pv 1) aq))) (jB ao) kW) (by rfl))))))),?_⟩
    refine ⟨_,rfl,_,_,rfl,rfl,_,rfl,ifD (fun h0=>?_) (fun h0=>?_)⟩
    · exact q _ _ ⟨(fun z=>nomatch z),fun z=>absurd z.1 (by have h0:st<0:=h0;omega)⟩ O.same
    have h0:¬ st<0:=h0
    refine ⟨_,rfl,_,rfl,a,_,rfl,.inl hS,_,_,rfl,rfl,_,rfl,ifD (fun h1=>?_) (fun h1=>?_)⟩
    · rw [hml] at h1
      exact q _ _ ⟨(fun z=>nomatch z),fun z=>absurd z.2.1 (by omega)⟩ O.same
    rw [hml] at h1
    refine ⟨_,rfl,1,rfl,rfl,_,rfl,ifI (fun hb=>?_) (fun hb=>?_)⟩
    · exact q _ _ ⟨fun _=>⟨by omega,by omega,.inl hb⟩,fun _=>rfl⟩ O.same
    refine ⟨_,rfl,_,rfl,_,rfl,a,r,st,rfl,hS,hR,by omega,by omega,hn,O.got fun lw H2 xs O e=>?_⟩
    subst e
    refine ⟨1,rfl,lw,_,rfl,O.sq 0,fun l1 h1'=>?_⟩
    walk_at "nw"
    rw [show tX ((Rv.walk r st).map V.int) (some 1) none=((Rv.walk r st).drop 1).map V.int from qm _ 1] at O
    refine ⟨l1,_,rfl,.inl (O.sq 0),rfl,rE _,?_⟩
    rw [if_neg Bool.false_ne_true,xT]
    refine q _ _ ?_ O.same
    rw [decide_eq_true_iff]
    exact ⟨fun h=>⟨by omega,by omega,.inr h⟩,fun h=>h.2.2.resolve_left hb⟩
theorem OJ (x:Str):inV (.str x) [V.str "a",V.str "b"]=decide (x="a"∨x="b"):=by
  unfold inV
  by_cases h1:x="a"
  · subst h1;simp [eqV]
  · by_cases h2:x="b"
    · subst h2;simp [eqV]
    · simp [eqV,h1,h2]
      exact ⟨fun z=>h1 z.symm,fun z=>h2 z.symm⟩
def bW (ls:List Lic) (n:Nat) (d:Int):Nat→List Int
  | 0=>[]
  | i + 1=>bW ls n d i++(match ls[i]? with | some l=>if i≠n∧l.day=d∧0<l.most then [1] else [] | none=>[])
theorem jr (ls:List Lic) (n:Nat) (d:Int):∀ i,(bW ls n d i).length≤i
  | 0=>Nat.le_refl _
  | i + 1=>by
    have:=jr ls n d i
    unfold bW
    rw [List.length_append]
    split
    · split <;> simp <;> omega
    · simp;omega
theorem mL {ls:List Lic} {n:Nat} {l:Lic} (hl:ls[n]?=some l) (hm:0<l.most):∀ i,(bW ls n l.day i=[]→fu ls l.day i=if n<i then [(n:Int)] else [])∧(bW ls n l.day i≠[]→∃ j:Nat,j≠n∧(j:Int)∈fu ls l.day i)
  | 0=>⟨fun _=>rfl,fun h=>absurd rfl h⟩
  | i + 1=>by
    obtain ⟨h1,h2⟩:=mL hl hm i
    by_cases hin:i=n
    · subst hin
      have e1:bW ls i l.day (i + 1)=bW ls i l.day i:=by rw [bW,hl];simp
      have e2:fu ls l.day (i + 1)=fu ls l.day i++[(i:Int)]:=by rw [fu,hl];simp [hm]
      rw [e1,e2]
      refine ⟨fun z=>?_,fun z=>?_⟩
      · rw [h1 z,if_neg (Nat.lt_irrefl _),if_pos (Nat.lt_succ_self _)];rfl
      · obtain ⟨j,a,b⟩:=h2 z
        exact ⟨j,a,List.mem_append_left _ b⟩
    · by_cases hq:∃ l2,ls[i]?=some l2∧l2.day=l.day∧0<l2.most
      · obtain ⟨l2,g1,g2,g3⟩:=hq
        have e1:bW ls n l.day (i + 1)=bW ls n l.day i++[1]:=by rw [bW,g1];simp [hin,g2,g3]
        have e2:fu ls l.day (i + 1)=fu ls l.day i++[(i:Int)]:=by rw [fu,g1];simp [g2,g3]
        rw [e1,e2]
        refine ⟨fun z=>absurd z (by simp),fun _=>⟨i,hin,List.mem_append_right _ (List.mem_singleton.mpr rfl)⟩⟩
      · have e1:bW ls n l.day (i + 1)=bW ls n l.day i:=by
          rw [bW]
          cases hg:ls[i]? with
          | none=>simp
          | some l2=>simp only;rw [if_neg fun z=>hq ⟨l2,hg,z.2⟩,List.append_nil]
        have e2:fu ls l.day (i + 1)=fu ls l.day i:=by
          rw [fu]
          cases hg:ls[i]? with
          | none=>simp
          | some l2=>simp only;rw [if_neg fun z=>hq ⟨l2,hg,z⟩,List.append_nil]
        rw [e1,e2]
        refine ⟨fun z=>?_,h2⟩
        rw [h1 z]
        by_cases hlt:n<i
        · rw [if_pos hlt,if_pos (by omega)]
        · rw [if_neg hlt,if_neg (by omega)]
theorem rC {ls:List Lic} {n:Nat} {l:Lic} (hl:ls[n]?=some l) (hm:0<l.most):bW ls n l.day ls.length=[]↔fu ls l.day ls.length=[(n:Int)]:=by
  obtain ⟨h1,h2⟩:=mL hl hm ls.length
  have hn:=(List.getElem?_eq_some_iff.mp hl).1
  refine ⟨fun h=>by rw [h1 h,if_pos hn],fun h=>Classical.byContradiction fun z=>?_⟩
  obtain ⟨j,a,b⟩:=h2 z
  rw [h] at b
  have:=List.mem_singleton.mp b
  omega
def Xm:Except EK RS→Str
  | .ok _=>""
  | .error k=>mU k
structure S56 (r:List Int) (S:RS):Prop where
  rv:Rv.lN r
  r40:r.length≤40
  nn:S.ns.length=S.ls.length
  l60:S.ls.length≤60
  sd:0≤S.day∧S.day≤1000000
  lo:∀ l∈S.ls,(0≤l.day∧l.day≤1000000)∧0≤l.most∧l.most≤1000000000000
def Dr (z:Str):Prop:=(z="a"∨z="b")↔gR z
abbrev bJ:Stmt:=top 54
theorem gV:aQ ["deed","below","lines","owners","line","mates"] ["deed","below","lines","owners"] (ak bJ):=⟨rfl,rfl,rfl,by decide +kernel,rfl,by decide +kernel,by decide +kernel⟩
def wu (K:PySem.W.Frag) (T:eX):Sp:=fun vs H Q _=>∃ (t lv ll lo:Addr) (r:List Int) (us:List V) (S:RS) (d:lO),vs=[.ref t,.ref lv,.ref ll,.ref lo]∧Bv K H t d∧SqL K H lv (r.map V.int)∧SqL K H ll us∧dM K H us (S.ls.map mZ)∧SqL K H lo (S.ns.map V.str)∧S56 r S ∧
  (match d with | .sell _ _ z=>Dr z | .part _ _ _ z=>Dr z | .drop _ _=>True | .move _ _ _=>True | _=>False)∧TabsOk T H∧∀ H',aY T H H'→Q (.str (Xm (step r S d))) H'
theorem Ot {f f1:Addr} {fd fd1:FuncData} (D:Df K mg "_law_due_first" bJ ["deed","below","lines","owners"] f fd) (B:Blt mg)
    (bT:Df K mg "_law_is_let" cJ ["below","start","back"] f1 fd1) (jE:bN P w K mg base CX0 2 f1 fd1 ["below","start","back"] (wg K T)):bN P w K mg base CX0 3 f fd ["deed","below","lines","owners"] (wu K T):=by
  refine D.F.ok gV (fun vs H Q E h=>?_) (fun cdv A outer s H vs Q E hr h=>?_)
  · obtain ⟨_,_,_,_,_,_,_,_,rfl,_⟩:=h;rfl
  · obtain ⟨t,lv,ll,lo,r,us,S,d,rfl,dA,hV,hL,d0,hN,hS,hto,tk,q⟩:=h
    have hu:=hr.units
    have O:=Ow.refl tk
    have hul:us.length=S.ls.length:=by rw [d0.length,List.length_map]
    have hnn:=hS.nn
    have h60:=hS.l60
    have hr40:=hS.r40
    have qq:∀ (k:EK) H',aY T H H'→step r S d=.error k→Q (.str (mU k)) H':=fun k H' s e=>by have:=q H' s;rw [e] at this;exact this
    have qo:∀ S' H',aY T H H'→step r S d=.ok S'→Q (.str "") H':=fun S' H' s e=>by have:=q H' s;rw [e] at this;exact this
    have dA0:=dA
    clear q
    refine ⟨_,(au (bY (iD (jf kE mX ao (aF aV (pv 0) ao (fun _ _=>rfl)) (aK aM rfl B.len PySem.boot_len (aj (pv 2) aq))))
        (aC (aW aL))
        aU)
      (au (bY (aJ nR (aF aV (pv 0) ao (fun _ _=>rfl)) (aF aD (pv 3) (aF aV (pv 0) ao (fun _ _=>rfl)) (fun _ _=>rfl)) (aP _))
        (aC (aW aL))
        aU)
      (au (bY (PW.pt (pw_and (aJ fj (aF aV (pv 0) ao (fun _ _=>rfl)) aL (aP _)) (pw_and1 (aJ jQ (aF aV (pv 0) ao (fun _ _=>rfl)) (bK (aj aL (aj aL aq))) (by rfl)))))
        (aC (aW aL))
        aU)
      (au (bY (PW.pt (pw_and (aJ fj (aF aV (pv 0) ao (fun _ _=>rfl)) aL (aP _)) (pw_and1 (aJ jQ (aF aV (pv 0) ao (fun _ _=>rfl)) (bK (aj aL (aj aL aq))) (by rfl)))))
        (aC (aW aL))
        aU)
      (au (bf (i:=4) gV.nd rfl (Or.inr rfl) (aF aD (pv 2) (aF aV (pv 0) ao (fun _ _=>rfl)) (fun _ _=>rfl)))
      (au (bY (PW.pt (pw_and (aJ fj (aF aV (pv 0) ao (fun _ _=>rfl)) aL (aP _)) (pw_and1 (iD (jf kE mX ao (aF aV (pv 0) ao (fun _ _=>rfl)) (aF aV (pv 4) ao (fun _ _=>rfl)))))))
        (aC (aW aL))
        aU)
      (au (iM (i:=5) (ak bJ) rfl ["deed","below","lines","owners","line","mates"] rfl ["k","other","deed","line"] [none,none,some 0,some 4] (by decide +kernel) (by decide +kernel) (by decide +kernel) rfl gV.nd rfl rfl (lV rfl B.enumerate (aj (pv 2) aq)) (fun _ _ _=>(qb (K:=K) (n:=2) rfl rfl (cL (bL (i:=0) (show (["k","other","deed","line"]:List Str).Nodup by decide +kernel) rfl (Or.inl rfl)) (cL (bL (i:=1) (show (["k","other","deed","line"]:List Str).Nodup by decide +kernel) rfl (Or.inl rfl)) jP)))) (fun _ _ _=>(p7 (PW.pt (pw_and (aJ nR (pv 0) (aF (nZ (K:=K) rfl) (pv 2) ao (fun _ _=>rfl)) (aP _)) (pw_and (aJ fj (aF (nZ (K:=K) rfl) (pv 1) ao (fun _ _=>rfl)) (aF (nZ (K:=K) rfl) (pv 3) ao (fun _ _=>rfl)) (aP _)) (pw_and1 (aJ wU (aF (nZ (K:=K) rfl) (pv 1) ao (fun _ _=>rfl)) ao (aP _)))))))) (fun _ _ _=>ao) rfl)
      (au (bY (PW.pt (pw_and (aJ fj (aF aV (pv 0) ao (fun _ _=>rfl)) aL (aP _)) (pw_and1 (aJ (wQ hu) (pv 5) (bK aq) (aP _)))))
        (aC (aW aL))
        aU)
      (au (bY (PW.pt (pw_and (aJ fj (aF aV (pv 0) ao (fun _ _=>rfl)) aL (aP _)) (pw_and1 (aJ fj (aK aM rfl B.len PySem.boot_len (aj (pv 2) aq)) ao (aP _)))))
        (aC (aW aL))
        aU)
      (au (bY (PW.pt (pw_and (aJ fj (aF aV (pv 0) ao (fun _ _=>rfl)) aL (aP _)) (pw_and1 (iD (jN (aZ jE (hr.mono (by decide)) rfl bT.m bT.F.kp bT.b .nil cM (aj (pv 1) (aj (aF aV (pv 0) ao (fun _ _=>rfl)) (aj (aF aV (pv 4) ao (fun _ _=>rfl)) aq)))))))))
        (aC (aW aL))
        aU)
      (aC (aW aL)))))))))))),?_⟩
    cases d with
    | turn=>exact hto.elim
    | file x s m b=>exact hto.elim
    | lapse xs=>exact hto.elim
    | sell n y z =>
      have hto:(z="a"∨z="b")↔gR z:=hto
      refine ⟨_,rfl,t,_,1,_,rfl,rfl,dA,rfl,_,_,rfl,rfl,_,rfl,ifD (fun h0=>?_) (fun h0=>?_)⟩
      rotate_left
      · exact ⟨_,rfl,jU (qq _ _ O.same (iK fun z=>h0 z.1))⟩
      refine ⟨_,rfl,ll,_,rfl,.inl hL,_,_,rfl,rfl,_,rfl,ifN (ifD (fun h1=>?_) (fun h1=>?_))⟩
      rotate_left
      · exact qq _ _ O.same (iK fun z=>h1 (by show n<(us.length:Int);omega))
      have h0:0≤n:=h0
      have h1:n<(us.length:Int):=h1
      obtain ⟨k,rfl⟩:=Int.eq_ofNat_of_zero_le h0
      obtain ⟨x,hx⟩:∃ x,S.ns[k]?=some x:=⟨_,List.getElem?_eq_getElem (by omega)⟩
      obtain ⟨l,hl⟩:∃ l,S.ls[k]?=some l:=⟨_,List.getElem?_eq_getElem (by omega)⟩
      obtain ⟨al,hal,hT⟩:=d0.jR hl
      refine ⟨_,rfl,t,_,2,_,rfl,rfl,dA,rfl,_,rfl,_,rfl,t,_,1,_,rfl,rfl,dA,rfl,lo,_,_,_,rfl,rfl,hN,cX (show (S.ns.map V.str)[k]?=some (.str x) by rw [List.getElem?_map,hx];rfl),rfl,_,rfl,ifN (ifS (fun hy=>?_) (fun hy=>?_))⟩
      rotate_left
      · exact qq _ _ O.same (jt h0 (by omega) (fun z=>hy (by rw [Int.toNat_natCast,hx] at z;exact (Option.some.inj z).symm)))
      have hst:step r S (.sell (k:Int) y z)=_:=jj h0 (by omega) (by rw [Int.toNat_natCast,hx,hy])
      rw [Int.toNat_natCast] at hst
      refine ⟨_,rfl,t,_,0,_,rfl,rfl,dA,rfl,rfl,_,rfl,jU ?_⟩
      refine ⟨_,rfl,t,_,3,_,rfl,rfl,dA,rfl,szl,fun l1 h1'=>?_⟩
      walk_at "nw"
      refine ⟨l1,[V.str "a",V.str "b"],rfl,.inl (O.sq 0),rfl,rfl,_,rfl,?_⟩
      rw [if_pos rfl,OJ]
      refine ifN (ifD (fun hab=>?_) (fun hab=>?_))
      rotate_left
      · exact qq _ _ O.same (hst.trans (if_pos fun z=>hab (hto.mpr z)))
      have hst:=hst.trans (if_neg (not_not_intro (hto.mp hab)))
      have O:=O.tail
      have dA:=dA0.mo O.same
      refine ⟨_,rfl,t,_,0,_,rfl,rfl,dA,rfl,rfl,_,rfl,jl rfl ?_⟩
      refine ⟨_,rfl,_,rfl,t,_,1,_,rfl,rfl,dA,rfl,ll,_,_,_,rfl,rfl,O.same.seq hL,cX hal,?_⟩
      refine ⟨_,rfl,t,_,0,_,rfl,rfl,dA,rfl,rfl,_,rfl,jl rfl ?_⟩
      refine ⟨_,rfl,ll,us,rfl,O.same.seq hL,fun lw hlw=>?_⟩
      refine iV (K:=K) (xs:=us) (fun i τ H'=>Iv (∃ (v0 v1:Option V),τ=[v0,v1,some (.ref t),some (.ref al)]∧Ow T H H' [(lw,.lst ((bW S.ls k l.day i).map V.int))])) ⟨trivial,none,none,rfl,O.mk' hlw rfl⟩ (fun i τ H' _ ⟨_,_,_,_,O⟩=>O.same.seq hL) ?_ ?_
      · clear O
        rintro i y T0 τ H5 hy ⟨-,v0,v1,rfl,O⟩ hT0
        obtain ⟨a2,l2,rfl,hl2,hT2⟩:=d0.lu hy
        have hi:=(List.getElem?_eq_some_iff.mp hl2).1
        have hml:=jr S.ls k l.day i
        walk_at "nw"
        refine ⟨T0,_,rfl,O.sqT 0,rfl,_,_,rfl,_,_,rfl,rfl,?_⟩
        have O:=O.tail
        have no:¬ (i≠k∧l2.day=l.day∧0<l2.most)→bW S.ls k l.day (i + 1)=bW S.ls k l.day i:=fun h=>by
          rw [bW,hl2];simp only [if_neg h,List.append_nil]
        have D5:=dA0.mo O.same
        refine ⟨_,rfl,_,rfl,t,_,1,_,rfl,rfl,D5,rfl,rfl,_,rfl,ifN (ifI (fun e1=>?_) (fun e1=>?_))⟩
        · exact ⟨trivial,_,_,rfl,by rw [no fun z=>z.1 (by have e1:(i:Int)=(k:Int):=e1;omega)];exact O⟩
        refine ⟨_,rfl,a2,_,0,_,rfl,rfl,hT2.mo O.same,rfl,_,rfl,al,_,0,_,rfl,rfl,hT.mo O.same,rfl,rfl,_,rfl,ifI (fun e2=>?_) (fun e2=>?_)⟩
        rotate_left
        · exact ⟨trivial,_,_,rfl,by rw [no fun z=>e2 z.2.1];exact O⟩
        refine ⟨_,rfl,a2,_,3,_,rfl,rfl,hT2.mo O.same,rfl,_,_,rfl,rfl,_,rfl,ifD (fun e3=>?_) (fun e3=>?_)⟩
        rotate_left
        · exact ⟨trivial,_,_,rfl,by rw [no fun z=>e3 z.2.2];exact O⟩
        refine ⟨_,O.get 0,aR (by rw [List.length_map];omega),?_⟩
        walk_at "pt"
        refine ⟨trivial,_,_,rfl,?_⟩
        rw [bW,hl2]
        simp only [if_pos (show i≠k∧l2.day=l.day∧0<l2.most from ⟨fun z=>e1 (by rw [z]),e2,e3⟩)]
        rw [List.map_append];exact O
      clear O
      rintro τ H5 ⟨-,v0,v1,rfl,O⟩
      rw [hul] at O
      have dA:=dA0.mo O.same
      refine ⟨_,rfl,t,_,0,_,rfl,rfl,dA,rfl,rfl,_,rfl,jl rfl ?_⟩
      refine ⟨_,rfl,t,_,0,_,rfl,rfl,dA,rfl,rfl,_,rfl,jl rfl ?_⟩
      refine ⟨_,rfl,t,_,0,_,rfl,rfl,dA,rfl,rfl,_,rfl,jl rfl ?_⟩
      exact qo _ _ O.same hst
    | part n y m z =>
      have hto:(z="a"∨z="b")↔gR z:=hto
      refine ⟨_,rfl,t,_,1,_,rfl,rfl,dA,rfl,_,_,rfl,rfl,_,rfl,ifD (fun h0=>?_) (fun h0=>?_)⟩
      rotate_left
      · exact ⟨_,rfl,jU (qq _ _ O.same (iK fun z=>h0 z.1))⟩
      refine ⟨_,rfl,ll,_,rfl,.inl hL,_,_,rfl,rfl,_,rfl,ifN (ifD (fun h1=>?_) (fun h1=>?_))⟩
      rotate_left
      · exact qq _ _ O.same (iK fun z=>h1 (by show n<(us.length:Int);omega))
      have h0:0≤n:=h0
      have h1:n<(us.length:Int):=h1
      obtain ⟨k,rfl⟩:=Int.eq_ofNat_of_zero_le h0
      obtain ⟨x,hx⟩:∃ x,S.ns[k]?=some x:=⟨_,List.getElem?_eq_getElem (by omega)⟩
      obtain ⟨l,hl⟩:∃ l,S.ls[k]?=some l:=⟨_,List.getElem?_eq_getElem (by omega)⟩
      obtain ⟨al,hal,hT⟩:=d0.jR hl
      refine ⟨_,rfl,t,_,2,_,rfl,rfl,dA,rfl,_,rfl,_,rfl,t,_,1,_,rfl,rfl,dA,rfl,lo,_,_,_,rfl,rfl,hN,cX (show (S.ns.map V.str)[k]?=some (.str x) by rw [List.getElem?_map,hx];rfl),rfl,_,rfl,ifN (ifS (fun hy=>?_) (fun hy=>?_))⟩
      rotate_left
      · exact qq _ _ O.same (jt h0 (by omega) (fun z=>hy (by rw [Int.toNat_natCast,hx] at z;exact (Option.some.inj z).symm)))
      have hst:step r S (.part (k:Int) y m z)=_:=jj h0 (by omega) (by rw [Int.toNat_natCast,hx,hy])
      rw [mO rfl hl,Int.toNat_natCast] at hst
      refine ⟨_,rfl,t,_,0,_,rfl,rfl,dA,rfl,rfl,_,rfl,jl rfl ?_⟩
      refine ⟨_,rfl,t,_,0,_,rfl,rfl,dA,rfl,rfl,_,rfl,jU ?_⟩
      refine ⟨_,rfl,t,_,4,_,rfl,rfl,dA,rfl,szl,fun l1 h1'=>?_⟩
      walk_at "nw"
      refine ⟨l1,[V.str "a",V.str "b"],rfl,.inl (O.sq 0),rfl,rfl,_,rfl,?_⟩
      rw [if_pos rfl,OJ]
      refine ifN (ifD (fun hab=>?_) (fun hab=>?_))
      rotate_left
      · exact qq _ _ O.same (hst.trans (if_pos fun z=>hab (hto.mpr z)))
      have hst:=hst.trans (if_neg (not_not_intro (hto.mp hab)))
      have O:=O.tail
      have dA:=dA0.mo O.same
      refine ⟨_,rfl,_,rfl,t,_,1,_,rfl,rfl,dA,rfl,ll,_,_,_,rfl,rfl,O.same.seq hL,cX hal,?_⟩
      refine ⟨_,rfl,t,_,0,_,rfl,rfl,dA,rfl,rfl,_,rfl,jU ?_⟩
      refine ⟨_,rfl,t,_,3,_,rfl,rfl,dA,rfl,_,_,rfl,rfl,_,rfl,ifD (fun m0=>?_) (fun m0=>?_)⟩
      rotate_left
      · exact ⟨_,rfl,jU (qq _ _ O.same (hst.trans (if_pos fun z=>m0 z.1)))⟩
      refine ⟨_,rfl,al,_,3,_,rfl,rfl,hT.mo O.same,rfl,_,_,rfl,rfl,_,rfl,ifN (ifD (fun m1=>?_) (fun m1=>?_))⟩
      rotate_left
      · exact qq _ _ O.same (hst.trans (if_pos fun z=>m1 z.2))
      have m0:1≤m:=m0
      have m1:m<l.most:=m1
      have hst:=hst.trans (if_neg (not_not_intro ⟨m0,m1⟩))
      refine ⟨_,rfl,ll,us,rfl,O.same.seq hL,fun lw hlw=>?_⟩
      refine iV (K:=K) (xs:=us) (fun i τ H'=>Iv (∃ (v0 v1:Option V),τ=[v0,v1,some (.ref t),some (.ref al)]∧Ow T H H' [(lw,.lst ((bW S.ls k l.day i).map V.int))])) ⟨trivial,none,none,rfl,O.mk' hlw rfl⟩ (fun i τ H' _ ⟨_,_,_,_,O⟩=>O.same.seq hL) ?_ ?_
      · clear O
        rintro i y T0 τ H5 hy ⟨-,v0,v1,rfl,O⟩ hT0
        obtain ⟨a2,l2,rfl,hl2,hT2⟩:=d0.lu hy
        have hi:=(List.getElem?_eq_some_iff.mp hl2).1
        have hml:=jr S.ls k l.day i
        walk_at "nw"
        refine ⟨T0,_,rfl,O.sqT 0,rfl,_,_,rfl,_,_,rfl,rfl,?_⟩
        have O:=O.tail
        have no:¬ (i≠k∧l2.day=l.day∧0<l2.most)→bW S.ls k l.day (i + 1)=bW S.ls k l.day i:=fun h=>by
          rw [bW,hl2];simp only [if_neg h,List.append_nil]
        have D5:=dA0.mo O.same
        refine ⟨_,rfl,_,rfl,t,_,1,_,rfl,rfl,D5,rfl,rfl,_,rfl,ifN (ifI (fun e1=>?_) (fun e1=>?_))⟩
        · exact ⟨trivial,_,_,rfl,by rw [no fun z=>z.1 (by have e1:(i:Int)=(k:Int):=e1;omega)];exact O⟩
        refine ⟨_,rfl,a2,_,0,_,rfl,rfl,hT2.mo O.same,rfl,_,rfl,al,_,0,_,rfl,rfl,hT.mo O.same,rfl,rfl,_,rfl,ifI (fun e2=>?_) (fun e2=>?_)⟩
        rotate_left
        · exact ⟨trivial,_,_,rfl,by rw [no fun z=>e2 z.2.1];exact O⟩
        refine ⟨_,rfl,a2,_,3,_,rfl,rfl,hT2.mo O.same,rfl,_,_,rfl,rfl,_,rfl,ifD (fun e3=>?_) (fun e3=>?_)⟩
        rotate_left
        · exact ⟨trivial,_,_,rfl,by rw [no fun z=>e3 z.2.2];exact O⟩
        refine ⟨_,O.get 0,aR (by rw [List.length_map];omega),?_⟩
        walk_at "pt"
        refine ⟨trivial,_,_,rfl,?_⟩
        rw [bW,hl2]
        simp only [if_pos (show i≠k∧l2.day=l.day∧0<l2.most from ⟨fun z=>e1 (by rw [z]),e2,e3⟩)]
        rw [List.map_append];exact O
      clear O
      rintro τ H5 ⟨-,v0,v1,rfl,O⟩
      rw [hul] at O
      have dA:=dA0.mo O.same
      have hmi:=rC hl (show 0<l.most by omega)
      refine ⟨_,rfl,t,_,0,_,rfl,rfl,dA,rfl,rfl,_,rfl,jU ?_⟩
      refine ⟨_,rfl,szl,fun lz hlz=>?_⟩
      walk_at "nw"
      refine ⟨lw,lz,_,[],rfl,rfl,O.sq 1,O.sq 0,_,rfl,?_⟩
      rw [if_pos rfl]
      refine ifN (ifD (fun hm=>?_) (fun hm=>?_))
      rotate_left
      · exact qq _ _ O.same (hst.trans (if_pos fun z=>hm (hmi.mpr z)))
      have hst:=hst.trans (if_neg (not_not_intro (hmi.mp hm)))
      have dA:Bv K _ t (.part (k:Int) y m z):=Bv.mo (T:=T) (H:=H) dA0 O.same
      refine ⟨_,rfl,t,_,0,_,rfl,rfl,dA,rfl,rfl,_,rfl,jU ?_⟩
      refine ⟨_,rfl,ll,_,rfl,.inl (O.same.seq hL),rfl,_,rfl,ifI (fun hf=>?_) (fun hf=>?_)⟩
      · exact qq _ _ O.same (hst.trans (if_pos (by omega)))
      have hst:=hst.trans (if_neg (by have hf:¬ (us.length:Int)=60:=hf;omega))
      refine ⟨_,rfl,t,_,0,_,rfl,rfl,dA,rfl,rfl,_,rfl,jl rfl ?_⟩
      exact qo _ _ O.same hst
    | drop n y =>
      refine ⟨_,rfl,t,_,1,_,rfl,rfl,dA,rfl,_,_,rfl,rfl,_,rfl,ifD (fun h0=>?_) (fun h0=>?_)⟩
      rotate_left
      · exact ⟨_,rfl,jU (qq _ _ O.same (iK fun z=>h0 z.1))⟩
      refine ⟨_,rfl,ll,_,rfl,.inl hL,_,_,rfl,rfl,_,rfl,ifN (ifD (fun h1=>?_) (fun h1=>?_))⟩
      rotate_left
      · exact qq _ _ O.same (iK fun z=>h1 (by show n<(us.length:Int);omega))
      have h0:0≤n:=h0
      have h1:n<(us.length:Int):=h1
      obtain ⟨k,rfl⟩:=Int.eq_ofNat_of_zero_le h0
      obtain ⟨x,hx⟩:∃ x,S.ns[k]?=some x:=⟨_,List.getElem?_eq_getElem (by omega)⟩
      obtain ⟨l,hl⟩:∃ l,S.ls[k]?=some l:=⟨_,List.getElem?_eq_getElem (by omega)⟩
      obtain ⟨al,hal,hT⟩:=d0.jR hl
      refine ⟨_,rfl,t,_,2,_,rfl,rfl,dA,rfl,_,rfl,_,rfl,t,_,1,_,rfl,rfl,dA,rfl,lo,_,_,_,rfl,rfl,hN,cX (show (S.ns.map V.str)[k]?=some (.str x) by rw [List.getElem?_map,hx];rfl),rfl,_,rfl,ifN (ifS (fun hy=>?_) (fun hy=>?_))⟩
      rotate_left
      · exact qq _ _ O.same (jt h0 (by omega) (fun z=>hy (by rw [Int.toNat_natCast,hx] at z;exact (Option.some.inj z).symm)))
      have hst:step r S (.drop (k:Int) y)=_:=jj h0 (by omega) (by rw [Int.toNat_natCast,hx,hy])
      rw [mO rfl hl,Int.toNat_natCast] at hst
      refine ⟨_,rfl,t,_,0,_,rfl,rfl,dA,rfl,rfl,_,rfl,jl rfl ?_⟩
      refine ⟨_,rfl,t,_,0,_,rfl,rfl,dA,rfl,rfl,_,rfl,jl rfl ?_⟩
      refine ⟨_,rfl,_,rfl,t,_,1,_,rfl,rfl,dA,rfl,ll,_,_,_,rfl,rfl,O.same.seq hL,cX hal,?_⟩
      refine ⟨_,rfl,t,_,0,_,rfl,rfl,dA,rfl,rfl,_,rfl,jl rfl ?_⟩
      refine ⟨_,rfl,ll,us,rfl,O.same.seq hL,fun lw hlw=>?_⟩
      refine iV (K:=K) (xs:=us) (fun i τ H'=>Iv (∃ (v0 v1:Option V),τ=[v0,v1,some (.ref t),some (.ref al)]∧Ow T H H' [(lw,.lst ((bW S.ls k l.day i).map V.int))])) ⟨trivial,none,none,rfl,O.mk' hlw rfl⟩ (fun i τ H' _ ⟨_,_,_,_,O⟩=>O.same.seq hL) ?_ ?_
      · clear O
        rintro i y T0 τ H5 hy ⟨-,v0,v1,rfl,O⟩ hT0
        obtain ⟨a2,l2,rfl,hl2,hT2⟩:=d0.lu hy
        have hi:=(List.getElem?_eq_some_iff.mp hl2).1
        have hml:=jr S.ls k l.day i
        walk_at "nw"
        refine ⟨T0,_,rfl,O.sqT 0,rfl,_,_,rfl,_,_,rfl,rfl,?_⟩
        have O:=O.tail
        have no:¬ (i≠k∧l2.day=l.day∧0<l2.most)→bW S.ls k l.day (i + 1)=bW S.ls k l.day i:=fun h=>by
          rw [bW,hl2];simp only [if_neg h,List.append_nil]
        have D5:=dA0.mo O.same
        refine ⟨_,rfl,_,rfl,t,_,1,_,rfl,rfl,D5,rfl,rfl,_,rfl,ifN (ifI (fun e1=>?_) (fun e1=>?_))⟩
        · exact ⟨trivial,_,_,rfl,by rw [no fun z=>z.1 (by have e1:(i:Int)=(k:Int):=e1;omega)];exact O⟩
        refine ⟨_,rfl,a2,_,0,_,rfl,rfl,hT2.mo O.same,rfl,_,rfl,al,_,0,_,rfl,rfl,hT.mo O.same,rfl,rfl,_,rfl,ifI (fun e2=>?_) (fun e2=>?_)⟩
        rotate_left
        · exact ⟨trivial,_,_,rfl,by rw [no fun z=>e2 z.2.1];exact O⟩
        refine ⟨_,rfl,a2,_,3,_,rfl,rfl,hT2.mo O.same,rfl,_,_,rfl,rfl,_,rfl,ifD (fun e3=>?_) (fun e3=>?_)⟩
        rotate_left
        · exact ⟨trivial,_,_,rfl,by rw [no fun z=>e3 z.2.2];exact O⟩
        refine ⟨_,O.get 0,aR (by rw [List.length_map];omega),?_⟩
        walk_at "pt"
        refine ⟨trivial,_,_,rfl,?_⟩
        rw [bW,hl2]
        simp only [if_pos (show i≠k∧l2.day=l.day∧0<l2.most from ⟨fun z=>e1 (by rw [z]),e2,e3⟩)]
        rw [List.map_append];exact O
      clear O
      rintro τ H5 ⟨-,v0,v1,rfl,O⟩
      rw [hul] at O
      have dA:=dA0.mo O.same
      refine ⟨_,rfl,t,_,0,_,rfl,rfl,dA,rfl,rfl,_,rfl,jl rfl ?_⟩
      refine ⟨_,rfl,t,_,0,_,rfl,rfl,dA,rfl,rfl,_,rfl,jl rfl ?_⟩
      refine ⟨_,rfl,t,_,0,_,rfl,rfl,dA,rfl,rfl,_,rfl,jl rfl ?_⟩
      exact qo _ _ O.same hst
    | move n y st =>
      refine ⟨_,rfl,t,_,1,_,rfl,rfl,dA,rfl,_,_,rfl,rfl,_,rfl,ifD (fun h0=>?_) (fun h0=>?_)⟩
      rotate_left
      · exact ⟨_,rfl,jU (qq _ _ O.same (iK fun z=>h0 z.1))⟩
      refine ⟨_,rfl,ll,_,rfl,.inl hL,_,_,rfl,rfl,_,rfl,ifN (ifD (fun h1=>?_) (fun h1=>?_))⟩
      rotate_left
      · exact qq _ _ O.same (iK fun z=>h1 (by show n<(us.length:Int);omega))
      have h0:0≤n:=h0
      have h1:n<(us.length:Int):=h1
      obtain ⟨k,rfl⟩:=Int.eq_ofNat_of_zero_le h0
      obtain ⟨x,hx⟩:∃ x,S.ns[k]?=some x:=⟨_,List.getElem?_eq_getElem (by omega)⟩
      obtain ⟨l,hl⟩:∃ l,S.ls[k]?=some l:=⟨_,List.getElem?_eq_getElem (by omega)⟩
      obtain ⟨al,hal,hT⟩:=d0.jR hl
      refine ⟨_,rfl,t,_,2,_,rfl,rfl,dA,rfl,_,rfl,_,rfl,t,_,1,_,rfl,rfl,dA,rfl,lo,_,_,_,rfl,rfl,hN,cX (show (S.ns.map V.str)[k]?=some (.str x) by rw [List.getElem?_map,hx];rfl),rfl,_,rfl,ifN (ifS (fun hy=>?_) (fun hy=>?_))⟩
      rotate_left
      · exact qq _ _ O.same (jt h0 (by omega) (fun z=>hy (by rw [Int.toNat_natCast,hx] at z;exact (Option.some.inj z).symm)))
      have hst:step r S (.move (k:Int) y st)=_:=jj h0 (by omega) (by rw [Int.toNat_natCast,hx,hy])
      rw [mO rfl hl,Int.toNat_natCast] at hst
      refine ⟨_,rfl,t,_,0,_,rfl,rfl,dA,rfl,rfl,_,rfl,jl rfl ?_⟩
      refine ⟨_,rfl,t,_,0,_,rfl,rfl,dA,rfl,rfl,_,rfl,jl rfl ?_⟩
      refine ⟨_,rfl,_,rfl,t,_,1,_,rfl,rfl,dA,rfl,ll,_,_,_,rfl,rfl,O.same.seq hL,cX hal,?_⟩
      refine ⟨_,rfl,t,_,0,_,rfl,rfl,dA,rfl,rfl,_,rfl,jl rfl ?_⟩
      refine ⟨_,rfl,ll,us,rfl,O.same.seq hL,fun lw hlw=>?_⟩
      refine iV (K:=K) (xs:=us) (fun i τ H'=>Iv (∃ (v0 v1:Option V),τ=[v0,v1,some (.ref t),some (.ref al)]∧Ow T H H' [(lw,.lst ((bW S.ls k l.day i).map V.int))])) ⟨trivial,none,none,rfl,O.mk' hlw rfl⟩ (fun i τ H' _ ⟨_,_,_,_,O⟩=>O.same.seq hL) ?_ ?_
      · clear O
        rintro i y T0 τ H5 hy ⟨-,v0,v1,rfl,O⟩ hT0
        obtain ⟨a2,l2,rfl,hl2,hT2⟩:=d0.lu hy
        have hi:=(List.getElem?_eq_some_iff.mp hl2).1
        have hml:=jr S.ls k l.day i
        walk_at "nw"
        refine ⟨T0,_,rfl,O.sqT 0,rfl,_,_,rfl,_,_,rfl,rfl,?_⟩
        have O:=O.tail
        have no:¬ (i≠k∧l2.day=l.day∧0<l2.most)→bW S.ls k l.day (i + 1)=bW S.ls k l.day i:=fun h=>by
          rw [bW,hl2];simp only [if_neg h,List.append_nil]
        have D5:=dA0.mo O.same
        refine ⟨_,rfl,_,rfl,t,_,1,_,rfl,rfl,D5,rfl,rfl,_,rfl,ifN (ifI (fun e1=>?_) (fun e1=>?_))⟩
        · exact ⟨trivial,_,_,rfl,by rw [no fun z=>z.1 (by have e1:(i:Int)=(k:Int):=e1;omega)];exact O⟩
        refine ⟨_,rfl,a2,_,0,_,rfl,rfl,hT2.mo O.same,rfl,_,rfl,al,_,0,_,rfl,rfl,hT.mo O.same,rfl,rfl,_,rfl,ifI (fun e2=>?_) (fun e2=>?_)⟩
        rotate_left
        · exact ⟨trivial,_,_,rfl,by rw [no fun z=>e2 z.2.1];exact O⟩
        refine ⟨_,rfl,a2,_,3,_,rfl,rfl,hT2.mo O.same,rfl,_,_,rfl,rfl,_,rfl,ifD (fun e3=>?_) (fun e3=>?_)⟩
        rotate_left
        · exact ⟨trivial,_,_,rfl,by rw [no fun z=>e3 z.2.2];exact O⟩
        refine ⟨_,O.get 0,aR (by rw [List.length_map];omega),?_⟩
        walk_at "pt"
        refine ⟨trivial,_,_,rfl,?_⟩
        rw [bW,hl2]
        simp only [if_pos (show i≠k∧l2.day=l.day∧0<l2.most from ⟨fun z=>e1 (by rw [z]),e2,e3⟩)]
        rw [List.map_append];exact O
      clear O
      rintro τ H5 ⟨-,v0,v1,rfl,O⟩
      rw [hul] at O
      have dA:=dA0.mo O.same
      refine ⟨_,rfl,t,_,0,_,rfl,rfl,dA,rfl,rfl,_,rfl,jl rfl ?_⟩
      refine ⟨_,rfl,t,_,0,_,rfl,rfl,dA,rfl,rfl,_,rfl,jl rfl ?_⟩
      refine ⟨_,rfl,t,_,0,_,rfl,rfl,dA,rfl,rfl,_,rfl,jU ?_⟩
      refine ⟨_,rfl,_,rfl,t,_,3,_,rfl,rfl,dA,rfl,_,rfl,al,_,2,_,rfl,rfl,hT.mo O.same,rfl,lv,r,st,l.back,rfl,O.same.seq hV,hS.rv,by omega,O.same.t1,fun o H6 ho s6=>?_⟩
      have hlo:=hS.lo l (List.mem_of_getElem? hl)
      have hil:rO r (wst l st)↔Qt r st l.back:=⟨fun z=>⟨z.1.2.2.1,z.1.2.2.2.1,z.2⟩,fun z=>⟨⟨hlo.1.1,hlo.1.2,z.1,z.2.1,hlo.2.1,hlo.2.2⟩,z.2.2⟩⟩
      cases o with
      | false=>exact ⟨_,rfl,jU (qq _ _ (O.same.trans s6) (hst.trans (if_pos fun z=>nomatch ho.mpr (hil.mp z))))⟩
      | true=>exact ⟨_,rfl,qy (qo _ _ (O.same.trans s6) (hst.trans (if_neg (not_not_intro (hil.mpr (ho.mp rfl))))))⟩
def Xr:lO→Prop
  | .file x _ _ _=>Dr x
  | .sell _ _ z=>Dr z
  | .part _ _ _ z=>Dr z
  | .lapse xs=>xs.length≤1000
  | .turn=>False
  | _=>True
def uc (x:Int):Bool:=decide (x<0) || decide (1000000000000<x)
theorem vd {xs:List Int}:xs.filter uc=[]↔∀ x∈xs,0≤x∧x≤1000000000000:=by
  rw [List.filter_eq_nil_iff]
  constructor
  · intro h x hx
    have:=h x hx
    unfold uc at this
    simp only [Bool.or_eq_true,decide_eq_true_eq,not_or] at this
    omega
  · intro h x hx
    have:=h x hx
    unfold uc
    simp only [Bool.or_eq_true,decide_eq_true_eq,not_or]
    omega
abbrev fX:Stmt:=top 55
theorem sY:aQ ["deed","below","lines","owners"] ["deed","below","lines","owners"] (ak fX):=⟨rfl,rfl,rfl,by decide +kernel,rfl,by decide +kernel,by decide +kernel⟩
def DG (K:PySem.W.Frag) (T:eX):Sp:=fun vs H Q _=>∃ (t lv ll lo:Addr) (r:List Int) (us:List V) (S:RS) (d:lO),vs=[.ref t,.ref lv,.ref ll,.ref lo]∧Bv K H t d∧SqL K H lv (r.map V.int)∧SqL K H ll us∧dM K H us (S.ls.map mZ)∧SqL K H lo (S.ns.map V.str)∧S56 r S∧Xr d∧TabsOk T H∧∀ H',aY T H H'→Q (.str (Xm (step r S d))) H'
theorem Ri {f f1 f2:Addr} {fd fd1 fd2:FuncData} (D:Df K mg "_law_due" fX ["deed","below","lines","owners"] f fd) (B:Blt mg)
    (bT:Df K mg "_law_is_let" cJ ["below","start","back"] f1 fd1) (jE:bN P w K mg base CX0 2 f1 fd1 ["below","start","back"] (wg K T))
    (dh:Df K mg "_law_due_first" bJ ["deed","below","lines","owners"] f2 fd2) (m8:bN P w K mg base CX0 3 f2 fd2 ["deed","below","lines","owners"] (wu K T)):bN P w K mg base CX0 4 f fd ["deed","below","lines","owners"] (DG K T):=by
  refine D.F.ok sY (fun vs H Q E h=>?_) (fun cdv A outer s H vs Q E hr h=>?_)
  · obtain ⟨_,_,_,_,_,_,_,_,rfl,_⟩:=h;rfl
  · obtain ⟨t,lv,ll,lo,r,us,S,d,rfl,dA,hV,hL,d0,hN,hS,hto,tk,q⟩:=h
    have hu:=hr.units
    have O:=Ow.refl tk
    have hul:us.length=S.ls.length:=by rw [d0.length,List.length_map]
    have hnn:=hS.nn
    have h60:=hS.l60
    have hr40:=hS.r40
    have qq:∀ (k:EK) H',aY T H H'→step r S d=.error k→Q (.str (mU k)) H':=fun k H' s e=>by have:=q H' s;rw [e] at this;exact this
    have qo:∀ S' H',aY T H H'→step r S d=.ok S'→Q (.str "") H':=fun S' H' s e=>by have:=q H' s;rw [e] at this;exact this
    have dA0:=dA
    have p12:(10:Int) ^ (12:Int).toNat=1000000000000:=by decide
    refine ⟨_,(au (bY (aJ fj (aF aV (pv 0) ao (fun _ _=>rfl)) aL (aP _))
        (au (bY (aJ jQ (aF aV (pv 0) ao (fun _ _=>rfl)) (bK (aj aL (aj aL aq))) (by rfl))
          (aC (aW aL))
          aU)
        (au (bY (PW.pt (pw_or (iD (jN (aZ jE (hr.mono (by decide)) rfl bT.m bT.F.kp bT.b .nil cM (aj (pv 1) (aj (aF aV (pv 0) ao (fun _ _=>rfl)) (aj (aF aV (pv 0) ao (fun _ _=>rfl)) aq)))))) (pw_or1 (iD (jf kE kE ao (aF aV (pv 0) ao (fun _ _=>rfl)) (aH pA ao ao))))))
          (aC (aW aL))
          aU)
        (aC (aW (aF aD (bK (aj aL (aj aL aq))) (fM lM rfl B.int PyProof.Rows.boot_int (aj (jC fj (aK aM rfl B.len PySem.boot_len (aj (pv 2) aq)) ao (aP _)) aq)) (fun _ _=>rfl))))))
        aU)
      (au (bY (aJ fj (aF aV (pv 0) ao (fun _ _=>rfl)) aL (aP _))
        (au (bY (aJ nR (aK aM rfl B.len PySem.boot_len (aj (aF aV (pv 0) ao (fun _ _=>rfl)) aq)) (aK aM rfl B.len PySem.boot_len (aj (pv 2) aq)) (aP _))
          (aC (aW aL))
          aU)
        (aC (aW (aF aD (bK (aj aL (aj aL aq))) (fM lM rfl B.int PyProof.Rows.boot_int (aj (jC (wQ hu) (lW (ak fX) rfl ["deed","below","lines","owners"] rfl ["x"] [none] (by decide +kernel) (by decide +kernel) (by decide +kernel) rfl (p8 (aF aV (pv 0) ao (fun _ _=>rfl))) (fun _ _ _=>(bL (i:=0) (show (["x"]:List Str).Nodup by decide +kernel) rfl (Or.inl rfl))) (fun _ _ _=>(p7 (PW.pt (pw_or (aJ mX (pv 0) ao (aP _)) (pw_or1 (aJ wU (pv 0) (aH pA ao ao) (aP _))))))) (fun _ _ _=>(pv 0))) (bK aq) (aP _)) aq)) (fun _ _=>rfl)))))
        aU)
      (aC (aW (aZ m8 (hr.mono (by decide)) rfl dh.m dh.F.kp dh.b .nil cM (aj (pv 0) (aj (pv 1) (aj (pv 2) (aj (pv 3) aq))))))))),?_⟩
    cases d with
    | turn=>exact hto.elim
    | file x st m b =>
      have hto:(x="a"∨x="b")↔gR x:=hto
      refine ⟨_,rfl,t,_,0,_,rfl,rfl,dA,rfl,rfl,_,rfl,jU ?_⟩
      refine ⟨_,rfl,t,_,1,_,rfl,rfl,dA,rfl,szl,fun l1 h1'=>?_⟩
      walk_at "nw"
      refine ⟨l1,[V.str "a",V.str "b"],rfl,.inl (O.sq 0),rfl,rfl,_,rfl,?_⟩
      rw [if_pos rfl,OJ]
      refine ifN (ifD (fun hab=>?_) (fun hab=>?_))
      rotate_left
      · exact qq .holder _ O.same (if_pos fun z=>hab (hto.mpr z))
      have hst:step r S (.file x st m b)=_:=if_neg (not_not_intro (hto.mp hab))
      have O:=O.tail
      have dA:=dA0.mo O.same
      refine ⟨_,rfl,_,rfl,t,_,2,_,rfl,rfl,dA,rfl,_,rfl,t,_,4,_,rfl,rfl,dA,rfl,lv,r,st,b,rfl,O.same.seq hV,hS.rv,by omega,O.same.t1,fun o H6 ho s6=>?_⟩
      have O:=O.m6 s6
      have dA:=dA0.mo O.same
      have hil:(m=0∨¬ rO r ⟨S.day,st,b,m⟩)↔¬ (Qt r st b∧1≤m∧m≤1000000000000):=by
        constructor
        · rintro (z | z) ⟨w1,w2,w3⟩
          · omega
          · exact z ⟨⟨hS.sd.1,hS.sd.2,w1.1,w1.2.1,by show 0≤m;omega,w3⟩,w1.2.2⟩
        · intro z
          by_cases hm:m=0
          · exact .inl hm
          · refine .inr fun w=>z ⟨⟨w.1.2.2.1,w.1.2.2.2.1,w.2⟩,?_,w.1.2.2.2.2.2⟩
            have:0≤m:=w.1.2.2.2.2.1
            omega
      cases o with
      | false=>exact ⟨_,rfl,jU (qq .licence _ O.same (hst.trans (if_pos (hil.mpr fun z=>nomatch ho.mpr z.1))))⟩
      | true =>
      refine ⟨_,rfl,qy ?_⟩
      refine ⟨_,rfl,t,_,3,_,rfl,rfl,dA,rfl,_,_,rfl,rfl,_,rfl,ifD (fun m0=>?_) (fun m0=>?_)⟩
      rotate_left
      · exact ⟨_,rfl,jU (qq .licence _ O.same (hst.trans (if_pos (hil.mpr fun z=>m0 z.2.1))))⟩
      refine ⟨_,_,rfl,rfl,⟨by decide,by decide,by decide⟩,?_⟩
      dsimp only
      rw [p12]
      refine ⟨_,_,rfl,rfl,_,rfl,ifN (ifD (fun m1=>?_) (fun m1=>?_))⟩
      rotate_left
      · exact qq .licence _ O.same (hst.trans (if_pos (hil.mpr fun z=>m1 z.2.2)))
      have hst:=hst.trans (if_neg fun z=>(hil.mp z) ⟨ho.mp rfl,m0,m1⟩)
      refine ⟨szl,fun lp hp=>?_⟩
      walk_at "nw"
      refine ⟨_,rfl,ll,_,rfl,.inl (O.same.seq hL),rfl,.inr ⟨_,rfl,?_⟩⟩
      by_cases hf:us.length=60
      · rw [decide_eq_true (show V.int (us.length:Int)=V.int 60 by rw [hf];rfl)]
        exact ⟨lp,_,1,_,rfl,rfl,O.sq 0,rfl,qq .full _ O.same (hst.trans (if_pos (by omega)))⟩
      · rw [decide_eq_false (show ¬ V.int (us.length:Int)=V.int 60 from fun z=>hf (by have:=V.int.inj z;omega))]
        exact ⟨lp,_,0,_,rfl,rfl,O.sq 0,rfl,qo _ _ O.same (hst.trans (if_neg (by omega)))⟩
    | lapse xs =>
      have hx1:xs.length≤1000:=hto
      obtain ⟨a,hT,hA⟩:=dA
      have hxm:(xs.map V.int).length=xs.length:=List.length_map _
      refine ⟨_,rfl,t,_,0,_,rfl,rfl,hT,rfl,rfl,_,rfl,jl rfl ?_⟩
      refine ⟨_,rfl,t,_,0,_,rfl,rfl,hT,rfl,rfl,_,rfl,jU ?_⟩
      refine ⟨_,rfl,t,_,1,_,rfl,rfl,hT,rfl,a,_,rfl,.inl hA,_,rfl,ll,_,rfl,.inl hL,rfl,_,rfl,ifN (ifI (fun hlen=>?_) (fun hlen=>?_))⟩
      rotate_left
      · exact qq .number _ O.same (if_pos fun z=>hlen (by rw [hxm,hul,z]))
      have hll:xs.length=S.ls.length:=by rw [hxm] at hlen;omega
      have hst:step r S (.lapse xs)=_:=if_neg (not_not_intro hll)
      refine ⟨szl,fun lp hp=>?_⟩
      walk_at "nw"
      refine ⟨_,rfl,t,_,1,_,rfl,rfl,O.same.Od hT,rfl,a,rfl,⟨_,O.same.seq hA⟩,fun lw hlw=>?_⟩
      refine oF (K:=K) (xs:=xs.map V.int) (fun i τ H'=>Iv (∃ (v0:Option V),τ=[v0]∧Ow T H H' [(lw,.lst (((xs.take i).filter uc).map V.int)),(lp,.lst [V.str "",V.str "much"])])) ⟨trivial,none,rfl,O.mk' hlw rfl⟩ (fun i τ H' _ ⟨_,_,_,O⟩=>O.same.seq hA) ?_ ?_
      · clear O
        rintro i y τ H5 hy ⟨-,v0,rfl,O⟩
        obtain ⟨z,hz,rfl⟩:=ints_get hy
        have hi:=(List.getElem?_eq_some_iff.mp hz).1
        have hfl:((xs.take i).filter uc).length≤i:=Nat.le_trans (List.length_filter_le _ _) (by rw [List.length_take];omega)
        have yes:uc z=true→Iv (∃ (v0:Option V),[some (V.int z)]=[v0]∧Ow T H (upd H5 lw (.lst (((xs.take i).filter uc).map V.int++[V.int z]))) [(lw,.lst (((xs.take (i + 1)).filter uc).map V.int)),(lp,.lst [V.str "",V.str "much"])]):=fun hb=>by
          refine ⟨trivial,_,rfl,?_⟩
          rw [Tn.jm hz,List.filter_append,List.map_append]
          have:[z].filter uc=[z]:=by simp [hb]
          rw [this]
          exact O.Oi 0 rfl rfl
        refine ⟨_,rfl,_,_,rfl,rfl,_,rfl,ifD (fun h1=>?_) (fun h1=>?_)⟩
        · exact ⟨_,rfl,_,O.get 0,aR (by rw [List.length_map];omega),yes (by unfold uc;rw [decide_eq_true (show z<0 from h1)];rfl)⟩
        refine ⟨_,rfl,_,_,rfl,rfl,⟨by decide,by decide,by decide⟩,?_⟩
        dsimp only
        rw [p12]
        refine ⟨_,_,rfl,rfl,_,rfl,ifD (fun h2=>?_) (fun h2=>?_)⟩
        · exact ⟨_,rfl,_,O.get 0,aR (by rw [List.length_map];omega),yes (by unfold uc;rw [decide_eq_true (show 1000000000000<z from h2),Bool.or_true])⟩
        · refine ⟨trivial,_,rfl,?_⟩
          rw [Tn.jm hz,List.filter_append]
          have:[z].filter uc=[]:=by
            have hb:uc z=false:=by unfold uc;rw [decide_eq_false (show ¬ z<0 from h1),decide_eq_false (show ¬ 1000000000000<z from h2)];rfl
            simp [hb]
          rw [this,List.append_nil];exact O
      clear O
      rintro τ H5 ⟨-,v0,rfl,O⟩
      rw [hxm,List.take_length] at O
      refine ⟨szl,fun lz hlz=>?_⟩
      walk_at "nw"
      refine ⟨lw,lz,_,[],rfl,rfl,O.sq 1,O.sq 0,.inr ⟨_,rfl,?_⟩⟩
      rw [if_pos rfl]
      by_cases hb:xs.filter uc=[]
      · rw [decide_eq_true hb]
        exact ⟨lp,_,0,_,rfl,rfl,O.sq 2,rfl,qo _ _ O.same (hst.trans (if_neg (not_not_intro (vd.mp hb))))⟩
      · rw [decide_eq_false hb]
        exact ⟨lp,_,1,_,rfl,rfl,O.sq 2,rfl,qq .much _ O.same (hst.trans (if_pos fun z=>hb (vd.mpr z)))⟩
    | sell n y z =>
      refine ⟨_,rfl,t,_,0,_,rfl,rfl,dA,rfl,rfl,_,rfl,jl rfl ?_⟩
      refine ⟨_,rfl,t,_,0,_,rfl,rfl,dA,rfl,rfl,_,rfl,jl rfl ?_⟩
      exact ⟨_,rfl,_,rfl,_,rfl,_,rfl,t,lv,ll,lo,r,us,S,_,rfl,dA0,hV,hL,d0,hN,hS,hto,tk,q⟩
    | part n y m z =>
      refine ⟨_,rfl,t,_,0,_,rfl,rfl,dA,rfl,rfl,_,rfl,jl rfl ?_⟩
      refine ⟨_,rfl,t,_,0,_,rfl,rfl,dA,rfl,rfl,_,rfl,jl rfl ?_⟩
      exact ⟨_,rfl,_,rfl,_,rfl,_,rfl,t,lv,ll,lo,r,us,S,_,rfl,dA0,hV,hL,d0,hN,hS,hto,tk,q⟩
    | drop n y =>
      refine ⟨_,rfl,t,_,0,_,rfl,rfl,dA,rfl,rfl,_,rfl,jl rfl ?_⟩
      refine ⟨_,rfl,t,_,0,_,rfl,rfl,dA,rfl,rfl,_,rfl,jl rfl ?_⟩
      exact ⟨_,rfl,_,rfl,_,rfl,_,rfl,t,lv,ll,lo,r,us,S,_,rfl,dA0,hV,hL,d0,hN,hS,trivial,tk,q⟩
    | move n y st =>
      refine ⟨_,rfl,t,_,0,_,rfl,rfl,dA,rfl,rfl,_,rfl,jl rfl ?_⟩
      refine ⟨_,rfl,t,_,0,_,rfl,rfl,dA,rfl,rfl,_,rfl,jl rfl ?_⟩
      exact ⟨_,rfl,_,rfl,_,rfl,_,rfl,t,lv,ll,lo,r,us,S,_,rfl,dA0,hV,hL,d0,hN,hS,trivial,tk,q⟩
theorem V9 {x:Str} (h:∀ c∈x.cps.toList,c<128) (hs:x.cps.size≤1000):Asc x:=by
  refine ⟨?_,hs⟩
  rw [Array.all_eq_true]
  intro i hi
  exact decide_eq_true (h _ (Array.getElem_mem_toList hi))
theorem BK:∀ n:Fin 8,(Txt.slice "abcdefgh" none (some ((n.val:Int) + 1))).length=n.val + 1:=by decide +kernel
theorem BJ:∀ c∈("abcdefgh":Str).cps.toList,c<128:=by decide +kernel
theorem Ob:∀ i:Fin 10,∃ c,("AZ09 _-.{`":Str).cps[i.val]?=some c∧c<128∧¬ (97≤c∧c≤122):=by decide +kernel
theorem CK:¬ gR "":=fun h=>absurd h.1 (by decide +kernel)
theorem xq:¬ gR "abcdefghi":=fun h=>absurd h.2.1 (by decide +kernel)
abbrev cg:Stmt:=top 50
theorem gq:aQ ["number","word","at","sign"] ["number"] (ak cg):=⟨rfl,rfl,rfl,by decide +kernel,rfl,by decide +kernel,by decide +kernel⟩
def DN (T:eX):Sp:=fun vs H Q _=>∃ (n:Int),vs=[.int n]∧TabsOk T H∧∀ (x:Str) H',Asc x→¬ gR x→aY T H H'→Q (.str x) H'
theorem Rk {f:Addr} {fd:FuncData} (D:Df K mg "_law_bad_name" cg ["number"] f fd) (B:Blt mg):bN P w K mg base CX0 1 f fd ["number"] (DN T):=by
  refine D.F.ok gq (fun vs H Q E h=>?_) (fun cdv A outer s H vs Q E hr h=>?_)
  · obtain ⟨_,rfl,_⟩:=h;rfl
  · obtain ⟨n,rfl,tk,q⟩:=h
    have O:=Ow.refl tk
    have a0:=Int.emod_nonneg n (show (8:Int)≠0 by decide)
    have a1:=Int.emod_lt_of_pos n (show (0:Int)<8 by decide)
    obtain ⟨k,hk⟩:=Int.eq_ofNat_of_zero_le a0
    refine ⟨_,(au (bf (i:=1) gq.nd rfl (Or.inl rfl) (jg wB aL kW (jB (aH cD ao (aH bF (pv 0) ao)))))
      (au (bf (i:=2) gq.nd rfl (Or.inl rfl) (aH bF (aH cW (pv 0) ao) (aK mQ rfl B.len PySem.boot_len (aj (pv 1) aq))))
      (au (bf (i:=3) gq.nd rfl (Or.inl rfl) (nQ aL (aH bF (aH cW (pv 0) ao) ao) (fun _ _=>rfl)))
      (aC (aW (aF aD (bK (aj aL (aj aL (aj (aH pB (aH pB (jg wB (pv 1) kW (jB (pv 2))) (pv 3)) (jg wB (pv 1) (jB (aH cD (pv 2) ao)) kW)) aq)))) (aH bF (aH cW (pv 0) ao) ao) (fun _ _=>rfl))))))),?_⟩
    refine ⟨_,rfl,_,_,rfl,rfl,(by show (0:Int)<8;decide),_,_,rfl,rfl,_,rfl,_,rfl,(by decide +kernel),?_⟩
    dsimp only
    have hwl:(Txt.slice "abcdefgh" none (some (1 + n % 8))).length=k + 1:=by
      rw [hk,Int.add_comm];exact BK ⟨k,by omega⟩
    have hws:∀ c∈(Txt.slice "abcdefgh" none (some (1 + n % 8))).cps.toList,c<128:=fun c hc=>BJ c (nF hc)
    generalize Txt.slice "abcdefgh" none (some (1 + n % 8))=wd at hwl hws
    have b0:=Int.emod_nonneg (n / 8) (show (wd.length:Int)≠0 by omega)
    refine ⟨_,rfl,_,_,rfl,rfl,⟨by decide,by decide⟩,_,rfl,wd,rfl,(by rw [sizeLine_eq];omega),_,_,rfl,rfl,(by show (0:Int)<(wd.length:Int);omega),?_⟩
    dsimp only
    generalize n / 8 % (wd.length:Int)=at_ at b0
    have c0:=Int.emod_nonneg (n / 64) (show (10:Int)≠0 by decide)
    have c1:=Int.emod_lt_of_pos (n / 64) (show (0:Int)<10 by decide)
    obtain ⟨sg,g1,g2,g3⟩:=Ob ⟨(n / 64 % 10).toNat,by omega⟩
    refine ⟨_,rfl,_,_,rfl,rfl,⟨by decide,by decide⟩,_,_,rfl,rfl,(by show (0:Int)<10;decide),_,_,_,rfl,rfl,c0,(by show n / 64 % 10<2 ^ 63;omega),c1,g1,?_⟩
    have hl1:=Txt.slice_le wd none (some at_)
    have hl2:=Txt.slice_le wd (some (at_ + 1)) none
    refine ⟨_,rfl,_,rfl,_,rfl,wd,rfl,by omega,_,rfl,_,_,rfl,rfl,(by show (Txt.slice wd none (some at_)).length + 1≤sizeLine;rw [sizeLine_eq];omega),_,rfl,_,rfl,_,_,rfl,rfl,_,rfl,wd,rfl,by omega,_,_,rfl,rfl,?_,szl,fun l1 h1=>?_⟩
    · show (Txt.slice wd none (some at_)++(⟨#[sg]⟩:Str)).length + (Txt.slice wd (some (at_ + 1)) none).length≤sizeLine
      have:(Txt.slice wd none (some at_)++(⟨#[sg]⟩:Str)).length=(Txt.slice wd none (some at_)).length + 1:=by
        show (_++_:Array Nat).size=_
        rw [Array.size_append];rfl
      rw [this,sizeLine_eq];omega
    walk_at "nw"
    have d0:=Int.emod_nonneg (n / 640) (show (3:Int)≠0 by decide)
    have d1:=Int.emod_lt_of_pos (n / 640) (show (0:Int)<3 by decide)
    have hcp:(Txt.slice wd none (some at_)++(⟨#[sg]⟩:Str)++Txt.slice wd (some (at_ + 1)) none).cps.toList=(Txt.slice wd none (some at_)).cps.toList++[sg]++(Txt.slice wd (some (at_ + 1)) none).cps.toList:=by
      show (_++_++_:Array Nat).toList=_
      rw [Array.toList_append,Array.toList_append]
    generalize Txt.slice wd none (some at_)++(⟨#[sg]⟩:Str)++Txt.slice wd (some (at_ + 1)) none=bad at O hcp
    have hb1:¬ gR bad:=fun h=>g3 (h.2.2 sg (by rw [hcp];simp))
    have hb2:Asc bad:=by
      refine V9 (fun c hc=>?_) ?_
      · rw [hcp,List.mem_append,List.mem_append] at hc
        rcases hc with (h | h) | h
        · exact hws c (nF h)
        · rw [List.mem_singleton.mp h];exact g2
        · exact hws c (nF h)
      · have e4:bad.cps.size=(Txt.slice wd none (some at_)).cps.size + 1 + (Txt.slice wd (some (at_ + 1)) none).cps.size:=by
          rw [← Array.length_toList,hcp];simp;omega
        have e1:(Txt.slice wd none (some at_)).cps.size≤wd.length:=hl1
        have e2:(Txt.slice wd (some (at_ + 1)) none).cps.size≤wd.length:=hl2
        omega
    obtain ⟨x,hx,ax,nx⟩:∃ x,atI [V.str "",V.str "abcdefghi",V.str bad] (n / 640 % 3)=some (V.str x)∧Asc x∧¬ gR x:=by
      rcases (by omega:n / 640 % 3=0∨n / 640 % 3=1∨n / 640 % 3=2) with e | e | e <;> rw [e]
      · exact ⟨_,rfl,⟨by decide +kernel,by decide +kernel⟩,CK⟩
      · exact ⟨_,rfl,⟨by decide +kernel,by decide +kernel⟩,xq⟩
      · exact ⟨_,rfl,hb2,hb1⟩
    exact ⟨_,rfl,_,_,rfl,rfl,⟨by decide,by decide⟩,_,_,rfl,rfl,(by show (0:Int)<3;decide),l1,_,_,_,rfl,rfl,O.sq 0,hx,q x _ ax nx O.same⟩
theorem V5 (ns:List Int) (lo hi:Option Int):∃ ms:List Int,tX (ns.map V.int) lo hi=ms.map V.int∧ms.length≤ns.length:=by
  unfold tX
  rw [← List.map_drop,← List.map_take]
  exact ⟨_,rfl,by rw [List.length_take,List.length_drop];omega⟩
abbrev dz:Stmt:=top 56
theorem iJ:aQ ["xs","lines","numbers","bad"] ["xs","lines"] (ak dz):=⟨rfl,rfl,rfl,by decide +kernel,rfl,by decide +kernel,by decide +kernel⟩
def Dy (K:PySem.W.Frag) (T:eX):Sp:=fun vs H Q _=>∃ (lx ll:Addr) (xs:List Int) (us:List V) (ls:List Lic),vs=[.ref lx,.ref ll]∧SqL K H lx (xs.map V.int)∧xs.length=11∧(∀ x∈xs,0≤x∧x<1000000007)∧SqL K H ll us∧dM K H us (ls.map mZ)∧(∀ l∈ls,0≤l.most)∧1≤ls.length∧ls.length≤60∧TabsOk T H ∧
  ∀ (t a:Addr) (ys:List Int) H',Ow T H H' [(t,.tup [.str "lapse",.ref a]),(a,.lst (ys.map V.int))]→ys.length≤1000→Q (.ref t) H'
theorem Rb {f:Addr} {fd:FuncData} (D:Df K mg "_law_lapse" dz ["xs","lines"] f fd) (B:Blt mg):bN P w K mg base CX0 1 f fd ["xs","lines"] (Dy K T):=by
  refine D.F.ok iJ (fun vs H Q E h=>?_) (fun cdv A outer s H vs Q E hr h=>?_)
  · obtain ⟨_,_,_,_,_,rfl,_⟩:=h;rfl
  · obtain ⟨lx,ll,xs,us,ls,rfl,hX,h11,hx0,hL,d0,hlo,hl1,hl60,tk,q⟩:=h
    have O:=Ow.refl tk
    have g:∀ k:Nat,k<11→xs[k]?=some (xs.getD k 0):=fun k hk=>lK (by omega)
    have gb:∀ k:Nat,k<11→0≤xs.getD k 0∧xs.getD k 0<1000000007:=fun k hk=>hx0 _ (List.mem_of_getElem? (g k hk))
    have g3:=gb 3 (by decide)
    have hul:us.length=ls.length:=by rw [d0.length,List.length_map]
    have p12:(10:Int) ^ (12:Int).toNat=1000000000000:=by decide
    refine ⟨_,(au (iM (i:=2) (ak dz) rfl ["xs","lines","numbers","bad"] rfl ["k","line","xs"] [none,none,some 0] (by decide +kernel) (by decide +kernel) (by decide +kernel) rfl iJ.nd rfl rfl (lV rfl B.enumerate (aj (pv 1) aq)) (fun _ _ _=>(qb (K:=K) (n:=2) rfl rfl (cL (bL (i:=0) (show (["k","line","xs"]:List Str).Nodup by decide +kernel) rfl (Or.inl rfl)) (cL (bL (i:=1) (show (["k","line","xs"]:List Str).Nodup by decide +kernel) rfl (Or.inl rfl)) jP)))) (fun _ _ _=>jM) (fun _ _ _=>(aH bF (aH cW (aF (lJ (K:=K) rfl) (pv 2) ao (fun _ _=>rfl)) (aH cD (pv 0) ao)) (aH cD (aF (nZ (K:=K) rfl) (pv 1) ao (fun _ _=>rfl)) ao))) rfl)
      (au (bf (i:=3) iJ.nd rfl (Or.inl rfl) (aF aD (bK (aj (kY iU ao) (aj (aH cD (aH pA ao ao) ao) (aj (aH kI ao (aF aD (pv 0) ao (fun _ _=>rfl))) (aj (aH cD (aH cD (aH pA ao ao) ao) (aH mK (aF aD (pv 0) ao (fun _ _=>rfl)) (aF aD (pv 0) ao (fun _ _=>rfl)))) aq))))) (aH bF (aF aD (pv 0) ao (fun _ _=>rfl)) ao) (fun _ _=>rfl)))
      (gP (bY (aJ wU (aH bF (aF aD (pv 0) ao (fun _ _=>rfl)) ao) ao (aP _))
        (aC (jO (pv 3) (lG (pv 2) (aH bF (aF aD (pv 0) ao (fun _ _=>rfl)) (aK aM rfl B.len PySem.boot_len (aj (pv 2) aq))) set_list)))
        aU)
      (gP (bY (aJ mX (aH bF (aF aD (pv 0) ao (fun _ _=>rfl)) ao) ao (aP _))
        (aC (bf (i:=2) iJ.nd rfl (Or.inl rfl) (aF aD (bK (aj (aH rA (pv 2) (bK (aj ao aq))) (aj (jg nG (pv 2) kW (jB (kY iU ao))) aq))) (aH bF (aF aD (pv 0) ao (fun _ _=>rfl)) ao) (fun _ _=>rfl))))
        aU)
      (aC (aW (fY (aj aL (aj (pv 2) aq))))))))),?_⟩
    refine ⟨_,rfl,ll,us,rfl,hL,fun lw hlw=>?_⟩
    refine iV (K:=K) (xs:=us) (fun i τ H'=>Iv (∃ (v0 v1:Option V) (ms:List Int),τ=[v0,v1,some (.ref lx)]∧ms.length=i∧Ow T H H' [(lw,.lst (ms.map V.int))])) ⟨trivial,none,none,[],rfl,rfl,O.mk' hlw rfl⟩ (fun i τ H' _ ⟨_,_,_,_,_,_,O⟩=>O.same.seq hL) ?_ ?_
    · clear O
      rintro i y T0 τ H5 hy ⟨-,v0,v1,ms,rfl,hml,O⟩ hT0
      obtain ⟨al,l2,rfl,hl2,hT2⟩:=d0.lu hy
      have hi:=(List.getElem?_eq_some_iff.mp hl2).1
      have hlm:=hlo l2 (List.mem_of_getElem? hl2)
      walk_at "nw"
      refine ⟨T0,_,rfl,O.sqT 0,rfl,_,_,rfl,_,_,rfl,rfl,?_⟩
      have O:=O.tail
      refine Xc ?_
      refine ⟨_,rfl,lx,_,8,_,rfl,rfl,O.same.seq hX,aN (i:=8) (g 8 (by decide)),_,rfl,_,_,rfl,rfl,_,_,rfl,rfl,(show Bs _ _ from ⟨by omega,by omega⟩),_,rfl,al,_,3,_,rfl,rfl,hT2.mo O.same,rfl,_,_,rfl,rfl,_,_,rfl,rfl,(by show (0:Int)<l2.most + 1;omega),?_⟩
      dsimp only
      generalize xs.getD 8 0 / ((i:Int) + 1) % (l2.most + 1)=z
      refine ⟨_,O.get 0,aR (by rw [List.length_map];omega),?_⟩
      walk_at "pt"
      refine ⟨trivial,_,_,ms++[z],rfl,by rw [List.length_append,hml];rfl,?_⟩
      rw [List.map_append];exact O
    clear O
    rintro τ H5 ⟨-,v0,v1,ms,rfl,hml,O⟩
    have w0:=Int.emod_nonneg (xs.getD 5 0) (show (4:Int)≠0 by decide)
    have w1:=Int.emod_lt_of_pos (xs.getD 5 0) (show (0:Int)<4 by decide)
    refine ⟨1,rfl,_,_,rfl,rfl,⟨by decide,by decide,by decide⟩,_,_,rfl,rfl,_,rfl,lx,_,3,_,rfl,rfl,O.same.seq hX,aN (i:=3) (g 3 (by decide)),_,_,rfl,rfl,_,_,rfl,rfl,⟨by decide,by decide,by decide⟩,_,_,rfl,rfl,_,rfl,lx,_,3,_,rfl,rfl,O.same.seq hX,aN (i:=3) (g 3 (by decide)),_,rfl,lx,_,4,_,rfl,rfl,O.same.seq hX,aN (i:=4) (g 4 (by decide)),_,_,rfl,rfl,.inl ⟨by omega,by omega⟩,_,_,rfl,rfl,szl,fun lb hb=>?_⟩
    walk_at "nw"
    refine ⟨_,rfl,lx,_,5,_,rfl,rfl,O.same.seq hX,aN (i:=5) (g 5 (by decide)),_,_,rfl,rfl,(by show (0:Int)<4;decide),lb,_,_,_,rfl,rfl,O.sq 0,ig (ns:=[_,_,_,_]) w0 (by simp only [List.length_cons,List.length_nil];omega),?_⟩
    have O:=O.tail
    generalize ([_,_,_,_]:List Int).getD _ 0=bd
    refine ⟨fun σ H'=>Iv (∃ ms:List Int,σ=[some (.ref lx),some (.ref ll),some (.ref lw),some (.int bd)]∧ms.length=us.length∧Ow T H H' [(lw,.lst (ms.map V.int))]),?_,?_⟩
    · refine ⟨_,rfl,lx,_,2,_,rfl,rfl,O.same.seq hX,aN (i:=2) (g 2 (by decide)),_,_,rfl,rfl,(by show (0:Int)<3;decide),_,_,rfl,rfl,_,rfl,ifD (fun _=>?_) (fun _=>⟨trivial,ms,rfl,hml,O⟩)⟩
      have hmi:(((ms.map V.int).length:Nat):Int)=(ms.length:Int):=by rw [List.length_map]
      have n0:=Int.emod_nonneg (xs.getD 6 0) (show (ms.length:Int)≠0 by omega)
      have n1:=Int.emod_lt_of_pos (xs.getD 6 0) (show (0:Int)<(ms.length:Int) by omega)
      obtain ⟨j,hj⟩:=Int.eq_ofNat_of_zero_le n0
      refine ⟨_,rfl,_,rfl,_,rfl,lx,_,6,_,rfl,rfl,O.same.seq hX,aN (i:=6) (g 6 (by decide)),_,rfl,lw,_,rfl,.inl (O.sq 0),_,_,rfl,rfl,(by rw [hmi];omega),?_⟩
      dsimp only
      rw [hmi,hj]
      refine mJ O 0 rfl (jT (by rw [List.length_map];omega)) fun H6 O=>?_
      refine ⟨trivial,ms.set j bd,rfl,by rw [List.length_set];exact hml,?_⟩
      rw [List.map_set];exact O
    clear O
    rintro σ H6 ⟨-,ms,rfl,hml,O⟩
    refine ⟨fun σ H'=>Iv (∃ (la:Addr) (ms:List Int),σ=[some (.ref lx),some (.ref ll),some (.ref la),some (.int bd)]∧ms.length≤100∧Ow T H H' [(la,.lst (ms.map V.int))]),?_,?_⟩
    · refine ⟨_,rfl,lx,_,2,_,rfl,rfl,O.same.seq hX,aN (i:=2) (g 2 (by decide)),_,_,rfl,rfl,(by show (0:Int)<3;decide),_,_,rfl,rfl,_,rfl,ifD (fun _=>?_) (fun _=>⟨trivial,lw,ms,rfl,by omega,O⟩)⟩
      refine ⟨_,rfl,szl,fun l5 h5=>?_⟩
      walk_at "nw"
      refine ⟨lw,l5,_,_,rfl,rfl,O.get 1,O.get 0,j4 (by rw [List.length_map];simp only [List.length_cons,List.length_nil];omega),fun l6 h6=>?_⟩
      walk_at "nw"
      refine ⟨_,rfl,1,rfl,_,rfl,lw,_,rfl,O.sq 2,fun l7 h7=>?_⟩
      walk_at "nw"
      obtain ⟨ns7,e7,hn7⟩:=V5 ms none (some (-1))
      rw [e7,show ms.map V.int++[V.int 5]=(ms++[5]).map V.int by rw [List.map_append];rfl] at O
      refine ⟨szl,fun l8 h8=>?_⟩
      walk_at "nw"
      have v0:=Int.emod_nonneg (xs.getD 7 0) (show (2:Int)≠0 by decide)
      have v1:=Int.emod_lt_of_pos (xs.getD 7 0) (show (0:Int)<2 by decide)
      rcases (by omega:xs.getD 7 0 % 2=0∨xs.getD 7 0 % 2=1) with e | e
      · refine ⟨_,rfl,lx,_,7,_,rfl,rfl,O.same.seq hX,aN (i:=7) (g 7 (by decide)),_,_,rfl,rfl,(by show (0:Int)<2;decide),l8,_,_,.ref l6,rfl,rfl,O.sq 0,(by rw [e];rfl),?_⟩
        exact ⟨trivial,l6,ms++[5],rfl,by rw [List.length_append];simp only [List.length_cons,List.length_nil];omega,O.tail.tail.sub (List.Sublist.cons₂ _ (List.nil_sublist _))⟩
      · refine ⟨_,rfl,lx,_,7,_,rfl,rfl,O.same.seq hX,aN (i:=7) (g 7 (by decide)),_,_,rfl,rfl,(by show (0:Int)<2;decide),l8,_,_,.ref l7,rfl,rfl,O.sq 0,(by rw [e];rfl),?_⟩
        exact ⟨trivial,l7,ns7,rfl,by omega,O.tail.sub (List.Sublist.cons₂ _ (List.nil_sublist _))⟩
    clear O
    rintro σ H7 ⟨-,la,ms,rfl,hml,O⟩
    refine ⟨_,rfl,szl,fun t ht=>?_⟩
    walk_at "nw"
    exact q t la ms _ O (by omega)
def d6L (t a:Addr):lO→List (Addr × HO)
  | .turn=>[]
  | .file x s m b=>[(t,.tup [.str "file",.str x,.int s,.int m,.int b])]
  | .sell n y z=>[(t,.tup [.str "sell",.int n,.str y,.str z])]
  | .part n y m z=>[(t,.tup [.str "part",.int n,.str y,.int m,.str z])]
  | .drop n y=>[(t,.tup [.str "drop",.int n,.str y])]
  | .move n y s=>[(t,.tup [.str "move",.int n,.str y,.int s])]
  | .lapse xs=>[(t,.tup [.str "lapse",.ref a]),(a,.lst (xs.map V.int))]
theorem Ql {K:PySem.W.Frag} {T:eX} {H0 H:Hp} {L:List (Addr × HO)} {t a:Addr} {d:lO} (hd:d≠.turn) (O:Ow T H0 H (d6L t a d++L)):∃ Hb,Ow T Hb H L∧aY T H0 Hb∧Bv K Hb t d:=by
  cases d with
  | turn=>exact absurd rfl hd
  | lapse xs =>
    obtain ⟨Hb,O,sb,e⟩:=(show Ow T H0 H (_ :: _ :: L) from O).frz
    obtain ⟨Hc,O,sc,e2⟩:=O.frz
    have e:=sc.keep _ _ e (fun _ z=>nomatch z)
    exact ⟨Hc,O,sb.trans sc,a,SqT.of e,SqL.of e2⟩
  | _=>obtain ⟨Hb,O,sb,e⟩:=(show Ow T H0 H (_ :: L) from O).frz;exact ⟨Hb,O,sb,SqT.of e⟩
theorem xr:gR "a":=⟨by decide +kernel,by decide +kernel,by decide +kernel⟩
theorem uP:gR "b":=⟨by decide +kernel,by decide +kernel,by decide +kernel⟩
theorem Wa:Asc "a":=⟨by decide +kernel,by decide +kernel⟩
theorem Dq:Asc "b":=⟨by decide +kernel,by decide +kernel⟩
theorem to_a:Dr "a":=⟨fun _=>xr,fun _=>.inl rfl⟩
theorem to_b:Dr "b":=⟨fun _=>uP,fun _=>.inr rfl⟩
theorem QD {x:Str} (h:¬ gR x):Dr x:=⟨fun z=>z.elim (fun e=>by rw [e];exact xr) (fun e=>by rw [e];exact uP),fun z=>absurd z h⟩
theorem vB (ns:List Int) {w:Int} (h0:0≤w) (h1:w<ns.length):∃ y,atI (ns.map V.int) w=some (V.int y):=⟨_,ig h0 h1⟩
theorem mY (a:Int) (n:Nat) (h:0<n):0≤a % (n:Int)∧a % (n:Int)<n:=⟨Int.emod_nonneg _ (by omega),Int.emod_lt_of_pos _ (by omega)⟩
abbrev fG:Stmt:=top 57
theorem bM:aQ ["xs","below","lines","owners","far","many","number","name","to","start","amount","kind","back"] ["xs","below","lines","owners"] (ak fG):=⟨rfl,rfl,rfl,by decide +kernel,rfl,by decide +kernel,by decide +kernel⟩
def wz (K:PySem.W.Frag) (T:eX):Sp:=fun vs H Q _=>∃ (lx lv ll ln:Addr) (xs r:List Int) (us:List V) (ls:List Lic) (ns:List Str),vs=[.ref lx,.ref lv,.ref ll,.ref ln]∧SqL K H lx (xs.map V.int)∧xs.length=11∧(∀ x∈xs,0≤x∧x<1000000007)∧SqL K H lv (r.map V.int)∧1≤r.length∧r.length≤40∧SqL K H ll us∧dM K H us (ls.map mZ)∧(∀ l∈ls,0≤l.most)∧1≤ls.length∧ls.length≤60∧SqL K H ln (ns.map V.str)∧ns.length=ls.length∧TabsOk T H ∧
  ∀ (t a:Addr) (d:lO) H',Ow T H H' (d6L t a d)→Xa d→Xr d→Q (.ref t) H'
theorem Ou {f f1 f2:Addr} {fd fd1 fd2:FuncData} (D:Df K mg "_law_deed" fG ["xs","below","lines","owners"] f fd) (B:Blt mg)
    (dJ:Df K mg "_law_bad_name" cg ["number"] f1 fd1) (oJ:bN P w K mg base CX0 1 f1 fd1 ["number"] (DN T))
    (gF:Df K mg "_law_lapse" dz ["xs","lines"] f2 fd2) (rT:bN P w K mg base CX0 1 f2 fd2 ["xs","lines"] (Dy K T)):bN P w K mg base CX0 2 f fd ["xs","below","lines","owners"] (wz K T):=by
  refine D.F.ok bM (fun vs H Q E h=>?_) (fun cdv A outer s H vs Q E hr h=>?_)
  · obtain ⟨_,_,_,_,_,_,_,_,_,rfl,_⟩:=h;rfl
  · obtain ⟨lx,lv,ll,ln,xs,r,us,ls,ns,rfl,hX,h11,hx0,hV,r1,r40,hL,d0,hlo,hl1,hl60,hN,hnn,tk,q⟩:=h
    have O:=Ow.refl tk
    have g:∀ k:Nat,k<11→xs[k]?=some (xs.getD k 0):=fun k hk=>lK (by omega)
    have gb:∀ k:Nat,k<11→0≤xs.getD k 0∧xs.getD k 0<1000000007:=fun k hk=>hx0 _ (List.mem_of_getElem? (g k hk))
    have g9:=gb 9 (by decide)
    have hul:us.length=ls.length:=by rw [d0.length,List.length_map]
    have hui:((us.length:Nat):Int)=(ls.length:Int):=by rw [hul]
    have hml:(((r.map V.int).length:Nat):Int)=(r.length:Int):=by rw [List.length_map]
    have ix:∀ {H'} (k:Nat),aY T H H'→k<11→SqL K H' lx (xs.map V.int)∧atI (xs.map V.int) (k:Int)=some (V.int (xs.getD k 0)):=fun k s hk=>⟨s.seq hX,aN (g k hk)⟩
    refine ⟨_,(au (bf (i:=4) bM.nd rfl (Or.inl rfl) (aH cD (aH mK (aF aD (pv 0) ao (fun _ _=>rfl)) (aF aD (pv 0) ao (fun _ _=>rfl))) ao))
      (au (bf (i:=5) bM.nd rfl (Or.inl rfl) (aK aM rfl B.len PySem.boot_len (aj (pv 1) aq)))
      (au (bf (i:=6) bM.nd rfl (Or.inl rfl) (aH bF (aF aD (pv 0) ao (fun _ _=>rfl)) (aK aM rfl B.len PySem.boot_len (aj (pv 2) aq))))
      (gP (bY (PW.pt (pw_and (aJ fj (aK aM rfl B.len PySem.boot_len (aj (pv 2) aq)) ao (aP _)) (pw_and1 (aJ fj (aH bF (aF aD (pv 0) ao (fun _ _=>rfl)) ao) ao (aP _)))))
        (aC (bf (i:=6) bM.nd rfl (Or.inl rfl) (aH bF (aF aD (pv 0) ao (fun _ _=>rfl)) ao)))
        aU)
      (au (bf (i:=7) bM.nd rfl (Or.inl rfl) (aF aD (pv 3) (pv 6) (fun _ _=>rfl)))
      (au (bf (i:=8) bM.nd rfl (Or.inl rfl) (aF aD (bK (aj aL (aj aL (aj (aZ oJ (hr.mono (by decide)) rfl dJ.m dJ.F.kp dJ.b .nil cM (aj (aF aD (pv 0) ao (fun _ _=>rfl)) aq)) aq)))) (aH bF (aF aD (pv 0) ao (fun _ _=>rfl)) ao) (fun _ _=>rfl)))
      (au (bf (i:=9) bM.nd rfl (Or.inl rfl) (aF aD (bK (aj (aH bF (aF aD (pv 0) ao (fun _ _=>rfl)) (pv 5)) (aj (aF aD (bK (aj (kY iU ao) (aj (pv 5) (aj (aH kI ao (pv 4)) (aj (aH cD (pv 5) (pv 4)) aq))))) (aH bF (aF aD (pv 0) ao (fun _ _=>rfl)) ao) (fun _ _=>rfl)) aq))) (aH cW (aH bF (aH cW (aF aD (pv 0) ao (fun _ _=>rfl)) ao) ao) ao) (fun _ _=>rfl)))
      (au (bf (i:=10) bM.nd rfl (Or.inl rfl) (aF aD (bK (aj ao (aj (aH cD ao (aH bF (aF aD (pv 0) ao (fun _ _=>rfl)) (aH cD (aF aV (aF aD (pv 2) (pv 6) (fun _ _=>rfl)) ao (fun _ _=>rfl)) ao))) (aj (aF aV (aF aD (pv 2) (pv 6) (fun _ _=>rfl)) ao (fun _ _=>rfl)) (aj ao (aj (aH kI ao (pv 4)) (aj (aH cD (aH pA ao ao) (pv 4)) aq))))))) (aH bF (aH cW (aF aD (pv 0) ao (fun _ _=>rfl)) ao) ao) (fun _ _=>rfl)))
      (gP (bY (aJ fj (aH bF (aF aD (pv 0) ao (fun _ _=>rfl)) ao) ao (aP _))
        (aC (bf (i:=6) bM.nd rfl (Or.inl rfl) (aF aD (bK (aj (kY iU ao) (aj (kY iU ao) (aj (aK aM rfl B.len PySem.boot_len (aj (pv 2) aq)) (aj (aH cD (aK aM rfl B.len PySem.boot_len (aj (pv 2) aq)) (pv 4)) (aj (aH kI ao (pv 4)) aq)))))) (aH bF (aH cW (aF aD (pv 0) ao (fun _ _=>rfl)) ao) ao) (fun _ _=>rfl))))
        aU)
      (gP (bY (aJ fj (aH bF (aH cW (aF aD (pv 0) ao (fun _ _=>rfl)) ao) ao) ao (aP _))
        (aC (bf (i:=7) bM.nd rfl (Or.inl rfl) (aF aD (bK (aj aL (aj aL (aj aL (aj aL aq))))) (aH bF (aF aD (pv 0) ao (fun _ _=>rfl)) ao) (fun _ _=>rfl))))
        aU)
      (au (bf (i:=11) bM.nd rfl (Or.inl rfl) (aH bF (aF aD (pv 0) ao (fun _ _=>rfl)) ao))
      (au (bY (aJ fj (pv 11) ao (aP _))
        (au (bf (i:=12) bM.nd rfl (Or.inl rfl) (aF aD (bK (aj (kY iU ao) (aj (pv 9) (aj (aH bF (aF aD (pv 0) ao (fun _ _=>rfl)) (pv 5)) (aj (aH bF (aF aD (pv 0) ao (fun _ _=>rfl)) (pv 5)) (aj (aH kI (kY iU ao) (aH bF (pv 4) ao)) (aj (aH cD (pv 5) (aH bF (pv 4) ao)) aq))))))) (aH bF (aH cW (aF aD (pv 0) ao (fun _ _=>rfl)) ao) ao) (fun _ _=>rfl)))
        (aC (aW (fY (aj aL (aj (pv 8) (aj (pv 9) (aj (aF aD (bK (aj (pv 10) (aj (aH cD ao (aH bF (aF aD (pv 0) ao (fun _ _=>rfl)) ao)) aq))) (aH bF (aH cW (aF aD (pv 0) ao (fun _ _=>rfl)) ao) ao) (fun _ _=>rfl)) (aj (pv 12) aq)))))))))
        aU)
      (au (bY (aJ fj (pv 11) ao (aP _))
        (aC (aW (fY (aj aL (aj (pv 6) (aj (pv 7) (aj (pv 8) aq)))))))
        aU)
      (au (bY (aJ fj (pv 11) ao (aP _))
        (aC (aW (fY (aj aL (aj (pv 6) (aj (pv 7) (aj (pv 10) (aj (pv 8) aq))))))))
        aU)
      (au (bY (aJ fj (pv 11) ao (aP _))
        (aC (aW (fY (aj aL (aj (pv 6) (aj (pv 7) aq))))))
        aU)
      (au (bY (aJ fj (pv 11) ao (aP _))
        (aC (aW (fY (aj aL (aj (pv 6) (aj (pv 7) (aj (pv 9) aq)))))))
        aU)
      (aC (aW (aZ rT (hr.mono (by decide)) rfl gF.m gF.F.kp gF.b .nil cM (aj (pv 0) (aj (pv 2) aq))))))))))))))))))))),?_⟩
    refine ⟨_,rfl,lx,_,9,_,rfl,rfl,hX,aN (i:=9) (g 9 (by decide)),_,rfl,lx,_,8,_,rfl,rfl,hX,aN (i:=8) (g 8 (by decide)),_,_,rfl,rfl,.inl ⟨by omega,by omega⟩,_,_,rfl,rfl,?_⟩
    dsimp only
    generalize xs.getD 9 0 * xs.getD 8 0 + 1=far
    refine ⟨_,rfl,lv,_,rfl,.inl hV,?_⟩
    rw [hml]
    have n0:=mY (xs.getD 2 0) ls.length (by omega)
    refine ⟨_,rfl,lx,_,2,_,rfl,rfl,hX,aN (i:=2) (g 2 (by decide)),_,rfl,ll,_,rfl,.inl hL,_,_,rfl,rfl,(by omega),?_⟩
    dsimp only
    rw [hui]
    generalize xs.getD 2 0 % (ls.length:Int)=nb at n0
    refine ⟨fun σ H'=>Iv (∃ nb:Nat,σ=[some (.ref lx),some (.ref lv),some (.ref ll),some (.ref ln),some (.int far),some (.int (r.length:Int)),some (.int (nb:Int)),none,none,none,none,none,none]∧nb<ls.length∧H'=H),?_,?_⟩
    · have stay:Iv (∃ nb':Nat,[some (V.ref lx),some (.ref lv),some (.ref ll),some (.ref ln),some (.int far),some (.int (r.length:Int)),some (.int nb),none,none,none,none,none,none]=[some (.ref lx),some (.ref lv),some (.ref ll),some (.ref ln),some (.int far),some (.int (r.length:Int)),some (.int (nb':Int)),none,none,none,none,none,none]∧nb'<ls.length∧H=H):=by
        obtain ⟨j,hj⟩:=Int.eq_ofNat_of_zero_le n0.1
        exact ⟨trivial,j,by rw [hj],by omega,rfl⟩
      refine ⟨_,rfl,ll,_,rfl,.inl hL,rfl,_,rfl,ifI (fun h60=>?_) (fun _=>stay)⟩
      refine ⟨_,rfl,lx,_,10,_,rfl,rfl,hX,aN (i:=10) (g 10 (by decide)),_,_,rfl,rfl,(by show (0:Int)<2;decide),rfl,_,rfl,ifI (fun _=>?_) (fun _=>stay)⟩
      have h60:(us.length:Int)=60:=h60
      have m3:=mY (xs.getD 2 0) 3 (by decide)
      obtain ⟨j,hj⟩:=Int.eq_ofNat_of_zero_le m3.1
      refine ⟨_,rfl,lx,_,2,_,rfl,rfl,hX,aN (i:=2) (g 2 (by decide)),_,_,rfl,rfl,(by show (0:Int)<3;decide),?_⟩
      refine ⟨trivial,j,?_,by omega,rfl⟩
      rw [← hj];rfl
    clear n0
    rintro σ H' ⟨-,nb,rfl,hnb,eH⟩
    have eH:=eH.symm
    subst eH
    obtain ⟨x,hx⟩:∃ x,ns[nb]?=some x:=⟨_,List.getElem?_eq_getElem (by omega)⟩
    obtain ⟨l,hl⟩:∃ l,ls[nb]?=some l:=⟨_,List.getElem?_eq_getElem (by omega)⟩
    obtain ⟨al,hal,hT⟩:=d0.jR hl
    have hlm:=hlo l (List.mem_of_getElem? hl)
    refine ⟨_,rfl,_,rfl,ln,_,_,_,rfl,rfl,hN,cX (show (ns.map V.str)[nb]?=some (.str x) by rw [List.getElem?_map,hx];rfl),?_⟩
    refine ⟨_,rfl,lx,_,4,_,rfl,rfl,hX,aN (i:=4) (g 4 (by decide)),_,rfl,tk,fun bad H1 abad nbad s1=>?_⟩
    have O:=O.m6 s1
    refine ⟨szl,fun l1 h1=>?_⟩
    walk_at "nw"
    obtain ⟨to,hto,t1,t2⟩:∃ to,atI [V.str "a",V.str "b",V.str bad] (xs.getD 4 0 % 3)=some (V.str to)∧Asc to∧Dr to:=by
      have:=mY (xs.getD 4 0) 3 (by decide)
      rcases (by omega:xs.getD 4 0 % 3=0∨xs.getD 4 0 % 3=1∨xs.getD 4 0 % 3=2) with e | e | e <;> rw [e]
      · exact ⟨_,rfl,Wa,to_a⟩
      · exact ⟨_,rfl,Dq,to_b⟩
      · exact ⟨_,rfl,abad,QD nbad⟩
    refine ⟨_,rfl,lx,_,4,_,rfl,rfl,O.same.seq hX,aN (i:=4) (g 4 (by decide)),_,_,rfl,rfl,(by show (0:Int)<3;decide),l1,_,_,_,rfl,rfl,O.sq 0,hto,?_⟩
    have O:=O.tail
    obtain ⟨y1,hy1⟩:=vB [-1,(r.length:Int),0 - far,(r.length:Int) + far] (mY (xs.getD 6 0) 4 (by decide)).1 (mY (xs.getD 6 0) 4 (by decide)).2
    obtain ⟨st,hst⟩:=vB [xs.getD 6 0 % (r.length:Int),y1] (w:=xs.getD 7 0 / 2 % 4 / 3) (by have:=mY (xs.getD 7 0 / 2) 4 (by decide);omega) (by have:=mY (xs.getD 7 0 / 2) 4 (by decide);show xs.getD 7 0 / 2 % 4 / 3<2;omega)
    refine ⟨_,rfl,lx,_,6,_,rfl,rfl,O.same.seq hX,aN (i:=6) (g 6 (by decide)),_,rfl,_,_,rfl,rfl,(by show (0:Int)<(r.length:Int);omega),1,rfl,_,rfl,_,rfl,_,_,rfl,rfl,_,rfl,_,rfl,_,_,rfl,rfl,szl,fun l2 h2=>?_⟩
    walk_at "nw"
    refine ⟨_,rfl,lx,_,6,_,rfl,rfl,O.same.seq hX,aN (i:=6) (g 6 (by decide)),_,_,rfl,rfl,(by show (0:Int)<4;decide),l2,_,_,_,rfl,rfl,O.sq 0,hy1,szl,fun l3 h3=>?_⟩
    walk_at "nw"
    refine ⟨_,rfl,lx,_,7,_,rfl,rfl,O.same.seq hX,aN (i:=7) (g 7 (by decide)),_,_,rfl,rfl,⟨by decide,by decide⟩,_,_,rfl,rfl,(by show (0:Int)<4;decide),_,_,rfl,rfl,⟨by decide,by decide⟩,l3,_,_,_,rfl,rfl,O.sq 0,hst,?_⟩
    have O:=O.tail.tail
    clear hy1 hst
    obtain ⟨am,ham⟩:=vB [1,1 + xs.getD 5 0 % (l.most + 2),l.most,0,0 - far,(10:Int) ^ (12:Int).toNat + far] (mY (xs.getD 5 0 / 97) 6 (by decide)).1 (mY (xs.getD 5 0 / 97) 6 (by decide)).2
    have hTm:=hT.mo O.same
    refine ⟨_,rfl,lx,_,5,_,rfl,rfl,O.same.seq hX,aN (i:=5) (g 5 (by decide)),_,rfl,_,rfl,ll,_,_,_,rfl,rfl,O.same.seq hL,cX hal,al,_,3,_,rfl,rfl,hTm,rfl,_,_,rfl,rfl,_,_,rfl,rfl,(by show (0:Int)<l.most + 2;omega),_,_,rfl,rfl,_,rfl,_,rfl,ll,_,_,_,rfl,rfl,O.same.seq hL,cX hal,al,_,3,_,rfl,rfl,hTm,rfl,_,rfl,_,_,rfl,rfl,_,_,rfl,rfl,⟨by decide,by decide,by decide⟩,_,rfl,_,_,rfl,rfl,szl,fun l4 h4=>?_⟩
    walk_at "nw"
    refine ⟨_,rfl,lx,_,5,_,rfl,rfl,O.same.seq hX,aN (i:=5) (g 5 (by decide)),_,_,rfl,rfl,⟨by decide,by decide⟩,_,_,rfl,rfl,(by show (0:Int)<6;decide),l4,_,_,_,rfl,rfl,O.sq 0,ham,?_⟩
    have O:=O.tail
    clear ham hTm
    refine ⟨fun σ H'=>Iv (∃ n2:Int,σ=[some (.ref lx),some (.ref lv),some (.ref ll),some (.ref ln),some (.int far),some (.int (r.length:Int)),some (.int n2),some (.str x),some (.str to),some (.int st),some (.int am),none,none]∧Ow T H H' []),?_,?_⟩
    · refine ⟨_,rfl,lx,_,1,_,rfl,rfl,O.same.seq hX,aN (i:=1) (g 1 (by decide)),_,_,rfl,rfl,(by show (0:Int)<4;decide),rfl,_,rfl,ifI (fun _=>?_) (fun _=>⟨trivial,_,rfl,O⟩)⟩
      obtain ⟨n2,hn2⟩:=vB [-1,-2,(us.length:Int),(us.length:Int) + far,0 - far] (mY (xs.getD 2 0 / 7) 5 (by decide)).1 (mY (xs.getD 2 0 / 7) 5 (by decide)).2
      refine ⟨1,rfl,2,rfl,_,rfl,ll,_,rfl,.inl (O.same.seq hL),_,rfl,ll,_,rfl,.inl (O.same.seq hL),_,rfl,_,_,rfl,rfl,_,rfl,_,_,rfl,rfl,szl,fun l5 h5=>?_⟩
      walk_at "nw"
      exact ⟨_,rfl,lx,_,2,_,rfl,rfl,O.same.seq hX,aN (i:=2) (g 2 (by decide)),_,_,rfl,rfl,⟨by decide,by decide⟩,_,_,rfl,rfl,(by show (0:Int)<5;decide),l5,_,_,_,rfl,rfl,O.sq 0,hn2,trivial,n2,rfl,O.tail⟩
    clear O
    rintro σ H2 ⟨-,n2,rfl,O⟩
    refine ⟨fun σ H'=>Iv (∃ nm:Str,σ=[some (.ref lx),some (.ref lv),some (.ref ll),some (.ref ln),some (.int far),some (.int (r.length:Int)),some (.int n2),some (.str nm),some (.str to),some (.int st),some (.int am),none,none]∧Ow T H H' []),?_,?_⟩
    · refine ⟨_,rfl,lx,_,1,_,rfl,rfl,O.same.seq hX,aN (i:=1) (g 1 (by decide)),_,_,rfl,rfl,⟨by decide,by decide⟩,_,_,rfl,rfl,(by show (0:Int)<4;decide),rfl,_,rfl,ifI (fun _=>?_) (fun _=>⟨trivial,_,rfl,O⟩)⟩
      refine ⟨szl,fun l5 h5=>?_⟩
      walk_at "nw"
      obtain ⟨nm,hnm⟩:∃ nm,atI [V.str "a",V.str "b",V.str "",V.str "ab"] (xs.getD 3 0 % 4)=some (V.str nm):=by
        have:=mY (xs.getD 3 0) 4 (by decide)
        rcases (by omega:xs.getD 3 0 % 4=0∨xs.getD 3 0 % 4=1∨xs.getD 3 0 % 4=2∨xs.getD 3 0 % 4=3) with e | e | e | e <;> rw [e] <;> exact ⟨_,rfl⟩
      exact ⟨_,rfl,lx,_,3,_,rfl,rfl,O.same.seq hX,aN (i:=3) (g 3 (by decide)),_,_,rfl,rfl,(by show (0:Int)<4;decide),l5,_,_,_,rfl,rfl,O.sq 0,hnm,trivial,nm,rfl,O.tail⟩
    clear O
    rintro σ H3 ⟨-,nm,rfl,O⟩
    refine ⟨_,rfl,lx,_,0,_,rfl,rfl,O.same.seq hX,aN (i:=0) (g 0 (by decide)),_,_,rfl,rfl,(by show (0:Int)<6;decide),?_⟩
    dsimp only
    generalize xs.getD 0 0 % 6=kd
    refine ⟨_,rfl,rfl,_,rfl,ifI (fun _=>?_) (fun _=>?_)⟩
    · obtain ⟨bk,hbk⟩:=vB [-1,st,xs.getD 8 0 % (r.length:Int),xs.getD 8 0 % (r.length:Int),-2 - far % 9,(r.length:Int) + far % 3] (mY (xs.getD 3 0 / 4) 6 (by decide)).1 (mY (xs.getD 3 0 / 4) 6 (by decide)).2
      obtain ⟨am2,ham2⟩:=vB [am,1 + xs.getD 5 0 % 99] (mY (xs.getD 8 0 / 60) 2 (by decide)).1 (mY (xs.getD 8 0 / 60) 2 (by decide)).2
      refine ⟨1,rfl,_,rfl,_,rfl,lx,_,8,_,rfl,rfl,O.same.seq hX,aN (i:=8) (g 8 (by decide)),_,rfl,_,_,rfl,rfl,(by show (0:Int)<(r.length:Int);omega),_,rfl,lx,_,8,_,rfl,rfl,O.same.seq hX,aN (i:=8) (g 8 (by decide)),_,rfl,_,_,rfl,rfl,(by show (0:Int)<(r.length:Int);omega),2,rfl,_,rfl,_,_,rfl,rfl,(by show (0:Int)<9;decide),_,_,rfl,rfl,_,rfl,_,rfl,_,_,rfl,rfl,(by show (0:Int)<3;decide),_,_,rfl,rfl,szl,fun l5 h5=>?_⟩
      walk_at "nw"
      refine ⟨_,rfl,lx,_,3,_,rfl,rfl,O.same.seq hX,aN (i:=3) (g 3 (by decide)),_,_,rfl,rfl,⟨by decide,by decide⟩,_,_,rfl,rfl,(by show (0:Int)<6;decide),l5,_,_,_,rfl,rfl,O.sq 0,hbk,?_⟩
      have O:=O.tail
      refine ⟨_,rfl,_,rfl,_,rfl,_,rfl,lx,_,5,_,rfl,rfl,O.same.seq hX,aN (i:=5) (g 5 (by decide)),_,_,rfl,rfl,(by show (0:Int)<99;decide),_,_,rfl,rfl,szl,fun l6 h6=>?_⟩
      walk_at "nw"
      refine ⟨_,rfl,lx,_,8,_,rfl,rfl,O.same.seq hX,aN (i:=8) (g 8 (by decide)),_,_,rfl,rfl,⟨by decide,by decide⟩,_,_,rfl,rfl,(by show (0:Int)<2;decide),l6,_,_,_,rfl,rfl,O.sq 0,ham2,_,rfl,szl,fun t ht=>?_⟩
      walk_at "nw"
      exact q t t (.file to st am2 bk) _ (O.sub (List.Sublist.cons₂ _ (List.nil_sublist _))) t1 t2
    refine ⟨_,rfl,rfl,_,rfl,ifI (fun _=>?_) (fun _=>?_)⟩
    · refine ⟨_,rfl,_,rfl,_,rfl,szl,fun t ht=>?_⟩
      walk_at "nw"
      exact q t t (.sell n2 nm to) _ O t1 t2
    refine ⟨_,rfl,rfl,_,rfl,ifI (fun _=>?_) (fun _=>?_)⟩
    · refine ⟨_,rfl,_,rfl,_,rfl,_,rfl,szl,fun t ht=>?_⟩
      walk_at "nw"
      exact q t t (.part n2 nm am to) _ O t1 t2
    refine ⟨_,rfl,rfl,_,rfl,ifI (fun _=>?_) (fun _=>?_)⟩
    · refine ⟨_,rfl,_,rfl,szl,fun t ht=>?_⟩
      walk_at "nw"
      exact q t t (.drop n2 nm) _ O trivial trivial
    refine ⟨_,rfl,rfl,_,rfl,ifI (fun _=>?_) (fun _=>?_)⟩
    · refine ⟨_,rfl,_,rfl,_,rfl,szl,fun t ht=>?_⟩
      walk_at "nw"
      exact q t t (.move n2 nm st) _ O trivial trivial
    exact ⟨_,rfl,_,rfl,lx,ll,xs,us,ls,rfl,O.same.seq hX,h11,hx0,O.same.seq hL,d0.mo O.same,hlo,hl1,hl60,O.same.t1,fun t a ys H4 OM hy=>q t a (.lapse ys) H4 (by have h:=O.join OM;rw [List.append_nil] at h;exact h) hy hy⟩
def RA6 (K:PySem.W.Frag) (T:eX) (C:Addr) (A:Rs) (r:List Int) (H0 H:Hp) (ll lo:Addr) (B:List (Addr × HO)) (S:RS):Prop :=
  ∃ us vs ul,Ow T H0 H (RX C A [] r S.day us S.ns vs++((ll,.lst ul) :: (lo,.lst (S.ns.map V.str)) :: B))∧dM K H0 us (S.ls.map mZ)∧dM K H0 vs (S.ds.map tU)∧dM K H0 ul (S.ls.map mZ)
structure At6 (r:List Int) (S:RS) (i:Nat):Prop where
  rv:Rv.lN r
  r1:1≤r.length
  r40:r.length≤40
  ll:S.ls.length=i
  nn:S.ns.length=i
  d0:0≤S.day
  d1:S.day≤(i:Int)
  lo:∀ l∈S.ls,(0≤l.day∧l.day≤1000000)∧0≤l.most∧l.most≤1000000000000
  na:∀ x∈S.ns,x="a"∨x="b"
  dl:S.ds.length≤300
  ok:∀ d∈S.ds,oN d
theorem qg {ds:List lO} {d:lO} (h:∀ e∈ds,oN e) (hd:oN d):∀ e∈ds++[d],oN e:=fun e he=>by
  rcases List.mem_append.mp he with z | z
  · exact h e z
  · rw [List.mem_singleton.mp z];exact hd
theorem At6.rp {r:List Int} {S:RS} {i:Nat} (h:At6 r S i) (hi:i≤60):RP r [] S:=⟨h.rv,h.r40,by rw [h.ll,h.nn],by rw [h.ll];exact hi,by have:=h.dl;omega,by decide,Wc.nil⟩
theorem rN {x:Str} (h:x="a"∨x="b"):Asc x:=h.elim (fun e=>by rw [e];exact Wa) fun e=>by rw [e];exact Dq
theorem Oz {x:Str} (h:x="a"∨x="b"):gR x:=h.elim (fun e=>by rw [e];exact xr) fun e=>by rw [e];exact uP
theorem W7:∀ i:Fin 2,∃ c,("ab":Str).cps[i.val]?=some c∧((⟨#[c]⟩:Str)="a"∨(⟨#[c]⟩:Str)="b"):=by decide +kernel
abbrev dO:Stmt:=top 51
theorem dY:aQ ["one","xs","below","k","day","lines","owners","start","far","most","back","name"] ["one","xs","below","k","day","lines","owners"] (ak dO):=⟨rfl,rfl,rfl,by decide +kernel,rfl,by decide +kernel,by decide +kernel⟩
def uH (K:PySem.W.Frag) (T:eX) (C:Addr):Sp:=fun vs H Q _=>∃ (A:Rs) (lx lv ll lo:Addr) (xs r:List Int) (k:Nat) (H0:Hp) (B:List (Addr × HO)) (S:RS),vs=[.ref A.p,.ref lx,.ref lv,.int (k:Int),.int S.day,.ref ll,.ref lo]∧RA6 K T C A r H0 H ll lo B S∧SqL K H0 lx (xs.map V.int)∧xs.length=12∧(∀ x∈xs,0≤x)∧SqL K H0 lv (r.map V.int)∧k<60∧At6 r S k∧S.ds.length≤200 ∧
  ∀ (l:Lic) (x:Str) Hb H',aY T H0 Hb→l.day=S.day→2≤l.most→l.most≤1000000000000→(x="a"∨x="b")→RA6 K T C A r Hb H' ll lo B ⟨S.day,S.ls++[l],S.ns++[x],S.ds++[.file x l.start l.most l.back]⟩→Q .non H'
section
variable {P:Program} {w:World} {K:PySem.W.Frag} {mg:Str→Option Value} {base:Heap} {T:eX} {C:Addr} {c:Ec}
theorem Ck {f f1 f2:Addr} {fd fd1 fd2:FuncData} (D:Df K mg "_law_filed" dO ["one","xs","below","k","day","lines","owners"] f fd) (B:Blt mg) (R_Roll:RC K C)
    (dI:Df K mg "_law_way" fW ["below","reach"] f1 fd1) (mq:bN P w K mg base CX0 1 f1 fd1 ["below","reach"] (qG K))
    (eN:DmD K C "file" "Roll.file" d8 ["self","holder","start","most","back"] f2 fd2) (lB:bN P w K mg base (CXE P w) 3 f2 fd2 ["self","holder","start","most","back"] (sO K T C c)):bN P w K mg base CX0 4 f fd ["one","xs","below","k","day","lines","owners"] (uH K T C):=by
  refine D.F.ok dY (fun vs H Q E h=>?_) (fun cdv A outer s H vs Q E hr h=>?_)
  · obtain ⟨_,_,_,_,_,_,_,_,_,_,_,rfl,_⟩:=h;rfl
  · obtain ⟨A,lx,lv,ll,lo,xs,r,k,H0,L,S,rfl,⟨us,vs,ul,O,d0,d1,d2⟩,hX,h12,hx0,hV,hk60,hA,hdl,q⟩:=h
    have hu:=hr.units
    have r1:=hA.r1
    have r40:=hA.r40
    have sd0:=hA.d0
    have sd1:=hA.d1
    have hll:=hA.ll
    have hnn:=hA.nn
    have g:∀ k:Nat,k<12→xs[k]?=some (xs.getD k 0):=fun k hk=>lK (by omega)
    have gp:∀ k:Nat,k<12→0≤xs.getD k 0:=fun k hk=>hx0 _ (List.mem_of_getElem? (g k hk))
    have hml:(((r.map V.int).length:Nat):Int)=(r.length:Int):=by rw [List.length_map]
    have k1:Bs (xs.getD 6 0) ((k:Int) + 1):=⟨by omega,by omega⟩
    refine ⟨_,(au (bf (i:=7) dY.nd rfl (Or.inl rfl) (aH bF (aH cW (aF aD (pv 1) ao (fun _ _=>rfl)) (aH cD (pv 3) ao)) (aK aM rfl B.len PySem.boot_len (aj (pv 2) aq))))
      (au (bf (i:=8) dY.nd rfl (Or.inl rfl) (jg nG (aZ mq (hr.mono (by decide)) rfl dI.m dI.F.kp dI.b .nil cM (aj (pv 2) (aj (pv 7) aq))) (jB ao) kW))
      (au (bf (i:=9) dY.nd rfl (Or.inl rfl) (aF aD (bK (aj (aH cD ao (aH bF (aH cW (aF aD (pv 1) ao (fun _ _=>rfl)) (aH cD (pv 3) ao)) ao)) (aj (aH kI (aH pA ao ao) (aH bF (aH cW (aF aD (pv 1) ao (fun _ _=>rfl)) (aH cD (pv 3) ao)) ao)) aq))) (aH bF (aH cW (aF aD (pv 1) ao (fun _ _=>rfl)) (aH cD (pv 3) ao)) ao) (fun _ _=>rfl)))
      (au (bf (i:=10) dY.nd rfl (Or.inl rfl) (kY iU ao))
      (gP (bY (PW.pt (pw_and (aJ (wQ hu) (pv 8) (bK aq) (aP _)) (pw_and1 (aJ fj (aH bF (aH cW (aF aD (pv 1) ao (fun _ _=>rfl)) (aH cD (pv 3) ao)) ao) ao (aP _)))))
        (aC (bf (i:=10) dY.nd rfl (Or.inl rfl) (aF aD (pv 8) (aH bF (aH cW (aF aD (pv 1) ao (fun _ _=>rfl)) (aH cD (pv 3) ao)) (aK aM rfl B.len PySem.boot_len (aj (pv 8) aq))) (fun _ _=>rfl))))
        aU)
      (au (bf (i:=11) dY.nd rfl (Or.inl rfl) (nQ aL (aH bF (aH cW (aF aD (pv 1) ao (fun _ _=>rfl)) (aH cD (pv 3) ao)) ao) (fun _ _=>rfl)))
      (au (bD (eZ (pv 0) R_Roll.c eN.m lB (hr.mono (by decide)) eN.b0 .nil Ca (aj (pv 11) (aj (pv 7) (aj (pv 9) (aj (pv 10) aq))))))
      (au (bD (kh PySem.F.plainAttrs_list PySem.F.slot_list_append PySem.F.type_list_append cu (pv 5) (aj (fY (aj (pv 4) (aj (pv 7) (aj (pv 10) (aj (pv 9) aq))))) aq)))
      (aC (bD (kh PySem.F.plainAttrs_list PySem.F.slot_list_append PySem.F.type_list_append cu (pv 6) (aj (pv 11) aq)))))))))))),?_⟩
    have s0:=mY (xs.getD 6 0 / ((k:Int) + 1)) r.length (by omega)
    refine ⟨_,rfl,lx,_,6,_,rfl,rfl,O.same.seq hX,aN (i:=6) (g 6 (by decide)),_,rfl,_,_,rfl,rfl,_,_,rfl,rfl,k1,_,rfl,lv,_,rfl,.inl (O.same.seq hV),_,_,rfl,rfl,(by rw [hml];omega),?_⟩
    dsimp only
    rw [hml]
    generalize xs.getD 6 0 / ((k:Int) + 1) % (r.length:Int)=st at s0
    refine ⟨_,rfl,_,rfl,lv,r,st,rfl,O.same.seq hV,hA.rv,s0.1,s0.2,by omega,O.got fun lw H1 ys O e=>?_⟩
    subst e
    refine ⟨1,rfl,lw,_,rfl,O.sq 0,fun lf hlf=>?_⟩
    walk_at "nw"
    rw [show tX ((Rv.walk r st).map V.int) (some 1) none=((Rv.walk r st).drop 1).map V.int from qm _ 1] at O
    have O:=O.two
    have p12:(10:Int) ^ (12:Int).toNat=1000000000000:=by decide
    have m9:=mY (xs.getD 3 0 / ((k:Int) + 1)) 9 (by decide)
    have m5:=mY (xs.getD 3 0 / ((k:Int) + 1)) 5 (by decide)
    obtain ⟨mo,hmo,mo2,mo12⟩:∃ mo,atI [V.int (2 + xs.getD 3 0 / ((k:Int) + 1) % 9),V.int ((10:Int) ^ (12:Int).toNat - xs.getD 3 0 / ((k:Int) + 1) % 5)] (xs.getD 4 0 / ((k:Int) + 3) % 2)=some (V.int mo)∧2≤mo∧mo≤1000000000000:=by
      have:=mY (xs.getD 4 0 / ((k:Int) + 3)) 2 (by decide)
      rcases (by omega:xs.getD 4 0 / ((k:Int) + 3) % 2=0∨xs.getD 4 0 / ((k:Int) + 3) % 2=1) with e | e <;> rw [e]
      · exact ⟨_,rfl,by omega,by omega⟩
      · exact ⟨_,rfl,by rw [p12];omega,by rw [p12];omega⟩
    refine ⟨_,rfl,lx,_,3,_,rfl,rfl,O.same.seq hX,aN (i:=3) (g 3 (by decide)),_,rfl,_,_,rfl,rfl,_,_,rfl,rfl,(show Bs _ _ from ⟨by omega,by omega⟩),_,_,rfl,rfl,(by show (0:Int)<9;decide),_,_,rfl,rfl,_,_,rfl,rfl,⟨by decide,by decide,by decide⟩,_,rfl,lx,_,3,_,rfl,rfl,O.same.seq hX,aN (i:=3) (g 3 (by decide)),_,rfl,_,_,rfl,rfl,_,_,rfl,rfl,(show Bs _ _ from ⟨by omega,by omega⟩),_,_,rfl,rfl,(by show (0:Int)<5;decide),_,_,rfl,rfl,szl,fun lp hlp=>?_⟩
    walk_at "nw"
    refine ⟨_,rfl,lx,_,4,_,rfl,rfl,O.same.seq hX,aN (i:=4) (g 4 (by decide)),_,rfl,_,_,rfl,rfl,_,_,rfl,rfl,(show Bs _ _ from ⟨by omega,by omega⟩),_,_,rfl,rfl,(by show (0:Int)<2;decide),lp,_,_,_,rfl,rfl,O.sq 0,hmo,?_⟩
    have O:=O.tail
    refine ⟨1,rfl,?_⟩
    refine ⟨fun σ H'=>Iv (∃ bk:Int,σ=[some (.ref A.p),some (.ref lx),some (.ref lv),some (.int (k:Int)),some (.int S.day),some (.ref ll),some (.ref lo),some (.int st),some (.ref lf),some (.int mo),some (.int bk),none]∧(bk=-1∨bk∈(Rv.walk r st).drop 1)∧Ow T H0 H' (RX C A [] r S.day us S.ns vs++((ll,.lst ul) :: (lo,.lst (S.ns.map V.str)) :: L))),?_,?_⟩
    · have stay:∀ {H'},Ow T H0 H' ((lf,.lst (((Rv.walk r st).drop 1).map V.int)) :: (RX C A [] r S.day us S.ns vs++((ll,.lst ul) :: (lo,.lst (S.ns.map V.str)) :: L)))→Iv (∃ bk:Int,[some (V.ref A.p),some (.ref lx),some (.ref lv),some (.int (k:Int)),some (.int S.day),some (.ref ll),some (.ref lo),some (.int st),some (.ref lf),some (.int mo),some (.int (-1)),none]=[some (.ref A.p),some (.ref lx),some (.ref lv),some (.int (k:Int)),some (.int S.day),some (.ref ll),some (.ref lo),some (.int st),some (.ref lf),some (.int mo),some (.int bk),none]∧(bk=-1∨bk∈(Rv.walk r st).drop 1)∧Ow T H0 H' (RX C A [] r S.day us S.ns vs++((ll,.lst ul) :: (lo,.lst (S.ns.map V.str)) :: L))):=fun O=>⟨trivial,-1,rfl,.inl rfl,O.tail⟩
      refine ⟨_,rfl,szl,fun lz hlz=>?_⟩
      walk_at "nw"
      refine ⟨lf,lz,_,[],rfl,rfl,O.sq 1,O.sq 0,_,rfl,?_⟩
      rw [if_pos rfl]
      have O:=O.tail
      refine ifN (ifD (fun _=>stay O) (fun hne=>?_))
      refine ⟨_,rfl,lx,_,8,_,rfl,rfl,O.same.seq hX,aN (i:=8) (g 8 (by decide)),_,rfl,_,_,rfl,rfl,_,_,rfl,rfl,(show Bs _ _ from ⟨by omega,by omega⟩),_,_,rfl,rfl,(by show (0:Int)<3;decide),rfl,_,rfl,ifI (fun _=>?_) (fun _=>stay O)⟩
      have hfl:1≤((Rv.walk r st).drop 1).length:=by
        cases hh:(Rv.walk r st).drop 1 with
        | nil=>exact absurd hh hne
        | cons a b=>simp
      have hfm:(((((Rv.walk r st).drop 1).map V.int).length:Nat):Int)=(((Rv.walk r st).drop 1).length:Int):=by rw [List.length_map]
      have b0:=mY (xs.getD 9 0 / ((k:Int) + 1)) ((Rv.walk r st).drop 1).length (by omega)
      refine ⟨_,rfl,_,rfl,lx,_,9,_,rfl,rfl,O.same.seq hX,aN (i:=9) (g 9 (by decide)),_,rfl,_,_,rfl,rfl,_,_,rfl,rfl,(show Bs _ _ from ⟨by omega,by omega⟩),_,rfl,lf,_,rfl,.inl (O.sq 0),_,_,rfl,rfl,(by rw [hfm];omega),?_⟩
      dsimp only
      rw [hfm]
      obtain ⟨j,hj⟩:=Int.eq_ofNat_of_zero_le b0.1
      obtain ⟨bk,hbk⟩:∃ bk,((Rv.walk r st).drop 1)[j]?=some bk:=⟨_,List.getElem?_eq_getElem (by omega)⟩
      rw [hj]
      exact ⟨lf,_,_,_,rfl,rfl,O.sq 0,aN hbk,trivial,bk,rfl,.inr (List.mem_of_getElem? hbk),O.tail⟩
    clear O
    rintro σ H2 ⟨-,bk,rfl,hbk,O⟩
    obtain ⟨ch,hc1,hc2⟩:=W7 ⟨(xs.getD 5 0 / ((k:Int) + 2) % 2).toNat,by have:=mY (xs.getD 5 0 / ((k:Int) + 2)) 2 (by decide);omega⟩
    have n2:=mY (xs.getD 5 0 / ((k:Int) + 2)) 2 (by decide)
    refine ⟨_,rfl,lx,_,5,_,rfl,rfl,O.same.seq hX,aN (i:=5) (g 5 (by decide)),_,rfl,_,_,rfl,rfl,_,_,rfl,rfl,(show Bs _ _ from ⟨by omega,by omega⟩),_,_,rfl,rfl,(by show (0:Int)<2;decide),_,_,_,rfl,rfl,n2.1,(by show xs.getD 5 0 / ((k:Int) + 2) % 2<2 ^ 63;omega),n2.2,hc1,?_⟩
    generalize (⟨#[ch]⟩:Str)=nm at hc2
    have hst:step r S (.file nm st mo bk)=.ok ⟨S.day,S.ls++[⟨S.day,st,bk,mo⟩],S.ns++[nm],S.ds++[.file nm st mo bk]⟩:=by
      have hl:rO r ⟨S.day,st,bk,mo⟩:=⟨⟨sd0,by show S.day≤1000000;omega,s0.1,s0.2,by show 0≤mo;omega,mo12⟩,hbk⟩
      simp only [step]
      rw [if_neg (not_not_intro (Oz hc2)),if_neg (show ¬ (mo=0∨¬ rO r ⟨S.day,st,bk,mo⟩) from fun z=>z.elim (by omega) fun w=>w hl),if_neg (by omega)]
    refine ⟨_,rfl,A.p,A.dx,_,rfl,O.get 0,rfl,_,rfl,_,rfl,_,rfl,_,rfl,A,[],H0,_,r,S,nm,st,mo,bk,_,rfl,.inr rfl,⟨us,vs,O,d0,d1⟩,hA.rp (by omega),rN hc2,fun S' e Hb H3 sb ra=>?_,fun kk e=>by rw [hst] at e;cases e⟩
    rw [hst] at e
    cases e
    clear O
    obtain ⟨us',vs',O,e0,e1⟩:=ra
    have hull:ul.length=S.ls.length:=by rw [d2.length,List.length_map]
    refine ⟨_,rfl,.inl ⟨rfl,_,O.sq 6⟩,_,rfl,_,rfl,_,rfl,_,rfl,szl,fun t ht=>?_⟩
    walk_at "nw"
    refine ⟨ll,_,_,rfl,rfl,O.get 7,aR (by omega),?_⟩
    generalize hE:upd _ _ _=Hn2
    replace O:=Ow.mW O 7 rfl hE rfl
    clear hE
    refine ⟨_,rfl,.inl ⟨rfl,_,O.sq 8⟩,_,rfl,lo,_,_,rfl,rfl,O.get 8,aR (by rw [List.length_map];omega),?_⟩
    generalize hE:upd _ _ _=Hn3
    replace O:=Ow.mW O 8 rfl hE rfl
    clear hE
    obtain ⟨Hc,O,sc,e3⟩:=(show Ow T Hb Hn3 ((t,.tup (mC ⟨S.day,st,bk,mo⟩)) :: (RX C A [] r S.day us' (S.ns++[nm]) vs'++((ll,.lst (ul++[V.ref t])) :: (lo,.lst ((S.ns++[nm]).map V.str)) :: L))) from by rw [List.map_append (l₁:=S.ns)];exact O).frz
    refine q ⟨S.day,st,bk,mo⟩ nm Hc _ (sb.trans sc) rfl mo2 mo12 hc2 ⟨us',vs',ul++[V.ref t],O,e0.mo sc,e1.mo sc,?_⟩
    rw [List.map_append]
    exact ((d2.mo sb).mo sc).append (.cons (Den.lic (SqT.of e3)) .nil)
end
theorem pC {ls:List Lic} {n:Nat} {d:Int} (h:∀ j l,j≠n→ls[j]?=some l→l.day≠d):∀ i,bW ls n d i=[]
  | 0=>rfl
  | i + 1=>by
    rw [bW,pC h i]
    cases hg:ls[i]? with
    | none=>rfl
    | some l =>
      simp only
      rw [if_neg fun z=>h i l z.1 hg z.2.1];rfl
structure Gr6 (S:RS) (i:Nat):Prop where
  z:∀ l,S.ls[0]?=some l→l.day=0∧2≤l.most
  o:∀ j l,S.ls[j + 1]?=some l→1≤l.day
  d:i=0→S.day=0
  e:1≤i→S.day + 1≤(i:Int)
  g:2≤i→1≤S.day
theorem At6.snoc {r:List Int} {S:RS} {i:Nat} {l:Lic} {x:Str} {d:lO} (h:At6 r S i) (hl:l.day=S.day) (hi:i≤60) (h2:2≤l.most) (h12:l.most≤1000000000000) (hx:x="a"∨x="b") (hd:S.ds.length≤200) (hk:oN d):At6 r ⟨S.day,S.ls++[l],S.ns++[x],S.ds++[d]⟩ (i + 1):=by
  have a:=h.d0
  have b:=h.d1
  refine ⟨h.rv,h.r1,h.r40,by simp [h.ll],by simp [h.nn],a,by show S.day≤_;omega,fun y hy=>?_,fun y hy=>?_,by simp only [List.length_append,List.length_cons,List.length_nil];omega,qg h.ok hk⟩
  · rcases List.mem_append.mp hy with z | z
    · exact h.lo y z
    · rw [List.mem_singleton.mp z];exact ⟨⟨by omega,by omega⟩,by omega,h12⟩
  · rcases List.mem_append.mp hy with z | z
    · exact h.na y z
    · rw [List.mem_singleton.mp z];exact hx
abbrev dR:Stmt:=top 52
theorem cI:aQ ["one","xs","below","lines","owners","day","size","k","line"] ["one","xs","below"] (ak dR):=⟨rfl,rfl,rfl,by decide +kernel,rfl,by decide +kernel,by decide +kernel⟩
def uJ (K:PySem.W.Frag) (T:eX) (C:Addr):Sp:=fun vs H Q _=>∃ (A:Rs) (lx lv:Addr) (xs r:List Int) (H0:Hp) (B:List (Addr × HO)),vs=[.ref A.p,.ref lx,.ref lv]∧Ow T H0 H (RX C A [] r 0 [] [] []++B)∧SqL K H0 lx (xs.map V.int)∧xs.length=12∧(∀ x∈xs,0≤x)∧SqL K H0 lv (r.map V.int)∧Rv.lN r∧1≤r.length∧r.length≤40 ∧
  ∀ (t ll lo:Addr) (S:RS) (n:Nat) (us vs ul:List V) Hb H',aY T H0 Hb→At6 r S n→1≤n→n≤60→Ow T Hb H' ((t,.tup [.int S.day,.ref ll,.ref lo]) :: (RX C A [] r S.day us S.ns vs++((ll,.lst ul) :: (lo,.lst (S.ns.map V.str)) :: B)))→dM K Hb us (S.ls.map mZ)→dM K Hb vs (S.ds.map tU)→dM K Hb ul (S.ls.map mZ)→Q (.ref t) H'
section
variable {P:Program} {w:World} {K:PySem.W.Frag} {mg:Str→Option Value} {base:Heap} {T:eX} {C:Addr} {c:Ec}
theorem Cp {f f1 f2 f3 f4:Addr} {fd fd1 fd2 fd3 fd4:FuncData} (D:Df K mg "_law_begun" dR ["one","xs","below"] f fd) (B:Blt mg) (R_Roll:RC K C)
    (iW:Dm K C "turn" "Roll.turn" fH ["self"] f1 fd1) (uh:bN P w K mg base CX0 1 f1 fd1 ["self"] (sG K T C c))
    (gG:Df K mg "_law_filed" dO ["one","xs","below","k","day","lines","owners"] f2 fd2) (rW:bN P w K mg base CX0 4 f2 fd2 ["one","xs","below","k","day","lines","owners"] (uH K T C))
    (eG:Dm K C "part" "Roll.part" dZ ["self","number","holder","most","to"] f3 fd3) (lA:bN P w K mg base (CXE P w) 3 f3 fd3 ["self","number","holder","most","to"] (sJ K T C c))
    (eO:Dm K C "drop" "Roll.drop" d9 ["self","number","holder"] f4 fd4) (lC:bN P w K mg base (CXE P w) 3 f4 fd4 ["self","number","holder"] (sS K T C c)):bN P w K mg base CX0 5 f fd ["one","xs","below"] (uJ K T C):=by
  refine D.F.ok cI (fun vs H Q E h=>?_) (fun cdv A outer s H vs Q E hr h=>?_)
  · obtain ⟨_,_,_,_,_,_,_,rfl,_⟩:=h;rfl
  · obtain ⟨A,lx,lv,xs,r,H0,L,rfl,O,hX,h12,hx0,hV,hR,r1,r40,q⟩:=h
    have g:∀ k:Nat,k<12→xs[k]?=some (xs.getD k 0):=fun k hk=>lK (by omega)
    have t0:=O.same.t0
    refine ⟨_,(au (bf (i:=3) cI.nd rfl (Or.inl rfl) (bK aq))
      (au (bf (i:=4) cI.nd rfl (Or.inl rfl) (bK aq))
      (au (bf (i:=5) cI.nd rfl (Or.inl rfl) ao)
      (au (bf (i:=6) cI.nd rfl (Or.inl rfl) (aF aD (bK (aj (aH cD ao (aH bF (aF aD (pv 1) ao (fun _ _=>rfl)) ao)) (aj (aH cD ao (aH bF (aF aD (pv 1) ao (fun _ _=>rfl)) ao)) aq))) (fM lM rfl B.int PyProof.Rows.boot_int (aj (jC fj (aH bF (aF aD (pv 1) ao (fun _ _=>rfl)) ao) ao (aP _)) aq)) (fun _ _=>rfl)))
      (au (pq PassesOwn.never rfl (jq rfl B.range (aj (pv 6) aq)) (bL (i:=7) cI.nd rfl (Or.inl rfl))
        (gP (bY (PW.pt (pw_or (aJ fj (pv 7) ao (aP _)) (pw_or1 (PW.pt (pw_and (aJ wU (pv 7) ao (aP _)) (pw_and (aJ mX (pv 7) ao (aP _)) (pw_and1 (aJ nR (aH bF (aH cW (aF aD (pv 1) ao (fun _ _=>rfl)) (aH cD (pv 7) ao)) ao) ao (aP _)))))))))
          (au (bD (jh (pv 0) R_Roll.c iW.m uh (hr.mono (by decide)) iW.b .nil cM))
          (aC (bf (i:=5) cI.nd rfl (Or.inl rfl) (aH cD (pv 5) ao))))
          aU)
        (aC (bD (aZ rW (hr.mono (by decide)) rfl gG.m gG.F.kp gG.b .nil cM (aj (pv 0) (aj (pv 1) (aj (pv 2) (aj (pv 7) (aj (pv 5) (aj (pv 3) (aj (pv 4) aq))))))))))))
      (gP (bY (aJ fj (pv 6) ao (aP _))
        (au (bD (eZ (pv 0) R_Roll.c eG.m lA (hr.mono (by decide)) eG.b .nil Ca (aj ao (aj (aF aD (pv 4) ao (fun _ _=>rfl)) (aj ao (aj aL aq))))))
        (au (jO (fY (aj ao (aj (aF aV (aF aD (pv 3) ao (fun _ _=>rfl)) ao (fun _ _=>rfl)) (aj (aF aV (aF aD (pv 3) ao (fun _ _=>rfl)) ao (fun _ _=>rfl)) (aj (aH kI (aF aV (aF aD (pv 3) ao (fun _ _=>rfl)) ao (fun _ _=>rfl)) ao) aq))))) (lG (pv 3) ao set_list))
        (au (bD (kh PySem.F.plainAttrs_list PySem.F.slot_list_append PySem.F.type_list_append cu (pv 3) (aj (fY (aj ao (aj (aF aV (aF aD (pv 3) ao (fun _ _=>rfl)) ao (fun _ _=>rfl)) (aj (aF aV (aF aD (pv 3) ao (fun _ _=>rfl)) ao (fun _ _=>rfl)) (aj ao aq))))) aq)))
        (aC (bD (kh PySem.F.plainAttrs_list PySem.F.slot_list_append PySem.F.type_list_append cu (pv 4) (aj aL aq)))))))
        aU)
      (au (pq PassesOwn.never rfl (lV rfl B.enumerate (aj (fM gA rfl B.list PyProof.Rows.boot_list (aj (pv 3) aq)) aq)) (qX rfl (cL (bL (i:=7) cI.nd rfl (Or.inl rfl)) (cL (bL (i:=8) cI.nd rfl (Or.inl rfl)) jP)))
        (aC (bY (PW.pt (pw_and (aJ fj (aH bF (aF aD (pv 1) ao (fun _ _=>rfl)) ao) ao (aP _)) (pw_and1 (aJ fj (aH bF (aH cW (aF aD (pv 1) ao (fun _ _=>rfl)) (aH cD (pv 7) ao)) ao) ao (aP _)))))
          (au (bD (eZ (pv 0) R_Roll.c eO.m lC (hr.mono (by decide)) eO.b .nil Ca (aj (pv 7) (aj (aF aD (pv 4) (pv 7) (fun _ _=>rfl)) aq))))
          (aC (jO (fY (aj (aF aV (pv 8) ao (fun _ _=>rfl)) (aj (aF aV (pv 8) ao (fun _ _=>rfl)) (aj (aF aV (pv 8) ao (fun _ _=>rfl)) (aj ao aq))))) (lG (pv 3) (pv 7) set_list))))
          aU)))
      (aC (aW (fY (aj (pv 5) (aj (pv 3) (aj (pv 4) aq))))))))))))),?_⟩
    refine ⟨szl,fun ll hll=>?_⟩
    walk_at "nw"
    refine ⟨szl,fun lo hlo=>?_⟩
    walk_at "nw"
    obtain ⟨sz,hsz,hszb⟩:∃ sz:Nat,atI [V.int (1 + xs.getD 0 0 % 6),V.int (59 + xs.getD 7 0 % 2)] (if decide (V.int (xs.getD 1 0 % 6)=V.int 0)=true then 1 else 0)=some (V.int (sz:Int))∧((1≤sz∧sz≤6)∨sz=59∨sz=60):=by
      have a:=mY (xs.getD 0 0) 6 (by decide)
      have b:=mY (xs.getD 7 0) 2 (by decide)
      by_cases h:V.int (xs.getD 1 0 % 6)=V.int 0
      · rw [decide_eq_true h]
        exact ⟨(59 + xs.getD 7 0 % 2).toNat,by rw [Int.toNat_of_nonneg (by omega)];rfl,by omega⟩
      · rw [decide_eq_false h]
        exact ⟨(1 + xs.getD 0 0 % 6).toNat,by rw [Int.toNat_of_nonneg (by omega)];rfl,by omega⟩
    refine ⟨_,rfl,lx,_,0,_,rfl,rfl,O.same.seq hX,aN (i:=0) (g 0 (by decide)),_,_,rfl,rfl,(by show (0:Int)<6;decide),_,_,rfl,rfl,_,rfl,lx,_,7,_,rfl,rfl,O.same.seq hX,aN (i:=7) (g 7 (by decide)),_,_,rfl,rfl,(by show (0:Int)<2;decide),_,_,rfl,rfl,szl,fun lp hlp=>?_⟩
    walk_at "nw"
    refine ⟨_,rfl,lx,_,1,_,rfl,rfl,O.same.seq hX,aN (i:=1) (g 1 (by decide)),_,_,rfl,rfl,(by show (0:Int)<6;decide),rfl,.inr ⟨_,rfl,lp,_,_,_,rfl,rfl,O.sq 0,hsz,?_⟩⟩
    have O:=O.tail
    have O:Ow T H0 _ (RX C A [] r 0 [] [] []++((ll,.lst []) :: (lo,.lst (([]:List Str).map V.str)) :: L)):=O.perm (by
      refine (List.perm_append_comm_assoc (RX C A [] r 0 [] [] []) [(ll,.lst []),(lo,.lst [])] L).trans ?_
      exact List.Perm.swap _ _ _)
    refine ⟨_,rfl,(sz:Int),rfl,by omega,by omega,?_⟩
    rw [Int.toNat_natCast]
    refine ou (n:=sz) (fun i σ H'=>Iv (∃ (Hb:Hp) (S:RS) (v7:Option V),σ=[some (.ref A.p),some (.ref lx),some (.ref lv),some (.ref ll),some (.ref lo),some (.int S.day),some (.int (sz:Int)),v7,none]∧aY T H0 Hb∧RA6 K T C A r Hb H' ll lo L S∧At6 r S i∧Gr6 S i∧S.ds.length≤2 * i))
      ⟨trivial,H0,⟨0,[],[],[]⟩,none,rfl,aY.refl t0,⟨[],[],[],O,.nil,.nil,.nil⟩,⟨hR,r1,r40,rfl,rfl,by decide,by decide,(fun l hl=>nomatch hl),(fun l hl=>nomatch hl),by decide,(fun l hl=>nomatch hl)⟩,⟨(fun l hl=>nomatch hl),(fun j l hl=>nomatch hl),(fun _=>rfl),(fun h=>absurd h (by decide)),(fun h=>absurd h (by decide))⟩,by decide⟩ ?_ ?_
    · clear O
      rintro i σ H4 hi ⟨-,Hb,S,v7,rfl,sb,ra6,hA,hG,hdl⟩
      rw [Int.zero_add]
      have sd0:=hA.d0
      refine ⟨fun σ H'=>Iv (∃ (Hb:Hp) (S1:RS),σ=[some (.ref A.p),some (.ref lx),some (.ref lv),some (.ref ll),some (.ref lo),some (.int S1.day),some (.int (sz:Int)),some (.int (i:Int)),none]∧aY T H0 Hb∧RA6 K T C A r Hb H' ll lo L S1∧At6 r S1 i∧S1.ls=S.ls∧(i=0→S1.day=0)∧(1≤i→1≤S1.day)∧S1.ds.length≤2 * i + 1),?_,?_⟩
      · have go:1≤i→Xd (QH (N7 C "turn" (sG K T C c) [] E0 (Qv 0) Ws)) (Wf (tOp (rI0 fun i j=>V.int (i + j)) (Qv 5) (tC (V.int 1))) (Ax 5)) { nx:=fun σ H'=>Iv (∃ (Hb:Hp) (S1:RS),σ=[some (.ref A.p),some (.ref lx),some (.ref lv),some (.ref ll),some (.ref lo),some (.int S1.day),some (.int (sz:Int)),some (.int (i:Int)),none]∧aY T H0 Hb∧RA6 K T C A r Hb H' ll lo L S1∧At6 r S1 i∧S1.ls=S.ls∧(i=0→S1.day=0)∧(1≤i→1≤S1.day)∧S1.ds.length≤2 * i + 1),rt:=Q,bk:=fun _ _=>False,ct:=fun _ _=>False } [some (.ref A.p),some (.ref lx),some (.ref lv),some (.ref ll),some (.ref lo),some (.int S.day),some (.int (sz:Int)),some (.int (i:Int)),none] H4:=fun h1=>by
          obtain ⟨us,vs,ul,O,d0,d1,d2⟩:=ra6
          refine ⟨_,rfl,A.p,A.dx,_,rfl,O.get 0,rfl,A,[],Hb,_,r,S,rfl,⟨us,vs,O,d0,d1⟩,hA.rp (by omega),fun S' e Hc H5 sc ra=>?_,fun k e=>by simp only [step] at e;cases e⟩
          cases e
          obtain ⟨us',vs',O,e0,e1⟩:=ra
          refine ⟨_,rfl,_,_,rfl,rfl,trivial,Hc,_,rfl,sb.trans sc,⟨us',vs',ul,O,e0,e1,d2.mo sc⟩,⟨hA.rv,hA.r1,hA.r40,hA.ll,hA.nn,by show 0≤S.day + 1;omega,by have:=hG.e h1;show S.day + 1≤_;omega,hA.lo,hA.na,by show (S.ds++[lO.turn]).length≤300;rw [List.length_append];simp only [List.length_cons,List.length_nil];omega,qg hA.ok trivial⟩,rfl,fun z=>absurd h1 (by omega),fun _=>by show 1≤S.day + 1;omega,by show (S.ds++[lO.turn]).length≤_;rw [List.length_append];simp only [List.length_cons,List.length_nil];omega⟩
        have stay:¬ i=1→Iv (∃ (Hb:Hp) (S1:RS),[some (V.ref A.p),some (.ref lx),some (.ref lv),some (.ref ll),some (.ref lo),some (.int S.day),some (.int (sz:Int)),some (.int (i:Int)),none]=[some (.ref A.p),some (.ref lx),some (.ref lv),some (.ref ll),some (.ref lo),some (.int S1.day),some (.int (sz:Int)),some (.int (i:Int)),none]∧aY T H0 Hb∧RA6 K T C A r Hb H4 ll lo L S1∧At6 r S1 i∧S1.ls=S.ls∧(i=0→S1.day=0)∧(1≤i→1≤S1.day)∧S1.ds.length≤2 * i + 1):=fun h1 =>
          ⟨trivial,Hb,S,rfl,sb,ra6,hA,rfl,hG.d,fun h=>hG.g (by omega),by omega⟩
        have sX:SqL K H4 lx (xs.map V.int):=by obtain ⟨us,vs,ul,O,_⟩:=ra6;exact (sb.trans O.same).seq hX
        refine ⟨_,rfl,rfl,_,rfl,ifI (fun h1=>?_) (fun h1=>?_)⟩
        · exact go (by have h1:(i:Int)=1:=h1;omega)
        have h1':¬ i=1:=fun z=>h1 (by rw [z];rfl)
        refine ⟨_,rfl,_,_,rfl,rfl,_,rfl,ifD (fun h2=>?_) (fun h2=>stay h1')⟩
        refine ⟨_,rfl,_,_,rfl,rfl,_,rfl,ifD (fun h3=>?_) (fun h3=>stay h1')⟩
        refine ⟨_,rfl,lx,_,2,_,rfl,rfl,sX,aN (i:=2) (g 2 (by decide)),_,rfl,_,_,rfl,rfl,_,_,rfl,rfl,(show Bs _ _ from ⟨by omega,by omega⟩),_,_,rfl,rfl,(by show (0:Int)<3;decide),rfl,_,rfl,ifN (ifI (fun _=>stay h1') (fun _=>go (by have h2:(1:Int)<(i:Int):=h2;omega)))⟩
      rintro σ H5 ⟨-,Hc,S1,rfl,sc,ra6,hA1,els,hd0,hd1,hdl1⟩
      refine ⟨_,rfl,_,rfl,_,rfl,_,rfl,_,rfl,_,rfl,_,rfl,A,lx,lv,ll,lo,xs,r,i,Hc,L,S1,rfl,ra6,sc.seq hX,h12,hx0,sc.seq hV,by omega,hA1,by omega,fun l x Hd H6 sd e1 e2 e3 e4 ra7=>?_⟩
      have a1:=hA1.d1
      refine ⟨trivial,Hd,⟨S1.day,S1.ls++[l],S1.ns++[x],S1.ds++[lO.file x l.start l.most l.back]⟩,_,rfl,sc.trans sd,ra7,hA1.snoc e1 (by omega) e2 e3 e4 (by omega) (rN e4),⟨fun y hy=>?_,fun j y hy=>?_,(fun h=>absurd h (by omega)),(fun _=>by show S1.day + 1≤_;omega),(fun h=>hd1 (by omega))⟩,by show (S1.ds++[_]).length≤_;rw [List.length_append];simp only [List.length_cons,List.length_nil];omega⟩
      · have hy:(S1.ls++[l])[0]?=some y:=hy
        by_cases h:i=0
        · have hn:S1.ls=[]:=List.length_eq_zero_iff.mp (by rw [hA1.ll];exact h)
          rw [hn] at hy
          cases hy
          exact ⟨by rw [e1,hd0 h],e2⟩
        · rw [List.getElem?_append_left (by rw [hA1.ll];omega),els] at hy
          exact hG.z y hy
      · have hy:(S1.ls++[l])[j + 1]?=some y:=hy
        by_cases h:j + 1<S1.ls.length
        · rw [List.getElem?_append_left h,els] at hy
          exact hG.o j y hy
        · rw [List.getElem?_append_right (by omega)] at hy
          have hlen:=hA1.ll
          have:y=l:=by
            cases hz:j + 1 - S1.ls.length with
            | zero=>rw [hz] at hy;cases hy;rfl
            | succ m=>rw [hz] at hy;cases hy
          rw [this,e1];exact hd1 (by
            have:=(List.getElem?_eq_some_iff.mp hy).1
            simp only [List.length_cons,List.length_nil] at this
            omega)
    clear O
    rintro σ H4 ⟨-,Hb,S,v7,rfl,sb,ra6,hA,hG,hdl⟩
    refine ⟨fun σ H'=>Iv (∃ (Hb:Hp) (S:RS) (n:Nat) (v7:Option V),σ=[some (.ref A.p),some (.ref lx),some (.ref lv),some (.ref ll),some (.ref lo),some (.int S.day),some (.int (sz:Int)),v7,none]∧aY T H0 Hb∧RA6 K T C A r Hb H' ll lo L S∧At6 r S n∧1≤n∧n≤60∧S.ds.length≤140),?_,?_⟩
    · refine ⟨_,rfl,rfl,_,rfl,ifI (fun h59=>?_) (fun _=>⟨trivial,Hb,S,sz,v7,rfl,sb,ra6,hA,by omega,by omega,by omega⟩)⟩
      have h59:(sz:Int)=59:=h59
      obtain ⟨us,vs,ul,O,d0,d1,d2⟩:=ra6
      have hll:=hA.ll
      have hnn:=hA.nn
      obtain ⟨x,hx⟩:∃ x,S.ns[0]?=some x:=⟨_,List.getElem?_eq_getElem (by omega)⟩
      obtain ⟨l,hl⟩:∃ l,S.ls[0]?=some l:=⟨_,List.getElem?_eq_getElem (by omega)⟩
      obtain ⟨hl0,hl2⟩:=hG.z l hl
      have hlb:=hA.lo l (List.mem_of_getElem? hl)
      have hat:S.at_ 0=l:=mO (k:=0) rfl hl
      have hmt:fu S.ls l.day S.ls.length=[(0:Int)]:=(rC hl (by omega)).mp (pC (fun j y hj hy=>by
        cases j with
        | zero=>exact absurd rfl hj
        | succ j=>have:=hG.o j y hy;omega) _)
      have hst:step r S (.part 0 x 1 "b")=.ok ⟨S.day,S.ls.set 0 (wm l (l.most - 1))++[wm l 1],S.ns++[("b":Str)],S.ds++[.part 0 x 1 "b"]⟩:=by
        simp only [step]
        rw [jj (by decide) (by omega) hx,if_neg (not_not_intro uP),hat,if_neg (by omega),hmt,if_neg (not_not_intro rfl),if_neg (by omega)]
        rfl
      have hul:ul.length=S.ls.length:=by rw [d2.length,List.length_map]
      refine ⟨_,rfl,A.p,A.dx,_,rfl,O.get 0,rfl,_,rfl,lo,_,0,_,rfl,rfl,O.sq 7,(show atI _ ((0:Nat):Int)=some (.str x) from cX (by rw [List.getElem?_map,hx];rfl)),A,[],Hb,_,r,S,0,x,1,"b",rfl,⟨us,vs,O,d0,d1⟩,hA.rp (by omega),Dq,fun S' e Hc H5 sc ra=>?_,fun k e=>by rw [hst] at e;cases e⟩
      rw [hst] at e
      cases e
      clear O
      obtain ⟨us',vs',O,e0,e1⟩:=ra
      have d2:=d2.mo sc
      obtain ⟨al,hal,hT⟩:=d2.jR hl
      have hTm:=hT.mo O.same
      have h00:∀ {v:List V} {y:V},v[0]?=some y→atI v 0=some y:=fun h=>(show atI _ ((0:Nat):Int)=some _ from cX h)
      refine ⟨_,rfl,ll,_,0,_,rfl,rfl,O.sq 6,h00 hal,al,_,1,_,rfl,rfl,hTm,rfl,_,rfl,ll,_,0,_,rfl,rfl,O.sq 6,h00 hal,al,_,2,_,rfl,rfl,hTm,rfl,_,rfl,ll,_,0,_,rfl,rfl,O.sq 6,h00 hal,al,_,3,_,rfl,rfl,hTm,rfl,_,_,rfl,rfl,szl,fun t1 ht1=>?_⟩
      walk_at "nw"
      refine ⟨_,rfl,?_⟩
      refine mJ O 7 rfl (show ixN ul.length ((0:Nat):Int)=some 0 from jT (by omega)) fun H6 O=>?_
      have O:Ow T Hc H6 ((t1,.tup (mC (wm l (l.most - 1)))) :: (RX C A [] r S.day us' (S.ns++[("b":Str)]) vs'++((ll,.lst (ul.set 0 (V.ref t1))) :: (lo,.lst (S.ns.map V.str)) :: L))):=by
        have e:(V.int 0)=V.int l.day:=by rw [hl0]
        show Ow T Hc H6 ((t1,.tup [V.int l.day,V.int l.start,V.int l.back,V.int (l.most - 1)]) :: _)
        rw [← e];exact O
      have hs0:(ul.set 0 (V.ref t1))[0]?=some (V.ref t1):=List.getElem?_set_self (by omega)
      refine ⟨_,rfl,.inl ⟨rfl,_,O.sq 7⟩,_,rfl,ll,_,0,_,rfl,rfl,O.sq 7,h00 hs0,t1,_,1,_,rfl,rfl,O.sqT 0,rfl,_,rfl,ll,_,0,_,rfl,rfl,O.sq 7,h00 hs0,t1,_,2,_,rfl,rfl,O.sqT 0,rfl,szl,fun t2 ht2=>?_⟩
      walk_at "nw"
      refine ⟨ll,_,_,rfl,rfl,O.get 8,aR (by rw [List.length_set];omega),?_⟩
      generalize hE:upd _ _ _=Hn2
      replace O:=Ow.mW O 8 rfl hE rfl
      clear hE
      refine ⟨_,rfl,.inl ⟨rfl,_,O.sq 9⟩,lo,_,_,rfl,rfl,O.get 9,aR (by rw [List.length_map];omega),?_⟩
      generalize hE:upd _ _ _=Hn3
      replace O:=Ow.mW O 9 rfl hE rfl
      clear hE
      have O:Ow T Hc Hn3 ((t2,.tup (mC (wm l 1))) :: (t1,.tup (mC (wm l (l.most - 1)))) :: (RX C A [] r S.day us' (S.ns++[("b":Str)]) vs'++((ll,.lst (ul.set 0 (V.ref t1)++[V.ref t2])) :: (lo,.lst ((S.ns++[("b":Str)]).map V.str)) :: L))):=by
        have e:(V.int 0)=V.int l.day:=by rw [hl0]
        rw [List.map_append (l₁:=S.ns)]
        show Ow T Hc Hn3 ((t2,.tup [V.int l.day,V.int l.start,V.int l.back,V.int 1]) :: _)
        rw [← e];exact O
      obtain ⟨Hd,O,sd,g2⟩:=O.frz
      obtain ⟨He,O,se,g1⟩:=O.frz
      have g2:=se.keep _ _ g2 (fun _ z=>nomatch z)
      have sx:=sd.trans se
      refine ⟨trivial,He,⟨S.day,S.ls.set 0 (wm l (l.most - 1))++[wm l 1],S.ns++[("b":Str)],S.ds++[lO.part 0 x 1 "b"]⟩,60,_,rfl,sb.trans (sc.trans sx),⟨us',vs',_,O,e0.mo sx,e1.mo sx,?_⟩,⟨hR,r1,r40,by simp [hll];omega,by simp [hnn];omega,hA.d0,by have:=hA.d1;show S.day≤_;omega,fun y hy=>?_,fun y hy=>?_,by show (S.ds++[_]).length≤300;rw [List.length_append];simp only [List.length_cons,List.length_nil];omega,qg hA.ok ⟨rN (hA.na x (List.mem_of_getElem? hx)),Dq⟩⟩,by decide,by decide,by show (S.ds++[_]).length≤140;rw [List.length_append];simp only [List.length_cons,List.length_nil];omega⟩
      · show dM K He _ ((S.ls.set 0 (wm l (l.most - 1))++[wm l 1]).map mZ)
        rw [List.map_append,List.map_set]
        exact ((d2.mo sx).set (Den.lic (l:=wm l (l.most - 1)) (SqT.of g1)) 0).append (.cons (Den.lic (l:=wm l 1) (SqT.of g2)) .nil)
      · rcases List.mem_append.mp hy with z | z
        · rcases List.mem_or_eq_of_mem_set z with z | z
          · exact hA.lo y z
          · rw [z];exact ⟨hlb.1,by show 0≤l.most - 1;omega,by show l.most - 1≤_;omega⟩
        · rw [List.mem_singleton.mp z];exact ⟨hlb.1,by show (0:Int)≤1;decide,by show (1:Int)≤_;decide⟩
      · rcases List.mem_append.mp hy with z | z
        · exact hA.na y z
        · rw [List.mem_singleton.mp z];exact .inr rfl
    clear hA hG hdl ra6 sb
    rintro σ H5 ⟨-,Hb,S0,n,v7,rfl,sb,⟨us,vs,ul0,O,d0,d1,d2⟩,hA0,hn1,hn60,hdl⟩
    refine ⟨_,rfl,ll,_,rfl,.inl (O.sq 6),fun lc hlc=>?_⟩
    walk_at "nw"
    have O:=O.mid (R:=RX C A [] r S0.day us S0.ns vs)
    refine ⟨lc,ul0,rfl,O.sq 6,?_⟩
    have hul0:ul0.length=n:=by rw [d2.length,List.length_map,hA0.ll]
    refine uU (K:=K) (xs:=ul0) (fun i σ H'=>Iv (∃ (Hc:Hp) (S:RS) (us vs ul:List V) (v7 v8:Option V),σ=[some (.ref A.p),some (.ref lx),some (.ref lv),some (.ref ll),some (.ref lo),some (.int S.day),some (.int (sz:Int)),v7,v8]∧aY T Hb Hc∧Ow T Hc H' (RX C A [] r S.day us S.ns vs++((lc,.lst ul0) :: (ll,.lst ul) :: (lo,.lst (S.ns.map V.str)) :: L))∧dM K Hc us (S.ls.map mZ)∧dM K Hc vs (S.ds.map tU)∧dM K Hc ul (S.ls.map mZ)∧At6 r S n∧(∀ j,i≤j→S.ls[j]?=S0.ls[j]?)∧S.ds.length≤140 + i))
      ⟨trivial,Hb,S0,us,vs,ul0,_,_,rfl,aY.refl sb.t1,O,d0,d1,d2,hA0,(fun _ _=>rfl),hdl⟩ (fun i σ H' _ ⟨_,_,_,_,_,_,_,_,_,_,O,_⟩=>O.sq 6) ?_ ?_
    · clear O
      rintro i y T0 σ H6 hy ⟨-,Hc,S,us,vs,ul,v7,v8,rfl,sc,O,d0,d1,d3,hA,hsame,hdl⟩ hT0
      have hi:=(List.getElem?_eq_some_iff.mp hy).1
      obtain ⟨al,l,rfl,hl0,hT⟩:=d2.lu hy
      have hl:S.ls[i]?=some l:=by rw [hsame i (Nat.le_refl _)];exact hl0
      have hlb:=hA.lo l (List.mem_of_getElem? hl)
      have hnn:=hA.nn
      have hll:=hA.ll
      obtain ⟨x,hx⟩:∃ x,S.ns[i]?=some x:=⟨_,List.getElem?_eq_getElem (by omega)⟩
      walk_at "nw"
      refine ⟨T0,_,rfl,O.sqT 0,rfl,_,_,rfl,_,_,rfl,rfl,?_⟩
      have O:=O.tail
      have skip:∀ {H'},Ow T Hc H' (RX C A [] r S.day us S.ns vs++((lc,.lst ul0) :: (ll,.lst ul) :: (lo,.lst (S.ns.map V.str)) :: L))→Iv (∃ (Hc:Hp) (S1:RS) (us vs ul:List V) (v7 v8:Option V),[some (V.ref A.p),some (.ref lx),some (.ref lv),some (.ref ll),some (.ref lo),some (.int S.day),some (.int (sz:Int)),some (.int (i:Int)),some (.ref al)]=[some (.ref A.p),some (.ref lx),some (.ref lv),some (.ref ll),some (.ref lo),some (.int S1.day),some (.int (sz:Int)),v7,v8]∧aY T Hb Hc∧Ow T Hc H' (RX C A [] r S1.day us S1.ns vs++((lc,.lst ul0) :: (ll,.lst ul) :: (lo,.lst (S1.ns.map V.str)) :: L))∧dM K Hc us (S1.ls.map mZ)∧dM K Hc vs (S1.ds.map tU)∧dM K Hc ul (S1.ls.map mZ)∧At6 r S1 n∧(∀ j,i + 1≤j→S1.ls[j]?=S0.ls[j]?)∧S1.ds.length≤140 + (i + 1)):=fun O =>
        ⟨trivial,Hc,S,us,vs,ul,_,_,rfl,sc,O,d0,d1,d3,hA,fun j hj=>hsame j (by omega),by omega⟩
      have sX:SqL K _ lx (xs.map V.int):=(sb.trans (sc.trans O.same)).seq hX
      refine ⟨_,rfl,lx,_,10,_,rfl,rfl,sX,aN (i:=10) (g 10 (by decide)),_,_,rfl,rfl,(by show (0:Int)<3;decide),rfl,_,rfl,ifI (fun _=>?_) (fun _=>skip O)⟩
      refine ⟨_,rfl,lx,_,11,_,rfl,rfl,sX,aN (i:=11) (g 11 (by decide)),_,rfl,_,_,rfl,rfl,_,_,rfl,rfl,(show Bs _ _ from ⟨by omega,by omega⟩),_,_,rfl,rfl,(by show (0:Int)<4;decide),rfl,_,rfl,ifI (fun _=>?_) (fun _=>skip O)⟩
      have hst:step r S (.drop (i:Int) x)=.ok ⟨S.day,S.ls.set i (wm l 0),S.ns,S.ds++[.drop (i:Int) x]⟩:=by
        simp only [step]
        rw [jj (by omega) (by omega) (by rw [Int.toNat_natCast];exact hx),mO rfl hl,Int.toNat_natCast]
      refine ⟨_,rfl,A.p,A.dx,_,rfl,O.get 0,rfl,_,rfl,_,rfl,_,rfl,lo,_,_,_,rfl,rfl,O.sq 8,cX (show (S.ns.map V.str)[i]?=some (.str x) by rw [List.getElem?_map,hx];rfl),A,[],Hc,_,r,S,(i:Int),x,rfl,⟨us,vs,O,d0,d1⟩,hA.rp hn60,fun S' e Hd H7 sd ra=>?_,fun k e=>by rw [hst] at e;cases e⟩
      rw [hst] at e
      cases e
      clear O skip
      obtain ⟨us',vs',O,e0,e1⟩:=ra
      have hTm:=(sc.trans (sd.trans O.same)).Od hT
      have hul3:ul.length=n:=by rw [d3.length,List.length_map,hll]
      refine ⟨_,rfl,al,_,0,_,rfl,rfl,hTm,rfl,_,rfl,al,_,1,_,rfl,rfl,hTm,rfl,_,rfl,al,_,2,_,rfl,rfl,hTm,rfl,szl,fun t1 ht1=>?_⟩
      walk_at "nw"
      refine ⟨_,rfl,_,rfl,?_⟩
      refine mJ O 8 rfl (jT (by omega)) fun H8 O=>?_
      obtain ⟨He,O,se,g1⟩:=(show Ow T Hd H8 ((t1,.tup (mC (wm l 0))) :: (RX C A [] r S.day us' S.ns vs'++((lc,.lst ul0) :: (ll,.lst (ul.set i (V.ref t1))) :: (lo,.lst (S.ns.map V.str)) :: L))) from O).frz
      refine ⟨trivial,He,⟨S.day,S.ls.set i (wm l 0),S.ns,S.ds++[lO.drop (i:Int) x]⟩,us',vs',ul.set i (V.ref t1),_,_,rfl,sc.trans (sd.trans se),O,e0.mo se,e1.mo se,?_,⟨hR,r1,r40,by simp [hll],hnn,hA.d0,hA.d1,fun y hy=>?_,hA.na,by show (S.ds++[_]).length≤300;rw [List.length_append];simp only [List.length_cons,List.length_nil];omega,qg hA.ok (rN (hA.na x (List.mem_of_getElem? hx)))⟩,fun j hj=>?_,by show (S.ds++[_]).length≤_;rw [List.length_append];simp only [List.length_cons,List.length_nil];omega⟩
      · show dM K He _ ((S.ls.set i (wm l 0)).map mZ)
        rw [List.map_set]
        exact ((d3.mo sd).mo se).set (Den.lic (l:=wm l 0) (SqT.of g1)) i
      · rcases List.mem_or_eq_of_mem_set hy with z | z
        · exact hA.lo y z
        · rw [z];exact ⟨hlb.1,by show (0:Int)≤0;decide,by show (0:Int)≤_;decide⟩
      · show (S.ls.set i (wm l 0))[j]?=_
        rw [List.getElem?_set_ne (by omega)];exact hsame j (by omega)
    clear O
    rintro σ H6 ⟨-,Hc,S,us,vs,ul,v7,v8,rfl,sc,O,d0,d1,d3,hA,hsame,hdl⟩
    refine ⟨_,rfl,_,rfl,_,rfl,szl,fun t ht=>?_⟩
    walk_at "nw"
    refine q t ll lo S n us vs ul Hc _ (sb.trans sc) hA hn1 hn60 ?_ d0 d1 d3
    exact O.sub (List.Sublist.cons₂ _ (List.Sublist.append_left (List.sublist_cons_self _ _) _))
end
theorem tO {K:PySem.W.Frag} {as bs:List Addr} {n m:Nat} (h:as.map (fun a=>bs.map (fun b=>PySem.W.kitOne K (.ref a) (.ref b)))=(List.range n).map fun i=>(List.range m).map fun j=>some (decide (j=i))) {i j:Nat} {a b:Addr} (ha:as[i]?=some a) (hb:bs[j]?=some b):PySem.W.kitOne K (.ref a) (.ref b)=some (decide (j=i)):=by
  have h1:=congrArg (fun l=>l[i]?) h
  simp only [List.getElem?_map,ha,Option.map_some] at h1
  have hi:i<n:=by
    rcases Nat.lt_or_ge i n with z | z
    · exact z
    · rw [List.getElem?_eq_none (by simpa using z)] at h1;cases h1
  rw [List.getElem?_range hi] at h1
  simp only [Option.map_some,Option.some.injEq] at h1
  have h2:=congrArg (fun l=>l[j]?) h1
  simp only [List.getElem?_map,hb,Option.map_some] at h2
  have hj:j<m:=by
    rcases Nat.lt_or_ge j m with z | z
    · exact z
    · rw [List.getElem?_eq_none (by simpa using z)] at h2;cases h2
  rw [List.getElem?_range hj] at h2
  simpa using h2
theorem o9 {r:List Int} {rk:Nat→Nat} (h3:∀ (i:Nat) (x:Int),r[i]?=some x→x=-1∨(0≤x∧x<r.length∧rk x.toNat<rk i)):∀ (f:Nat) (p:Int),0≤p→p<r.length→rk p.toNat<f→Rv.lQ r f p=-1
  | 0,p,_,_,h=>absurd h (Nat.not_lt_zero _)
  | f + 1,p,h0,h1,h=>by
    show Rv.lQ r f (Rv.stp r p)=-1
    unfold Rv.stp
    rw [if_neg (by omega)]
    rcases h3 _ _ (Rv.jV h0 h1) with e | ⟨a,b,c⟩
    · rw [e];exact Rv.uw r f
    · exact o9 h3 f _ a b (by omega)
theorem wI {r:List Int} (hR:Rv.lN r) (h1:1≤r.length) (h2:r.length≤40):Rv.isR r=true:=by
  obtain ⟨rk,k1,k2⟩:=hR
  have hB:Rv.inB r:=fun x hx=>by
    obtain ⟨i,hi⟩:=List.getElem?_of_mem hx
    rcases k2 i x hi with e | ⟨a,b,_⟩ <;> omega
  unfold Rv.isR
  rw [decide_eq_true (⟨h1,h2⟩:1≤r.length∧r.length≤40),decide_eq_true hB,decide_eq_true (fun i hi=>o9 k2 _ _ (by omega) (by omega) (by rw [Int.toNat_natCast];exact k1 i hi))]
  rfl
theorem BL (k:EK):Asc (mU k):=by cases k <;> exact ⟨by decide +kernel,by decide +kernel⟩
theorem NQ (k:EK):mU k≠"":=by cases k <;> decide +kernel
theorem Sh.one (k:EK):Sh 1 (.list [.str (mU k)]):=.list fun d hd=>by
  rw [List.mem_singleton.mp hd];exact Sh.str 0 (BL k)
abbrev oU:Stmt:=top 58
theorem jK:aQ ["script","first","below","one","day","lines","owners","trail","cell","deed","due"] ["script"] (ak oU):=⟨rfl,rfl,rfl,by decide +kernel,rfl,by decide +kernel,by decide +kernel⟩
def uF (K:PySem.W.Frag):Sp:=fun vs H Q _=>∃ (a:Addr) (ns:List Int),vs=[.ref a]∧SqL K H a (ns.map V.int)∧ns.length≤63∧∀ H',Q (.bl true) H'
section
variable {P:Program} {w:World} {K:PySem.W.Frag} {mg:Str→Option Value} {base:Heap} {C f2:Addr} {c:Ec}
theorem Rf {f f1 f3 f4 f5 f6 f7 f8 f9 f10 f11 f12:Addr} {fd fd1 fd2 fd3 fd4 fd5 fd6 fd7 fd8 fd9 fd10 fd11 fd12:FuncData} (D:Df K mg "law" oU ["script"] f fd) (B:Blt mg) (R_Roll:Cl K mg "Roll" C f2 QL)
    (bZ:Df K mg "_law_cell_at" cR ["script","k"] f1 fd1) (kO:bN P w K mg base CX0 1 f1 fd1 ["script","k"] (wA K))
    (gD:Df K mg "_law_river" cO ["cell"] f3 fd3) (rR:bN P w K mg base CX0 3 f3 fd3 ["cell"] (uE []))
    (gU:Dm K C "__init__" "Roll.__init__" cj ["self","below"] f2 fd2) (oM:bN P w K mg base (CXE P w) 3 f2 fd2 ["self","below"] (wj K [] C c))
    (bI:Df K mg "_law_draws" cQ ["cell","many"] f5 fd5) (ji:bN P w K mg base CX0 2 f5 fd5 ["cell","many"] (wk []))
    (gH:Df K mg "_law_begun" dR ["one","xs","below"] f4 fd4) (rY:bN P w K mg base CX0 5 f4 fd4 ["one","xs","below"] (uJ K [] C))
    (fP:Dm K C "deeds" "Roll.deeds" dW ["self"] f8 fd8) (mR:bN P w K mg base CX0 1 f8 fd8 ["self"] (lR K C "done"))
    (gn:Dm K C "holders" "Roll.holders" cU ["self"] f9 fd9) (oY:bN P w K mg base CX0 1 f9 fd9 ["self"] (lR K C "names"))
    (iZ:Dm K C "roll" "Roll.roll" fK ["self"] f10 fd10) (uo:bN P w K mg base CX0 1 f10 fd10 ["self"] (lR K C "licences"))
    (iw:Dm K C "today" "Roll.today" dU ["self"] f11 fd11) (rZ:bN P w K mg base CX0 1 f11 fd11 ["self"] (uD C))
    (gZ:Df K mg "_law_deed" fG ["xs","below","lines","owners"] f6 fd6) (ug:bN P w K mg base CX0 2 f6 fd6 ["xs","below","lines","owners"] (wz K []))
    (iR:Df K mg "_law_due" fX ["deed","below","lines","owners"] f7 fd7) (vL:bN P w K mg base CX0 4 f7 fd7 ["deed","below","lines","owners"] (DG K []))
    (eY:Df K mg "_law_refused" cP ["one","deed"] f12 fd12) (oX:bN P w K mg base CX0 5 f12 fd12 ["one","deed"] (vY K [] C)):bN P w K mg base CX0 6 f fd ["script"] (uF K):=by
  refine D.F.ok jK (fun vs H Q E h=>?_) (fun cdv A outer s H vs Q E hr h=>?_)
  · obtain ⟨_,_,rfl,_⟩:=h;rfl
  · obtain ⟨a,ns,rfl,hS,hlen,k⟩:=h
    have hu:=hr.units
    refine ⟨_,(au (bf (i:=1) jK.nd rfl (Or.inl rfl) (aZ ji (hr.mono (by decide)) rfl bI.m bI.F.kp bI.b .nil cM (aj (aH cW (aZ kO (hr.mono (by decide)) rfl bZ.m bZ.F.kp bZ.b .nil cM (aj (pv 0) (aj ao aq))) ao) (aj ao aq))))
      (au (bf (i:=2) jK.nd rfl (Or.inl rfl) (aZ rR (hr.mono (by decide)) rfl gD.m gD.F.kp gD.b .nil cM (aj (aZ kO (hr.mono (by decide)) rfl bZ.m bZ.F.kp bZ.b .nil cM (aj (pv 0) (aj ao aq))) aq)))
      (au (bf (i:=3) jK.nd rfl (Or.inl rfl) (Oj R_Roll.k oM (hr.mono (by decide)) rfl R_Roll.m gU.b .nil Ca (aj (fM gA rfl B.list PyProof.Rows.boot_list (aj (pv 2) aq)) aq)))
      (au (jO (aZ rY (hr.mono (by decide)) rfl gH.m gH.F.kp gH.b .nil cM (aj (pv 3) (aj (pv 1) (aj (pv 2) aq)))) (qX rfl (cL (bL (i:=4) jK.nd rfl (Or.inl rfl)) (cL (bL (i:=5) jK.nd rfl (Or.inl rfl)) (cL (bL (i:=6) jK.nd rfl (Or.inl rfl)) jP)))))
      (au (bf (i:=7) jK.nd rfl (Or.inl rfl) (jh (pv 3) R_Roll.c fP.m mR (hr.mono (by decide)) fP.b .nil cM))
      (au (pq PassesOwn.never rfl (p8 (jg nG (pv 0) (jB ao) (jB ao))) (bL (i:=8) jK.nd rfl (Or.inl rfl))
        (au (bf (i:=9) jK.nd rfl (Or.inl rfl) (aZ ug (hr.mono (by decide)) rfl gZ.m gZ.F.kp gZ.b .nil cM (aj (aZ ji (hr.mono (by decide)) rfl bI.m bI.F.kp bI.b .nil cM (aj (pv 8) (aj ao aq))) (aj (pv 2) (aj (pv 5) (aj (pv 6) aq))))))
        (au (bf (i:=10) jK.nd rfl (Or.inl rfl) (aZ vL (hr.mono (by decide)) rfl iR.m iR.F.kp iR.b .nil cM (aj (pv 9) (aj (pv 2) (aj (pv 5) (aj (pv 6) aq))))))
        (gP (bY (PW.pt (pw_and (aJ nR (pv 10) aL (aP _)) (pw_and1 (aJ (qZ hu) (aZ oX (hr.mono (by decide)) rfl eY.m eY.F.kp eY.b .nil cM (aj (pv 3) (aj (pv 9) aq))) (bK (aj (pv 10) aq)) (aP _)))))
          (aC (aW qe))
          aU)
        (aC (bY (PW.pt (pw_or (aJ (qZ hu) (jh (pv 3) R_Roll.c iZ.m uo (hr.mono (by decide)) iZ.b .nil cM) (pv 5) (aP _)) (pw_or (aJ (qZ hu) (jh (pv 3) R_Roll.c gn.m oY (hr.mono (by decide)) gn.b .nil cM) (pv 6) (aP _)) (pw_or (aJ nR (jh (pv 3) R_Roll.c iw.m rZ (hr.mono (by decide)) iw.b .nil cM) (pv 4) (aP _)) (pw_or1 (aJ (qZ hu) (jh (pv 3) R_Roll.c fP.m mR (hr.mono (by decide)) fP.b .nil cM) (pv 7) (aP _)))))))
          (aC (aW qe))
          aU))))))
      (aC (aW qe)))))))),?_⟩
    have O:=Ow.Wy H
    refine ⟨_,rfl,a,ns,0,rfl,hS,_,_,rfl,rfl,⟨by decide,by decide⟩,_,12,rfl,by decide,O.same.t1,O.V0 fun lx H1 xs O e=>?_⟩
    subst e
    have hx12:=lY (ns.getD 0 0 / 7) 12
    have hxn:∀ x∈dvs (ns.getD 0 0 / 7) 12,0≤x:=fun x hx=>by
      obtain ⟨j,hj⟩:=List.getElem?_of_mem hx
      have hj8:=(List.getElem?_eq_some_iff.mp hj).1
      rw [lY] at hj8
      rw [rF hj8] at hj
      rw [← Option.some.inj hj];exact V3 _ _
    generalize dvs (ns.getD 0 0 / 7) 12=xs at O hx12 hxn
    refine ⟨_,rfl,a,ns,0,rfl,O.same.seq hS,_,rfl,O.same.t1,O.V0 fun lv H2 rs O e=>?_⟩
    obtain ⟨r,rfl,hR,r1,r12⟩:=e
    have hIR:=wI hR r1 (by omega)
    obtain ⟨Hf,O,sf,ev⟩:=O.frz
    obtain ⟨Hg,O,sg,ex⟩:=O.frz
    have ev:=sg.keep _ _ ev (fun _ z=>nomatch z)
    have sg:=sf.trans sg
    clear sf
    refine ⟨_,rfl,lv,_,rfl,.inl (O.same.seq (SqL.of ev)),fun lb hlb=>?_⟩
    walk_at "nw"
    intro x dx nx ndx nex
    have O:=(O.mk' ndx (o:=.own x) rfl).mk' (a:=x) (o:=.ins C dx []) (by rw [bC nex.symm];exact nx) rfl
    refine ⟨x,dx,lb,Hg,_,r,rfl,O,O.sq 2,by omega,fun _ A H5 eA O5=>⟨rfl,?_⟩,fun z=>by rw [hIR] at z;cases z⟩
    subst eA
    clear O nx ndx nex
    have O:Ow [] Hg H5 (RX C A [] r 0 [] [] []++[]):=O5.sub (List.Sublist.append_left (List.sublist_cons_self _ _) _)
    clear O5
    refine ⟨_,rfl,_,rfl,_,rfl,A,lx,lv,xs,r,Hg,[],rfl,O,SqL.of ex,hx12,hxn,SqL.of ev,hR,r1,by omega,fun tb ll lo S n us vs ul Hb H6 sb hA hn1 hn60 O d0 d1 d2=>?_⟩
    refine ⟨tb,_,rfl,O.sqT 0,rfl,_,_,rfl,_,_,rfl,_,_,rfl,rfl,?_⟩
    have O:=O.tail
    refine ⟨_,rfl,A.p,A.dx,_,rfl,O.get 0,rfl,A.p,A.dx,A.lo,_,_,rfl,O.get 0,rfl,O.sq 5,fun lt hlt=>?_⟩
    walk_at "nw"
    have O:=O.mid (R:=RX C A [] r S.day us S.ns vs)
    refine ⟨_,rfl,1,rfl,25,rfl,a,_,rfl,(sg.trans (sb.trans O.same)).seq hS,fun lq hlq=>?_⟩
    walk_at "nw"
    rw [show tX (ns.map V.int) (some 1) (some 25)=((ns.drop 1).take 24).map V.int from V4 ns 1 25] at O
    generalize (ns.drop 1).take 24=qs at O
    have O:=O.mid (R:=RX C A [] r S.day us S.ns vs)
    have hp:=hA.rp hn60
    have hll:=hA.ll
    have hnn:=hA.nn
    have hd0:=hA.d0
    have hd1:=hA.d1
    have hS56:S56 r S:=⟨hR,by omega,by omega,by omega,⟨hd0,by omega⟩,hA.lo⟩
    have shD:=Sh.W4 hA.ok
    have shN:=Sh.strs 0 (fun x hx=>rN (hA.na x hx))
    have shL:Sh 2 (.list (S.ls.map mZ)):=Sh.roll 0 S.ls
    refine ⟨lq,rfl,⟨_,O.sq 6⟩,?_⟩
    refine Dj (K:=K) (xs:=qs.map V.int) (fun i σ H'=>Iv (∃ (Hc:Hp) (v8 v9 v10:Option V),σ=[some (.ref a),some (.ref lx),some (.ref lv),some (.ref A.p),some (.int S.day),some (.ref ll),some (.ref lo),some (.ref lt),v8,v9,v10]∧aY [] Hb Hc ∧
      Ow [] Hc H' (RX C A [] r S.day us S.ns vs++[(lq,.lst (qs.map V.int)),(lt,.lst vs),(ll,.lst ul),(lo,.lst (S.ns.map V.str))])))
      ⟨trivial,Hb,none,none,none,rfl,aY.refl sb.t1,O⟩ (fun i σ H' _ ⟨_,_,_,_,_,_,_,O⟩=>O.sq 6) ?_ ?_
    · clear O
      rintro i y σ H7 hy ⟨-,Hc,v8,v9,v10,rfl,sc,O⟩
      obtain ⟨z,hz,rfl⟩:=ints_get hy
      refine ⟨_,rfl,z,11,rfl,by decide,O.same.t1,O.V0 fun ly H8 ys O e=>?_⟩
      subst e
      have sV:SqL K H8 lv (r.map V.int):=(sb.trans (sc.trans O.same)).seq (SqL.of ev)
      refine ⟨_,rfl,_,rfl,_,rfl,ly,lv,ll,lo,dvs z 11,r,ul,S.ls,S.ns,rfl,O.sq 0,lY z 11,fun x hx=>?_,sV,r1,by omega,O.sq 9,(d2.mo sc).mo O.same,fun l hl=>(hA.lo l hl).2.1,by omega,by omega,O.sq 10,by omega,O.same.t1,fun t ad d H9 OD h6 h7=>?_⟩
      · obtain ⟨j,hj⟩:=List.getElem?_of_mem hx
        have hj8:=(List.getElem?_eq_some_iff.mp hj).1
        rw [lY] at hj8
        rw [rF hj8] at hj
        rw [← Option.some.inj hj];exact ⟨V3 _ _,W3 _ _⟩
      have hdt:d≠.turn:=fun z=>by rw [z] at h7;exact h7
      obtain ⟨Hd,O,sd,dA⟩:=Ql (K:=K) hdt (O.join OD)
      clear OD sV
      have O:=O.tail
      have sc:=sc.trans sd
      clear sd
      have d0:=d0.mo sc
      have d1:=d1.mo sc
      have d2:=d2.mo sc
      have sV:=fun {H'} (s:aY [] Hd H')=>(sb.trans (sc.trans s)).seq (K:=K) (SqL.of ev)
      refine ⟨_,rfl,_,rfl,_,rfl,_,rfl,t,lv,ll,lo,r,ul,S,d,rfl,dA.mo O.same,sV O.same,O.sq 8,d2.mo O.same,O.sq 9,hS56,h7,O.same.t1,fun H10 s10=>?_⟩
      have O:=O.m6 s10
      clear s10
      refine ⟨fun σ H'=>Iv (∃ v10:Option V,σ=[some (.ref a),some (.ref lx),some (.ref lv),some (.ref A.p),some (.int S.day),some (.ref ll),some (.ref lo),some (.ref lt),some (.int z),some (.ref t),v10]∧Ow [] Hd H' (RX C A [] r S.day us S.ns vs++[(lq,.lst (qs.map V.int)),(lt,.lst vs),(ll,.lst ul),(lo,.lst (S.ns.map V.str))])),?_,?_⟩
      · cases hst:step r S d with
        | ok S'=>exact ⟨_,rfl,rfl,_,rfl,ifN (ifS (fun _=>⟨trivial,_,rfl,O⟩) (fun h=>absurd rfl h))⟩
        | error ek =>
          refine ⟨_,rfl,rfl,_,rfl,ifN (ifS (fun h=>absurd h (NQ ek)) (fun _=>?_))⟩
          refine ⟨_,rfl,_,rfl,A,[],Hd,_,r,S,t,d,ek,rfl,⟨us,vs,O,d0,d1⟩,hp,dA,h6,hst,O.V0 fun lw H11 ws O e=>?_⟩
          subst e
          refine ⟨_,rfl,szl,fun l5 h5=>?_⟩
          walk_at "nw"
          have g1:Den K Hn (.ref lw) (.list [.str (mU ek)]):=.list (O.sq 1) (.cons (.str _) .nil)
          have g2:Den K Hn (.ref l5) (.list [.str (mU ek)]):=.list (O.sq 0) (.cons (.str _) .nil)
          refine ⟨_,_,g1,g2,(Sh.one ek).ok (by decide),(Sh.one ek).ok (by decide),_,rfl,?_⟩
          rw [if_pos rfl,nq (Sh.one ek)]
          exact qy ⟨trivial,_,rfl,O.tail.tail⟩
      clear O
      rintro σ H11 ⟨-,v10,rfl,O⟩
      refine ⟨_,rfl,A.p,A.dx,_,rfl,O.get 0,rfl,A.p,A.dx,A.ll,_,_,rfl,O.get 0,rfl,O.sq 3,fun n1 hn1'=>?_⟩
      walk_at "nw"
      refine ⟨_,rfl,_,_,.list (O.sq 0) (d0.mo O.same),.list (O.sq 9) (d2.mo O.same),shL.ok (by decide),shL.ok (by decide),_,rfl,?_⟩
      rw [if_pos rfl,nq shL]
      refine qy ?_
      have O:=O.tail
      refine ⟨_,rfl,A.p,A.dx,_,rfl,O.get 0,rfl,A.p,A.dx,A.ln,_,_,rfl,O.get 0,rfl,O.sq 4,fun n2 hn2'=>?_⟩
      walk_at "nw"
      refine ⟨_,rfl,_,_,.list (O.sq 0) (dM.strs _),.list (O.sq 10) (dM.strs _),shN.ok (by decide),shN.ok (by decide),_,rfl,?_⟩
      rw [if_pos rfl,nq shN]
      refine qy ?_
      have O:=O.tail
      refine ⟨_,rfl,A.p,A.dx,_,rfl,O.get 0,rfl,A,[],S.day,rfl,O.get 0,_,rfl,rfl,_,rfl,ifN (ifI (fun _=>?_) (fun h=>absurd rfl h))⟩
      refine ⟨_,rfl,A.p,A.dx,_,rfl,O.get 0,rfl,A.p,A.dx,A.lo,_,_,rfl,O.get 0,rfl,O.sq 5,fun n3 hn3'=>?_⟩
      walk_at "nw"
      refine ⟨_,rfl,_,_,.list (O.sq 0) (d1.mo O.same),.list (O.sq 8) (d1.mo O.same),shD.ok (by decide),shD.ok (by decide),_,rfl,?_⟩
      rw [if_pos rfl,nq shD]
      refine qy ?_
      exact ⟨trivial,Hd,_,_,_,rfl,sc,O.tail⟩
    rintro σ H7 ⟨-,Hc,v8,v9,v10,rfl,sc,O⟩
    exact k _
end
theorem iI {K:PySem.W.Frag} {x qual:Str} {st:Stmt} {f:Addr} {fd:FuncData} {n0:Str} (F:Fun K x qual st f fd) (h:∀ (kV doc pm:Value) (an:Option Addr) (cdv ct u0:Value),bindArgs (PySem.W.fnOf x qual (aB st) (aA st) (ak st) .none kV doc pm an cdv ct) ⟨[u0],[]⟩=pure (([n0]:List Str).zip [u0])):Binds K fd [n0] [] :=
  F.binds (ps:=[n0]) fun kV doc pm an cdv ct us hl=>match us,hl with | [u0],_=>h kV doc pm an cdv ct u0
theorem iH {K:PySem.W.Frag} {x qual:Str} {st:Stmt} {f:Addr} {fd:FuncData} {n0 n1:Str} (F:Fun K x qual st f fd) (h:∀ (kV doc pm:Value) (an:Option Addr) (cdv ct u0 u1:Value),bindArgs (PySem.W.fnOf x qual (aB st) (aA st) (ak st) .none kV doc pm an cdv ct) ⟨[u0,u1],[]⟩=pure (([n0,n1]:List Str).zip [u0,u1])):Binds K fd [n0,n1] [] :=
  F.binds (ps:=[n0,n1]) fun kV doc pm an cdv ct us hl=>match us,hl with | [u0,u1],_=>h kV doc pm an cdv ct u0 u1
theorem pJ {K:PySem.W.Frag} {x qual:Str} {st:Stmt} {f:Addr} {fd:FuncData} {n0 n1 n2:Str} (F:Fun K x qual st f fd) (h:∀ (kV doc pm:Value) (an:Option Addr) (cdv ct u0 u1 u2:Value),bindArgs (PySem.W.fnOf x qual (aB st) (aA st) (ak st) .none kV doc pm an cdv ct) ⟨[u0,u1,u2],[]⟩=pure (([n0,n1,n2]:List Str).zip [u0,u1,u2])):Binds K fd [n0,n1,n2] [] :=
  F.binds (ps:=[n0,n1,n2]) fun kV doc pm an cdv ct us hl=>match us,hl with | [u0,u1,u2],_=>h kV doc pm an cdv ct u0 u1 u2
theorem rJ {K:PySem.W.Frag} {x qual:Str} {st:Stmt} {f:Addr} {fd:FuncData} {n0 n1 n2 n3:Str} (F:Fun K x qual st f fd) (h:∀ (kV doc pm:Value) (an:Option Addr) (cdv ct u0 u1 u2 u3:Value),bindArgs (PySem.W.fnOf x qual (aB st) (aA st) (ak st) .none kV doc pm an cdv ct) ⟨[u0,u1,u2,u3],[]⟩=pure (([n0,n1,n2,n3]:List Str).zip [u0,u1,u2,u3])):Binds K fd [n0,n1,n2,n3] [] :=
  F.binds (ps:=[n0,n1,n2,n3]) fun kV doc pm an cdv ct us hl=>match us,hl with | [u0,u1,u2,u3],_=>h kV doc pm an cdv ct u0 u1 u2 u3
theorem V8 {K:PySem.W.Frag} {x qual:Str} {st:Stmt} {f:Addr} {fd:FuncData} {n0 n1 n2 n3 n4:Str} (F:Fun K x qual st f fd) (h:∀ (kV doc pm:Value) (an:Option Addr) (cdv ct u0 u1 u2 u3 u4:Value),bindArgs (PySem.W.fnOf x qual (aB st) (aA st) (ak st) .none kV doc pm an cdv ct) ⟨[u0,u1,u2,u3,u4],[]⟩=pure (([n0,n1,n2,n3,n4]:List Str).zip [u0,u1,u2,u3,u4])):Binds K fd [n0,n1,n2,n3,n4] [] :=
  F.binds (ps:=[n0,n1,n2,n3,n4]) fun kV doc pm an cdv ct us hl=>match us,hl with | [u0,u1,u2,u3,u4],_=>h kV doc pm an cdv ct u0 u1 u2 u3 u4
theorem V7 {K:PySem.W.Frag} {x qual:Str} {st:Stmt} {f:Addr} {fd:FuncData} {n0 n1 n2 n3 n4 n5 n6:Str} (F:Fun K x qual st f fd) (h:∀ (kV doc pm:Value) (an:Option Addr) (cdv ct u0 u1 u2 u3 u4 u5 u6:Value),bindArgs (PySem.W.fnOf x qual (aB st) (aA st) (ak st) .none kV doc pm an cdv ct) ⟨[u0,u1,u2,u3,u4,u5,u6],[]⟩=pure (([n0,n1,n2,n3,n4,n5,n6]:List Str).zip [u0,u1,u2,u3,u4,u5,u6])):Binds K fd [n0,n1,n2,n3,n4,n5,n6] [] :=
  F.binds (ps:=[n0,n1,n2,n3,n4,n5,n6]) fun kV doc pm an cdv ct us hl=>match us,hl with | [u0,u1,u2,u3,u4,u5,u6],_=>h kV doc pm an cdv ct u0 u1 u2 u3 u4 u5 u6
theorem all_mk {l:PySem.W.OpenLaw} {w:World} {K:PySem.W.Frag} {h:Heap} {mg:Str→Option Value} {fa f0 f1 f2 f3 f4 f5 f6 f7 f8 f9 f10 f11 f12 f13 f14 f15 f16 f17 f18 f19 f20 f21 f22 f23 f24 f25 f26 f27 cR_Roll fm_Roll___init__ fm_Roll_today fm_Roll_roll fm_Roll_holders fm_Roll_deeds fm_Roll_turn fm_Roll_file dT_Roll_file fm_Roll_sell fm_Roll_part fm_Roll_drop fm_Roll_move fm_Roll_look_move fm_Roll_lapse fm_Roll_enter fm_Roll_is_alone fm_Roll_look_at_number fm_Roll_look_at_holder fm_Roll_look_at_room cX_SluiceError cX_NoNumber cX_NotYours cX_NoHolder cX_NoLicence cX_TooMuch cX_NotAlone cX_Full cX_NoRiver cX_NoReach cX_NoPaper cX_NoCut cX_NoPond cX_NoDay cX_Fixed cX_Harms cX_NoRow:Addr} (X:K.In h) (G:h.Ns mainGlobals mg) (hfa:mg "law"=some (.ref fa))
    {odM0 anM0 odM1 anM1 odM2 anM2 odM3 anM3 odM4 anM4 odM5 anM5 odM6 anM6 odM7 anM7 odM8 anM8 odM9 anM9 odM10 anM10 odM11 anM11 odM12 anM12 odM13 anM13 odM14 anM14 odM15 anM15 odM16 anM16 odM17 anM17:Option Addr} {slM0 slM1 slM2 slM3 slM4 slM5 slM6 slM7 slM8 slM9 slM10 slM11 slM12 slM13 slM14 slM15 slM16 slM17:Array (Option Value)} {ocM0 kVM0 dcM0 pmM0 cdM0 ctM0 ocM1 kVM1 dcM1 pmM1 cdM1 ctM1 ocM2 kVM2 dcM2 pmM2 cdM2 ctM2 ocM3 kVM3 dcM3 pmM3 cdM3 ctM3 ocM4 kVM4 dcM4 pmM4 cdM4 ctM4 ocM5 kVM5 dcM5 pmM5 cdM5 ctM5 ocM6 kVM6 dcM6 pmM6 cdM6 ctM6 ocM7 kVM7 dcM7 pmM7 cdM7 ctM7 ocM8 kVM8 dcM8 pmM8 cdM8 ctM8 ocM9 kVM9 dcM9 pmM9 cdM9 ctM9 ocM10 kVM10 dcM10 pmM10 cdM10 ctM10 ocM11 kVM11 dcM11 pmM11 cdM11 ctM11 ocM12 kVM12 dcM12 pmM12 cdM12 ctM12 ocM13 kVM13 dcM13 pmM13 cdM13 ctM13 ocM14 kVM14 dcM14 pmM14 cdM14 ctM14 ocM15 kVM15 dcM15 pmM15 cdM15 ctM15 ocM16 kVM16 dcM16 pmM16 cdM16 ctM16 ocM17 kVM17 dcM17 pmM17 cdM17 ctM17:Value} {oT_Roll_file:Obj}
    {od0 an0 od1 an1 od2 an2 od3 an3 od4 an4 od5 an5 od6 an6 od7 an7 od8 an8 od9 an9 od10 an10 od11 an11 od12 an12 od13 an13 od14 an14 od15 an15 od16 an16 od17 an17 od18 an18 od19 an19 od20 an20 od21 an21 od22 an22 od23 an23 od24 an24 od25 an25 od26 an26 od27 an27:Option Addr} {sl0 sl1 sl2 sl3 sl4 sl5 sl6 sl7 sl8 sl9 sl10 sl11 sl12 sl13 sl14 sl15 sl16 sl17 sl18 sl19 sl20 sl21 sl22 sl23 sl24 sl25 sl26 sl27:Array (Option Value)} {oc0 kV0 dc0 pm0 cd0 ct0 oc1 kV1 dc1 pm1 cd1 ct1 oc2 kV2 dc2 pm2 cd2 ct2 oc3 kV3 dc3 pm3 cd3 ct3 oc4 kV4 dc4 pm4 cd4 ct4 oc5 kV5 dc5 pm5 cd5 ct5 oc6 kV6 dc6 pm6 cd6 ct6 oc7 kV7 dc7 pm7 cd7 ct7 oc8 kV8 dc8 pm8 cd8 ct8 oc9 kV9 dc9 pm9 cd9 ct9 oc10 kV10 dc10 pm10 cd10 ct10 oc11 kV11 dc11 pm11 cd11 ct11 oc12 kV12 dc12 pm12 cd12 ct12 oc13 kV13 dc13 pm13 cd13 ct13 oc14 kV14 dc14 pm14 cd14 ct14 oc15 kV15 dc15 pm15 cd15 ct15 oc16 kV16 dc16 pm16 cd16 ct16 oc17 kV17 dc17 pm17 cd17 ct17 oc18 kV18 dc18 pm18 cd18 ct18 oc19 kV19 dc19 pm19 cd19 ct19 oc20 kV20 dc20 pm20 cd20 ct20 oc21 kV21 dc21 pm21 cd21 ct21 oc22 kV22 dc22 pm22 cd22 ct22 oc23 kV23 dc23 pm23 cd23 ct23 oc24 kV24 dc24 pm24 cd24 ct24 oc25 kV25 dc25 pm25 cd25 ct25 oc26 kV26 dc26 pm26 cd26 ct26 oc27 kV27 dc27 pm27 cd27 ct27:Value} {t0 t1 t2 t3 t4 t5 t6:Tok}
    (a0:PySem.W.nsIn K mainGlobals "is_water"=some (some (.ref f0))) (l0:K.lookup f0=some ⟨oc0,od0,.func (PySem.W.fnOf "is_water" "is_water" (aB fV) (aA fV) (ak fV) .none kV0 dc0 pm0 an0 cd0 ct0),sl0⟩) (c0:PySem.W.codeIn K cd0 "is_water"=true) (k0:PySem.W.keepIn K (.ref f0)=true)
    (a1:PySem.W.nsIn K mainGlobals "is_name"=some (some (.ref f1))) (l1:K.lookup f1=some ⟨oc1,od1,.func (PySem.W.fnOf "is_name" "is_name" (aB gO) (aA gO) (ak gO) .none kV1 dc1 pm1 an1 cd1 ct1),sl1⟩) (c1:PySem.W.codeIn K cd1 "is_name"=true) (k1:PySem.W.keepIn K (.ref f1)=true)
    (a2:PySem.W.nsIn K mainGlobals "comes_to_mouth"=some (some (.ref f2))) (l2:K.lookup f2=some ⟨oc2,od2,.func (PySem.W.fnOf "comes_to_mouth" "comes_to_mouth" (aB bU) (aA bU) (ak bU) .none kV2 dc2 pm2 an2 cd2 ct2),sl2⟩) (c2:PySem.W.codeIn K cd2 "comes_to_mouth"=true) (k2:PySem.W.keepIn K (.ref f2)=true)
    (a3:PySem.W.nsIn K mainGlobals "is_river"=some (some (.ref f3))) (l3:K.lookup f3=some ⟨oc3,od3,.func (PySem.W.fnOf "is_river" "is_river" (aB eV) (aA eV) (ak eV) .none kV3 dc3 pm3 an3 cd3 ct3),sl3⟩) (c3:PySem.W.codeIn K cd3 "is_river"=true) (k3:PySem.W.keepIn K (.ref f3)=true)
    (a4:PySem.W.nsIn K mainGlobals "way_of"=some (some (.ref f4))) (l4:K.lookup f4=some ⟨oc4,od4,.func (PySem.W.fnOf "way_of" "way_of" (aB je) (aA je) (ak je) .none kV4 dc4 pm4 an4 cd4 ct4),sl4⟩) (c4:PySem.W.codeIn K cd4 "way_of"=true) (k4:PySem.W.keepIn K (.ref f4)=true)
    (a5:PySem.W.nsIn K mainGlobals "is_licence"=some (some (.ref f5))) (l5:K.lookup f5=some ⟨oc5,od5,.func (PySem.W.fnOf "is_licence" "is_licence" (aB dj) (aA dj) (ak dj) .none kV5 dc5 pm5 an5 cd5 ct5),sl5⟩) (c5:PySem.W.codeIn K cd5 "is_licence"=true) (k5:PySem.W.keepIn K (.ref f5)=true)
    (a6:PySem.W.nsIn K mainGlobals "day_filed"=some (some (.ref f6))) (l6:K.lookup f6=some ⟨oc6,od6,.func (PySem.W.fnOf "day_filed" "day_filed" (aB fB) (aA fB) (ak fB) .none kV6 dc6 pm6 an6 cd6 ct6),sl6⟩) (c6:PySem.W.codeIn K cd6 "day_filed"=true) (k6:PySem.W.keepIn K (.ref f6)=true)
    (a7:PySem.W.nsIn K mainGlobals "most_of"=some (some (.ref f7))) (l7:K.lookup f7=some ⟨oc7,od7,.func (PySem.W.fnOf "most_of" "most_of" (aB fZ) (aA fZ) (ak fZ) .none kV7 dc7 pm7 an7 cd7 ct7),sl7⟩) (c7:PySem.W.codeIn K cd7 "most_of"=true) (k7:PySem.W.keepIn K (.ref f7)=true)
    (a8:PySem.W.nsIn K mainGlobals "with_start"=some (some (.ref f8))) (l8:K.lookup f8=some ⟨oc8,od8,.func (PySem.W.fnOf "with_start" "with_start" (aB dN) (aA dN) (ak dN) .none kV8 dc8 pm8 an8 cd8 ct8),sl8⟩) (c8:PySem.W.codeIn K cd8 "with_start"=true) (k8:PySem.W.keepIn K (.ref f8)=true)
    (a9:PySem.W.nsIn K mainGlobals "with_most"=some (some (.ref f9))) (l9:K.lookup f9=some ⟨oc9,od9,.func (PySem.W.fnOf "with_most" "with_most" (aB dG) (aA dG) (ak dG) .none kV9 dc9 pm9 an9 cd9 ct9),sl9⟩) (c9:PySem.W.codeIn K cd9 "with_most"=true) (k9:PySem.W.keepIn K (.ref f9)=true)
    (a10:PySem.W.nsIn K mainGlobals "look_at_name"=some (some (.ref f10))) (l10:K.lookup f10=some ⟨oc10,od10,.func (PySem.W.fnOf "look_at_name" "look_at_name" (aB bO) (aA bO) (ak bO) .none kV10 dc10 pm10 an10 cd10 ct10),sl10⟩) (c10:PySem.W.codeIn K cd10 "look_at_name"=true) (k10:PySem.W.keepIn K (.ref f10)=true)
    (a11:PySem.W.nsIn K mainGlobals "_law_cell_at"=some (some (.ref f11))) (l11:K.lookup f11=some ⟨oc11,od11,.func (PySem.W.fnOf "_law_cell_at" "_law_cell_at" (aB cR) (aA cR) (ak cR) .none kV11 dc11 pm11 an11 cd11 ct11),sl11⟩) (c11:PySem.W.codeIn K cd11 "_law_cell_at"=true) (k11:PySem.W.keepIn K (.ref f11)=true)
    (a12:PySem.W.nsIn K mainGlobals "_law_draw"=some (some (.ref f12))) (l12:K.lookup f12=some ⟨oc12,od12,.func (PySem.W.fnOf "_law_draw" "_law_draw" (aB fD) (aA fD) (ak fD) .none kV12 dc12 pm12 an12 cd12 ct12),sl12⟩) (c12:PySem.W.codeIn K cd12 "_law_draw"=true) (k12:PySem.W.keepIn K (.ref f12)=true)
    (a13:PySem.W.nsIn K mainGlobals "_law_draws"=some (some (.ref f13))) (l13:K.lookup f13=some ⟨oc13,od13,.func (PySem.W.fnOf "_law_draws" "_law_draws" (aB cQ) (aA cQ) (ak cQ) .none kV13 dc13 pm13 an13 cd13 ct13),sl13⟩) (c13:PySem.W.codeIn K cd13 "_law_draws"=true) (k13:PySem.W.keepIn K (.ref f13)=true)
    (a14:PySem.W.nsIn K mainGlobals "_law_river"=some (some (.ref f14))) (l14:K.lookup f14=some ⟨oc14,od14,.func (PySem.W.fnOf "_law_river" "_law_river" (aB cO) (aA cO) (ak cO) .none kV14 dc14 pm14 an14 cd14 ct14),sl14⟩) (c14:PySem.W.codeIn K cd14 "_law_river"=true) (k14:PySem.W.keepIn K (.ref f14)=true)
    (a15:PySem.W.nsIn K mainGlobals "_law_way"=some (some (.ref f15))) (l15:K.lookup f15=some ⟨oc15,od15,.func (PySem.W.fnOf "_law_way" "_law_way" (aB fW) (aA fW) (ak fW) .none kV15 dc15 pm15 an15 cd15 ct15),sl15⟩) (c15:PySem.W.codeIn K cd15 "_law_way"=true) (k15:PySem.W.keepIn K (.ref f15)=true)
    (a16:PySem.W.nsIn K mainGlobals "_law_words"=some (some (.ref f16))) (l16:K.lookup f16=some ⟨oc16,od16,.func (PySem.W.fnOf "_law_words" "_law_words" (aB dw) (aA dw) (ak dw) .none kV16 dc16 pm16 an16 cd16 ct16),sl16⟩) (c16:PySem.W.codeIn K cd16 "_law_words"=true) (k16:PySem.W.keepIn K (.ref f16)=true)
    (a17:PySem.W.nsIn K mainGlobals "_law_do"=some (some (.ref f17))) (l17:K.lookup f17=some ⟨oc17,od17,.func (PySem.W.fnOf "_law_do" "_law_do" (aB iu) (aA iu) (ak iu) .none kV17 dc17 pm17 an17 cd17 ct17),sl17⟩) (c17:PySem.W.codeIn K cd17 "_law_do"=true) (k17:PySem.W.keepIn K (.ref f17)=true)
    (a18:PySem.W.nsIn K mainGlobals "_law_refused"=some (some (.ref f18))) (l18:K.lookup f18=some ⟨oc18,od18,.func (PySem.W.fnOf "_law_refused" "_law_refused" (aB cP) (aA cP) (ak cP) .none kV18 dc18 pm18 an18 cd18 ct18),sl18⟩) (c18:PySem.W.codeIn K cd18 "_law_refused"=true) (k18:PySem.W.keepIn K (.ref f18)=true)
    (a19:PySem.W.nsIn K mainGlobals "_law_bad_name"=some (some (.ref f19))) (l19:K.lookup f19=some ⟨oc19,od19,.func (PySem.W.fnOf "_law_bad_name" "_law_bad_name" (aB cg) (aA cg) (ak cg) .none kV19 dc19 pm19 an19 cd19 ct19),sl19⟩) (c19:PySem.W.codeIn K cd19 "_law_bad_name"=true) (k19:PySem.W.keepIn K (.ref f19)=true)
    (a20:PySem.W.nsIn K mainGlobals "_law_filed"=some (some (.ref f20))) (l20:K.lookup f20=some ⟨oc20,od20,.func (PySem.W.fnOf "_law_filed" "_law_filed" (aB dO) (aA dO) (ak dO) .none kV20 dc20 pm20 an20 cd20 ct20),sl20⟩) (c20:PySem.W.codeIn K cd20 "_law_filed"=true) (k20:PySem.W.keepIn K (.ref f20)=true)
    (a21:PySem.W.nsIn K mainGlobals "_law_begun"=some (some (.ref f21))) (l21:K.lookup f21=some ⟨oc21,od21,.func (PySem.W.fnOf "_law_begun" "_law_begun" (aB dR) (aA dR) (ak dR) .none kV21 dc21 pm21 an21 cd21 ct21),sl21⟩) (c21:PySem.W.codeIn K cd21 "_law_begun"=true) (k21:PySem.W.keepIn K (.ref f21)=true)
    (a22:PySem.W.nsIn K mainGlobals "_law_is_let"=some (some (.ref f22))) (l22:K.lookup f22=some ⟨oc22,od22,.func (PySem.W.fnOf "_law_is_let" "_law_is_let" (aB cJ) (aA cJ) (ak cJ) .none kV22 dc22 pm22 an22 cd22 ct22),sl22⟩) (c22:PySem.W.codeIn K cd22 "_law_is_let"=true) (k22:PySem.W.keepIn K (.ref f22)=true)
    (a23:PySem.W.nsIn K mainGlobals "_law_due_first"=some (some (.ref f23))) (l23:K.lookup f23=some ⟨oc23,od23,.func (PySem.W.fnOf "_law_due_first" "_law_due_first" (aB bJ) (aA bJ) (ak bJ) .none kV23 dc23 pm23 an23 cd23 ct23),sl23⟩) (c23:PySem.W.codeIn K cd23 "_law_due_first"=true) (k23:PySem.W.keepIn K (.ref f23)=true)
    (a24:PySem.W.nsIn K mainGlobals "_law_due"=some (some (.ref f24))) (l24:K.lookup f24=some ⟨oc24,od24,.func (PySem.W.fnOf "_law_due" "_law_due" (aB fX) (aA fX) (ak fX) .none kV24 dc24 pm24 an24 cd24 ct24),sl24⟩) (c24:PySem.W.codeIn K cd24 "_law_due"=true) (k24:PySem.W.keepIn K (.ref f24)=true)
    (a25:PySem.W.nsIn K mainGlobals "_law_lapse"=some (some (.ref f25))) (l25:K.lookup f25=some ⟨oc25,od25,.func (PySem.W.fnOf "_law_lapse" "_law_lapse" (aB dz) (aA dz) (ak dz) .none kV25 dc25 pm25 an25 cd25 ct25),sl25⟩) (c25:PySem.W.codeIn K cd25 "_law_lapse"=true) (k25:PySem.W.keepIn K (.ref f25)=true)
    (a26:PySem.W.nsIn K mainGlobals "_law_deed"=some (some (.ref f26))) (l26:K.lookup f26=some ⟨oc26,od26,.func (PySem.W.fnOf "_law_deed" "_law_deed" (aB fG) (aA fG) (ak fG) .none kV26 dc26 pm26 an26 cd26 ct26),sl26⟩) (c26:PySem.W.codeIn K cd26 "_law_deed"=true) (k26:PySem.W.keepIn K (.ref f26)=true)
    (a27:PySem.W.nsIn K mainGlobals "law"=some (some (.ref f27))) (l27:K.lookup f27=some ⟨oc27,od27,.func (PySem.W.fnOf "law" "law" (aB oU) (aA oU) (ak oU) .none kV27 dc27 pm27 an27 cd27 ct27),sl27⟩) (c27:PySem.W.codeIn K cd27 "law"=true) (k27:PySem.W.keepIn K (.ref f27)=true)
    (e0:PySem.W.nsIn K mainGlobals "MOST_WATER"=some (some (.int (1000000000000) t0)))
    (e1:PySem.W.nsIn K mainGlobals "LONGEST_NAME"=some (some (.int (8) t1)))
    (e2:PySem.W.nsIn K mainGlobals "LETTERS"=some (some (.str "abcdefghijklmnopqrstuvwxyz" t2)))
    (e3:PySem.W.nsIn K mainGlobals "MOST_REACHES"=some (some (.int (40) t3)))
    (e4:PySem.W.nsIn K mainGlobals "MOUTH"=some (some (.int (-1) t4)))
    (e5:PySem.W.nsIn K mainGlobals "LAST_DAY"=some (some (.int (1000000) t5)))
    (e6:PySem.W.nsIn K mainGlobals "MOST_LICENCES"=some (some (.int (60) t6)))
    (n_Roll:PySem.W.nsIn K mainGlobals "Roll"=some (some (.ref cR_Roll))) (ka_Roll:PySem.W.plainGet K cR_Roll Str.empty=true) (kb_Roll:PySem.W.hasDictIn K cR_Roll=true) (kc_Roll:PySem.W.plainOver K cR_Roll=true) (kd_Roll:PySem.W.findIn K (.ref cR_Roll) "__setattr__"=some (some (.builtin "object.__setattr__")))
    (ke_Roll:PySem.W.makesIn K cR_Roll=true) (kf_Roll:PySem.W.keepIn K (.ref cR_Roll)=true)
    (kn_Roll_below:PySem.W.findIn K (.ref cR_Roll) "below"=some none)
    (kn_Roll_day:PySem.W.findIn K (.ref cR_Roll) "day"=some none)
    (kn_Roll_licences:PySem.W.findIn K (.ref cR_Roll) "licences"=some none)
    (kn_Roll_names:PySem.W.findIn K (.ref cR_Roll) "names"=some none)
    (kn_Roll_done:PySem.W.findIn K (.ref cR_Roll) "done"=some none)
    (ma_Roll___init__:PySem.W.findIn K (.ref cR_Roll) "__init__"=some (some (.ref fm_Roll___init__))) (mf_Roll___init__:PySem.W.isFn K (.ref fm_Roll___init__)=true) (mk_Roll___init__:PySem.W.keepIn K (.ref fm_Roll___init__)=true) (ml_Roll___init__:K.lookup fm_Roll___init__=some ⟨ocM0,odM0,.func (PySem.W.fnOf "__init__" "Roll.__init__" (aB cj) (aA cj) (ak cj) .none kVM0 dcM0 pmM0 anM0 cdM0 ctM0),slM0⟩) (mc_Roll___init__:PySem.W.codeIn K cdM0 "Roll.__init__"=true)
    (ma_Roll_today:PySem.W.findIn K (.ref cR_Roll) "today"=some (some (.ref fm_Roll_today))) (mf_Roll_today:PySem.W.isFn K (.ref fm_Roll_today)=true) (mk_Roll_today:PySem.W.keepIn K (.ref fm_Roll_today)=true) (ml_Roll_today:K.lookup fm_Roll_today=some ⟨ocM1,odM1,.func (PySem.W.fnOf "today" "Roll.today" (aB dU) (aA dU) (ak dU) .none kVM1 dcM1 pmM1 anM1 cdM1 ctM1),slM1⟩) (mc_Roll_today:PySem.W.codeIn K cdM1 "Roll.today"=true)
    (ma_Roll_roll:PySem.W.findIn K (.ref cR_Roll) "roll"=some (some (.ref fm_Roll_roll))) (mf_Roll_roll:PySem.W.isFn K (.ref fm_Roll_roll)=true) (mk_Roll_roll:PySem.W.keepIn K (.ref fm_Roll_roll)=true) (ml_Roll_roll:K.lookup fm_Roll_roll=some ⟨ocM2,odM2,.func (PySem.W.fnOf "roll" "Roll.roll" (aB fK) (aA fK) (ak fK) .none kVM2 dcM2 pmM2 anM2 cdM2 ctM2),slM2⟩) (mc_Roll_roll:PySem.W.codeIn K cdM2 "Roll.roll"=true)
    (ma_Roll_holders:PySem.W.findIn K (.ref cR_Roll) "holders"=some (some (.ref fm_Roll_holders))) (mf_Roll_holders:PySem.W.isFn K (.ref fm_Roll_holders)=true) (mk_Roll_holders:PySem.W.keepIn K (.ref fm_Roll_holders)=true) (ml_Roll_holders:K.lookup fm_Roll_holders=some ⟨ocM3,odM3,.func (PySem.W.fnOf "holders" "Roll.holders" (aB cU) (aA cU) (ak cU) .none kVM3 dcM3 pmM3 anM3 cdM3 ctM3),slM3⟩) (mc_Roll_holders:PySem.W.codeIn K cdM3 "Roll.holders"=true)
    (ma_Roll_deeds:PySem.W.findIn K (.ref cR_Roll) "deeds"=some (some (.ref fm_Roll_deeds))) (mf_Roll_deeds:PySem.W.isFn K (.ref fm_Roll_deeds)=true) (mk_Roll_deeds:PySem.W.keepIn K (.ref fm_Roll_deeds)=true) (ml_Roll_deeds:K.lookup fm_Roll_deeds=some ⟨ocM4,odM4,.func (PySem.W.fnOf "deeds" "Roll.deeds" (aB dW) (aA dW) (ak dW) .none kVM4 dcM4 pmM4 anM4 cdM4 ctM4),slM4⟩) (mc_Roll_deeds:PySem.W.codeIn K cdM4 "Roll.deeds"=true)
    (ma_Roll_turn:PySem.W.findIn K (.ref cR_Roll) "turn"=some (some (.ref fm_Roll_turn))) (mf_Roll_turn:PySem.W.isFn K (.ref fm_Roll_turn)=true) (mk_Roll_turn:PySem.W.keepIn K (.ref fm_Roll_turn)=true) (ml_Roll_turn:K.lookup fm_Roll_turn=some ⟨ocM5,odM5,.func (PySem.W.fnOf "turn" "Roll.turn" (aB fH) (aA fH) (ak fH) .none kVM5 dcM5 pmM5 anM5 cdM5 ctM5),slM5⟩) (mc_Roll_turn:PySem.W.codeIn K cdM5 "Roll.turn"=true)
    (ma_Roll_file:PySem.W.findIn K (.ref cR_Roll) "file"=some (some (.ref fm_Roll_file))) (mf_Roll_file:PySem.W.isFn K (.ref fm_Roll_file)=true) (mk_Roll_file:PySem.W.keepIn K (.ref fm_Roll_file)=true) (ml_Roll_file:K.lookup fm_Roll_file=some ⟨ocM6,odM6,.func (PySem.W.fnOf "file" "Roll.file" (aB d8) (aA d8) (ak d8) (.ref dT_Roll_file) kVM6 dcM6 pmM6 anM6 cdM6 ctM6),slM6⟩) (mc_Roll_file:PySem.W.codeIn K cdM6 "Roll.file"=true)
    (mt_Roll_file:K.lookup dT_Roll_file=some oT_Roll_file) (mu_Roll_file:∃ n,oT_Roll_file.data=.seq #[.none] n)
    (ma_Roll_sell:PySem.W.findIn K (.ref cR_Roll) "sell"=some (some (.ref fm_Roll_sell))) (mf_Roll_sell:PySem.W.isFn K (.ref fm_Roll_sell)=true) (mk_Roll_sell:PySem.W.keepIn K (.ref fm_Roll_sell)=true) (ml_Roll_sell:K.lookup fm_Roll_sell=some ⟨ocM7,odM7,.func (PySem.W.fnOf "sell" "Roll.sell" (aB fJ) (aA fJ) (ak fJ) .none kVM7 dcM7 pmM7 anM7 cdM7 ctM7),slM7⟩) (mc_Roll_sell:PySem.W.codeIn K cdM7 "Roll.sell"=true)
    (ma_Roll_part:PySem.W.findIn K (.ref cR_Roll) "part"=some (some (.ref fm_Roll_part))) (mf_Roll_part:PySem.W.isFn K (.ref fm_Roll_part)=true) (mk_Roll_part:PySem.W.keepIn K (.ref fm_Roll_part)=true) (ml_Roll_part:K.lookup fm_Roll_part=some ⟨ocM8,odM8,.func (PySem.W.fnOf "part" "Roll.part" (aB dZ) (aA dZ) (ak dZ) .none kVM8 dcM8 pmM8 anM8 cdM8 ctM8),slM8⟩) (mc_Roll_part:PySem.W.codeIn K cdM8 "Roll.part"=true)
    (ma_Roll_drop:PySem.W.findIn K (.ref cR_Roll) "drop"=some (some (.ref fm_Roll_drop))) (mf_Roll_drop:PySem.W.isFn K (.ref fm_Roll_drop)=true) (mk_Roll_drop:PySem.W.keepIn K (.ref fm_Roll_drop)=true) (ml_Roll_drop:K.lookup fm_Roll_drop=some ⟨ocM9,odM9,.func (PySem.W.fnOf "drop" "Roll.drop" (aB d9) (aA d9) (ak d9) .none kVM9 dcM9 pmM9 anM9 cdM9 ctM9),slM9⟩) (mc_Roll_drop:PySem.W.codeIn K cdM9 "Roll.drop"=true)
    (ma_Roll_move:PySem.W.findIn K (.ref cR_Roll) "move"=some (some (.ref fm_Roll_move))) (mf_Roll_move:PySem.W.isFn K (.ref fm_Roll_move)=true) (mk_Roll_move:PySem.W.keepIn K (.ref fm_Roll_move)=true) (ml_Roll_move:K.lookup fm_Roll_move=some ⟨ocM10,odM10,.func (PySem.W.fnOf "move" "Roll.move" (aB fL) (aA fL) (ak fL) .none kVM10 dcM10 pmM10 anM10 cdM10 ctM10),slM10⟩) (mc_Roll_move:PySem.W.codeIn K cdM10 "Roll.move"=true)
    (ma_Roll_look_move:PySem.W.findIn K (.ref cR_Roll) "look_move"=some (some (.ref fm_Roll_look_move))) (mf_Roll_look_move:PySem.W.isFn K (.ref fm_Roll_look_move)=true) (mk_Roll_look_move:PySem.W.keepIn K (.ref fm_Roll_look_move)=true) (ml_Roll_look_move:K.lookup fm_Roll_look_move=some ⟨ocM11,odM11,.func (PySem.W.fnOf "look_move" "Roll.look_move" (aB bV) (aA bV) (ak bV) .none kVM11 dcM11 pmM11 anM11 cdM11 ctM11),slM11⟩) (mc_Roll_look_move:PySem.W.codeIn K cdM11 "Roll.look_move"=true)
    (ma_Roll_lapse:PySem.W.findIn K (.ref cR_Roll) "lapse"=some (some (.ref fm_Roll_lapse))) (mf_Roll_lapse:PySem.W.isFn K (.ref fm_Roll_lapse)=true) (mk_Roll_lapse:PySem.W.keepIn K (.ref fm_Roll_lapse)=true) (ml_Roll_lapse:K.lookup fm_Roll_lapse=some ⟨ocM12,odM12,.func (PySem.W.fnOf "lapse" "Roll.lapse" (aB dB) (aA dB) (ak dB) .none kVM12 dcM12 pmM12 anM12 cdM12 ctM12),slM12⟩) (mc_Roll_lapse:PySem.W.codeIn K cdM12 "Roll.lapse"=true)
    (ma_Roll_enter:PySem.W.findIn K (.ref cR_Roll) "enter"=some (some (.ref fm_Roll_enter))) (mf_Roll_enter:PySem.W.isFn K (.ref fm_Roll_enter)=true) (mk_Roll_enter:PySem.W.keepIn K (.ref fm_Roll_enter)=true) (ml_Roll_enter:K.lookup fm_Roll_enter=some ⟨ocM13,odM13,.func (PySem.W.fnOf "enter" "Roll.enter" (aB dD) (aA dD) (ak dD) .none kVM13 dcM13 pmM13 anM13 cdM13 ctM13),slM13⟩) (mc_Roll_enter:PySem.W.codeIn K cdM13 "Roll.enter"=true)
    (ma_Roll_is_alone:PySem.W.findIn K (.ref cR_Roll) "is_alone"=some (some (.ref fm_Roll_is_alone))) (mf_Roll_is_alone:PySem.W.isFn K (.ref fm_Roll_is_alone)=true) (mk_Roll_is_alone:PySem.W.keepIn K (.ref fm_Roll_is_alone)=true) (ml_Roll_is_alone:K.lookup fm_Roll_is_alone=some ⟨ocM14,odM14,.func (PySem.W.fnOf "is_alone" "Roll.is_alone" (aB bQ) (aA bQ) (ak bQ) .none kVM14 dcM14 pmM14 anM14 cdM14 ctM14),slM14⟩) (mc_Roll_is_alone:PySem.W.codeIn K cdM14 "Roll.is_alone"=true)
    (ma_Roll_look_at_number:PySem.W.findIn K (.ref cR_Roll) "look_at_number"=some (some (.ref fm_Roll_look_at_number))) (mf_Roll_look_at_number:PySem.W.isFn K (.ref fm_Roll_look_at_number)=true) (mk_Roll_look_at_number:PySem.W.keepIn K (.ref fm_Roll_look_at_number)=true) (ml_Roll_look_at_number:K.lookup fm_Roll_look_at_number=some ⟨ocM15,odM15,.func (PySem.W.fnOf "look_at_number" "Roll.look_at_number" (aB bh) (aA bh) (ak bh) .none kVM15 dcM15 pmM15 anM15 cdM15 ctM15),slM15⟩) (mc_Roll_look_at_number:PySem.W.codeIn K cdM15 "Roll.look_at_number"=true)
    (ma_Roll_look_at_holder:PySem.W.findIn K (.ref cR_Roll) "look_at_holder"=some (some (.ref fm_Roll_look_at_holder))) (mf_Roll_look_at_holder:PySem.W.isFn K (.ref fm_Roll_look_at_holder)=true) (mk_Roll_look_at_holder:PySem.W.keepIn K (.ref fm_Roll_look_at_holder)=true) (ml_Roll_look_at_holder:K.lookup fm_Roll_look_at_holder=some ⟨ocM16,odM16,.func (PySem.W.fnOf "look_at_holder" "Roll.look_at_holder" (aB aO) (aA aO) (ak aO) .none kVM16 dcM16 pmM16 anM16 cdM16 ctM16),slM16⟩) (mc_Roll_look_at_holder:PySem.W.codeIn K cdM16 "Roll.look_at_holder"=true)
    (ma_Roll_look_at_room:PySem.W.findIn K (.ref cR_Roll) "look_at_room"=some (some (.ref fm_Roll_look_at_room))) (mf_Roll_look_at_room:PySem.W.isFn K (.ref fm_Roll_look_at_room)=true) (mk_Roll_look_at_room:PySem.W.keepIn K (.ref fm_Roll_look_at_room)=true) (ml_Roll_look_at_room:K.lookup fm_Roll_look_at_room=some ⟨ocM17,odM17,.func (PySem.W.fnOf "look_at_room" "Roll.look_at_room" (aB bx) (aA bx) (ak bx) .none kVM17 dcM17 pmM17 anM17 cdM17 ctM17),slM17⟩) (mc_Roll_look_at_room:PySem.W.codeIn K cdM17 "Roll.look_at_room"=true)
    (z_len:PySem.W.nsIn K mainGlobals "len"=some none)
    (z_range:PySem.W.nsIn K mainGlobals "range"=some none)
    (z_list:PySem.W.nsIn K mainGlobals "list"=some none)
    (z_isinstance:PySem.W.nsIn K mainGlobals "isinstance"=some none)
    (z_bool:PySem.W.nsIn K mainGlobals "bool"=some none)
    (z_int:PySem.W.nsIn K mainGlobals "int"=some none)
    (z_all:PySem.W.nsIn K mainGlobals "all"=some none)
    (z_min:PySem.W.nsIn K mainGlobals "min"=some none)
    (z_max:PySem.W.nsIn K mainGlobals "max"=some none)
    (z_sum:PySem.W.nsIn K mainGlobals "sum"=some none)
    (z_sorted:PySem.W.nsIn K mainGlobals "sorted"=some none)
    (z_zip:PySem.W.nsIn K mainGlobals "zip"=some none)
    (z_tuple:PySem.W.nsIn K mainGlobals "tuple"=some none)
    (z_str:PySem.W.nsIn K mainGlobals "str"=some none)
    (z_any:PySem.W.nsIn K mainGlobals "any"=some none)
    (z_enumerate:PySem.W.nsIn K mainGlobals "enumerate"=some none)
    (z_reversed:PySem.W.nsIn K mainGlobals "reversed"=some none)
    (z_abs:PySem.W.nsIn K mainGlobals "abs"=some none)
    (z_ValueError:PySem.W.nsIn K mainGlobals "ValueError"=some none)
    (z_set:PySem.W.nsIn K mainGlobals "set"=some none)
    (n_SluiceError:PySem.W.nsIn K mainGlobals "SluiceError"=some (some (.ref cX_SluiceError))) (q_SluiceError:PySem.W.excIn K cX_SluiceError oW "ValueError.__new__"=true)
    (xa_SluiceError:PySem.W.findIn K (.ref cX_SluiceError) "__getattribute__"=some (some (.builtin "BaseException.__getattribute__"))) (xb_SluiceError:PySem.W.findIn K (.ref cX_SluiceError) "__getattr__"=some none) (xc_SluiceError:PySem.W.findIn K (.ref cX_SluiceError) "__class__"=some (some (.builtin "object.__class__")))
    (xd_SluiceError:PySem.W.specialIn K (.builtin "object.__class__") "__get__"=some (some (.builtin "getset_descriptor.__get__"))) (xe_SluiceError:PySem.W.takesIn K (.builtin "object.__class__")=some true) (xf_SluiceError:PySem.W.mroIn K cX_SluiceError (.type "object")=some true) (xg_SluiceError:PySem.W.mroIn K cX_SluiceError (.type "BaseException")=some true) (xh_SluiceError:(PySem.W.clsIn K cX_SluiceError).isSome=true)
    (n_NoNumber:PySem.W.nsIn K mainGlobals "NoNumber"=some (some (.ref cX_NoNumber))) (q_NoNumber:PySem.W.excIn K cX_NoNumber oW "ValueError.__new__"=true)
    (xa_NoNumber:PySem.W.findIn K (.ref cX_NoNumber) "__getattribute__"=some (some (.builtin "BaseException.__getattribute__"))) (xb_NoNumber:PySem.W.findIn K (.ref cX_NoNumber) "__getattr__"=some none) (xc_NoNumber:PySem.W.findIn K (.ref cX_NoNumber) "__class__"=some (some (.builtin "object.__class__")))
    (xd_NoNumber:PySem.W.specialIn K (.builtin "object.__class__") "__get__"=some (some (.builtin "getset_descriptor.__get__"))) (xe_NoNumber:PySem.W.takesIn K (.builtin "object.__class__")=some true) (xf_NoNumber:PySem.W.mroIn K cX_NoNumber (.type "object")=some true) (xg_NoNumber:PySem.W.mroIn K cX_NoNumber (.type "BaseException")=some true) (xh_NoNumber:(PySem.W.clsIn K cX_NoNumber).isSome=true)
    (n_NotYours:PySem.W.nsIn K mainGlobals "NotYours"=some (some (.ref cX_NotYours))) (q_NotYours:PySem.W.excIn K cX_NotYours oW "ValueError.__new__"=true)
    (xa_NotYours:PySem.W.findIn K (.ref cX_NotYours) "__getattribute__"=some (some (.builtin "BaseException.__getattribute__"))) (xb_NotYours:PySem.W.findIn K (.ref cX_NotYours) "__getattr__"=some none) (xc_NotYours:PySem.W.findIn K (.ref cX_NotYours) "__class__"=some (some (.builtin "object.__class__")))
    (xd_NotYours:PySem.W.specialIn K (.builtin "object.__class__") "__get__"=some (some (.builtin "getset_descriptor.__get__"))) (xe_NotYours:PySem.W.takesIn K (.builtin "object.__class__")=some true) (xf_NotYours:PySem.W.mroIn K cX_NotYours (.type "object")=some true) (xg_NotYours:PySem.W.mroIn K cX_NotYours (.type "BaseException")=some true) (xh_NotYours:(PySem.W.clsIn K cX_NotYours).isSome=true)
    (n_NoHolder:PySem.W.nsIn K mainGlobals "NoHolder"=some (some (.ref cX_NoHolder))) (q_NoHolder:PySem.W.excIn K cX_NoHolder oW "ValueError.__new__"=true)
    (xa_NoHolder:PySem.W.findIn K (.ref cX_NoHolder) "__getattribute__"=some (some (.builtin "BaseException.__getattribute__"))) (xb_NoHolder:PySem.W.findIn K (.ref cX_NoHolder) "__getattr__"=some none) (xc_NoHolder:PySem.W.findIn K (.ref cX_NoHolder) "__class__"=some (some (.builtin "object.__class__")))
    (xd_NoHolder:PySem.W.specialIn K (.builtin "object.__class__") "__get__"=some (some (.builtin "getset_descriptor.__get__"))) (xe_NoHolder:PySem.W.takesIn K (.builtin "object.__class__")=some true) (xf_NoHolder:PySem.W.mroIn K cX_NoHolder (.type "object")=some true) (xg_NoHolder:PySem.W.mroIn K cX_NoHolder (.type "BaseException")=some true) (xh_NoHolder:(PySem.W.clsIn K cX_NoHolder).isSome=true)
    (n_NoLicence:PySem.W.nsIn K mainGlobals "NoLicence"=some (some (.ref cX_NoLicence))) (q_NoLicence:PySem.W.excIn K cX_NoLicence oW "ValueError.__new__"=true)
    (xa_NoLicence:PySem.W.findIn K (.ref cX_NoLicence) "__getattribute__"=some (some (.builtin "BaseException.__getattribute__"))) (xb_NoLicence:PySem.W.findIn K (.ref cX_NoLicence) "__getattr__"=some none) (xc_NoLicence:PySem.W.findIn K (.ref cX_NoLicence) "__class__"=some (some (.builtin "object.__class__")))
    (xd_NoLicence:PySem.W.specialIn K (.builtin "object.__class__") "__get__"=some (some (.builtin "getset_descriptor.__get__"))) (xe_NoLicence:PySem.W.takesIn K (.builtin "object.__class__")=some true) (xf_NoLicence:PySem.W.mroIn K cX_NoLicence (.type "object")=some true) (xg_NoLicence:PySem.W.mroIn K cX_NoLicence (.type "BaseException")=some true) (xh_NoLicence:(PySem.W.clsIn K cX_NoLicence).isSome=true)
    (n_TooMuch:PySem.W.nsIn K mainGlobals "TooMuch"=some (some (.ref cX_TooMuch))) (q_TooMuch:PySem.W.excIn K cX_TooMuch oW "ValueError.__new__"=true)
    (xa_TooMuch:PySem.W.findIn K (.ref cX_TooMuch) "__getattribute__"=some (some (.builtin "BaseException.__getattribute__"))) (xb_TooMuch:PySem.W.findIn K (.ref cX_TooMuch) "__getattr__"=some none) (xc_TooMuch:PySem.W.findIn K (.ref cX_TooMuch) "__class__"=some (some (.builtin "object.__class__")))
    (xd_TooMuch:PySem.W.specialIn K (.builtin "object.__class__") "__get__"=some (some (.builtin "getset_descriptor.__get__"))) (xe_TooMuch:PySem.W.takesIn K (.builtin "object.__class__")=some true) (xf_TooMuch:PySem.W.mroIn K cX_TooMuch (.type "object")=some true) (xg_TooMuch:PySem.W.mroIn K cX_TooMuch (.type "BaseException")=some true) (xh_TooMuch:(PySem.W.clsIn K cX_TooMuch).isSome=true)
    (n_NotAlone:PySem.W.nsIn K mainGlobals "NotAlone"=some (some (.ref cX_NotAlone))) (q_NotAlone:PySem.W.excIn K cX_NotAlone oW "ValueError.__new__"=true)
    (xa_NotAlone:PySem.W.findIn K (.ref cX_NotAlone) "__getattribute__"=some (some (.builtin "BaseException.__getattribute__"))) (xb_NotAlone:PySem.W.findIn K (.ref cX_NotAlone) "__getattr__"=some none) (xc_NotAlone:PySem.W.findIn K (.ref cX_NotAlone) "__class__"=some (some (.builtin "object.__class__")))
    (xd_NotAlone:PySem.W.specialIn K (.builtin "object.__class__") "__get__"=some (some (.builtin "getset_descriptor.__get__"))) (xe_NotAlone:PySem.W.takesIn K (.builtin "object.__class__")=some true) (xf_NotAlone:PySem.W.mroIn K cX_NotAlone (.type "object")=some true) (xg_NotAlone:PySem.W.mroIn K cX_NotAlone (.type "BaseException")=some true) (xh_NotAlone:(PySem.W.clsIn K cX_NotAlone).isSome=true)
    (n_Full:PySem.W.nsIn K mainGlobals "Full"=some (some (.ref cX_Full))) (q_Full:PySem.W.excIn K cX_Full oW "ValueError.__new__"=true)
    (xa_Full:PySem.W.findIn K (.ref cX_Full) "__getattribute__"=some (some (.builtin "BaseException.__getattribute__"))) (xb_Full:PySem.W.findIn K (.ref cX_Full) "__getattr__"=some none) (xc_Full:PySem.W.findIn K (.ref cX_Full) "__class__"=some (some (.builtin "object.__class__")))
    (xd_Full:PySem.W.specialIn K (.builtin "object.__class__") "__get__"=some (some (.builtin "getset_descriptor.__get__"))) (xe_Full:PySem.W.takesIn K (.builtin "object.__class__")=some true) (xf_Full:PySem.W.mroIn K cX_Full (.type "object")=some true) (xg_Full:PySem.W.mroIn K cX_Full (.type "BaseException")=some true) (xh_Full:(PySem.W.clsIn K cX_Full).isSome=true)
    (n_NoRiver:PySem.W.nsIn K mainGlobals "NoRiver"=some (some (.ref cX_NoRiver))) (q_NoRiver:PySem.W.excIn K cX_NoRiver oW "ValueError.__new__"=true)
    (xa_NoRiver:PySem.W.findIn K (.ref cX_NoRiver) "__getattribute__"=some (some (.builtin "BaseException.__getattribute__"))) (xb_NoRiver:PySem.W.findIn K (.ref cX_NoRiver) "__getattr__"=some none) (xc_NoRiver:PySem.W.findIn K (.ref cX_NoRiver) "__class__"=some (some (.builtin "object.__class__")))
    (xd_NoRiver:PySem.W.specialIn K (.builtin "object.__class__") "__get__"=some (some (.builtin "getset_descriptor.__get__"))) (xe_NoRiver:PySem.W.takesIn K (.builtin "object.__class__")=some true) (xf_NoRiver:PySem.W.mroIn K cX_NoRiver (.type "object")=some true) (xg_NoRiver:PySem.W.mroIn K cX_NoRiver (.type "BaseException")=some true) (xh_NoRiver:(PySem.W.clsIn K cX_NoRiver).isSome=true)
    (n_NoReach:PySem.W.nsIn K mainGlobals "NoReach"=some (some (.ref cX_NoReach))) (q_NoReach:PySem.W.excIn K cX_NoReach oW "ValueError.__new__"=true)
    (xa_NoReach:PySem.W.findIn K (.ref cX_NoReach) "__getattribute__"=some (some (.builtin "BaseException.__getattribute__"))) (xb_NoReach:PySem.W.findIn K (.ref cX_NoReach) "__getattr__"=some none) (xc_NoReach:PySem.W.findIn K (.ref cX_NoReach) "__class__"=some (some (.builtin "object.__class__")))
    (xd_NoReach:PySem.W.specialIn K (.builtin "object.__class__") "__get__"=some (some (.builtin "getset_descriptor.__get__"))) (xe_NoReach:PySem.W.takesIn K (.builtin "object.__class__")=some true) (xf_NoReach:PySem.W.mroIn K cX_NoReach (.type "object")=some true) (xg_NoReach:PySem.W.mroIn K cX_NoReach (.type "BaseException")=some true) (xh_NoReach:(PySem.W.clsIn K cX_NoReach).isSome=true)
    (n_NoPaper:PySem.W.nsIn K mainGlobals "NoPaper"=some (some (.ref cX_NoPaper))) (q_NoPaper:PySem.W.excIn K cX_NoPaper oW "ValueError.__new__"=true)
    (xa_NoPaper:PySem.W.findIn K (.ref cX_NoPaper) "__getattribute__"=some (some (.builtin "BaseException.__getattribute__"))) (xb_NoPaper:PySem.W.findIn K (.ref cX_NoPaper) "__getattr__"=some none) (xc_NoPaper:PySem.W.findIn K (.ref cX_NoPaper) "__class__"=some (some (.builtin "object.__class__")))
    (xd_NoPaper:PySem.W.specialIn K (.builtin "object.__class__") "__get__"=some (some (.builtin "getset_descriptor.__get__"))) (xe_NoPaper:PySem.W.takesIn K (.builtin "object.__class__")=some true) (xf_NoPaper:PySem.W.mroIn K cX_NoPaper (.type "object")=some true) (xg_NoPaper:PySem.W.mroIn K cX_NoPaper (.type "BaseException")=some true) (xh_NoPaper:(PySem.W.clsIn K cX_NoPaper).isSome=true)
    (n_NoCut:PySem.W.nsIn K mainGlobals "NoCut"=some (some (.ref cX_NoCut))) (q_NoCut:PySem.W.excIn K cX_NoCut oW "ValueError.__new__"=true)
    (xa_NoCut:PySem.W.findIn K (.ref cX_NoCut) "__getattribute__"=some (some (.builtin "BaseException.__getattribute__"))) (xb_NoCut:PySem.W.findIn K (.ref cX_NoCut) "__getattr__"=some none) (xc_NoCut:PySem.W.findIn K (.ref cX_NoCut) "__class__"=some (some (.builtin "object.__class__")))
    (xd_NoCut:PySem.W.specialIn K (.builtin "object.__class__") "__get__"=some (some (.builtin "getset_descriptor.__get__"))) (xe_NoCut:PySem.W.takesIn K (.builtin "object.__class__")=some true) (xf_NoCut:PySem.W.mroIn K cX_NoCut (.type "object")=some true) (xg_NoCut:PySem.W.mroIn K cX_NoCut (.type "BaseException")=some true) (xh_NoCut:(PySem.W.clsIn K cX_NoCut).isSome=true)
    (n_NoPond:PySem.W.nsIn K mainGlobals "NoPond"=some (some (.ref cX_NoPond))) (q_NoPond:PySem.W.excIn K cX_NoPond oW "ValueError.__new__"=true)
    (xa_NoPond:PySem.W.findIn K (.ref cX_NoPond) "__getattribute__"=some (some (.builtin "BaseException.__getattribute__"))) (xb_NoPond:PySem.W.findIn K (.ref cX_NoPond) "__getattr__"=some none) (xc_NoPond:PySem.W.findIn K (.ref cX_NoPond) "__class__"=some (some (.builtin "object.__class__")))
    (xd_NoPond:PySem.W.specialIn K (.builtin "object.__class__") "__get__"=some (some (.builtin "getset_descriptor.__get__"))) (xe_NoPond:PySem.W.takesIn K (.builtin "object.__class__")=some true) (xf_NoPond:PySem.W.mroIn K cX_NoPond (.type "object")=some true) (xg_NoPond:PySem.W.mroIn K cX_NoPond (.type "BaseException")=some true) (xh_NoPond:(PySem.W.clsIn K cX_NoPond).isSome=true)
    (n_NoDay:PySem.W.nsIn K mainGlobals "NoDay"=some (some (.ref cX_NoDay))) (q_NoDay:PySem.W.excIn K cX_NoDay oW "ValueError.__new__"=true)
    (xa_NoDay:PySem.W.findIn K (.ref cX_NoDay) "__getattribute__"=some (some (.builtin "BaseException.__getattribute__"))) (xb_NoDay:PySem.W.findIn K (.ref cX_NoDay) "__getattr__"=some none) (xc_NoDay:PySem.W.findIn K (.ref cX_NoDay) "__class__"=some (some (.builtin "object.__class__")))
    (xd_NoDay:PySem.W.specialIn K (.builtin "object.__class__") "__get__"=some (some (.builtin "getset_descriptor.__get__"))) (xe_NoDay:PySem.W.takesIn K (.builtin "object.__class__")=some true) (xf_NoDay:PySem.W.mroIn K cX_NoDay (.type "object")=some true) (xg_NoDay:PySem.W.mroIn K cX_NoDay (.type "BaseException")=some true) (xh_NoDay:(PySem.W.clsIn K cX_NoDay).isSome=true)
    (n_Fixed:PySem.W.nsIn K mainGlobals "Fixed"=some (some (.ref cX_Fixed))) (q_Fixed:PySem.W.excIn K cX_Fixed oW "ValueError.__new__"=true)
    (xa_Fixed:PySem.W.findIn K (.ref cX_Fixed) "__getattribute__"=some (some (.builtin "BaseException.__getattribute__"))) (xb_Fixed:PySem.W.findIn K (.ref cX_Fixed) "__getattr__"=some none) (xc_Fixed:PySem.W.findIn K (.ref cX_Fixed) "__class__"=some (some (.builtin "object.__class__")))
    (xd_Fixed:PySem.W.specialIn K (.builtin "object.__class__") "__get__"=some (some (.builtin "getset_descriptor.__get__"))) (xe_Fixed:PySem.W.takesIn K (.builtin "object.__class__")=some true) (xf_Fixed:PySem.W.mroIn K cX_Fixed (.type "object")=some true) (xg_Fixed:PySem.W.mroIn K cX_Fixed (.type "BaseException")=some true) (xh_Fixed:(PySem.W.clsIn K cX_Fixed).isSome=true)
    (n_Harms:PySem.W.nsIn K mainGlobals "Harms"=some (some (.ref cX_Harms))) (q_Harms:PySem.W.excIn K cX_Harms oW "ValueError.__new__"=true)
    (xa_Harms:PySem.W.findIn K (.ref cX_Harms) "__getattribute__"=some (some (.builtin "BaseException.__getattribute__"))) (xb_Harms:PySem.W.findIn K (.ref cX_Harms) "__getattr__"=some none) (xc_Harms:PySem.W.findIn K (.ref cX_Harms) "__class__"=some (some (.builtin "object.__class__")))
    (xd_Harms:PySem.W.specialIn K (.builtin "object.__class__") "__get__"=some (some (.builtin "getset_descriptor.__get__"))) (xe_Harms:PySem.W.takesIn K (.builtin "object.__class__")=some true) (xf_Harms:PySem.W.mroIn K cX_Harms (.type "object")=some true) (xg_Harms:PySem.W.mroIn K cX_Harms (.type "BaseException")=some true) (xh_Harms:(PySem.W.clsIn K cX_Harms).isSome=true)
    (n_NoRow:PySem.W.nsIn K mainGlobals "NoRow"=some (some (.ref cX_NoRow))) (q_NoRow:PySem.W.excIn K cX_NoRow oW "ValueError.__new__"=true)
    (xa_NoRow:PySem.W.findIn K (.ref cX_NoRow) "__getattribute__"=some (some (.builtin "BaseException.__getattribute__"))) (xb_NoRow:PySem.W.findIn K (.ref cX_NoRow) "__getattr__"=some none) (xc_NoRow:PySem.W.findIn K (.ref cX_NoRow) "__class__"=some (some (.builtin "object.__class__")))
    (xd_NoRow:PySem.W.specialIn K (.builtin "object.__class__") "__get__"=some (some (.builtin "getset_descriptor.__get__"))) (xe_NoRow:PySem.W.takesIn K (.builtin "object.__class__")=some true) (xf_NoRow:PySem.W.mroIn K cX_NoRow (.type "object")=some true) (xg_NoRow:PySem.W.mroIn K cX_NoRow (.type "BaseException")=some true) (xh_NoRow:(PySem.W.clsIn K cX_NoRow).isSome=true)
    (m_NoNumber_SluiceError:PySem.W.exmOne K (.ref cX_NoNumber) (.ref cX_SluiceError)=some true)
    (m_NotYours_SluiceError:PySem.W.exmOne K (.ref cX_NotYours) (.ref cX_SluiceError)=some true)
    (m_NoHolder_SluiceError:PySem.W.exmOne K (.ref cX_NoHolder) (.ref cX_SluiceError)=some true)
    (m_NoLicence_SluiceError:PySem.W.exmOne K (.ref cX_NoLicence) (.ref cX_SluiceError)=some true)
    (m_TooMuch_SluiceError:PySem.W.exmOne K (.ref cX_TooMuch) (.ref cX_SluiceError)=some true)
    (m_NotAlone_SluiceError:PySem.W.exmOne K (.ref cX_NotAlone) (.ref cX_SluiceError)=some true)
    (m_Full_SluiceError:PySem.W.exmOne K (.ref cX_Full) (.ref cX_SluiceError)=some true)
    (i_NoNumber_ValueError:PySem.W.kitOne K (.ref cX_NoNumber) (.type "ValueError")=some true)
    (i_NotYours_ValueError:PySem.W.kitOne K (.ref cX_NotYours) (.type "ValueError")=some true)
    (i_NoHolder_ValueError:PySem.W.kitOne K (.ref cX_NoHolder) (.type "ValueError")=some true)
    (i_NoLicence_ValueError:PySem.W.kitOne K (.ref cX_NoLicence) (.type "ValueError")=some true)
    (i_TooMuch_ValueError:PySem.W.kitOne K (.ref cX_TooMuch) (.type "ValueError")=some true)
    (i_NotAlone_ValueError:PySem.W.kitOne K (.ref cX_NotAlone) (.type "ValueError")=some true)
    (i_Full_ValueError:PySem.W.kitOne K (.ref cX_Full) (.type "ValueError")=some true)
    (m_kall:([cX_NoNumber,cX_NotYours,cX_NoHolder,cX_NoLicence,cX_TooMuch,cX_NotAlone,cX_Full]:List Addr).map (fun a=>([cX_NoNumber,cX_NotYours,cX_NoHolder,cX_NoLicence,cX_TooMuch,cX_NotAlone,cX_Full,cX_NoRiver,cX_NoReach,cX_NoPaper,cX_NoCut,cX_NoPond,cX_NoDay,cX_Fixed,cX_Harms,cX_NoRow]:List Addr).map (fun b=>PySem.W.kitOne K (.ref a) (.ref b)))=(List.range 7).map fun i=>(List.range 16).map fun j=>some (decide (j=i)))
    : ∃ fd:FuncData,(∀ (s:Shared) (v:Value),BindsTo s fd ⟨[v],[]⟩ [("script",v)])∧∀ base:Heap,K.In base→base.Ns mainGlobals mg→bN l.prog w K mg base CX0 6 fa fd ["script"] (uF K):=by
  have e:=hfa.symm.trans (PySem.W.mg_of X G a27)
  cases e
  have B:Blt mg:=⟨PySem.W.mg_none_of X G z_len,PySem.W.mg_none_of X G z_range,PySem.W.mg_none_of X G z_list,PySem.W.mg_none_of X G z_isinstance,PySem.W.mg_none_of X G z_bool,PySem.W.mg_none_of X G z_int,PySem.W.mg_none_of X G z_all,PySem.W.mg_none_of X G z_min,PySem.W.mg_none_of X G z_max,PySem.W.mg_none_of X G z_sum,PySem.W.mg_none_of X G z_sorted,PySem.W.mg_none_of X G z_zip,PySem.W.mg_none_of X G z_tuple,PySem.W.mg_none_of X G z_str,PySem.W.mg_none_of X G z_any,PySem.W.mg_none_of X G z_enumerate,PySem.W.mg_none_of X G z_reversed,PySem.W.mg_none_of X G z_abs,PySem.W.mg_none_of X G z_ValueError,PySem.W.mg_none_of X G z_set⟩
  have h_MOST_WATER:∃ t,mg "MOST_WATER"=some (.int (1000000000000) t):=⟨_,PySem.W.mg_of X G e0⟩
  have h_LONGEST_NAME:∃ t,mg "LONGEST_NAME"=some (.int (8) t):=⟨_,PySem.W.mg_of X G e1⟩
  have h_LETTERS:∃ t,mg "LETTERS"=some (.str "abcdefghijklmnopqrstuvwxyz" t):=⟨_,PySem.W.mg_of X G e2⟩
  have h_MOST_REACHES:∃ t,mg "MOST_REACHES"=some (.int (40) t):=⟨_,PySem.W.mg_of X G e3⟩
  have h_MOUTH:∃ t,mg "MOUTH"=some (.int (-1) t):=⟨_,PySem.W.mg_of X G e4⟩
  have h_LAST_DAY:∃ t,mg "LAST_DAY"=some (.int (1000000) t):=⟨_,PySem.W.mg_of X G e5⟩
  have h_MOST_LICENCES:∃ t,mg "MOST_LICENCES"=some (.int (60) t):=⟨_,PySem.W.mg_of X G e6⟩
  have FM_Roll___init__:=bH (st:=cj) ml_Roll___init__ mc_Roll___init__ mk_Roll___init__
  have gU:Dm K cR_Roll "__init__" "Roll.__init__" cj ["self","below"] fm_Roll___init__ _:=⟨FM_Roll___init__,iH FM_Roll___init__ (fun _ _ _ _ _ _ _ _=>rfl),⟨ma_Roll___init__,mf_Roll___init__,mk_Roll___init__⟩⟩
  have FM_Roll_today:=bH (st:=dU) ml_Roll_today mc_Roll_today mk_Roll_today
  have iw:Dm K cR_Roll "today" "Roll.today" dU ["self"] fm_Roll_today _:=⟨FM_Roll_today,iI FM_Roll_today (fun _ _ _ _ _ _ _=>rfl),⟨ma_Roll_today,mf_Roll_today,mk_Roll_today⟩⟩
  have FM_Roll_roll:=bH (st:=fK) ml_Roll_roll mc_Roll_roll mk_Roll_roll
  have iZ:Dm K cR_Roll "roll" "Roll.roll" fK ["self"] fm_Roll_roll _:=⟨FM_Roll_roll,iI FM_Roll_roll (fun _ _ _ _ _ _ _=>rfl),⟨ma_Roll_roll,mf_Roll_roll,mk_Roll_roll⟩⟩
  have FM_Roll_holders:=bH (st:=cU) ml_Roll_holders mc_Roll_holders mk_Roll_holders
  have gn:Dm K cR_Roll "holders" "Roll.holders" cU ["self"] fm_Roll_holders _:=⟨FM_Roll_holders,iI FM_Roll_holders (fun _ _ _ _ _ _ _=>rfl),⟨ma_Roll_holders,mf_Roll_holders,mk_Roll_holders⟩⟩
  have FM_Roll_deeds:=bH (st:=dW) ml_Roll_deeds mc_Roll_deeds mk_Roll_deeds
  have fP:Dm K cR_Roll "deeds" "Roll.deeds" dW ["self"] fm_Roll_deeds _:=⟨FM_Roll_deeds,iI FM_Roll_deeds (fun _ _ _ _ _ _ _=>rfl),⟨ma_Roll_deeds,mf_Roll_deeds,mk_Roll_deeds⟩⟩
  have FM_Roll_turn:=bH (st:=fH) ml_Roll_turn mc_Roll_turn mk_Roll_turn
  have iW:Dm K cR_Roll "turn" "Roll.turn" fH ["self"] fm_Roll_turn _:=⟨FM_Roll_turn,iI FM_Roll_turn (fun _ _ _ _ _ _ _=>rfl),⟨ma_Roll_turn,mf_Roll_turn,mk_Roll_turn⟩⟩
  obtain ⟨nT_Roll_file,mu_Roll_file⟩:=mu_Roll_file
  have FM_Roll_file:Qy K "file" "Roll.file" d8 [.none] fm_Roll_file _:=⟨⟨_,_,_,_,_,_,_,_,_,_,_,_,rfl,ml_Roll_file,mc_Roll_file,mt_Roll_file,mu_Roll_file⟩,mk_Roll_file⟩
  have eN:DmD K cR_Roll "file" "Roll.file" d8 ["self","holder","start","most","back"] fm_Roll_file _:=⟨FM_Roll_file,FM_Roll_file.binds (fun _ _ _ _ _ _ _ us hl=>match us,(show us.length=5 by simpa using hl) with | [u0,u1,u2,u3,u4],_=>⟨_,rfl,rfl⟩),FM_Roll_file.binds (fun _ _ _ _ _ _ _ us hl=>match us,(show us.length=4 by simpa using hl) with | [u0,u1,u2,u3],_=>⟨_,rfl,rfl⟩),⟨ma_Roll_file,mf_Roll_file,mk_Roll_file⟩⟩
  have FM_Roll_sell:=bH (st:=fJ) ml_Roll_sell mc_Roll_sell mk_Roll_sell
  have iY:Dm K cR_Roll "sell" "Roll.sell" fJ ["self","number","holder","to"] fm_Roll_sell _:=⟨FM_Roll_sell,rJ FM_Roll_sell (fun _ _ _ _ _ _ _ _ _ _=>rfl),⟨ma_Roll_sell,mf_Roll_sell,mk_Roll_sell⟩⟩
  have FM_Roll_part:=bH (st:=dZ) ml_Roll_part mc_Roll_part mk_Roll_part
  have eG:Dm K cR_Roll "part" "Roll.part" dZ ["self","number","holder","most","to"] fm_Roll_part _:=⟨FM_Roll_part,V8 FM_Roll_part (fun _ _ _ _ _ _ _ _ _ _ _=>rfl),⟨ma_Roll_part,mf_Roll_part,mk_Roll_part⟩⟩
  have FM_Roll_drop:=bH (st:=d9) ml_Roll_drop mc_Roll_drop mk_Roll_drop
  have eO:Dm K cR_Roll "drop" "Roll.drop" d9 ["self","number","holder"] fm_Roll_drop _:=⟨FM_Roll_drop,pJ FM_Roll_drop (fun _ _ _ _ _ _ _ _ _=>rfl),⟨ma_Roll_drop,mf_Roll_drop,mk_Roll_drop⟩⟩
  have FM_Roll_move:=bH (st:=fL) ml_Roll_move mc_Roll_move mk_Roll_move
  have jc:Dm K cR_Roll "move" "Roll.move" fL ["self","number","holder","start"] fm_Roll_move _:=⟨FM_Roll_move,rJ FM_Roll_move (fun _ _ _ _ _ _ _ _ _ _=>rfl),⟨ma_Roll_move,mf_Roll_move,mk_Roll_move⟩⟩
  have FM_Roll_look_move:=bH (st:=bV) ml_Roll_look_move mc_Roll_look_move mk_Roll_look_move
  have eU:Dm K cR_Roll "look_move" "Roll.look_move" bV ["self","number","start"] fm_Roll_look_move _:=⟨FM_Roll_look_move,pJ FM_Roll_look_move (fun _ _ _ _ _ _ _ _ _=>rfl),⟨ma_Roll_look_move,mf_Roll_look_move,mk_Roll_look_move⟩⟩
  have FM_Roll_lapse:=bH (st:=dB) ml_Roll_lapse mc_Roll_lapse mk_Roll_lapse
  have iy:Dm K cR_Roll "lapse" "Roll.lapse" dB ["self","numbers"] fm_Roll_lapse _:=⟨FM_Roll_lapse,iH FM_Roll_lapse (fun _ _ _ _ _ _ _ _=>rfl),⟨ma_Roll_lapse,mf_Roll_lapse,mk_Roll_lapse⟩⟩
  have FM_Roll_enter:=bH (st:=dD) ml_Roll_enter mc_Roll_enter mk_Roll_enter
  have dF:Dm K cR_Roll "enter" "Roll.enter" dD ["self","one","holder"] fm_Roll_enter _:=⟨FM_Roll_enter,pJ FM_Roll_enter (fun _ _ _ _ _ _ _ _ _=>rfl),⟨ma_Roll_enter,mf_Roll_enter,mk_Roll_enter⟩⟩
  have FM_Roll_is_alone:=bH (st:=bQ) ml_Roll_is_alone mc_Roll_is_alone mk_Roll_is_alone
  have fO:Dm K cR_Roll "is_alone" "Roll.is_alone" bQ ["self","number"] fm_Roll_is_alone _:=⟨FM_Roll_is_alone,iH FM_Roll_is_alone (fun _ _ _ _ _ _ _ _=>rfl),⟨ma_Roll_is_alone,mf_Roll_is_alone,mk_Roll_is_alone⟩⟩
  have FM_Roll_look_at_number:=bH (st:=bh) ml_Roll_look_at_number mc_Roll_look_at_number mk_Roll_look_at_number
  have cB:Dm K cR_Roll "look_at_number" "Roll.look_at_number" bh ["self","number"] fm_Roll_look_at_number _:=⟨FM_Roll_look_at_number,iH FM_Roll_look_at_number (fun _ _ _ _ _ _ _ _=>rfl),⟨ma_Roll_look_at_number,mf_Roll_look_at_number,mk_Roll_look_at_number⟩⟩
  have FM_Roll_look_at_holder:=bH (st:=aO) ml_Roll_look_at_holder mc_Roll_look_at_holder mk_Roll_look_at_holder
  have aG:Dm K cR_Roll "look_at_holder" "Roll.look_at_holder" aO ["self","number","holder"] fm_Roll_look_at_holder _:=⟨FM_Roll_look_at_holder,pJ FM_Roll_look_at_holder (fun _ _ _ _ _ _ _ _ _=>rfl),⟨ma_Roll_look_at_holder,mf_Roll_look_at_holder,mk_Roll_look_at_holder⟩⟩
  have FM_Roll_look_at_room:=bH (st:=bx) ml_Roll_look_at_room mc_Roll_look_at_room mk_Roll_look_at_room
  have bB:Dm K cR_Roll "look_at_room" "Roll.look_at_room" bx ["self"] fm_Roll_look_at_room _:=⟨FM_Roll_look_at_room,iI FM_Roll_look_at_room (fun _ _ _ _ _ _ _=>rfl),⟨ma_Roll_look_at_room,mf_Roll_look_at_room,mk_Roll_look_at_room⟩⟩
  have R_Roll:Cl K mg "Roll" cR_Roll fm_Roll___init__ ["below","day","licences","names","done"]:=⟨⟨ka_Roll,kb_Roll,kc_Roll,kd_Roll⟩,⟨ke_Roll,ma_Roll___init__,mf_Roll___init__,kf_Roll⟩,PySem.W.mg_of X G n_Roll,by
    simp only [List.mem_cons,List.not_mem_nil,or_false,forall_eq_or_imp,forall_eq]
    exact ⟨kn_Roll_below,kn_Roll_day,kn_Roll_licences,kn_Roll_names,kn_Roll_done⟩⟩
  have X_SluiceError:jd K mg "SluiceError" cX_SluiceError:=⟨PySem.W.mg_of X G n_SluiceError,q_SluiceError,⟨xa_SluiceError,xb_SluiceError,xc_SluiceError,xd_SluiceError,xe_SluiceError,xf_SluiceError,xg_SluiceError,xh_SluiceError⟩⟩
  have X_NoNumber:jd K mg "NoNumber" cX_NoNumber:=⟨PySem.W.mg_of X G n_NoNumber,q_NoNumber,⟨xa_NoNumber,xb_NoNumber,xc_NoNumber,xd_NoNumber,xe_NoNumber,xf_NoNumber,xg_NoNumber,xh_NoNumber⟩⟩
  have X_NotYours:jd K mg "NotYours" cX_NotYours:=⟨PySem.W.mg_of X G n_NotYours,q_NotYours,⟨xa_NotYours,xb_NotYours,xc_NotYours,xd_NotYours,xe_NotYours,xf_NotYours,xg_NotYours,xh_NotYours⟩⟩
  have X_NoHolder:jd K mg "NoHolder" cX_NoHolder:=⟨PySem.W.mg_of X G n_NoHolder,q_NoHolder,⟨xa_NoHolder,xb_NoHolder,xc_NoHolder,xd_NoHolder,xe_NoHolder,xf_NoHolder,xg_NoHolder,xh_NoHolder⟩⟩
  have X_NoLicence:jd K mg "NoLicence" cX_NoLicence:=⟨PySem.W.mg_of X G n_NoLicence,q_NoLicence,⟨xa_NoLicence,xb_NoLicence,xc_NoLicence,xd_NoLicence,xe_NoLicence,xf_NoLicence,xg_NoLicence,xh_NoLicence⟩⟩
  have X_TooMuch:jd K mg "TooMuch" cX_TooMuch:=⟨PySem.W.mg_of X G n_TooMuch,q_TooMuch,⟨xa_TooMuch,xb_TooMuch,xc_TooMuch,xd_TooMuch,xe_TooMuch,xf_TooMuch,xg_TooMuch,xh_TooMuch⟩⟩
  have X_NotAlone:jd K mg "NotAlone" cX_NotAlone:=⟨PySem.W.mg_of X G n_NotAlone,q_NotAlone,⟨xa_NotAlone,xb_NotAlone,xc_NotAlone,xd_NotAlone,xe_NotAlone,xf_NotAlone,xg_NotAlone,xh_NotAlone⟩⟩
  have X_Full:jd K mg "Full" cX_Full:=⟨PySem.W.mg_of X G n_Full,q_Full,⟨xa_Full,xb_Full,xc_Full,xd_Full,xe_Full,xf_Full,xg_Full,xh_Full⟩⟩
  have X_NoRiver:jd K mg "NoRiver" cX_NoRiver:=⟨PySem.W.mg_of X G n_NoRiver,q_NoRiver,⟨xa_NoRiver,xb_NoRiver,xc_NoRiver,xd_NoRiver,xe_NoRiver,xf_NoRiver,xg_NoRiver,xh_NoRiver⟩⟩
  have X_NoReach:jd K mg "NoReach" cX_NoReach:=⟨PySem.W.mg_of X G n_NoReach,q_NoReach,⟨xa_NoReach,xb_NoReach,xc_NoReach,xd_NoReach,xe_NoReach,xf_NoReach,xg_NoReach,xh_NoReach⟩⟩
  have X_NoPaper:jd K mg "NoPaper" cX_NoPaper:=⟨PySem.W.mg_of X G n_NoPaper,q_NoPaper,⟨xa_NoPaper,xb_NoPaper,xc_NoPaper,xd_NoPaper,xe_NoPaper,xf_NoPaper,xg_NoPaper,xh_NoPaper⟩⟩
  have X_NoCut:jd K mg "NoCut" cX_NoCut:=⟨PySem.W.mg_of X G n_NoCut,q_NoCut,⟨xa_NoCut,xb_NoCut,xc_NoCut,xd_NoCut,xe_NoCut,xf_NoCut,xg_NoCut,xh_NoCut⟩⟩
  have X_NoPond:jd K mg "NoPond" cX_NoPond:=⟨PySem.W.mg_of X G n_NoPond,q_NoPond,⟨xa_NoPond,xb_NoPond,xc_NoPond,xd_NoPond,xe_NoPond,xf_NoPond,xg_NoPond,xh_NoPond⟩⟩
  have X_NoDay:jd K mg "NoDay" cX_NoDay:=⟨PySem.W.mg_of X G n_NoDay,q_NoDay,⟨xa_NoDay,xb_NoDay,xc_NoDay,xd_NoDay,xe_NoDay,xf_NoDay,xg_NoDay,xh_NoDay⟩⟩
  have X_Fixed:jd K mg "Fixed" cX_Fixed:=⟨PySem.W.mg_of X G n_Fixed,q_Fixed,⟨xa_Fixed,xb_Fixed,xc_Fixed,xd_Fixed,xe_Fixed,xf_Fixed,xg_Fixed,xh_Fixed⟩⟩
  have X_Harms:jd K mg "Harms" cX_Harms:=⟨PySem.W.mg_of X G n_Harms,q_Harms,⟨xa_Harms,xb_Harms,xc_Harms,xd_Harms,xe_Harms,xf_Harms,xg_Harms,xh_Harms⟩⟩
  have X_NoRow:jd K mg "NoRow" cX_NoRow:=⟨PySem.W.mg_of X G n_NoRow,q_NoRow,⟨xa_NoRow,xb_NoRow,xc_NoRow,xd_NoRow,xe_NoRow,xf_NoRow,xg_NoRow,xh_NoRow⟩⟩
  have F0:=bH (st:=fV) l0 c0 k0
  have dH:Df K mg "is_water" fV ["amount"] _ _:=⟨F0,iI F0 (fun _ _ _ _ _ _ _=>rfl),PySem.W.mg_of X G a0⟩
  have F1:=bH (st:=gO) l1 c1 k1
  have jx:Df K mg "is_name" gO ["text"] _ _:=⟨F1,iI F1 (fun _ _ _ _ _ _ _=>rfl),PySem.W.mg_of X G a1⟩
  have F2:=bH (st:=bU) l2 c2 k2
  have dg:Df K mg "comes_to_mouth" bU ["below","start"] _ _:=⟨F2,iH F2 (fun _ _ _ _ _ _ _ _=>rfl),PySem.W.mg_of X G a2⟩
  have F3:=bH (st:=eV) l3 c3 k3
  have iQ:Df K mg "is_river" eV ["below"] _ _:=⟨F3,iI F3 (fun _ _ _ _ _ _ _=>rfl),PySem.W.mg_of X G a3⟩
  have F4:=bH (st:=je) l4 c4 k4
  have j8:Df K mg "way_of" je ["below","reach"] _ _:=⟨F4,iH F4 (fun _ _ _ _ _ _ _ _=>rfl),PySem.W.mg_of X G a4⟩
  have F5:=bH (st:=dj) l5 c5 k5
  have cA:Df K mg "is_licence" dj ["below","one"] _ _:=⟨F5,iH F5 (fun _ _ _ _ _ _ _ _=>rfl),PySem.W.mg_of X G a5⟩
  have F6:=bH (st:=fB) l6 c6 k6
  have eF:Df K mg "day_filed" fB ["one"] _ _:=⟨F6,iI F6 (fun _ _ _ _ _ _ _=>rfl),PySem.W.mg_of X G a6⟩
  have F7:=bH (st:=fZ) l7 c7 k7
  have bR:Df K mg "most_of" fZ ["one"] _ _:=⟨F7,iI F7 (fun _ _ _ _ _ _ _=>rfl),PySem.W.mg_of X G a7⟩
  have F8:=bH (st:=dN) l8 c8 k8
  have gB:Df K mg "with_start" dN ["one","start"] _ _:=⟨F8,iH F8 (fun _ _ _ _ _ _ _ _=>rfl),PySem.W.mg_of X G a8⟩
  have F9:=bH (st:=dG) l9 c9 k9
  have bA:Df K mg "with_most" dG ["one","most"] _ _:=⟨F9,iH F9 (fun _ _ _ _ _ _ _ _=>rfl),PySem.W.mg_of X G a9⟩
  have F10:=bH (st:=bO) l10 c10 k10
  have aX:Df K mg "look_at_name" bO ["name"] _ _:=⟨F10,iI F10 (fun _ _ _ _ _ _ _=>rfl),PySem.W.mg_of X G a10⟩
  have F11:=bH (st:=cR) l11 c11 k11
  have bZ:Df K mg "_law_cell_at" cR ["script","k"] _ _:=⟨F11,iH F11 (fun _ _ _ _ _ _ _ _=>rfl),PySem.W.mg_of X G a11⟩
  have F12:=bH (st:=fD) l12 c12 k12
  have gY:Df K mg "_law_draw" fD ["cell","place"] _ _:=⟨F12,iH F12 (fun _ _ _ _ _ _ _ _=>rfl),PySem.W.mg_of X G a12⟩
  have F13:=bH (st:=cQ) l13 c13 k13
  have bI:Df K mg "_law_draws" cQ ["cell","many"] _ _:=⟨F13,iH F13 (fun _ _ _ _ _ _ _ _=>rfl),PySem.W.mg_of X G a13⟩
  have F14:=bH (st:=cO) l14 c14 k14
  have gD:Df K mg "_law_river" cO ["cell"] _ _:=⟨F14,iI F14 (fun _ _ _ _ _ _ _=>rfl),PySem.W.mg_of X G a14⟩
  have F15:=bH (st:=fW) l15 c15 k15
  have dI:Df K mg "_law_way" fW ["below","reach"] _ _:=⟨F15,iH F15 (fun _ _ _ _ _ _ _ _=>rfl),PySem.W.mg_of X G a15⟩
  have F16:=bH (st:=dw) l16 c16 k16
  have gC:Df K mg "_law_words" dw ["e"] _ _:=⟨F16,iI F16 (fun _ _ _ _ _ _ _=>rfl),PySem.W.mg_of X G a16⟩
  have F17:=bH (st:=iu) l17 c17 k17
  have jy:Df K mg "_law_do" iu ["one","deed"] _ _:=⟨F17,iH F17 (fun _ _ _ _ _ _ _ _=>rfl),PySem.W.mg_of X G a17⟩
  have F18:=bH (st:=cP) l18 c18 k18
  have eY:Df K mg "_law_refused" cP ["one","deed"] _ _:=⟨F18,iH F18 (fun _ _ _ _ _ _ _ _=>rfl),PySem.W.mg_of X G a18⟩
  have F19:=bH (st:=cg) l19 c19 k19
  have dJ:Df K mg "_law_bad_name" cg ["number"] _ _:=⟨F19,iI F19 (fun _ _ _ _ _ _ _=>rfl),PySem.W.mg_of X G a19⟩
  have F20:=bH (st:=dO) l20 c20 k20
  have gG:Df K mg "_law_filed" dO ["one","xs","below","k","day","lines","owners"] _ _:=⟨F20,V7 F20 (fun _ _ _ _ _ _ _ _ _ _ _ _ _=>rfl),PySem.W.mg_of X G a20⟩
  have F21:=bH (st:=dR) l21 c21 k21
  have gH:Df K mg "_law_begun" dR ["one","xs","below"] _ _:=⟨F21,pJ F21 (fun _ _ _ _ _ _ _ _ _=>rfl),PySem.W.mg_of X G a21⟩
  have F22:=bH (st:=cJ) l22 c22 k22
  have bT:Df K mg "_law_is_let" cJ ["below","start","back"] _ _:=⟨F22,pJ F22 (fun _ _ _ _ _ _ _ _ _=>rfl),PySem.W.mg_of X G a22⟩
  have F23:=bH (st:=bJ) l23 c23 k23
  have dh:Df K mg "_law_due_first" bJ ["deed","below","lines","owners"] _ _:=⟨F23,rJ F23 (fun _ _ _ _ _ _ _ _ _ _=>rfl),PySem.W.mg_of X G a23⟩
  have F24:=bH (st:=fX) l24 c24 k24
  have iR:Df K mg "_law_due" fX ["deed","below","lines","owners"] _ _:=⟨F24,rJ F24 (fun _ _ _ _ _ _ _ _ _ _=>rfl),PySem.W.mg_of X G a24⟩
  have F25:=bH (st:=dz) l25 c25 k25
  have gF:Df K mg "_law_lapse" dz ["xs","lines"] _ _:=⟨F25,iH F25 (fun _ _ _ _ _ _ _ _=>rfl),PySem.W.mg_of X G a25⟩
  have F26:=bH (st:=fG) l26 c26 k26
  have gZ:Df K mg "_law_deed" fG ["xs","below","lines","owners"] _ _:=⟨F26,rJ F26 (fun _ _ _ _ _ _ _ _ _ _=>rfl),PySem.W.mg_of X G a26⟩
  have F27:=bH (st:=oU) l27 c27 k27
  have W9:Df K mg "law" oU ["script"] _ _:=⟨F27,iI F27 (fun _ _ _ _ _ _ _=>rfl),PySem.W.mg_of X G a27⟩
  refine ⟨PySem.W.fnOf "law" "law" (aB oU) (aA oU) (ak oU) .none kV27 dc27 pm27 an27 cd27 ct27,fun s v=>.of_eq rfl,fun base _ _=>?_⟩
  have RR:RC K cR_Roll:=Og R_Roll
  have TT6:Bp K (⟨cX_NoNumber,cX_NotYours,cX_NoHolder,cX_NoLicence,cX_TooMuch,cX_NotAlone,cX_Full,cX_NoRiver⟩:Ec) [cX_NoNumber,cX_NotYours,cX_NoHolder,cX_NoLicence,cX_TooMuch,cX_NotAlone,cX_Full,cX_NoRiver,cX_NoReach,cX_NoPaper,cX_NoCut,cX_NoPond,cX_NoDay,cX_Fixed,cX_Harms,cX_NoRow] cX_SluiceError:=⟨fun k hk=>match k,hk with | .number,_=>m_NoNumber_SluiceError | .yours,_=>m_NotYours_SluiceError | .holder,_=>m_NoHolder_SluiceError | .licence,_=>m_NoLicence_SluiceError | .much,_=>m_TooMuch_SluiceError | .alone,_=>m_NotAlone_SluiceError | .full,_=>m_Full_SluiceError | .jA,z=>absurd rfl z,fun k hk j a h=>match k,hk with | .number,_=>tO m_kall (i:=0) rfl h | .yours,_=>tO m_kall (i:=1) rfl h | .holder,_=>tO m_kall (i:=2) rfl h | .licence,_=>tO m_kall (i:=3) rfl h | .much,_=>tO m_kall (i:=4) rfl h | .alone,_=>tO m_kall (i:=5) rfl h | .full,_=>tO m_kall (i:=6) rfl h | .jA,z=>absurd rfl z,fun k hk=>match k,hk with | .number,_=>i_NoNumber_ValueError | .yours,_=>i_NotYours_ValueError | .holder,_=>i_NoHolder_ValueError | .licence,_=>i_NoLicence_ValueError | .much,_=>i_TooMuch_ValueError | .alone,_=>i_NotAlone_ValueError | .full,_=>i_Full_ValueError | .jA,z=>absurd rfl z,fun k hk=>match k,hk with | .number,_=>X_NoNumber.x | .yours,_=>X_NotYours.x | .holder,_=>X_NoHolder.x | .licence,_=>X_NoLicence.x | .much,_=>X_TooMuch.x | .alone,_=>X_NotAlone.x | .full,_=>X_Full.x | .jA,z=>absurd rfl z⟩
  have C:Mth mg:=⟨h_MOUTH⟩
  have CS:Cst mg:=⟨h_MOUTH,h_MOST_REACHES⟩
  have CNm:CN mg:=⟨h_LONGEST_NAME,h_LETTERS⟩
  have g1:=Ra (P:=l.prog) (w:=w) (base:=base) j8 C
  have g2:=Cm (P:=l.prog) (w:=w) (base:=base) dg B CS
  have g3:=Rg iQ B CS dg g2
  have g4:=Cg (P:=l.prog) (w:=w) (base:=base) dH h_MOST_WATER
  have g5:=Cj (T:=[]) cA B C h_LAST_DAY dH g4 j8 g1
  have g6:=Ov (P:=l.prog) (w:=w) (base:=base) bZ B
  have g7:=wV (P:=l.prog) (w:=w) (base:=base) (T:=[]) jx B CNm
  have g8:=tu (T:=[]) aX X_NoHolder jx g7
  have g9:=Cv (P:=l.prog) (w:=w) (base:=base) (mg:=mg) iZ B RR
  have g10:=tH (P:=l.prog) (w:=w) (base:=base) (mg:=mg) gn B RR
  have g11:=wZ (P:=l.prog) (w:=w) (base:=base) (mg:=mg) fP B RR
  have g12:=wW (P:=l.prog) (w:=w) (base:=base) (mg:=mg) iw RR
  have g13:=Cq (P:=l.prog) (w:=w) (base:=base) (mg:=mg) (T:=[]) (c:=(⟨cX_NoNumber,cX_NotYours,cX_NoHolder,cX_NoLicence,cX_TooMuch,cX_NotAlone,cX_Full,cX_NoRiver⟩:Ec)) iW RR
  have g14:=wY (P:=l.prog) (w:=w) (base:=base) (mg:=mg) dF B RR
  have g15:=Cu (P:=l.prog) (w:=w) (base:=base) (mg:=mg) (T:=[]) bB B RR X_Full h_MOST_LICENCES
  have g16:=tE (P:=l.prog) (w:=w) (base:=base) (mg:=mg) (T:=[]) cB B RR X_NoNumber
  have g17:=tG (T:=[]) aG B RR X_NotYours cB g16
  have g18:=Rj (P:=l.prog) (w:=w) (base:=base) eF
  have g19:=Oo (P:=l.prog) (w:=w) (base:=base) bR
  have g20:=Wz (P:=l.prog) (w:=w) (base:=base) bA
  have g21:=Q9 (P:=l.prog) (w:=w) (base:=base) gB
  have g22:=w5 (T:=[]) fO B RR eF g18 bR g19
  have g23:=CJ (T:=[]) (c:=(⟨cX_NoNumber,cX_NotYours,cX_NoHolder,cX_NoLicence,cX_TooMuch,cX_NotAlone,cX_Full,cX_NoRiver⟩:Ec)) eO RR aG g17 bA g20
  have g24:=Cr (T:=[]) (c:=(⟨cX_NoNumber,cX_NotYours,cX_NoHolder,cX_NoLicence,cX_TooMuch,cX_NotAlone,cX_Full,cX_NoRiver⟩:Ec)) iY RR aG g17 aX g8
  have g25:=Cw (T:=[]) (c:=(⟨cX_NoNumber,cX_NotYours,cX_NoHolder,cX_NoLicence,cX_TooMuch,cX_NotAlone,cX_Full,cX_NoRiver⟩:Ec)) eG B RR X_TooMuch X_NotAlone aG g17 aX g8 bR g19 fO g22 bB g15 bA g20 dF g14
  have g26:=rB (P:=l.prog) (w:=w) (base:=base) (mg:=mg) eU
  have g27:=Cy (T:=[]) (c:=(⟨cX_NoNumber,cX_NotYours,cX_NoHolder,cX_NoLicence,cX_TooMuch,cX_NotAlone,cX_Full,cX_NoRiver⟩:Ec)) jc B RR X_NoLicence aG g17 gB g21 cA g5 eU g26
  have g28:=CG (T:=[]) (c:=(⟨cX_NoNumber,cX_NotYours,cX_NoHolder,cX_NoLicence,cX_TooMuch,cX_NotAlone,cX_Full,cX_NoRiver⟩:Ec)) eN B C RR X_NoLicence aX g8 cA g5 bB g15 dF g14
  have g29:=wX (T:=[]) (c:=(⟨cX_NoNumber,cX_NotYours,cX_NoHolder,cX_NoLicence,cX_TooMuch,cX_NotAlone,cX_Full,cX_NoRiver⟩:Ec)) iy B RR X_NoNumber X_TooMuch dH g4 bR g19 bA g20
  have g30:=Cz (T:=[]) (c:=(⟨cX_NoNumber,cX_NotYours,cX_NoHolder,cX_NoLicence,cX_TooMuch,cX_NotAlone,cX_Full,cX_NoRiver⟩:Ec)) gU B RR X_NoRiver iQ g3
  have g31:=Oq (P:=l.prog) (w:=w) (base:=base) dI
  have g32:=WD (P:=l.prog) (w:=w) (base:=base) gY
  have g33:=Rh (T:=[]) bI B gY g32
  have g34:=Ci (T:=[]) gD B bI g33
  have g35:=Ce (P:=l.prog) (w:=w) (base:=base) (T:=[]) (c:=(⟨cX_NoNumber,cX_NotYours,cX_NoHolder,cX_NoLicence,cX_TooMuch,cX_NotAlone,cX_Full,cX_NoRiver⟩:Ec)) gC B TT6 X_NoNumber X_NotYours X_NoHolder X_NoLicence X_TooMuch X_NotAlone X_Full X_NoRiver X_NoReach X_NoPaper X_NoCut X_NoPond X_NoDay X_Fixed X_Harms X_NoRow
  have g36:=WK (T:=[]) (c:=(⟨cX_NoNumber,cX_NotYours,cX_NoHolder,cX_NoLicence,cX_TooMuch,cX_NotAlone,cX_Full,cX_NoRiver⟩:Ec)) jy RR eN g28 iY g24 eG g25 eO g23 jc g27 iy g29
  have g37:=Om (T:=[]) (c:=(⟨cX_NoNumber,cX_NotYours,cX_NoHolder,cX_NoLicence,cX_TooMuch,cX_NotAlone,cX_Full,cX_NoRiver⟩:Ec)) eY X_SluiceError TT6 jy g36 gC g35
  have g38:=Rc (T:=[]) bT B dI g31
  have g39:=Ot (T:=[]) dh B bT g38
  have g40:=Ri (T:=[]) iR B bT g38 dh g39
  have g41:=Rk (P:=l.prog) (w:=w) (base:=base) (T:=[]) dJ B
  have g42:=Rb (P:=l.prog) (w:=w) (base:=base) (T:=[]) gF B
  have g43:=Ou (T:=[]) gZ B dJ g41 gF g42
  have g44:=Ck (T:=[]) (c:=(⟨cX_NoNumber,cX_NotYours,cX_NoHolder,cX_NoLicence,cX_TooMuch,cX_NotAlone,cX_Full,cX_NoRiver⟩:Ec)) gG B RR dI g31 eN g28
  have g45:=Cp (T:=[]) (c:=(⟨cX_NoNumber,cX_NotYours,cX_NoHolder,cX_NoLicence,cX_TooMuch,cX_NotAlone,cX_Full,cX_NoRiver⟩:Ec)) gH B RR iW g13 gG g44 eG g25 eO g23
  exact Rf W9 B R_Roll bZ g6 gD g34 gU g30 bI g33 gH g45 fP g11 gn g10 iZ g9 iw g12 gZ g43 iR g40 eY g37
theorem walk {l:PySem.W.OpenLaw} {q:Program} {loose:List Str} {XP:(Str→Option Value)→Heap→Prop} {YP:World→Heap→Prop} {d:DefRec} {K:Params→PySem.W.Frag} (hn:l.most=some 63) (hdf:d.params.defaults=[])
    (hY:∀ (w:World) (h:Heap),YP w h→(K w.params).In h)
    (F:∀ (w:World) (mg:Str→Option Value) (fa:Addr) (h:Heap),(K w.params).In h→h.Ns mainGlobals mg→mg d.name=some (.ref fa) →
      ∃ fd:FuncData,(∀ (s:Shared) (u:Value),BindsTo s fd ⟨[u],[]⟩ [("script",u)])∧∀ base:Heap,(K w.params).In base→base.Ns mainGlobals mg→bN l.prog w (K w.params) mg base CX0 6 fa fd ["script"] (uF (K w.params))) :
    PySem.W.WalkO q loose XP YP l.row.toRowW d [] (fun f vs=>PySem.call f vs) :=
  L2.NT (n:=63) (k:=6) (x:="script") (CX:=fun _=>CX0) (sp:=fun w=>uF (K w.params)) hn (by decide) hdf ⟨rfl,by decide,by decide⟩ hY F (fun _ _ a ns hl _ hS=>⟨a,ns,rfl,hS,hl,fun _=>rfl⟩) fun _ _ _ _ _ z=>z
end My
open PySem PySem.W PyProof.Rows
set_option maxRecDepth 100000 in
set_option maxHeartbeats 0 in
theorem PySem.Challenge.cw_sluice_k56_refused_in_order_holds : PySem.Challenge.rw_sluice_k56_refused_in_order.Holds := by
  w_on;o_law
  refine PySem.W.holds_open (q:=My.qv) (loose:=My.uQ) (Xt:=(fun s=>PySem.W.xlAt My.qv [] s && PySem.W.recOk (PySem.W.RowW.records PySem.Challenge.rw_sluice_k56_refused_in_order.row.toRowW) s)) (XP:=PySem.W.XL My.qv []) (Yf:=PySem.W.Hook.obs (PySem.W.kHook My.Kf My.asK My.hkE)) (Ya:=PySem.W.Hook.val (PySem.W.kHook My.Kf My.asK My.hkE)) (YP:=PySem.W.Hook.says (PySem.W.kHook My.Kf My.asK My.hkE)) (N:=10818) My.hlE (PySem.W.Hook.of (PySem.W.kHook My.Kf My.asK My.hkE)) (PySem.W.Hook.keeps (PySem.W.kHook My.Kf My.asK My.hkE)) (fun s e=>PySem.W.xl_of s (Bool.and_eq_true_iff.mp e).1) PySem.W.XL.keeps (by rfl) (by rfl) (by rfl) (fun s e=>PySem.W.recFacts_of (Bool.and_eq_true_iff.mp e).2) (by rfl) (by first | assumption | decide +kernel) (by decide +kernel) ⟨rfl,rfl,rfl,rfl,rfl,by decide +kernel⟩ ?hw ?hc
  case hw=>w_witness2
  k_fill
  refine My.walk (l:=PySem.Challenge.rw_sluice_k56_refused_in_order) rfl rfl (fun w h Y=>PySem.W.kIn_of Y) ?F
  case F =>
    intro w mg fa h KX G hmg
    refine' My.all_mk KX G hmg ?a0 ?l0 ?c0 ?k0 ?a1 ?l1 ?c1 ?k1 ?a2 ?l2 ?c2 ?k2 ?a3 ?l3 ?c3 ?k3 ?a4 ?l4 ?c4 ?k4 ?a5 ?l5 ?c5 ?k5 ?a6 ?l6 ?c6 ?k6 ?a7 ?l7 ?c7 ?k7 ?a8 ?l8 ?c8 ?k8 ?a9 ?l9 ?c9 ?k9 ?a10 ?l10 ?c10 ?k10 ?a11 ?l11 ?c11 ?k11 ?a12 ?l12 ?c12 ?k12 ?a13 ?l13 ?c13 ?k13 ?a14 ?l14 ?c14 ?k14 ?a15 ?l15 ?c15 ?k15 ?a16 ?l16 ?c16 ?k16 ?a17 ?l17 ?c17 ?k17 ?a18 ?l18 ?c18 ?k18 ?a19 ?l19 ?c19 ?k19 ?a20 ?l20 ?c20 ?k20 ?a21 ?l21 ?c21 ?k21 ?a22 ?l22 ?c22 ?k22 ?a23 ?l23 ?c23 ?k23 ?a24 ?l24 ?c24 ?k24 ?a25 ?l25 ?c25 ?k25 ?a26 ?l26 ?c26 ?k26 ?a27 ?l27 ?c27 ?k27 ?e0 ?e1 ?e2 ?e3 ?e4 ?e5 ?e6 ?n_Roll ?ka_Roll ?kb_Roll ?kc_Roll ?kd_Roll ?ke_Roll ?kf_Roll ?kn_Roll_below ?kn_Roll_day ?kn_Roll_licences ?kn_Roll_names ?kn_Roll_done ?ma_Roll___init__ ?mf_Roll___init__ ?mk_Roll___init__ ?ml_Roll___init__ ?mc_Roll___init__ ?ma_Roll_today ?mf_Roll_today ?mk_Roll_today ?ml_Roll_today ?mc_Roll_today ?ma_Roll_roll ?mf_Roll_roll ?mk_Roll_roll ?ml_Roll_roll ?mc_Roll_roll ?ma_Roll_holders ?mf_Roll_holders ?mk_Roll_holders ?ml_Roll_holders ?mc_Roll_holders ?ma_Roll_deeds ?mf_Roll_deeds ?mk_Roll_deeds ?ml_Roll_deeds ?mc_Roll_deeds ?ma_Roll_turn ?mf_Roll_turn ?mk_Roll_turn ?ml_Roll_turn ?mc_Roll_turn ?ma_Roll_file ?mf_Roll_file ?mk_Roll_file ?ml_Roll_file ?mc_Roll_file ?mt_Roll_file ?mu_Roll_file ?ma_Roll_sell ?mf_Roll_sell ?mk_Roll_sell ?ml_Roll_sell ?mc_Roll_sell ?ma_Roll_part ?mf_Roll_part ?mk_Roll_part ?ml_Roll_part ?mc_Roll_part ?ma_Roll_drop ?mf_Roll_drop ?mk_Roll_drop ?ml_Roll_drop ?mc_Roll_drop ?ma_Roll_move ?mf_Roll_move ?mk_Roll_move ?ml_Roll_move ?mc_Roll_move ?ma_Roll_look_move ?mf_Roll_look_move ?mk_Roll_look_move ?ml_Roll_look_move ?mc_Roll_look_move ?ma_Roll_lapse ?mf_Roll_lapse ?mk_Roll_lapse ?ml_Roll_lapse ?mc_Roll_lapse ?ma_Roll_enter ?mf_Roll_enter ?mk_Roll_enter ?ml_Roll_enter ?mc_Roll_enter ?ma_Roll_is_alone ?mf_Roll_is_alone ?mk_Roll_is_alone ?ml_Roll_is_alone ?mc_Roll_is_alone ?ma_Roll_look_at_number ?mf_Roll_look_at_number ?mk_Roll_look_at_number ?ml_Roll_look_at_number ?mc_Roll_look_at_number ?ma_Roll_look_at_holder ?mf_Roll_look_at_holder ?mk_Roll_look_at_holder ?ml_Roll_look_at_holder ?mc_Roll_look_at_holder ?ma_Roll_look_at_room ?mf_Roll_look_at_room ?mk_Roll_look_at_room ?ml_Roll_look_at_room ?mc_Roll_look_at_room ?z_len ?z_range ?z_list ?z_isinstance ?z_bool ?z_int ?z_all ?z_min ?z_max ?z_sum ?z_sorted ?z_zip ?z_tuple ?z_str ?z_any ?z_enumerate ?z_reversed ?z_abs ?z_ValueError ?z_set ?n_SluiceError ?q_SluiceError ?xa_SluiceError ?xb_SluiceError ?xc_SluiceError ?xd_SluiceError ?xe_SluiceError ?xf_SluiceError ?xg_SluiceError ?xh_SluiceError ?n_NoNumber ?q_NoNumber ?xa_NoNumber ?xb_NoNumber ?xc_NoNumber ?xd_NoNumber ?xe_NoNumber ?xf_NoNumber ?xg_NoNumber ?xh_NoNumber ?n_NotYours ?q_NotYours ?xa_NotYours ?xb_NotYours ?xc_NotYours ?xd_NotYours ?xe_NotYours ?xf_NotYours ?xg_NotYours ?xh_NotYours ?n_NoHolder ?q_NoHolder ?xa_NoHolder ?xb_NoHolder ?xc_NoHolder ?xd_NoHolder ?xe_NoHolder ?xf_NoHolder ?xg_NoHolder ?xh_NoHolder ?n_NoLicence ?q_NoLicence ?xa_NoLicence ?xb_NoLicence ?xc_NoLicence ?xd_NoLicence ?xe_NoLicence ?xf_NoLicence ?xg_NoLicence ?xh_NoLicence ?n_TooMuch ?q_TooMuch ?xa_TooMuch ?xb_TooMuch ?xc_TooMuch ?xd_TooMuch ?xe_TooMuch ?xf_TooMuch ?xg_TooMuch ?xh_TooMuch ?n_NotAlone ?q_NotAlone ?xa_NotAlone ?xb_NotAlone ?xc_NotAlone ?xd_NotAlone ?xe_NotAlone ?xf_NotAlone ?xg_NotAlone ?xh_NotAlone ?n_Full ?q_Full ?xa_Full ?xb_Full ?xc_Full ?xd_Full ?xe_Full ?xf_Full ?xg_Full ?xh_Full ?n_NoRiver ?q_NoRiver ?xa_NoRiver ?xb_NoRiver ?xc_NoRiver ?xd_NoRiver ?xe_NoRiver ?xf_NoRiver ?xg_NoRiver ?xh_NoRiver ?n_NoReach ?q_NoReach ?xa_NoReach ?xb_NoReach ?xc_NoReach ?xd_NoReach ?xe_NoReach ?xf_NoReach ?xg_NoReach ?xh_NoReach ?n_NoPaper ?q_NoPaper ?xa_NoPaper ?xb_NoPaper ?xc_NoPaper ?xd_NoPaper ?xe_NoPaper ?xf_NoPaper ?xg_NoPaper ?xh_NoPaper ?n_NoCut ?q_NoCut ?xa_NoCut ?xb_NoCut ?xc_NoCut ?xd_NoCut ?xe_NoCut ?xf_NoCut ?xg_NoCut ?xh_NoCut ?n_NoPond ?q_NoPond ?xa_NoPond ?xb_NoPond ?xc_NoPond ?xd_NoPond ?xe_NoPond ?xf_NoPond ?xg_NoPond ?xh_NoPond ?n_NoDay ?q_NoDay ?xa_NoDay ?xb_NoDay ?xc_NoDay ?xd_NoDay ?xe_NoDay ?xf_NoDay ?xg_NoDay ?xh_NoDay ?n_Fixed ?q_Fixed ?xa_Fixed ?xb_Fixed ?xc_Fixed ?xd_Fixed ?xe_Fixed ?xf_Fixed ?xg_Fixed ?xh_Fixed ?n_Harms ?q_Harms ?xa_Harms ?xb_Harms ?xc_Harms ?xd_Harms ?xe_Harms ?xf_Harms ?xg_Harms ?xh_Harms ?n_NoRow ?q_NoRow ?xa_NoRow ?xb_NoRow ?xc_NoRow ?xd_NoRow ?xe_NoRow ?xf_NoRow ?xg_NoRow ?xh_NoRow ?m_NoNumber_SluiceError ?m_NotYours_SluiceError ?m_NoHolder_SluiceError ?m_NoLicence_SluiceError ?m_TooMuch_SluiceError ?m_NotAlone_SluiceError ?m_Full_SluiceError ?i_NoNumber_ValueError ?i_NotYours_ValueError ?i_NoHolder_ValueError ?i_NoLicence_ValueError ?i_TooMuch_ValueError ?i_NotAlone_ValueError ?i_Full_ValueError ?m_kall
    (case a0=>k_is)
    (case l0=>k_is)
    (case c0=>k_is)
    (case k0=>k_is)
    (case a1=>k_is)
    (case l1=>k_is)
    (case c1=>k_is)
    (case k1=>k_is)
    (case a2=>k_is)
    (case l2=>k_is)
    (case c2=>k_is)
    (case k2=>k_is)
    (case a3=>k_is)
    (case l3=>k_is)
    (case c3=>k_is)
    (case k3=>k_is)
    (case a4=>k_is)
    (case l4=>k_is)
    (case c4=>k_is)
    (case k4=>k_is)
    (case a5=>k_is)
    (case l5=>k_is)
    (case c5=>k_is)
    (case k5=>k_is)
    (case a6=>k_is)
    (case l6=>k_is)
    (case c6=>k_is)
    (case k6=>k_is)
    (case a7=>k_is)
    (case l7=>k_is)
    (case c7=>k_is)
    (case k7=>k_is)
    (case a8=>k_is)
    (case l8=>k_is)
    (case c8=>k_is)
    (case k8=>k_is)
    (case a9=>k_is)
    (case l9=>k_is)
    (case c9=>k_is)
    (case k9=>k_is)
    (case a10=>k_is)
    (case l10=>k_is)
    (case c10=>k_is)
    (case k10=>k_is)
    (case a11=>k_is)
    (case l11=>k_is)
    (case c11=>k_is)
    (case k11=>k_is)
    (case a12=>k_is)
    (case l12=>k_is)
    (case c12=>k_is)
    (case k12=>k_is)
    (case a13=>k_is)
    (case l13=>k_is)
    (case c13=>k_is)
    (case k13=>k_is)
    (case a14=>k_is)
    (case l14=>k_is)
    (case c14=>k_is)
    (case k14=>k_is)
    (case a15=>k_is)
    (case l15=>k_is)
    (case c15=>k_is)
    (case k15=>k_is)
    (case a16=>k_is)
    (case l16=>k_is)
    (case c16=>k_is)
    (case k16=>k_is)
    (case a17=>k_is)
    (case l17=>k_is)
    (case c17=>k_is)
    (case k17=>k_is)
    (case a18=>k_is)
    (case l18=>k_is)
    (case c18=>k_is)
    (case k18=>k_is)
    (case a19=>k_is)
    (case l19=>k_is)
    (case c19=>k_is)
    (case k19=>k_is)
    (case a20=>k_is)
    (case l20=>k_is)
    (case c20=>k_is)
    (case k20=>k_is)
    (case a21=>k_is)
    (case l21=>k_is)
    (case c21=>k_is)
    (case k21=>k_is)
    (case a22=>k_is)
    (case l22=>k_is)
    (case c22=>k_is)
    (case k22=>k_is)
    (case a23=>k_is)
    (case l23=>k_is)
    (case c23=>k_is)
    (case k23=>k_is)
    (case a24=>k_is)
    (case l24=>k_is)
    (case c24=>k_is)
    (case k24=>k_is)
    (case a25=>k_is)
    (case l25=>k_is)
    (case c25=>k_is)
    (case k25=>k_is)
    (case a26=>k_is)
    (case l26=>k_is)
    (case c26=>k_is)
    (case k26=>k_is)
    (case a27=>k_is)
    (case l27=>k_is)
    (case c27=>k_is)
    (case k27=>k_is)
    (case e0=>k_is)
    (case e1=>k_is)
    (case e2=>k_is)
    (case e3=>k_is)
    (case e4=>k_is)
    (case e5=>k_is)
    (case e6=>k_is)
    (case n_Roll=>k_is)
    (case ka_Roll=>(first | k_is | kernel_rfl | rfl))
    (case kb_Roll=>(first | k_is | kernel_rfl | rfl))
    (case kc_Roll=>(first | k_is | kernel_rfl | rfl))
    (case kd_Roll=>(first | k_is | kernel_rfl | rfl))
    (case ke_Roll=>(first | k_is | kernel_rfl | rfl))
    (case kf_Roll=>(first | k_is | kernel_rfl | rfl))
    (case kn_Roll_below=>(first | k_is | kernel_rfl | rfl))
    (case kn_Roll_day=>(first | k_is | kernel_rfl | rfl))
    (case kn_Roll_licences=>(first | k_is | kernel_rfl | rfl))
    (case kn_Roll_names=>(first | k_is | kernel_rfl | rfl))
    (case kn_Roll_done=>(first | k_is | kernel_rfl | rfl))
    (case ma_Roll___init__=>k_is)
    (case mf_Roll___init__=>(first | k_is | kernel_rfl | rfl))
    (case mk_Roll___init__=>k_is)
    (case ml_Roll___init__=>k_is)
    (case mc_Roll___init__=>k_is)
    (case ma_Roll_today=>k_is)
    (case mf_Roll_today=>(first | k_is | kernel_rfl | rfl))
    (case mk_Roll_today=>k_is)
    (case ml_Roll_today=>k_is)
    (case mc_Roll_today=>k_is)
    (case ma_Roll_roll=>k_is)
    (case mf_Roll_roll=>(first | k_is | kernel_rfl | rfl))
    (case mk_Roll_roll=>k_is)
    (case ml_Roll_roll=>k_is)
    (case mc_Roll_roll=>k_is)
    (case ma_Roll_holders=>k_is)
    (case mf_Roll_holders=>(first | k_is | kernel_rfl | rfl))
    (case mk_Roll_holders=>k_is)
    (case ml_Roll_holders=>k_is)
    (case mc_Roll_holders=>k_is)
    (case ma_Roll_deeds=>k_is)
    (case mf_Roll_deeds=>(first | k_is | kernel_rfl | rfl))
    (case mk_Roll_deeds=>k_is)
    (case ml_Roll_deeds=>k_is)
    (case mc_Roll_deeds=>k_is)
    (case ma_Roll_turn=>k_is)
    (case mf_Roll_turn=>(first | k_is | kernel_rfl | rfl))
    (case mk_Roll_turn=>k_is)
    (case ml_Roll_turn=>k_is)
    (case mc_Roll_turn=>k_is)
    (case ma_Roll_file=>k_is)
    (case mf_Roll_file=>(first | k_is | kernel_rfl | rfl))
    (case mk_Roll_file=>k_is)
    (case ml_Roll_file=>k_is)
    (case mc_Roll_file=>k_is)
    (case mt_Roll_file=>k_is)
    (case mu_Roll_file=>exact ⟨_,rfl⟩)
    (case ma_Roll_sell=>k_is)
    (case mf_Roll_sell=>(first | k_is | kernel_rfl | rfl))
    (case mk_Roll_sell=>k_is)
    (case ml_Roll_sell=>k_is)
    (case mc_Roll_sell=>k_is)
    (case ma_Roll_part=>k_is)
    (case mf_Roll_part=>(first | k_is | kernel_rfl | rfl))
    (case mk_Roll_part=>k_is)
    (case ml_Roll_part=>k_is)
    (case mc_Roll_part=>k_is)
    (case ma_Roll_drop=>k_is)
    (case mf_Roll_drop=>(first | k_is | kernel_rfl | rfl))
    (case mk_Roll_drop=>k_is)
    (case ml_Roll_drop=>k_is)
    (case mc_Roll_drop=>k_is)
    (case ma_Roll_move=>k_is)
    (case mf_Roll_move=>(first | k_is | kernel_rfl | rfl))
    (case mk_Roll_move=>k_is)
    (case ml_Roll_move=>k_is)
    (case mc_Roll_move=>k_is)
    (case ma_Roll_look_move=>k_is)
    (case mf_Roll_look_move=>(first | k_is | kernel_rfl | rfl))
    (case mk_Roll_look_move=>k_is)
    (case ml_Roll_look_move=>k_is)
    (case mc_Roll_look_move=>k_is)
    (case ma_Roll_lapse=>k_is)
    (case mf_Roll_lapse=>(first | k_is | kernel_rfl | rfl))
    (case mk_Roll_lapse=>k_is)
    (case ml_Roll_lapse=>k_is)
    (case mc_Roll_lapse=>k_is)
    (case ma_Roll_enter=>k_is)
    (case mf_Roll_enter=>(first | k_is | kernel_rfl | rfl))
    (case mk_Roll_enter=>k_is)
    (case ml_Roll_enter=>k_is)
    (case mc_Roll_enter=>k_is)
    (case ma_Roll_is_alone=>k_is)
    (case mf_Roll_is_alone=>(first | k_is | kernel_rfl | rfl))
    (case mk_Roll_is_alone=>k_is)
    (case ml_Roll_is_alone=>k_is)
    (case mc_Roll_is_alone=>k_is)
    (case ma_Roll_look_at_number=>k_is)
    (case mf_Roll_look_at_number=>(first | k_is | kernel_rfl | rfl))
    (case mk_Roll_look_at_number=>k_is)
    (case ml_Roll_look_at_number=>k_is)
    (case mc_Roll_look_at_number=>k_is)
    (case ma_Roll_look_at_holder=>k_is)
    (case mf_Roll_look_at_holder=>(first | k_is | kernel_rfl | rfl))
    (case mk_Roll_look_at_holder=>k_is)
    (case ml_Roll_look_at_holder=>k_is)
    (case mc_Roll_look_at_holder=>k_is)
    (case ma_Roll_look_at_room=>k_is)
    (case mf_Roll_look_at_room=>(first | k_is | kernel_rfl | rfl))
    (case mk_Roll_look_at_room=>k_is)
    (case ml_Roll_look_at_room=>k_is)
    (case mc_Roll_look_at_room=>k_is)
    (case z_len=>k_is)
    (case z_range=>k_is)
    (case z_list=>k_is)
    (case z_isinstance=>k_is)
    (case z_bool=>k_is)
    (case z_int=>k_is)
    (case z_all=>k_is)
    (case z_min=>k_is)
    (case z_max=>k_is)
    (case z_sum=>k_is)
    (case z_sorted=>k_is)
    (case z_zip=>k_is)
    (case z_tuple=>k_is)
    (case z_str=>k_is)
    (case z_any=>k_is)
    (case z_enumerate=>k_is)
    (case z_reversed=>k_is)
    (case z_abs=>k_is)
    (case z_ValueError=>k_is)
    (case z_set=>k_is)
    (case n_SluiceError=>k_is)
    (case q_SluiceError=>(first | k_is | kernel_rfl))
    (case xa_SluiceError=>(first | k_is | kernel_rfl))
    (case xb_SluiceError=>(first | k_is | kernel_rfl))
    (case xc_SluiceError=>(first | k_is | kernel_rfl))
    (case xd_SluiceError=>(first | k_is | kernel_rfl))
    (case xe_SluiceError=>(first | k_is | kernel_rfl))
    (case xf_SluiceError=>(first | k_is | kernel_rfl))
    (case xg_SluiceError=>(first | k_is | kernel_rfl))
    (case xh_SluiceError=>(first | k_is | kernel_rfl))
    (case n_NoNumber=>k_is)
    (case q_NoNumber=>(first | k_is | kernel_rfl))
    (case xa_NoNumber=>(first | k_is | kernel_rfl))
    (case xb_NoNumber=>(first | k_is | kernel_rfl))
    (case xc_NoNumber=>(first | k_is | kernel_rfl))
    (case xd_NoNumber=>(first | k_is | kernel_rfl))
    (case xe_NoNumber=>(first | k_is | kernel_rfl))
    (case xf_NoNumber=>(first | k_is | kernel_rfl))
    (case xg_NoNumber=>(first | k_is | kernel_rfl))
    (case xh_NoNumber=>(first | k_is | kernel_rfl))
    (case n_NotYours=>k_is)
    (case q_NotYours=>(first | k_is | kernel_rfl))
    (case xa_NotYours=>(first | k_is | kernel_rfl))
    (case xb_NotYours=>(first | k_is | kernel_rfl))
    (case xc_NotYours=>(first | k_is | kernel_rfl))
    (case xd_NotYours=>(first | k_is | kernel_rfl))
    (case xe_NotYours=>(first | k_is | kernel_rfl))
    (case xf_NotYours=>(first | k_is | kernel_rfl))
    (case xg_NotYours=>(first | k_is | kernel_rfl))
    (case xh_NotYours=>(first | k_is | kernel_rfl))
    (case n_NoHolder=>k_is)
    (case q_NoHolder=>(first | k_is | kernel_rfl))
    (case xa_NoHolder=>(first | k_is | kernel_rfl))
    (case xb_NoHolder=>(first | k_is | kernel_rfl))
    (case xc_NoHolder=>(first | k_is | kernel_rfl))
    (case xd_NoHolder=>(first | k_is | kernel_rfl))
    (case xe_NoHolder=>(first | k_is | kernel_rfl))
    (case xf_NoHolder=>(first | k_is | kernel_rfl))
    (case xg_NoHolder=>(first | k_is | kernel_rfl))
    (case xh_NoHolder=>(first | k_is | kernel_rfl))
    (case n_NoLicence=>k_is)
    (case q_NoLicence=>(first | k_is | kernel_rfl))
    (case xa_NoLicence=>(first | k_is | kernel_rfl))
    (case xb_NoLicence=>(first | k_is | kernel_rfl))
    (case xc_NoLicence=>(first | k_is | kernel_rfl))
    (case xd_NoLicence=>(first | k_is | kernel_rfl))
    (case xe_NoLicence=>(first | k_is | kernel_rfl))
    (case xf_NoLicence=>(first | k_is | kernel_rfl))
    (case xg_NoLicence=>(first | k_is | kernel_rfl))
    (case xh_NoLicence=>(first | k_is | kernel_rfl))
    (case n_TooMuch=>k_is)
    (case q_TooMuch=>(first | k_is | kernel_rfl))
    (case xa_TooMuch=>(first | k_is | kernel_rfl))
    (case xb_TooMuch=>(first | k_is | kernel_rfl))
    (case xc_TooMuch=>(first | k_is | kernel_rfl))
    (case xd_TooMuch=>(first | k_is | kernel_rfl))
    (case xe_TooMuch=>(first | k_is | kernel_rfl))
    (case xf_TooMuch=>(first | k_is | kernel_rfl))
    (case xg_TooMuch=>(first | k_is | kernel_rfl))
    (case xh_TooMuch=>(first | k_is | kernel_rfl))
    (case n_NotAlone=>k_is)
    (case q_NotAlone=>(first | k_is | kernel_rfl))
    (case xa_NotAlone=>(first | k_is | kernel_rfl))
    (case xb_NotAlone=>(first | k_is | kernel_rfl))
    (case xc_NotAlone=>(first | k_is | kernel_rfl))
    (case xd_NotAlone=>(first | k_is | kernel_rfl))
    (case xe_NotAlone=>(first | k_is | kernel_rfl))
    (case xf_NotAlone=>(first | k_is | kernel_rfl))
    (case xg_NotAlone=>(first | k_is | kernel_rfl))
    (case xh_NotAlone=>(first | k_is | kernel_rfl))
    (case n_Full=>k_is)
    (case q_Full=>(first | k_is | kernel_rfl))
    (case xa_Full=>(first | k_is | kernel_rfl))
    (case xb_Full=>(first | k_is | kernel_rfl))
    (case xc_Full=>(first | k_is | kernel_rfl))
    (case xd_Full=>(first | k_is | kernel_rfl))
    (case xe_Full=>(first | k_is | kernel_rfl))
    (case xf_Full=>(first | k_is | kernel_rfl))
    (case xg_Full=>(first | k_is | kernel_rfl))
    (case xh_Full=>(first | k_is | kernel_rfl))
    (case n_NoRiver=>k_is)
    (case q_NoRiver=>(first | k_is | kernel_rfl))
    (case xa_NoRiver=>(first | k_is | kernel_rfl))
    (case xb_NoRiver=>(first | k_is | kernel_rfl))
    (case xc_NoRiver=>(first | k_is | kernel_rfl))
    (case xd_NoRiver=>(first | k_is | kernel_rfl))
    (case xe_NoRiver=>(first | k_is | kernel_rfl))
    (case xf_NoRiver=>(first | k_is | kernel_rfl))
    (case xg_NoRiver=>(first | k_is | kernel_rfl))
    (case xh_NoRiver=>(first | k_is | kernel_rfl))
    (case n_NoReach=>k_is)
    (case q_NoReach=>(first | k_is | kernel_rfl))
    (case xa_NoReach=>(first | k_is | kernel_rfl))
    (case xb_NoReach=>(first | k_is | kernel_rfl))
    (case xc_NoReach=>(first | k_is | kernel_rfl))
    (case xd_NoReach=>(first | k_is | kernel_rfl))
    (case xe_NoReach=>(first | k_is | kernel_rfl))
    (case xf_NoReach=>(first | k_is | kernel_rfl))
    (case xg_NoReach=>(first | k_is | kernel_rfl))
    (case xh_NoReach=>(first | k_is | kernel_rfl))
    (case n_NoPaper=>k_is)
    (case q_NoPaper=>(first | k_is | kernel_rfl))
    (case xa_NoPaper=>(first | k_is | kernel_rfl))
    (case xb_NoPaper=>(first | k_is | kernel_rfl))
    (case xc_NoPaper=>(first | k_is | kernel_rfl))
    (case xd_NoPaper=>(first | k_is | kernel_rfl))
    (case xe_NoPaper=>(first | k_is | kernel_rfl))
    (case xf_NoPaper=>(first | k_is | kernel_rfl))
    (case xg_NoPaper=>(first | k_is | kernel_rfl))
    (case xh_NoPaper=>(first | k_is | kernel_rfl))
    (case n_NoCut=>k_is)
    (case q_NoCut=>(first | k_is | kernel_rfl))
    (case xa_NoCut=>(first | k_is | kernel_rfl))
    (case xb_NoCut=>(first | k_is | kernel_rfl))
    (case xc_NoCut=>(first | k_is | kernel_rfl))
    (case xd_NoCut=>(first | k_is | kernel_rfl))
    (case xe_NoCut=>(first | k_is | kernel_rfl))
    (case xf_NoCut=>(first | k_is | kernel_rfl))
    (case xg_NoCut=>(first | k_is | kernel_rfl))
    (case xh_NoCut=>(first | k_is | kernel_rfl))
    (case n_NoPond=>k_is)
    (case q_NoPond=>(first | k_is | kernel_rfl))
    (case xa_NoPond=>(first | k_is | kernel_rfl))
    (case xb_NoPond=>(first | k_is | kernel_rfl))
    (case xc_NoPond=>(first | k_is | kernel_rfl))
    (case xd_NoPond=>(first | k_is | kernel_rfl))
    (case xe_NoPond=>(first | k_is | kernel_rfl))
    (case xf_NoPond=>(first | k_is | kernel_rfl))
    (case xg_NoPond=>(first | k_is | kernel_rfl))
    (case xh_NoPond=>(first | k_is | kernel_rfl))
    (case n_NoDay=>k_is)
    (case q_NoDay=>(first | k_is | kernel_rfl))
    (case xa_NoDay=>(first | k_is | kernel_rfl))
    (case xb_NoDay=>(first | k_is | kernel_rfl))
    (case xc_NoDay=>(first | k_is | kernel_rfl))
    (case xd_NoDay=>(first | k_is | kernel_rfl))
    (case xe_NoDay=>(first | k_is | kernel_rfl))
    (case xf_NoDay=>(first | k_is | kernel_rfl))
    (case xg_NoDay=>(first | k_is | kernel_rfl))
    (case xh_NoDay=>(first | k_is | kernel_rfl))
    (case n_Fixed=>k_is)
    (case q_Fixed=>(first | k_is | kernel_rfl))
    (case xa_Fixed=>(first | k_is | kernel_rfl))
    (case xb_Fixed=>(first | k_is | kernel_rfl))
    (case xc_Fixed=>(first | k_is | kernel_rfl))
    (case xd_Fixed=>(first | k_is | kernel_rfl))
    (case xe_Fixed=>(first | k_is | kernel_rfl))
    (case xf_Fixed=>(first | k_is | kernel_rfl))
    (case xg_Fixed=>(first | k_is | kernel_rfl))
    (case xh_Fixed=>(first | k_is | kernel_rfl))
    (case n_Harms=>k_is)
    (case q_Harms=>(first | k_is | kernel_rfl))
    (case xa_Harms=>(first | k_is | kernel_rfl))
    (case xb_Harms=>(first | k_is | kernel_rfl))
    (case xc_Harms=>(first | k_is | kernel_rfl))
    (case xd_Harms=>(first | k_is | kernel_rfl))
    (case xe_Harms=>(first | k_is | kernel_rfl))
    (case xf_Harms=>(first | k_is | kernel_rfl))
    (case xg_Harms=>(first | k_is | kernel_rfl))
    (case xh_Harms=>(first | k_is | kernel_rfl))
    (case n_NoRow=>k_is)
    (case q_NoRow=>(first | k_is | kernel_rfl))
    (case xa_NoRow=>(first | k_is | kernel_rfl))
    (case xb_NoRow=>(first | k_is | kernel_rfl))
    (case xc_NoRow=>(first | k_is | kernel_rfl))
    (case xd_NoRow=>(first | k_is | kernel_rfl))
    (case xe_NoRow=>(first | k_is | kernel_rfl))
    (case xf_NoRow=>(first | k_is | kernel_rfl))
    (case xg_NoRow=>(first | k_is | kernel_rfl))
    (case xh_NoRow=>(first | k_is | kernel_rfl))
    (case m_NoNumber_SluiceError=>(first | k_is | kernel_rfl))
    (case m_NotYours_SluiceError=>(first | k_is | kernel_rfl))
    (case m_NoHolder_SluiceError=>(first | k_is | kernel_rfl))
    (case m_NoLicence_SluiceError=>(first | k_is | kernel_rfl))
    (case m_TooMuch_SluiceError=>(first | k_is | kernel_rfl))
    (case m_NotAlone_SluiceError=>(first | k_is | kernel_rfl))
    (case m_Full_SluiceError=>(first | k_is | kernel_rfl))
    (case i_NoNumber_ValueError=>(first | k_is | kernel_rfl))
    (case i_NotYours_ValueError=>(first | k_is | kernel_rfl))
    (case i_NoHolder_ValueError=>(first | k_is | kernel_rfl))
    (case i_NoLicence_ValueError=>(first | k_is | kernel_rfl))
    (case i_TooMuch_ValueError=>(first | k_is | kernel_rfl))
    (case i_NotAlone_ValueError=>(first | k_is | kernel_rfl))
    (case i_Full_ValueError=>(first | k_is | kernel_rfl))
    (case m_kall=>(first | k_is | kernel_rfl))
