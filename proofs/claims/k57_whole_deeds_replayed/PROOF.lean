import PyProof.Rows.All
import Wide.All
import OpenK.AllK
import Wide.FinOn
import Lean
import PyProof.EqAt
import PyProof.EqKinds
import PyProof.TupleCall
import KE.KSortTup
import PySem.Challenge.RW_sluice_k57_whole_deeds_replayed
set_option Elab.async false
set_option linter.all false
set_option maxRecDepth 100000
set_option maxHeartbeats 4000000
local macro_rules | `(tactic| omega) => `(tactic| first | lia | omega (splitDisjunctions := true))
namespace L2
open PySem
def inClass (s:Stmt) (j:Nat):Stmt:=match s with
  | .ClassDef _ _ _ body _ _ _ _ _ _ _=>body.getD j (.Pass ⟨0,0,0,0⟩)
  | _=>.Pass ⟨0,0,0,0⟩
def aC (s:Stmt):Arguments:=match s with
  | .FunctionDef _ a _ _ _ _ _ _ _ _=>a
  | _=>{ posonlyargs:=[],args:=[],vararg:=none,kwonlyargs:=[],kw_defaults:=[],kwarg:=none,defaults:=[] }
def aB (s:Stmt):List Stmt:=match s with
  | .FunctionDef _ _ b _ _ _ _ _ _ _=>b
  | _=>[]
def ak (s:Stmt):Scope:=match s with
  | .FunctionDef _ _ _ _ _ _ sc _ _ _=>sc
  | _=>{ kind:=.function,names:=[],isGenerator:=false,isCoroutine:=false }
end L2
namespace My
open PySem L2
noncomputable def top0 (i:Nat):Stmt:=PySem.Challenge.pw_sluice_k57_whole_deeds_replayed.main.body.getD i (.Pass ⟨0,0,0,0⟩)
noncomputable def en (P:Params) (x:Str) (t:Tok) (v:Value):DictEntry:=⟨PyData.keyHash P x,.str x t,v⟩
noncomputable section
def tq (a:Array Value):Obj:={ cls:=.type "tuple",data:=.seq a }
def fc (a:Array Value):Obj:={ cls:=.type "code",data:=.fields a }
def cp (n:Nat):Value:=.str "/claim/cut.py" n
def pr0 (x:Str) (i:Nat):Obj:={ cls:=.none,data:=.func { name:=x,qualname:=x,params:=aC (top0 i),body:=.stmts (aB (top0 i)),scope:=ak (top0 i),globals:=0,closure:=[],defaults:=.none,kwdefaults:=.none } }
def Vv (P:Params):Obj:={ cls:=.type "dict",data:=Data.dict #[en P "__name__" 1 (.str "builtins" 160),en P "__doc__" 2 (.builtin "builtins.__doc__:str#opaque"),en P "__package__" 3 (.builtin "builtins.__package__:str#opaque"),en P "__loader__" 4 (.builtin "builtins.__loader__:shared#opaque"),en P "__spec__" 5 (.builtin "builtins.__spec__#opaque"),en P "__build_class__" 6 (.builtin "__build_class__"),en P "__import__" 7 (.builtin "__import__"),en P "abs" 8 (.builtin "abs"),en P "all" 9 (.builtin "all"),en P "any" 10 (.builtin "any"),en P "ascii" 11 (.builtin "ascii"),en P "bin" 12 (.builtin "bin"),en P "breakpoint" 13 (.builtin "breakpoint"),en P "callable" 14 (.builtin "callable"),en P "chr" 15 (.builtin "chr"),en P "compile" 16 (.builtin "compile"),en P "delattr" 17 (.builtin "delattr"),en P "dir" 18 (.builtin "dir"),en P "divmod" 19 (.builtin "divmod"),en P "eval" 20 (.builtin "eval"),en P "exec" 21 (.builtin "exec"),en P "format" 22 (.builtin "format"),en P "getattr" 23 (.builtin "getattr"),en P "globals" 24 (.builtin "globals"),en P "hasattr" 25 (.builtin "hasattr"),en P "hash" 26 (.builtin "hash"),en P "hex" 27 (.builtin "hex"),en P "id" 28 (.builtin "id"),en P "input" 29 (.builtin "input"),en P "isinstance" 30 (.builtin "isinstance"),en P "issubclass" 31 (.builtin "issubclass"),en P "iter" 32 (.builtin "iter"),en P "aiter" 33 (.builtin "aiter"),en P "len" 34 (.builtin "len"),en P "locals" 35 (.builtin "locals"),en P "max" 36 (.builtin "max"),en P "min" 37 (.builtin "min"),en P "next" 38 (.builtin "next"),en P "anext" 39 (.builtin "anext"),en P "oct" 40 (.builtin "oct"),en P "ord" 41 (.builtin "ord"),en P "pow" 42 (.builtin "pow"),en P "print" 43 (.builtin "print"),en P "repr" 44 (.builtin "repr"),en P "round" 45 (.builtin "round"),en P "setattr" 46 (.builtin "setattr"),en P "sorted" 47 (.builtin "sorted"),en P "sum" 48 (.builtin "sum"),en P "vars" 49 (.builtin "vars"),en P "None" 50 .none,en P "Ellipsis" 51 .ellipsis,en P "NotImplemented" 52 .notImplemented,en P "False" 53 (.bool false),en P "True" 54 (.bool true),en P "bool" 55 (.type "bool"),en P "memoryview" 56 (.type "memoryview"),en P "bytearray" 57 (.type "bytearray"),en P "bytes" 58 (.type "bytes"),en P "classmethod" 59 (.type "classmethod"),en P "complex" 60 (.type "complex"),en P "dict" 61 (.type "dict"),en P "enumerate" 62 (.type "enumerate"),en P "filter" 63 (.type "filter"),en P "float" 64 (.type "float"),en P "frozenset" 65 (.type "frozenset"),en P "property" 66 (.type "property"),en P "int" 67 (.type "int"),en P "list" 68 (.type "list"),en P "map" 69 (.type "map"),en P "object" 70 (.type "object"),en P "range" 71 (.type "range"),en P "reversed" 72 (.type "reversed"),en P "set" 73 (.type "set"),en P "slice" 74 (.type "slice"),en P "staticmethod" 75 (.type "staticmethod"),en P "str" 76 (.type "str"),en P "super" 77 (.type "super"),en P "tuple" 78 (.type "tuple"),en P "type" 79 (.type "type"),en P "zip" 80 (.type "zip"),en P "__debug__" 81 (.bool true),en P "BaseException" 82 (.type "BaseException"),en P "BaseExceptionGroup" 83 (.type "BaseExceptionGroup"),en P "Exception" 84 (.type "Exception"),en P "GeneratorExit" 85 (.type "GeneratorExit"),en P "KeyboardInterrupt" 86 (.type "KeyboardInterrupt"),en P "SystemExit" 87 (.type "SystemExit"),en P "ArithmeticError" 88 (.type "ArithmeticError"),en P "AssertionError" 89 (.type "AssertionError"),en P "AttributeError" 90 (.type "AttributeError"),en P "BufferError" 91 (.type "BufferError"),en P "EOFError" 92 (.type "EOFError"),en P "ImportError" 93 (.type "ImportError"),en P "LookupError" 94 (.type "LookupError"),en P "MemoryError" 95 (.type "MemoryError"),en P "NameError" 96 (.type "NameError"),en P "OSError" 97 (.type "OSError"),en P "ReferenceError" 98 (.type "ReferenceError"),en P "RuntimeError" 99 (.type "RuntimeError"),en P "StopAsyncIteration" 100 (.type "StopAsyncIteration"),en P "StopIteration" 101 (.type "StopIteration"),en P "SyntaxError" 102 (.type "SyntaxError"),en P "SystemError" 103 (.type "SystemError"),en P "TypeError" 104 (.type "TypeError"),en P "ValueError" 105 (.type "ValueError"),en P "Warning" 106 (.type "Warning"),en P "FloatingPointError" 107 (.type "FloatingPointError"),en P "OverflowError" 108 (.type "OverflowError"),en P "ZeroDivisionError" 109 (.type "ZeroDivisionError"),en P "BytesWarning" 110 (.type "BytesWarning"),en P "DeprecationWarning" 111 (.type "DeprecationWarning"),en P "EncodingWarning" 112 (.type "EncodingWarning"),en P "FutureWarning" 113 (.type "FutureWarning"),en P "ImportWarning" 114 (.type "ImportWarning"),en P "PendingDeprecationWarning" 115 (.type "PendingDeprecationWarning"),en P "ResourceWarning" 116 (.type "ResourceWarning"),en P "RuntimeWarning" 117 (.type "RuntimeWarning"),en P "SyntaxWarning" 118 (.type "SyntaxWarning"),en P "UnicodeWarning" 119 (.type "UnicodeWarning"),en P "UserWarning" 120 (.type "UserWarning"),en P "BlockingIOError" 121 (.type "BlockingIOError"),en P "ChildProcessError" 122 (.type "ChildProcessError"),en P "ConnectionError" 123 (.type "ConnectionError"),en P "FileExistsError" 124 (.type "FileExistsError"),en P "FileNotFoundError" 125 (.type "FileNotFoundError"),en P "InterruptedError" 126 (.type "InterruptedError"),en P "IsADirectoryError" 127 (.type "IsADirectoryError"),en P "NotADirectoryError" 128 (.type "NotADirectoryError"),en P "PermissionError" 129 (.type "PermissionError"),en P "ProcessLookupError" 130 (.type "ProcessLookupError"),en P "TimeoutError" 131 (.type "TimeoutError"),en P "IndentationError" 132 (.type "IndentationError"),en P "_IncompleteInputError" 133 (.type "_IncompleteInputError"),en P "IndexError" 134 (.type "IndexError"),en P "KeyError" 135 (.type "KeyError"),en P "ModuleNotFoundError" 136 (.type "ModuleNotFoundError"),en P "NotImplementedError" 137 (.type "NotImplementedError"),en P "PythonFinalizationError" 138 (.type "PythonFinalizationError"),en P "RecursionError" 139 (.type "RecursionError"),en P "UnboundLocalError" 140 (.type "UnboundLocalError"),en P "UnicodeError" 141 (.type "UnicodeError"),en P "BrokenPipeError" 142 (.type "BrokenPipeError"),en P "ConnectionAbortedError" 143 (.type "ConnectionAbortedError"),en P "ConnectionRefusedError" 144 (.type "ConnectionRefusedError"),en P "ConnectionResetError" 145 (.type "ConnectionResetError"),en P "TabError" 146 (.type "TabError"),en P "UnicodeDecodeError" 147 (.type "UnicodeDecodeError"),en P "UnicodeEncodeError" 148 (.type "UnicodeEncodeError"),en P "UnicodeTranslateError" 149 (.type "UnicodeTranslateError"),en P "ExceptionGroup" 150 (.type "ExceptionGroup"),en P "EnvironmentError" 151 (.type "OSError"),en P "IOError" 152 (.type "OSError"),en P "open" 153 (.builtin "open"),en P "quit" 154 (.builtin "builtins.quit#opaque"),en P "exit" 155 (.builtin "builtins.exit#opaque"),en P "copyright" 156 (.builtin "builtins.copyright#opaque"),en P "credits" 157 (.builtin "builtins.credits#opaque"),en P "license" 158 (.builtin "builtins.license#opaque"),en P "help" 159 (.builtin "builtins.help#opaque")] 159 }
def Vu (P:Params):Obj:={ cls:=.type "dict",data:=Data.dict #[en P "builtins" 162 (.ref 4),en P "__main__" 163 (.ref 5)] 2 }
def UJ (P:Params):Obj:={ cls:=.none,data:=Data.dict #[] }
def ho_4 (P:Params):Obj:={ cls:=.type "dict",data:=Data.dict #[en P "__name__" 165 (.str "__main__" 164),en P "__doc__" 166 .none,en P "__package__" 167 .none,en P "__loader__" 168 (.builtin "__main__.__loader__#opaque"),en P "__spec__" 169 .none,en P "__annotations__" 170 (.ref 6),en P "__builtins__" 171 (.ref 4),en P "__file__" 173 (cp 172),en P "__cached__" 174 .none] 9 }
def Vt (P:Params):Obj:={ cls:=.type "module",dict:=some 0 }
def Vs (P:Params):Obj:={ cls:=.type "module",dict:=some 3 }
def Vr (P:Params):Obj:={ cls:=.type "dict",data:=Data.dict #[] }
def Vq (P:Params):Obj:=(tq #[])
def Vp (P:Params):Obj:={ cls:=.none,data:=Data.fields #[] }
def RJ (P:Params):Obj:=(fc #[.str "<module>" 176,.str "<module>" 177,cp 178,.int 1 0,.int 0 0,.int 0 0,.int 0 0,.int 0 0,.ref 7,.bool false,.int 175 0,.ref 8,.none,.none,.none,.none,.int 179 0,.int 1 0,cp 180])
def Rt (P:Params):Obj:={ cls:=.type "frame",slots:=#[some (.ref 9),some (.ref 3),some (.ref 3),none,some (.str "__main__" 164),none,some (.ref 0)] }
def Rc (P:Params):Obj:={ cls:=.type "dict",data:=Data.dict #[en P "__name__" 165 (.str "law_sluice_k57_whole_deeds_replayed" 643),en P "__doc__" 166 .none,en P "__package__" 167 .none,en P "__loader__" 168 (.builtin "__main__.__loader__#opaque"),en P "__spec__" 169 .none,en P "__annotations__" 170 (.ref 6),en P "__builtins__" 171 (.ref 4),en P "__file__" 173 (cp 172),en P "__cached__" 174 .none,en P "MOST_WATER" 190 (.int 1000000000000 189),en P "LONGEST_NAME" 192 (.int 8 191),en P "LETTERS" 194 (.str "abcdefghijklmnopqrstuvwxyz" 193),en P "is_water" 201 (.ref 21),en P "is_name" 207 (.ref 26),en P "SluiceError" 227 (.ref 36),en P "NoRiver" 243 (.ref 49),en P "NoLicence" 259 (.ref 61),en P "NoNumber" 275 (.ref 73),en P "NoHolder" 291 (.ref 85),en P "NotYours" 307 (.ref 97),en P "NotAlone" 323 (.ref 109),en P "TooMuch" 339 (.ref 121),en P "Full" 355 (.ref 133),en P "MOST_REACHES" 359 (.int 40 358),en P "MOUTH" 362 (.int (-1) 361),en P "comes_to_mouth" 372 (.ref 142),en P "is_river" 378 (.ref 147),en P "way_of" 387 (.ref 154),en P "LAST_DAY" 391 (.int 1000000 390),en P "is_licence" 403 (.ref 161),en P "day_filed" 410 (.ref 168),en P "most_of" 417 (.ref 175),en P "with_start" 425 (.ref 182),en P "with_most" 433 (.ref 189),en P "MOST_LICENCES" 437 (.int 60 436),en P "look_at_name" 444 (.ref 196),en P "Roll" 621 (.ref 329),en P "do_anew" 632 (.ref 340),en P "replayed" 642 (.ref 347),en P "_law_cell_at" 652 (.ref 354),en P "_law_whole" 659 (.ref 361),en P "_law_draw" 668 (.ref 368),en P "_law_draws" 674 (.ref 373),en P "_law_river" 680 (.ref 378),en P "_law_amount" 689 (.ref 385),en P "_law_name" 696 (.ref 392),en P "_law_deed" 702 (.ref 397),en P "_law_do" 711 (.ref 404),en P "_law_done" 721 (.ref 411),en P "_law_stand" 728 (.ref 418),en P "_law_plain" 734 (.ref 423),en P "_law_step" 746 (.ref 430),en P "_law_followed" 757 (.ref 437),en P "_law_refused" 767 (.ref 444),en P "law" 783 (.ref 451)] 55 }
def U7 (P:Params):Obj:=(tq #[])
def U6 (P:Params):Obj:={ cls:=.none,data:=Data.fields #[.int 5 0,.int 0 0,.ref 20,.int 7 0,.int 0 0,.ref 25,.int 10 0,.int 0 0,.ref 32,.int 12 0,.int 0 0,.ref 45,.int 14 0,.int 0 0,.ref 57,.int 16 0,.int 0 0,.ref 69,.int 18 0,.int 0 0,.ref 81,.int 20 0,.int 0 0,.ref 93,.int 22 0,.int 0 0,.ref 105,.int 24 0,.int 0 0,.ref 117,.int 26 0,.int 0 0,.ref 129,.int 31 0,.int 0 0,.ref 141,.int 38 0,.int 0 0,.ref 146,.int 44 0,.int 0 0,.ref 153,.int 51 0,.int 0 0,.ref 160,.int 56 0,.int 0 0,.ref 167,.int 58 0,.int 0 0,.ref 174,.int 60 0,.int 0 0,.ref 181,.int 62 0,.int 0 0,.ref 188,.int 66 0,.int 0 0,.ref 195,.int 69 0,.int 0 0,.ref 202,.int 179 0,.int 0 0,.ref 339,.int 195 0,.int 0 0,.ref 346,.int 201 0,.int 0 0,.ref 353,.int 205 0,.int 0 0,.ref 360,.int 207 0,.int 0 0,.ref 367,.int 210 0,.int 0 0,.ref 372,.int 212 0,.int 0 0,.ref 377,.int 221 0,.int 0 0,.ref 384,.int 226 0,.int 0 0,.ref 391,.int 228 0,.int 0 0,.ref 396,.int 250 0,.int 0 0,.ref 403,.int 267 0,.int 0 0,.ref 410,.int 274 0,.int 0 0,.ref 417,.int 276 0,.int 0 0,.ref 422,.int 288 0,.int 0 0,.ref 429,.int 308 0,.int 0 0,.ref 436,.int 317 0,.int 0 0,.ref 443,.int 324 0,.int 0 0,.ref 450] }
def U5 (P:Params):Obj:=(fc #[.str "<module>" 182,.str "<module>" 183,cp 184,.int 1 0,.int 0 0,.int 0 0,.int 0 0,.int 0 0,.ref 11,.bool false,.int 181 0,.ref 12,.none,.none,.none,.none,.int 185 0,.int 1 0,cp 186])
def U4 (P:Params):Obj:={ cls:=.type "frame",slots:=#[some (.ref 13),some (.ref 3),some (.ref 3),none,some (.str "__main__" 164),none,some (.ref 0)] }
def QH (P:Params):Obj:=(tq #[])
def U3 (P:Params):Obj:={ cls:=.none,data:=Data.fields #[] }
def Qy (P:Params):Obj:=(tq #[.str "amount" 198])
def Qo (P:Params):Obj:=(tq #[])
def U0 (P:Params):Obj:=(pr0 "is_water" 4)
def Qh (P:Params):Obj:=(fc #[.str "is_water" 195,.str "is_water" 196,cp 197,.int 5 0,.int 1 0,.int 0 0,.int 0 0,.int 3 0,.ref 15,.bool true,.int 181 0,.ref 16,.none,.ref 17,.ref 18,.ref 19,.int 199 0,.int 5 0,cp 200])
def Qd (P:Params):Obj:=⟨.type "function",none,.func (PySem.W.fnOf "is_water" "is_water" (aC (top0 4)) (aB (top0 4)) (ak (top0 4)) .none .none .none (.str "sluice.bounds" 187) none (.ref 20) .none),#[]⟩
def P0 (P:Params):Obj:=(tq #[])
def UW (P:Params):Obj:={ cls:=.none,data:=Data.fields #[] }
def UL (P:Params):Obj:=(pr0 "is_name" 5)
def Pu (P:Params):Obj:=(fc #[.str "is_name" 202,.str "is_name" 203,cp 204,.int 7 0,.int 1 0,.int 0 0,.int 0 0,.int 3 0,.ref 22,.bool true,.int 181 0,.ref 23,.none,.none,.none,.ref 24,.int 205 0,.int 7 0,cp 206])
def Pk (P:Params):Obj:=⟨.type "function",none,.func (PySem.W.fnOf "is_name" "is_name" (aC (top0 5)) (aB (top0 5)) (ak (top0 5)) .none .none .none (.str "sluice.bounds" 187) none (.ref 25) .none),#[]⟩
def Pb (P:Params):Obj:=(tq #[.type "ValueError"])
def UG (P:Params):Obj:={ cls:=.type "builtin_function_or_method",data:=Data.fields #[.builtin "type.__prepare__",.type "type"] }
def Uz (P:Params):Obj:={ cls:=.type "dict",data:=Data.dict #[en P "__module__" 217 (.str "sluice.errors" 208),en P "__qualname__" 219 (.str "SluiceError" 218),en P "__firstlineno__" 221 (.int 10 220),en P "__static_attributes__" 222 (.ref 34)] 4 }
def Uy (P:Params):Obj:=(tq #[])
def Ux (P:Params):Obj:={ cls:=.none,data:=Data.fields #[] }
def Uw (P:Params):Obj:=(fc #[.str "SluiceError" 212,.str "SluiceError" 213,cp 214,.int 10 0,.int 0 0,.int 0 0,.int 0 0,.int 0 0,.ref 30,.bool false,.int 181 0,.ref 31,.none,.none,.none,.none,.int 215 0,.int 10 0,cp 216])
def Uv (P:Params):Obj:={ cls:=.type "frame",slots:=#[some (.ref 32),some (.ref 3),some (.ref 29),none,some (.str "sluice.errors" 208),none,some (.ref 0)] }
def Od (P:Params):Obj:=(tq #[])
def N7 (P:Params):Obj:={ cls:=.type "dict",data:=Data.dict #[en P "__module__" 217 (.str "sluice.errors" 208),en P "__firstlineno__" 221 (.int 10 220),en P "__static_attributes__" 222 (.ref 34),en P "__weakref__" 224 (.ref 37),en P "__doc__" 225 .none] 3 }
def NZ (P:Params):Obj:={ cls:=.type "type",data:=Data.cls { name:="SluiceError",bases:=[.type "ValueError"],mro:=[.ref 36,.type "ValueError",.type "Exception",.type "BaseException",.type "object"],ns:=35,qualname:="SluiceError",subclasses:=[.ref 49,.ref 61,.ref 73,.ref 85,.ref 97,.ref 109,.ref 121,.ref 133] },slots:=#[some (.ref 27),none,some (.str "SluiceError" 210),some (.str "SluiceError" 218),some (.builtin "ValueError.__new__"),some (.bool true)] }
def Nz (P:Params):Obj:={ cls:=.type "getset_descriptor",data:=Data.fields #[.str "__weakref__" 223,.ref 36,.builtin "ExceptionGroup.__weakref__",.none] }
def Uu (P:Params):Obj:={ cls:=.type "super",data:=Data.fields #[.ref 36,.ref 36,.ref 36] }
def Ut (P:Params):Obj:={ cls:=.type "builtin_function_or_method",data:=Data.fields #[.builtin "object.__init_subclass__",.ref 36] }
def Nk (P:Params):Obj:=(tq #[.ref 36])
def Us (P:Params):Obj:={ cls:=.type "builtin_function_or_method",data:=Data.fields #[.builtin "type.__prepare__",.type "type"] }
def Ur (P:Params):Obj:={ cls:=.type "dict",data:=Data.dict #[en P "__module__" 235 (.str "sluice.errors" 208),en P "__qualname__" 237 (.str "NoRiver" 236),en P "__firstlineno__" 239 (.int 12 238),en P "__static_attributes__" 240 (.ref 47)] 4 }
def Uq (P:Params):Obj:=(tq #[])
def Uo (P:Params):Obj:={ cls:=.none,data:=Data.fields #[] }
def Um (P:Params):Obj:=(fc #[.str "NoRiver" 230,.str "NoRiver" 231,cp 232,.int 12 0,.int 0 0,.int 0 0,.int 0 0,.int 0 0,.ref 43,.bool false,.int 181 0,.ref 44,.none,.none,.none,.none,.int 233 0,.int 12 0,cp 234])
def Ul (P:Params):Obj:={ cls:=.type "frame",slots:=#[some (.ref 45),some (.ref 3),some (.ref 42),none,some (.str "sluice.errors" 208),none,some (.ref 0)] }
def M8 (P:Params):Obj:=(tq #[])
def M7 (P:Params):Obj:={ cls:=.type "dict",data:=Data.dict #[en P "__module__" 235 (.str "sluice.errors" 208),en P "__firstlineno__" 239 (.int 12 238),en P "__static_attributes__" 240 (.ref 47),en P "__doc__" 241 .none] 2 }
def M6 (P:Params):Obj:={ cls:=.type "type",data:=Data.cls { name:="NoRiver",bases:=[.ref 36],mro:=[.ref 49,.ref 36,.type "ValueError",.type "Exception",.type "BaseException",.type "object"],ns:=48,qualname:="NoRiver" },slots:=#[some (.ref 40),none,some (.str "NoRiver" 228),some (.str "NoRiver" 236),some (.builtin "ValueError.__new__"),some (.bool true)] }
def Uk (P:Params):Obj:={ cls:=.type "super",data:=Data.fields #[.ref 49,.ref 49,.ref 49] }
def Uj (P:Params):Obj:={ cls:=.type "builtin_function_or_method",data:=Data.fields #[.builtin "object.__init_subclass__",.ref 49] }
def M5 (P:Params):Obj:=(tq #[.ref 36])
def Ui (P:Params):Obj:={ cls:=.type "builtin_function_or_method",data:=Data.fields #[.builtin "type.__prepare__",.type "type"] }
def Uh (P:Params):Obj:={ cls:=.type "dict",data:=Data.dict #[en P "__module__" 251 (.str "sluice.errors" 208),en P "__qualname__" 253 (.str "NoLicence" 252),en P "__firstlineno__" 255 (.int 14 254),en P "__static_attributes__" 256 (.ref 59)] 4 }
def Ug (P:Params):Obj:=(tq #[])
def Ue (P:Params):Obj:={ cls:=.none,data:=Data.fields #[] }
def Ud (P:Params):Obj:=(fc #[.str "NoLicence" 246,.str "NoLicence" 247,cp 248,.int 14 0,.int 0 0,.int 0 0,.int 0 0,.int 0 0,.ref 55,.bool false,.int 181 0,.ref 56,.none,.none,.none,.none,.int 249 0,.int 14 0,cp 250])
def Uc (P:Params):Obj:={ cls:=.type "frame",slots:=#[some (.ref 57),some (.ref 3),some (.ref 54),none,some (.str "sluice.errors" 208),none,some (.ref 0)] }
def M4 (P:Params):Obj:=(tq #[])
def MP (P:Params):Obj:={ cls:=.type "dict",data:=Data.dict #[en P "__module__" 251 (.str "sluice.errors" 208),en P "__firstlineno__" 255 (.int 14 254),en P "__static_attributes__" 256 (.ref 59),en P "__doc__" 257 .none] 2 }
def MN (P:Params):Obj:={ cls:=.type "type",data:=Data.cls { name:="NoLicence",bases:=[.ref 36],mro:=[.ref 61,.ref 36,.type "ValueError",.type "Exception",.type "BaseException",.type "object"],ns:=60,qualname:="NoLicence" },slots:=#[some (.ref 52),none,some (.str "NoLicence" 244),some (.str "NoLicence" 252),some (.builtin "ValueError.__new__"),some (.bool true)] }
def Ub (P:Params):Obj:={ cls:=.type "super",data:=Data.fields #[.ref 61,.ref 61,.ref 61] }
def Ua (P:Params):Obj:={ cls:=.type "builtin_function_or_method",data:=Data.fields #[.builtin "object.__init_subclass__",.ref 61] }
def MK (P:Params):Obj:=(tq #[.ref 36])
def T9 (P:Params):Obj:={ cls:=.type "builtin_function_or_method",data:=Data.fields #[.builtin "type.__prepare__",.type "type"] }
def T8 (P:Params):Obj:={ cls:=.type "dict",data:=Data.dict #[en P "__module__" 267 (.str "sluice.errors" 208),en P "__qualname__" 269 (.str "NoNumber" 268),en P "__firstlineno__" 271 (.int 16 270),en P "__static_attributes__" 272 (.ref 71)] 4 }
def T7 (P:Params):Obj:=(tq #[])
def T6 (P:Params):Obj:={ cls:=.none,data:=Data.fields #[] }
def T5 (P:Params):Obj:=(fc #[.str "NoNumber" 262,.str "NoNumber" 263,cp 264,.int 16 0,.int 0 0,.int 0 0,.int 0 0,.int 0 0,.ref 67,.bool false,.int 181 0,.ref 68,.none,.none,.none,.none,.int 265 0,.int 16 0,cp 266])
def T4 (P:Params):Obj:={ cls:=.type "frame",slots:=#[some (.ref 69),some (.ref 3),some (.ref 66),none,some (.str "sluice.errors" 208),none,some (.ref 0)] }
def MJ (P:Params):Obj:=(tq #[])
def MF (P:Params):Obj:={ cls:=.type "dict",data:=Data.dict #[en P "__module__" 267 (.str "sluice.errors" 208),en P "__firstlineno__" 271 (.int 16 270),en P "__static_attributes__" 272 (.ref 71),en P "__doc__" 273 .none] 2 }
def Mz (P:Params):Obj:={ cls:=.type "type",data:=Data.cls { name:="NoNumber",bases:=[.ref 36],mro:=[.ref 73,.ref 36,.type "ValueError",.type "Exception",.type "BaseException",.type "object"],ns:=72,qualname:="NoNumber" },slots:=#[some (.ref 64),none,some (.str "NoNumber" 260),some (.str "NoNumber" 268),some (.builtin "ValueError.__new__"),some (.bool true)] }
def T3 (P:Params):Obj:={ cls:=.type "super",data:=Data.fields #[.ref 73,.ref 73,.ref 73] }
def TY (P:Params):Obj:={ cls:=.type "builtin_function_or_method",data:=Data.fields #[.builtin "object.__init_subclass__",.ref 73] }
def Mx (P:Params):Obj:=(tq #[.ref 36])
def TV (P:Params):Obj:={ cls:=.type "builtin_function_or_method",data:=Data.fields #[.builtin "type.__prepare__",.type "type"] }
def TQ (P:Params):Obj:={ cls:=.type "dict",data:=Data.dict #[en P "__module__" 283 (.str "sluice.errors" 208),en P "__qualname__" 285 (.str "NoHolder" 284),en P "__firstlineno__" 287 (.int 18 286),en P "__static_attributes__" 288 (.ref 83)] 4 }
def TJ (P:Params):Obj:=(tq #[])
def TF (P:Params):Obj:={ cls:=.none,data:=Data.fields #[] }
def Tw (P:Params):Obj:=(fc #[.str "NoHolder" 278,.str "NoHolder" 279,cp 280,.int 18 0,.int 0 0,.int 0 0,.int 0 0,.int 0 0,.ref 79,.bool false,.int 181 0,.ref 80,.none,.none,.none,.none,.int 281 0,.int 18 0,cp 282])
def Tv (P:Params):Obj:={ cls:=.type "frame",slots:=#[some (.ref 81),some (.ref 3),some (.ref 78),none,some (.str "sluice.errors" 208),none,some (.ref 0)] }
def Mw (P:Params):Obj:=(tq #[])
def Mu (P:Params):Obj:={ cls:=.type "dict",data:=Data.dict #[en P "__module__" 283 (.str "sluice.errors" 208),en P "__firstlineno__" 287 (.int 18 286),en P "__static_attributes__" 288 (.ref 83),en P "__doc__" 289 .none] 2 }
def Mt (P:Params):Obj:={ cls:=.type "type",data:=Data.cls { name:="NoHolder",bases:=[.ref 36],mro:=[.ref 85,.ref 36,.type "ValueError",.type "Exception",.type "BaseException",.type "object"],ns:=84,qualname:="NoHolder" },slots:=#[some (.ref 76),none,some (.str "NoHolder" 276),some (.str "NoHolder" 284),some (.builtin "ValueError.__new__"),some (.bool true)] }
def Tt (P:Params):Obj:={ cls:=.type "super",data:=Data.fields #[.ref 85,.ref 85,.ref 85] }
def Tr (P:Params):Obj:={ cls:=.type "builtin_function_or_method",data:=Data.fields #[.builtin "object.__init_subclass__",.ref 85] }
def Ms (P:Params):Obj:=(tq #[.ref 36])
def Tq (P:Params):Obj:={ cls:=.type "builtin_function_or_method",data:=Data.fields #[.builtin "type.__prepare__",.type "type"] }
def Tp (P:Params):Obj:={ cls:=.type "dict",data:=Data.dict #[en P "__module__" 299 (.str "sluice.errors" 208),en P "__qualname__" 301 (.str "NotYours" 300),en P "__firstlineno__" 303 (.int 20 302),en P "__static_attributes__" 304 (.ref 95)] 4 }
def Tj (P:Params):Obj:=(tq #[])
def Ti (P:Params):Obj:={ cls:=.none,data:=Data.fields #[] }
def Tg (P:Params):Obj:=(fc #[.str "NotYours" 294,.str "NotYours" 295,cp 296,.int 20 0,.int 0 0,.int 0 0,.int 0 0,.int 0 0,.ref 91,.bool false,.int 181 0,.ref 92,.none,.none,.none,.none,.int 297 0,.int 20 0,cp 298])
def Tf (P:Params):Obj:={ cls:=.type "frame",slots:=#[some (.ref 93),some (.ref 3),some (.ref 90),none,some (.str "sluice.errors" 208),none,some (.ref 0)] }
def Mr (P:Params):Obj:=(tq #[])
def Mq (P:Params):Obj:={ cls:=.type "dict",data:=Data.dict #[en P "__module__" 299 (.str "sluice.errors" 208),en P "__firstlineno__" 303 (.int 20 302),en P "__static_attributes__" 304 (.ref 95),en P "__doc__" 305 .none] 2 }
def JF (P:Params):Obj:={ cls:=.type "type",data:=Data.cls { name:="NotYours",bases:=[.ref 36],mro:=[.ref 97,.ref 36,.type "ValueError",.type "Exception",.type "BaseException",.type "object"],ns:=96,qualname:="NotYours" },slots:=#[some (.ref 88),none,some (.str "NotYours" 292),some (.str "NotYours" 300),some (.builtin "ValueError.__new__"),some (.bool true)] }
def RG (P:Params):Obj:={ cls:=.type "super",data:=Data.fields #[.ref 97,.ref 97,.ref 97] }
def RD (P:Params):Obj:={ cls:=.type "builtin_function_or_method",data:=Data.fields #[.builtin "object.__init_subclass__",.ref 97] }
def JD (P:Params):Obj:=(tq #[.ref 36])
def RB (P:Params):Obj:={ cls:=.type "builtin_function_or_method",data:=Data.fields #[.builtin "type.__prepare__",.type "type"] }
def Rz (P:Params):Obj:={ cls:=.type "dict",data:=Data.dict #[en P "__module__" 315 (.str "sluice.errors" 208),en P "__qualname__" 317 (.str "NotAlone" 316),en P "__firstlineno__" 319 (.int 22 318),en P "__static_attributes__" 320 (.ref 107)] 4 }
def Ry (P:Params):Obj:=(tq #[])
def Rx (P:Params):Obj:={ cls:=.none,data:=Data.fields #[] }
def Rw (P:Params):Obj:=(fc #[.str "NotAlone" 310,.str "NotAlone" 311,cp 312,.int 22 0,.int 0 0,.int 0 0,.int 0 0,.int 0 0,.ref 103,.bool false,.int 181 0,.ref 104,.none,.none,.none,.none,.int 313 0,.int 22 0,cp 314])
def Ru (P:Params):Obj:={ cls:=.type "frame",slots:=#[some (.ref 105),some (.ref 3),some (.ref 102),none,some (.str "sluice.errors" 208),none,some (.ref 0)] }
def JC (P:Params):Obj:=(tq #[])
def JB (P:Params):Obj:={ cls:=.type "dict",data:=Data.dict #[en P "__module__" 315 (.str "sluice.errors" 208),en P "__firstlineno__" 319 (.int 22 318),en P "__static_attributes__" 320 (.ref 107),en P "__doc__" 321 .none] 2 }
def Jz (P:Params):Obj:={ cls:=.type "type",data:=Data.cls { name:="NotAlone",bases:=[.ref 36],mro:=[.ref 109,.ref 36,.type "ValueError",.type "Exception",.type "BaseException",.type "object"],ns:=108,qualname:="NotAlone" },slots:=#[some (.ref 100),none,some (.str "NotAlone" 308),some (.str "NotAlone" 316),some (.builtin "ValueError.__new__"),some (.bool true)] }
def Rr (P:Params):Obj:={ cls:=.type "super",data:=Data.fields #[.ref 109,.ref 109,.ref 109] }
def Rq (P:Params):Obj:={ cls:=.type "builtin_function_or_method",data:=Data.fields #[.builtin "object.__init_subclass__",.ref 109] }
def Jy (P:Params):Obj:=(tq #[.ref 36])
def Rp (P:Params):Obj:={ cls:=.type "builtin_function_or_method",data:=Data.fields #[.builtin "type.__prepare__",.type "type"] }
def Ro (P:Params):Obj:={ cls:=.type "dict",data:=Data.dict #[en P "__module__" 331 (.str "sluice.errors" 208),en P "__qualname__" 333 (.str "TooMuch" 332),en P "__firstlineno__" 335 (.int 24 334),en P "__static_attributes__" 336 (.ref 119)] 4 }
def Rn (P:Params):Obj:=(tq #[])
def Rm (P:Params):Obj:={ cls:=.none,data:=Data.fields #[] }
def Rk (P:Params):Obj:=(fc #[.str "TooMuch" 326,.str "TooMuch" 327,cp 328,.int 24 0,.int 0 0,.int 0 0,.int 0 0,.int 0 0,.ref 115,.bool false,.int 181 0,.ref 116,.none,.none,.none,.none,.int 329 0,.int 24 0,cp 330])
def Rj (P:Params):Obj:={ cls:=.type "frame",slots:=#[some (.ref 117),some (.ref 3),some (.ref 114),none,some (.str "sluice.errors" 208),none,some (.ref 0)] }
def Jx (P:Params):Obj:=(tq #[])
def Jw (P:Params):Obj:={ cls:=.type "dict",data:=Data.dict #[en P "__module__" 331 (.str "sluice.errors" 208),en P "__firstlineno__" 335 (.int 24 334),en P "__static_attributes__" 336 (.ref 119),en P "__doc__" 337 .none] 2 }
def Jv (P:Params):Obj:={ cls:=.type "type",data:=Data.cls { name:="TooMuch",bases:=[.ref 36],mro:=[.ref 121,.ref 36,.type "ValueError",.type "Exception",.type "BaseException",.type "object"],ns:=120,qualname:="TooMuch" },slots:=#[some (.ref 112),none,some (.str "TooMuch" 324),some (.str "TooMuch" 332),some (.builtin "ValueError.__new__"),some (.bool true)] }
def Ri (P:Params):Obj:={ cls:=.type "super",data:=Data.fields #[.ref 121,.ref 121,.ref 121] }
def Rh (P:Params):Obj:={ cls:=.type "builtin_function_or_method",data:=Data.fields #[.builtin "object.__init_subclass__",.ref 121] }
def Ju (P:Params):Obj:=(tq #[.ref 36])
def Rg (P:Params):Obj:={ cls:=.type "builtin_function_or_method",data:=Data.fields #[.builtin "type.__prepare__",.type "type"] }
def Rf (P:Params):Obj:={ cls:=.type "dict",data:=Data.dict #[en P "__module__" 347 (.str "sluice.errors" 208),en P "__qualname__" 349 (.str "Full" 348),en P "__firstlineno__" 351 (.int 26 350),en P "__static_attributes__" 352 (.ref 131)] 4 }
def Rb (P:Params):Obj:=(tq #[])
def Ra (P:Params):Obj:={ cls:=.none,data:=Data.fields #[] }
def Q9 (P:Params):Obj:=(fc #[.str "Full" 342,.str "Full" 343,cp 344,.int 26 0,.int 0 0,.int 0 0,.int 0 0,.int 0 0,.ref 127,.bool false,.int 181 0,.ref 128,.none,.none,.none,.none,.int 345 0,.int 26 0,cp 346])
def Q8 (P:Params):Obj:={ cls:=.type "frame",slots:=#[some (.ref 129),some (.ref 3),some (.ref 126),none,some (.str "sluice.errors" 208),none,some (.ref 0)] }
def Jt (P:Params):Obj:=(tq #[])
def Js (P:Params):Obj:={ cls:=.type "dict",data:=Data.dict #[en P "__module__" 347 (.str "sluice.errors" 208),en P "__firstlineno__" 351 (.int 26 350),en P "__static_attributes__" 352 (.ref 131),en P "__doc__" 353 .none] 2 }
def Jr (P:Params):Obj:={ cls:=.type "type",data:=Data.cls { name:="Full",bases:=[.ref 36],mro:=[.ref 133,.ref 36,.type "ValueError",.type "Exception",.type "BaseException",.type "object"],ns:=132,qualname:="Full" },slots:=#[some (.ref 124),none,some (.str "Full" 340),some (.str "Full" 348),some (.builtin "ValueError.__new__"),some (.bool true)] }
def Q7 (P:Params):Obj:={ cls:=.type "super",data:=Data.fields #[.ref 133,.ref 133,.ref 133] }
def Q6 (P:Params):Obj:={ cls:=.type "builtin_function_or_method",data:=Data.fields #[.builtin "object.__init_subclass__",.ref 133] }
def Jq (P:Params):Obj:=(tq #[])
def Q5 (P:Params):Obj:={ cls:=.none,data:=Data.fields #[] }
def Jp (P:Params):Obj:=(tq #[.str "below" 366,.str "start" 367,.str "reach" 368,.str "step" 369])
def Jo (P:Params):Obj:=(tq #[])
def Q0 (P:Params):Obj:=(pr0 "comes_to_mouth" 19)
def Jm (P:Params):Obj:=(fc #[.str "comes_to_mouth" 363,.str "comes_to_mouth" 364,cp 365,.int 31 0,.int 2 0,.int 0 0,.int 0 0,.int 3 0,.ref 136,.bool true,.int 181 0,.ref 137,.none,.ref 138,.ref 139,.ref 140,.int 370 0,.int 31 0,cp 371])
def Jl (P:Params):Obj:=⟨.type "function",none,.func (PySem.W.fnOf "comes_to_mouth" "comes_to_mouth" (aC (top0 19)) (aB (top0 19)) (ak (top0 19)) .none .none .none (.str "sluice.rivers" 356) none (.ref 141) .none),#[]⟩
def Jk (P:Params):Obj:=(tq #[])
def QZ (P:Params):Obj:={ cls:=.none,data:=Data.fields #[] }
def QX (P:Params):Obj:=(pr0 "is_river" 20)
def Jj (P:Params):Obj:=(fc #[.str "is_river" 373,.str "is_river" 374,cp 375,.int 38 0,.int 1 0,.int 0 0,.int 0 0,.int 3 0,.ref 143,.bool true,.int 181 0,.ref 144,.none,.none,.none,.ref 145,.int 376 0,.int 38 0,cp 377])
def Ji (P:Params):Obj:=⟨.type "function",none,.func (PySem.W.fnOf "is_river" "is_river" (aC (top0 20)) (aB (top0 20)) (ak (top0 20)) .none .none .none (.str "sluice.rivers" 356) none (.ref 146) .none),#[]⟩
def Jh (P:Params):Obj:=(tq #[])
def QW (P:Params):Obj:={ cls:=.none,data:=Data.fields #[] }
def Jg (P:Params):Obj:=(tq #[.str "below" 382,.str "reach" 383,.str "way" 384])
def Jf (P:Params):Obj:=(tq #[])
def QV (P:Params):Obj:=(pr0 "way_of" 21)
def Je (P:Params):Obj:=(fc #[.str "way_of" 379,.str "way_of" 380,cp 381,.int 44 0,.int 2 0,.int 0 0,.int 0 0,.int 3 0,.ref 148,.bool true,.int 181 0,.ref 149,.none,.ref 150,.ref 151,.ref 152,.int 385 0,.int 44 0,cp 386])
def Jd (P:Params):Obj:=⟨.type "function",none,.func (PySem.W.fnOf "way_of" "way_of" (aC (top0 21)) (aB (top0 21)) (ak (top0 21)) .none .none .none (.str "sluice.rivers" 356) none (.ref 153) .none),#[]⟩
def Jc (P:Params):Obj:=(tq #[])
def QT (P:Params):Obj:={ cls:=.none,data:=Data.fields #[] }
def Jb (P:Params):Obj:=(tq #[.str "below" 395,.str "one" 396,.str "day" 397,.str "start" 398,.str "back" 399,.str "most" 400])
def Ja (P:Params):Obj:=(tq #[])
def QS (P:Params):Obj:=(pr0 "is_licence" 24)
def IW (P:Params):Obj:=(fc #[.str "is_licence" 392,.str "is_licence" 393,cp 394,.int 51 0,.int 2 0,.int 0 0,.int 0 0,.int 3 0,.ref 155,.bool true,.int 181 0,.ref 156,.none,.ref 157,.ref 158,.ref 159,.int 401 0,.int 51 0,cp 402])
def IV (P:Params):Obj:=⟨.type "function",none,.func (PySem.W.fnOf "is_licence" "is_licence" (aC (top0 24)) (aB (top0 24)) (ak (top0 24)) .none .none .none (.str "sluice.licences" 388) none (.ref 160) .none),#[]⟩
def IK (P:Params):Obj:=(tq #[])
def QM (P:Params):Obj:={ cls:=.none,data:=Data.fields #[] }
def Iz (P:Params):Obj:=(tq #[.str "one" 407])
def Iw (P:Params):Obj:=(tq #[])
def QL (P:Params):Obj:=(pr0 "day_filed" 25)
def Iu (P:Params):Obj:=(fc #[.str "day_filed" 404,.str "day_filed" 405,cp 406,.int 56 0,.int 1 0,.int 0 0,.int 0 0,.int 3 0,.ref 162,.bool true,.int 181 0,.ref 163,.none,.ref 164,.ref 165,.ref 166,.int 408 0,.int 56 0,cp 409])
def Ir (P:Params):Obj:=⟨.type "function",none,.func (PySem.W.fnOf "day_filed" "day_filed" (aC (top0 25)) (aB (top0 25)) (ak (top0 25)) .none .none .none (.str "sluice.licences" 388) none (.ref 167) .none),#[]⟩
def Ip (P:Params):Obj:=(tq #[])
def QK (P:Params):Obj:={ cls:=.none,data:=Data.fields #[] }
def Io (P:Params):Obj:=(tq #[.str "one" 414])
def Im (P:Params):Obj:=(tq #[])
def QJ (P:Params):Obj:=(pr0 "most_of" 26)
def Il (P:Params):Obj:=(fc #[.str "most_of" 411,.str "most_of" 412,cp 413,.int 58 0,.int 1 0,.int 0 0,.int 0 0,.int 3 0,.ref 169,.bool true,.int 181 0,.ref 170,.none,.ref 171,.ref 172,.ref 173,.int 415 0,.int 58 0,cp 416])
def Ik (P:Params):Obj:=⟨.type "function",none,.func (PySem.W.fnOf "most_of" "most_of" (aC (top0 26)) (aB (top0 26)) (ak (top0 26)) .none .none .none (.str "sluice.licences" 388) none (.ref 174) .none),#[]⟩
def Ij (P:Params):Obj:=(tq #[])
def QG (P:Params):Obj:={ cls:=.none,data:=Data.fields #[] }
def Ii (P:Params):Obj:=(tq #[.str "one" 421,.str "start" 422])
def Ih (P:Params):Obj:=(tq #[])
def QF (P:Params):Obj:=(pr0 "with_start" 27)
def Ig (P:Params):Obj:=(fc #[.str "with_start" 418,.str "with_start" 419,cp 420,.int 60 0,.int 2 0,.int 0 0,.int 0 0,.int 3 0,.ref 176,.bool true,.int 181 0,.ref 177,.none,.ref 178,.ref 179,.ref 180,.int 423 0,.int 60 0,cp 424])
def Ie (P:Params):Obj:=⟨.type "function",none,.func (PySem.W.fnOf "with_start" "with_start" (aC (top0 27)) (aB (top0 27)) (ak (top0 27)) .none .none .none (.str "sluice.licences" 388) none (.ref 181) .none),#[]⟩
def Ib (P:Params):Obj:=(tq #[])
def QD (P:Params):Obj:={ cls:=.none,data:=Data.fields #[] }
def Ia (P:Params):Obj:=(tq #[.str "one" 429,.str "most" 430])
def HY (P:Params):Obj:=(tq #[])
def QC (P:Params):Obj:=(pr0 "with_most" 28)
def HX (P:Params):Obj:=(fc #[.str "with_most" 426,.str "with_most" 427,cp 428,.int 62 0,.int 2 0,.int 0 0,.int 0 0,.int 3 0,.ref 183,.bool true,.int 181 0,.ref 184,.none,.ref 185,.ref 186,.ref 187,.int 431 0,.int 62 0,cp 432])
def HW (P:Params):Obj:=⟨.type "function",none,.func (PySem.W.fnOf "with_most" "with_most" (aC (top0 28)) (aB (top0 28)) (ak (top0 28)) .none .none .none (.str "sluice.licences" 388) none (.ref 188) .none),#[]⟩
def HS (P:Params):Obj:=(tq #[])
def QB (P:Params):Obj:={ cls:=.none,data:=Data.fields #[] }
def HN (P:Params):Obj:=(tq #[.str "name" 441])
def HJ (P:Params):Obj:=(tq #[])
def Qz (P:Params):Obj:=(pr0 "look_at_name" 31)
def HF (P:Params):Obj:=(fc #[.str "look_at_name" 438,.str "look_at_name" 439,cp 440,.int 66 0,.int 1 0,.int 0 0,.int 0 0,.int 3 0,.ref 190,.bool true,.int 181 0,.ref 191,.none,.ref 192,.ref 193,.ref 194,.int 442 0,.int 66 0,cp 443])
def HD (P:Params):Obj:=⟨.type "function",none,.func (PySem.W.fnOf "look_at_name" "look_at_name" (aC (top0 31)) (aB (top0 31)) (ak (top0 31)) .none .none .none (.str "sluice.rolls" 434) none (.ref 195) .none),#[]⟩
def Qx (P:Params):Obj:=(tq #[])
def Qw (P:Params):Obj:={ cls:=.type "builtin_function_or_method",data:=Data.fields #[.builtin "type.__prepare__",.type "type"] }
def Qv (P:Params):Obj:={ cls:=.type "dict",data:=Data.dict #[en P "__module__" 452 (.str "sluice.rolls" 434),en P "__qualname__" 454 (.str "Roll" 453),en P "__firstlineno__" 456 (.int 69 455),en P "__init__" 464 (.ref 210),en P "today" 471 (.ref 217),en P "roll" 478 (.ref 224),en P "holders" 485 (.ref 231),en P "deeds" 492 (.ref 238),en P "turn" 499 (.ref 245),en P "file" 512 (.ref 253),en P "sell" 522 (.ref 260),en P "part" 534 (.ref 267),en P "drop" 543 (.ref 274),en P "move" 554 (.ref 281),en P "look_move" 563 (.ref 288),en P "lapse" 569 (.ref 293),en P "enter" 578 (.ref 300),en P "is_alone" 584 (.ref 305),en P "look_at_number" 592 (.ref 312),en P "look_at_holder" 601 (.ref 319),en P "look_at_room" 608 (.ref 326),en P "__static_attributes__" 614 (.ref 327)] 22 }
def Qu (P:Params):Obj:=(tq #[])
def Qt (P:Params):Obj:={ cls:=.none,data:=Data.fields #[.int 71 0,.int 4 0,.ref 209,.int 80 0,.int 4 0,.ref 216,.int 83 0,.int 4 0,.ref 223,.int 86 0,.int 4 0,.ref 230,.int 89 0,.int 4 0,.ref 237,.int 92 0,.int 4 0,.ref 244,.int 96 0,.int 4 0,.ref 252,.int 106 0,.int 4 0,.ref 259,.int 112 0,.int 4 0,.ref 266,.int 125 0,.int 4 0,.ref 273,.int 130 0,.int 4 0,.ref 280,.int 139 0,.int 4 0,.ref 287,.int 142 0,.int 4 0,.ref 292,.int 156 0,.int 4 0,.ref 299,.int 161 0,.int 4 0,.ref 304,.int 166 0,.int 4 0,.ref 311,.int 170 0,.int 4 0,.ref 318,.int 175 0,.int 4 0,.ref 325] }
def Qs (P:Params):Obj:=(fc #[.str "Roll" 447,.str "Roll" 448,cp 449,.int 69 0,.int 0 0,.int 0 0,.int 0 0,.int 0 0,.ref 200,.bool false,.int 181 0,.ref 201,.none,.none,.none,.none,.int 450 0,.int 69 0,cp 451])
def Qq (P:Params):Obj:={ cls:=.type "frame",slots:=#[some (.ref 202),some (.ref 3),some (.ref 199),none,some (.str "sluice.rolls" 434),none,some (.ref 0)] }
def HB (P:Params):Obj:=(tq #[])
def Qp (P:Params):Obj:={ cls:=.none,data:=Data.fields #[] }
def Hz (P:Params):Obj:=(tq #[.str "self" 460,.str "below" 461])
def Hw (P:Params):Obj:=(tq #[])
def Qn (P:Params):Obj:={ cls:=.none,data:=.func { name:="__init__",qualname:="Roll.__init__",params:=aC (inClass (top0 32) 0),body:=.stmts (aB (inClass (top0 32) 0)),scope:=ak (inClass (top0 32) 0),globals:=0,closure:=[],defaults:=.none,kwdefaults:=.none } }
def Hv (P:Params):Obj:=(fc #[.str "__init__" 457,.str "Roll.__init__" 458,cp 459,.int 71 0,.int 2 0,.int 0 0,.int 0 0,.int 3 0,.ref 204,.bool true,.int 181 0,.ref 205,.none,.ref 206,.ref 207,.ref 208,.int 462 0,.int 71 0,cp 463])
def Hu (P:Params):Obj:=⟨.type "function",none,.func (PySem.W.fnOf "__init__" "Roll.__init__" (aC (inClass (top0 32) 0)) (aB (inClass (top0 32) 0)) (ak (inClass (top0 32) 0)) .none .none .none (.str "sluice.rolls" 434) none (.ref 209) .none),#[]⟩
def Ht (P:Params):Obj:=(tq #[])
def Qm (P:Params):Obj:={ cls:=.none,data:=Data.fields #[] }
def Hs (P:Params):Obj:=(tq #[.str "self" 468])
def Hr (P:Params):Obj:=(tq #[])
def Ql (P:Params):Obj:={ cls:=.none,data:=.func { name:="today",qualname:="Roll.today",params:=aC (inClass (top0 32) 1),body:=.stmts (aB (inClass (top0 32) 1)),scope:=ak (inClass (top0 32) 1),globals:=0,closure:=[],defaults:=.none,kwdefaults:=.none } }
def Hq (P:Params):Obj:=(fc #[.str "today" 465,.str "Roll.today" 466,cp 467,.int 80 0,.int 1 0,.int 0 0,.int 0 0,.int 3 0,.ref 211,.bool true,.int 181 0,.ref 212,.none,.ref 213,.ref 214,.ref 215,.int 469 0,.int 80 0,cp 470])
def Ho (P:Params):Obj:=⟨.type "function",none,.func (PySem.W.fnOf "today" "Roll.today" (aC (inClass (top0 32) 1)) (aB (inClass (top0 32) 1)) (ak (inClass (top0 32) 1)) .none .none .none (.str "sluice.rolls" 434) none (.ref 216) .none),#[]⟩
def Hl (P:Params):Obj:=(tq #[])
def Qk (P:Params):Obj:={ cls:=.none,data:=Data.fields #[] }
def Hj (P:Params):Obj:=(tq #[.str "self" 475])
def Hi (P:Params):Obj:=(tq #[])
def Qj (P:Params):Obj:={ cls:=.none,data:=.func { name:="roll",qualname:="Roll.roll",params:=aC (inClass (top0 32) 2),body:=.stmts (aB (inClass (top0 32) 2)),scope:=ak (inClass (top0 32) 2),globals:=0,closure:=[],defaults:=.none,kwdefaults:=.none } }
def Hh (P:Params):Obj:=(fc #[.str "roll" 472,.str "Roll.roll" 473,cp 474,.int 83 0,.int 1 0,.int 0 0,.int 0 0,.int 3 0,.ref 218,.bool true,.int 181 0,.ref 219,.none,.ref 220,.ref 221,.ref 222,.int 476 0,.int 83 0,cp 477])
def Hg (P:Params):Obj:=⟨.type "function",none,.func (PySem.W.fnOf "roll" "Roll.roll" (aC (inClass (top0 32) 2)) (aB (inClass (top0 32) 2)) (ak (inClass (top0 32) 2)) .none .none .none (.str "sluice.rolls" 434) none (.ref 223) .none),#[]⟩
def Hf (P:Params):Obj:=(tq #[])
def Qi (P:Params):Obj:={ cls:=.none,data:=Data.fields #[] }
def G9 (P:Params):Obj:=(tq #[.str "self" 482])
def G8 (P:Params):Obj:=(tq #[])
def Qg (P:Params):Obj:={ cls:=.none,data:=.func { name:="holders",qualname:="Roll.holders",params:=aC (inClass (top0 32) 3),body:=.stmts (aB (inClass (top0 32) 3)),scope:=ak (inClass (top0 32) 3),globals:=0,closure:=[],defaults:=.none,kwdefaults:=.none } }
def G7 (P:Params):Obj:=(fc #[.str "holders" 479,.str "Roll.holders" 480,cp 481,.int 86 0,.int 1 0,.int 0 0,.int 0 0,.int 3 0,.ref 225,.bool true,.int 181 0,.ref 226,.none,.ref 227,.ref 228,.ref 229,.int 483 0,.int 86 0,cp 484])
def G6 (P:Params):Obj:=⟨.type "function",none,.func (PySem.W.fnOf "holders" "Roll.holders" (aC (inClass (top0 32) 3)) (aB (inClass (top0 32) 3)) (ak (inClass (top0 32) 3)) .none .none .none (.str "sluice.rolls" 434) none (.ref 230) .none),#[]⟩
def G5 (P:Params):Obj:=(tq #[])
def Qf (P:Params):Obj:={ cls:=.none,data:=Data.fields #[] }
def G4 (P:Params):Obj:=(tq #[.str "self" 489])
def G3 (P:Params):Obj:=(tq #[])
def Qe (P:Params):Obj:={ cls:=.none,data:=.func { name:="deeds",qualname:="Roll.deeds",params:=aC (inClass (top0 32) 4),body:=.stmts (aB (inClass (top0 32) 4)),scope:=ak (inClass (top0 32) 4),globals:=0,closure:=[],defaults:=.none,kwdefaults:=.none } }
def GZ (P:Params):Obj:=(fc #[.str "deeds" 486,.str "Roll.deeds" 487,cp 488,.int 89 0,.int 1 0,.int 0 0,.int 0 0,.int 3 0,.ref 232,.bool true,.int 181 0,.ref 233,.none,.ref 234,.ref 235,.ref 236,.int 490 0,.int 89 0,cp 491])
def GX (P:Params):Obj:=⟨.type "function",none,.func (PySem.W.fnOf "deeds" "Roll.deeds" (aC (inClass (top0 32) 4)) (aB (inClass (top0 32) 4)) (ak (inClass (top0 32) 4)) .none .none .none (.str "sluice.rolls" 434) none (.ref 237) .none),#[]⟩
def GR (P:Params):Obj:=(tq #[])
def Qc (P:Params):Obj:={ cls:=.none,data:=Data.fields #[] }
def GQ (P:Params):Obj:=(tq #[.str "self" 496])
def GP (P:Params):Obj:=(tq #[])
def Qa (P:Params):Obj:={ cls:=.none,data:=.func { name:="turn",qualname:="Roll.turn",params:=aC (inClass (top0 32) 5),body:=.stmts (aB (inClass (top0 32) 5)),scope:=ak (inClass (top0 32) 5),globals:=0,closure:=[],defaults:=.none,kwdefaults:=.none } }
def GK (P:Params):Obj:=(fc #[.str "turn" 493,.str "Roll.turn" 494,cp 495,.int 92 0,.int 1 0,.int 0 0,.int 0 0,.int 3 0,.ref 239,.bool true,.int 181 0,.ref 240,.none,.ref 241,.ref 242,.ref 243,.int 497 0,.int 92 0,cp 498])
def GJ (P:Params):Obj:=⟨.type "function",none,.func (PySem.W.fnOf "turn" "Roll.turn" (aC (inClass (top0 32) 5)) (aB (inClass (top0 32) 5)) (ak (inClass (top0 32) 5)) .none .none .none (.str "sluice.rolls" 434) none (.ref 244) .none),#[]⟩
def GF (P:Params):Obj:=(tq #[.none])
def GD (P:Params):Obj:=(tq #[])
def PX (P:Params):Obj:={ cls:=.none,data:=Data.fields #[] }
def GC (P:Params):Obj:=(tq #[.str "self" 503,.str "holder" 504,.str "start" 505,.str "most" 506,.str "back" 507,.str "stop" 508,.str "one" 509])
def Gz (P:Params):Obj:=(tq #[])
def PN (P:Params):Obj:={ cls:=.none,data:=.func { name:="file",qualname:="Roll.file",params:=aC (inClass (top0 32) 6),body:=.stmts (aB (inClass (top0 32) 6)),scope:=ak (inClass (top0 32) 6),globals:=0,closure:=[],defaults:=.none,kwdefaults:=.none } }
def Gy (P:Params):Obj:=(fc #[.str "file" 500,.str "Roll.file" 501,cp 502,.int 96 0,.int 5 0,.int 0 0,.int 0 0,.int 3 0,.ref 247,.bool true,.int 181 0,.ref 248,.none,.ref 249,.ref 250,.ref 251,.int 510 0,.int 96 0,cp 511])
def Gx (P:Params):Obj:=⟨.type "function",none,.func (PySem.W.fnOf "file" "Roll.file" (aC (inClass (top0 32) 6)) (aB (inClass (top0 32) 6)) (ak (inClass (top0 32) 6)) (.ref 246) .none .none (.str "sluice.rolls" 434) none (.ref 252) .none),#[]⟩
def Gw (P:Params):Obj:=(tq #[])
def PL (P:Params):Obj:={ cls:=.none,data:=Data.fields #[] }
def Gv (P:Params):Obj:=(tq #[.str "self" 516,.str "number" 517,.str "holder" 518,.str "to" 519])
def Gu (P:Params):Obj:=(tq #[])
def PK (P:Params):Obj:={ cls:=.none,data:=.func { name:="sell",qualname:="Roll.sell",params:=aC (inClass (top0 32) 7),body:=.stmts (aB (inClass (top0 32) 7)),scope:=ak (inClass (top0 32) 7),globals:=0,closure:=[],defaults:=.none,kwdefaults:=.none } }
def Gs (P:Params):Obj:=(fc #[.str "sell" 513,.str "Roll.sell" 514,cp 515,.int 106 0,.int 4 0,.int 0 0,.int 0 0,.int 3 0,.ref 254,.bool true,.int 181 0,.ref 255,.none,.ref 256,.ref 257,.ref 258,.int 520 0,.int 106 0,cp 521])
def Gq (P:Params):Obj:=⟨.type "function",none,.func (PySem.W.fnOf "sell" "Roll.sell" (aC (inClass (top0 32) 7)) (aB (inClass (top0 32) 7)) (ak (inClass (top0 32) 7)) .none .none .none (.str "sluice.rolls" 434) none (.ref 259) .none),#[]⟩
def Gp (P:Params):Obj:=(tq #[])
def PJ (P:Params):Obj:={ cls:=.none,data:=Data.fields #[] }
def Gn (P:Params):Obj:=(tq #[.str "self" 526,.str "number" 527,.str "holder" 528,.str "most" 529,.str "to" 530,.str "one" 531])
def Gm (P:Params):Obj:=(tq #[])
def PB (P:Params):Obj:={ cls:=.none,data:=.func { name:="part",qualname:="Roll.part",params:=aC (inClass (top0 32) 8),body:=.stmts (aB (inClass (top0 32) 8)),scope:=ak (inClass (top0 32) 8),globals:=0,closure:=[],defaults:=.none,kwdefaults:=.none } }
def Gk (P:Params):Obj:=(fc #[.str "part" 523,.str "Roll.part" 524,cp 525,.int 112 0,.int 5 0,.int 0 0,.int 0 0,.int 3 0,.ref 261,.bool true,.int 181 0,.ref 262,.none,.ref 263,.ref 264,.ref 265,.int 532 0,.int 112 0,cp 533])
def Gj (P:Params):Obj:=⟨.type "function",none,.func (PySem.W.fnOf "part" "Roll.part" (aC (inClass (top0 32) 8)) (aB (inClass (top0 32) 8)) (ak (inClass (top0 32) 8)) .none .none .none (.str "sluice.rolls" 434) none (.ref 266) .none),#[]⟩
def Gi (P:Params):Obj:=(tq #[])
def Pz (P:Params):Obj:={ cls:=.none,data:=Data.fields #[] }
def Gh (P:Params):Obj:=(tq #[.str "self" 538,.str "number" 539,.str "holder" 540])
def Gg (P:Params):Obj:=(tq #[])
def Py (P:Params):Obj:={ cls:=.none,data:=.func { name:="drop",qualname:="Roll.drop",params:=aC (inClass (top0 32) 9),body:=.stmts (aB (inClass (top0 32) 9)),scope:=ak (inClass (top0 32) 9),globals:=0,closure:=[],defaults:=.none,kwdefaults:=.none } }
def Gf (P:Params):Obj:=(fc #[.str "drop" 535,.str "Roll.drop" 536,cp 537,.int 125 0,.int 3 0,.int 0 0,.int 0 0,.int 3 0,.ref 268,.bool true,.int 181 0,.ref 269,.none,.ref 270,.ref 271,.ref 272,.int 541 0,.int 125 0,cp 542])
def Ge (P:Params):Obj:=⟨.type "function",none,.func (PySem.W.fnOf "drop" "Roll.drop" (aC (inClass (top0 32) 9)) (aB (inClass (top0 32) 9)) (ak (inClass (top0 32) 9)) .none .none .none (.str "sluice.rolls" 434) none (.ref 273) .none),#[]⟩
def Gd (P:Params):Obj:=(tq #[])
def Px (P:Params):Obj:={ cls:=.none,data:=Data.fields #[] }
def Gb (P:Params):Obj:=(tq #[.str "self" 547,.str "number" 548,.str "holder" 549,.str "start" 550,.str "one" 551])
def Ga (P:Params):Obj:=(tq #[])
def Pr (P:Params):Obj:={ cls:=.none,data:=.func { name:="move",qualname:="Roll.move",params:=aC (inClass (top0 32) 10),body:=.stmts (aB (inClass (top0 32) 10)),scope:=ak (inClass (top0 32) 10),globals:=0,closure:=[],defaults:=.none,kwdefaults:=.none } }
def FZ (P:Params):Obj:=(fc #[.str "move" 544,.str "Roll.move" 545,cp 546,.int 130 0,.int 4 0,.int 0 0,.int 0 0,.int 3 0,.ref 275,.bool true,.int 181 0,.ref 276,.none,.ref 277,.ref 278,.ref 279,.int 552 0,.int 130 0,cp 553])
def FW (P:Params):Obj:=⟨.type "function",none,.func (PySem.W.fnOf "move" "Roll.move" (aC (inClass (top0 32) 10)) (aB (inClass (top0 32) 10)) (ak (inClass (top0 32) 10)) .none .none .none (.str "sluice.rolls" 434) none (.ref 280) .none),#[]⟩
def FT (P:Params):Obj:=(tq #[])
def Pq (P:Params):Obj:={ cls:=.none,data:=Data.fields #[] }
def FQ (P:Params):Obj:=(tq #[.str "self" 558,.str "number" 559,.str "start" 560])
def FP (P:Params):Obj:=(tq #[])
def Pn (P:Params):Obj:={ cls:=.none,data:=.func { name:="look_move",qualname:="Roll.look_move",params:=aC (inClass (top0 32) 11),body:=.stmts (aB (inClass (top0 32) 11)),scope:=ak (inClass (top0 32) 11),globals:=0,closure:=[],defaults:=.none,kwdefaults:=.none } }
def FN (P:Params):Obj:=(fc #[.str "look_move" 555,.str "Roll.look_move" 556,cp 557,.int 139 0,.int 3 0,.int 0 0,.int 0 0,.int 3 0,.ref 282,.bool true,.int 181 0,.ref 283,.none,.ref 284,.ref 285,.ref 286,.int 561 0,.int 139 0,cp 562])
def FJ (P:Params):Obj:=⟨.type "function",none,.func (PySem.W.fnOf "look_move" "Roll.look_move" (aC (inClass (top0 32) 11)) (aB (inClass (top0 32) 11)) (ak (inClass (top0 32) 11)) .none .none .none (.str "sluice.rolls" 434) none (.ref 287) .none),#[]⟩
def Fz (P:Params):Obj:=(tq #[])
def Pj (P:Params):Obj:={ cls:=.none,data:=Data.fields #[] }
def Ph (P:Params):Obj:={ cls:=.none,data:=.func { name:="lapse",qualname:="Roll.lapse",params:=aC (inClass (top0 32) 12),body:=.stmts (aB (inClass (top0 32) 12)),scope:=ak (inClass (top0 32) 12),globals:=0,closure:=[],defaults:=.none,kwdefaults:=.none } }
def Fy (P:Params):Obj:=(fc #[.str "lapse" 564,.str "Roll.lapse" 565,cp 566,.int 142 0,.int 2 0,.int 0 0,.int 0 0,.int 3 0,.ref 289,.bool true,.int 181 0,.ref 290,.none,.none,.none,.ref 291,.int 567 0,.int 142 0,cp 568])
def Fx (P:Params):Obj:=⟨.type "function",none,.func (PySem.W.fnOf "lapse" "Roll.lapse" (aC (inClass (top0 32) 12)) (aB (inClass (top0 32) 12)) (ak (inClass (top0 32) 12)) .none .none .none (.str "sluice.rolls" 434) none (.ref 292) .none),#[]⟩
def Fw (P:Params):Obj:=(tq #[])
def Pg (P:Params):Obj:={ cls:=.none,data:=Data.fields #[] }
def Fv (P:Params):Obj:=(tq #[.str "self" 573,.str "one" 574,.str "holder" 575])
def Ft (P:Params):Obj:=(tq #[])
def Pa (P:Params):Obj:={ cls:=.none,data:=.func { name:="enter",qualname:="Roll.enter",params:=aC (inClass (top0 32) 13),body:=.stmts (aB (inClass (top0 32) 13)),scope:=ak (inClass (top0 32) 13),globals:=0,closure:=[],defaults:=.none,kwdefaults:=.none } }
def Fq (P:Params):Obj:=(fc #[.str "enter" 570,.str "Roll.enter" 571,cp 572,.int 156 0,.int 3 0,.int 0 0,.int 0 0,.int 3 0,.ref 294,.bool true,.int 181 0,.ref 295,.none,.ref 296,.ref 297,.ref 298,.int 576 0,.int 156 0,cp 577])
def Fp (P:Params):Obj:=⟨.type "function",none,.func (PySem.W.fnOf "enter" "Roll.enter" (aC (inClass (top0 32) 13)) (aB (inClass (top0 32) 13)) (ak (inClass (top0 32) 13)) .none .none .none (.str "sluice.rolls" 434) none (.ref 299) .none),#[]⟩
def Fo (P:Params):Obj:=(tq #[])
def O9 (P:Params):Obj:={ cls:=.none,data:=Data.fields #[] }
def O8 (P:Params):Obj:={ cls:=.none,data:=.func { name:="is_alone",qualname:="Roll.is_alone",params:=aC (inClass (top0 32) 14),body:=.stmts (aB (inClass (top0 32) 14)),scope:=ak (inClass (top0 32) 14),globals:=0,closure:=[],defaults:=.none,kwdefaults:=.none } }
def Fl (P:Params):Obj:=(fc #[.str "is_alone" 579,.str "Roll.is_alone" 580,cp 581,.int 161 0,.int 2 0,.int 0 0,.int 0 0,.int 3 0,.ref 301,.bool true,.int 181 0,.ref 302,.none,.none,.none,.ref 303,.int 582 0,.int 161 0,cp 583])
def Fj (P:Params):Obj:=⟨.type "function",none,.func (PySem.W.fnOf "is_alone" "Roll.is_alone" (aC (inClass (top0 32) 14)) (aB (inClass (top0 32) 14)) (ak (inClass (top0 32) 14)) .none .none .none (.str "sluice.rolls" 434) none (.ref 304) .none),#[]⟩
def Fi (P:Params):Obj:=(tq #[])
def O7 (P:Params):Obj:={ cls:=.none,data:=Data.fields #[] }
def Fg (P:Params):Obj:=(tq #[.str "self" 588,.str "number" 589])
def Fe (P:Params):Obj:=(tq #[])
def O6 (P:Params):Obj:={ cls:=.none,data:=.func { name:="look_at_number",qualname:="Roll.look_at_number",params:=aC (inClass (top0 32) 15),body:=.stmts (aB (inClass (top0 32) 15)),scope:=ak (inClass (top0 32) 15),globals:=0,closure:=[],defaults:=.none,kwdefaults:=.none } }
def Fd (P:Params):Obj:=(fc #[.str "look_at_number" 585,.str "Roll.look_at_number" 586,cp 587,.int 166 0,.int 2 0,.int 0 0,.int 0 0,.int 3 0,.ref 306,.bool true,.int 181 0,.ref 307,.none,.ref 308,.ref 309,.ref 310,.int 590 0,.int 166 0,cp 591])
def Fb (P:Params):Obj:=⟨.type "function",none,.func (PySem.W.fnOf "look_at_number" "Roll.look_at_number" (aC (inClass (top0 32) 15)) (aB (inClass (top0 32) 15)) (ak (inClass (top0 32) 15)) .none .none .none (.str "sluice.rolls" 434) none (.ref 311) .none),#[]⟩
def EY (P:Params):Obj:=(tq #[])
def O4 (P:Params):Obj:={ cls:=.none,data:=Data.fields #[] }
def Ez (P:Params):Obj:=(tq #[.str "self" 596,.str "number" 597,.str "holder" 598])
def Ey (P:Params):Obj:=(tq #[])
def OJ (P:Params):Obj:={ cls:=.none,data:=.func { name:="look_at_holder",qualname:="Roll.look_at_holder",params:=aC (inClass (top0 32) 16),body:=.stmts (aB (inClass (top0 32) 16)),scope:=ak (inClass (top0 32) 16),globals:=0,closure:=[],defaults:=.none,kwdefaults:=.none } }
def Ew (P:Params):Obj:=(fc #[.str "look_at_holder" 593,.str "Roll.look_at_holder" 594,cp 595,.int 170 0,.int 3 0,.int 0 0,.int 0 0,.int 3 0,.ref 313,.bool true,.int 181 0,.ref 314,.none,.ref 315,.ref 316,.ref 317,.int 599 0,.int 170 0,cp 600])
def Eu (P:Params):Obj:=⟨.type "function",none,.func (PySem.W.fnOf "look_at_holder" "Roll.look_at_holder" (aC (inClass (top0 32) 16)) (aB (inClass (top0 32) 16)) (ak (inClass (top0 32) 16)) .none .none .none (.str "sluice.rolls" 434) none (.ref 318) .none),#[]⟩
def Et (P:Params):Obj:=(tq #[])
def Oz (P:Params):Obj:={ cls:=.none,data:=Data.fields #[] }
def Es (P:Params):Obj:=(tq #[.str "self" 605])
def Er (P:Params):Obj:=(tq #[])
def Ox (P:Params):Obj:={ cls:=.none,data:=.func { name:="look_at_room",qualname:="Roll.look_at_room",params:=aC (inClass (top0 32) 17),body:=.stmts (aB (inClass (top0 32) 17)),scope:=ak (inClass (top0 32) 17),globals:=0,closure:=[],defaults:=.none,kwdefaults:=.none } }
def Ep (P:Params):Obj:=(fc #[.str "look_at_room" 602,.str "Roll.look_at_room" 603,cp 604,.int 175 0,.int 1 0,.int 0 0,.int 0 0,.int 3 0,.ref 320,.bool true,.int 181 0,.ref 321,.none,.ref 322,.ref 323,.ref 324,.int 606 0,.int 175 0,cp 607])
def Eo (P:Params):Obj:=⟨.type "function",none,.func (PySem.W.fnOf "look_at_room" "Roll.look_at_room" (aC (inClass (top0 32) 17)) (aB (inClass (top0 32) 17)) (ak (inClass (top0 32) 17)) .none .none .none (.str "sluice.rolls" 434) none (.ref 325) .none),#[]⟩
def En (P:Params):Obj:=(tq #[.str "below" 609,.str "day" 610,.str "done" 611,.str "licences" 612,.str "names" 613])
def Em (P:Params):Obj:={ cls:=.type "dict",data:=Data.dict #[en P "__module__" 452 (.str "sluice.rolls" 434),en P "__firstlineno__" 456 (.int 69 455),en P "__init__" 464 (.ref 210),en P "today" 471 (.ref 217),en P "roll" 478 (.ref 224),en P "holders" 485 (.ref 231),en P "deeds" 492 (.ref 238),en P "turn" 499 (.ref 245),en P "file" 512 (.ref 253),en P "sell" 522 (.ref 260),en P "part" 534 (.ref 267),en P "drop" 543 (.ref 274),en P "move" 554 (.ref 281),en P "look_move" 563 (.ref 288),en P "lapse" 569 (.ref 293),en P "enter" 578 (.ref 300),en P "is_alone" 584 (.ref 305),en P "look_at_number" 592 (.ref 312),en P "look_at_holder" 601 (.ref 319),en P "look_at_room" 608 (.ref 326),en P "__static_attributes__" 614 (.ref 327),en P "__dict__" 616 (.ref 330),en P "__weakref__" 618 (.ref 331),en P "__doc__" 619 .none] 4 }
def El (P:Params):Obj:={ cls:=.type "type",data:=Data.cls { name:="Roll",bases:=[.type "object"],mro:=[.ref 329,.type "object"],ns:=328,qualname:="Roll" },slots:=#[none,none,some (.str "Roll" 445),some (.str "Roll" 453),some (.builtin "object.__new__"),some (.bool true)] }
def Ek (P:Params):Obj:={ cls:=.type "getset_descriptor",data:=Data.fields #[.str "__dict__" 615,.ref 329,.builtin "function.__dict__",.builtin "function.__dict__#set"] }
def Ej (P:Params):Obj:={ cls:=.type "getset_descriptor",data:=Data.fields #[.str "__weakref__" 617,.ref 329,.builtin "ExceptionGroup.__weakref__",.none] }
def Ov (P:Params):Obj:={ cls:=.type "super",data:=Data.fields #[.ref 329,.ref 329,.ref 329] }
def Ou (P:Params):Obj:={ cls:=.type "builtin_function_or_method",data:=Data.fields #[.builtin "object.__init_subclass__",.ref 329] }
def Ei (P:Params):Obj:=(tq #[])
def Ot (P:Params):Obj:={ cls:=.none,data:=Data.fields #[] }
def Eh (P:Params):Obj:=(tq #[.str "roll" 627,.str "deed" 628,.str "kind" 629])
def Ef (P:Params):Obj:=(tq #[])
def Oq (P:Params):Obj:=(pr0 "do_anew" 34)
def Ed (P:Params):Obj:=(fc #[.str "do_anew" 624,.str "do_anew" 625,cp 626,.int 179 0,.int 2 0,.int 0 0,.int 0 0,.int 3 0,.ref 334,.bool true,.int 181 0,.ref 335,.none,.ref 336,.ref 337,.ref 338,.int 630 0,.int 179 0,cp 631])
def Eb (P:Params):Obj:=⟨.type "function",none,.func (PySem.W.fnOf "do_anew" "do_anew" (aC (top0 34)) (aB (top0 34)) (ak (top0 34)) .none .none .none (.str "sluice.deeds" 622) none (.ref 339) .none),#[]⟩
def Ea (P:Params):Obj:=(tq #[])
def Oo (P:Params):Obj:={ cls:=.none,data:=Data.fields #[] }
def DY (P:Params):Obj:=(tq #[.str "below" 636,.str "deeds" 637,.str "roll" 638,.str "deed" 639])
def DX (P:Params):Obj:=(tq #[])
def Om (P:Params):Obj:=(pr0 "replayed" 35)
def DW (P:Params):Obj:=(fc #[.str "replayed" 633,.str "replayed" 634,cp 635,.int 195 0,.int 2 0,.int 0 0,.int 0 0,.int 3 0,.ref 341,.bool true,.int 181 0,.ref 342,.none,.ref 343,.ref 344,.ref 345,.int 640 0,.int 195 0,cp 641])
def DR (P:Params):Obj:=⟨.type "function",none,.func (PySem.W.fnOf "replayed" "replayed" (aC (top0 35)) (aB (top0 35)) (ak (top0 35)) .none .none .none (.str "sluice.deeds" 622) none (.ref 346) .none),#[]⟩
def DQ (P:Params):Obj:=(tq #[])
def Ol (P:Params):Obj:={ cls:=.none,data:=Data.fields #[] }
def DP (P:Params):Obj:=(tq #[.str "script" 648,.str "k" 649])
def DN (P:Params):Obj:=(tq #[])
def Oj (P:Params):Obj:=(pr0 "_law_cell_at" 37)
def DK (P:Params):Obj:=(fc #[.str "_law_cell_at" 645,.str "_law_cell_at" 646,cp 647,.int 201 0,.int 2 0,.int 0 0,.int 0 0,.int 3 0,.ref 348,.bool true,.int 181 0,.ref 349,.none,.ref 350,.ref 351,.ref 352,.int 650 0,.int 201 0,cp 651])
def DG (P:Params):Obj:=⟨.type "function",none,.func (PySem.W.fnOf "_law_cell_at" "_law_cell_at" (aC (top0 37)) (aB (top0 37)) (ak (top0 37)) .none .none .none (.str "law_sluice_k57_whole_deeds_replayed" 643) none (.ref 353) .none),#[]⟩
def Dz (P:Params):Obj:=(tq #[])
def Oi (P:Params):Obj:={ cls:=.none,data:=Data.fields #[] }
def Dy (P:Params):Obj:=(tq #[.str "found" 656])
def Dw (P:Params):Obj:=(tq #[])
def Oh (P:Params):Obj:=(pr0 "_law_whole" 38)
def Dv (P:Params):Obj:=(fc #[.str "_law_whole" 653,.str "_law_whole" 654,cp 655,.int 205 0,.int 1 0,.int 0 0,.int 0 0,.int 3 0,.ref 355,.bool true,.int 181 0,.ref 356,.none,.ref 357,.ref 358,.ref 359,.int 657 0,.int 205 0,cp 658])
def Du (P:Params):Obj:=⟨.type "function",none,.func (PySem.W.fnOf "_law_whole" "_law_whole" (aC (top0 38)) (aB (top0 38)) (ak (top0 38)) .none .none .none (.str "law_sluice_k57_whole_deeds_replayed" 643) none (.ref 360) .none),#[]⟩
def Dt (P:Params):Obj:=(tq #[])
def Og (P:Params):Obj:={ cls:=.none,data:=Data.fields #[] }
def Ds (P:Params):Obj:=(tq #[.str "cell" 663,.str "place" 664,.str "spot" 665])
def Dr (P:Params):Obj:=(tq #[])
def Oe (P:Params):Obj:=(pr0 "_law_draw" 39)
def Dq (P:Params):Obj:=(fc #[.str "_law_draw" 660,.str "_law_draw" 661,cp 662,.int 207 0,.int 2 0,.int 0 0,.int 0 0,.int 3 0,.ref 362,.bool true,.int 181 0,.ref 363,.none,.ref 364,.ref 365,.ref 366,.int 666 0,.int 207 0,cp 667])
def Dp (P:Params):Obj:=⟨.type "function",none,.func (PySem.W.fnOf "_law_draw" "_law_draw" (aC (top0 39)) (aB (top0 39)) (ak (top0 39)) .none .none .none (.str "law_sluice_k57_whole_deeds_replayed" 643) none (.ref 367) .none),#[]⟩
def Dn (P:Params):Obj:=(tq #[])
def Oc (P:Params):Obj:={ cls:=.none,data:=Data.fields #[] }
def Ob (P:Params):Obj:=(pr0 "_law_draws" 40)
def Dl (P:Params):Obj:=(fc #[.str "_law_draws" 669,.str "_law_draws" 670,cp 671,.int 210 0,.int 2 0,.int 0 0,.int 0 0,.int 3 0,.ref 369,.bool true,.int 181 0,.ref 370,.none,.none,.none,.ref 371,.int 672 0,.int 210 0,cp 673])
def Dk (P:Params):Obj:=⟨.type "function",none,.func (PySem.W.fnOf "_law_draws" "_law_draws" (aC (top0 40)) (aB (top0 40)) (ak (top0 40)) .none .none .none (.str "law_sluice_k57_whole_deeds_replayed" 643) none (.ref 372) .none),#[]⟩
def Dj (P:Params):Obj:=(tq #[])
def Oa (P:Params):Obj:={ cls:=.none,data:=Data.fields #[] }
def N8 (P:Params):Obj:=(pr0 "_law_river" 41)
def Di (P:Params):Obj:=(fc #[.str "_law_river" 675,.str "_law_river" 676,cp 677,.int 212 0,.int 1 0,.int 0 0,.int 0 0,.int 3 0,.ref 374,.bool true,.int 181 0,.ref 375,.none,.none,.none,.ref 376,.int 678 0,.int 212 0,cp 679])
def Dh (P:Params):Obj:=⟨.type "function",none,.func (PySem.W.fnOf "_law_river" "_law_river" (aC (top0 41)) (aB (top0 41)) (ak (top0 41)) .none .none .none (.str "law_sluice_k57_whole_deeds_replayed" 643) none (.ref 377) .none),#[]⟩
def Dg (P:Params):Obj:=(tq #[])
def N6 (P:Params):Obj:={ cls:=.none,data:=Data.fields #[] }
def Dd (P:Params):Obj:=(tq #[.str "xs" 684,.str "lines" 685,.str "far" 686])
def Dc (P:Params):Obj:=(tq #[])
def N5 (P:Params):Obj:=(pr0 "_law_amount" 42)
def CZ (P:Params):Obj:=(fc #[.str "_law_amount" 681,.str "_law_amount" 682,cp 683,.int 221 0,.int 2 0,.int 0 0,.int 0 0,.int 3 0,.ref 379,.bool true,.int 181 0,.ref 380,.none,.ref 381,.ref 382,.ref 383,.int 687 0,.int 221 0,cp 688])
def CV (P:Params):Obj:=⟨.type "function",none,.func (PySem.W.fnOf "_law_amount" "_law_amount" (aC (top0 42)) (aB (top0 42)) (ak (top0 42)) .none .none .none (.str "law_sluice_k57_whole_deeds_replayed" 643) none (.ref 384) .none),#[]⟩
def CT (P:Params):Obj:=(tq #[])
def NT (P:Params):Obj:={ cls:=.none,data:=Data.fields #[] }
def CQ (P:Params):Obj:=(tq #[.str "number" 693])
def CP (P:Params):Obj:=(tq #[])
def NQ (P:Params):Obj:=(pr0 "_law_name" 43)
def CK (P:Params):Obj:=(fc #[.str "_law_name" 690,.str "_law_name" 691,cp 692,.int 226 0,.int 1 0,.int 0 0,.int 0 0,.int 3 0,.ref 386,.bool true,.int 181 0,.ref 387,.none,.ref 388,.ref 389,.ref 390,.int 694 0,.int 226 0,cp 695])
def CJ (P:Params):Obj:=⟨.type "function",none,.func (PySem.W.fnOf "_law_name" "_law_name" (aC (top0 43)) (aB (top0 43)) (ak (top0 43)) .none .none .none (.str "law_sluice_k57_whole_deeds_replayed" 643) none (.ref 391) .none),#[]⟩
def CG (P:Params):Obj:=(tq #[])
def NP (P:Params):Obj:={ cls:=.none,data:=Data.fields #[] }
def NK (P:Params):Obj:=(pr0 "_law_deed" 44)
def Cz (P:Params):Obj:=(fc #[.str "_law_deed" 697,.str "_law_deed" 698,cp 699,.int 228 0,.int 4 0,.int 0 0,.int 0 0,.int 3 0,.ref 393,.bool true,.int 181 0,.ref 394,.none,.none,.none,.ref 395,.int 700 0,.int 228 0,cp 701])
def Cy (P:Params):Obj:=⟨.type "function",none,.func (PySem.W.fnOf "_law_deed" "_law_deed" (aC (top0 44)) (aB (top0 44)) (ak (top0 44)) .none .none .none (.str "law_sluice_k57_whole_deeds_replayed" 643) none (.ref 396) .none),#[]⟩
def Cw (P:Params):Obj:=(tq #[])
def Ny (P:Params):Obj:={ cls:=.none,data:=Data.fields #[] }
def Cv (P:Params):Obj:=(tq #[.str "one" 706,.str "deed" 707,.str "bit" 708])
def Cu (P:Params):Obj:=(tq #[])
def Nx (P:Params):Obj:=(pr0 "_law_do" 45)
def Cr (P:Params):Obj:=(fc #[.str "_law_do" 703,.str "_law_do" 704,cp 705,.int 250 0,.int 3 0,.int 0 0,.int 0 0,.int 3 0,.ref 398,.bool true,.int 181 0,.ref 399,.none,.ref 400,.ref 401,.ref 402,.int 709 0,.int 250 0,cp 710])
def Cq (P:Params):Obj:=⟨.type "function",none,.func (PySem.W.fnOf "_law_do" "_law_do" (aC (top0 45)) (aB (top0 45)) (ak (top0 45)) .none .none .none (.str "law_sluice_k57_whole_deeds_replayed" 643) none (.ref 403) .none),#[]⟩
def Cp (P:Params):Obj:=(tq #[])
def Nv (P:Params):Obj:={ cls:=.none,data:=Data.fields #[] }
def Cm (P:Params):Obj:=(tq #[.str "one" 715,.str "deed" 716,.str "bit" 717,.str "done" 718])
def Ck (P:Params):Obj:=(tq #[])
def Nu (P:Params):Obj:=(pr0 "_law_done" 46)
def Cj (P:Params):Obj:=(fc #[.str "_law_done" 712,.str "_law_done" 713,cp 714,.int 267 0,.int 3 0,.int 0 0,.int 0 0,.int 3 0,.ref 405,.bool true,.int 181 0,.ref 406,.none,.ref 407,.ref 408,.ref 409,.int 719 0,.int 267 0,cp 720])
def Ci (P:Params):Obj:=⟨.type "function",none,.func (PySem.W.fnOf "_law_done" "_law_done" (aC (top0 46)) (aB (top0 46)) (ak (top0 46)) .none .none .none (.str "law_sluice_k57_whole_deeds_replayed" 643) none (.ref 410) .none),#[]⟩
def Cg (P:Params):Obj:=(tq #[])
def Nt (P:Params):Obj:={ cls:=.none,data:=Data.fields #[] }
def Ce (P:Params):Obj:=(tq #[.str "one" 725])
def Cd (P:Params):Obj:=(tq #[])
def Nr (P:Params):Obj:=(pr0 "_law_stand" 47)
def Ca (P:Params):Obj:=(fc #[.str "_law_stand" 722,.str "_law_stand" 723,cp 724,.int 274 0,.int 1 0,.int 0 0,.int 0 0,.int 3 0,.ref 412,.bool true,.int 181 0,.ref 413,.none,.ref 414,.ref 415,.ref 416,.int 726 0,.int 274 0,cp 727])
def BZ (P:Params):Obj:=⟨.type "function",none,.func (PySem.W.fnOf "_law_stand" "_law_stand" (aC (top0 47)) (aB (top0 47)) (ak (top0 47)) .none .none .none (.str "law_sluice_k57_whole_deeds_replayed" 643) none (.ref 417) .none),#[]⟩
def BX (P:Params):Obj:=(tq #[])
def Nq (P:Params):Obj:={ cls:=.none,data:=Data.fields #[] }
def Np (P:Params):Obj:=(pr0 "_law_plain" 48)
def BW (P:Params):Obj:=(fc #[.str "_law_plain" 729,.str "_law_plain" 730,cp 731,.int 276 0,.int 1 0,.int 0 0,.int 0 0,.int 3 0,.ref 419,.bool true,.int 181 0,.ref 420,.none,.none,.none,.ref 421,.int 732 0,.int 276 0,cp 733])
def BR (P:Params):Obj:=⟨.type "function",none,.func (PySem.W.fnOf "_law_plain" "_law_plain" (aC (top0 48)) (aB (top0 48)) (ak (top0 48)) .none .none .none (.str "law_sluice_k57_whole_deeds_replayed" 643) none (.ref 422) .none),#[]⟩
def BP (P:Params):Obj:=(tq #[])
def Nm (P:Params):Obj:={ cls:=.none,data:=Data.fields #[] }
def BL (P:Params):Obj:=(tq #[.str "deed" 738,.str "day" 739,.str "lines" 740,.str "owners" 741,.str "line" 742,.str "k" 743])
def BK (P:Params):Obj:=(tq #[])
def Nj (P:Params):Obj:=(pr0 "_law_step" 49)
def BJ (P:Params):Obj:=(fc #[.str "_law_step" 735,.str "_law_step" 736,cp 737,.int 288 0,.int 4 0,.int 0 0,.int 0 0,.int 3 0,.ref 424,.bool true,.int 181 0,.ref 425,.none,.ref 426,.ref 427,.ref 428,.int 744 0,.int 288 0,cp 745])
def Bx (P:Params):Obj:=⟨.type "function",none,.func (PySem.W.fnOf "_law_step" "_law_step" (aC (top0 49)) (aB (top0 49)) (ak (top0 49)) .none .none .none (.str "law_sluice_k57_whole_deeds_replayed" 643) none (.ref 429) .none),#[]⟩
def Bw (P:Params):Obj:=(tq #[])
def Ni (P:Params):Obj:={ cls:=.none,data:=Data.fields #[] }
def Bv (P:Params):Obj:=(tq #[.str "deeds" 750,.str "day" 751,.str "lines" 752,.str "owners" 753,.str "deed" 754])
def Bu (P:Params):Obj:=(tq #[])
def Nh (P:Params):Obj:=(pr0 "_law_followed" 50)
def Bt (P:Params):Obj:=(fc #[.str "_law_followed" 747,.str "_law_followed" 748,cp 749,.int 308 0,.int 1 0,.int 0 0,.int 0 0,.int 3 0,.ref 431,.bool true,.int 181 0,.ref 432,.none,.ref 433,.ref 434,.ref 435,.int 755 0,.int 308 0,cp 756])
def Bs (P:Params):Obj:=⟨.type "function",none,.func (PySem.W.fnOf "_law_followed" "_law_followed" (aC (top0 50)) (aB (top0 50)) (ak (top0 50)) .none .none .none (.str "law_sluice_k57_whole_deeds_replayed" 643) none (.ref 436) .none),#[]⟩
def Br (P:Params):Obj:=(tq #[])
def Ng (P:Params):Obj:={ cls:=.none,data:=Data.fields #[] }
def Bq (P:Params):Obj:=(tq #[.str "below" 761,.str "deeds" 762,.str "deed" 763,.str "refused" 764])
def Bp (P:Params):Obj:=(tq #[])
def Nf (P:Params):Obj:=(pr0 "_law_refused" 51)
def Bo (P:Params):Obj:=(fc #[.str "_law_refused" 758,.str "_law_refused" 759,cp 760,.int 317 0,.int 3 0,.int 0 0,.int 0 0,.int 3 0,.ref 438,.bool true,.int 181 0,.ref 439,.none,.ref 440,.ref 441,.ref 442,.int 765 0,.int 317 0,cp 766])
def Bm (P:Params):Obj:=⟨.type "function",none,.func (PySem.W.fnOf "_law_refused" "_law_refused" (aC (top0 51)) (aB (top0 51)) (ak (top0 51)) .none .none .none (.str "law_sluice_k57_whole_deeds_replayed" 643) none (.ref 443) .none),#[]⟩
def Bl (P:Params):Obj:=(tq #[])
def Nb (P:Params):Obj:={ cls:=.none,data:=Data.fields #[] }
def Bk (P:Params):Obj:=(tq #[.str "script" 771,.str "below" 772,.str "one" 773,.str "stand" 774,.str "trail" 775,.str "cell" 776,.str "deed" 777,.str "handed" 778,.str "river" 779,.str "again" 780])
def Bj (P:Params):Obj:=(tq #[])
def M9 (P:Params):Obj:=(pr0 "law" 52)
def Bh (P:Params):Obj:=(fc #[.str "law" 768,.str "law" 769,cp 770,.int 324 0,.int 1 0,.int 0 0,.int 0 0,.int 3 0,.ref 445,.bool true,.int 181 0,.ref 446,.none,.ref 447,.ref 448,.ref 449,.int 781 0,.int 324 0,cp 782])
def Bg (P:Params):Obj:=⟨.type "function",none,.func (PySem.W.fnOf "law" "law" (aC (top0 52)) (aB (top0 52)) (ak (top0 52)) .none .none .none (.str "law_sluice_k57_whole_deeds_replayed" 643) none (.ref 450) .none),#[]⟩
def H0:Params→Heap:=fun P=>{ objs:=⟨Vv P :: Vu P :: UJ P :: ho_4 P :: Vt P :: Vs P :: Vr P :: Vq P :: Vp P :: RJ P :: Rt P :: []⟩ }
def H1:Params→Heap:=fun P=>{ objs:=⟨Vv P :: Vu P :: UJ P :: Rc P :: Vt P :: Vs P :: Vr P :: Vq P :: Vp P :: RJ P :: Rt P :: U7 P :: U6 P :: U5 P :: U4 P :: QH P :: U3 P :: Qy P :: Qo P :: U0 P :: Qh P :: Qd P :: P0 P :: UW P :: UL P :: Pu P :: Pk P :: Pb P :: UG P :: Uz P :: Uy P :: Ux P :: Uw P :: Uv P :: Od P :: N7 P :: NZ P :: Nz P :: Uu P :: Ut P :: Nk P :: Us P :: Ur P :: Uq P :: Uo P :: Um P :: Ul P :: M8 P :: M7 P :: M6 P :: Uk P :: Uj P :: M5 P :: Ui P :: Uh P :: Ug P :: Ue P :: Ud P :: Uc P :: M4 P :: MP P :: MN P :: Ub P :: Ua P :: MK P :: T9 P :: T8 P :: T7 P :: T6 P :: T5 P :: T4 P :: MJ P :: MF P :: Mz P :: T3 P :: TY P :: Mx P :: TV P :: TQ P :: TJ P :: TF P :: Tw P :: Tv P :: Mw P :: Mu P :: Mt P :: Tt P :: Tr P :: Ms P :: Tq P :: Tp P :: Tj P :: Ti P :: Tg P :: Tf P :: Mr P :: Mq P :: JF P :: RG P :: RD P :: JD P :: RB P :: Rz P :: Ry P :: Rx P :: Rw P :: Ru P :: JC P :: JB P :: Jz P :: Rr P :: Rq P :: Jy P :: Rp P :: Ro P :: Rn P :: Rm P :: Rk P :: Rj P :: Jx P :: Jw P :: Jv P :: Ri P :: Rh P :: Ju P :: Rg P :: Rf P :: Rb P :: Ra P :: Q9 P :: Q8 P :: Jt P :: Js P :: Jr P :: Q7 P :: Q6 P :: Jq P :: Q5 P :: Jp P :: Jo P :: Q0 P :: Jm P :: Jl P :: Jk P :: QZ P :: QX P :: Jj P :: Ji P :: Jh P :: QW P :: Jg P :: Jf P :: QV P :: Je P :: Jd P :: Jc P :: QT P :: Jb P :: Ja P :: QS P :: IW P :: IV P :: IK P :: QM P :: Iz P :: Iw P :: QL P :: Iu P :: Ir P :: Ip P :: QK P :: Io P :: Im P :: QJ P :: Il P :: Ik P :: Ij P :: QG P :: Ii P :: Ih P :: QF P :: Ig P :: Ie P :: Ib P :: QD P :: Ia P :: HY P :: QC P :: HX P :: HW P :: HS P :: QB P :: HN P :: HJ P :: Qz P :: HF P :: HD P :: Qx P :: Qw P :: Qv P :: Qu P :: Qt P :: Qs P :: Qq P :: HB P :: Qp P :: Hz P :: Hw P :: Qn P :: Hv P :: Hu P :: Ht P :: Qm P :: Hs P :: Hr P :: Ql P :: Hq P :: Ho P :: Hl P :: Qk P :: Hj P :: Hi P :: Qj P :: Hh P :: Hg P :: Hf P :: Qi P :: G9 P :: G8 P :: Qg P :: G7 P :: G6 P :: G5 P :: Qf P :: G4 P :: G3 P :: Qe P :: GZ P :: GX P :: GR P :: Qc P :: GQ P :: GP P :: Qa P :: GK P :: GJ P :: GF P :: GD P :: PX P :: GC P :: Gz P :: PN P :: Gy P :: Gx P :: Gw P :: PL P :: Gv P :: Gu P :: PK P :: Gs P :: Gq P :: Gp P :: PJ P :: Gn P :: Gm P :: PB P :: Gk P :: Gj P :: Gi P :: Pz P :: Gh P :: Gg P :: Py P :: Gf P :: Ge P :: Gd P :: Px P :: Gb P :: Ga P :: Pr P :: FZ P :: FW P :: FT P :: Pq P :: FQ P :: FP P :: Pn P :: FN P :: FJ P :: Fz P :: Pj P :: Ph P :: Fy P :: Fx P :: Fw P :: Pg P :: Fv P :: Ft P :: Pa P :: Fq P :: Fp P :: Fo P :: O9 P :: O8 P :: Fl P :: Fj P :: Fi P :: O7 P :: Fg P :: Fe P :: O6 P :: Fd P :: Fb P :: EY P :: O4 P :: Ez P :: Ey P :: OJ P :: Ew P :: Eu P :: Et P :: Oz P :: Es P :: Er P :: Ox P :: Ep P :: Eo P :: En P :: Em P :: El P :: Ek P :: Ej P :: Ov P :: Ou P :: Ei P :: Ot P :: Eh P :: Ef P :: Oq P :: Ed P :: Eb P :: Ea P :: Oo P :: DY P :: DX P :: Om P :: DW P :: DR P :: DQ P :: Ol P :: DP P :: DN P :: Oj P :: DK P :: DG P :: Dz P :: Oi P :: Dy P :: Dw P :: Oh P :: Dv P :: Du P :: Dt P :: Og P :: Ds P :: Dr P :: Oe P :: Dq P :: Dp P :: Dn P :: Oc P :: Ob P :: Dl P :: Dk P :: Dj P :: Oa P :: N8 P :: Di P :: Dh P :: Dg P :: N6 P :: Dd P :: Dc P :: N5 P :: CZ P :: CV P :: CT P :: NT P :: CQ P :: CP P :: NQ P :: CK P :: CJ P :: CG P :: NP P :: NK P :: Cz P :: Cy P :: Cw P :: Ny P :: Cv P :: Cu P :: Nx P :: Cr P :: Cq P :: Cp P :: Nv P :: Cm P :: Ck P :: Nu P :: Cj P :: Ci P :: Cg P :: Nt P :: Ce P :: Cd P :: Nr P :: Ca P :: BZ P :: BX P :: Nq P :: Np P :: BW P :: BR P :: BP P :: Nm P :: BL P :: BK P :: Nj P :: BJ P :: Bx P :: Bw P :: Ni P :: Bv P :: Bu P :: Nh P :: Bt P :: Bs P :: Br P :: Ng P :: Bq P :: Bp P :: Nf P :: Bo P :: Bm P :: Bl P :: Nb P :: Bk P :: Bj P :: M9 P :: Bh P :: Bg P :: []⟩ }
def Kf:Params→PySem.W.Frag:=fun P=>(nat_lit 2,UJ P) ::
 (nat_lit 3,Rc P) ::
 (nat_lit 15,QH P) ::
 (nat_lit 17,Qy P) ::
 (nat_lit 18,Qo P) ::
 (nat_lit 20,Qh P) ::
 (nat_lit 21,Qd P) ::
 (nat_lit 22,P0 P) ::
 (nat_lit 25,Pu P) ::
 (nat_lit 26,Pk P) ::
 (nat_lit 27,Pb P) ::
 (nat_lit 34,Od P) ::
 (nat_lit 35,N7 P) ::
 (nat_lit 36,NZ P) ::
 (nat_lit 37,Nz P) ::
 (nat_lit 40,Nk P) ::
 (nat_lit 47,M8 P) ::
 (nat_lit 48,M7 P) ::
 (nat_lit 49,M6 P) ::
 (nat_lit 52,M5 P) ::
 (nat_lit 59,M4 P) ::
 (nat_lit 60,MP P) ::
 (nat_lit 61,MN P) ::
 (nat_lit 64,MK P) ::
 (nat_lit 71,MJ P) ::
 (nat_lit 72,MF P) ::
 (nat_lit 73,Mz P) ::
 (nat_lit 76,Mx P) ::
 (nat_lit 83,Mw P) ::
 (nat_lit 84,Mu P) ::
 (nat_lit 85,Mt P) ::
 (nat_lit 88,Ms P) ::
 (nat_lit 95,Mr P) ::
 (nat_lit 96,Mq P) ::
 (nat_lit 97,JF P) ::
 (nat_lit 100,JD P) ::
 (nat_lit 107,JC P) ::
 (nat_lit 108,JB P) ::
 (nat_lit 109,Jz P) ::
 (nat_lit 112,Jy P) ::
 (nat_lit 119,Jx P) ::
 (nat_lit 120,Jw P) ::
 (nat_lit 121,Jv P) ::
 (nat_lit 124,Ju P) ::
 (nat_lit 131,Jt P) ::
 (nat_lit 132,Js P) ::
 (nat_lit 133,Jr P) ::
 (nat_lit 136,Jq P) ::
 (nat_lit 138,Jp P) ::
 (nat_lit 139,Jo P) ::
 (nat_lit 141,Jm P) ::
 (nat_lit 142,Jl P) ::
 (nat_lit 143,Jk P) ::
 (nat_lit 146,Jj P) ::
 (nat_lit 147,Ji P) ::
 (nat_lit 148,Jh P) ::
 (nat_lit 150,Jg P) ::
 (nat_lit 151,Jf P) ::
 (nat_lit 153,Je P) ::
 (nat_lit 154,Jd P) ::
 (nat_lit 155,Jc P) ::
 (nat_lit 157,Jb P) ::
 (nat_lit 158,Ja P) ::
 (nat_lit 160,IW P) ::
 (nat_lit 161,IV P) ::
 (nat_lit 162,IK P) ::
 (nat_lit 164,Iz P) ::
 (nat_lit 165,Iw P) ::
 (nat_lit 167,Iu P) ::
 (nat_lit 168,Ir P) ::
 (nat_lit 169,Ip P) ::
 (nat_lit 171,Io P) ::
 (nat_lit 172,Im P) ::
 (nat_lit 174,Il P) ::
 (nat_lit 175,Ik P) ::
 (nat_lit 176,Ij P) ::
 (nat_lit 178,Ii P) ::
 (nat_lit 179,Ih P) ::
 (nat_lit 181,Ig P) ::
 (nat_lit 182,Ie P) ::
 (nat_lit 183,Ib P) ::
 (nat_lit 185,Ia P) ::
 (nat_lit 186,HY P) ::
 (nat_lit 188,HX P) ::
 (nat_lit 189,HW P) ::
 (nat_lit 190,HS P) ::
 (nat_lit 192,HN P) ::
 (nat_lit 193,HJ P) ::
 (nat_lit 195,HF P) ::
 (nat_lit 196,HD P) ::
 (nat_lit 204,HB P) ::
 (nat_lit 206,Hz P) ::
 (nat_lit 207,Hw P) ::
 (nat_lit 209,Hv P) ::
 (nat_lit 210,Hu P) ::
 (nat_lit 211,Ht P) ::
 (nat_lit 213,Hs P) ::
 (nat_lit 214,Hr P) ::
 (nat_lit 216,Hq P) ::
 (nat_lit 217,Ho P) ::
 (nat_lit 218,Hl P) ::
 (nat_lit 220,Hj P) ::
 (nat_lit 221,Hi P) ::
 (nat_lit 223,Hh P) ::
 (nat_lit 224,Hg P) ::
 (nat_lit 225,Hf P) ::
 (nat_lit 227,G9 P) ::
 (nat_lit 228,G8 P) ::
 (nat_lit 230,G7 P) ::
 (nat_lit 231,G6 P) ::
 (nat_lit 232,G5 P) ::
 (nat_lit 234,G4 P) ::
 (nat_lit 235,G3 P) ::
 (nat_lit 237,GZ P) ::
 (nat_lit 238,GX P) ::
 (nat_lit 239,GR P) ::
 (nat_lit 241,GQ P) ::
 (nat_lit 242,GP P) ::
 (nat_lit 244,GK P) ::
 (nat_lit 245,GJ P) ::
 (nat_lit 246,GF P) ::
 (nat_lit 247,GD P) ::
 (nat_lit 249,GC P) ::
 (nat_lit 250,Gz P) ::
 (nat_lit 252,Gy P) ::
 (nat_lit 253,Gx P) ::
 (nat_lit 254,Gw P) ::
 (nat_lit 256,Gv P) ::
 (nat_lit 257,Gu P) ::
 (nat_lit 259,Gs P) ::
 (nat_lit 260,Gq P) ::
 (nat_lit 261,Gp P) ::
 (nat_lit 263,Gn P) ::
 (nat_lit 264,Gm P) ::
 (nat_lit 266,Gk P) ::
 (nat_lit 267,Gj P) ::
 (nat_lit 268,Gi P) ::
 (nat_lit 270,Gh P) ::
 (nat_lit 271,Gg P) ::
 (nat_lit 273,Gf P) ::
 (nat_lit 274,Ge P) ::
 (nat_lit 275,Gd P) ::
 (nat_lit 277,Gb P) ::
 (nat_lit 278,Ga P) ::
 (nat_lit 280,FZ P) ::
 (nat_lit 281,FW P) ::
 (nat_lit 282,FT P) ::
 (nat_lit 284,FQ P) ::
 (nat_lit 285,FP P) ::
 (nat_lit 287,FN P) ::
 (nat_lit 288,FJ P) ::
 (nat_lit 289,Fz P) ::
 (nat_lit 292,Fy P) ::
 (nat_lit 293,Fx P) ::
 (nat_lit 294,Fw P) ::
 (nat_lit 296,Fv P) ::
 (nat_lit 297,Ft P) ::
 (nat_lit 299,Fq P) ::
 (nat_lit 300,Fp P) ::
 (nat_lit 301,Fo P) ::
 (nat_lit 304,Fl P) ::
 (nat_lit 305,Fj P) ::
 (nat_lit 306,Fi P) ::
 (nat_lit 308,Fg P) ::
 (nat_lit 309,Fe P) ::
 (nat_lit 311,Fd P) ::
 (nat_lit 312,Fb P) ::
 (nat_lit 313,EY P) ::
 (nat_lit 315,Ez P) ::
 (nat_lit 316,Ey P) ::
 (nat_lit 318,Ew P) ::
 (nat_lit 319,Eu P) ::
 (nat_lit 320,Et P) ::
 (nat_lit 322,Es P) ::
 (nat_lit 323,Er P) ::
 (nat_lit 325,Ep P) ::
 (nat_lit 326,Eo P) ::
 (nat_lit 327,En P) ::
 (nat_lit 328,Em P) ::
 (nat_lit 329,El P) ::
 (nat_lit 330,Ek P) ::
 (nat_lit 331,Ej P) ::
 (nat_lit 334,Ei P) ::
 (nat_lit 336,Eh P) ::
 (nat_lit 337,Ef P) ::
 (nat_lit 339,Ed P) ::
 (nat_lit 340,Eb P) ::
 (nat_lit 341,Ea P) ::
 (nat_lit 343,DY P) ::
 (nat_lit 344,DX P) ::
 (nat_lit 346,DW P) ::
 (nat_lit 347,DR P) ::
 (nat_lit 348,DQ P) ::
 (nat_lit 350,DP P) ::
 (nat_lit 351,DN P) ::
 (nat_lit 353,DK P) ::
 (nat_lit 354,DG P) ::
 (nat_lit 355,Dz P) ::
 (nat_lit 357,Dy P) ::
 (nat_lit 358,Dw P) ::
 (nat_lit 360,Dv P) ::
 (nat_lit 361,Du P) ::
 (nat_lit 362,Dt P) ::
 (nat_lit 364,Ds P) ::
 (nat_lit 365,Dr P) ::
 (nat_lit 367,Dq P) ::
 (nat_lit 368,Dp P) ::
 (nat_lit 369,Dn P) ::
 (nat_lit 372,Dl P) ::
 (nat_lit 373,Dk P) ::
 (nat_lit 374,Dj P) ::
 (nat_lit 377,Di P) ::
 (nat_lit 378,Dh P) ::
 (nat_lit 379,Dg P) ::
 (nat_lit 381,Dd P) ::
 (nat_lit 382,Dc P) ::
 (nat_lit 384,CZ P) ::
 (nat_lit 385,CV P) ::
 (nat_lit 386,CT P) ::
 (nat_lit 388,CQ P) ::
 (nat_lit 389,CP P) ::
 (nat_lit 391,CK P) ::
 (nat_lit 392,CJ P) ::
 (nat_lit 393,CG P) ::
 (nat_lit 396,Cz P) ::
 (nat_lit 397,Cy P) ::
 (nat_lit 398,Cw P) ::
 (nat_lit 400,Cv P) ::
 (nat_lit 401,Cu P) ::
 (nat_lit 403,Cr P) ::
 (nat_lit 404,Cq P) ::
 (nat_lit 405,Cp P) ::
 (nat_lit 407,Cm P) ::
 (nat_lit 408,Ck P) ::
 (nat_lit 410,Cj P) ::
 (nat_lit 411,Ci P) ::
 (nat_lit 412,Cg P) ::
 (nat_lit 414,Ce P) ::
 (nat_lit 415,Cd P) ::
 (nat_lit 417,Ca P) ::
 (nat_lit 418,BZ P) ::
 (nat_lit 419,BX P) ::
 (nat_lit 422,BW P) ::
 (nat_lit 423,BR P) ::
 (nat_lit 424,BP P) ::
 (nat_lit 426,BL P) ::
 (nat_lit 427,BK P) ::
 (nat_lit 429,BJ P) ::
 (nat_lit 430,Bx P) ::
 (nat_lit 431,Bw P) ::
 (nat_lit 433,Bv P) ::
 (nat_lit 434,Bu P) ::
 (nat_lit 436,Bt P) ::
 (nat_lit 437,Bs P) ::
 (nat_lit 438,Br P) ::
 (nat_lit 440,Bq P) ::
 (nat_lit 441,Bp P) ::
 (nat_lit 443,Bo P) ::
 (nat_lit 444,Bm P) ::
 (nat_lit 445,Bl P) ::
 (nat_lit 447,Bk P) ::
 (nat_lit 448,Bj P) ::
 (nat_lit 450,Bh P) ::
 (nat_lit 451,Bg P) :: []
def asK:List Addr:=[2,3,15,17,18,20,21,22,25,26,27,34,35,36,37,40,47,48,49,52,59,60,61,64,71,72,73,76,83,84,85,88,95,96,97,100,107,108,109,112,119,120,121,124,131,132,133,136,138,139,141,142,143,146,147,148,150,151,153,154,155,157,158,160,161,162,164,165,167,168,169,171,172,174,175,176,178,179,181,182,183,185,186,188,189,190,192,193,195,196,204,206,207,209,210,211,213,214,216,217,218,220,221,223,224,225,227,228,230,231,232,234,235,237,238,239,241,242,244,245,246,247,249,250,252,253,254,256,257,259,260,261,263,264,266,267,268,270,271,273,274,275,277,278,280,281,282,284,285,287,288,289,292,293,294,296,297,299,300,301,304,305,306,308,309,311,312,313,315,316,318,319,320,322,323,325,326,327,328,329,330,331,334,336,337,339,340,341,343,344,346,347,348,350,351,353,354,355,357,358,360,361,362,364,365,367,368,369,372,373,374,377,378,379,381,382,384,385,386,388,389,391,392,393,396,397,398,400,401,403,404,405,407,408,410,411,412,414,415,417,418,419,422,423,424,426,427,429,430,431,433,434,436,437,438,440,441,443,444,445,447,448,450,451]
theorem hkE:∀ P,asK=(Kf P).map (·.1):=fun _=>by kernel_rfl
def qv:Program:={ PySem.Challenge.pw_sluice_k57_whole_deeds_replayed with main:={ PySem.Challenge.pw_sluice_k57_whole_deeds_replayed.main with body:=[top0 52] } }
def uV:List Str:=("MOST_WATER":Str) :: ("LONGEST_NAME":Str) :: ("LETTERS":Str) :: ("is_water":Str) :: ("is_name":Str) :: ("SluiceError":Str) :: ("NoRiver":Str) :: ("NoLicence":Str) :: ("NoNumber":Str) :: ("NoHolder":Str) :: ("NotYours":Str) :: ("NotAlone":Str) :: ("TooMuch":Str) :: ("Full":Str) :: ("MOST_REACHES":Str) :: ("MOUTH":Str) :: ("comes_to_mouth":Str) :: ("is_river":Str) :: ("way_of":Str) :: ("LAST_DAY":Str) :: ("is_licence":Str) :: ("day_filed":Str) :: ("most_of":Str) :: ("with_start":Str) :: ("with_most":Str) :: ("MOST_LICENCES":Str) :: ("look_at_name":Str) :: ("Roll":Str) :: ("do_anew":Str) :: ("replayed":Str) :: ("_law_cell_at":Str) :: ("_law_whole":Str) :: ("_law_draw":Str) :: ("_law_draws":Str) :: ("_law_river":Str) :: ("_law_amount":Str) :: ("_law_name":Str) :: ("_law_deed":Str) :: ("_law_do":Str) :: ("_law_done":Str) :: ("_law_stand":Str) :: ("_law_plain":Str) :: ("_law_step":Str) :: ("_law_followed":Str) :: ("_law_refused":Str) :: []
end
theorem hp1:∀ w:World,(PySem.W.fencedOpening PySem.treeTable PySem.Challenge.rw_sluice_k57_whole_deeds_replayed.row.toRowW.prog w 7460).map (fun s=>(s.heap,s.gens,s.drawn,s.toks))=some (H0 w.params,#[],{},181):=by
  intro w;kernel_rfl
theorem hp2:∀ w:World,((H0 w.params).isNs mainGlobals && (#[]:Array GenState).size == 0,(H0 w.params).objs.size,(H0 w.params).nsMap mainGlobals "__annotations__")=(true,11,some (Value.ref 6)):=by
  intro w;kernel_rfl
theorem hp3:∀ (w:World) (os:OsState),PySem.W.topRun PySem.treeTable PySem.Challenge.rw_sluice_k57_whole_deeds_replayed.row.toRowW.prog w 11 (some (Value.ref 6)) 7460 ⟨H0 w.params,#[],{},181,os⟩ (PySem.W.topStub PySem.Challenge.rw_sluice_k57_whole_deeds_replayed.row.toRowW.prog)=some ⟨H1 w.params,#[],{},784,os⟩:=by
  intro w os;kernel_rfl
theorem hp4:∀ w:World,(fun os=>((PySem.W.staticsOk (importedModules PySem.Challenge.rw_sluice_k57_whole_deeds_replayed.row.toRowW.prog.main.body) (H0 w.params) (H1 w.params) && PySem.W.namesBound PySem.Challenge.rw_sluice_k57_whole_deeds_replayed.row.toRowW.prog (H1 w.params) && PySem.W.gensDone ⟨H1 w.params,#[],{},784,os⟩ && PySem.W.laidKept (H0 w.params) (H1 w.params)),PySem.W.openSeen qv uV (importedModules PySem.Challenge.rw_sluice_k57_whole_deeds_replayed.row.toRowW.prog.main.body) (fun s=>PySem.W.xlAt My.qv [] s && PySem.W.recOk (PySem.W.RowW.records PySem.Challenge.rw_sluice_k57_whole_deeds_replayed.row.toRowW) s) true ⟨H1 w.params,#[],{},784,os⟩,(PySem.W.Hook.obs (PySem.W.kHook My.Kf My.asK My.hkE)) ⟨H1 w.params,#[],{},784,os⟩))=fun _=>(true,PySem.W.openGood qv uV,(PySem.W.Hook.val (PySem.W.kHook My.Kf My.asK My.hkE)) w):=by
  intro w;kernel_rfl
theorem hlE:PySem.W.LeftO PySem.Challenge.rw_sluice_k57_whole_deeds_replayed.row.toRowW.prog qv My.uV (fun s=>PySem.W.xlAt My.qv [] s && PySem.W.recOk (PySem.W.RowW.records PySem.Challenge.rw_sluice_k57_whole_deeds_replayed.row.toRowW) s) (PySem.W.Hook.obs (PySem.W.kHook My.Kf My.asK My.hkE)) (PySem.W.Hook.val (PySem.W.kHook My.Kf My.asK My.hkE)) 7460:=PySem.W.LeftO.of_pieces hp1 hp2 hp3 (by decide) hp4
end My
namespace L2
open PySem PySem.Spec PyProof.Rows
abbrev Key:=Sum Int Str
def Mi:Key→Value→Bool
  | .inl k,v=>Value.isInt k v
  | .inr x,v=>Value.isStrOf x v
def keyH (w:World):Key→Int
  | .inl k=>hashInt k
  | .inr x=>hashStr w x
theorem eU:∀ {k:Key} {v:Value},Mi k v=true→(∃ i t,k=Sum.inl i∧v=Value.int i t)∨(∃ x t,k=Sum.inr x∧v=Value.str x t)
  | .inl i,v,h=>by
    obtain ⟨t,e⟩:=Value.isInt_shape (k:=i) (v:=v) h
    exact .inl ⟨i,t,rfl,e⟩
  | .inr x,v,h=>by
    obtain ⟨t,e⟩:=Value.isStrOf_shape (x:=x) (v:=v) h
    exact .inr ⟨x,t,rfl,e⟩
theorem Mh (a b:Int):decide ((Sum.inl a:Key)=Sum.inl b)=(a == b):=by
  by_cases e:a=b
  · subst e;simp
  · have h:¬ (Sum.inl a:Key)=Sum.inl b:=fun q=>e (Sum.inl.inj q)
    rw [decide_eq_false h]
    exact (beq_eq_false_iff_ne.mpr e).symm
theorem Ma (a b:Str):decide ((Sum.inr a:Key)=Sum.inr b)=decide (a=b):=by
  by_cases e:a=b
  · subst e;simp
  · have h:¬ (Sum.inr a:Key)=Sum.inr b:=fun q=>e (Sum.inr.inj q)
    rw [decide_eq_false h,decide_eq_false e]
theorem Mg (a:Int) (b:Str):decide ((Sum.inl a:Key)=Sum.inr b)=false:=decide_eq_false (fun q=>nomatch q)
theorem Mf (a:Str) (b:Int):decide ((Sum.inr a:Key)=Sum.inl b)=false:=decide_eq_false (fun q=>nomatch q)
def yj (prog:Program) (w:World):PySem.KeyKind prog w Key where
  is:=Mi
  hash:=keyH w
  inj:=fun v a b ha hb=>by
    rcases eU ha with ⟨i,t,rfl,rfl⟩ | ⟨x,t,rfl,rfl⟩
    · rcases eU hb with ⟨j,u,rfl,e⟩ | ⟨y,u,rfl,e⟩
      · injection e with e1 _;rw [e1]
      · exact nomatch e
    · rcases eU hb with ⟨j,u,rfl,e⟩ | ⟨y,u,rfl,e⟩
      · exact nomatch e
      · injection e with e1 _;rw [e1]
  byValue:=fun k v h=>by
    rcases eU h with ⟨i,t,rfl,rfl⟩ | ⟨x,t,rfl,rfl⟩ <;> rfl
  pyHash:=fun hv h=>by
    rcases eU hv with ⟨i,t,rfl,rfl⟩ | ⟨x,t,rfl,rfl⟩
    · exact wpAny_pyHash_int h
    · exact wpAny_pyHash_str h
  eqBool:=fun hu hv h=>by
    rcases eU hu with ⟨i,t,rfl,rfl⟩ | ⟨x,t,rfl,rfl⟩
    · rcases eU hv with ⟨j,u,rfl,rfl⟩ | ⟨y,u,rfl,rfl⟩
      · rw [Mh] at h;exact wpAny_eqBool_int h
      · rw [Mg] at h;exact SeqAt.EqAt.int_str i t y u _ _ _ _ h
    · rcases eU hv with ⟨j,u,rfl,rfl⟩ | ⟨y,u,rfl,rfl⟩
      · rw [Mf] at h;exact SeqAt.EqAt.str_int x t j u _ _ _ _ h
      · rw [Ma] at h;exact wpAny_eqBool_str h
  «strs»:=fun k x t v h=>by
    rcases eU h with ⟨i,u,rfl,e⟩ | ⟨y,u,rfl,e⟩
    · exact nomatch e
    · injection e with e1 _
      subst e1
      cases v <;> rfl
end L2
namespace L2
open PySem PySem.Spec PyProof.Rows
inductive V where
  | non | bl (b:Bool) | int (i:Int) | str (x:Str) | byt (b:Array UInt8) | flt (b:UInt64) | ref (a:Addr) | ty (n:String)
  deriving DecidableEq
def RelV:V→Value→Prop
  | .non,u=>u=Value.none
  | .bl b,u=>u=Value.bool b
  | .int i,u=>∃ t,u=Value.int i t
  | .str x,u=>∃ t,u=Value.str x t
  | .byt b,u=>∃ t,u=Value.bytes b t
  | .flt b,u=>∃ t,u=Value.float b t
  | .ref a,u=>u=Value.ref a
  | .ty n,u=>u=Value.type n
abbrev Vals:List V→List Value→Prop:=Paired RelV
theorem Vals.length {xs:List V} {us:List Value} (r:Vals xs us):xs.length=us.length:=Paired.length r
theorem Vals.get:∀ {xs:List V} {us:List Value} {i:Nat} {x:V},Vals xs us→xs[i]?=some x→∃ u,us[i]?=some u∧RelV x u
  | _,_,_,_,.nil,e=>by simp at e
  | _,_,0,_,.cons r _,e=>by simp at e;subst e;exact ⟨_,rfl,r⟩
  | _,_,i + 1,x,.cons _ t,e=>by
    obtain ⟨u,h1,h2⟩:=Vals.get (i:=i) (x:=x) t (by simpa using e)
    exact ⟨u,by simpa using h1,h2⟩
theorem Vals.set {x:V} {u:Value} (r:RelV x u):∀ {xs:List V} {us:List Value} (i:Nat),Vals xs us→Vals (xs.set i x) (us.set i u)
  | _,_,_,.nil=>.nil
  | _,_,0,.cons _ t=>.cons r t
  | _,_,i + 1,.cons q t=>.cons q (Vals.set r i t)
theorem Vals.append:∀ {xs ys:List V} {us ws:List Value},Vals xs us→Vals ys ws→Vals (xs++ys) (us++ws)
  | _,_,_,_,.nil,s=>s
  | _,_,_,_,.cons r t,s=>.cons r (Vals.append t s)
theorem Vals.take:∀ {xs:List V} {us:List Value} (n:Nat),Vals xs us→Vals (xs.take n) (us.take n)
  | _,_,0,_=>.nil
  | _,_,_ + 1,.nil=>.nil
  | _,_,n + 1,.cons r t=>.cons r (Vals.take n t)
theorem Vals.drop:∀ {xs:List V} {us:List Value} (n:Nat),Vals xs us→Vals (xs.drop n) (us.drop n)
  | _,_,0,r=>r
  | _,_,_ + 1,.nil=>.nil
  | _,_,n + 1,.cons _ t=>Vals.drop n t
def zf:Option V→Option Value→Prop
  | some v,some u=>RelV v u
  | none,none=>True
  | _,_=>False
def KV {κ:Type}:List (κ × V)→List (κ × Value)→Prop:=Paired fun (p:κ × V) (q:κ × Value)=>p.1=q.1∧RelV p.2 q.2
def kV:Key→V
  | .inl i=>.int i
  | .inr x=>.str x
inductive HO where
  /-- a list -/
  | lst (xs:List V)
  /-- a tuple (never changes) -/
  | tup (xs:List V)
  /-- a dict whose keys are ints and texts; one whose keys are tuples of ints and texts (the empty one is both) -/
  | dK (kvs:List (Key × V)) | dT (kvs:List (List Key × V))
  /-- a set of ints: its members, its size -/
  | set (S:Int→Bool) (n:Nat)
  /-- an instance of the class at C, its dict at dx, its attributes -/
  | ins (C dx:Addr) (fs:List (Str × V))
  /-- the dict of the instance at x -/
  | own (x:Addr)
  /-- the dict of an exception -/
  | xd (fs:List (Str × V))
  /-- a bound method, f of x -/
  | met (f x:Addr)
  /-- a range object lo, lo + 1, .. below hi -/
  | rng (lo hi:Int)
  /-- a thing that is known to the object (the script; a dict while a loop walks it): read, never written while it is so -/
  | frz (o:Obj) (u:HO)
  /-- a code object's table -/
  | tbl (ps:Array Value)
  /-- any other thing, by what is true of its one object (a def of one's own: SetO a S n := HO.ext fun h => ..) -/
  | ext (φ:Heap→Prop)
abbrev Hp:=Addr→Option HO
def upd (H:Hp) (a:Addr) (o:HO):Hp:=fun b=>if b=a then some o else H b
theorem dO {H:Hp} {a:Addr} {o:HO}:upd H a o a=some o:=by unfold upd;rw [if_pos rfl]
theorem bh {H:Hp} {a b:Addr} {o:HO} (h:b≠a):upd H a o b=H b:=by unfold upd;rw [if_neg h]
theorem cZ {H:Hp} {a b:Addr} {o:HO} (h:H a=some o) (h':H b=none):a≠b:=by
  intro e;subst e;rw [h] at h';cases h'
section
variable (P:Program) (w:World)
def iD (H:Hp) (h:Heap) (a:Addr):HO→Prop
  | .lst xs=>xs.length≤sizeLine∧∃ (its:List Value) (n:Nat),Vals xs its∧h.get? a=some { cls:=.type "list",data:=.seq its.toArray n }
  | .tup xs=>xs.length≤sizeLine∧∃ its:List Value,Vals xs its∧IsTup h a its.toArray
  | .dK kvs=>kvs.length≤sizeLine∧(a == sysModules)=false∧∃ vs,KV kvs vs∧h.DictOf (yj P w) a vs
  | .dT kvs=>kvs.length≤sizeLine∧(a == sysModules)=false∧∃ xs:List (List Key × Addr × Value),
      Paired (fun (p:List Key × V) (q:List Key × Addr × Value)=>p.1=q.1∧H q.2.1=some (.tup (p.1.map kV))∧RelV p.2 q.2.2) kvs xs ∧
      ∃ o es ep,h.get? a=some o∧o.ExactDict∧o.data=.dict es ep∧es.toList=xs.map (entryOfKey (tupleKind (yj P w)))∧(xs.map (·.1)).Nodup
  | .set S n=>h.SetOf (intKind P w) a S n
  | .ins C dx fs=>H dx=some (.own a)∧fs.length≤1000∧dx≠a∧h.get? a=some (PySem.W.instObj C dx) ∧
      ∃ mA,h.Ns1 dx mA∧(∀ f,zf (fs.lookup f) (mA f))∧PySem.Within mA (fs.map (·.1))
  | .own _=>∃ o,h.get? a=some o
  | .xd fs=>∃ mA,h.Ns1 a mA∧∀ f,zf (fs.lookup f) (mA f)
  | .rng lo hi=>∃ t u v,h.get? a=some { cls:=.type "range",data:=.fields #[.int lo t,.int hi u,.int 1 v] }
  | .frz o u=>h.get? a=some o∧iD H h a u
  | .tbl ps=>h.get? a=some { cls:=.none,data:=.fields ps }
  | .met f x=>h.get? a=some (PySem.W.methodObj (.ref f) (.ref x))
  | .ext φ=>φ h∧(∃ o,h.get? a=some o)∧∀ h1 h2:Heap,φ h1→(∀ o,h1.get? a=some o→h2.get? a=some o)→φ h2
def HOk (H:Hp) (h:Heap):Prop:=∀ a o,H a=some o→iD P w H h a o
end
section
variable {P:Program} {w:World} {H H':Hp} {h h':Heap} {a:Addr} {o:HO}
theorem iD.lt (x:iD P w H h a o):a<h.objs.size:=by
  cases o with
  | lst xs=>obtain ⟨_,_,_,_,e⟩:=x;exact Heap.lt_size e
  | tup xs=>obtain ⟨_,_,_,p⟩:=x;exact p.lt
  | dK kvs=>obtain ⟨_,_,_,_,o,_,_,e,_⟩:=x;exact Heap.lt_size e
  | dT kvs=>obtain ⟨_,_,_,_,o,_,_,e,_⟩:=x;exact Heap.lt_size e
  | set S n=>obtain ⟨o,_,_,_,e,_⟩:=x;exact Heap.lt_size e
  | ins C dx fs=>obtain ⟨_,_,_,e,_⟩:=x;exact Heap.lt_size e
  | own y=>obtain ⟨_,e⟩:=x;exact Heap.lt_size e
  | xd fs=>obtain ⟨_,⟨_,_,_,e,_⟩,_⟩:=x;exact Heap.lt_size e
  | rng lo hi=>obtain ⟨_,_,_,e⟩:=x;exact Heap.lt_size e
  | frz ob u=>obtain ⟨e,_⟩:=x;exact Heap.lt_size e
  | tbl ps=>exact Heap.lt_size (show h.get? a=some _ from x)
  | met f y=>exact Heap.lt_size (show h.get? a=some _ from x)
  | ext φ=>obtain ⟨_,⟨_,e⟩,_⟩:=x;exact Heap.lt_size e
theorem Paired.Vn {α β:Type} {F G:α→β→Prop}:∀ {l₁:List α} {l₂:List β},Paired F l₁ l₂→(∀ a b,F a b→G a b)→Paired G l₁ l₂
  | _,_,.nil,_=>.nil
  | _,_,.cons r t,f=>.cons (f _ _ r) (Paired.Vn t f)
theorem iD.stay (x:iD P w H h a o) (k:∀ b u,(b=a∨H b=some (.own a))→h.get? b=some u→h'.get? b=some u)
    (ho:∀ b,H b=some (.own a)→H' b=some (.own a)) (ht:∀ b xs,H b=some (.tup xs)→H' b=some (.tup xs)):iD P w H' h' a o:=by
  induction o with
  | lst xs=>obtain ⟨z,its,n,r,e⟩:=x;exact ⟨z,its,n,r,k _ _ (.inl rfl) e⟩
  | tup xs=>obtain ⟨z,its,r,ob,e,c⟩:=x;exact ⟨z,its,r,ob,k _ _ (.inl rfl) e,c⟩
  | dK kvs=>obtain ⟨z,y,vs,r,ob,es,ep,e,c⟩:=x;exact ⟨z,y,vs,r,ob,es,ep,k _ _ (.inl rfl) e,c⟩
  | dT kvs =>
    obtain ⟨z,y,xs,r,ob,es,ep,e,c⟩:=x
    exact ⟨z,y,xs,Paired.Vn r fun p q z=>⟨z.1,ht _ _ z.2.1,z.2.2⟩,ob,es,ep,k _ _ (.inl rfl) e,c⟩
  | set S n=>obtain ⟨ob,es,ep,t,e,c⟩:=x;exact ⟨ob,es,ep,t,k _ _ (.inl rfl) e,c⟩
  | ins C dx fs =>
    obtain ⟨d,z,ne,e,mA,⟨od,es,ep,e2,c⟩,r⟩:=x
    exact ⟨ho _ d,z,ne,k _ _ (.inl rfl) e,mA,⟨od,es,ep,k _ _ (.inr d) e2,c⟩,r⟩
  | own y=>obtain ⟨ob,e⟩:=x;exact ⟨ob,k _ _ (.inl rfl) e⟩
  | xd fs=>obtain ⟨mA,⟨od,es,ep,e,c⟩,r⟩:=x;exact ⟨mA,⟨od,es,ep,k _ _ (.inl rfl) e,c⟩,r⟩
  | rng lo hi=>obtain ⟨t,u,v,e⟩:=x;exact ⟨t,u,v,k _ _ (.inl rfl) e⟩
  | frz ob u ih=>obtain ⟨e,q⟩:=x;exact ⟨k _ _ (.inl rfl) e,ih q⟩
  | tbl ps =>
    have e:h.get? a=some { cls:=.none,data:=.fields ps }:=x
    show h'.get? a=some { cls:=.none,data:=.fields ps }
    exact k a _ (.inl rfl) e
  | met f y =>
    have e:h.get? a=some (PySem.W.methodObj (.ref f) (.ref y)):=x
    show h'.get? a=some (PySem.W.methodObj (.ref f) (.ref y))
    exact k a _ (.inl rfl) e
  | ext φ=>obtain ⟨p,⟨o,e⟩,st⟩:=x;exact ⟨st _ _ p fun o q=>k _ _ (.inl rfl) q,⟨o,k _ _ (.inl rfl) e⟩,st⟩
theorem HOk.lt (x:HOk P w H h) (e:H a=some o):a<h.objs.size:=(x a o e).lt
theorem HOk.fresh (x:HOk P w H h) (e:h.objs.size≤a):H a=none:=by
  cases q:H a with
  | none=>rfl
  | some u=>exact absurd (Nat.lt_of_lt_of_le (x.lt q) e) (Nat.lt_irrefl _)
theorem HOk.kept (x:HOk P w H h) (k:∀ b u,h.get? b=some u→h'.get? b=some u):HOk P w H h':=fun a o e =>
  (x a o e).stay (fun b u _ q=>k b u q) (fun _ q=>q) fun _ _ q=>q
theorem HOk.laid (x:HOk P w H h) (k:∀ b u,h.get? b=some u→h'.get? b=some u) (hp:h.objs.size≤a) (new:iD P w (upd H a o) h' a o):HOk P w (upd H a o) h':=fun b u e=>by
  have hn:=x.fresh hp
  by_cases hb:b=a
  · subst hb;rw [dO] at e;cases e;exact new
  · rw [bh hb] at e
    exact (x b u e).stay (fun c v _ q=>k c v q) (fun c q=>by rw [bh (cZ q hn)];exact q) fun c xs q=>by rw [bh (cZ q hn)];exact q
end
def Rd (H:Hp) (a:Addr) (u:HO):Prop:=H a=some u∨∃ o,H a=some (.frz o u)
theorem Rd.ok {P:Program} {w:World} {H:Hp} {h:Heap} {a:Addr} {u:HO} (r:Rd H a u) (x:HOk P w H h):iD P w H h a u:=by
  rcases r with r | ⟨o,r⟩
  · exact x a u r
  · obtain ⟨_,q⟩:=x a _ r
    exact q
def Mut:Option HO→Prop
  | some (.lst _)=>True
  | some (.dK _)=>True
  | some (.dT _)=>True
  | some (.set _ _)=>True
  | some (.ins _ _ _)=>True
  | some (.ext _)=>True
  | _=>False
section
variable {P:Program} {w:World} {H:Hp} {h h':Heap} {x e:Addr} {o':HO}
theorem HOk.write (ok:HOk P w H h) (mu:Mut (H x)) (he:e=x∨H e=some (.own x)) (k:∀ b u,b≠e→h.get? b=some u→h'.get? b=some u) (heo:∃ u,h'.get? e=some u)
    (new:iD P w (upd H x o') h' x o'):HOk P w (upd H x o') h':=fun b u q=>by
  have nown:∀ c y,H c=some (.own y)→c≠x:=fun c y r z=>by subst z;rw [r] at mu;exact mu
  have ntup:∀ c xs,H c=some (.tup xs)→c≠x:=fun c xs r z=>by subst z;rw [r] at mu;exact mu
  by_cases hb:b=x
  · subst hb;rw [dO] at q;cases q;exact new
  · rw [bh hb] at q
    by_cases hbe:b=e
    · have q':H b=some (.own x):=by
        rcases he with z | z
        · exact absurd (hbe.trans z) hb
        · rw [hbe];exact z
      rw [q] at q';cases q'
      obtain ⟨v,hv⟩:=heo
      exact ⟨v,by rw [hbe];exact hv⟩
    · refine (ok b u q).stay (fun c v hc r=>k c v ?_ r) (fun c r=>by rw [bh (nown c b r)];exact r) fun c xs r=>by rw [bh (ntup c xs r)];exact r
      rcases hc with rfl | hc
      · exact hbe
      · rintro rfl
        rcases he with z | z
        · exact nown c b hc z
        · rw [hc] at z;cases z;exact hb rfl
end
structure Un (fs ex:List Addr) (H H':Hp) (h h':Heap):Prop where
  keep:∀ b o,h.get? b=some o→H b=none→b ∉ fs→b ∉ ex→h'.get? b=some o
  slot:∀ b o,h.get? b=some o→H b=none→b∈fs→b ∉ ex→∃ sl,h'.get? b=some { o with slots:=sl }
  free:∀ b o,h.get? b=some o→H b=none→b ∉ ex→H' b=none
  there:∀ b o,h.get? b=some o→b ∉ ex→∃ o',h'.get? b=some o'
  tups:∀ b xs,H b=some (.tup xs)→H' b=some (.tup xs)
  frzs:∀ b o u,H b=some (.frz o u)→H' b=some (.frz o u)
  tbls:∀ b ps,H b=some (.tbl ps)→∃ more,H' b=some (.tbl (ps++more))
section
variable {fs fs' ex ex':List Addr} {H H1 H2:Hp} {h h1 h2 h':Heap} {a x e:Addr} {o:HO}
theorem Un.any (u:Un fs ex H H1 h h1) {b:Addr} {ob:Obj} (q:h.get? b=some ob) (n:H b=none) (hx:b ∉ ex):∃ sl,h1.get? b=some { ob with slots:=sl }:=by
  by_cases hb:b∈fs
  · exact u.slot b ob q n hb hx
  · exact ⟨ob.slots,u.keep b ob q n hb hx⟩
theorem Un.kept (k:∀ b u,h.get? b=some u→h'.get? b=some u):Un fs ex H H h h' :=
  ⟨fun b ob q _ _ _=>k b ob q,fun b ob q _ _ _=>⟨ob.slots,k b ob q⟩,fun _ _ _ n _=>n,fun b ob q _=>⟨ob,k b ob q⟩,fun _ _ q=>q,fun _ _ _ q=>q,fun _ ps q=>⟨#[],by rw [q];simp⟩⟩
theorem Un.refl:Un fs ex H H h h:=Un.kept fun _ _ q=>q
theorem Un.laid (k:∀ b u,h.get? b=some u→h'.get? b=some u) (hp:h.objs.size≤a) (hn:H a=none):Un fs ex H (upd H a o) h h' where
  keep:=fun b u q _ _ _=>k b u q
  slot:=fun b u q _ _ _=>⟨u.slots,k b u q⟩
  free:=fun b u q n _=>by rw [bh (Nat.ne_of_lt (Nat.lt_of_lt_of_le (Heap.lt_size q) hp))];exact n
  there:=fun b u q _=>⟨u,k b u q⟩
  tups:=fun b xs q=>by rw [bh (cZ q hn)];exact q
  frzs:=fun b u xs q=>by rw [bh (cZ q hn)];exact q
  tbls:=fun b ps q=>⟨#[],by rw [bh (cZ q hn),q];simp⟩
theorem Un.write (mu:Mut (H x)) (he:e=x∨H e=some (.own x)) (k:∀ b u,b≠e→h.get? b=some u→h'.get? b=some u) (heo:∃ u,h'.get? e=some u):Un fs ex H (upd H x o) h h':=by
  have hx:∀ b,H b=none→b≠x:=fun b n z=>by subst z;rw [n] at mu;exact mu
  have hb:∀ b,H b=none→b≠e:=fun b n z=>by
    subst z
    rcases he with r | r
    · exact hx b n r
    · rw [n] at r;cases r
  have hm:∀ b u,H b=some u→¬ Mut (some u)→b≠x:=fun b u q nm z=>by subst z;rw [q] at mu;exact nm mu
  refine ⟨fun b u q n _ _=>k b u (hb b n) q,fun b u q n _ _=>⟨u.slots,k b u (hb b n) q⟩,fun b u q n _=>by rw [bh (hx b n)];exact n,fun b u q _=>?_,
    fun b xs q=>by rw [bh (hm b _ q fun z=>z)];exact q,fun b u xs q=>by rw [bh (hm b _ q fun z=>z)];exact q,fun b ps q=>⟨#[],by rw [bh (hm b _ q fun z=>z),q];simp⟩⟩
  by_cases hbe:b=e
  · subst hbe;exact heo
  · exact ⟨u,k b u hbe q⟩
end
def trk (h:Heap) (H:Hp):List Addr:=(List.range h.objs.size).filter fun a=>(H a).isSome
def z9 (h:Heap) (H:Hp):Heap:=PySem.W.hideAll h (trk h H)
theorem yC (h:Heap) (H:Hp):(z9 h H).objs.size=h.objs.size:=PySem.W.hideAll_size _ _
theorem z8 {h:Heap} {H:Hp} {b:Addr} {o:Obj} (e:h.get? b=some o) (n:H b=none):(z9 h H).get? b=some o :=
  PySem.W.hideAll_get _ e fun hm=>by
    have q:(H b).isSome=true:=(List.mem_filter.mp hm).2
    rw [n] at q;simp at q
theorem Km {h:Heap} {H:Hp} {b:Addr} {o:Obj} (e:(z9 h H).get? b=some o):h.get? b=some o∧H b=none:=by
  have e':h.get? b=some o:=PySem.W.of_hideAll (trk h H) e
  refine ⟨e',?_⟩
  cases q:H b with
  | none=>rfl
  | some x =>
    have hm:b∈trk h H:=List.mem_filter.mpr ⟨List.mem_range.mpr (Heap.lt_size e'),by simp [q]⟩
    have z:(z9 h H).get? b=none:=PySem.W.hideAll_none (trk h H) hm
    rw [z] at e;cases e
end L2
namespace L2
open PySem PySem.Spec PyProof.Rows
structure Mod (K:PySem.W.Frag) (mg:Str→Option Value) (base:Heap):Prop where
  kin:K.In base
  glob:base.Ns mainGlobals mg
  blt:∃ mb,base.Ns builtinsNs mb∧∀ x:Str,x≠"__name__"→mb x=bootBuiltins x
  nolimit:base.NoLimit
structure Cx where
  prog:Program
  w:World
  K:PySem.W.Frag
  mg:Str→Option Value
  base:Heap
  A:Around
  N:List Str
  s₀:Shared
  H₀:Hp
  env:Env
  outer:List Env
  stack:List Env
  ex:List Addr
  fn:Str→Bool
  calm:Bool
  pn:List (Addr × Obj)
  xe:Value→Shared→Prop
def frs (l:List Env):List Addr:=l.filterMap (·.frame)
abbrev Cx.fs (X:Cx):List Addr:=frs X.outer
def Vis (sc:Scope) (x:Str):Prop:=sc.names.lookup x=some .local∨sc.names.lookup x=some .cell∨sc.names.lookup x=some .free
def Loc (sc:Scope) (x:Str):Prop:=sc.names.lookup x=some .local∨sc.names.lookup x=some .cell
def Look (env:Env) (h:Heap) (m:Str→Option Value) (x:Str) (u:Value):Prop :=
  (env.kindOf x=some .local∧m x=some u)∨((env.kindOf x=some .cell∨env.kindOf x=some .free)∧∃ c,env.cells.lookup x=some c∧h.IsCell c (some u))
structure Cx.Ok (X:Cx):Prop where
  mod:Mod X.K X.mg X.base
  kind:X.env.scope.kind=.function
  glob:X.env.globals=mainGlobals
  blt:X.env.builtins=builtinsNs
  above:X.s₀.heap.objs.size≤X.env.locals
  inj:∀ x y c,X.env.cells.lookup x=some c→X.env.cells.lookup y=some c→x=y
  has:∀ x,(X.env.kindOf x=some .cell∨X.env.kindOf x=some .free)→∃ c,X.env.cells.lookup x=some c
  cab:∀ x c,X.fn x=true→X.env.cells.lookup x=some c→X.s₀.heap.objs.size≤c
  hd:X.calm=true→X.A.handled=none
  frames:X.A.frames=some X.stack
  stk:X.stack=X.outer∨(X.stack=X.env :: X.outer∧X.env.frame=some X.env.locals)
  exf:∀ b∈X.ex,b≠X.env.locals∧∀ x c,X.env.cells.lookup x=some c→c≠b
  bs:∀ b o,X.base.get? b=some o→X.s₀.heap.get? b=some o∧X.H₀ b=none
  bsz:X.base.objs.size≤X.s₀.heap.objs.size
  noex:∀ b o,X.base.get? b=some o→b ∉ X.ex
  exfs:∀ b∈X.ex,b ∉ X.fs
  uZ:X.s₀.heap.FunFrames X.base X.outer
  frf:∀ b∈X.fs,X.H₀ b=none
structure Inv (X:Cx) (pins:List (Addr × Obj)) (σ:List (Option V)) (H:Hp) (s:Shared):Prop where
  ok:X.Ok
  os:s.os=X.s₀.os
  bare:AllBare s.gens
  base:Un X.fs X.ex X.H₀ H X.s₀.heap s.heap
  loc:∃ m,s.heap.Ns X.env.locals m∧∀ (i:Nat) (x:Str) (v:V),X.N[i]?=some x→σ[i]?=some (some v)→Vis X.env.scope x→∃ u,RelV v u∧Look X.env s.heap m x u
  cell:∀ x c,X.env.cells.lookup x=some c→∃ v,s.heap.IsCell c v
  free:H X.env.locals=none
  freeC:∀ x c,X.env.cells.lookup x=some c→H c=none
  pin:∀ p∈X.pn++pins,s.heap.get? p.1=some p.2∧H p.1=none∧p.1≠X.env.locals∧p.1 ∉ X.fs∧∀ v,p.2.data≠.cell v
  hok:HOk X.prog X.w H s.heap
  len:σ.length=X.N.length
section
variable {X:Cx} {pins:List (Addr × Obj)} {σ:List (Option V)} {H H':Hp} {s:Shared} {h':Heap}
theorem Cx.Ok.nofr (ok:X.Ok) {b:Addr} {o:Obj} (e:X.base.get? b=some o):b ∉ X.fs:=fun hb=>by
  have:=(ok.uZ.mem hb).1
  rw [e] at this;cases this
theorem Inv.bs (I:Inv X pins σ H s):∀ b o,X.base.get? b=some o→s.heap.get? b=some o∧H b=none:=fun b o e =>
  ⟨I.base.keep b o (I.ok.bs b o e).1 (I.ok.bs b o e).2 (I.ok.nofr e) (I.ok.noex b o e),I.base.free b o (I.ok.bs b o e).1 (I.ok.bs b o e).2 (I.ok.noex b o e)⟩
theorem Inv.bk (I:Inv X pins σ H s):∀ b o,X.base.get? b=some o→s.heap.get? b=some o:=fun b o e=>(I.bs b o e).1
theorem Inv.mod (I:Inv X pins σ H s):Mod X.K X.mg X.base:=I.ok.mod
theorem Inv.kIn (I:Inv X pins σ H s):X.K.In s.heap:=I.ok.mod.kin.keeps I.bk
theorem Inv.lt (I:Inv X pins σ H s):X.env.locals<s.heap.objs.size:=let ⟨_,hn,_⟩:=I.loc;hn.lt
theorem Inv.sz (I:Inv X pins σ H s):X.s₀.heap.objs.size≤s.heap.objs.size:=Nat.le_trans I.ok.above (Nat.le_of_lt I.lt)
theorem Inv.nofs (I:Inv X pins σ H s) {a:Addr} (h:s.heap.objs.size≤a):a ∉ X.fs:=fun hb=>by
  obtain ⟨_,o,ho,_⟩:=I.ok.uZ.mem hb
  exact absurd (Nat.lt_of_lt_of_le (Heap.lt_size ho) (Nat.le_trans I.sz h)) (Nat.lt_irrefl _)
theorem Inv.cne (I:Inv X pins σ H s):∀ x c,X.env.cells.lookup x=some c→c≠X.env.locals:=fun x c e z=>by
  obtain ⟨v,o,ho,hd⟩:=I.cell x c e
  obtain ⟨m,⟨o',es,ep,ho',hd',_⟩,_⟩:=I.loc
  rw [z,ho'] at ho;cases ho;rw [hd'] at hd;cases hd
theorem Inv.uZ (I:Inv X pins σ H s):s.heap.FunFrames X.base X.outer:=by
  have all:∀ (l:List Env),(∀ b∈frs l,b∈X.fs)→X.s₀.heap.FunFrames X.base l→s.heap.FunFrames X.base l:=by
    intro l
    induction l with
    | nil=>intro _ _;trivial
    | cons env r ih =>
      intro hs hl
      obtain ⟨hk,⟨L,o,hf,hn,ho,hd⟩,hr⟩:=hl
      have hL:L∈X.fs:=hs L (by unfold frs;rw [List.filterMap_cons,hf];exact List.mem_cons_self)
      obtain ⟨sl,e⟩:=I.base.slot L o ho (I.ok.frf L hL) hL fun z=>I.ok.exfs L z hL
      exact ⟨hk,⟨L,_,hf,hn,e,hd⟩,ih (fun b hb=>hs b (by unfold frs;rw [List.filterMap_cons,hf];exact List.mem_cons_of_mem _ hb)) hr⟩
  exact all X.outer (fun _ hb=>hb) I.ok.uZ
theorem Inv.stack (I:Inv X pins σ H s):s.heap.FunFrames X.base X.stack:=by
  rcases I.ok.stk with e | ⟨e,hf⟩
  · rw [e];exact I.uZ
  · rw [e]
    obtain ⟨m,hn,_⟩:=I.loc
    refine .cons (by rw [I.ok.kind];decide) hf hn ?_ I.uZ
    exact Heap.get?_none_of_le (Nat.le_trans I.ok.bsz I.ok.above)
theorem Inv.wC (I:Inv X pins σ H s):∀ b∈frs X.stack,b∈X.env.locals :: X.fs:=fun b hb=>by
  rcases I.ok.stk with e | ⟨e,hf⟩
  · rw [e] at hb;exact List.mem_cons_of_mem _ hb
  · rw [e] at hb
    unfold frs at hb
    rw [List.filterMap_cons,hf] at hb
    exact hb
theorem Inv.sG (I:Inv X pins σ H s):∀ b∈frs X.stack,H b=none:=fun b hb=>by
  rcases List.mem_cons.mp (I.wC b hb) with e | hb
  · rw [e];exact I.free
  · obtain ⟨_,o,ho,_⟩:=I.ok.uZ.mem hb
    exact I.base.free b o ho (I.ok.frf b hb) fun z=>I.ok.exfs b z hb
theorem Inv.step {g':Array GenState} {t':Nat} {d':Drawn} {ch:List Addr} (I:Inv X pins σ H s)
    (hch:∀ b∈ch,(b∈X.ex∨X.s₀.heap.objs.size≤b)∧b≠X.env.locals∧(∀ x c,X.env.cells.lookup x=some c→c≠b)∧∀ p∈X.pn++pins,p.1≠b)
    (keep:∀ b o,b≠X.env.locals→b ∉ X.fs→b ∉ ch→s.heap.get? b=some o→H b=none→h'.get? b=some o)
    (slot:∀ b o,b≠X.env.locals→b∈X.fs→b ∉ ch→s.heap.get? b=some o→H b=none→∃ sl,h'.get? b=some { o with slots:=sl }) (free:∀ b o,b ∉ ch→s.heap.get? b=some o→H b=none→H' b=none)
    (there:∀ b o,b ∉ ch→s.heap.get? b=some o→∃ o',h'.get? b=some o')
    (tups:∀ b xs,H b=some (.tup xs)→H' b=some (.tup xs)) (frzs:∀ b o u,H b=some (.frz o u)→H' b=some (.frz o u)) (tbls:∀ b ps,H b=some (.tbl ps)→∃ more,H' b=some (.tbl (ps++more)))
    (ns:∀ m,s.heap.Ns X.env.locals m→h'.Ns X.env.locals m) (hok:HOk X.prog X.w H' h') (hg:AllBare g') :
    Inv X pins σ H' { s with heap:=h',gens:=g',drawn:=d',toks:=t' }:=by
  have neL:∀ b o,X.s₀.heap.get? b=some o→b≠X.env.locals:=fun b o e=>Nat.ne_of_lt (Nat.lt_of_lt_of_le (Heap.lt_size e) I.ok.above)
  have neC:∀ b o,X.s₀.heap.get? b=some o→b ∉ X.ex→b ∉ ch:=fun b o e hx hb=>by
    rcases (hch b hb).1 with z | z
    · exact hx z
    · exact absurd (Nat.lt_of_lt_of_le (Heap.lt_size e) z) (Nat.lt_irrefl _)
  have cellK:∀ x c,X.env.cells.lookup x=some c→∀ v,s.heap.IsCell c v→h'.IsCell c v:=fun x c e v ⟨o,ho,hd⟩=>by
    have nch:c ∉ ch:=fun z=>(hch c z).2.2.1 x c e rfl
    by_cases hc:c∈X.fs
    · obtain ⟨sl,q⟩:=slot c o (I.cne x c e) hc nch ho (I.freeC x c e)
      exact ⟨_,q,hd⟩
    · exact ⟨o,keep c o (I.cne x c e) hc nch ho (I.freeC x c e),hd⟩
  refine ⟨I.ok,I.os,hg,⟨fun b o e n hb hx=>?_,fun b o e n hb hx=>?_,fun b o e n hx=>?_,fun b o e hx=>?_,fun b xs e=>tups b xs (I.base.tups b xs e),fun b o xs e=>frzs b o xs (I.base.frzs b o xs e),fun b ps e=>?_⟩,?_,fun x c e=>?_,?_,fun x c e=>?_,fun p hp=>?_,hok,I.len⟩
  · exact keep b o (neL b o e) hb (neC b o e hx) (I.base.keep b o e n hb hx) (I.base.free b o e n hx)
  · obtain ⟨sl,e1⟩:=I.base.slot b o e n hb hx
    obtain ⟨sl',e2⟩:=slot b _ (neL b o e) hb (neC b o e hx) e1 (I.base.free b o e n hx)
    exact ⟨sl',e2⟩
  · obtain ⟨o',e1⟩:=I.base.there b o e hx
    exact free b o' (neC b o e hx) e1 (I.base.free b o e n hx)
  · obtain ⟨o',e1⟩:=I.base.there b o e hx
    exact there b o' (neC b o e hx) e1
  · obtain ⟨m1,e1⟩:=I.base.tbls b ps e
    obtain ⟨m2,e2⟩:=tbls b _ e1
    exact ⟨m1++m2,by rw [e2,Array.append_assoc]⟩
  · obtain ⟨m,hn,hl⟩:=I.loc
    refine ⟨m,ns m hn,fun i x v e1 e2 e3=>?_⟩
    obtain ⟨u,r,l⟩:=hl i x v e1 e2 e3
    refine ⟨u,r,?_⟩
    rcases l with l | ⟨k,c,e,z⟩
    · exact .inl l
    · exact .inr ⟨k,c,e,cellK x c e _ z⟩
  · obtain ⟨v,z⟩:=I.cell x c e
    exact ⟨v,cellK x c e v z⟩
  · obtain ⟨m,⟨o,_,_,ho,_⟩,_⟩:=I.loc
    exact free _ o (fun z=>(hch _ z).2.1 rfl) ho I.free
  · obtain ⟨v,o,ho,hd⟩:=I.cell x c e
    exact free c o (fun z=>(hch c z).2.2.1 x c e rfl) ho (I.freeC x c e)
  · obtain ⟨e,n,ne,nf,d⟩:=I.pin p hp
    have nch:p.1 ∉ ch:=fun z=>(hch p.1 z).2.2.2 p hp rfl
    exact ⟨keep p.1 p.2 ne nf nch e n,free p.1 p.2 nch e n,ne,nf,d⟩
theorem Inv.un {t':Nat} (I:Inv X pins σ H s) (u:Un X.fs [] H H' s.heap h') (hok:HOk X.prog X.w H' h'):Inv X pins σ H' { s with heap:=h',toks:=t' }:=by
  obtain ⟨m,⟨o,es,ep,ho,r⟩,_⟩:=id I.loc
  obtain ⟨sl,hL⟩:=u.any ho I.free (by simp)
  exact I.step (g':=s.gens) (d':=s.drawn) (ch:=[]) (fun _ z=>nomatch z) (fun b o _ hb _ e n=>u.keep b o e n hb (by simp)) (fun b o _ hb _ e n=>u.slot b o e n hb (by simp)) (fun b o _ e n=>u.free b o e n (by simp)) (fun b o _ e=>u.there b o e (by simp)) u.tups u.frzs u.tbls (fun m' hm=>by
    obtain ⟨o',es',ep',ho',r'⟩:=hm
    rw [ho] at ho';cases ho'
    exact ⟨_,es',ep',hL,r'⟩) hok I.bare
theorem Inv.call {g':Array GenState} {t':Nat} {d':Drawn} {ch:List Addr} (I:Inv X pins σ H s) (u:Un (frs X.stack) ch H H' s.heap h') (hok:HOk X.prog X.w H' h') (hg:AllBare g')
    (hch:∀ b∈ch,(b∈X.ex∨X.s₀.heap.objs.size≤b)∧b≠X.env.locals∧(∀ x c,X.env.cells.lookup x=some c→c≠b)∧∀ p∈X.pn++pins,p.1≠b) :
    Inv X pins σ H' { s with heap:=h',gens:=g',drawn:=d',toks:=t' }:=by
  obtain ⟨m,⟨o,es,ep,ho,r⟩,_⟩:=id I.loc
  obtain ⟨sl,hL⟩:=u.any ho I.free fun z=>(hch _ z).2.1 rfl
  exact I.step (ch:=ch) hch (fun b o hL hb hc e n=>u.keep b o e n (fun z=>(List.mem_cons.mp (I.wC b z)).elim hL hb) hc) (fun b o _ _ hc e n=>u.any e n hc) (fun b o hc e n=>u.free b o e n hc) (fun b o hc e=>u.there b o e hc) u.tups u.frzs u.tbls (fun m' hm=>by
    obtain ⟨o',es',ep',ho',r'⟩:=hm
    rw [ho] at ho';cases ho'
    exact ⟨_,es',ep',hL,r'⟩) hok hg
theorem Inv.turned {t':Nat} {it:Addr} (I:Inv X pins σ H s) (k:∀ b o,b≠it→s.heap.get? b=some o→h'.get? b=some o) (hn:H it=none) (hL:it≠X.env.locals)
    (h1:it∈X.ex∨X.s₀.heap.objs.size≤it) (h2:∀ x c,X.env.cells.lookup x=some c→c≠it) (h3:∀ p∈X.pn++pins,p.1≠it):Inv X pins σ H { s with heap:=h',toks:=t' }:=by
  have nit:∀ b u,H b=some u→b≠it:=fun b u e z=>by rw [z,hn] at e;cases e
  refine I.step (g':=s.gens) (d':=s.drawn) (ch:=[it]) (fun b hb=>?_) (fun b o _ _ hc e _=>k b o (fun z=>hc (by simp [z])) e) (fun b o _ _ hc e _=>⟨o.slots,k b o (fun z=>hc (by simp [z])) e⟩) (fun _ _ _ _ n=>n)
    (fun b o hc e=>⟨o,k b o (fun z=>hc (by simp [z])) e⟩) (fun _ _ e=>e) (fun _ _ _ e=>e) (fun b ps e=>⟨#[],by rw [e];simp⟩) (fun m hm=>?_) (fun b u e=>?_) I.bare
  · have e:b=it:=by simpa using hb
    subst e
    exact ⟨h1,hL,h2,h3⟩
  · obtain ⟨o,es,ep,ho,r⟩:=hm
    exact ⟨o,es,ep,k _ o (Ne.symm hL) ho,r⟩
  · refine (I.hok b u e).stay (fun c v hc q=>k c v ?_ q) (fun _ q=>q) fun _ _ q=>q
    rcases hc with z | z
    · rw [z];exact nit b u e
    · exact nit c _ z
theorem Inv.tok (I:Inv X pins σ H s) (t:Nat):Inv X pins σ H { s with toks:=t }:=I.un (h':=s.heap) (t':=t) Un.refl I.hok
theorem Inv.kept {t':Nat} (I:Inv X pins σ H s) (k:∀ b u,s.heap.get? b=some u→h'.get? b=some u):Inv X pins σ H { s with heap:=h',toks:=t' }:=I.un (Un.kept k) (I.hok.kept k)
theorem Inv.laid {a:Addr} {o:HO} {t':Nat} (I:Inv X pins σ H s) (k:∀ b u,s.heap.get? b=some u→h'.get? b=some u) (hp:s.heap.objs.size≤a) (new:iD X.prog X.w (upd H a o) h' a o) :
    Inv X pins σ (upd H a o) { s with heap:=h',toks:=t' }:=I.un (Un.laid k hp (I.hok.fresh hp)) (I.hok.laid k hp new)
theorem Inv.write {x e:Addr} {o:HO} {t':Nat} (I:Inv X pins σ H s) (mu:Mut (H x)) (he:e=x∨H e=some (.own x)) (k:∀ b u,b≠e→s.heap.get? b=some u→h'.get? b=some u) (heo:∃ u,h'.get? e=some u)
    (new:iD X.prog X.w (upd H x o) h' x o):Inv X pins σ (upd H x o) { s with heap:=h',toks:=t' }:=I.un (Un.write mu he k heo) (I.hok.write mu he k heo new)
theorem Inv.xG {pins':List (Addr × Obj)} (I:Inv X pins σ H s) (h:∀ p∈pins',s.heap.get? p.1=some p.2∧H p.1=none∧p.1≠X.env.locals∧p.1 ∉ X.fs∧∀ v,p.2.data≠.cell v):Inv X pins' σ H s :=
  ⟨I.ok,I.os,I.bare,I.base,I.loc,I.cell,I.free,I.freeC,fun p hp=>(List.mem_append.mp hp).elim (fun z=>I.pin p (List.mem_append_left _ z)) (h p),I.hok,I.len⟩
theorem uT {N:List Str} (hN:N.Nodup) {i j:Nat} {x:Str} (a:N[i]?=some x) (b:N[j]?=some x):i=j:=by
  obtain ⟨h1,e1⟩:=List.getElem?_eq_some_iff.mp a
  obtain ⟨h2,e2⟩:=List.getElem?_eq_some_iff.mp b
  exact (List.getElem_inj hN).mp (e1.trans e2.symm)
theorem qF {M:Model} {A:Around} {E:Value→Shared→Prop} {i:Nat} {x:Str} {v:V} {u:Value} {Q:Unit→Shared→Prop} (I:Inv X pins σ H s) (hN:X.N.Nodup) (hi:X.N[i]?=some x) (hx:Loc X.env.scope x) (r:RelV v u)
    (h:∀ s',Inv X pins (σ.set i (some v)) H s'→(∃ a,Heap.SameBut a s.heap s'.heap∧(a=X.env.locals∨X.env.cells.lookup x=some a))→Q () s') (hf:X.fn x=true∨X.env.scope.names.lookup x=some .local:=by first | exact .inl rfl | exact .inr rfl | assumption):wpAny M A (storeName X.env x u) Q E s:=by
  obtain ⟨m,hn,hl⟩:=id I.loc
  have hcls:(X.env.scope.kind == .class || (X.env.scope.kind == .module && X.env.locals != X.env.globals))=false:=by rw [I.ok.kind];rfl
  have hiσ:i<σ.length:=by rw [I.len];exact (List.getElem?_eq_some_iff.mp hi).1
  have cne:=I.cne
  have tracked:∀ {a:Addr} {h':Heap},(∃ o,s.heap.get? a=some o∧H a=none)→Heap.SameBut a s.heap h'→HOk X.prog X.w H h':=fun {a h'} ha hs b ob e=>by
    obtain ⟨_,_,hfree⟩:=ha
    refine (I.hok b ob e).stay (fun c w' hc q=>(hs.2 c ?_).trans q) (fun _ q=>q) fun _ _ q=>q
    rintro rfl
    rcases hc with rfl | hc
    · rw [hfree] at e;cases e
    · rw [hfree] at hc;cases hc
  rcases hx with hk | hk
  · refine wpAny_storeName_local hk hn (fun h' hn' hs=>?_) hcls
    obtain ⟨oL,_,_,hoL,_⟩:=id hn
    refine h _ ⟨I.ok,I.os,I.bare,⟨fun b o e n hb hx=>?_,fun b o e n hb hx=>?_,I.base.free,fun b o e hx=>?_,I.base.tups,I.base.frzs,I.base.tbls⟩,⟨_,hn',fun j y v' e1 e2 e3=>?_⟩,fun y c e=>?_,I.free,I.freeC,fun p hp=>?_,tracked ⟨oL,hoL,I.free⟩ hs,by simpa using I.len⟩ ⟨_,hs,.inl rfl⟩
    · exact (hs.2 b (Nat.ne_of_lt (Nat.lt_of_lt_of_le (Heap.lt_size e) I.ok.above))).trans (I.base.keep b o e n hb hx)
    · obtain ⟨sl,e1⟩:=I.base.slot b o e n hb hx
      exact ⟨sl,(hs.2 b (Nat.ne_of_lt (Nat.lt_of_lt_of_le (Heap.lt_size e) I.ok.above))).trans e1⟩
    · obtain ⟨o',e1⟩:=I.base.there b o e hx
      exact ⟨o',(hs.2 b (Nat.ne_of_lt (Nat.lt_of_lt_of_le (Heap.lt_size e) I.ok.above))).trans e1⟩
    · by_cases hj:j=i
      · subst hj
        rw [hi] at e1;cases e1
        rw [List.getElem?_set_self hiσ] at e2
        cases e2
        exact ⟨u,r,.inl ⟨hk,by simp⟩⟩
      · rw [List.getElem?_set_ne (Ne.symm hj)] at e2
        obtain ⟨u',r',q⟩:=hl j y v' e1 e2 e3
        refine ⟨u',r',?_⟩
        rcases q with ⟨k,e⟩ | ⟨k,c,e,z⟩
        · refine .inl ⟨k,?_⟩
          have:y≠x:=fun e=>hj (uT hN e1 (e ▸ hi))
          simp [this,e]
        · exact .inr ⟨k,c,e,z.sameBut hs (cne y c e)⟩
    · obtain ⟨w',z⟩:=I.cell y c e
      exact ⟨w',z.sameBut hs (cne y c e)⟩
    · obtain ⟨e,n,ne,nf,d⟩:=I.pin p hp
      exact ⟨(hs.2 p.1 ne).trans e,n,ne,nf,d⟩
  · have hfn:X.fn x=true:=by
      rcases hf with z | z
      · exact z
      · rw [z] at hk;cases hk
    obtain ⟨c,hc⟩:=I.ok.has x (.inl hk)
    obtain ⟨w',z⟩:=I.cell x c hc
    refine wpAny_storeName_cell I.ok.kind hk hc z (fun h' hc' hs=>?_)
    obtain ⟨oc,hoc,hocd⟩:=id z
    refine h { s with heap:=h' } ⟨I.ok,I.os,I.bare,⟨fun b o e n hb hx=>?_,fun b o e n hb hx=>?_,I.base.free,fun b o e hx=>?_,I.base.tups,I.base.frzs,I.base.tbls⟩,⟨m,hn.sameBut hs (Ne.symm (cne x c hc)),fun j y v' e1 e2 e3=>?_⟩,fun y c' e=>?_,I.free,I.freeC,fun p hp=>?_,tracked ⟨oc,hoc,I.freeC x c hc⟩ hs,by simpa using I.len⟩ ⟨c,hs,.inr hc⟩
    · exact (hs.2 b (Nat.ne_of_lt (Nat.lt_of_lt_of_le (Heap.lt_size e) (I.ok.cab x c hfn hc)))).trans (I.base.keep b o e n hb hx)
    · obtain ⟨sl,e1⟩:=I.base.slot b o e n hb hx
      exact ⟨sl,(hs.2 b (Nat.ne_of_lt (Nat.lt_of_lt_of_le (Heap.lt_size e) (I.ok.cab x c hfn hc)))).trans e1⟩
    · obtain ⟨o',e1⟩:=I.base.there b o e hx
      exact ⟨o',(hs.2 b (Nat.ne_of_lt (Nat.lt_of_lt_of_le (Heap.lt_size e) (I.ok.cab x c hfn hc)))).trans e1⟩
    · by_cases hj:j=i
      · subst hj
        rw [hi] at e1;cases e1
        rw [List.getElem?_set_self hiσ] at e2
        cases e2
        exact ⟨u,r,.inr ⟨.inl hk,c,hc,hc'⟩⟩
      · rw [List.getElem?_set_ne (Ne.symm hj)] at e2
        obtain ⟨u',r',q⟩:=hl j y v' e1 e2 e3
        refine ⟨u',r',?_⟩
        rcases q with q | ⟨k,c',e,z'⟩
        · exact .inl q
        · refine .inr ⟨k,c',e,z'.sameBut hs ?_⟩
          rintro rfl
          exact hj (uT hN e1 (I.ok.inj _ _ _ e hc ▸ hi))
    · by_cases hcc:c'=c
      · subst hcc;exact ⟨_,hc'⟩
      · obtain ⟨w2,z2⟩:=I.cell y c' e
        exact ⟨w2,z2.sameBut hs hcc⟩
    · obtain ⟨e,n,ne,nf,d⟩:=I.pin p hp
      refine ⟨(hs.2 p.1 ?_).trans e,n,ne,nf,d⟩
      intro q
      rw [q,hoc] at e
      have q':oc=p.2:=Option.some.inj e
      exact d w' (by rw [← q'];exact hocd)
theorem uD {M:Model} {A:Around} {E:Value→Shared→Prop} {i:Nat} {x:Str} {v:V} {u:Value} {Q:Unit→Shared→Prop} (I:Inv X pins σ H s) (hN:X.N.Nodup) (hi:X.N[i]?=some x) (hx:Loc X.env.scope x) (r:RelV v u)
    (h:∀ s',Inv X pins (σ.set i (some v)) H s'→Q () s') (hf:X.fn x=true∨X.env.scope.names.lookup x=some .local:=by first | exact .inl rfl | exact .inr rfl | assumption):wpAny M A (storeName X.env x u) Q E s :=
  qF I hN hi hx r (fun s' I' _=>h s' I') hf
theorem Inv.call' {s':Shared} {ch:List Addr} (I:Inv X pins σ H s) (ho:s'.os=s.os) (u:Un (frs X.stack) ch H H' s.heap s'.heap) (hok:HOk X.prog X.w H' s'.heap) (hg:AllBare s'.gens)
    (hch:∀ b∈ch,(b∈X.ex∨X.s₀.heap.objs.size≤b)∧b≠X.env.locals∧(∀ x c,X.env.cells.lookup x=some c→c≠b)∧∀ p∈X.pn++pins,p.1≠b):Inv X pins σ H' s':=by
  obtain ⟨h',g',d',t',o'⟩:=s'
  have e:o'=s.os:=ho
  subst e
  exact I.call (g':=g') (t':=t') (d':=d') u hok hg hch
end
abbrev XK:=Value→Option Addr→Hp→Prop
abbrev St:=List (Option V)
abbrev VK:=V→Hp→Prop
abbrev TE:=St→Hp→VK→Prop
abbrev TT:=St→Hp→(Bool→Hp→Prop)→Prop
abbrev TA:=St→Hp→(List V→Hp→Prop)→Prop
structure Ends where
  nx:St→Hp→Prop
  rt:VK
  bk:St→Hp→Prop:=fun _ _=>False
  ct:St→Hp→Prop:=fun _ _=>False
abbrev TS:=Ends→St→Hp→Prop
def EP (X:Cx) (pins:List (Addr × Obj)) (σ:St) (Q:VK) (u:Value) (s':Shared):Prop:=∃ v H',Inv X pins σ H' s'∧RelV v u∧Q v H'
def TP (X:Cx) (pins:List (Addr × Obj)) (σ:St) (Q:Bool→Hp→Prop) (b:Bool) (s':Shared):Prop:=∃ H',Inv X pins σ H' s'∧Q b H'
def AP (X:Cx) (pins:List (Addr × Obj)) (σ:St) (Q:List V→Hp→Prop) (us:List Value) (s':Shared):Prop:=∃ vs H',Inv X pins σ H' s'∧Vals vs us∧Q vs H'
def SP (X:Cx) (pins:List (Addr × Obj)) (D:Ends) (f:Flow) (s':Shared):Prop :=
  match f with
  | .next=>∃ σ' H',Inv X pins σ' H' s'∧D.nx σ' H'
  | .brk=>∃ σ' H',Inv X pins σ' H' s'∧D.bk σ' H'
  | .cont=>∃ σ' H',Inv X pins σ' H' s'∧D.ct σ' H'
  | .ret u=>∃ v σ' H',Inv X pins σ' H' s'∧RelV v u∧D.rt v H'
def PE (X:Cx) (e:Expr) (t:TE):Prop :=
  ∀ (pins:List (Addr × Obj)) (s:Shared) (σ:St) (H:Hp) (Q:VK),Inv X pins σ H s→t σ H Q→wpAny (model X.prog X.w) X.A (eval e X.env) (EP X pins σ Q) X.xe s
def PT (X:Cx) (e:Expr) (t:TT):Prop :=
  ∀ (pins:List (Addr × Obj)) (s:Shared) (σ:St) (H:Hp) (Q:Bool→Hp→Prop),Inv X pins σ H s→t σ H Q→wpAny (model X.prog X.w) X.A (isTrue e X.env (eval e X.env)) (TP X pins σ Q) X.xe s
def PW (X:Cx) (e:Expr) (t:TT):Prop :=
  ∀ (whole:Sem Value) (pins:List (Addr × Obj)) (s:Shared) (σ:St) (H:Hp) (Q:Bool→Hp→Prop),Inv X pins σ H s→t σ H Q→wpAny (model X.prog X.w) X.A (isTrue e X.env whole) (TP X pins σ Q) X.xe s
theorem PW.pt {X:Cx} {e:Expr} {t:TT} (h:PW X e t):PT X e t:=h _
def PA (X:Cx) (es:List Expr) (t:TA):Prop :=
  ∀ (pos:Pos) (pins:List (Addr × Obj)) (s:Shared) (σ:St) (H:Hp) (Q:List V→Hp→Prop),Inv X pins σ H s→t σ H Q→wpAny (model X.prog X.w) X.A (spliced (backTo pos (starEach es X.env))) (AP X pins σ Q) X.xe s
def PS (X:Cx) (st:Stmt) (t:TS):Prop :=
  ∀ (pins:List (Addr × Obj)) (s:Shared) (σ:St) (H:Hp) (D:Ends),Inv X pins σ H s→t D σ H→wpAny (model X.prog X.w) X.A (exec st X.env) (SP X pins D) X.xe s
def PSs (X:Cx) (st:List Stmt) (t:TS):Prop :=
  ∀ (pins:List (Addr × Obj)) (s:Shared) (σ:St) (H:Hp) (D:Ends),Inv X pins σ H s→t D σ H→wpAny (model X.prog X.w) X.A (execs st X.env) (SP X pins D) X.xe s
theorem thn {α:Type} {t:Sem α} {Q Q':α→Shared→Prop} {M:Model} {A:Around} {E:Value→Shared→Prop} {s:Shared} (h:wpAny M A t Q E s) (hQ:∀ a s,Q a s→Q' a s):wpAny M A t Q' E s:=wpAny_mono h hQ fun _ _ x=>x
end L2
namespace L2
open PySem PySem.Spec PyProof.Rows
section
variable {X:Cx}
def R0 (i:Nat):TE:=fun σ H Q=>∃ v,σ[i]?=some (some v)∧Q v H
def tC (v:V):TE:=fun _ H Q=>Q v H
theorem Le {i:Nat} {x:Str} {pos:Pos} (hN:X.N[i]?=some x) (hv:Vis X.env.scope x) (hd:(x == ("__debug__":Str))=false:=by decide) (hcd:(x == ("__classdict__":Str))=false:=by decide):PE X (.Name x pos) (R0 i):=by
  intro pins s σ H Q I h
  obtain ⟨v,e,h⟩:=h
  obtain ⟨m,hn,hl⟩:=I.loc
  obtain ⟨u,r,l⟩:=hl i x v hN e hv
  have fin:EP X pins σ Q u s:=⟨v,H,I,r,h⟩
  rcases l with ⟨hk,hm⟩ | ⟨hk,c,hc,hcell⟩
  · exact wpAny_Name (wpAny_loadName_local I.ok.kind hk hn hm fin) hd
  · rcases hk with hk | hk
    · exact wpAny_Name (wpAny_loadName_cell I.ok.kind hk hc hcell fin) hd
    · exact wpAny_Name (wpAny_loadName_free I.ok.kind hk hc hcell fin hcd) hd
theorem aq {i j pos}:PE X (.Constant (.int i) j pos) (tC (.int i)):=fun _ _ _ H _ I h=>wpAny_Constant_int ⟨.int i,H,I.tok _,⟨_,rfl⟩,h⟩
theorem jk {b j pos}:PE X (.Constant (.bool b) j pos) (tC (.bl b)):=fun _ _ _ H _ I h=>Constant_bool ⟨.bl b,H,I,rfl,h⟩
theorem Bb {j pos}:PE X (.Constant .none j pos) (tC .non):=fun _ _ _ H _ I h=>Constant_none ⟨.non,H,I,rfl,h⟩
theorem aQ {x j pos}:PE X (.Constant (.str x) j pos) (tC (.str x)):=fun _ _ _ H _ I h=>Calls.Constant_str ⟨.str x,H,I.tok _,⟨_,rfl⟩,h⟩
def Gl (X:Cx) (x:Str):Prop:=X.env.kindOf x=some .globalImplicit
theorem mq {E:Value→Shared→Prop} {pins:List (Addr × Obj)} {s:Shared} {σ:St} {H:Hp} {x:Str} {u:Value} {pos:Pos} {Q:Value→Shared→Prop} (I:Inv X pins σ H s) (hg:Gl X x) (hm:X.mg x=some u) (h:Q u s)
    (hd:(x == ("__debug__":Str))=false:=by decide):wpAny (model X.prog X.w) X.A (eval (.Name x pos) X.env) Q E s :=
  Calls.Name_function_global I.ok.kind hg (Calls.loadGlobal_global (by rw [I.ok.glob];exact I.mod.glob.keeps I.bk) hm h) hd
theorem nQ {E:Value→Shared→Prop} {pins:List (Addr × Obj)} {s:Shared} {σ:St} {H:Hp} {x:Str} {u:Value} {pos:Pos} {Q:Value→Shared→Prop} (I:Inv X pins σ H s) (hg:Gl X x) (hm:X.mg x=none) (hv:bootBuiltins x=some u) (h:Q u s)
    (hn:x≠"__name__":=by decide) (hd:(x == ("__debug__":Str))=false:=by decide):wpAny (model X.prog X.w) X.A (eval (.Name x pos) X.env) Q E s:=by
  obtain ⟨mb,h1,h2⟩:=I.mod.blt
  exact Calls.Name_function_global I.ok.kind hg (Calls.loadGlobal_builtin (by rw [I.ok.glob];exact I.mod.glob.keeps I.bk) hm (by rw [I.ok.blt];exact h1.keeps I.bk) ((h2 x hn).trans hv) h) hd
theorem iK {x:Str} {v:V} {u:Value} {pos:Pos} (hg:Gl X x) (hm:X.mg x=some u) (r:RelV v u) (hd:(x == ("__debug__":Str))=false:=by decide):PE X (.Name x pos) (tC v) :=
  fun _ _ _ H _ I h=>mq I hg hm ⟨v,H,I,r,h⟩ hd
theorem jA {x:Str} {v:V} {u:Value} {pos:Pos} (hg:Gl X x) (hm:X.mg x=none) (hv:bootBuiltins x=some u) (r:RelV v u) (hn:x≠"__name__":=by decide) (hd:(x == ("__debug__":Str))=false:=by decide):PE X (.Name x pos) (tC v) :=
  fun _ _ _ H _ I h=>nQ I hg hm hv ⟨v,H,I,r,h⟩ hn hd
def t2I (ta tb:TE) (k:Int→Int→Hp→Prop):St→Hp→Prop:=fun σ H=>ta σ H fun x H1=>tb σ H1 fun y H2=>∃ i j,x=.int i∧y=.int j∧k i j H2
variable {a b:Expr} {ta tb:TE} {pos:Pos}
def KQ (p:Int→Int→Bool) (ta tb:TE):TE:=fun σ H Q=>t2I ta tb (fun i j H2=>Q (.bl (p i j)) H2) σ H
abbrev tLt:TE→TE→TE:=KQ fun i j=>decide (i<j)
abbrev tLe:TE→TE→TE:=KQ fun i j=>decide (i≤j)
abbrev tGt:TE→TE→TE:=KQ fun i j=>decide (j<i)
abbrev tGe:TE→TE→TE:=KQ fun i j=>decide (j≤i)
abbrev tEqI:TE→TE→TE:=KQ fun i j=>decide (i=j)
abbrev tNeI:TE→TE→TE:=KQ fun i j=>!decide (i=j)
def tB (t:TE):TT:=fun σ H Q=>t σ H fun x H1=>∃ c,x=.bl c∧Q c H1
theorem gC {e:Expr} {t:TE} (h:PE X e t) (he:∀ whole,isTrue e X.env whole=(do let v ← whole;standAt e.pos;holding [v] (truthy v)):=by intro _;rfl):PT X e (tB t):=by
  intro pins s σ H Q I hw
  refine isTrue_plain (thn (h pins s σ H _ I hw) fun v s1 ⟨x,H1,I1,r1,q1⟩=>?_) (he _)
  obtain ⟨d,rfl,q⟩:=q1
  cases r1
  exact wpAny_truthy_bool ⟨H1,I1,q⟩
variable {tA tB':TT} {rest:List Expr}
def tAnd (t u:TT):TT:=fun σ H Q=>t σ H fun c H1=>if c=true then u σ H1 Q else Q false H1
def tOr (t u:TT):TT:=fun σ H Q=>t σ H fun c H1=>if c=true then Q true H1 else u σ H1 Q
def tNot (t:TT):TT:=fun σ H Q=>t σ H fun c H1=>Q (!c) H1
theorem pw_and1 (ha:PT X a tA):PW X (.BoolOp .And [a] pos) tA:=by
  intro wh pins s σ H Q I h
  refine isTrue_and (thn (ha pins s σ H Q I h) fun c s1 e=>?_)
  cases c with
  | true=>exact isTrue_and_nil e
  | false=>exact e
theorem pw_or1 (ha:PT X a tA):PW X (.BoolOp .Or [a] pos) tA:=by
  intro wh pins s σ H Q I h
  refine isTrue_or (thn (ha pins s σ H Q I h) fun c s1 e=>?_)
  cases c with
  | false=>exact isTrue_or_nil e
  | true=>exact e
theorem pw_and (ha:PT X a tA) (hb:PW X (.BoolOp .And (b :: rest) pos) tB'):PW X (.BoolOp .And (a :: b :: rest) pos) (tAnd tA tB'):=by
  intro wh pins s σ H Q I h
  refine isTrue_and (thn (ha pins s σ H _ I h) fun c s1 ⟨H1,I1,q1⟩=>?_)
  cases c with
  | true=>exact hb wh pins s1 σ H1 Q I1 q1
  | false=>exact ⟨H1,I1,q1⟩
theorem pw_or (ha:PT X a tA) (hb:PW X (.BoolOp .Or (b :: rest) pos) tB'):PW X (.BoolOp .Or (a :: b :: rest) pos) (tOr tA tB'):=by
  intro wh pins s σ H Q I h
  refine isTrue_or (thn (ha pins s σ H _ I h) fun c s1 ⟨H1,I1,q1⟩=>?_)
  cases c with
  | true=>exact ⟨H1,I1,q1⟩
  | false=>exact hb wh pins s1 σ H1 Q I1 q1
theorem fX (ha:PT X a tA):PT X (.UnaryOp .Not a pos) (tNot tA):=by
  intro pins s σ H Q I h
  exact isTrue_not (ha pins s σ H (fun c H1=>Q (!c) H1) I h)
def SJ (ta tb:TE):TE:=fun σ H Q=>ta σ H fun x H1=>∃ c,x=.bl c∧if c=true then tb σ H1 Q else Q (.bl false) H1
def tOrV (ta tb:TE):TE:=fun σ H Q=>ta σ H fun x H1=>∃ c,x=.bl c∧if c=true then Q (.bl true) H1 else tb σ H1 Q
def Sg (ta:TE):TE:=fun σ H Q=>ta σ H fun x H1=>∃ c,x=.bl c∧Q (.bl (!c)) H1
theorem uQ {op} {t:TE} (h:PE X a t):PE X (.BoolOp op [a] pos) t:=fun pins s σ H Q I hw=>BoolOp_one (h pins s σ H Q I hw)
theorem xP (ha:PE X a ta) (hb:PE X (.BoolOp .And (b :: rest) pos) tb):PE X (.BoolOp .And (a :: b :: rest) pos) (SJ ta tb):=by
  intro pins s σ H Q I h
  refine BoolOp_and (thn (ha pins s σ H _ I h) fun v s1 ⟨x,H1,I1,r1,q1⟩=>?_)
  obtain ⟨c,rfl,q1⟩:=q1
  cases r1
  refine wpAny_truthy_bool ?_
  cases c with
  | true=>exact hb pins s1 σ H1 Q I1 q1
  | false=>exact ⟨.bl false,H1,I1,rfl,q1⟩
theorem SN (ha:PE X a ta) (hb:PE X (.BoolOp .Or (b :: rest) pos) tb):PE X (.BoolOp .Or (a :: b :: rest) pos) (tOrV ta tb):=by
  intro pins s σ H Q I h
  refine BoolOp_or (thn (ha pins s σ H _ I h) fun v s1 ⟨x,H1,I1,r1,q1⟩=>?_)
  obtain ⟨c,rfl,q1⟩:=q1
  cases r1
  refine wpAny_truthy_bool ?_
  cases c with
  | false=>exact hb pins s1 σ H1 Q I1 q1
  | true=>exact ⟨.bl true,H1,I1,rfl,q1⟩
theorem Lf (ha:PE X a ta):PE X (.UnaryOp .Not a pos) (Sg ta):=by
  intro pins s σ H Q I h
  refine UnaryOp_ (thn (ha pins s σ H _ I h) fun v s1 ⟨x,H1,I1,r1,q1⟩=>?_)
  obtain ⟨c,rfl,q1⟩:=q1
  cases r1
  exact not_of (wpAny_truthy_bool ⟨.bl (!c),H1,I1,rfl,q1⟩)
def tIf (t:TT) (ta tb:TE):TE:=fun σ H Q=>t σ H fun c H1=>if c=true then ta σ H1 Q else tb σ H1 Q
theorem zE {c:Expr} (hc:PT X c tA) (ha:PE X a ta) (hb:PE X b tb):PE X (.IfExp c a b pos) (tIf tA ta tb):=by
  intro pins s σ H Q I h
  refine wpAny_IfExp (thn (hc pins s σ H _ I h) fun d s1 ⟨H1,I1,q1⟩=>?_)
  cases d with
  | true=>exact ha pins s1 σ H1 Q I1 q1
  | false=>exact hb pins s1 σ H1 Q I1 q1
end
end L2
namespace L2
open PySem PySem.Spec PyProof.Rows
def SqL (K:PySem.W.Frag) (H:Hp) (a:Addr) (xs:List V):Prop :=
  Rd H a (.lst xs) ∨
    ∃ (o:Obj) (its:Array Value) (n:Nat),K.lookup a=some o∧o.cls=.type "list"∧o.dict=none∧o.data=.seq its n∧its.size≤sizeLine∧Vals xs its.toList
def SqT (K:PySem.W.Frag) (H:Hp) (a:Addr) (xs:List V):Prop :=
  Rd H a (.tup xs) ∨
    ∃ (o:Obj) (its:Array Value) (n:Nat),K.lookup a=some o∧o.cls=.type "tuple"∧o.data=.seq its n∧its.size≤sizeLine∧Vals xs its.toList
def absV:Value→Option V
  | .none=>some .non
  | .bool b=>some (.bl b)
  | .int i _=>some (.int i)
  | .str x _=>some (.str x)
  | .bytes b _=>some (.byt b)
  | .float b _=>some (.flt b)
  | .ref a=>some (.ref a)
  | .type n=>some (.ty n)
  | _=>none
theorem RelV.abs {x:V} {u:Value} (r:RelV x u):absV u=some x:=by
  cases x with
  | non=>cases r;rfl
  | bl _=>cases r;rfl
  | int _=>obtain ⟨t,rfl⟩:=r;rfl
  | str _=>obtain ⟨t,rfl⟩:=r;rfl
  | byt _=>obtain ⟨t,rfl⟩:=r;rfl
  | flt _=>obtain ⟨t,rfl⟩:=r;rfl
  | ref _=>cases r;rfl
  | ty _=>cases r;rfl
theorem RelV.inj {x y:V} {u:Value} (r:RelV x u) (q:RelV y u):x=y:=Option.some.inj (r.abs.symm.trans q.abs)
theorem Vals.inj:∀ {xs ys:List V} {us:List Value},Vals xs us→Vals ys us→xs=ys
  | _,_,_,.nil,.nil=>rfl
  | _,_,_,.cons r t,.cons r' t'=>by rw [r.inj r',Vals.inj t t']
section
variable {X:Cx} {pins:List (Addr × Obj)} {σ:St} {H:Hp} {s:Shared} {a:Addr} {xs ys:List V}
theorem SqL.of {K:PySem.W.Frag} (h:H a=some (.lst xs)):SqL K H a xs:=.inl (.inl h)
theorem SqT.of {K:PySem.W.Frag} (h:H a=some (.tup xs)):SqT K H a xs:=.inl (.inl h)
theorem Inv.list (I:Inv X pins σ H s) (h:SqL X.K H a xs):∃ its:List Value,Vals xs its∧PlainL s.heap a its.toArray∧xs.length≤sizeLine:=by
  rcases h with h | ⟨o,its,n,hk,hc,hd,hs,hz,r⟩
  · obtain ⟨z,its,n,r,e⟩:=h.ok I.hok
    exact ⟨its,r,⟨_,n,e,rfl,rfl,rfl⟩,z⟩
  · refine ⟨its.toList,r,⟨o,n,I.kIn a o hk,hc,hd,by simpa using hs⟩,?_⟩
    have e:=r.length
    simp only [Array.length_toList] at e
    omega
theorem Inv.tuple (I:Inv X pins σ H s) (h:SqT X.K H a xs):∃ its:List Value,Vals xs its∧IsTup s.heap a its.toArray∧xs.length≤sizeLine:=by
  rcases h with h | ⟨o,its,n,hk,hc,hs,hz,r⟩
  · obtain ⟨z,its,r,p⟩:=h.ok I.hok
    exact ⟨its,r,p,z⟩
  · refine ⟨its.toList,r,⟨o,I.kIn a o hk,hc,n,by simpa using hs⟩,?_⟩
    have e:=r.length
    simp only [Array.length_toList] at e
    omega
theorem Inv.zZ (I:Inv X pins σ H s) (h:SqL X.K H a xs) (h':SqL X.K H a ys):xs=ys:=by
  obtain ⟨its,r,⟨o,n,e,_,_,d⟩,_⟩:=I.list h
  obtain ⟨its',r',⟨o',n',e',_,_,d'⟩,_⟩:=I.list h'
  rw [e] at e';cases e'
  rw [d] at d'
  injection d' with d1 _
  have:its=its':=by simpa using congrArg Array.toList d1
  subst this
  exact r.inj r'
theorem Inv.wz (I:Inv X pins σ H s) (h:SqT X.K H a xs) (h':SqT X.K H a ys):xs=ys:=by
  obtain ⟨its,r,⟨o,e,_,n,d⟩,_⟩:=I.tuple h
  obtain ⟨its',r',⟨o',e',_,n',d'⟩,_⟩:=I.tuple h'
  rw [e] at e';cases e'
  rw [d] at d'
  injection d' with d1 _
  have:its=its':=by simpa using congrArg Array.toList d1
  subst this
  exact r.inj r'
end
abbrev Cx.wish (X:Cx) (E:Value→Shared→Prop):Cx:={ X with xe:=E }
abbrev Cx.nox (X:Cx):Cx:=X.wish fun _ _=>False
theorem Cx.Ok.wish {X:Cx} (ok:X.Ok) (E:Value→Shared→Prop):(X.wish E).Ok :=
  ⟨ok.mod,ok.kind,ok.glob,ok.blt,ok.above,ok.inj,ok.has,ok.cab,ok.hd,ok.frames,ok.stk,ok.exf,ok.bs,ok.bsz,ok.noex,ok.exfs,ok.uZ,ok.frf⟩
theorem Cx.Ok.lK {X:Cx} {E:Value→Shared→Prop} (ok:(X.wish E).Ok):X.Ok :=
  ⟨ok.mod,ok.kind,ok.glob,ok.blt,ok.above,ok.inj,ok.has,ok.cab,ok.hd,ok.frames,ok.stk,ok.exf,ok.bs,ok.bsz,ok.noex,ok.exfs,ok.uZ,ok.frf⟩
section
variable {X:Cx} {pins:List (Addr × Obj)} {σ:St} {H:Hp} {s:Shared} {E:Value→Shared→Prop}
theorem Inv.wish (I:Inv X pins σ H s) (E:Value→Shared→Prop):Inv (X.wish E) pins σ H s:=⟨I.ok.wish E,I.os,I.bare,I.base,I.loc,I.cell,I.free,I.freeC,I.pin,I.hok,I.len⟩
theorem Inv.lK (I:Inv (X.wish E) pins σ H s):Inv X pins σ H s:=⟨I.ok.lK,I.os,I.bare,I.base,I.loc,I.cell,I.free,I.freeC,I.pin,I.hok,I.len⟩
theorem SP.lK {D:Ends} {f:Flow} {s':Shared} (h:SP (X.wish E) pins D f s'):SP X pins D f s':=by
  cases f with
  | next=>obtain ⟨σ',H',I,q⟩:=h;exact ⟨σ',H',I.lK,q⟩
  | brk=>obtain ⟨σ',H',I,q⟩:=h;exact ⟨σ',H',I.lK,q⟩
  | cont=>obtain ⟨σ',H',I,q⟩:=h;exact ⟨σ',H',I.lK,q⟩
  | ret u=>obtain ⟨v,σ',H',I,r,q⟩:=h;exact ⟨v,σ',H',I.lK,r,q⟩
theorem PSs.nox {st:List Stmt} {t:TS} (h:PSs X.nox st t):PSs X st t:=fun pins s σ H D I hw =>
  wpAny_mono (h pins s σ H D (I.wish _) hw) (fun _ _ q=>q.lK) fun _ _ z=>False.elim z
end
section
variable {X:Cx} {st:Stmt} {rest:List Stmt} {t u:TS} {e:Expr} {te:TE} {pos:Pos}
def Sq:TS:=fun D σ H=>D.nx σ H
def tSeq (t u:TS):TS:=fun D σ H=>t { D with nx:=u D } σ H
theorem aZ:PSs X [] Sq:=fun _ _ σ H _ I h=>wpAny_execs_nil ⟨σ,H,I,h⟩
theorem au (h1:PS X st t) (h2:PSs X rest u):PSs X (st :: rest) (tSeq t u):=by
  intro pins s σ H D I h
  refine wpAny_execs_cons (thn (h1 pins s σ H { D with nx:=u D } I h) fun f s1 q=>?_)
  cases f with
  | next =>
    obtain ⟨σ',H',I',q⟩:=q
    exact h2 pins s1 σ' H' D I' q
  | ret v=>exact q
  | brk=>exact q
  | cont=>exact q
theorem aA (h1:PS X st t):PSs X [st] t:=by
  intro pins s σ H D I h
  refine wpAny_execs_cons (thn (h1 pins s σ H D I h) fun f s1 q=>?_)
  cases f with
  | next=>exact wpAny_execs_nil q
  | ret v=>exact q
  | brk=>exact q
  | cont=>exact q
theorem Inv.quiet {pins:List (Addr × Obj)} {σ:St} {H:Hp} {s:Shared} (I:Inv X pins σ H s):interactive X.env=false:=by simp [interactive,I.ok.kind]
def Sv (te:TE):TS:=fun D σ H=>te σ H fun _ H1=>D.nx σ H1
theorem aN (he:PE X e te) (hs:swapsWith e none pos.line X.env=pure false:=by rfl):PS X (.Expr e pos) (Sv te):=by
  intro pins s σ H D I h
  exact wpAny_Expr_any (thn (he pins s σ H _ I h) fun v s1 ⟨x,H1,I1,r1,q1⟩=>⟨σ,H1,I1,q1⟩) I.quiet hs
def tRet (te:TE):TS:=fun D σ H=>te σ H D.rt
theorem aY (he:PE X e te):PS X (.Return (some e) pos) (tRet te):=by
  intro pins s σ H D I h
  exact wpAny_Return_some (thn (he pins s σ H _ I h) fun v s1 ⟨x,H1,I1,r1,q1⟩=>⟨x,σ,H1,I1,r1,q1⟩)
def tIfS (c:TT) (t u:TS):TS:=fun D σ H=>c σ H fun b H1=>if b=true then t D σ H1 else u D σ H1
theorem bN {c:Expr} {a b:List Stmt} {tc:TT} (hc:PT X c tc) (ha:PSs X a t) (hb:PSs X b u):PS X (.If c a b pos) (tIfS tc t u):=by
  intro pins s σ H D I h
  refine wpAny_If (thn (hc pins s σ H _ I h) fun d s1 ⟨H1,I1,q1⟩=>?_)
  cases d with
  | true=>exact ha pins s1 σ H1 D I1 q1
  | false=>exact hb pins s1 σ H1 D I1 q1
end
abbrev TG:=V→St→Hp→(St→Hp→Prop)→Prop
abbrev TGs:=List V→St→Hp→(St→Hp→Prop)→Prop
def PG (X:Cx) (target:Expr) (t:TG):Prop :=
  ∀ (pins:List (Addr × Obj)) (s:Shared) (σ:St) (H:Hp) (v:V) (u:Value) (Q:St→Hp→Prop),Inv X pins σ H s→RelV v u→t v σ H Q →
    wpAny (model X.prog X.w) X.A (assign target X.env u) (fun _ s'=>∃ σ' H',Inv X pins σ' H' s'∧Q σ' H') X.xe s
def PGs (X:Cx) (ts:List Expr) (t:TGs):Prop :=
  ∀ (pins:List (Addr × Obj)) (s:Shared) (σ:St) (H:Hp) (vs:List V) (us:List Value) (Q:St→Hp→Prop),Inv X pins σ H s→Vals vs us→t vs σ H Q →
    wpAny (model X.prog X.w) X.A (assignInOrder ((assignEach ts X.env).map (·.2)) us) (fun _ s'=>∃ σ' H',Inv X pins σ' H' s'∧Q σ' H') X.xe s
abbrev Vc:=V→V→V→Hp→(Hp→Prop)→Prop
def Vz (X:Cx) (t:Vc):Prop :=
  ∀ (pins:List (Addr × Obj)) (s:Shared) (σ:St) (H:Hp) (o i v:V) (ov iv u:Value) (Q:Hp→Prop),Inv X pins σ H s→RelV o ov→RelV i iv→RelV v u→t o i v H Q →
    wpAny (model X.prog X.w) X.A (setItem ov iv u) (fun _ s'=>∃ H',Inv X pins σ H' s'∧Q H') X.xe s
abbrev TIp:=V→V→Hp→VK→Prop
section
variable {X:Cx} {pos:Pos}
def Ac (i:Nat):TG:=fun v σ H Q=>Q (σ.set i (some v)) H
theorem bH {i:Nat} {x:Str} (hN:X.N.Nodup) (hi:X.N[i]?=some x) (hx:Loc X.env.scope x) (hf:X.fn x=true∨X.env.scope.names.lookup x=some .local:=by first | exact .inl rfl | exact .inr rfl | assumption):PG X (.Name x pos) (Ac i):=by
  intro pins s σ H v u Q I r h
  exact wpAny_assign_Name (uD I hN hi hx r (fun s' I'=>⟨_,H,I',h⟩) hf)
def gNil:TGs:=fun vs σ H Q=>vs=[]∧Q σ H
def U9 (t:TG) (u:TGs):TGs:=fun vs σ H Q=>∃ v r,vs=v :: r∧t v σ H fun σ' H'=>u r σ' H' Q
theorem lY:PGs X [] gNil:=by
  intro pins s σ H vs us Q I r h
  obtain ⟨e,h⟩:=h
  subst e
  cases r
  exact assignInOrder_nil ⟨σ,H,I,h⟩
theorem fL {e:Expr} {es:List Expr} {t:TG} {u:TGs} (h1:PG X e t) (h2:PGs X es u)
    (hs:(assignEach (e :: es) X.env).map (·.2)=assign e X.env :: (assignEach es X.env).map (·.2):=by rfl):PGs X (e :: es) (U9 t u):=by
  intro pins s σ H vs us Q I r h
  obtain ⟨v,vr,e1,h⟩:=h
  subst e1
  cases r with
  | cons r rr =>
    rw [hs]
    refine assignInOrder_cons (thn (h1 pins s σ H _ _ _ I r h) fun _ s1 ⟨σ1,H1,I1,q1⟩=>?_)
    exact h2 pins s1 σ1 H1 _ _ Q I1 rr q1
def Vw (K:PySem.W.Frag) (n:Nat) (t:TGs):TG:=fun v σ H Q=>∃ a xs,v=.ref a∧SqT K H a xs∧xs.length=n∧t xs σ H Q
theorem rA {es:List Expr} {k:Nat} {t:TGs} {n:Nat} (hc:X.calm=true) (h:PGs X es t)
    (hn:(assignEach es X.env).length=n:=by rfl) (hst:(assignEach es X.env).findIdx? (·.1)=none:=by rfl):PG X (.Tuple es k pos) (Vw X.K n t):=by
  intro pins s σ H v u Q I r hw
  obtain ⟨a,xs,e1,hq,hl,hw⟩:=hw
  subst e1
  cases r
  obtain ⟨its,rv,ht,hz⟩:=I.tuple hq
  refine assign_Tuple_tuple (I.ok.hd hc) ht (by simp [hn,← hl,rv.length]) hst fun h' hx=>?_
  have I1:Inv X pins σ H { s with heap:=h' }:=I.kept (t':=s.toks) fun b o e=>hx b o (Nat.ne_of_lt (Heap.lt_size e)) e
  exact h pins _ σ H xs _ Q I1 (by simpa using rv) hw
def gSub (to ti:TE) (t:Vc):TG:=fun v σ H Q=>to σ H fun o H1=>ti σ H1 fun i H2=>t o i v H2 fun H3=>Q σ H3
theorem jF {o i:Expr} {to ti:TE} {t:Vc} (ho:PE X o to) (hi:PE X i ti) (hs:Vz X t)
    (ha:∀ v,assign (.Subscript o i pos) X.env v=(do
      let ov ← holding [v] (eval o X.env)
      let iv ← holding [v,ov] (eval i X.env)
      standAt pos
      holding [v,ov,iv] (setItem ov iv v)
      release [v,ov,iv] []):=by intro _;rfl):PG X (.Subscript o i pos) (gSub to ti t):=by
  intro pins s σ H v u Q I r h
  rw [ha]
  refine wpAny_bind (wpAny_holding (thn (ho pins s σ H _ I h) fun ov s1 ⟨x,H1,I1,r1,q1⟩=>?_))
  refine wpAny_bind (wpAny_holding (thn (hi pins s1 σ H1 _ I1 q1) fun iv s2 ⟨y,H2,I2,r2,q2⟩=>?_))
  refine wpAny_bind (wpAny_standAt (wpAny_bind (wpAny_holding (thn (hs pins s2 σ H2 x y v ov iv u _ I2 r1 r2 r q2) fun _ s3 ⟨H3,I3,q3⟩=>?_))))
  exact wpAny_release ⟨σ,H3,I3,q3⟩
def Sy (te:TE) (g:TG):TS:=fun D σ H=>te σ H fun x H1=>g x σ H1 D.nx
theorem jj {tg e:Expr} {te:TE} {g:TG} (he:PE X e te) (hg:PG X tg g) (hs:swapsWithSole [tg] e pos.line X.env=pure false:=by rfl) (hw:swappedStores [tg] e X.env=pure none:=by rfl)
    (h1:(assignEach [tg] X.env).map (·.2)=[assign tg X.env]:=by rfl):PS X (.Assign [tg] e pos) (Sy te g):=by
  intro pins s σ H D I h
  refine wpAny_Assign_stores (thn (he pins s σ H _ I h) fun v s1 ⟨x,H1,I1,r1,q1⟩=>?_) hs hw
  rw [h1]
  exact thn (hg pins s1 σ H1 x v _ I1 r1 q1) fun _ s2 q=>q
theorem bG {i:Nat} {x:Str} {e:Expr} {te:TE} {pos':Pos} (hN:X.N.Nodup) (hi:X.N[i]?=some x) (hx:Loc X.env.scope x) (he:PE X e te) (hs:swapsWith e (some (.Name x pos')) pos.line X.env=pure false:=by rfl) (hf:X.fn x=true∨X.env.scope.names.lookup x=some .local:=by first | exact .inl rfl | exact .inr rfl | assumption) :
    PS X (.Assign [.Name x pos'] e pos) (Sy te (Ac i)):=by
  intro pins s σ H D I h
  refine wpAny_Assign_Name (thn (he pins s σ H _ I h) fun v s1 ⟨y,H1,I1,r1,q1⟩=>?_) hs
  exact uD I1 hN hi hx r1 (fun s2 I2=>⟨_,H1,I2,q1⟩) hf
end
section
variable {X:Cx} {pos:Pos}
def K1 (c:TT) (tb:TS):TS:=fun D σ H=>∃ W:Nat→St→Hp→Prop,(∃ m,W m σ H)∧∀ m σ H,W m σ H →
  c σ H fun b H1=>if b=true then ∃ N:St→Hp→Prop,(∀ σ' H',N σ' H'→∃ m',m'<m∧W m' σ' H')∧tb { D with nx:=N,ct:=N,bk:=D.nx } σ H1 else D.nx σ H1
theorem zA {c:Expr} {body:List Stmt} {tc:TT} {tb:TS} (hp:PassesOwn (model X.prog X.w) X.A X.env X.xe) (hc:PT X c tc) (hb:PSs X body tb):PS X (.While c body [] pos) (K1 tc tb):=by
  intro pins s σ H D I h
  obtain ⟨W,⟨m0,w0⟩,turn⟩:=h
  refine wpAny_While (codeAny_whileLoop (fun n s'=>∃ σ' H',Inv X pins σ' H' s'∧W n σ' H') ?_ m0 ⟨σ,H,I,w0⟩)
  rintro n s1 ⟨σ1,H1,I1,w1⟩
  refine wpAny_passesOwn hp (thn (hc pins s1 σ1 H1 _ I1 (turn n σ1 H1 w1)) fun b s2 ⟨H2,I2,q2⟩=>?_)
  cases b with
  | true =>
    obtain ⟨N,hN,q2⟩:=q2
    rw [if_pos rfl]
    refine wpAny_passesOwn hp (thn (hb pins s2 σ1 H2 _ I2 q2) fun f s3 q3=>?_)
    cases f with
    | next =>
      obtain ⟨σ3,H3,I3,n3⟩:=q3
      obtain ⟨m',hm,w3⟩:=hN σ3 H3 n3
      exact ⟨m',hm,σ3,H3,I3,w3⟩
    | cont =>
      obtain ⟨σ3,H3,I3,n3⟩:=q3
      obtain ⟨m',hm,w3⟩:=hN σ3 H3 n3
      exact ⟨m',hm,σ3,H3,I3,w3⟩
    | brk=>exact q3
    | ret v=>exact q3
  | false =>
    rw [if_neg Bool.false_ne_true]
    exact wpAny_execs_nil ⟨σ1,H2,I2,q2⟩
end
structure It where
  go:Nat→Hp→Prop
  yld:Nat→Hp→V→Hp→Prop
  stop:Nat→Hp→Prop
def Aj (X:Cx) (pins:List (Addr × Obj)) (H:Hp) (b:Addr):Prop :=
  H b=none∧b≠X.env.locals∧b ∉ X.fs∧(b∈X.ex∨X.s₀.heap.objs.size≤b)∧(∀ x c,X.env.cells.lookup x=some c→c≠b)∧∀ p∈X.pn++pins,p.1≠b
theorem Inv.JG {X:Cx} {pins:List (Addr × Obj)} {σ:St} {H H':Hp} {s:Shared} {b:Addr} (I:Inv X pins σ H s) (hb:s.heap.objs.size≤b) (hn:H' b=none):Aj X pins H' b:=by
  refine ⟨hn,Nat.ne_of_gt (Nat.lt_of_lt_of_le I.lt hb),I.nofs hb,.inr (Nat.le_trans I.sz hb),fun x c e z=>?_,fun p hp z=>?_⟩
  · obtain ⟨v,q⟩:=I.cell x c e
    exact absurd (Nat.lt_of_lt_of_le q.lt (by rw [z];exact hb)) (Nat.lt_irrefl _)
  · exact absurd (Nat.lt_of_lt_of_le (Heap.lt_size (I.pin p hp).1) (by rw [z];exact hb)) (Nat.lt_irrefl _)
structure Turn (P:Program) (w:World) (K:PySem.W.Frag) (tg:Expr) (J:It) (fp:List Addr) (it:Addr) (tn:Nat→Heap→Prop):Prop where
  mem:it∈fp
  obj:∀ i h,tn i h→∀ b∈fp,∃ o,h.get? b=some o∧∀ v,o.data≠.cell v
  keep:∀ i h h',tn i h→(∀ b∈fp,∀ o,h.get? b=some o→h'.get? b=some o)→tn i h'
  item:∀ (X:Cx),X.prog=P→X.w=w→X.K=K→X.calm=true→∀ (i:Nat) (pins:List (Addr × Obj)) (s:Shared) (σ:St) (H:Hp) (E:Value→Shared→Prop),Inv X pins σ H s→(∀ b∈fp,Aj X pins H b)→tn i s.heap→J.go i H →
    wpAny (model P w) X.A (pyNext (.ref it)) (fun r s1=>∃ u,r=some u ∧
      wpAny (model P w) X.A (letOwnedTupleGo tg (.ref it) u) (fun _ s2=>∃ x H',Inv X pins σ H' s2∧RelV x u∧J.yld i H x H'∧tn (i + 1) s2.heap∧∀ b∈fp,H' b=none) E s1) E s
  done:∀ (X:Cx),X.prog=P→X.w=w→X.K=K→X.calm=true→∀ (i:Nat) (pins:List (Addr × Obj)) (s:Shared) (σ:St) (H:Hp) (E:Value→Shared→Prop),Inv X pins σ H s→(∀ b∈fp,Aj X pins H b)→tn i s.heap→J.stop i H →
    wpAny (model P w) X.A (pyNext (.ref it)) (fun r s1=>r=none∧Inv X pins σ H s1) E s
  self:∀ (A:Around) (i:Nat) (s:Shared) (Q:Value→Shared→Prop) (E:Value→Shared→Prop),tn i s.heap→Q (.ref it) s→wpAny (model P w) A (pyIter (.ref it)) Q E s
abbrev TI:=St→Hp→(It→Hp→Prop)→Prop
def PIE (X:Cx) (pins:List (Addr × Obj)) (σ:St) (tg:Expr) (R:It→Hp→Prop) (itv:Value) (s2:Shared):Prop :=
  ∃ (it:Addr) (fp:List Addr) (tn:Nat→Heap→Prop) (J:It) (H':Hp),itv=.ref it∧Inv X pins σ H' s2∧Turn X.prog X.w X.K tg J fp it tn∧tn 0 s2.heap∧(∀ b∈fp,Aj X pins H' b)∧R J H'
def PI (X:Cx) (tg iter:Expr) (wi:TI):Prop :=
  ∀ (pins:List (Addr × Obj)) (s:Shared) (σ:St) (H:Hp) (R:It→Hp→Prop),Inv X pins σ H s→wi σ H R →
    wpAny (model X.prog X.w) X.A (eval iter X.env) (fun v s1=>wpAny (model X.prog X.w) X.A (pyIter v) (PIE X pins σ tg R) X.xe s1) X.xe s
theorem Aa {M:Model} {A:Around} {E:Value→Shared→Prop} {s:Shared} {tg:Expr} {it:Addr} {u:Value} {o:Obj} {n:String} {vs:Array Value} {Q:Unit→Shared→Prop} (ho:s.heap.get? it=some o) (hc:o.cls=.type n) (hd:o.data=.fields vs)
    (hn:["enumerate","zip","dict_itemiterator","dict_reverseitemiterator","odict_iterator","itertools.zip_longest","itertools.pairwise"].contains n=false) (hQ:Q () s):wpAny M A (letOwnedTupleGo tg (.ref it) u) Q E s:=by
  unfold letOwnedTupleGo
  cases tg <;> first
    | exact wpAny_pure hQ
    | (cases u <;> first
        | exact wpAny_pure hQ
        | (refine wpAny_bind (wpAny_load ho ?_)
           rw [hc,hd]
           show wpAny M A (if (["enumerate","zip","dict_itemiterator","dict_reverseitemiterator","odict_iterator","itertools.zip_longest","itertools.pairwise"].contains n && vs[0]? == some (rawInt _))=true then _ else _) Q E s
           rw [if_neg (by intro h;rw [hn,Bool.false_and] at h;cases h)]
           exact wpAny_pure hQ))
def Itl (K:PySem.W.Frag) (a:Addr):It :=
  ⟨fun i H=>∃ xs x,SqL K H a xs∧xs[i]?=some x,fun i H x H'=>H'=H∧∀ xs,SqL K H a xs→xs[i]?=some x,fun i H=>∃ xs,SqL K H a xs∧xs.length≤i⟩
def Itt (K:PySem.W.Frag) (a:Addr):It :=
  ⟨fun i H=>∃ xs x,SqT K H a xs∧xs[i]?=some x,fun i H x H'=>H'=H∧∀ xs,SqT K H a xs→xs[i]?=some x,fun i H=>∃ xs,SqT K H a xs∧xs.length≤i⟩
def Itr (lo:Int) (n:Nat):It:=⟨fun i _=>i<n,fun i H x H'=>H'=H∧x=.int (lo + i),fun i _=>n≤i⟩
theorem wk {P:Program} {w:World} {K:PySem.W.Frag} {tg:Expr} (a it:Addr):Turn P w K tg (Itl K a) [it] it (fun i h=>h.IsListIter it a i) where
  mem:=by simp
  obj:=fun i h st b hb=>by
    have e:b=it:=by simpa using hb
    subst e
    obtain ⟨o,e,c,d⟩:=st
    exact ⟨o,e,fun v z=>by rw [d] at z;cases z⟩
  keep:=fun i h h' st k=>st.at fun o e=>k it (by simp) o e
  item:=by
    intro X hP hw hK hc i pins s σ H E I hf st hg
    subst hP hw hK
    obtain ⟨xs,x,hq,hx⟩:=hg
    obtain ⟨its,rv,p,hz⟩:=I.list hq
    obtain ⟨u,hu,ru⟩:=rv.get hx
    obtain ⟨f0,f1,f2,f3,f4,f5⟩:=hf it (by simp)
    refine wpAny_pyNext_list_item st p.isList (x:=u) (by simpa using hu) fun h' st' sb=>?_
    have I1:Inv X pins σ H { s with heap:=h' }:=I.turned (t':=s.toks) (fun b o hb e=>(sb.2 b hb).trans e) f0 f1 f3 f4 f5
    obtain ⟨o,e,c,d⟩:=id st'
    exact ⟨u,rfl,Aa (s:={ s with heap:=h' }) e c d (by decide) ⟨x,H,I1,ru,⟨rfl,fun ys hy=>by rw [I.zZ hy hq];exact hx⟩,st',fun b hb=>(hf b hb).1⟩⟩
  done:=by
    intro X hP hw hK hc i pins s σ H E I hf st hg
    subst hP hw hK
    obtain ⟨xs,hq,hx⟩:=hg
    obtain ⟨its,rv,p,hz⟩:=I.list hq
    obtain ⟨f0,f1,f2,f3,f4,f5⟩:=hf it (by simp)
    have hl:=rv.length
    exact wpAny_pyNext_list_end (I.ok.hd hc) st p.isList (by simp;omega) fun h' eb=>⟨rfl,I.turned (t':=s.toks) (fun b o hb e=>eb b o hb e) f0 f1 f3 f4 f5⟩
  self:=fun _ _ _ _ _ st h=>wpAny_pyIter_listiter st h
theorem vD {P:Program} {w:World} {K:PySem.W.Frag} {tg:Expr} (a it:Addr):Turn P w K tg (Itt K a) [it] it (fun i h=>h.IsTupleIter it a i) where
  mem:=by simp
  obj:=fun i h st b hb=>by
    have e:b=it:=by simpa using hb
    subst e
    obtain ⟨o,e,c,d⟩:=st
    exact ⟨o,e,fun v z=>by rw [d] at z;cases z⟩
  keep:=fun i h h' st k=>st.at fun o e=>k it (by simp) o e
  item:=by
    intro X hP hw hK hc i pins s σ H E I hf st hg
    subst hP hw hK
    obtain ⟨xs,x,hq,hx⟩:=hg
    obtain ⟨its,rv,p,hz⟩:=I.tuple hq
    obtain ⟨u,hu,ru⟩:=rv.get hx
    obtain ⟨f0,f1,f2,f3,f4,f5⟩:=hf it (by simp)
    refine wpAny_pyNext_tuple_item st (show s.heap.IsTuple a its.toArray from p) (x:=u) (by simpa using hu) fun h' st' sb=>?_
    have I1:Inv X pins σ H { s with heap:=h' }:=I.turned (t':=s.toks) (fun b o hb e=>(sb.2 b hb).trans e) f0 f1 f3 f4 f5
    obtain ⟨o,e,c,d⟩:=id st'
    exact ⟨u,rfl,Aa (s:={ s with heap:=h' }) e c d (by decide) ⟨x,H,I1,ru,⟨rfl,fun ys hy=>by rw [I.wz hy hq];exact hx⟩,st',fun b hb=>(hf b hb).1⟩⟩
  done:=by
    intro X hP hw hK hc i pins s σ H E I hf st hg
    subst hP hw hK
    obtain ⟨xs,hq,hx⟩:=hg
    obtain ⟨its,rv,p,hz⟩:=I.tuple hq
    obtain ⟨f0,f1,f2,f3,f4,f5⟩:=hf it (by simp)
    have hl:=rv.length
    exact wpAny_pyNext_tuple_end (I.ok.hd hc) st (show s.heap.IsTuple a its.toArray from p) (by simp;omega) fun h' eb=>⟨rfl,I.turned (t':=s.toks) (fun b o hb e=>eb b o hb e) f0 f1 f3 f4 f5⟩
  self:=fun _ _ _ _ _ st h=>wpAny_pyIter_tupleiter st h
theorem vG {P:Program} {w:World} {K:PySem.W.Frag} {tg:Expr} (it:Addr) (lo:Int) (n:Nat):Turn P w K tg (Itr lo n) [it] it (fun i h=>IsRangeIter h it (lo + (i:Nat) * 1) ((n:Int) - (i:Nat)) 1) where
  mem:=by simp
  obj:=fun i h st b hb=>by
    have e:b=it:=by simpa using hb
    subst e
    exact ⟨_,st,fun v z=>by
      have z':Data.fields _=Data.cell v:=z
      cases z'⟩
  keep:=fun i h h' st k=>k it (by simp) _ st
  item:=by
    intro X hP hw hK hc i pins s σ H E I hf st hg
    subst hP hw hK
    obtain ⟨f0,f1,f2,f3,f4,f5⟩:=hf it (by simp)
    have W:=Walks.range (prog:=X.prog) (w:=X.w) (I.ok.hd hc) it lo 1 n
    refine W.item i s _ _ hg st fun v h' tk hv st' kk=>?_
    obtain ⟨t,rfl⟩:=hv
    have I1:Inv X pins σ H { s with heap:=h',toks:=tk }:=I.turned (fun b o hb e=>kk b o (by simpa using hb) e) f0 f1 f3 f4 f5
    refine ⟨_,rfl,Aa (s:={ s with heap:=h',toks:=tk }) (n:="range_iterator") st' rfl rfl (by decide) ⟨.int (lo + i),H,I1,⟨t,?_⟩,⟨rfl,rfl⟩,st',fun b hb=>(hf b hb).1⟩⟩
    rw [Int.mul_one]
  done:=by
    intro X hP hw hK hc i pins s σ H E I hf st hg
    subst hP hw hK
    obtain ⟨f0,f1,f2,f3,f4,f5⟩:=hf it (by simp)
    exact wpAny_pyNext_range_end (I.ok.hd hc) st (by have:n≤i:=hg;omega) fun h' eb=>⟨rfl,I.turned (t':=s.toks) (fun b o hb e=>eb b o hb e) f0 f1 f3 f4 f5⟩
  self:=fun _ _ _ _ _ st h=>wpAny_pyIter_rangeiter st h
end L2
namespace L2
open PySem PySem.Spec PyProof.Rows
section
variable {X:Cx} {tg:Expr}
def Td (K:PySem.W.Frag) (tl:TE):TI:=fun σ H R=>tl σ H fun x H1=>∃ a,x=.ref a∧(∃ xs,SqL K H1 a xs)∧R (Itl K a) H1
def iTup (K:PySem.W.Frag) (tl:TE):TI:=fun σ H R=>tl σ H fun x H1=>∃ a,x=.ref a∧(∃ xs,SqT K H1 a xs)∧R (Itt K a) H1
theorem jR {l:Expr} {tl:TE} (hl:PE X l tl):PI X tg l (Td X.K tl):=by
  intro pins s σ H R I h
  refine thn (hl pins s σ H _ I h) fun v s1 ⟨x,H1,I1,r1,q1⟩=>?_
  obtain ⟨a,e,⟨xs,hq⟩,q⟩:=q1
  subst e
  cases r1
  obtain ⟨its,rv,p,hz⟩:=I1.list hq
  refine wpAny_pyIter_list p.isList ?_
  refine ⟨s1.heap.objs.size,[s1.heap.objs.size],_,_,H1,rfl,I1.kept (t':=s1.toks) fun b o e=>Heap.get?_push_of_some _ e,wk a _,⟨_,Heap.get?_push_size _ rfl,rfl,rfl⟩,fun b hb=>?_,q⟩
  have e:b=s1.heap.objs.size:=by simpa using hb
  subst e
  exact I1.JG (Nat.le_refl _) (I1.hok.fresh (Nat.le_refl _))
theorem xH {l:Expr} {tl:TE} (hl:PE X l tl):PI X tg l (iTup X.K tl):=by
  intro pins s σ H R I h
  refine thn (hl pins s σ H _ I h) fun v s1 ⟨x,H1,I1,r1,q1⟩=>?_
  obtain ⟨a,e,⟨xs,hq⟩,q⟩:=q1
  subst e
  cases r1
  obtain ⟨its,rv,p,hz⟩:=I1.tuple hq
  refine wpAny_pyIter_tuple (show s1.heap.IsTuple a its.toArray from p) ?_
  refine ⟨s1.heap.objs.size,[s1.heap.objs.size],_,_,H1,rfl,I1.kept (t':=s1.toks) fun b o e=>Heap.get?_push_of_some _ e,vD a _,⟨_,Heap.get?_push_size _ rfl,rfl,rfl⟩,fun b hb=>?_,q⟩
  have e:b=s1.heap.objs.size:=by simpa using hb
  subst e
  exact I1.JG (Nat.le_refl _) (I1.hok.fresh (Nat.le_refl _))
theorem uP {pins:List (Addr × Obj)} {σ:St} {H:Hp} {s:Shared} {R:It→Hp→Prop} {E:Value→Shared→Prop} {lo hi:Int} {t u v:Tok} {tk:Nat} (I:Inv X pins σ H s) (h1:-(2 ^ 62)≤lo) (h2:lo<2 ^ 62) (h3:-(2 ^ 62)≤hi) (h4:hi<2 ^ 62)
    (q:R (Itr lo (hi - lo).toNat) H):wpAny (model X.prog X.w) X.A (pyIter (.ref s.heap.objs.size)) (PIE X pins σ tg R) E { s with heap:=s.heap.push { cls:=.type "range",data:=.fields #[.int lo t,.int hi u,.int 1 v] },toks:=tk }:=by
  refine wpAny_pyIter_range (IsRange.new ..) (small_one h1 h2 h3 h4) ?_
  have I1:Inv X pins σ H { s with heap:=s.heap.push { cls:=.type "range",data:=.fields #[.int lo t,.int hi u,.int 1 v] },toks:=tk }:=I.kept fun b o e=>Heap.get?_push_of_some _ e
  refine ⟨(s.heap.push { cls:=.type "range",data:=.fields #[.int lo t,.int hi u,.int 1 v] }).objs.size,[(s.heap.push { cls:=.type "range",data:=.fields #[.int lo t,.int hi u,.int 1 v] }).objs.size],_,_,H,rfl,
    I1.kept (t':=tk) fun b o e=>Heap.get?_push_of_some _ e,vG _ lo (hi - lo).toNat,?_,fun b hb=>?_,q⟩
  · have e1:lo + ((0:Nat):Int) * 1=lo:=by simp
    have e2:(((hi - lo).toNat:Nat):Int) - ((0:Nat):Int)=Builtin.Range.rangeSize lo hi 1:=by rw [rangeSize_one];split <;> omega
    show IsRangeIter _ _ (lo + ((0:Nat):Int) * 1) ((((hi - lo).toNat:Nat):Int) - ((0:Nat):Int)) 1
    rw [e1,e2]
    exact Heap.get?_push_size _ rfl
  · have e:b=(s.heap.push { cls:=.type "range",data:=.fields #[.int lo t,.int hi u,.int 1 v] }).objs.size:=by simpa using hb
    subst e
    exact I1.JG (Nat.le_refl _) (I1.hok.fresh (Nat.le_refl _))
def Tc (ta:TA):TI:=fun σ H R=>ta σ H fun vs H1=>∃ j:Int,vs=[.int j]∧-(2 ^ 62)≤j∧j<2 ^ 62∧R (Itr 0 j.toNat) H1
def S9 (ta:TA):TI:=fun σ H R=>ta σ H fun vs H1=>∃ i j:Int,vs=[.int i,.int j]∧(-(2 ^ 62)≤i∧i<2 ^ 62∧-(2 ^ 62)≤j∧j<2 ^ 62)∧R (Itr i (j - i).toNat) H1
theorem jQ {a:Expr} {ta:TA} {p pos:Pos} (hg:Gl X "range") (hm:X.mg "range"=none) (ha:PA X [a] ta) (hs:starEach [a] X.env=[(false,eval a X.env)]:=by rfl):PI X tg (.Call (.Name "range" p) [a] [] pos) (Tc ta):=by
  intro pins s σ H R I h
  refine Call_ (nQ I hg hm boot_range (PyProof.Rows.callWith_type1 (thn (ha pos pins s σ H _ I h) fun us s1 ⟨vs,H1,I1,r1,q1⟩=>?_) hs rfl))
  obtain ⟨j,e,q1,q2,q⟩:=q1
  subst e
  cases r1 with
  | cons r rr =>
    cases rr
    obtain ⟨t,rfl⟩:=r
    exact call_range_1 (uP I1 (by omega) (by omega) q1 q2 (by simpa using q))
theorem xJ {a b:Expr} {ta:TA} {p pos:Pos} (hg:Gl X "range") (hm:X.mg "range"=none) (ha:PA X [a,b] ta) (hs:starEach [a,b] X.env=[(false,eval a X.env),(false,eval b X.env)]:=by rfl) (hs2:starEach [b] X.env=[(false,eval b X.env)]:=by rfl) :
    PI X tg (.Call (.Name "range" p) [a,b] [] pos) (S9 ta):=by
  intro pins s σ H R I h
  refine Call_ (nQ I hg hm boot_range (PyProof.Rows.callWith_type1 (thn (ha pos pins s σ H _ I h) fun us s1 ⟨vs,H1,I1,r1,q1⟩=>?_) (by rw [hs,hs2]) (by rw [hs2];rfl)))
  obtain ⟨i,j,e,⟨q1,q2,q3,q4⟩,q⟩:=q1
  subst e
  cases r1 with
  | cons r rr =>
    cases rr with
    | cons r' rr =>
      cases rr
      obtain ⟨t,rfl⟩:=r
      obtain ⟨t',rfl⟩:=r'
      exact call_range_2 (uP I1 q1 q2 q3 q4 q)
def tFor (wi:TI) (g:TG) (tb:TS):TS:=fun D σ H=>wi σ H fun J H1=>∃ W:Nat→Nat→St→Hp→Prop,(∃ m,W 0 m σ H1)∧∀ i m σ H,W i m σ H →
  (J.stop i H∧D.nx σ H)∨(J.go i H∧∃ N:St→Hp→Prop,(∀ σ' H',N σ' H'→∃ m',m'<m∧W (i + 1) m' σ' H')∧∀ x H',J.yld i H x H'→g x σ H' fun σ2 H2=>tb { D with nx:=N,ct:=N,bk:=D.nx } σ2 H2)
def rm (fp:List Addr) (h:Heap):List (Addr × Obj):=fp.filterMap fun b=>(h.get? b).map fun o=>(b,o)
theorem kh {fp:List Addr} {h:Heap} {b:Addr} {o:Obj} (hb:b∈fp) (e:h.get? b=some o):(b,o)∈rm fp h:=List.mem_filterMap.mpr ⟨b,hb,by rw [e];rfl⟩
theorem yh {fp:List Addr} {h:Heap} {p:Addr × Obj} (hp:p∈rm fp h):p.1∈fp∧h.get? p.1=some p.2:=by
  obtain ⟨b,hb,e⟩:=List.mem_filterMap.mp hp
  cases q:h.get? b with
  | none=>rw [q] at e;cases e
  | some o =>
    rw [q] at e
    have e':(b,o)=p:=Option.some.inj e
    subst e'
    exact ⟨hb,q⟩
theorem Inv.pinned {pins:List (Addr × Obj)} {σ:St} {H:Hp} {s:Shared} {fp:List Addr} (I:Inv X pins σ H s) (hf:∀ b∈fp,Aj X pins H b) (ho:∀ b∈fp,∃ o,s.heap.get? b=some o∧∀ v,o.data≠.cell v):Inv X (pins++rm fp s.heap) σ H s :=
  I.xG fun p hp=>(List.mem_append.mp hp).elim (fun z=>I.pin p (List.mem_append_right _ z)) fun z=>by
    obtain ⟨hb,e⟩:=yh z
    obtain ⟨f0,f1,f2,_⟩:=hf p.1 hb
    obtain ⟨o,e',d⟩:=ho p.1 hb
    rw [e] at e';cases e'
    exact ⟨e,f0,f1,f2,d⟩
theorem Inv.mZ {pins pl:List (Addr × Obj)} {σ:St} {H:Hp} {s:Shared} (I:Inv X (pins++pl) σ H s):Inv X pins σ H s:=I.xG fun p hp=>I.pin p (List.mem_append_right _ (List.mem_append_left _ hp))
theorem kW {iter:Expr} {body:List Stmt} {wi:TI} {g:TG} {tb:TS} {pos:Pos} (hp:PassesOwn (model X.prog X.w) X.A X.env X.xe) (hc:X.calm=true) (hi:PI X tg iter wi) (hg:PG X tg g) (hb:PSs X body tb)
    (hs:∀ x,foldedSetIterable iter X.env x=pure x:=by intro _;rfl):PS X (.For tg iter body [] pos) (tFor wi g tb):=by
  intro pins s σ H D I h
  refine wpAny_For (thn (hi pins s σ H _ I h) fun v s1 h1=>thn h1 fun itv s2 h2=>?_) hs
  obtain ⟨it,fp,tn,J,H2,e,I2,T,st2,f2,W,⟨m0,w0⟩,turn⟩:=h2
  subst e
  have stat:∀ {H':Hp},(∀ b∈fp,H' b=none)→∀ b∈fp,Aj X pins H' b:=fun hn b hb=>⟨hn b hb,(f2 b hb).2⟩
  refine codeAny_forLoop_any (fun n s'=>∃ i σ' H',Inv X pins σ' H' s'∧tn i s'.heap∧(∀ b∈fp,H' b=none)∧W i n σ' H') ?_ m0 ⟨0,σ,H2,I2,st2,fun b hb=>(f2 b hb).1,w0⟩
  rintro n s3 ⟨i,σ3,H3,I3,st3,fr3,w3⟩
  rcases turn i n σ3 H3 w3 with ⟨stop,qn⟩ | ⟨go,N,hN,step⟩
  · refine wpAny_passesOwn hp (thn (T.done X rfl rfl rfl hc i pins s3 σ3 H3 X.xe I3 (stat fr3) st3 stop) fun r s4 ⟨hr,I4⟩=>?_)
    subst hr
    exact wpAny_execs_nil ⟨σ3,H3,I4,qn⟩
  · refine wpAny_passesOwn hp (thn (T.item X rfl rfl rfl hc i pins s3 σ3 H3 X.xe I3 (stat fr3) st3 go) fun r s4 ⟨u,hr,h4⟩=>?_)
    subst hr
    refine wpAny_passesOwn hp (thn h4 fun _ s5 ⟨x,H5,I5,r5,y5,st5,fr5⟩=>?_)
    have I5':=I5.pinned (stat fr5) (T.obj _ _ st5)
    refine wpAny_passesOwn hp (thn (hg _ s5 σ3 H5 x u _ I5' r5 (step x H5 y5)) fun _ s6 ⟨σ6,H6,I6,q6⟩=>?_)
    refine wpAny_passesOwn hp (thn (hb _ s6 σ6 H6 _ I6 q6) fun f s7 q7=>?_)
    have again:∀ {σ7:St} {H7:Hp},Inv X (pins++rm fp s5.heap) σ7 H7 s7→N σ7 H7→∃ m,m<n∧∃ i σ' H',Inv X pins σ' H' s7∧tn i s7.heap∧(∀ b∈fp,H' b=none)∧W i m σ' H':=fun {σ7 H7} I7 n7=>by
      obtain ⟨m',hm,w7⟩:=hN σ7 H7 n7
      refine ⟨m',hm,i + 1,σ7,H7,I7.mZ,T.keep _ _ _ st5 fun b hb o e=>(I7.pin (b,o) (List.mem_append_right _ (List.mem_append_right _ (kh hb e)))).1,fun b hb=>?_,w7⟩
      obtain ⟨o,e,d⟩:=T.obj _ _ st5 b hb
      exact (I7.pin (b,o) (List.mem_append_right _ (List.mem_append_right _ (kh hb e)))).2.1
    cases f with
    | next=>obtain ⟨σ7,H7,I7,n7⟩:=q7;exact again I7 n7
    | cont=>obtain ⟨σ7,H7,I7,n7⟩:=q7;exact again I7 n7
    | brk=>obtain ⟨σ7,H7,I7,q7⟩:=q7;exact ⟨σ7,H7,I7.mZ,q7⟩
    | ret v=>obtain ⟨x7,σ7,H7,I7,r7,q7⟩:=q7;exact ⟨x7,σ7,H7,I7.mZ,r7,q7⟩
end
theorem lR {K:PySem.W.Frag} {a:Addr} {xs:List V} {g:TG} {tb:TS} {D:Ends} {σ:St} {H:Hp} (Pv:Nat→St→Hp→Prop) (h0:Pv 0 σ H) (hl:∀ i σ H,i≤xs.length→Pv i σ H→SqL K H a xs)
    (hs:∀ i x σ H,xs[i]?=some x→Pv i σ H→g x σ H fun σ2 H2=>tb { D with nx:=Pv (i + 1),ct:=Pv (i + 1),bk:=D.nx } σ2 H2) (hd:∀ σ H,Pv xs.length σ H→D.nx σ H) :
    ∃ W:Nat→Nat→St→Hp→Prop,(∃ m,W 0 m σ H)∧∀ i m σ H,W i m σ H →
      ((Itl K a).stop i H∧D.nx σ H)∨((Itl K a).go i H∧∃ N:St→Hp→Prop,(∀ σ' H',N σ' H'→∃ m',m'<m∧W (i + 1) m' σ' H')∧∀ x H',(Itl K a).yld i H x H'→g x σ H' fun σ2 H2=>tb { D with nx:=N,ct:=N,bk:=D.nx } σ2 H2):=by
  refine ⟨fun i m σ H=>m=xs.length - i∧i≤xs.length∧Pv i σ H,⟨xs.length,by simp,Nat.zero_le _,h0⟩,?_⟩
  rintro i m σ H ⟨rfl,hi,p⟩
  have q:=hl i σ H hi p
  by_cases hlt:i<xs.length
  · refine .inr ⟨⟨xs,xs[i],q,by simp [hlt]⟩,Pv (i + 1),fun σ' H' p'=>⟨xs.length - (i + 1),by omega,rfl,hlt,p'⟩,fun x H' y=>?_⟩
    obtain ⟨e,y⟩:=y
    subst e
    exact hs i x σ _ (y xs q) p
  · have e:i=xs.length:=by omega
    subst e
    exact .inl ⟨⟨xs,q,Nat.le_refl _⟩,hd σ H p⟩
theorem rJ {lo:Int} {n:Nat} {g:TG} {tb:TS} {D:Ends} {σ:St} {H:Hp} (Pv:Nat→St→Hp→Prop) (h0:Pv 0 σ H)
    (hs:∀ i σ H,i<n→Pv i σ H→g (.int (lo + i)) σ H fun σ2 H2=>tb { D with nx:=Pv (i + 1),ct:=Pv (i + 1),bk:=D.nx } σ2 H2) (hd:∀ σ H,Pv n σ H→D.nx σ H) :
    ∃ W:Nat→Nat→St→Hp→Prop,(∃ m,W 0 m σ H)∧∀ i m σ H,W i m σ H →
      ((Itr lo n).stop i H∧D.nx σ H)∨((Itr lo n).go i H∧∃ N:St→Hp→Prop,(∀ σ' H',N σ' H'→∃ m',m'<m∧W (i + 1) m' σ' H')∧∀ x H',(Itr lo n).yld i H x H'→g x σ H' fun σ2 H2=>tb { D with nx:=N,ct:=N,bk:=D.nx } σ2 H2):=by
  refine ⟨fun i m σ H=>m=n - i∧i≤n∧Pv i σ H,⟨n,by simp,Nat.zero_le _,h0⟩,?_⟩
  rintro i m σ H ⟨rfl,hi,p⟩
  by_cases hlt:i<n
  · refine .inr ⟨hlt,Pv (i + 1),fun σ' H' p'=>⟨n - (i + 1),by omega,rfl,hlt,p'⟩,fun x H' y=>?_⟩
    obtain ⟨e,y⟩:=y
    subst e y
    exact hs i σ _ hlt p
  · have e:i=n:=by omega
    subst e
    exact .inl ⟨Nat.le_refl _,hd σ H p⟩
end L2
namespace L2
open PySem PySem.Spec PyProof.Rows
abbrev R2:=V→V→Hp→VK→Prop
def OpR (X:Cx) (f:Value→Value→Sem Value) (r:R2):Prop :=
  ∀ (pins:List (Addr × Obj)) (s:Shared) (σ:St) (H:Hp) (x y:V) (v u:Value) (Q:VK),Inv X pins σ H s→RelV x v→RelV y u→r x y H Q →
    wpAny (model X.prog X.w) X.A (f v u) (EP X pins σ Q) X.xe s
def UnR (X:Cx) (f:Value→Sem Value) (r:V→Hp→VK→Prop):Prop :=
  ∀ (pins:List (Addr × Obj)) (s:Shared) (σ:St) (H:Hp) (x:V) (v:Value) (Q:VK),Inv X pins σ H s→RelV x v→r x H Q →
    wpAny (model X.prog X.w) X.A (f v) (EP X pins σ Q) X.xe s
def lG (X:Cx) (f:Value) (r:List V→Hp→VK→Prop):Prop :=
  ∀ (pins:List (Addr × Obj)) (s:Shared) (σ:St) (H:Hp) (xs:List V) (us:List Value) (Q:VK),Inv X pins σ H s→Vals xs us→r xs H Q →
    wpAny (model X.prog X.w) X.A (call f us) (EP X pins σ Q) X.xe s
def tOp (r:R2) (ta tb:TE):TE:=fun σ H Q=>ta σ H fun x H1=>tb σ H1 fun y H2=>r x y H2 Q
def tUn (r:V→Hp→VK→Prop) (ta:TE):TE:=fun σ H Q=>ta σ H fun x H1=>r x H1 Q
def rI (C:Int→Int→Prop) (g:Int→Int→V):R2:=fun x y H Q=>∃ i j,x=.int i∧y=.int j∧C i j∧Q (g i j) H
def rI0 (g:Int→Int→V):R2:=fun x y H Q=>∃ i j,x=.int i∧y=.int j∧Q (g i j) H
def rU (g:Int→V):V→Hp→VK→Prop:=fun x H Q=>∃ i,x=.int i∧Q (g i) H
section
variable {X:Cx} {a b c:Expr} {ta tb tc:TE} {pos:Pos}
theorem Vb (ha:PE X a ta) (hb:PE X b tb) {pins:List (Addr × Obj)} {s:Shared} {σ:St} {H:Hp} {R:V→V→Hp→Prop} (I:Inv X pins σ H s)
    (h:ta σ H fun x H1=>tb σ H1 fun y H2=>R x y H2) {Q:Value→Shared→Prop} {f:Value→Value→Sem Value}
    (hf:∀ v u s2 x y H2,Inv X pins σ H2 s2→RelV x v→RelV y u→R x y H2→wpAny (model X.prog X.w) X.A (f v u) Q X.xe s2) :
    wpAny (model X.prog X.w) X.A (eval a X.env) (fun v s₁=>wpAny (model X.prog X.w) X.A (eval b X.env) (fun u s₂=>wpAny (model X.prog X.w) X.A (f v u) Q X.xe s₂) X.xe s₁) X.xe s:=by
  refine thn (ha pins s σ H _ I h) fun v s1 ⟨x,H1,I1,r1,q1⟩=>?_
  refine thn (hb pins s1 σ H1 _ I1 q1) fun u s2 ⟨y,H2,I2,r2,q2⟩=>?_
  exact hf v u s2 x y H2 I2 r1 r2 q2
theorem bK {op:Operator} {r:R2} (ho:OpR X (binaryOp op) r) (ha:PE X a ta) (hb:PE X b tb):PE X (.BinOp a op b pos) (tOp r ta tb):=by
  intro pins s σ H Q I h
  exact wpAny_BinOp (Vb ha hb I h fun v u s2 x y H2 I2 rx ry q=>ho pins s2 σ H2 x y v u Q I2 rx ry q)
theorem rB {op:UnaryOp} {r:V→Hp→VK→Prop} (ho:UnR X (unaryOp op) r) (ha:PE X a ta):PE X (.UnaryOp op a pos) (tUn r ta):=by
  intro pins s σ H Q I h
  exact UnaryOp_ (thn (ha pins s σ H _ I h) fun v s1 ⟨x,H1,I1,r1,q1⟩=>ho pins s1 σ H1 x v Q I1 r1 q1)
theorem opI {f:Value→Value→Sem Value} {C:Int→Int→Prop} {g:Int→Int→Int}
    (rule:∀ (i j:Int) (t u:Tok) (s:Shared) (Q:Value→Shared→Prop) (E:Value→Shared→Prop),C i j→Q (.int (g i j) s.toks) { s with toks:=s.toks + 1 }→wpAny (model X.prog X.w) X.A (f (.int i t) (.int j u)) Q E s) :
    OpR X f (rI C fun i j=>.int (g i j)):=by
  intro pins s σ H x y v u Q I rx ry h
  obtain ⟨i,j,rfl,rfl,hc,q⟩:=h
  obtain ⟨t,rfl⟩:=rx
  obtain ⟨t',rfl⟩:=ry
  exact rule i j t t' s _ _ hc ⟨.int (g i j),H,I.tok _,⟨_,rfl⟩,q⟩
theorem Vm {f:Value→Value→Sem Value} {g:Int→Int→Int}
    (rule:∀ (i j:Int) (t u:Tok) (s:Shared) (Q:Value→Shared→Prop) (E:Value→Shared→Prop),Q (.int (g i j) s.toks) { s with toks:=s.toks + 1 }→wpAny (model X.prog X.w) X.A (f (.int i t) (.int j u)) Q E s) :
    OpR X f (rI0 fun i j=>.int (g i j)):=by
  intro pins s σ H x y v u Q I rx ry h
  obtain ⟨i,j,rfl,rfl,q⟩:=h
  obtain ⟨t,rfl⟩:=rx
  obtain ⟨t',rfl⟩:=ry
  exact rule i j t t' s _ _ ⟨.int (g i j),H,I.tok _,⟨_,rfl⟩,q⟩
theorem R3 {f:Value→Value→Sem Value} {g:Int→Int→Bool}
    (rule:∀ (i j:Int) (t u:Tok) (s:Shared) (Q:Value→Shared→Prop) (E:Value→Shared→Prop),Q (.bool (g i j)) s→wpAny (model X.prog X.w) X.A (f (.int i t) (.int j u)) Q E s) :
    OpR X f (rI0 fun i j=>.bl (g i j)):=by
  intro pins s σ H x y v u Q I rx ry h
  obtain ⟨i,j,rfl,rfl,q⟩:=h
  obtain ⟨t,rfl⟩:=rx
  obtain ⟨t',rfl⟩:=ry
  exact rule i j t t' s _ _ ⟨.bl (g i j),H,I,rfl,q⟩
def VF (i j:Int):Prop:=0<j∧j<1073741824
def CPow (i j:Int):Prop:=0≤j∧j≤1000000∧i.natAbs<2 ^ 64
def Ve (i j:Int):Prop:=(-(2 ^ 64)<i∧i<2 ^ 64)∨(-(2 ^ 64)<j∧j<2 ^ 64)
theorem Ve.ok {i j:Int} (h:Ve i j):IntMulOk i j:=by
  rcases h with ⟨h1,h2⟩ | ⟨h1,h2⟩
  · exact .of_left (intBits_le_64 h1 h2)
  · exact .of_right (intBits_le_64 h1 h2)
theorem jV:OpR X (binaryOp .Add) (rI0 fun i j=>.int (i + j)):=Vm fun _ _ _ _ _ _ _ q=>add_int q
theorem lO:OpR X (binaryOp .Sub) (rI0 fun i j=>.int (i - j)):=Vm fun _ _ _ _ _ _ _ q=>sub_int q
theorem nJ:OpR X (binaryOp .Mult) (rI Ve fun i j=>.int (i * j)):=opI fun _ _ _ _ _ _ _ hc q=>mul_int q hc.ok
theorem jU:OpR X (binaryOp .FloorDiv) (rI VF fun i j=>.int (i / j)):=opI fun i j _ _ _ _ _ hc q=>by
  have h1:(0:Int)<j:=hc.1
  have h2:j<1073741824:=hc.2
  exact floordiv_int (by omega) (by rw [Int.fdiv_eq_ediv_of_nonneg i (by omega)];exact q) (.inl (PyProof.noPylong_small (by omega)))
theorem fY:OpR X (binaryOp .Mod) (rI (fun _ j=>0<j) fun i j=>.int (i % j)):=opI fun i j _ _ _ _ _ hc q=>by
  have h1:(0:Int)<j:=hc
  exact mod_int' (by omega) (by rw [Int.fmod_eq_emod_of_nonneg i (by omega)];exact q)
theorem Lh:OpR X (binaryOp .Pow) (rI CPow fun i j=>.int (i ^ j.toNat)):=opI fun _ _ _ _ _ _ _ hc q=>pow_int_small hc.1 hc.2.1 hc.2.2 q
theorem unI {f:Value→Sem Value} {g:Int→Int}
    (rule:∀ (i:Int) (t:Tok) (s:Shared) (Q:Value→Shared→Prop) (E:Value→Shared→Prop),Q (.int (g i) s.toks) { s with toks:=s.toks + 1 }→wpAny (model X.prog X.w) X.A (f (.int i t)) Q E s) :
    UnR X f (rU fun i=>.int (g i)):=by
  intro pins s σ H x v Q I rx h
  obtain ⟨i,rfl,q⟩:=h
  obtain ⟨t,rfl⟩:=rx
  exact rule i t s _ _ ⟨.int (g i),H,I.tok _,⟨_,rfl⟩,q⟩
theorem mG:UnR X (unaryOp .USub) (rU fun i=>.int (-i)):=unI fun _ _ _ _ _ q=>neg_int q
end
def Vh:V→V→Bool
  | .non,.non=>true | .non,.int _=>true | .int _,.non=>true | .non,.bl _=>true | .bl _,.non=>true | .non,.str _=>true | .str _,.non=>true
  | .int _,.int _=>true | .bl _,.bl _=>true | .str _,.str _=>true | .byt _,.byt _=>true
  | .int _,.str _=>true | .str _,.int _=>true | .bl _,.str _=>true | .str _,.bl _=>true
  | _,_=>false
def rEq:R2:=fun x y H Q=>Vh x y=true∧Q (.bl (decide (x=y))) H
def rNe:R2:=fun x y H Q=>Vh x y=true∧Q (.bl (!decide (x=y))) H
theorem yJ {i j:Int}:decide (V.int i=V.int j)=(i == j):=by
  rw [Bool.eq_iff_iff]
  simp
theorem JK {i j:Bool}:decide (V.bl i=V.bl j)=(i == j):=by
  rw [Bool.eq_iff_iff]
  simp
theorem yI {i j:Str}:decide (V.str i=V.str j)=(i == j):=by
  rw [Bool.eq_iff_iff]
  simp
theorem yK {i j:Array UInt8}:decide (V.byt i=V.byt j)=(i.toList == j.toList):=by
  rw [Bool.eq_iff_iff]
  cases i
  cases j
  simp
section
variable {X:Cx} {a b c:Expr} {ta tb tc:TE} {pos:Pos}
theorem cQ {pins:List (Addr × Obj)} {σ:St} {H:Hp} {s:Shared} {Q:VK} {k k':Bool} (I:Inv X pins σ H s) (q:Q (.bl k) H) (e:k=k'):EP X pins σ Q (.bool k') s:=by
  subst e
  exact ⟨.bl k,H,I,rfl,q⟩
theorem gJ:OpR X (compareOp .Eq) rEq:=by
  intro pins s σ H x y v u Q I rx ry h
  obtain ⟨hs,q⟩:=h
  cases x with
  | non =>
    cases rx
    cases y with
    | non=>cases ry;exact PySem.EqNone.eq_none_none (cQ I q (by simp))
    | bl j=>cases ry;exact PySem.EqNone.eq_none_bool (cQ I q (by simp))
    | int j=>obtain ⟨t',rfl⟩:=ry;exact PySem.EqNone.eq_none_int (cQ I q (by simp))
    | str j=>obtain ⟨t',rfl⟩:=ry;exact PySem.EqNone.eq_none_str (cQ I q (by simp))
    | _=>exact absurd (show false=true from hs) Bool.false_ne_true
  | bl i =>
    cases rx
    cases y with
    | non=>cases ry;exact PySem.EqNone.eq_bool_none (cQ I q (by simp))
    | bl j=>cases ry;exact eq_bool (cQ I q JK)
    | str j=>obtain ⟨t',rfl⟩:=ry;exact PySem.EqMixed.eq_bool_str (cQ I q (by simp))
    | _=>exact absurd (show false=true from hs) Bool.false_ne_true
  | int i =>
    obtain ⟨t,rfl⟩:=rx
    cases y with
    | non=>cases ry;exact PySem.EqNone.eq_int_none (cQ I q (by simp))
    | int j=>obtain ⟨t',rfl⟩:=ry;exact eq_int (cQ I q yJ)
    | str j=>obtain ⟨t',rfl⟩:=ry;exact PySem.EqMixed.eq_int_str (cQ I q (by simp))
    | _=>exact absurd (show false=true from hs) Bool.false_ne_true
  | str i =>
    obtain ⟨t,rfl⟩:=rx
    cases y with
    | non=>cases ry;exact PySem.EqNone.eq_str_none (cQ I q (by simp))
    | bl j=>cases ry;exact PySem.EqMixed.eq_str_bool (cQ I q (by simp))
    | int j=>obtain ⟨t',rfl⟩:=ry;exact PySem.EqMixed.eq_str_int (cQ I q (by simp))
    | str j=>obtain ⟨t',rfl⟩:=ry;exact eq_str (cQ I q yI)
    | _=>exact absurd (show false=true from hs) Bool.false_ne_true
  | byt i =>
    obtain ⟨t,rfl⟩:=rx
    cases y with
    | byt j=>obtain ⟨t',rfl⟩:=ry;exact PySem.W.eq_bytes (cQ I q yK)
    | _=>exact absurd (show false=true from hs) Bool.false_ne_true
  | _=>cases y <;> exact absurd (show false=true from hs) Bool.false_ne_true
theorem xR:OpR X (compareOp .NotEq) rNe:=by
  intro pins s σ H x y v u Q I rx ry h
  obtain ⟨hs,q⟩:=h
  cases x with
  | non =>
    cases rx
    cases y with
    | non=>cases ry;exact PySem.EqNone.ne_none_none (cQ I q (by simp))
    | bl j=>cases ry;exact PySem.EqNone.ne_none_bool (cQ I q (by simp))
    | int j=>obtain ⟨t',rfl⟩:=ry;exact PySem.EqNone.ne_none_int (cQ I q (by simp))
    | str j=>obtain ⟨t',rfl⟩:=ry;exact PySem.EqNone.ne_none_str (cQ I q (by simp))
    | _=>exact absurd (show false=true from hs) Bool.false_ne_true
  | bl i =>
    cases rx
    cases y with
    | non=>cases ry;exact PySem.EqNone.ne_bool_none (cQ I q (by simp))
    | bl j=>cases ry;exact ne_bool (cQ I q (congrArg not JK))
    | str j=>obtain ⟨t',rfl⟩:=ry;exact PySem.EqMixed.ne_bool_str (cQ I q (by simp))
    | _=>exact absurd (show false=true from hs) Bool.false_ne_true
  | int i =>
    obtain ⟨t,rfl⟩:=rx
    cases y with
    | non=>cases ry;exact PySem.EqNone.ne_int_none (cQ I q (by simp))
    | int j=>obtain ⟨t',rfl⟩:=ry;exact ne_int (cQ I q (congrArg not yJ))
    | str j=>obtain ⟨t',rfl⟩:=ry;exact PySem.EqMixed.ne_int_str (cQ I q (by simp))
    | _=>exact absurd (show false=true from hs) Bool.false_ne_true
  | str i =>
    obtain ⟨t,rfl⟩:=rx
    cases y with
    | non=>cases ry;exact PySem.EqNone.ne_str_none (cQ I q (by simp))
    | bl j=>cases ry;exact PySem.EqMixed.ne_str_bool (cQ I q (by simp))
    | int j=>obtain ⟨t',rfl⟩:=ry;exact PySem.EqMixed.ne_str_int (cQ I q (by simp))
    | str j=>obtain ⟨t',rfl⟩:=ry;exact ne_str (cQ I q (congrArg not yI))
    | _=>exact absurd (show false=true from hs) Bool.false_ne_true
  | byt i =>
    obtain ⟨t,rfl⟩:=rx
    cases y with
    | byt j=>obtain ⟨t',rfl⟩:=ry;exact PySem.W.ne_bytes (cQ I q (congrArg not yK))
    | _=>exact absurd (show false=true from hs) Bool.false_ne_true
  | _=>cases y <;> exact absurd (show false=true from hs) Bool.false_ne_true
theorem pY:OpR X (compareOp .Lt) (rI0 fun i j=>.bl (decide (i<j))):=R3 fun _ _ _ _ _ _ _ q=>lt_int q
theorem mj:OpR X (compareOp .LtE) (rI0 fun i j=>.bl (decide (i≤j))):=R3 fun _ _ _ _ _ _ _ q=>le_int q
theorem J7:OpR X (compareOp .Gt) (rI0 fun i j=>.bl (decide (j<i))):=R3 fun _ _ _ _ _ _ _ q=>gt_int q
theorem SQ:OpR X (compareOp .GtE) (rI0 fun i j=>.bl (decide (j≤i))):=R3 fun _ _ _ _ _ _ _ q=>ge_int q
theorem xT:OpR X (compareOp .In) (fun x y H Q=>∃ i j,x=.str i∧y=.str j∧Q (.bl (!(Builtin.Str.occurrences j i 0 j.length 1).isEmpty)) H):=by
  intro pins s σ H x y v u Q I rx ry h
  obtain ⟨i,j,rfl,rfl,q⟩:=h
  obtain ⟨t,rfl⟩:=rx
  obtain ⟨t',rfl⟩:=ry
  exact in_str (cQ I q rfl)
theorem Li:OpR X (compareOp .Is) (fun x y H Q=>y=.non∧Q (.bl (decide (x=.non))) H):=by
  intro pins s σ H x y v u Q I rx ry h
  obtain ⟨rfl,q⟩:=h
  cases ry
  refine is_none_gen (cQ I q ?_)
  cases x <;> first
    | (cases rx;rfl)
    | (obtain ⟨t,rfl⟩:=rx;rfl)
theorem aX (b:Expr) {op:CmpOp} (h:op≠.In:=by decide) (h2:op≠.NotIn:=by decide):behindInMarks op b=false:=by
  have e1:(op == CmpOp.In)=false:=by cases op <;> first | rfl | exact absurd rfl h
  have e2:(op == CmpOp.NotIn)=false:=by cases op <;> first | rfl | exact absurd rfl h2
  cases b <;> simp [behindInMarks,e1,e2]
theorem lZ {op:CmpOp} {r:R2} (ho:OpR X (compareOp op) r) (ha:PE X a ta) (hb:PE X b tb) (hm:behindInMarks op b=false):PE X (.Compare a [op] [b] pos) (tOp r ta tb):=by
  intro pins s σ H Q I h
  exact wpAny_Compare1 (Vb ha hb I h fun v u s2 x y H2 I2 rx ry q=>ho pins s2 σ H2 x y v u Q I2 rx ry q) hm
def JR (t:TE):TT:=fun σ H Q=>t σ H fun x H'=>∃ k,x=.bl k∧Q k H'
theorem aH {op:CmpOp} {r:R2} (ho:OpR X (compareOp op) r) (ha:PE X a ta) (hb:PE X b tb) (hm:behindInMarks op b=false):PT X (.Compare a [op] [b] pos) (JR (tOp r ta tb)):=by
  intro pins s σ H Q I h
  refine wpAny_isTrue_Compare1 (thn (ha pins s σ H _ I h) fun v s1 ⟨x,H1,I1,r1,q1⟩=>thn (hb pins s1 σ H1 _ I1 q1) fun u s2 ⟨y,H2,I2,r2,q2⟩ =>
    thn (ho pins s2 σ H2 x y v u _ I2 r1 r2 q2) fun c s3 ⟨z,H3,I3,r3,k,e,q3⟩=>?_) hm
  subst e
  cases r3
  exact wpAny_truthy_bool ⟨H3,I3,q3⟩
def Ao (r r':R2) (ta tb tc:TE):TE:=fun σ H Q=>ta σ H fun x H1=>tb σ H1 fun y H2=>r x y H2 fun z H3=>∃ k,z=.bl k ∧
  (if k=true then tc σ H3 fun w' H4=>r' y w' H4 Q else Q (.bl false) H3)
theorem pW {op op':CmpOp} {r r':R2} (ho:OpR X (compareOp op) r) (ho':OpR X (compareOp op') r') (ha:PE X a ta) (hb:PE X b tb) (hc:PE X c tc)
    (hm:lastMarks [op,op'] [b,c]=false:=by with_unfolding_all rfl):PE X (.Compare a [op,op'] [b,c] pos) (Ao r r' ta tb tc):=by
  intro pins s σ H Q I h
  refine Compare_chain (thn (ha pins s σ H _ I h) fun v s1 ⟨x,H1,I1,r1,q1⟩=>chain_link (thn (hb pins s1 σ H1 _ I1 q1) fun u s2 ⟨y,H2,I2,r2,q2⟩ =>
    thn (ho pins s2 σ H2 x y v u _ I2 r1 r2 q2) fun d s3 ⟨z,H3,I3,r3,k,e,q3⟩=>?_)) hm
  subst e
  cases r3
  refine wpAny_truthy_bool ?_
  cases k with
  | false=>exact ite_ff ⟨.bl false,H3,I3,rfl,q3⟩
  | true=>exact ite_tt (chain_last (thn (hc pins s3 σ H3 _ I3 q3) fun w' s4 ⟨z',H4,I4,r4,q4⟩=>ho' pins s4 σ H4 y z' u w' Q I4 r2 r4 q4))
theorem j8 {op op':CmpOp} {r r':R2} (ho:OpR X (compareOp op) r) (ho':OpR X (compareOp op') r') (ha:PE X a ta) (hb:PE X b tb) (hc:PE X c tc)
    (hm:lastMarks [op,op'] [b,c]=false:=by with_unfolding_all rfl):PT X (.Compare a [op,op'] [b,c] pos) (JR (Ao r r' ta tb tc)):=by
  intro pins s σ H Q I h
  refine isTrue_chain (thn (ha pins s σ H _ I h) fun v s1 ⟨x,H1,I1,r1,q1⟩=>test_link (thn (hb pins s1 σ H1 _ I1 q1) fun u s2 ⟨y,H2,I2,r2,q2⟩ =>
    thn (ho pins s2 σ H2 x y v u _ I2 r1 r2 q2) fun d s3 ⟨z,H3,I3,r3,k,e,q3⟩=>?_)) hm
  subst e
  cases r3
  refine wpAny_truthy_bool ?_
  cases k with
  | false =>
    obtain ⟨k',e',q'⟩:=q3
    cases e'
    exact ite_ff ⟨H3,I3,q'⟩
  | true =>
    refine ite_tt (test_last (thn (hc pins s3 σ H3 _ I3 q3) fun w' s4 ⟨z',H4,I4,r4,q4⟩=>thn (ho' pins s4 σ H4 y z' u w' _ I4 r2 r4 q4) fun d' s5 ⟨z2,H5,I5,r5,k2,e2,q5⟩=>?_))
    subst e2
    cases r5
    exact wpAny_truthy_bool ⟨H5,I5,q5⟩
theorem rD:(sizeLine:Nat)<2 ^ 63:=by rw [sizeLine_eq];decide
theorem vals1 {x:V} {us:List Value} (r:Vals [x] us):∃ u,us=[u]∧RelV x u:=by
  cases r with
  | cons r1 r2=>cases r2;exact ⟨_,rfl,r1⟩
theorem vals2 {x y:V} {us:List Value} (r:Vals [x,y] us):∃ u w',us=[u,w']∧RelV x u∧RelV y w':=by
  cases r with
  | cons r1 r2 =>
    cases r2 with
    | cons r3 r4=>cases r4;exact ⟨_,_,rfl,r1,r3⟩
theorem rM (hc:X.calm=true):lG X (.builtin "max") (fun xs H Q=>∃ i j,xs=[.int i,.int j]∧Q (.int (if j > i then j else i)) H):=by
  intro pins s σ H xs us Q I r h
  obtain ⟨i,j,rfl,q⟩:=h
  obtain ⟨u,w',rfl,⟨t,rfl⟩,⟨t',rfl⟩⟩:=vals2 r
  refine max_two_ints (I.ok.hd hc) fun h' tk k=>⟨_,H,I.kept k,?_,q⟩
  by_cases hj:j > i
  · rw [if_pos hj,if_pos hj];exact ⟨_,rfl⟩
  · rw [if_neg hj,if_neg hj];exact ⟨_,rfl⟩
theorem yS (hc:X.calm=true):lG X (.builtin "min") (fun xs H Q=>∃ i j,xs=[.int i,.int j]∧Q (.int (if j<i then j else i)) H):=by
  intro pins s σ H xs us Q I r h
  obtain ⟨i,j,rfl,q⟩:=h
  obtain ⟨u,w',rfl,⟨t,rfl⟩,⟨t',rfl⟩⟩:=vals2 r
  refine min_two_ints (I.ok.hd hc) fun h' tk k=>⟨_,H,I.kept k,?_,q⟩
  by_cases hj:j<i
  · rw [if_pos hj,if_pos hj];exact ⟨_,rfl⟩
  · rw [if_neg hj,if_neg hj];exact ⟨_,rfl⟩
end
end L2
namespace L2
open PySem PySem.Spec PyProof.Rows
structure KH (h:Heap) (x dx C:Addr) (mA:Str→Option Value):Prop where
  obj:h.get? x=some (PySem.W.instObj C dx)
  ns:h.Ns1 dx mA
  ne:dx≠x
theorem yp {h:Heap} {dx:Addr} {mA:Str→Option Value} (n:h.Ns1 dx mA):∃ od,h.get? dx=some od∧∀ name,PySem.W.lookIn name od=some (mA name):=by
  obtain ⟨o,es,ep,ho,hd,hk,_,hm⟩:=n
  refine ⟨o,ho,fun name=>?_⟩
  have e:=hm name
  unfold nsFind findBy at e
  rw [← Array.find?_toList] at e
  unfold PySem.W.lookIn
  rw [hd]
  dsimp only
  split
  · rename_i y q
    rw [q] at e
    exact congrArg some e
  · rename_i q
    rw [q] at e
    have a:es.toList.any (·.refKey)=false:=by
      rw [List.any_eq_false]
      intro y hy
      obtain ⟨z,t,hkey⟩:=hk y (Array.mem_toList_iff.mp hy)
      simp [DictEntry.refKey,hkey]
    have a':¬ es.toList.any (·.refKey)=true:=by rw [a];exact Bool.false_ne_true
    rw [if_neg a']
    exact congrArg some e
theorem KH.look {h:Heap} {x dx C:Addr} {mA:Str→Option Value} (I:KH h x dx C mA):∃ od,PySem.W.InstAt h x (PySem.W.instObj C dx) C (some od)∧∀ name,PySem.W.lookIn name od=some (mA name) :=
  let ⟨od,ho,hl⟩:=yp I.ns
  ⟨od,⟨I.obj,rfl,rfl,ho⟩,hl⟩
section
variable {prog:Program} {w:World} {A:Around} {E:Value→Shared→Prop} {s:Shared} {K:PySem.W.Frag} {x dx C f:Addr} {mA:Str→Option Value} {name:Str} {v:Value}
theorem get_map {expr:Bool} {Q:Value→Shared→Prop} (X:K.In s.heap) (I:KH s.heap x dx C mA) (hg:PySem.W.plainGet K C name=true) (hh:PySem.W.hasDictIn K C=true)
    (ha:PySem.W.findIn K (.ref C) name=some none) (hv:mA name=some v) (hv':PySem.W.handedIn v=true) (h:Q v { s with toks:=s.toks + 1 }) :
    wpAny (model prog w) A (getAttr (.ref x) name expr) Q E s:=by
  obtain ⟨od,J,hl⟩:=I.look
  exact PySem.W.get_value X J (PySem.W.plainGet_of hg).1 (PySem.W.findObj_own hh ha rfl (by rw [hl,hv])) hv' h
theorem Ab {pl:Sem Bool} {Q:Value × List Value→Shared→Prop} (X:K.In s.heap) (I:KH s.heap x dx C mA) (hg:PySem.W.plainGet K C name=true)
    (hf:PySem.W.findIn K (.ref C) name=some (some (.ref f))) (ht:PySem.W.isFn K (.ref f)=true) (hv:mA name=none) (h:Q (.ref f,[.ref x]) s) :
    wpAny (model prog w) A (getMethod (.ref x) name pl) Q E s:=by
  obtain ⟨od,J,hl⟩:=I.look
  exact PySem.W.method_fn X J (PySem.W.plainGet_of hg).1 (PySem.W.plainGet_of hg).2 hf (beq_iff_eq.mp ht) (by show (PySem.W.lookIn name od).map (·.isSome)=some false;rw [hl,hv];rfl) h
theorem JZ {ns:List Str} {Q:Unit→Shared→Prop} (X:K.In s.heap) (I:KH s.heap x dx C mA)
    (hs:PySem.W.findIn K (.ref C) "__setattr__"=some (some (.builtin "object.__setattr__"))) (hp:PySem.W.plainOver K C=true) (ht:PySem.W.takerIn K C name=some none) (hh:PySem.W.hasDictIn K C=true)
    (hw:PySem.Within mA ns) (hsz:ns.length≤sizeLine)
    (h:∀ h',KH h' x dx C (fun y=>if y=name then some v else mA y)→Heap.SameBut dx s.heap h'→Q () { s with heap:=h',toks:=s.toks + 2 }) :
    wpAny (model prog w) A (setAttr (.ref x) name v) Q E s:=by
  obtain ⟨od,J,hl⟩:=I.look
  refine PySem.W.set_plain X J hs (PySem.W.osa_open (s:={ s with toks:=s.toks + 1 }) (r:=none) X J hp ht fun b=>?_)
  obtain ⟨cd,hc,hd'⟩:=PySem.W.any_some hh
  have hx:s.heap.get? x=some ⟨.ref C,some dx,.plain,#[]⟩:=I.obj
  refine wpAny_bind (wpAny_pure (wpAny_bind (wpAny_bind (wpAny_loadPart hx (wpAny_bind (PySem.W.Looks.here (s:={ s with toks:=s.toks + 1 }) (PySem.W.looks_clsIn X hc) ?_))))))
  rw [hd']
  refine wpAny_pure (a:=some dx) (wpAny_bind (wpAny_pure (wpAny_bind ?_)))
  refine wpAny_nsSet1 (s:={ s with toks:=s.toks + 1 }) I.ns fun h' hn2 hs2=>?_
  obtain ⟨oD,esD,epD,hoD,hdD,hcD⟩:=hn2.count (PySem.Within.cons name v hw)
  refine wpAny_bind (wpAny_lookBehind hoD (by rw [hdD];exact pastItsLine_dict (Nat.le_trans hcD (by rw [List.length_cons];omega))) ?_)
  exact wpAny_pure (h _ ⟨(hs2.2 _ (Ne.symm I.ne)).trans I.obj,hn2,I.ne⟩ hs2)
theorem zY {R:Result→Shared→Prop} {vs:List Value} {kw:List (Str × Value)} (X:K.In s.heap) (hm:PySem.W.makesIn K C=true)
    (hi:PySem.W.findIn K (.ref C) "__init__"=some (some (.ref f))) (hf:PySem.W.typeIn K (.ref f)=some (.type "function"))
    (h:codeAny (model prog w) (A.under (.builtin "type.__call__" ⟨.ref C :: vs,kw⟩)) (.call (.ref f) ⟨.ref (s.heap.objs.size + 1) :: vs,kw⟩) (PySem.W.InitBack (s.heap.objs.size + 1) R)
      { s with heap:=(s.heap.push PySem.W.emptyDict).push (PySem.W.instObj C s.heap.objs.size) }) :
    codeAny (model prog w) A (.call (.ref C) ⟨vs,kw⟩) R s:=by
  obtain ⟨hh,g,d,t,os⟩:=s
  exact PySem.W.make_core (PySem.W.makes_of X hm) (PySem.W.looks_findIn X hi) (fun self=>PySem.W.bind_fn X self hf) (.inl rfl) h
end
def qy (f:Str) (v:V):List (Str × V)→List (Str × V)
  | []=>[(f,v)]
  | (g,x) :: r=>if g=f then (g,v) :: r else (g,x) :: qy f v r
theorem nM (f g:Str) (v:V):∀ fs:List (Str × V),(qy f v fs).lookup g=if g=f then some v else fs.lookup g
  | []=>by
    show List.lookup g [(f,v)]=_
    by_cases h:g=f
    · have hb:(g == f)=true:=beq_iff_eq.mpr h
      simp only [List.lookup,hb,if_pos h]
    · have hb:(g == f)=false:=beq_eq_false_iff_ne.mpr h
      simp only [List.lookup,hb,if_neg h]
  | (k,x) :: r=>by
    have ih:=nM f g v r
    rw [show qy f v ((k,x) :: r)=(if k=f then (k,v) :: r else (k,x) :: qy f v r) from rfl]
    by_cases hk:k=f
    · rw [if_pos hk]
      by_cases h:g=k
      · have hb:(g == k)=true:=beq_iff_eq.mpr h
        simp only [List.lookup,hb,if_pos (h.trans hk)]
      · have hb:(g == k)=false:=beq_eq_false_iff_ne.mpr h
        simp only [List.lookup,hb,if_neg (fun e:g=f=>h (e.trans hk.symm))]
    · rw [if_neg hk]
      by_cases h:g=k
      · have hb:(g == k)=true:=beq_iff_eq.mpr h
        simp only [List.lookup,hb,if_neg (fun e:g=f=>hk (h.symm.trans e))]
      · have hb:(g == k)=false:=beq_eq_false_iff_ne.mpr h
        simp only [List.lookup,hb]
        exact ih
theorem nU (f:Str) (v:V):∀ fs:List (Str × V),f∈(qy f v fs).map (·.1)∧∀ g,g∈fs.map (·.1)→g∈(qy f v fs).map (·.1)
  | []=>⟨by simp [qy],fun g h=>by simp at h⟩
  | (k,x) :: r=>by
    obtain ⟨i1,i2⟩:=nU f v r
    rw [show qy f v ((k,x) :: r)=(if k=f then (k,v) :: r else (k,x) :: qy f v r) from rfl]
    by_cases hk:k=f
    · rw [if_pos hk]
      subst hk
      exact ⟨by simp,fun g h=>by simpa using h⟩
    · rw [if_neg hk]
      refine ⟨?_,fun g h=>?_⟩
      · rw [List.map_cons]
        exact List.mem_cons_of_mem _ i1
      · rw [List.map_cons] at h ⊢
        rcases List.mem_cons.mp h with e | e
        · exact List.mem_cons.mpr (.inl e)
        · exact List.mem_cons_of_mem _ (i2 g e)
theorem nP (f:Str) (v:V):∀ fs:List (Str × V),(qy f v fs).length≤fs.length + 1
  | []=>by simp [qy]
  | (k,x) :: r=>by
    have ih:=nP f v r
    rw [show qy f v ((k,x) :: r)=(if k=f then (k,v) :: r else (k,x) :: qy f v r) from rfl]
    by_cases hk:k=f
    · rw [if_pos hk,List.length_cons,List.length_cons];omega
    · rw [if_neg hk,List.length_cons,List.length_cons];omega
theorem zf.some_of {v:V} {o:Option Value} (r:zf (some v) o):∃ u,o=some u∧RelV v u:=by
  cases o with
  | none=>exact (show False from r).elim
  | some u=>exact ⟨u,rfl,r⟩
theorem zf.none_of {o:Option Value} (r:zf none o):o=none:=by
  cases o with
  | none=>rfl
  | some u=>exact (show False from r).elim
theorem yD {v:V} {u:Value} (r:RelV v u):PySem.W.handedIn u=true:=by
  cases v with
  | non=>cases (show u=Value.none from r);rfl
  | bl b=>cases (show u=Value.bool b from r);rfl
  | int i=>obtain ⟨t,e⟩:=(show ∃ t,u=Value.int i t from r);cases e;rfl
  | str x=>obtain ⟨t,e⟩:=(show ∃ t,u=Value.str x t from r);cases e;rfl
  | byt b=>obtain ⟨t,e⟩:=(show ∃ t,u=Value.bytes b t from r);cases e;rfl
  | flt b=>obtain ⟨t,e⟩:=(show ∃ t,u=Value.float b t from r);cases e;rfl
  | ref a=>cases (show u=Value.ref a from r);rfl
  | ty n=>cases (show u=Value.type n from r);rfl
section
variable {P:Program} {w:World} {H H':Hp} {h h':Heap} {a C dx:Addr} {fs fs':List (Str × V)}
theorem qd (hok:HOk P w H h) (e:H a=some (.ins C dx fs)):∃ mA,KH h a dx C mA∧(∀ f,zf (fs.lookup f) (mA f))∧PySem.Within mA (fs.map (·.1))∧fs.length≤1000∧H dx=some (.own a):=by
  obtain ⟨d,z,ne,ob,mA,n,r,q⟩:=(show iD P w H h a (.ins C dx fs) from hok a _ e)
  exact ⟨mA,⟨ob,n,ne⟩,r,q,z,d⟩
end
structure Cls (K:PySem.W.Frag) (C:Addr):Prop where
  pg:PySem.W.plainGet K C Str.empty=true
  hd:PySem.W.hasDictIn K C=true
  po:PySem.W.plainOver K C=true
  sa:PySem.W.findIn K (.ref C) "__setattr__"=some (some (.builtin "object.__setattr__"))
theorem Cls.get {K:PySem.W.Frag} {C:Addr} (c:Cls K C) (f:Str):PySem.W.plainGet K C f=true:=c.pg
def jl (K:PySem.W.Frag) (C:Addr) (f:Str):Prop:=PySem.W.findIn K (.ref C) f=some none
theorem jl.taker {K:PySem.W.Frag} {C:Addr} {f:Str} (n:jl K C f):PySem.W.takerIn K C f=some none:=by
  unfold PySem.W.takerIn
  rw [show PySem.W.findIn K (.ref C) f=some none from n]
  rfl
structure Meth (K:PySem.W.Frag) (C:Addr) (m:Str) (f:Addr):Prop where
  at_:PySem.W.findIn K (.ref C) m=some (some (.ref f))
  fn:PySem.W.isFn K (.ref f)=true
  kp:PySem.W.keepIn K (.ref f)=true
section
variable {X:Cx} {pins:List (Addr × Obj)} {σ:St} {H:Hp} {s:Shared} {a C dx:Addr} {fs:List (Str × V)} {f:Str} {v:V} {A:Around} {E:Value→Shared→Prop}
theorem o7 {b:Bool} {Q:Value→Shared→Prop} (I:Inv X pins σ H s) (e:H a=some (.ins C dx fs)) (c:Cls X.K C) (n:jl X.K C f) (l:fs.lookup f=some v)
    (h:∀ u s',Inv X pins σ H s'→RelV v u→Q u s'):wpAny (model X.prog X.w) A (getAttr (.ref a) f b) Q E s:=by
  obtain ⟨mA,O,r,_,_,_⟩:=qd I.hok e
  obtain ⟨u,hu,ru⟩:=zf.some_of (v:=v) (o:=mA f) (by rw [← l];exact r f)
  exact get_map I.kIn O (c.get f) c.hd n hu (yD ru) (h u _ (I.tok _) ru)
theorem oZ {m:Str} {g:Addr} {pl:Sem Bool} {Q:Value × List Value→Shared→Prop} (I:Inv X pins σ H s) (e:H a=some (.ins C dx fs)) (c:Cls X.K C) (k:Meth X.K C m g) (l:fs.lookup m=none)
    (h:Q (.ref g,[.ref a]) s):wpAny (model X.prog X.w) A (getMethod (.ref a) m pl) Q E s:=by
  obtain ⟨mA,O,r,_,_,_⟩:=qd I.hok e
  have hn:mA m=none:=zf.none_of (by rw [← l];exact r m)
  exact Ab I.kIn O (c.get m) k.at_ k.fn hn h
theorem oU {y:V} {u:Value} {Q:Unit→Shared→Prop} (I:Inv X pins σ H s) (e:H a=some (.ins C dx fs)) (c:Cls X.K C) (n:jl X.K C f) (hl:fs.length<1000) (ry:RelV y u)
    (h:∀ s',Inv X pins σ (upd H a (.ins C dx (qy f y fs))) s'→Q () s'):wpAny (model X.prog X.w) A (setAttr (.ref a) f u) Q E s:=by
  obtain ⟨mA,O,r,wi,_,ho⟩:=qd I.hok e
  have hz:(fs.map (·.1)).length≤sizeLine:=by rw [List.length_map,sizeLine_eq];omega
  refine JZ I.kIn O c.sa c.po n.taker c.hd wi hz fun h' O' sb=>h _ ?_
  have hd:∃ o,h'.get? dx=some o:=let ⟨o,_,_,e',_⟩:=O'.ns;⟨o,e'⟩
  refine I.write (x:=a) (e:=dx) (by rw [e];exact True.intro) (.inr ho) (fun b q hb z=>(sb.2 b hb).trans z) hd ?_
  refine ⟨by rw [bh O.ne];exact ho,?_,O.ne,O'.obj,_,O'.ns,fun g=>?_,fun g hg=>?_⟩
  · have:=nP f y fs;omega
  · show zf ((qy f y fs).lookup g) (if g=f then some u else mA g)
    rw [nM]
    by_cases q:g=f
    · rw [if_pos q,if_pos q];exact ry
    · rw [if_neg q,if_neg q];exact r g
  · by_cases q:g=f
    · rw [q];exact (nU f y fs).1
    · refine (nU f y fs).2 g (wi g fun z=>hg ?_)
      show (if g=f then some u else mA g)=none
      rw [if_neg q];exact z
theorem Inv.made (I:Inv X pins σ H s):Inv X pins σ (upd (upd H s.heap.objs.size (.own (s.heap.objs.size + 1))) (s.heap.objs.size + 1) (.ins C s.heap.objs.size []))
    { s with heap:=(s.heap.push PySem.W.emptyDict).push (PySem.W.instObj C s.heap.objs.size) }:=by
  have e1:(s.heap.push PySem.W.emptyDict).get? s.heap.objs.size=some PySem.W.emptyDict:=Heap.get?_push_size s.heap rfl
  have e2:((s.heap.push PySem.W.emptyDict).push (PySem.W.instObj C s.heap.objs.size)).get? (s.heap.objs.size + 1)=some (PySem.W.instObj C s.heap.objs.size):=by
    have:=Heap.get?_push_size (s.heap.push PySem.W.emptyDict) (o:=PySem.W.instObj C s.heap.objs.size) rfl
    rwa [Heap.size_push] at this
  have e3:(s.heap.push PySem.W.emptyDict).Ns s.heap.objs.size (fun _=>none):=⟨PySem.W.emptyDict,#[],_,e1,rfl,(fun e he=>absurd he (by simp)),fun _=>rfl⟩
  have I1:=I.laid (a:=s.heap.objs.size) (o:=.own (s.heap.objs.size + 1)) (h':=s.heap.push PySem.W.emptyDict) (t':=s.toks) (fun b u q=>Heap.get?_push_of_some _ q) (Nat.le_refl _) ⟨_,e1⟩
  refine I1.laid (a:=s.heap.objs.size + 1) (o:=.ins C s.heap.objs.size []) (t':=s.toks) (fun b u q=>Heap.get?_push_of_some _ q) (Nat.le_of_eq (Heap.size_push _ _)) ?_
  have ne:s.heap.objs.size≠s.heap.objs.size + 1:=Nat.ne_of_lt (Nat.lt_succ_self _)
  refine ⟨by rw [bh ne,dO],Nat.zero_le _,ne,e2,fun _=>none,(Heap.Ns1.of_empty e3).at fun o q=>Heap.get?_push_of_some _ q,fun _=>True.intro,fun y hy=>absurd rfl hy⟩
theorem Kz {prog:Program} {w:World} {env:Env} {e:Expr} {f:Str} {pos:Pos} {s:Shared} {Q:Value→Shared→Prop} (hb:attributeBase e f env (eval e env)=eval e env)
    (h:wpAny (model prog w) A (eval e env) (fun o s₁=>wpAny (model prog w) A (getAttr o f true) Q E s₁) E s):wpAny (model prog w) A (eval (.Attribute e f pos) env) Q E s :=
  Attribute_any_ h (by rw [arm_eval_Attribute,hb])
end
def tFld (K:PySem.W.Frag) (ta:TE) (f:Str):TE:=fun σ H Q=>ta σ H fun x H1=>∃ a C dx fs v,x=.ref a∧H1 a=some (.ins C dx fs)∧Cls K C∧jl K C f∧fs.lookup f=some v∧Q v H1
def sFld (K:PySem.W.Frag) (ta tv:TE) (f:Str):TS:=fun D σ H=>tv σ H fun y H1=>ta σ H1 fun x H2=>∃ a C dx fs,x=.ref a∧H2 a=some (.ins C dx fs)∧Cls K C∧jl K C f∧fs.length<1000 ∧
  D.nx σ (upd H2 a (.ins C dx (qy f y fs)))
def VD (X:Cx) (op:Operator) (rd:V→V→Hp→VK→Prop):Prop :=
  ∀ (pins:List (Addr × Obj)) (s:Shared) (σ:St) (H:Hp) (x y:V) (u v:Value) (Q:VK),Inv X pins σ H s→RelV x u→RelV y v→rd x y H Q→wpAny (model X.prog X.w) X.A (inplaceOp op u v) (EP X pins σ Q) X.xe s
def J0 (K:PySem.W.Frag) (ta tv:TE) (rd:V→V→Hp→VK→Prop) (f:Str):TS:=fun D σ H=>ta σ H fun x H1=>∃ a C dx fs v,x=.ref a∧H1 a=some (.ins C dx fs)∧Cls K C∧jl K C f∧fs.lookup f=some v ∧
  tv σ H1 fun y H2=>rd v y H2 fun z H3=>∃ dx' fs',H3 a=some (.ins C dx' fs')∧fs'.length<1000∧D.nx σ (upd H3 a (.ins C dx' (qy f z fs')))
section
variable {X:Cx} {o e value:Expr} {f:Str} {pos pos' tpos:Pos} {ta tv:TE}
theorem cg (he:PE X e ta) (hb:attributeBase e f X.env (eval e X.env)=eval e X.env):PE X (.Attribute e f pos) (tFld X.K ta f):=by
  intro pins s σ H Q I h
  refine Kz hb (thn (he pins s σ H _ I h) fun u s1 ⟨x,H1,I1,rx,a,C,dx,fs,v,ex,ea,c,n,l,q⟩=>?_)
  subst ex
  obtain rfl:u=Value.ref a:=rx
  exact o7 I1 ea c n l fun u' s2 I2 ru=>⟨v,H1,I2,ru,q⟩
theorem qZ (ha:PE X o ta) (hv:PE X value tv) (hs:swapsWith value (some (.Attribute o f pos')) pos.line X.env=pure false):PS X (.Assign [.Attribute o f pos'] value pos) (sFld X.K ta tv f):=by
  intro pins s σ H D I h
  refine plainObj_wpAny_Assign_Attribute (thn (hv pins s σ H _ I h) fun u s1 ⟨y,H1,I1,ry,q⟩=>thn (ha pins s1 σ H1 _ I1 q) fun ov s2 ⟨x,H2,I2,rx,a,C,dx,fs,ex,ea,c,n,l,q2⟩=>?_) hs
  subst ex
  obtain rfl:ov=Value.ref a:=rx
  exact oU I2 ea c n l ry fun s3 I3=>⟨σ,_,I3,q2⟩
theorem xg {op:Operator} {rd:V→V→Hp→VK→Prop} (ha:PE X o ta) (hv:PE X value tv) (hop:VD X op rd):PS X (.AugAssign (.Attribute o f tpos) op value pos) (J0 X.K ta tv rd f):=by
  intro pins s σ H D I h
  refine wpAny_AugAssign_AttributeAny (thn (ha pins s σ H _ I h) fun ov s1 ⟨x,H1,I1,rx,a,C,dx,fs,v,ex,ea,c,n,l,q⟩=>?_)
  subst ex
  obtain rfl:ov=Value.ref a:=rx
  refine o7 I1 ea c n l fun u s2 I2 ru=>thn (hv pins s2 σ H1 _ I2 q) fun w3 s3 ⟨y,H2,I3,ry,q3⟩=>thn (hop pins s3 σ H2 v y u w3 _ I3 ru ry q3) fun w4 s4 ⟨z,H3,I4,rz,dx',fs',ea',l',q4⟩=>?_
  exact oU I4 ea' c n l' rz fun s5 I5=>⟨σ,_,I5,q4⟩
def rAdd:V→V→Hp→VK→Prop:=fun x y H Q=>∃ i j,x=.int i∧y=.int j∧Q (.int (i + j)) H
theorem Ml:VD X .Add rAdd:=by
  rintro pins s σ H x y u v Q I rx ry ⟨i,j,rfl,rfl,q⟩
  obtain ⟨t,rfl⟩:=(show ∃ t,u=Value.int i t from rx)
  obtain ⟨t',rfl⟩:=(show ∃ t',v=Value.int j t' from ry)
  exact PyProof.Rows.iadd_int ⟨.int (i + j),H,I.tok _,⟨_,rfl⟩,q⟩
end
section
variable {X:Cx} {pins:List (Addr × Obj)} {σ:St} {H:Hp} {s:Shared} {A:Around} {E:Value→Shared→Prop} {Q:Value→Shared→Prop} {c:Value} {b:Bool}
inductive rZ (K:PySem.W.Frag) (H:Hp):V→Value→Prop where
  | non:rZ K H .non (.type "NoneType")
  | bl (x:Bool):rZ K H (.bl x) (.type "bool")
  | int (i:Int):rZ K H (.int i) (.type "int")
  | str (x:Str):rZ K H (.str x) (.type "str")
  | flt (x:UInt64):rZ K H (.flt x) (.type "float")
  | lst {a:Addr} {xs:List V} (e:H a=some (.lst xs)):rZ K H (.ref a) (.type "list")
  | frz {a:Addr} {o:Obj} {xs:List V} (e:H a=some (.frz o (.lst xs))):rZ K H (.ref a) (.type "list")
  | tup {a:Addr} {xs:List V} (e:H a=some (.tup xs)):rZ K H (.ref a) (.type "tuple")
  | dK {a:Addr} {kvs:List (Key × V)} (e:H a=some (.dK kvs)):rZ K H (.ref a) (.type "dict")
  | dT {a:Addr} {kvs:List (List Key × V)} (e:H a=some (.dT kvs)):rZ K H (.ref a) (.type "dict")
  | ins {a C dx:Addr} {fs:List (Str × V)} (e:H a=some (.ins C dx fs)) (cl:Cls K C) (ha:PySem.W.findIn K (.ref C) "__class__"=some (some (.builtin "object.__class__")))
      (hn:PySem.W.specialIn K (.builtin "object.__class__") "__get__"=some (some (.builtin "getset_descriptor.__get__"))) (htk:PySem.W.takesIn K (.builtin "object.__class__")=some true)
      (hm:PySem.W.mroIn K C (.type "object")=some true):rZ K H (.ref a) (.ref C)
theorem rG {x:V} {u t:Value} (I:Inv X pins σ H s) (rx:RelV x u) (ty:rZ X.K H x t) (e:PySem.W.kitOne X.K t c=some b) (h:∀ tk,Q (.bool b) { s with toks:=tk }) :
    wpAny (model X.prog X.w) A (call (.builtin "isinstance") [u,c]) Q E s:=by
  cases ty with
  | non=>cases (show u=Value.none from rx);exact PySem.W.kia_one PySem.W.kitx_none I.kIn True.intro e (fun z=>nomatch z) h
  | bl y=>cases (show u=Value.bool y from rx);exact PySem.W.kia_one PySem.W.kitx_bool I.kIn True.intro e (fun z=>nomatch z) h
  | int i=>obtain ⟨t,q⟩:=(show ∃ t,u=Value.int i t from rx);cases q;exact PySem.W.kia_one PySem.W.kitx_int I.kIn True.intro e (fun z=>nomatch z) h
  | str y=>obtain ⟨t,q⟩:=(show ∃ t,u=Value.str y t from rx);cases q;exact PySem.W.kia_one PySem.W.kitx_str I.kIn True.intro e (fun z=>nomatch z) h
  | flt y=>obtain ⟨t,q⟩:=(show ∃ t,u=Value.float y t from rx);cases q;exact PySem.W.kia_one PySem.W.kitx_float I.kIn True.intro e (fun z=>nomatch z) h
  | @lst a xs ea =>
    cases (show u=Value.ref a from rx)
    obtain ⟨_,_,n,_,h1⟩:=(show iD X.prog X.w H s.heap a (.lst xs) from I.hok a _ ea)
    exact PySem.W.kia_one PySem.W.kitx_list I.kIn ⟨_,h1,rfl⟩ e (fun z=>nomatch z) h
  | @frz a ob xs ea =>
    cases (show u=Value.ref a from rx)
    obtain ⟨_,_,_,n,_,h1⟩:=(show iD X.prog X.w H s.heap a (.frz ob (.lst xs)) from I.hok a _ ea)
    exact PySem.W.kia_one PySem.W.kitx_list I.kIn ⟨_,h1,rfl⟩ e (fun z=>nomatch z) h
  | @tup a xs ea =>
    cases (show u=Value.ref a from rx)
    obtain ⟨_,_,_,p⟩:=(show iD X.prog X.w H s.heap a (.tup xs) from I.hok a _ ea)
    obtain ⟨o,h1,h2,_⟩:=p
    exact PySem.W.kia_one PySem.W.kitx_tuple I.kIn ⟨o,h1,h2⟩ e (fun z=>nomatch z) h
  | @dK a kvs ea =>
    cases (show u=Value.ref a from rx)
    obtain ⟨_,_,vs,_,p⟩:=(show iD X.prog X.w H s.heap a (.dK kvs) from I.hok a _ ea)
    obtain ⟨o,es,ep,h1,h2,_⟩:=p
    exact PySem.W.kia_one PySem.W.kitx_dict I.kIn ⟨o,h1,h2.1⟩ e (fun z=>nomatch z) h
  | @dT a kvs ea =>
    cases (show u=Value.ref a from rx)
    obtain ⟨_,_,xs,_,o,es,ep,h1,h2,_⟩:=(show iD X.prog X.w H s.heap a (.dT kvs) from I.hok a _ ea)
    exact PySem.W.kia_one PySem.W.kitx_dict I.kIn ⟨o,h1,h2.1⟩ e (fun z=>nomatch z) h
  | @ins a C dx fs ea cl ha hn htk hm =>
    cases (show u=Value.ref a from rx)
    obtain ⟨mA,O,_⟩:=qd I.hok ea
    obtain ⟨od,J,_⟩:=O.look
    exact PySem.W.kia_one (PySem.W.kitx_own (cl.get _) cl.hd ha hn htk hm) I.kIn J e (fun z=>nomatch z) h
end
end L2
namespace L2
open PySem PySem.Spec PyProof.Rows
structure mC (k:Nat) (A:Around):Prop where
  hd:A.handled=none
  dp:A.depth + 3 * k + 5<recursionLimit
  un:A.units + 16 * k + 200<cLine
theorem mC.mono {j k:Nat} {A:Around} (r:mC k A) (h:j≤k):mC j A:=⟨r.hd,by have:=r.dp;omega,by have:=r.un;omega⟩
theorem mC.deeper {k:Nat} {A:Around} (r:mC (k + 1) A) (env:Env):mC k (A.deeper env) :=
  ⟨r.hd,by have:=r.dp;show A.depth + 1 + 3 * k + 5<_;omega,by have:=r.un;show A.units + 3 + 16 * k + 200<_;omega⟩
theorem vQ {A:Around} {C:Addr} {us:List Value} {kw:List (Str × Value)}:(A.under (.builtin "type.__call__" ⟨.ref C :: us,kw⟩)).depth=A.depth + 1:=by
  first | rfl | simp [Around.under,Code.weight,Code.isCreation,Code.isGuard,Code.isCaller,Code.frames,Code.isFrame,guardIds]
theorem vP {A:Around} {C:Addr} {us:List Value} {kw:List (Str × Value)}:(A.under (.builtin "type.__call__" ⟨.ref C :: us,kw⟩)).units=A.units + 1:=by
  first | rfl | simp [Around.under,Code.cUnits,Code.frames,Code.isFrame]
theorem mC.make {k:Nat} {A:Around} (r:mC (k + 1) A) (C:Addr) (us:List Value) (kw:List (Str × Value)):mC k (A.under (.builtin "type.__call__" ⟨.ref C :: us,kw⟩)) :=
  ⟨r.hd,by have:=r.dp;rw [vQ];omega,by have:=r.un;rw [vP];omega⟩
theorem mC.depth {k:Nat} {A:Around} (r:mC k A):A.depth<recursionLimit:=by have:=r.dp;omega
theorem mC.units {k:Nat} {A:Around} (r:mC k A):A.units + 64<cLine:=by have:=r.un;omega
def Vg:TA:=fun _ H Q=>Q [] H
def Sw (ta:TE) (tr:TA):TA:=fun σ H Q=>ta σ H fun x H1=>tr σ H1 fun xs H2=>Q (x :: xs) H2
section
variable {X:Cx} {e:Expr} {es:List Expr} {te:TE} {t:TA} {pos:Pos}
theorem ao:PA X [] Vg:=fun _ _ _ _ H Q I h=>Calls.spliced_nil ⟨[],H,I,.nil,h⟩
theorem aj (ha:PE X e te) (hr:PA X es t) (hs:starEach (e :: es) X.env=(false,eval e X.env) :: starEach es X.env:=by rfl):PA X (e :: es) (Sw te t):=by
  intro pos pins s σ H Q I h
  rw [hs]
  show wpAny _ _ (spliced ((false,eval e X.env) :: backTo pos (starEach es X.env))) _ _ s
  refine Calls.spliced_cons (thn (ha pins s σ H _ I h) fun u s1 ⟨x,H1,I1,r1,q1⟩=>?_)
  exact thn (hr pos pins s1 σ H1 _ I1 q1) fun us s2 ⟨xs,H2,I2,r2,q2⟩=>⟨x :: xs,H2,I2,.cons r1 r2,q2⟩
def tTup (t:TA):TE:=fun σ H Q=>t σ H fun xs H1=>xs.length≤sizeLine∧∀ p,H1 p=none→Q (.ref p) (upd H1 p (.tup xs))
def tLst (t:TA):TE:=fun σ H Q=>t σ H fun xs H1=>xs.length≤sizeLine∧∀ p,H1 p=none→Q (.ref p) (upd H1 p (.lst xs))
theorem cP {x1} (h:PA X es t):PE X (.Tuple es x1 pos) (tTup t):=by
  intro pins s σ H Q I hq
  refine wpAny_Tuple_spliced (thn (h pos pins s σ H _ I hq) fun us s1 ⟨xs,H1,I1,r,z,q⟩=>⟨by rw [← r.length];exact z,?_⟩)
  have hf:H1 s1.heap.objs.size=none:=I1.hok.fresh (Nat.le_refl _)
  refine ⟨.ref s1.heap.objs.size,upd H1 s1.heap.objs.size (.tup xs),I1.laid (t':=s1.toks) (fun b u e=>Heap.get?_push_of_some _ e) (Nat.le_refl _) ?_,rfl,q _ hf⟩
  exact ⟨z,us,r,⟨_,Heap.get?_push_size _ rfl,rfl,_,rfl⟩⟩
theorem gF (h:PA X es t):PE X (.List es pos) (tLst t):=by
  intro pins s σ H Q I hq
  refine wpAny_List_spliced (thn (h pos pins s σ H _ I hq) fun us s1 ⟨xs,H1,I1,r,z,q⟩=>⟨by rw [← r.length];exact z,?_⟩)
  have hf:H1 s1.heap.objs.size=none:=I1.hok.fresh (Nat.le_refl _)
  refine ⟨.ref s1.heap.objs.size,upd H1 s1.heap.objs.size (.lst xs),I1.laid (t':=s1.toks) (fun b u e=>Heap.get?_push_of_some _ e) (Nat.le_refl _) ?_,rfl,q _ hf⟩
  exact ⟨z,us,0,r,Heap.get?_push_size _ rfl⟩
end
abbrev Sp:=List V→Hp→VK→XK→Prop
abbrev CXT:=List Env→Hp→Shared→XK→Value→Shared→Prop
structure KJ (P:Program) (w:World) (K:PySem.W.Frag) (mg:Str→Option Value) (base:Heap) (A:Around) (outer:List Env) (s:Shared) (H:Hp):Prop where
  frames:A.frames=some outer
  mod:Mod K mg base
  bs:∀ b o,base.get? b=some o→s.heap.get? b=some o∧H b=none
  bsz:base.objs.size≤s.heap.objs.size
  uZ:s.heap.FunFrames base outer
  frf:∀ b∈frs outer,H b=none
  hok:HOk P w H s.heap
  bare:AllBare s.gens
def CE (outer:List Env) (P:Program) (w:World) (H:Hp) (s:Shared) (Q:VK) (u:Value) (s':Shared):Prop :=
  ∃ v H',s'.os=s.os∧AllBare s'.gens∧Un (frs outer) [] H H' s.heap s'.heap∧HOk P w H' s'.heap∧RelV v u∧Q v H'
def CR (CX:CXT) (outer:List Env) (P:Program) (w:World) (H:Hp) (s:Shared) (Q:VK) (E:XK) (r:Result) (s':Shared):Prop :=
  match r with
  | .ok (.ret u)=>CE outer P w H s Q u s'
  | .ok _=>False
  | .error e=>CX outer H s E e s'
structure bF (P:Program) (w:World) (K:PySem.W.Frag) (mg:Str→Option Value) (base:Heap) (CX:CXT) (k:Nat) (f:Addr) (fd:FuncData) (ps:List Str) (sp:Sp):Prop where
  len:∀ vs H Q E,sp vs H Q E→vs.length=ps.length
  run:∀ (A:Around) (outer:List Env) (s:Shared) (H:Hp) (args:Args) (us:List Value) (vs:List V) (Q:VK) (E:XK),mC k A→KJ P w K mg base A outer s H→BindsTo s fd args (ps.zip us)→Vals vs us→sp vs H Q E →
    codeAny (model P w) A (.call (.ref f) args) (CR CX outer P w H s Q E) s
theorem KJ.make {P:Program} {w:World} {K:PySem.W.Frag} {mg:Str→Option Value} {base:Heap} {A:Around} {outer:List Env} {s:Shared} {H:Hp} (e:KJ P w K mg base A outer s H) (C:Addr) (us:List Value) (kw:List (Str × Value)) :
    KJ P w K mg base (A.under (.builtin "type.__call__" ⟨.ref C :: us,kw⟩)) outer s H:=⟨by first | exact e.frames | (simpa [Around.under,Code.envs,Code.isFrame,pushEnvs] using e.frames),e.mod,e.bs,e.bsz,e.uZ,e.frf,e.hok,e.bare⟩
section
variable {X:Cx} {pins:List (Addr × Obj)} {σ:St} {H:Hp} {s s':Shared}
theorem Inv.env0 (I:Inv X pins σ H s):KJ X.prog X.w X.K X.mg X.base X.A X.stack s H :=
  ⟨I.ok.frames,I.ok.mod,I.bs,Nat.le_trans I.ok.bsz I.sz,I.stack,I.sG,I.hok,I.bare⟩
theorem Inv.after {Q:VK} {u:Value} (I:Inv X pins σ H s) (h:CE X.stack X.prog X.w H s Q u s'):EP X pins σ Q u s':=by
  obtain ⟨v,H',os,bare,un,hok,r,q⟩:=h
  obtain ⟨hh,g,d,t,os'⟩:=s'
  obtain rfl:os'=s.os:=os
  exact ⟨v,H',I.call (h':=hh) (g':=g) (d':=d) (t':=t) (ch:=[]) un hok bare (fun b z=>absurd z (by simp)),r,q⟩
end
def Sx (sp:Sp) (dvs:List V) (E:XK) (t:TA):TE:=fun σ H Q=>t σ H fun vs H1=>sp (vs++dvs) H1 Q E
def K4 (C:Addr) (m:Str) (sp:Sp) (dvs:List V) (E:XK) (ta:TE) (t:TA):TE:=fun σ H Q=>ta σ H fun x H1=>∃ a dx fs,x=.ref a∧H1 a=some (.ins C dx fs)∧fs.lookup m=none ∧
  t σ H1 fun vs H2=>sp (x :: (vs++dvs)) H2 Q E
def Ss (C:Addr) (sp:Sp) (dvs:List V) (E:XK) (t:TA):TE:=fun σ H Q=>t σ H fun vs H1=>∀ x dx,H1 x=none→H1 dx=none→dx≠x →
  sp (.ref x :: (vs++dvs)) (upd (upd H1 dx (.own x)) x (.ins C dx [])) (fun v H2=>v=.non∧Q (.ref x) H2) E
def Binds (K:PySem.W.Frag) (fd:FuncData) (ps:List Str) (ds:List Value):Prop :=
  ∀ (s:Shared) (us:List Value),K.In s.heap→(us++ds).length=ps.length→BindsTo s fd ⟨us,[]⟩ (ps.zip (us++ds))
theorem Binds.all {K:PySem.W.Frag} {fd:FuncData} {ps:List Str} (h:∀ us:List Value,us.length=ps.length→bindArgs fd ⟨us,[]⟩=pure (ps.zip us)):Binds K fd ps []:=fun s us _ hl=>by
  rw [List.append_nil] at hl ⊢
  exact .of_eq (h us hl)
def Passes (CX:CXT) (X:Cx) (E:XK):Prop:=∀ (pins:List (Addr × Obj)) (σ:St) (H:Hp) (s:Shared) (e:Value) (s':Shared),Inv X pins σ H s→CX X.stack H s E e s'→X.xe e s'
section
variable {X:Cx} {CX:CXT} {k:Nat} {f C:Addr} {fd:FuncData} {ps:List Str} {sp:Sp} {dvs:List V} {ds:List Value} {E:XK} {x m:Str} {p pos apos:Pos} {e o:Expr} {es:List Expr} {ta:TE} {t:TA}
theorem wW {pins:List (Addr × Obj)} {σ:St} {H:Hp} {s:Shared} {Q:VK} {us:List Value} {vs:List V} (F:bF X.prog X.w X.K X.mg X.base CX k f fd ps sp) (hr:mC k X.A) (hb:Binds X.K fd ps ds) (hd:Vals dvs ds) (hx:Passes CX X E)
    (I:Inv X pins σ H s) (r:Vals vs us) (h:sp (vs++dvs) H Q E):wpAny (model X.prog X.w) X.A (call (.ref f) us) (EP X pins σ Q) X.xe s:=by
  have r2:Vals (vs++dvs) (us++ds):=r.append hd
  have hl:(us++ds).length=ps.length:=by rw [← r2.length];exact F.len _ _ _ _ h
  refine wpAny_call (codeAny_mono (F.run X.A X.stack s H ⟨us,[]⟩ (us++ds) (vs++dvs) Q E hr I.env0 (hb s us I.kIn hl) r2 h) fun r s' hq=>?_)
  cases r with
  | error e=>exact hx pins σ H s e s' I hq
  | ok fl =>
    cases fl with
    | ret u=>exact I.after hq
    | next=>exact False.elim hq
    | brk=>exact False.elim hq
    | cont=>exact False.elim hq
theorem aL (F:bF X.prog X.w X.K X.mg X.base CX k f fd ps sp) (hr:mC k X.A) (hg:Gl X x) (hm:X.mg x=some (.ref f)) (hk:PySem.W.keepIn X.K (.ref f)=true) (hb:Binds X.K fd ps ds) (hd:Vals dvs ds) (hx:Passes CX X E)
    (ha:PA X (e :: es) t) (hdb:(x == ("__debug__":Str))=false:=by decide) (he:starEach (e :: es) X.env=(false,eval e X.env) :: starEach es X.env:=by rfl) (hpl:(backTo pos (starEach es X.env)).any (·.1)=false:=by rfl) :
    PE X (.Call (.Name x p) (e :: es) [] pos) (Sx sp dvs E t):=by
  intro pins s σ H Q I h
  refine wpAny_Call_Name_kw (mq I hg hm ?_ hdb)
  refine PySem.W.callWith_K (h₀:=X.base) I.ok.mod.kin hk (thn (ha pos pins s σ H _ I h) fun us s1 ⟨vs,H1,I1,r,q⟩=>⟨I1.kIn,?_⟩) he hpl
  exact wW F hr hb hd hx I1 r q
theorem cU {pl:Sem Bool} (he:PE X o ta) (c:Cls X.K C) (hm:Meth X.K C m f) (F:bF X.prog X.w X.K X.mg X.base CX k f fd ps sp) (hr:mC k X.A) (hb:Binds X.K fd ps ds) (hd:Vals dvs ds) (hx:Passes CX X E) (ha:PA X (e :: es) t)
    (hst:starEach (e :: es) X.env=(false,eval e X.env) :: starEach es X.env:=by rfl) (hpl:(backTo pos (starEach es X.env)).any (·.1)=false:=by rfl)
    (ht:eval (.Call (.Attribute o m apos) (e :: es) [] pos) X.env=(do
      let ov ← eval o X.env
      standAt apos.atName
      let (f,first) ← holding [ov] (getMethod ov m pl)
      callWith pos f first (backTo pos (starEach (e :: es) X.env)) (backToKw pos (keywordEach [] X.env))):=by rfl) :
    PE X (.Call (.Attribute o m apos) (e :: es) [] pos) (K4 C m sp dvs E ta t):=by
  intro pins s σ H Q I h
  refine PySem.W.methodCall_KW (pl:=pl) (thn (he pins s σ H _ I h) fun u s1 ⟨x,H1,I1,rx,a,dx,fs,ex,ea,l,q⟩=>?_) ht
  subst ex
  obtain rfl:u=Value.ref a:=rx
  refine oZ I1 ea c hm l ?_
  refine PySem.W.callWith_K (first:=[.ref a]) (h₀:=X.base) I.ok.mod.kin hm.kp (thn (ha pos pins s1 σ H1 _ I1 q) fun us s2 ⟨vs,H2,I2,r,q2⟩=>⟨I2.kIn,?_⟩) hst hpl
  exact wW (us:=.ref a :: us) (vs:=.ref a :: vs) F hr hb hd hx I2 (.cons rfl r) q2
theorem gH {pl:Sem Bool} (he:PE X o ta) (c:Cls X.K C) (hm:Meth X.K C m f) (F:bF X.prog X.w X.K X.mg X.base CX k f fd ps sp) (hr:mC k X.A) (hb:Binds X.K fd ps ds) (hd:Vals dvs ds) (hx:Passes CX X E)
    (ht:eval (.Call (.Attribute o m apos) [] [] pos) X.env=(do
      let ov ← eval o X.env
      standAt apos.atName
      let (f,first) ← holding [ov] (getMethod ov m pl)
      callWith pos f first (backTo pos (starEach [] X.env)) (backToKw pos (keywordEach [] X.env))):=by rfl) :
    PE X (.Call (.Attribute o m apos) [] [] pos) (K4 C m sp dvs E ta Vg):=by
  intro pins s σ H Q I h
  refine PySem.W.methodCall_KW (pl:=pl) (thn (he pins s σ H _ I h) fun u s1 ⟨x,H1,I1,rx,a,dx,fs,ex,ea,l,q⟩=>?_) ht
  subst ex
  obtain rfl:u=Value.ref a:=rx
  refine oZ I1 ea c hm l ?_
  exact PySem.W.callWith_K0 (first:=[.ref a]) I1.kIn hm.kp (wW (us:=[.ref a]) (vs:=[.ref a]) F hr hb hd hx I1 (.cons rfl .nil) q)
structure Mk (K:PySem.W.Frag) (C f:Addr):Prop where
  makes:PySem.W.makesIn K C=true
  init:PySem.W.findIn K (.ref C) "__init__"=some (some (.ref f))
  fn:PySem.W.isFn K (.ref f)=true
  kp:PySem.W.keepIn K (.ref C)=true
theorem zy {pins:List (Addr × Obj)} {σ:St} {H:Hp} {s:Shared} {Q:VK} {us:List Value} {vs:List V} (M:Mk X.K C f) (F:bF X.prog X.w X.K X.mg X.base CX k f fd ps sp) (hr:mC (k + 1) X.A) (hb:Binds X.K fd ps ds) (hd:Vals dvs ds)
    (hx:Passes CX X E) (I:Inv X pins σ H s) (r:Vals vs us)
    (h:∀ x dx,H x=none→H dx=none→dx≠x→sp (.ref x :: (vs++dvs)) (upd (upd H dx (.own x)) x (.ins C dx [])) (fun v H2=>v=.non∧Q (.ref x) H2) E) :
    wpAny (model X.prog X.w) X.A (call (.ref C) us) (EP X pins σ Q) X.xe s:=by
  have hq:=h (s.heap.objs.size + 1) s.heap.objs.size (I.hok.fresh (Nat.le_succ _)) (I.hok.fresh (Nat.le_refl _)) (Nat.ne_of_lt (Nat.lt_succ_self _))
  have I2:=Inv.made (C:=C) I
  have r2:Vals (V.ref (s.heap.objs.size + 1) :: (vs++dvs)) (Value.ref (s.heap.objs.size + 1) :: (us++ds)):=.cons rfl (r.append hd)
  have hl:(Value.ref (s.heap.objs.size + 1) :: us++ds).length=ps.length:=by
    have e:=r2.length
    rw [F.len _ _ _ _ hq] at e
    exact e.symm
  refine wpAny_call (zY (f:=f) I.kIn M.makes M.init (beq_iff_eq.mp M.fn) (codeAny_mono (F.run _ X.stack _ _ ⟨Value.ref (s.heap.objs.size + 1) :: us,[]⟩ (Value.ref (s.heap.objs.size + 1) :: (us++ds)) _ _ E (hr.make C us [])
    (I2.env0.make C us []) (hb _ (Value.ref (s.heap.objs.size + 1) :: us) I2.kIn hl) r2 hq) fun r s' hq'=>?_))
  cases r with
  | error e=>exact hx pins σ _ _ e s' I2 hq'
  | ok fl =>
    cases fl with
    | ret u =>
      obtain ⟨v,H',I3,rv,ev,q3⟩:=I2.after hq'
      subst ev
      exact ⟨rv,⟨V.ref (s.heap.objs.size + 1),H',I3,rfl,q3⟩⟩
    | next=>exact False.elim hq'
    | brk=>exact False.elim hq'
    | cont=>exact False.elim hq'
theorem xM (M:Mk X.K C f) (F:bF X.prog X.w X.K X.mg X.base CX k f fd ps sp) (hr:mC (k + 1) X.A) (hg:Gl X x) (hm:X.mg x=some (.ref C)) (hb:Binds X.K fd ps ds) (hd:Vals dvs ds) (hx:Passes CX X E)
    (ha:PA X (e :: es) t) (hdb:(x == ("__debug__":Str))=false:=by decide) (he:starEach (e :: es) X.env=(false,eval e X.env) :: starEach es X.env:=by rfl) (hpl:(backTo pos (starEach es X.env)).any (·.1)=false:=by rfl) :
    PE X (.Call (.Name x p) (e :: es) [] pos) (Ss C sp dvs E t):=by
  intro pins s σ H Q I h
  refine wpAny_Call_Name_kw (mq I hg hm ?_ hdb)
  refine PySem.W.callWith_K (h₀:=X.base) I.ok.mod.kin M.kp (thn (ha pos pins s σ H _ I h) fun us s1 ⟨vs,H1,I1,r,q⟩=>⟨I1.kIn,?_⟩) he hpl
  exact zy M F hr hb hd hx I1 r q
end
structure aM (N P:List Str) (sc:Scope):Prop where
  kind:sc.kind=.function
  co:sc.isCoroutine=false
  gen:sc.isGenerator=false
  nd:N.Nodup
  pre:N.take P.length=P
  par:∀ x∈P,sc.names.lookup x=some .local∨sc.names.lookup x=some .cell
  nofree:∀ y∈sc.names,y.2≠.free
theorem rR {kindOf:Str→Option NameKind} {x:Str}:∀ {binds:List (Str × Value)} {m:Str→Option Value},(∀ v,(x,v) ∉ binds)→bindL kindOf binds m x=m x
  | [],_,_=>rfl
  | (n,v) :: r,m,h=>by
    unfold bindL
    rw [rR fun w hw=>h w (List.mem_cons_of_mem _ hw)]
    split
    · have:x≠n:=by rintro rfl;exact h v List.mem_cons_self
      simp [this]
    · rfl
theorem rW {kindOf:Str→Option NameKind} {x:Str}:∀ {binds:List (Str × Value)} {m:Str→Option Value},(∀ v,(x,v) ∉ binds)→bindC kindOf binds m x=m x
  | [],_,_=>rfl
  | (n,v) :: r,m,h=>by
    unfold bindC
    rw [rW fun w hw=>h w (List.mem_cons_of_mem _ hw)]
    split
    · rfl
    · have:x≠n:=by rintro rfl;exact h v List.mem_cons_self
      simp [this]
theorem rT {kindOf:Str→Option NameKind} {x:Str} {v:Value}:∀ {P:List Str} {vs:List Value} {i:Nat} {m:Str→Option Value},P.Nodup→P[i]?=some x→vs[i]?=some v→kindOf x=some .local →
    bindL kindOf (P.zip vs) m x=some v
  | [],_,_,_,_,h,_,_=>by simp at h
  | _ :: _,[],_,_,_,_,h,_=>by simp at h
  | p :: P,w :: vs,0,m,nd,h1,h2,hk=>by
    simp at h1 h2;subst h1;subst h2
    show bindL kindOf ((p,w) :: P.zip vs) m p=_
    unfold bindL
    rw [rR fun v hv=>(List.nodup_cons.mp nd).1 (List.of_mem_zip hv).1,if_pos hk]
    simp
  | p :: P,w :: vs,i + 1,m,nd,h1,h2,hk=>by
    show bindL kindOf ((p,w) :: P.zip vs) m x=_
    unfold bindL
    exact rT (i:=i) (List.nodup_cons.mp nd).2 (by simpa using h1) (by simpa using h2) hk
theorem rY {kindOf:Str→Option NameKind} {x:Str} {v:Value}:∀ {P:List Str} {vs:List Value} {i:Nat} {m:Str→Option Value},P.Nodup→P[i]?=some x→vs[i]?=some v→kindOf x≠some .local →
    bindC kindOf (P.zip vs) m x=some v
  | [],_,_,_,_,h,_,_=>by simp at h
  | _ :: _,[],_,_,_,_,h,_=>by simp at h
  | p :: P,w :: vs,0,m,nd,h1,h2,hk=>by
    simp at h1 h2;subst h1;subst h2
    show bindC kindOf ((p,w) :: P.zip vs) m p=_
    unfold bindC
    rw [rW fun v hv=>(List.nodup_cons.mp nd).1 (List.of_mem_zip hv).1,if_neg hk]
    simp
  | p :: P,w :: vs,i + 1,m,nd,h1,h2,hk=>by
    show bindC kindOf ((p,w) :: P.zip vs) m x=_
    unfold bindC
    exact rY (i:=i) (List.nodup_cons.mp nd).2 (by simpa using h1) (by simpa using h2) hk
def start (N:List Str) (vs:List V):St:=vs.map some++List.replicate (N.length - vs.length) none
def zc (CX:CXT) (P:Program) (w:World) (K:PySem.W.Frag) (mg:Str→Option Value) (base:Heap) (N:List Str) (qual:Str) (scope:Scope) (f:Addr) (cd:Value) (A:Around) (outer:List Env) (s:Shared) (H:Hp) (E:XK):Cx where
  prog:=P
  w:=w
  K:=K
  mg:=mg
  base:=base
  A:=A.deeper (envOfC qual scope s.heap.objs.size f cd)
  N:=N
  s₀:=s
  H₀:=H
  env:=envOfC qual scope s.heap.objs.size f cd
  outer:=outer
  stack:=envOfC qual scope s.heap.objs.size f cd :: outer
  ex:=[]
  calm:=true
  fn:=fun _=>true
  pn:=[]
  xe:=fun e s'=>wpAny (model P w) (A.deeper (envOfC qual scope s.heap.objs.size f cd)) (leaving (envOfC qual scope s.heap.objs.size f cd) e) (fun _ s''=>CX outer H s E e s'') (fun e' s''=>CX outer H s E e' s'') s'
theorem vq {sc:Scope} {n:Nat} {x:Str} (h:sc.names.lookup x=some .cell):∃ c,(cellsFrom n sc.names []).lookup x=some c:=by
  have q:=PySem.W.cellsFrom_some sc.names n [] (.inl h)
  exact Option.isSome_iff_exists.mp q
theorem yx {CX:CXT} {P:Program} {w:World} {K:PySem.W.Frag} {mg:Str→Option Value} {base:Heap} {N ps:List Str} {qual:Str} {scope:Scope} {f:Addr} {cd:Value} {A:Around} {outer:List Env} {s s1:Shared} {H:Hp} {E:XK} {us:List Value} {vs:List V}
    (S:aM N ps scope) (hd:A.handled=none) (e0:KJ P w K mg base A outer s H) (hl:vs.length=ps.length) (r:Vals vs us)
    (x:InCallC s s.heap.objs.size (bindL (envOfC qual scope s.heap.objs.size f cd).kindOf (ps.zip us) fun _=>none) (cellsFrom (s.heap.objs.size + 1) scope.names []) (bindC (envOfC qual scope s.heap.objs.size f cd).kindOf (ps.zip us) fun _=>none) s1) :
    Inv (zc CX P w K mg base N qual scope f cd A outer s H E) [] (start N vs) H s1:=by
  have hpl:ps.length≤N.length:=by have:=congrArg List.length S.pre;rw [List.length_take] at this;omega
  obtain ⟨h1,tk,rfl,hk⟩:=x.done
  have noA:∀ b:Addr,b ∉ (zc CX P w K mg base N qual scope f cd A outer s H E).ex:=fun b z=>absurd (show b∈([]:List Addr) from z) (by simp)
  refine ⟨⟨e0.mod,S.kind,rfl,rfl,Nat.le_refl _,fun y z c h1 h2=>?_,fun y hy=>?_,fun y c _ h=>?_,fun _=>hd,Around.frames_deeper e0.frames,.inr ⟨rfl,rfl⟩,fun b z=>absurd z (noA b),e0.bs,e0.bsz,fun b _ _=>noA b,fun b z=>absurd z (noA b),e0.uZ,e0.frf⟩,
    rfl,e0.bare,Un.kept hk,⟨_,x.toInCall.ns,fun i y v h1 h2 h3=>?_⟩,fun y c h=>⟨_,x.cell y c h⟩,e0.hok.fresh (Nat.le_refl _),fun y c h=>?_,fun p hp=>absurd (show p∈([]:List (Addr × Obj)) from hp) (by simp),e0.hok.kept hk,?_⟩
  · exact name_of_addr x.apart (PySem.mem_of_lookup h1) (PySem.mem_of_lookup h2)
  · have hy:scope.names.lookup y=some .cell∨scope.names.lookup y=some .free:=hy
    rcases hy with hy | hy
    · exact vq hy
    · exact absurd rfl (S.nofree _ (PySem.mem_of_lookup hy))
  · exact Nat.le_of_lt (x.above y c (PySem.mem_of_lookup h))
  · have hi:i<vs.length:=by
      unfold start at h2
      by_cases hi:i<vs.length
      · exact hi
      · rw [List.getElem?_append_right (by simpa using hi)] at h2
        rw [List.getElem?_replicate] at h2
        split at h2 <;> cases h2
    have ha:vs[i]?=some v:=by
      unfold start at h2
      rw [List.getElem?_append_left (by simpa using hi),List.getElem?_map] at h2
      cases e:vs[i]? with
      | none=>rw [e] at h2;cases h2
      | some a=>rw [e] at h2;cases h2;rfl
    obtain ⟨u,hu,rv⟩:=r.get ha
    have hp:ps[i]?=some y:=by
      rw [← S.pre,List.getElem?_take_of_lt (by omega)];exact h1
    have ndP:ps.Nodup:=by rw [← S.pre];exact S.nd.sublist (List.take_sublist _ _)
    refine ⟨u,rv,?_⟩
    rcases S.par y (List.mem_of_getElem? hp) with k | k
    · exact .inl ⟨k,rT ndP hp hu k⟩
    · obtain ⟨c,e⟩:=vq (n:=s.heap.objs.size + 1) k
      refine .inr ⟨.inl k,c,e,?_⟩
      have q:=x.cell y c e
      rw [rY ndP hp hu (by show scope.names.lookup y≠_;rw [k];decide)] at q
      exact q
  · exact e0.hok.fresh (Nat.le_of_lt (x.above y c (PySem.mem_of_lookup h)))
  · unfold start
    show _=N.length
    rw [List.length_append,List.length_map,List.length_replicate]
    omega
theorem Ks {CX:CXT} {P:Program} {w:World} {K:PySem.W.Frag} {mg:Str→Option Value} {base:Heap} {k:Nat} {f:Addr} {name qual:Str} {params:Arguments} {body:List Stmt} {scope:Scope} {dV kV doc pm cdv ct oc:Value} {an od:Option Addr}
    {osl:Array (Option Value)} {N ps:List Str} {sp:Sp} (lk:K.lookup f=some ⟨oc,od,.func (PySem.W.fnOf name qual params body scope dV kV doc pm an cdv ct),osl⟩) (hcd:PySem.W.codeIn K cdv qual=true) (S:aM N ps scope)
    (len:∀ vs H Q E,sp vs H Q E→vs.length=ps.length)
    (hbody:∀ (A:Around) (outer:List Env) (s:Shared) (H:Hp) (vs:List V) (Q:VK) (E:XK),mC k (A.deeper (envOfC qual scope s.heap.objs.size f cdv))→sp vs H Q E →
      ∃ t,PSs (zc CX P w K mg base N qual scope f cdv A outer s H E) body t∧t { nx:=fun _ H'=>Q .non H',rt:=Q } (start N vs) H) :
    bF P w K mg base CX (k + 1) f (PySem.W.fnOf name qual params body scope dV kV doc pm an cdv ct) ps sp:=by
  refine ⟨len,fun A outer s H args us vs Q E hr e0 hb r hsp=>?_⟩
  have hl:=len _ _ _ _ hsp
  have KX:K.In s.heap:=e0.mod.kin.keeps fun b o e=>(e0.bs b o e).1
  have lim:s.heap.NoLimit:=e0.mod.nolimit.keeps fun b o e=>(e0.bs b o e).1
  have hkind:∀ y∈ps.zip us,scope.names.lookup y.1=some .local∨(scope.names.lookup y.1=some .cell∧((cellsFrom (s.heap.objs.size + 1) scope.names []).lookup y.1).isSome=true):=fun ⟨n,v⟩ hy=>by
    rcases S.par n (List.of_mem_zip hy).1 with q | q
    · exact .inl q
    · exact .inr ⟨q,PySem.W.cellsFrom_some _ _ _ (.inl q)⟩
  refine codeAny_call_function hr.depth (KX _ _ lk) rfl S.co S.gen rfl (PySem.W.codeRec_of KX hcd) (hb _ _ _ _ ?_)
  refine wpAny_newFunctionEnv_cells S.kind hkind fun env he s1 x=>?_
  subst he
  refine ⟨lim.keeps x.toInCall.keep,codeAny_func ?_⟩
  obtain ⟨t,ht,hq⟩:=hbody A outer s H vs Q E (hr.deeper _) hsp
  have I:Inv (zc CX P w K mg base N qual scope f cdv A outer s H E) [] (start N vs) H s1:=yx S hr.hd e0 hl r x
  refine wpAny_mono (ht [] s1 (start N vs) H _ I hq) (fun fl s' hs=>?_) fun e s' hs=>hs
  have fin:∀ {σ':St} {H':Hp} {v:V} {u:Value},Inv (zc CX P w K mg base N qual scope f cdv A outer s H E) [] σ' H' s'→RelV v u→Q v H'→CE outer P w H s Q u s' :=
    fun {σ' H' v u} J rv q=>⟨v,H',J.os,J.bare,J.base,J.hok,rv,q⟩
  cases fl with
  | ret u =>
    obtain ⟨v,σ',H',J,rv,q⟩:=hs
    exact fin J rv q
  | next =>
    obtain ⟨σ',H',J,q⟩:=hs
    exact fin (v:=V.non) (u:=Value.none) J rfl q
  | brk =>
    obtain ⟨_,_,_,q⟩:=hs
    exact False.elim q
  | cont =>
    obtain ⟨_,_,_,q⟩:=hs
    exact False.elim q
end L2
namespace L2
open PySem PySem.Spec PyProof.Rows
section
variable {X:Cx} {x:Str} {p pos:Pos} {e:Expr} {es:List Expr} {t:TA} {id T:String} {r:List V→Hp→VK→Prop}
def tCB (r:List V→Hp→VK→Prop) (t:TA):TE:=fun σ H Q=>t σ H fun vs H1=>r vs H1 Q
theorem aR (hc:lG X (.builtin id) r) (hg:Gl X x) (hm:X.mg x=none) (hv:bootBuiltins x=some (.builtin id)) (ha:PA X (e :: es) t) (hn:x≠"__name__":=by decide) (hdb:(x == ("__debug__":Str))=false:=by decide)
    (he:starEach (e :: es) X.env=(false,eval e X.env) :: starEach es X.env:=by rfl) (hpl:(backTo pos (starEach es X.env)).any (·.1)=false:=by rfl):PE X (.Call (.Name x p) (e :: es) [] pos) (tCB r t):=by
  intro pins s σ H Q I h
  refine wpAny_Call_Name_kw (nQ I hg hm hv ?_ hn hdb)
  exact PyProof.Rows.callWith_builtin1 (thn (ha pos pins s σ H _ I h) fun us s1 ⟨vs,H1,I1,r1,q1⟩=>hc pins s1 σ H1 vs us Q I1 r1 q1) he hpl
theorem fB (hc:lG X (.type T) r) (hg:Gl X x) (hm:X.mg x=none) (hv:bootBuiltins x=some (.type T)) (ha:PA X (e :: es) t) (hn:x≠"__name__":=by decide) (hdb:(x == ("__debug__":Str))=false:=by decide)
    (he:starEach (e :: es) X.env=(false,eval e X.env) :: starEach es X.env:=by rfl) (hpl:(backTo pos (starEach es X.env)).any (·.1)=false:=by rfl):PE X (.Call (.Name x p) (e :: es) [] pos) (tCB r t):=by
  intro pins s σ H Q I h
  refine wpAny_Call_Name_kw (nQ I hg hm hv ?_ hn hdb)
  exact PyProof.Rows.callWith_type1 (thn (ha pos pins s σ H _ I h) fun us s1 ⟨vs,H1,I1,r1,q1⟩=>hc pins s1 σ H1 vs us Q I1 r1 q1) he hpl
end
end L2
namespace HT
open PySem PyProof.Rows
section
open PySem.SeqAt
open PySem.AutoSeq1 (wpAny_loadPart')
open PySem.MeetsSeq PySem.MeetsSeq2 PySem.MeetsSeq3
end
section
variable {prog:Program} {w:World} {A:Around} {E:Value→Shared→Prop} {s:Shared}
def sIx (n d:Nat):Option Int→Nat
  | none=>d
  | some v=>if v<0 then (v + (n:Int)).toNat else min v.toNat n
theorem tG (n d k:Nat):sIx n d (some (k:Int))=min k n:=by
  show (if (k:Int)<0 then ((k:Int) + (n:Int)).toNat else min (k:Int).toNat n)=min k n
  rw [if_neg (by omega),Int.toNat_natCast]
end
end HT
namespace L2
open PySem PySem.Spec PyProof.Rows
abbrev TO:=St→Hp→(Option Int→Hp→Prop)→Prop
def PO (X:Cx) (e:Option Expr) (t:TO):Prop :=
  ∀ (pins:List (Addr × Obj)) (s:Shared) (σ:St) (H:Hp) (Q:Option Int→Hp→Prop),Inv X pins σ H s→t σ H Q →
    wpAny (model X.prog X.w) X.A (evalPart e X.env) (fun u s'=>∃ o H',Inv X pins σ H' s'∧IsPart u o∧Q o H') X.xe s
def JT:TO:=fun _ H Q=>Q none H
def Sd (t:TE):TO:=fun σ H Q=>t σ H fun x H1=>∃ i,x=.int i∧Q (some i) H1
section
variable {X:Cx} {e:Expr} {te:TE} {lo hi:Option Expr} {tl th:TO} {pos p2:Pos}
theorem xr:PO X none JT:=by
  intro pins s σ H Q I h
  rw [evalPart_none]
  exact wpAny_pure ⟨none,H,I,.none,h⟩
theorem pQ (h:PE X e te):PO X (some e) (Sd te):=by
  intro pins s σ H Q I hw
  rw [evalPart_some]
  refine thn (h pins s σ H _ I hw) fun u s1 ⟨x,H1,I1,r1,q1⟩=>?_
  obtain ⟨i,rfl,q⟩:=q1
  obtain ⟨t,rfl⟩:=r1
  exact ⟨some i,H1,I1,.int i t,q⟩
def SlR (X:Cx) (r:V→Option Int→Option Int→Hp→VK→Prop):Prop :=
  ∀ (pins:List (Addr × Obj)) (s:Shared) (σ:St) (H:Hp) (x:V) (v vl vu:Value) (lo hi:Option Int) (sl:Addr) (Q:VK),Inv X pins σ H s→RelV x v→s.heap.IsSliceOf sl vl vu .none→IsPart vl lo→IsPart vu hi→r x lo hi H Q →
    ∃ T id,typeLookup (.type T) "__getitem__"=pure (some (.builtin id))∧s.TypeIs v T∧wpAny (model X.prog X.w) X.A (getItem v (.ref sl)) (EP X pins σ Q) X.xe s
def tSl (r:V→Option Int→Option Int→Hp→VK→Prop) (te:TE) (tl th:TO):TE:=fun σ H Q=>te σ H fun x H1=>tl σ H1 fun l H2=>th σ H2 fun u H3=>r x l u H3 Q
theorem pU {r:V→Option Int→Option Int→Hp→VK→Prop} (hr:SlR X r) (he:PE X e te) (hl:PO X lo tl) (hu:PO X hi th):PE X (.Subscript e (.Slice lo hi none p2) pos) (tSl r te tl th):=by
  intro pins s σ H Q I h
  refine Subscript_ (thn (he pins s σ H _ I h) fun v s1 ⟨x,H1,I1,r1,q1⟩=>?_)
  refine wpAny_Slice (thn (hl pins s1 σ H1 _ I1 q1) fun vl s2 ⟨l,H2,I2,pl,q2⟩=>thn (hu pins s2 σ H2 _ I2 q2) fun vu s3 ⟨u,H3,I3,pu,q3⟩=>?_)
  rw [evalPart_none]
  refine wpAny_pure ?_
  have I4:Inv X pins σ H3 { s3 with heap:=s3.heap.push { cls:=.type "slice",data:=.fields #[vl,vu,.none] } }:=I3.kept (t':=s3.toks) fun b ob q=>Heap.get?_push_of_some _ q
  obtain ⟨T,id,hT,ht,hg⟩:=hr pins { s3 with heap:=s3.heap.push { cls:=.type "slice",data:=.fields #[vl,vu,.none] } } σ H3 x v vl vu l u s3.heap.objs.size Q I4 r1 (Heap.IsSliceOf.new ..) pl pu q3
  show wpAny (model X.prog X.w) X.A (subscriptTail e (.Slice lo hi none p2) v (.ref s3.heap.objs.size)) (EP X pins σ Q) X.xe { s3 with heap:=s3.heap.push { cls:=.type "slice",data:=.fields #[vl,vu,.none] } }
  exact tail_any (ops:=[.ref s3.heap.objs.size,v]) ht hT hg (by with_unfolding_all rfl)
def yM (xs:List V) (lo hi:Option Int):List V:=(xs.drop (HT.sIx xs.length 0 lo)).take (HT.sIx xs.length xs.length hi - HT.sIx xs.length 0 lo)
theorem tZ (xs:List V) (lo hi:Option Int):(yM xs lo hi).length≤xs.length:=by
  unfold yM
  rw [List.length_take,List.length_drop]
  omega
end
end L2
namespace L2
open PySem PySem.Spec PyProof.Rows
def ixN (n:Nat) (i:Int):Option Nat:=if 0≤i then (if i<n then some i.toNat else none) else if -(n:Int)≤i then some (i + n).toNat else none
def atI {α:Type} (xs:List α) (i:Int):Option α:=(ixN xs.length i).bind fun j=>xs[j]?
theorem yw {n:Nat} {i:Int} {j:Nat} (h:ixN n i=some j):seqIndex? i n=some j∧j<n∧-(n:Int)≤i∧i<n:=by
  unfold ixN at h
  by_cases h0:0≤i
  · rw [if_pos h0] at h
    by_cases h1:i<n
    · rw [if_pos h1] at h
      have e:i.toNat=j:=Option.some.inj h
      exact ⟨by rw [seqIndex_of h0 h1,e],by omega,by omega,h1⟩
    · rw [if_neg h1] at h;cases h
  · rw [if_neg h0] at h
    by_cases h1:-(n:Int)≤i
    · rw [if_pos h1] at h
      have e:(i + n).toNat=j:=Option.some.inj h
      exact ⟨by rw [seqIndex_neg (by omega) h1,e],by omega,h1,by omega⟩
    · rw [if_neg h1] at h;cases h
theorem yV {α:Type} {xs:List α} {i:Int} {v:α} (h:atI xs i=some v):∃ j,seqIndex? i xs.length=some j∧xs[j]?=some v∧j<xs.length∧-(xs.length:Int)≤i∧i<xs.length:=by
  unfold atI at h
  cases e:ixN xs.length i with
  | none=>rw [e] at h;cases h
  | some j =>
    rw [e] at h
    obtain ⟨h1,h2,h3,h4⟩:=yw e
    exact ⟨j,h1,h,h2,h3,h4⟩
theorem fZ {α:Type} {xs:List α} {j:Nat} {v:α} (h:xs[j]?=some v):atI xs (j:Int)=some v:=by
  have hj:j<xs.length:=(List.getElem?_eq_some_iff.mp h).1
  have e:ixN xs.length (j:Int)=some j:=by
    unfold ixN
    rw [if_pos (by omega),if_pos (by omega)];simp
  unfold atI;rw [e];exact h
theorem Ag {α:Type} (xs:List α) (v:α):atI (xs++[v]) (-1)=some v:=by
  have hl:(xs++[v]).length=xs.length + 1:=by simp
  have e:ixN (xs++[v]).length (-1)=some xs.length:=by
    unfold ixN
    rw [hl,if_neg (by decide),if_pos (by omega)]
    congr 1
    omega
  unfold atI
  rw [e]
  show (xs++[v])[xs.length]?=some v
  simp
def KD (b:Expr):Prop:=∀ o i,subscripted b false o i=operate [o,i] (getItem o i)
def IxR (X:Cx) (r:R2):Prop :=
  ∀ (value slice:Expr) (pins:List (Addr × Obj)) (s:Shared) (σ:St) (H:Hp) (x y:V) (v u:Value) (Q:VK),Inv X pins σ H s→RelV x v→RelV y u→r x y H Q →
    subscripted slice false v u=operate [v,u] (getItem v u)→wpAny (model X.prog X.w) X.A (subscriptTail value slice v u) (EP X pins σ Q) X.xe s
def MtR (X:Cx) (id:String) (r:V→List V→Hp→VK→Prop):Prop :=
  ∀ (pins:List (Addr × Obj)) (s:Shared) (σ:St) (H:Hp) (x:V) (xs:List V) (v:Value) (us:List Value) (Q:VK),Inv X pins σ H s→RelV x v→Vals xs us→r x xs H Q →
    wpAny (model X.prog X.w) X.A (call (.builtin id) (v :: us)) (EP X pins σ Q) X.xe s
section
variable {X:Cx} {a b:Expr} {ta tb:TE} {pos:Pos}
theorem aG {r:R2} (hr:IxR X r) (ha:PE X a ta) (hb:PE X b tb) (hs:KD b):PE X (.Subscript a b pos) (tOp r ta tb):=by
  intro pins s σ H Q I h
  exact Subscript_ (Vb ha hb I h fun v u s2 x y H2 I2 rx ry q=>hr a b pins s2 σ H2 x y v u Q I2 rx ry q (hs _ _))
def Vj (K:PySem.W.Frag):R2:=fun x y H Q=>∃ p xs i v,x=.ref p∧y=.int i∧SqL K H p xs∧atI xs i=some v∧Q v H
def Vi (K:PySem.W.Frag):R2:=fun x y H Q=>∃ p xs i v,x=.ref p∧y=.int i∧SqT K H p xs∧atI xs i=some v∧Q v H
theorem aW:IxR X (Vj X.K):=by
  intro value slice pins s σ H x y v u Q I rx ry h hs
  obtain ⟨p,xs,i,z,rfl,rfl,hq,he,q⟩:=h
  cases rx
  obtain ⟨t,rfl⟩:=ry
  obtain ⟨its,r,pl,hz⟩:=I.list hq
  obtain ⟨j,h1,h2,h3,h4,h5⟩:=yV he
  obtain ⟨w,ew,rw'⟩:=r.get h2
  have hl:=r.length
  have hn:=rD
  have fin:EP X pins σ Q w s:=⟨z,H,I,rw',q⟩
  by_cases h0:0≤i
  · have hj:i.toNat=j:=by
      rw [seqIndex_of h0 h5] at h1
      exact Option.some.inj h1
    exact item_listR pl.isList h0 (by omega) (by rw [hj];simpa using ew) fin hs
  · have hj:(i + (its.toArray.size:Int)).toNat=j:=by
      rw [seqIndex_neg (by omega) h4] at h1
      rw [List.size_toArray,← hl]
      exact Option.some.inj h1
    exact subscriptTail_builtinR (x:=w) pl.isList.typeIs slot_list_getitem.lookup
      (wpAny_getItem_list_neg (Q:=fun r s'=>r=w∧EP X pins σ Q r s') pl.isList (by omega) (by rw [List.size_toArray] <;> omega) (by omega) (by rw [hj];simpa using ew) ⟨rfl,fin⟩) hs
theorem aD:IxR X (Vi X.K):=by
  intro value slice pins s σ H x y v u Q I rx ry h hs
  obtain ⟨p,xs,i,z,rfl,rfl,hq,he,q⟩:=h
  cases rx
  obtain ⟨t,rfl⟩:=ry
  obtain ⟨its,r,pl,hz⟩:=I.tuple hq
  obtain ⟨j,h1,h2,h3,h4,h5⟩:=yV he
  obtain ⟨w,ew,rw'⟩:=r.get h2
  have hl:=r.length
  have hn:=rD
  have fin:EP X pins σ Q w s:=⟨z,H,I,rw',q⟩
  exact subscriptTail_builtinR (x:=w) pl.typeIs slot_tuple_getitem.lookup
    (getItem_tuple (j:=j) (Q:=fun r s'=>r=w∧EP X pins σ Q r s') pl (by omega) (by omega) (by rw [List.size_toArray,← hl];exact h1) (by simpa using ew) ⟨rfl,fin⟩) hs
theorem vO (its:List Value) (n j:Nat) (u:Value):Obj.mapSeq (·.setIfInBounds j u) { cls:=.type "list",data:=.seq its.toArray n }={ cls:=.type "list",data:=.seq (its.set j u).toArray n }:=by
  simp [Obj.mapSeq]
theorem Inv.lst {pins:List (Addr × Obj)} {σ:St} {H:Hp} {s:Shared} {p:Addr} {xs:List V} (I:Inv X pins σ H s) (h:H p=some (.lst xs)) :
    ∃ (its:List Value) (n:Nat),Vals xs its∧s.heap.get? p=some { cls:=.type "list",data:=.seq its.toArray n }∧xs.length≤sizeLine:=by
  obtain ⟨z,its,n,r,e⟩:=I.hok p _ h
  exact ⟨its,n,r,e,z⟩
theorem Inv.LC {pins:List (Addr × Obj)} {σ:St} {H:Hp} {s:Shared} {p:Addr} {xs ys:List V} {its its':List Value} {n n':Nat} {f:Obj→Obj} (I:Inv X pins σ H s) (h:H p=some (.lst xs))
    (ho:s.heap.get? p=some { cls:=.type "list",data:=.seq its.toArray n }) (hf:f { cls:=.type "list",data:=.seq its.toArray n }={ cls:=.type "list",data:=.seq its'.toArray n' }) (r:Vals ys its') (hz:ys.length≤sizeLine) (t:Nat) :
    Inv X pins σ (upd H p (.lst ys)) { s with heap:=s.heap.update p f,toks:=t }:=by
  have e:(s.heap.update p f).get? p=some { cls:=.type "list",data:=.seq its'.toArray n' }:=by
    rw [Heap.get?_update_self f ho (by rw [hf] <;> rfl),hf]
  refine I.write (x:=p) (e:=p) (by rw [h];trivial) (.inl rfl) (fun b u hb q=>(Heap.get?_update_other _ _ (Ne.symm hb)).trans q) ⟨_,e⟩ ?_
  exact ⟨hz,its',n',r,e⟩
def K8:V→V→V→Hp→(Hp→Prop)→Prop:=fun o i v H Q=>∃ p xs k j,o=.ref p∧i=.int k∧H p=some (.lst xs)∧ixN xs.length k=some j∧Q (upd H p (.lst (xs.set j v)))
theorem set_list:Vz X K8:=by
  intro pins s σ H o i v ov iv u Q I ro ri rv h
  obtain ⟨p,xs,k,j,rfl,rfl,hp,hj,q⟩:=h
  cases ro
  obtain ⟨t,rfl⟩:=ri
  obtain ⟨its,n,r,ho,hz⟩:=I.lst hp
  obtain ⟨h1,h2,h3,h4⟩:=yw hj
  have hl:=r.length
  have hn:=rD
  have I':Inv X pins σ (upd H p (.lst (xs.set j v))) { s with heap:=s.heap.update p (Obj.mapSeq (·.setIfInBounds j u)) } :=
    I.LC hp ho (vO its n j u) (r.set rv j) (by rw [List.length_set];exact hz) s.toks
  by_cases h0:0≤k
  · have hk:k.toNat=j:=by
      rw [seqIndex_of h0 h4] at h1
      exact Option.some.inj h1
    exact PySem.W.ki_setAt ho h0 (by omega) (by rw [List.size_toArray,← hl];exact h4) (by rw [hk];exact ⟨_,I',q⟩)
  · have hk:(k + (its.toArray.size:Int)).toNat=j:=by
      rw [seqIndex_neg (by omega) h3] at h1
      rw [List.size_toArray,← hl]
      exact Option.some.inj h1
    exact PySem.W.ki_setBack ho (by omega) (by rw [List.size_toArray,← hl];exact h3) (by omega) (by rw [hk];exact ⟨_,I',q⟩)
theorem qI (lo hi:Option Int) (n:Nat):(sliceBounds lo hi none n).1=((HT.sIx n 0 lo:Nat):Int)∧(sliceBounds lo hi none n).2.1=((HT.sIx n n hi:Nat):Int)∧(sliceBounds lo hi none n).2.2=1:=by
  refine ⟨?_,?_,rfl⟩
  · cases lo with
    | none=>simp [sliceBounds,HT.sIx]
    | some i =>
      simp only [sliceBounds,HT.sIx,Option.getD_none,show (1:Int) > 0 by decide,if_true]
      by_cases h:i<0
      · simp only [h,if_true] <;> omega
      · simp only [h,if_false] <;> omega
  · cases hi with
    | none=>simp [sliceBounds,HT.sIx]
    | some i =>
      simp only [sliceBounds,HT.sIx,Option.getD_none,show (1:Int) > 0 by decide,if_true]
      by_cases h:i<0
      · simp only [h,if_true] <;> omega
      · simp only [h,if_false] <;> omega
theorem pG (its:List Value) (lo hi:Option Int):slicePick its.toArray lo hi none=((its.drop (HT.sIx its.length 0 lo)).take (HT.sIx its.length its.length hi - HT.sIx its.length 0 lo)).toArray:=by
  obtain ⟨h1,h2,h3⟩:=qI lo hi its.toArray.size
  unfold slicePick
  rw [h1,h2,h3]
  simp only [sliceRange_one,pick_run,List.size_toArray] <;> rfl
def rSlL (K:PySem.W.Frag):V→Option Int→Option Int→Hp→VK→Prop:=fun x lo hi H Q=>∃ a xs,x=.ref a∧SqL K H a xs∧∀ p,H p=none→Q (.ref p) (upd H p (.lst (yM xs lo hi)))
theorem sZ:SlR X (rSlL X.K):=by
  intro pins s σ H x v vl vu lo hi sl Q I rx hs pl pu h
  obtain ⟨a,xs,rfl,hx,q⟩:=h
  cases rx
  obtain ⟨its,r,ht,hz⟩:=I.list hx
  have hlen:=r.length
  refine ⟨"list",_,slot_list_getitem.lookup,ht.isList.typeIs,?_⟩
  refine wpAny_getItem_list_slice ht.isList hs pl pu .none (by simp) ?_ (by rw [List.size_toArray] <;> omega)
  rw [pG,← hlen]
  refine ⟨.ref s.heap.objs.size,_,I.laid (t':=s.toks) (o:=.lst (yM xs lo hi)) (fun b ob q=>Heap.get?_push_of_some _ q) (Nat.le_refl _) ?_,rfl,q _ (I.hok.fresh (Nat.le_refl _))⟩
  exact ⟨Nat.le_trans (tZ xs lo hi) hz,_,0,(r.drop (HT.sIx xs.length 0 lo)).take (HT.sIx xs.length xs.length hi - HT.sIx xs.length 0 lo),Heap.get?_push_size _ rfl⟩
def qg:V→Bool
  | .non=>true
  | .bl _=>true
  | .int _=>true
  | .str _=>true
  | _=>false
def eqV:V→V→Bool
  | .non,.non=>true
  | .bl a,.bl b=>a == b
  | .bl a,.int b=>(if a then 1 else 0) == b
  | .int a,.bl b=>a == (if b then 1 else 0)
  | .int a,.int b=>a == b
  | .str a,.str b=>a == b
  | _,_=>false
theorem RL {A:Around} {s:Shared} {y x:V} {u v:Value} (ry:RelV y u) (rx:RelV x v) (fy:qg y=true) (fx:qg x=true):SeqAt.EqAt A s u v (eqV y x):=by
  cases y with
  | non =>
    cases ry
    cases x with
    | non=>cases rx;exact SeqAt.EqAt.same _
    | bl b=>cases rx;exact SeqAt.EqAt.none_bool b
    | int b=>obtain ⟨t,rfl⟩:=rx;exact SeqAt.EqAt.none_int b t
    | str b=>obtain ⟨t,rfl⟩:=rx;exact SeqAt.EqAt.none_str b t
    | _=>exact absurd (show false=true from fx) Bool.false_ne_true
  | bl a =>
    cases ry
    cases x with
    | non=>cases rx;exact SeqAt.EqAt.bool_none a
    | bl b=>cases rx;exact SeqAt.EqAt.bool_bool a b
    | int b=>obtain ⟨t,rfl⟩:=rx;exact SeqAt.EqAt.bool_int a b t
    | str b=>obtain ⟨t,rfl⟩:=rx;exact SeqAt.EqAt.bool_str a b t
    | _=>exact absurd (show false=true from fx) Bool.false_ne_true
  | int a =>
    obtain ⟨t',rfl⟩:=ry
    cases x with
    | non=>cases rx;exact SeqAt.EqAt.int_none a t'
    | bl b=>cases rx;exact SeqAt.EqAt.int_bool a t' b
    | int b=>obtain ⟨t,rfl⟩:=rx;exact SeqAt.EqAt.int_int a t' b t
    | str b=>obtain ⟨t,rfl⟩:=rx;exact SeqAt.EqAt.int_str a t' b t
    | _=>exact absurd (show false=true from fx) Bool.false_ne_true
  | str a =>
    obtain ⟨t',rfl⟩:=ry
    cases x with
    | non=>cases rx;exact SeqAt.EqAt.str_none a t'
    | bl b=>cases rx;exact SeqAt.EqAt.str_bool a t' b
    | int b=>obtain ⟨t,rfl⟩:=rx;exact SeqAt.EqAt.str_int a t' b t
    | str b=>obtain ⟨t,rfl⟩:=rx;exact SeqAt.EqAt.str_str a t' b t
    | _=>exact absurd (show false=true from fx) Bool.false_ne_true
  | _=>exact absurd (show false=true from fy) Bool.false_ne_true
def eqU (x:V) (u:Value):Bool:=match u with
  | .none=>eqV .non x
  | .bool b=>eqV (.bl b) x
  | .int i _=>eqV (.int i) x
  | .str z _=>eqV (.str z) x
  | _=>false
theorem JH {x y:V} {u:Value} (r:RelV y u) (f:qg y=true):eqU x u=eqV y x:=by
  cases y with
  | non=>cases r;rfl
  | bl b=>cases r;rfl
  | int i=>obtain ⟨t,rfl⟩:=r;rfl
  | str z=>obtain ⟨t,rfl⟩:=r;rfl
  | _=>exact absurd (show false=true from f) Bool.false_ne_true
theorem ug {x:V}:∀ {xs:List V} {us:List Value},Vals xs us→xs.all qg=true→us.any (eqU x)=xs.any fun y=>eqV y x
  | _,_,.nil,_=>rfl
  | y :: xs,u :: us,.cons r t,f=>by
    rw [List.all_cons,Bool.and_eq_true] at f
    rw [List.any_cons,List.any_cons,JH r f.1,ug t f.2]
theorem p7 {A:Around} {s:Shared} {x:V} {v:Value} (rx:RelV x v) (fx:qg x=true):∀ {xs:List V} {us:List Value},Vals xs us→xs.all qg=true→∀ u∈us,SeqAt.EqAt A s u v (eqU x u)
  | _,_,.nil,_=>fun u hu=>by cases hu
  | y :: xs,u :: us,.cons r t,f=>fun u' hu=>by
    rw [List.all_cons,Bool.and_eq_true] at f
    rcases List.mem_cons.mp hu with rfl | hu
    · rw [JH r f.1];exact RL r rx f.1 fx
    · exact p7 rx fx t f.2 u' hu
def inV (x:V) (xs:List V):Bool:=xs.any fun y=>eqV y x
def rIn (K:PySem.W.Frag) (neg:Bool):R2:=fun x y H Q=>∃ p xs,y=.ref p∧(SqL K H p xs∨SqT K H p xs)∧qg x=true∧xs.all qg=true∧Q (.bl (if neg then !inV x xs else inV x xs)) H
theorem xU:OpR X (compareOp .In) (rIn X.K false):=by
  intro pins s σ H x y v u Q I rx ry h
  obtain ⟨p,xs,rfl,hq,fx,fs,q⟩:=h
  cases ry
  rcases hq with hq | hq
  · obtain ⟨its,r,pl,hz⟩:=I.list hq
    refine SeqAt.in_listAt (eqU x) pl.isList (fun w hw=>p7 rx fx r fs w (by simpa using hw)) ⟨.bl _,H,I,rfl,?_⟩
    rw [show its.toArray.any (eqU x)=its.any (eqU x) by simp,ug r fs]
    exact q
  · obtain ⟨its,r,pl,hz⟩:=I.tuple hq
    refine SeqAt.in_tupleAt (eqU x) pl (fun w hw=>p7 rx fx r fs w (by simpa using hw)) ⟨.bl _,H,I,rfl,?_⟩
    rw [show its.toArray.any (eqU x)=its.any (eqU x) by simp,ug r fs]
    exact q
theorem bf:lG X (.builtin "len") (fun xs H Q=>∃ p ys,xs=[.ref p]∧(SqL X.K H p ys∨SqT X.K H p ys)∧Q (.int ys.length) H):=by
  intro pins s σ H xs us Q I r h
  obtain ⟨p,ys,rfl,hq,q⟩:=h
  obtain ⟨u,rfl,rx⟩:=vals1 r
  cases rx
  have hn:=rD
  rcases hq with hq | hq
  · obtain ⟨its,r',pl,hz⟩:=I.list hq
    have hlen:=r'.length
    exact Calls.call_len_list pl.isList (by simp only [List.size_toArray] <;> omega) ⟨.int ys.length,H,I.tok _,⟨s.toks + 1,by rw [List.size_toArray,hlen]⟩,q⟩
  · obtain ⟨its,r',pl,hz⟩:=I.tuple hq
    have hlen:=r'.length
    exact len_tuple pl (by simp only [List.size_toArray] <;> omega) ⟨.int ys.length,H,I.tok _,⟨s.toks + 1,by rw [List.size_toArray,hlen]⟩,q⟩
theorem rN:lG X (.builtin "len") (fun xs H Q=>∃ z,xs=[.str z]∧z.length≤sizeLine∧Q (.int z.length) H):=by
  intro pins s σ H xs us Q I r h
  obtain ⟨z,rfl,hz,q⟩:=h
  obtain ⟨u,rfl,t,rfl⟩:=vals1 r
  have hn:=rD
  exact len_str (by omega) ⟨.int z.length,H,I.tok _,⟨_,rfl⟩,q⟩
theorem dH:lG X (.type "list") (fun xs H Q=>∃ p ys,xs=[.ref p]∧(SqL X.K H p ys∨SqT X.K H p ys)∧∀ l,H l=none→Q (.ref l) (upd H l (.lst ys))):=by
  intro pins s σ H xs us Q I r h
  obtain ⟨p,ys,rfl,hq,q⟩:=h
  obtain ⟨u,rfl,rx⟩:=vals1 r
  cases rx
  have fin:∀ (its:List Value),Vals ys its→ys.length≤sizeLine→∀ (h':Heap) (c':Nat),(∀ b o',s.heap.get? b=some o'→h'.get? b=some o') →
      h'.get? s.heap.objs.size=some { cls:=.type "list",dict:=none,data:=.seq its.toArray c',slots:=#[] }→EP X pins σ Q (.ref s.heap.objs.size) { s with heap:=h' }:=fun its r' hz h' c' kp e =>
    ⟨.ref s.heap.objs.size,_,I.laid (t':=s.toks) kp (Nat.le_refl _) (show iD X.prog X.w _ h' _ (.lst ys) from ⟨hz,its,c',r',e⟩),rfl,q _ (I.hok.fresh (Nat.le_refl _))⟩
  rcases hq with hq | hq
  · obtain ⟨its,r',pl,hz⟩:=I.list hq
    have hlen:=r'.length
    obtain ⟨o,ho,hc,n,hd⟩:=pl.isList
    exact call_list_seq p (.inl rfl) ho hc hd (fun h' c' kp e=>fin its r' hz h' c' kp e) (by simp only [List.size_toArray] <;> omega)
  · obtain ⟨its,r',pl,hz⟩:=I.tuple hq
    have hlen:=r'.length
    obtain ⟨o,ho,hc,n,hd⟩:=pl
    exact call_list_seq p (.inr rfl) ho hc hd (fun h' c' kp e=>fin its r' hz h' c' kp e) (by simp only [List.size_toArray] <;> omega)
theorem jB:lG X (.type "tuple") (fun xs H Q=>∃ p ys,xs=[.ref p]∧((SqL X.K H p ys∧∀ l,H l=none→Q (.ref l) (upd H l (.tup ys)))∨(SqT X.K H p ys∧Q (.ref p) H))):=by
  intro pins s σ H xs us Q I r h
  obtain ⟨p,ys,rfl,h⟩:=h
  obtain ⟨u,rfl,rx⟩:=vals1 r
  cases rx
  rcases h with ⟨hq,q⟩ | ⟨hq,q⟩
  · obtain ⟨its,r',pl,hz⟩:=I.list hq
    have hlen:=r'.length
    refine call_tuple_list pl.isList (fun h' kp=>?_) (by simp only [List.size_toArray] <;> omega)
    have I1:Inv X pins σ H { s with heap:=h' }:=I.kept (t':=s.toks) kp
    have I2:Inv X pins σ (upd H h'.objs.size (.tup ys)) { s with heap:=h'.push { cls:=.type "tuple",data:=.seq its.toArray } } :=
      I1.laid (t':=s.toks) (fun b o e=>Heap.get?_push_of_some _ e) (Nat.le_refl _) (show iD X.prog X.w _ _ _ (.tup ys) from ⟨hz,its,r',IsTup.new _ _⟩)
    exact ⟨.ref h'.objs.size,_,I2,rfl,q _ (I1.hok.fresh (Nat.le_refl _))⟩
  · obtain ⟨its,r',pl,hz⟩:=I.tuple hq
    exact call_tuple_same pl ⟨.ref p,H,I,rfl,q⟩
def tyV (K:PySem.W.Frag) (T:String) (x:V) (H:Hp):Prop:=match x with
  | .str _=>T="str"
  | .int _=>T="int"
  | .ref p=>(T="list"∧∃ xs,SqL K H p xs)∨(T="tuple"∧∃ o,K.lookup p=some o∧o.cls=.type "tuple"∧o.dict=none) ∨
      (T="dict"∧((∃ kvs,H p=some (.dK kvs))∨∃ kvs,H p=some (.dT kvs)))∨(T="set"∧∃ S n,H p=some (.set S n))
  | _=>False
theorem Am {pins:List (Addr × Obj)} {σ:St} {H:Hp} {s:Shared} {T:String} {x:V} {v:Value} (I:Inv X pins σ H s) (r:RelV x v) (ty:tyV X.K T x H) :
    s.TypeIs v T∧∀ a,v=.ref a→∃ ob,s.heap.get? a=some ob∧ob.dict=none:=by
  cases x with
  | str z =>
    obtain ⟨t,rfl⟩:=r
    cases (show T="str" from ty)
    exact ⟨typeIs_str s z t,fun _ e=>nomatch e⟩
  | int i =>
    obtain ⟨t,rfl⟩:=r
    cases (show T="int" from ty)
    exact ⟨typeIs_int s i t,fun _ e=>nomatch e⟩
  | ref p =>
    cases r
    rcases ty with ⟨rfl,xs,hq⟩ | ⟨rfl,o,hk,hc,hd⟩ | ⟨rfl,hk⟩ | ⟨rfl,S,n,hk⟩
    · obtain ⟨its,_,pl,_⟩:=I.list hq
      refine ⟨pl.isList.typeIs,fun a e=>?_⟩
      cases e
      obtain ⟨o,n,e,c,hd,_⟩:=pl
      exact ⟨o,e,hd⟩
    · refine ⟨⟨o,I.kIn p o hk,hc⟩,fun a e=>?_⟩
      cases e
      exact ⟨o,I.kIn _ o hk,hd⟩
    · have z:∃ o,s.heap.get? p=some o∧o.ExactDict:=by
        rcases hk with ⟨kvs,hk⟩ | ⟨kvs,hk⟩
        · obtain ⟨_,_,_,_,o,_,_,e,ex,_⟩:=I.hok p _ hk
          exact ⟨o,e,ex⟩
        · obtain ⟨_,_,_,_,o,_,_,e,ex,_⟩:=I.hok p _ hk
          exact ⟨o,e,ex⟩
      obtain ⟨o,e,ex⟩:=z
      refine ⟨⟨o,e,ex.1⟩,fun a e2=>?_⟩
      cases e2
      exact ⟨o,e,ex.2.1⟩
    · obtain ⟨o,_,_,_,e,ex,_⟩:=I.hok p _ hk
      refine ⟨⟨o,e,ex.1⟩,fun a e2=>?_⟩
      cases e2
      exact ⟨o,e,ex.2.1⟩
  | _=>exact False.elim ty
def tBM0 (K:PySem.W.Frag) (T:String) (r:V→List V→Hp→VK→Prop) (to:TE):TE:=fun σ H Q=>to σ H fun x H1=>tyV K T x H1∧r x [] H1 Q
def tBM (K:PySem.W.Frag) (T:String) (r:V→List V→Hp→VK→Prop) (to:TE) (t:TA):TE:=fun σ H Q=>to σ H fun x H1=>tyV K T x H1∧t σ H1 fun xs H2=>r x xs H2 Q
variable {o e:Expr} {es:List Expr} {to:TE} {t:TA} {name:Str} {apos cpos:Pos} {T id:String} {r:V→List V→Hp→VK→Prop}
theorem xO (pa:PlainAttrs T) (slot:Slot T name id) (hty:typeOf (.builtin id)=pure (.type "method_descriptor")) (hm:MtR X id r) (ho:PE X o to)
    (hbase:attributeBase o name X.env (eval o X.env)=eval o X.env:=by rfl) (hline:(apos.endLine == cpos.line)=true:=by rfl):PE X (.Call (.Attribute o name apos) [] [] cpos) (tBM0 X.K T r to):=by
  intro pins s σ H Q I h
  refine wpAny_Call_method0_late hbase hline (thn (ho pins s σ H _ I h) fun v s1 ⟨x,H1,I1,r1,ty,q1⟩=>?_)
  obtain ⟨h1,h2⟩:=Am I1 r1 ty
  exact ⟨T,id,pa,slot,hty,h1,h2,Calls.callWith_builtin rfl (PySem.evalArgs_none (hm pins s1 σ H1 x [] v [] Q I1 r1 .nil q1))⟩
theorem jz (pa:PlainAttrs T) (slot:Slot T name id) (hty:typeOf (.builtin id)=pure (.type "method_descriptor")) (hm:MtR X id r) (ho:PE X o to) (ha:PA X (e :: es) t)
    (hbase:attributeBase o name X.env (eval o X.env)=eval o X.env:=by rfl)
    (hfew:((backTo cpos (starEach (e :: es) X.env)).all (fun x=>!x.1) && (backToKw cpos (keywordEach [] X.env)).all (fun x=>x.1.isSome)
      && decide ((e :: es).length + ([]:List Keyword).length + (if ([]:List Keyword).isEmpty then 0 else 1)<30))=true:=by rfl)
    (hline:(apos.endLine == cpos.line)=true:=by rfl) (hs:starEach (e :: es) X.env=(false,eval e X.env) :: starEach es X.env:=by rfl) (hplain:(backTo cpos (starEach es X.env)).any (·.1)=false:=by rfl) :
    PE X (.Call (.Attribute o name apos) (e :: es) [] cpos) (tBM X.K T r to t):=by
  intro pins s σ H Q I h
  refine wpAny_Call_method_late hbase hfew hline rfl (thn (ho pins s σ H _ I h) fun v s1 ⟨x,H1,I1,r1,ty,q1⟩=>?_)
  obtain ⟨h1,h2⟩:=Am I1 r1 ty
  refine ⟨T,id,pa,slot,hty,h1,h2,?_⟩
  have hA:=ha cpos pins s1 σ H1 _ I1 q1
  rw [hs] at hA ⊢
  refine Calls.callWith_builtin (by show (false || (backTo cpos (starEach es X.env)).any (·.1))=false;rw [hplain] <;> rfl) (Calls.evalArgs_plain ?_)
  exact thn hA fun us s2 ⟨vs,H2,I2,r2,q2⟩=>hm pins s2 σ H2 x vs v us Q I2 r1 r2 q2
end
end L2
namespace L2
open PySem PySem.Spec PyProof.Rows
def MtM (X:Cx) (id:String) (r:V→List V→Hp→VK→Prop):Prop :=
  ∀ (pins:List (Addr × Obj)) (s:Shared) (σ:St) (H:Hp) (x:V) (xs:List V) (v:Value) (us:List Value) (Q:VK),Inv X pins σ H s→RelV x v→Vals xs us→r x xs H Q →
    wpAny (model X.prog X.w) X.A (call (.builtin id) (v :: us)) (EP X pins σ Q) X.xe s
theorem Vals.one:∀ {x:V} {us:List Value},Vals [x] us→∃ u,us=[u]∧RelV x u
  | _,_,.cons r .nil=>⟨_,rfl,r⟩
theorem Vals.zero:∀ {us:List Value},Vals [] us→us=[]
  | _,.nil=>rfl
section
variable {X:Cx} {pins:List (Addr × Obj)} {σ:St} {H:Hp} {s:Shared} {l b:Addr} {xs ys zs:List V}
theorem Inv.Vo {its its':List Value} {n:Nat} {f:Array Value→Array Value} {t':Nat} (I:Inv X pins σ H s) (hH:H l=some (.lst xs))
    (e:s.heap.get? l=some { cls:=.type "list",data:=.seq its.toArray n }) (hf:f its.toArray=its'.toArray) (hv:Vals ys its') (hz:ys.length≤sizeLine) :
    Inv X pins σ (upd H l (.lst ys)) { s with heap:=s.heap.update l (Obj.mapSeq f),toks:=t' }:=by
  have q:=PySem.IsL.update e f
  rw [hf] at q
  refine I.write (x:=l) (e:=l) (by rw [hH];exact trivial) (.inl rfl) (fun b' u hb hu=>(Heap.get?_update_other s.heap (Obj.mapSeq f) (Ne.symm hb)).trans hu) ⟨_,q⟩ ?_
  exact ⟨hz,its',_,hv,q⟩
theorem Inv.lnew {its:List Value} {t':Nat} (I:Inv X pins σ H s) (hv:Vals ys its) (hz:ys.length≤sizeLine) :
    Inv X pins σ (upd H s.heap.objs.size (.lst ys)) { s with heap:=s.heap.push { cls:=.type "list",data:=.seq its.toArray },toks:=t' } :=
  I.laid (fun _ _ q=>Heap.get?_push_of_some _ q) (Nat.le_refl _) ⟨hz,its,0,hv,Heap.get?_push_size _ rfl⟩
theorem Inv.fresh (I:Inv X pins σ H s):H s.heap.objs.size=none:=I.hok.fresh (Nat.le_refl _)
theorem Inv.R4 (I:Inv X pins σ H s) (hH:H l=some (.lst xs)):xs.length≤sizeLine∧∃ (its:List Value) (n:Nat),Vals xs its∧xs.length=its.length∧s.heap.get? l=some { cls:=.type "list",data:=.seq its.toArray n }:=by
  obtain ⟨z,its,n,r,e⟩:=I.hok l _ hH
  exact ⟨z,its,n,r,r.length,e⟩
end
section
variable {X:Cx}
def J3:V→List V→Hp→VK→Prop:=fun x vs H Q=>∃ l xs y,x=.ref l∧vs=[y]∧H l=some (.lst xs)∧xs.length<sizeLine∧Q .non (upd H l (.lst (xs++[y])))
theorem bL:MtM X "list.append" J3:=by
  intro pins s σ H x vs v us Q I rx rv h
  obtain ⟨l,xs,y,rfl,rfl,hH,hz,q⟩:=h
  cases rx
  obtain ⟨u,rfl,ru⟩:=rv.one
  obtain ⟨z,its,n,r,hl,e⟩:=I.R4 hH
  refine call_meets F.slot_list_append ⟨_,e,rfl⟩ F.entry_list_append (F.args_list_append_2 _ _) (PySem.list_append l its.toArray n u (by rw [List.size_toArray];omega)) ⟨e,?_⟩
  refine ⟨.non,_,I.Vo (its':=its++[u]) hH e (by simp) (r.append (.cons ru .nil)) ?_,rfl,q⟩
  rw [List.length_append,List.length_singleton]
  omega
def Az:V→List V→Hp→VK→Prop:=fun x vs H Q=>∃ l xs,x=.ref l∧vs=[]∧H l=some (.lst xs)∧Q .non (upd H l (.lst []))
theorem pZ:MtM X "list.clear" Az:=by
  intro pins s σ H x vs v us Q I rx rv h
  obtain ⟨l,xs,rfl,rfl,hH,q⟩:=h
  cases rx
  have hus:=rv.zero
  subst hus
  obtain ⟨z,its,n,r,hl,e⟩:=I.R4 hH
  refine call_meets F.slot_list_clear ⟨_,e,rfl⟩ F.entry_list_clear (F.args_list_clear_1 _) (AutoSeq1.list_clear_list_0 l its.toArray n (by rw [List.size_toArray];omega)) ⟨e,?_⟩
  exact ⟨.non,_,I.Vo (its':=[]) (ys:=[]) hH e rfl .nil (Nat.zero_le _),rfl,q⟩
def rCat:R2:=fun x y H Q=>∃ l b xs zs,x=.ref l∧y=.ref b∧H l=some (.lst xs)∧H b=some (.lst zs)∧xs.length + zs.length≤sizeLine∧∀ p,H p=none→Q (.ref p) (upd H p (.lst (xs++zs)))
theorem xW:OpR X (binaryOp .Add) rCat:=by
  intro pins s σ H x y v u Q I rx ry h
  obtain ⟨l,b,xs,zs,rfl,rfl,hH,hB,hz,q⟩:=h
  cases rx
  cases ry
  obtain ⟨z,its,n,r,hl,e⟩:=I.R4 hH
  obtain ⟨z2,its2,n2,r2,hl2,e2⟩:=I.R4 hB
  refine PySem.P.add_list e e2 ?_ (by rw [List.size_toArray,List.size_toArray];omega)
  have ea:its.toArray++its2.toArray=(its++its2).toArray:=by simp
  rw [ea]
  exact ⟨.ref _,_,I.lnew (t':=s.toks) (r.append r2) (by rw [List.length_append];omega),rfl,q _ I.fresh⟩
end
end L2
namespace Att
open PySem PySem.W PySem.Calls PyProof.Rows
theorem nW {P:Params} {h:Heap}:∀ (ns:List Int) (vs:List Value),WellAll P h vs (ns.map WData.int)→IntsAre vs ns:=by
  intro ns
  induction ns with
  | nil =>
    intro vs w
    rw [List.map_nil] at w
    cases w
    exact .nil
  | cons n ns ih =>
    intro vs w
    rw [List.map_cons] at w
    cases w with
    | cons a b =>
      cases a
      exact .cons _ _ (ih _ b)
theorem wV {l:OpenLaw} {n:Nat} (hn:l.most=some n) {P:Params} {h:Heap} {args:List WData} {vals:List Value}
    (hpre:l.row.toRowW.claim.pre args=true) (hwl:WellAll P h vals args) :
    ∃ a vs ns,vals=[Value.ref a]∧args=[WData.list (ns.map WData.int)]∧h.get? a=some { cls:=.type "list",data:=.seq vs.toArray }∧IntsAre vs ns∧ns.length≤n:=by
  have hsh:WShape.hasAll [] args [.list .int]=true:=(pre_splitW hpre).1
  have hc:l.pre.holds [] { args:=args }=true:=(pre_splitW hpre).2
  obtain ⟨d,r,rfl,h1,h2⟩:=hasAllW_cons hsh
  obtain rfl:=hasAllW_nil h2
  obtain ⟨xs,rfl,h3⟩:=hasW_list h1
  obtain ⟨ns,rfl⟩:=items_int h3
  have hlen:ns.length≤n:=by
    unfold OpenLaw.pre at hc
    have h4:(WTm.not (.lt (.lit (.int (n:Int))) (.len (.arg 0)))).holds [] { args:=[.list (ns.map .int)] }=true:=by
      have h4:=(holds_andW hc).1
      rw [hn] at h4
      exact h4
    have h5:=condW_of h4 (w_not (w_lt w_lit (w_len_list (w_arg rfl))))
    rw [List.length_map] at h5
    refine Nat.le_of_not_lt fun q=>?_
    have q':(n:Int)<((ns.length:Nat):Int):=by omega
    first
      | (rw [decide_eq_true q'] at h5;exact absurd h5 (by decide))
      | (simp at h5;omega)
  cases hwl with
  | cons w1 w2 =>
    cases w2
    cases w1 with
    | list ho hall=>exact ⟨_,_,ns,rfl,rfl,ho,nW ns _ hall,hlen⟩
theorem xq (l:OpenLaw) (args:List WData):l.row.toRowW.claim.post args (.bool true) args=true :=
  postW_of (r:=l.row.toRowW) (X:=(true == true))
    (show WShape.has [] (.bool true) .bool=true by first | rfl | decide | simp [WShape.has,WShape.arms,WShape.armsAll])
    (show (WTm.eq .res (.lit (.bool true))).value [] { args:=args,res:=some (.bool true),after:=args }=some (.bool (true == true)) from w_eq_bool (w_res rfl) w_lit) rfl
theorem uf {l:OpenLaw} {n:Nat} {q:Program} {loose:List Str} {XP:(Str→Option Value)→Heap→Prop} {YP:World→Heap→Prop} {d:DefRec}
    (hn:l.most=some n) (hdf:d.params.defaults=[])
    (call:∀ (w:World) (s₀ s₁:Shared) (mg mb:Str→Option Value) (fa:Addr) (o:Obj) (pm cd doc:Value) (a:Addr) (vs:List Value) (ns:List Int),
      Ground q loose [] XP w s₀ mg mb s₁.heap→YP w s₁.heap →
      s₁.heap.get? fa=some o→o.data=.func (docDef d.name d.params d.body d.scope pm cd doc)→s₁.heap.CodeRec cd d.name→mg d.name=some (.ref fa) →
      s₁.heap.get? a=some { cls:=.type "list",data:=.seq vs.toArray }→IntsAre vs ns→ns.length≤n→s₁.gens=#[] →
      codeAny (model l.prog w) callerA (.call (.ref fa) ⟨[.ref a],[]⟩) (fun r s'=>r=.ok (.ret (.bool true))∧OldK s₁.heap s'.heap∧s'.os=s₁.os∧AllBare s'.gens) s₁) :
    WalkO q loose XP YP l.row.toRowW d [] (fun f vs=>PySem.call f vs):=by
  intro w s₀ s₁ mg mb G Y fa o pm cd doc dV kV ho hd hcd hD hmg hg args vals as hpre hlay hrd hwl hlo
  obtain rfl:dV=.none:=Dflts.none hD hdf
  obtain rfl:kV=.none:=Dflts.noKw hD
  obtain ⟨a,vs,ns,rfl,rfl,hobj,hints,hlen⟩:=wV hn hpre hwl
  refine enter_call (codeAny_mono (call w s₀ s₁ mg mb fa o pm cd doc a vs ns G Y ho (fd_plain hd) hcd hmg hobj hints hlen hg) fun r s' hq=>?_)
  obtain ⟨rfl,h2,h3,h4⟩:=hq
  exact ⟨.inl ⟨.bool true,.bool true,[],rfl,fun _=>rfl,.bool true,xq l _,fun _=>⟨List.Pairwise.nil,fun _ hm=>(nomatch hm)⟩⟩,h2,h3,h4⟩
end Att
namespace L2
open PySem PySem.Spec PyProof.Rows
theorem qC:∀ {vs:List Value} {ns:List Int},IntsAre vs ns→Vals (ns.map V.int) vs
  | _,_,.nil=>.nil
  | _,_,.cons n t h=>.cons ⟨t,rfl⟩ (qC h)
def Only (H:Hp):Prop:=∀ b,H b=none∨∃ o xs,H b=some (.frz o (.lst xs))
theorem z6 {P:Program} {w:World} {K:PySem.W.Frag} {mg mb:Str→Option Value} {CX:CXT} {k:Nat} {fa a:Addr} {fd:FuncData} {x:Str} {sp:Sp} {s₁:Shared} {vs:List Value} {ns:List Int}
    (KX:K.In s₁.heap) (hns:s₁.heap.Ns mainGlobals mg) (hb:s₁.heap.Ns builtinsNs mb) (hbb:∀ x:Str,x≠"__name__"→mb x=bootBuiltins x) (hlim:s₁.heap.NoLimit) (hg:s₁.gens=#[])
    (ha:s₁.heap.get? a=some { cls:=.type "list",data:=.seq vs.toArray }) (hi:IntsAre vs ns) (hl:ns.length≤sizeLine) (hr:mC k callerA)
    (F:∀ base:Heap,K.In base→base.Ns mainGlobals mg→bF P w K mg base CX k fa fd [x] sp) (hbind:∀ (s:Shared) (u:Value),BindsTo s fd ⟨[u],[]⟩ [(x,u)])
    (hsp:∀ H:Hp,Only H→SqL K H a (ns.map V.int)→sp [.ref a] H (fun v _=>v=.bl true) fun _ _ _=>False)
    (hCX:∀ H e s',CX [] H s₁ (fun _ _ _=>False) e s'→False) :
    codeAny (model P w) callerA (.call (.ref fa) ⟨[.ref a],[]⟩) (fun r s'=>r=.ok (.ret (.bool true))∧OldK s₁.heap s'.heap∧s'.os=s₁.os∧AllBare s'.gens) s₁:=by
  have rv:=qC hi
  have lenV:=hi.length
  have core:∀ H:Hp,Only H→SqL K H a (ns.map V.int)→HOk P w H s₁.heap→(∀ b,H b≠none→b=a)→(H a≠none→K.lookup a=none) →
      codeAny (model P w) callerA (.call (.ref fa) ⟨[.ref a],[]⟩) (fun r s'=>r=.ok (.ret (.bool true))∧OldK s₁.heap s'.heap∧s'.os=s₁.os∧AllBare s'.gens) s₁:=by
    intro H hO hS hok hA hK
    have base_of:∀ {b:Addr} {o:Obj},s₁.heap.get? b=some o→H b=none→(z9 s₁.heap H).get? b=some o:=fun e n=>z8 e n
    have noA:∀ {b:Addr} {o:Obj} {es:Array DictEntry} {ep:Nat},s₁.heap.get? b=some o→o.data=.dict es ep→H b=none:=fun {b o es ep} e d=>by
      cases q:H b with
      | none=>rfl
      | some u =>
        have e':b=a:=hA b (by rw [q];simp)
        subst e'
        rw [ha] at e;cases e
        have d':Data.seq vs.toArray _=Data.dict es ep:=d
        cases d'
    have nsK:∀ {b:Addr} {m:Str→Option Value},s₁.heap.Ns b m→(z9 s₁.heap H).Ns b m:=fun {b m} ⟨o,es,ep,e,d,r⟩=>⟨o,es,ep,base_of e (noA e d),d,r⟩
    have hKb:K.In (z9 s₁.heap H):=fun b o e=>base_of (KX b o e) (by
      cases q:H b with
      | none=>rfl
      | some u =>
        have e':b=a:=hA b (by rw [q];simp)
        subst e'
        rw [hK (by rw [q];simp)] at e;cases e)
    have hM:Mod K mg (z9 s₁.heap H):=⟨hKb,nsK hns,⟨mb,nsK hb,hbb⟩,let ⟨mc,h1,h2⟩:=hlim;⟨mc,nsK h1,h2⟩⟩
    have e0:KJ P w K mg (z9 s₁.heap H) callerA [] s₁ H:=⟨rfl,hM,fun b o e=>Km e,Nat.le_of_eq (yC _ _),trivial,fun b hb=>absurd (show b∈([]:List Addr) from hb) (by simp),hok,.of_eq hg⟩
    refine codeAny_mono ((F _ hKb (nsK hns)).run callerA [] s₁ H ⟨[.ref a],[]⟩ [.ref a] [.ref a] _ _ hr e0 (hbind s₁ (.ref a)) (.cons rfl .nil) (hsp H hO hS)) fun r s' h=>?_
    cases r with
    | error e=>exact (hCX H e s' h).elim
    | ok fl =>
      cases fl with
      | next=>exact False.elim h
      | brk=>exact False.elim h
      | cont=>exact False.elim h
      | ret u =>
        obtain ⟨v,H',os,bare,un,hok',r',q⟩:=h
        have q':v=.bl true:=q
        subst q'
        obtain rfl:u=Value.bool true:=r'
        refine ⟨rfl,OldK.of_keep fun b o e=>?_,os,bare⟩
        cases q:H b with
        | none=>exact un.keep b o e q (by intro z;exact absurd (show b∈([]:List Addr) from z) (by simp)) (by simp)
        | some u =>
          rcases hO b with z | ⟨ob,xs,z⟩
          · rw [q] at z;cases z
          · have z2:=un.frzs b ob _ z
            obtain ⟨e1,_⟩:=hok b _ z
            obtain ⟨e2,_⟩:=hok' b _ z2
            rw [e] at e1;cases e1
            exact e2
  cases hk:K.lookup a with
  | some o =>
    have e:=KX a o hk
    rw [ha] at e
    cases e
    refine core (fun _=>none) (fun _=>.inl rfl) (.inr ⟨_,vs.toArray,_,hk,rfl,rfl,rfl,by rw [List.size_toArray,lenV];exact hl,by simpa using rv⟩) (fun b u z=>by have z':(none:Option HO)=some u:=z;cases z') (fun b z=>absurd rfl z) fun z=>absurd rfl z
  | none =>
    refine core (fun b=>if b=a then some (.frz { cls:=.type "list",data:=.seq vs.toArray } (.lst (ns.map V.int))) else none) (fun b=>?_) (.inl (.inr ⟨{ cls:=.type "list",data:=.seq vs.toArray },if_pos rfl⟩)) (fun b u z=>?_) (fun b z=>?_) fun _=>hk
    · by_cases hb:b=a
      · exact .inr ⟨_,_,if_pos hb⟩
      · exact .inl (if_neg hb)
    · by_cases hb:b=a
      · have z':=(if_pos hb).symm.trans z
        cases z'
        subst hb
        exact ⟨ha,by rw [List.length_map];exact hl,vs,_,rv,ha⟩
      · have z':=(if_neg hb).symm.trans z
        cases z'
    · by_cases hb:b=a
      · exact hb
      · exact absurd (if_neg hb) z
end L2
namespace L2
open PySem PySem.Spec PyProof.Rows
abbrev KOf {K:PySem.W.Frag} {h:Heap} (_:K.In h):PySem.W.Frag:=K
theorem JN {l:PySem.W.OpenLaw} {n k:Nat} {q:Program} {loose:List Str} {XP:(Str→Option Value)→Heap→Prop} {YP:World→Heap→Prop} {d:DefRec} {K:Params→PySem.W.Frag} {CX:World→CXT} {sp:World→Sp} {x:Str}
    (hn:l.most=some n) (hn2:n≤sizeLine) (hdf:d.params.defaults=[]) (hr:mC k callerA)
    (hY:∀ (w:World) (h:Heap),YP w h→(K w.params).In h)
    (F:∀ (w:World) (mg:Str→Option Value) (fa:Addr) (h:Heap),(K w.params).In h→h.Ns mainGlobals mg→mg d.name=some (.ref fa) →
      ∃ fd:FuncData,(∀ (s:Shared) (u:Value),BindsTo s fd ⟨[u],[]⟩ [(x,u)]) ∧
        ∀ base:Heap,(K w.params).In base→base.Ns mainGlobals mg→bF l.prog w (K w.params) mg base (CX w) k fa fd [x] (sp w))
    (hsp:∀ (w:World) (H:Hp) (a:Addr) (ns:List Int),ns.length≤n→Only H→SqL (K w.params) H a (ns.map V.int)→sp w [.ref a] H (fun v _=>v=.bl true) fun _ _ _=>False)
    (hCX:∀ (w:World) (H:Hp) (s:Shared) (e:Value) (s':Shared),CX w [] H s (fun _ _ _=>False) e s'→False) :
    PySem.W.WalkO q loose XP YP l.row.toRowW d [] (fun f vs=>PySem.call f vs):=by
  refine Att.uf hn hdf fun w s₀ s₁ mg mb fa o pm cd doc a vs ns G Y ho hd hcd hmg hobj hints hlen hg=>?_
  have KX:=hY w _ Y
  obtain ⟨fd,hb,hF⟩:=F w mg fa _ KX G.T.g hmg
  exact z6 KX G.T.g G.T.b G.T.builtins G.T.nolimit hg hobj hints (Nat.le_trans hlen hn2) hr hF hb (fun H hO hS=>hsp w H a ns hlen hO hS) fun H e s'=>hCX w H s₁ e s'
end L2
namespace L2
open PySem PySem.Spec PyProof.Rows
abbrev CX0:CXT:=fun _ _ _ _ _ _=>False
abbrev E0:XK:=fun _ _ _=>False
theorem bO {X:Cx}:Passes CX0 X E0:=fun _ _ _ _ _ _ _ h=>h.elim
structure Fun (K:PySem.W.Frag) (x qual:Str) (st:Stmt) (f:Addr) (fd:FuncData):Prop where
  ex:∃ (oc:Value) (od:Option Addr) (kV doc pm:Value) (an:Option Addr) (cdv ct:Value) (osl:Array (Option Value)),
    fd=PySem.W.fnOf x qual (aC st) (aB st) (ak st) .none kV doc pm an cdv ct∧K.lookup f=some ⟨oc,od,.func fd,osl⟩∧PySem.W.codeIn K cdv qual=true
  kp:PySem.W.keepIn K (.ref f)=true
variable {P:Program} {w:World} {K:PySem.W.Frag} {mg:Str→Option Value} {base:Heap} {T:dW}
theorem Fun.ok {x qual:Str} {st:Stmt} {f:Addr} {fd:FuncData} {N ps:List Str} {k:Nat} {sp:Sp} (F:Fun K x qual st f fd) (S:aM N ps (ak st)) (len:∀ vs H Q E,sp vs H Q E→vs.length=ps.length)
    (hbody:∀ (cdv:Value) (A:Around) (outer:List Env) (s:Shared) (H:Hp) (vs:List V) (Q:VK) (E:XK),mC k (A.deeper (envOfC qual (ak st) s.heap.objs.size f cdv))→sp vs H Q E →
      ∃ t,PSs (zc CX0 P w K mg base N qual (ak st) f cdv A outer s H E).nox (aB st) t∧t { nx:=fun _ H'=>Q .non H',rt:=Q } (start N vs) H):bF P w K mg base CX0 (k + 1) f fd ps sp:=by
  obtain ⟨oc,od,kV,doc,pm,an,cdv,ct,osl,rfl,lk,hcd⟩:=F.ex
  refine Ks lk hcd S len fun A outer s H vs Q E hr hsp=>?_
  obtain ⟨t,h,q⟩:=hbody cdv A outer s H vs Q E hr hsp
  exact ⟨t,h.nox,q⟩
theorem Fun.binds {x qual:Str} {st:Stmt} {f:Addr} {fd:FuncData} {ps:List Str} (F:Fun K x qual st f fd)
    (h:∀ (kV doc pm:Value) (an:Option Addr) (cdv ct:Value) (us:List Value),us.length=ps.length→bindArgs (PySem.W.fnOf x qual (aC st) (aB st) (ak st) .none kV doc pm an cdv ct) ⟨us,[]⟩=pure (ps.zip us)):Binds K fd ps []:=by
  obtain ⟨oc,od,kV,doc,pm,an,cdv,ct,osl,rfl,lk,hcd⟩:=F.ex
  exact .all (h kV doc pm an cdv ct)
theorem bD {x qual:Str} {st:Stmt} {f:Addr} {oc:Value} {od an:Option Addr} {osl:Array (Option Value)} {kV doc pm cdv ct:Value} (l:K.lookup f=some ⟨oc,od,.func (PySem.W.fnOf x qual (aC st) (aB st) (ak st) .none kV doc pm an cdv ct),osl⟩)
    (c:PySem.W.codeIn K cdv qual=true) (k:PySem.W.keepIn K (.ref f)=true):Fun K x qual st f (PySem.W.fnOf x qual (aC st) (aB st) (ak st) .none kV doc pm an cdv ct):=⟨⟨oc,od,kV,doc,pm,an,cdv,ct,osl,rfl,l,c⟩,k⟩
section
variable {X:Cx}
theorem pv (i:Nat) {x:Str} {pos:Pos} (hN:X.N[i]?=some x:=by rfl) (hv:Vis X.env.scope x:=by first | exact Or.inl rfl | exact Or.inr (Or.inl rfl) | exact Or.inr (Or.inr rfl)) (hd:(x == ("__debug__":Str))=false:=by decide)
    (hcd:(x == ("__classdict__":Str))=false:=by decide):PE X (.Name x pos) (R0 i):=Le hN hv hd hcd
end
theorem jG {A B:Prop} (h:B):if false=true then A else B:=by
  rw [if_neg Bool.false_ne_true]
  exact h
theorem jK {A B:Prop} (h:A):if true=true then A else B:=by
  rw [if_pos rfl]
  exact h
theorem R5 {c A B:Prop} [Decidable c] (h1:c→A) (h2:¬ c→B):if c then A else B:=by
  by_cases h:c
  · rw [if_pos h]
    exact h1 h
  · rw [if_neg h]
    exact h2 h
theorem S8 {c A B:Prop} [Decidable c] (hc:c) (h:B):if (!decide c)=true then A else B:=by
  rw [decide_eq_true hc]
  exact jG h
def Same (H H':Hp):Prop:=∀ b o,H b=some o→H' b=some o
theorem Same.refl (H:Hp):Same H H:=fun _ _ h=>h
theorem Same.free {H H':Hp} (e:Same H H') {l:Addr} (h:H' l=Option.none):H l=Option.none:=by
  cases q:H l with
  | none=>rfl
  | some o =>
    rw [e l o q] at h
    cases h
theorem Same.seq {K:PySem.W.Frag} {H H':Hp} {a:Addr} {xs:List V} (e:Same H H') (h:SqL K H a xs):SqL K H' a xs:=by
  rcases h with (h | ⟨o,h⟩) | h
  · exact .inl (.inl (e _ _ h))
  · exact .inl (.inr ⟨o,e _ _ h⟩)
  · exact .inr h
end L2
namespace L2
open PySem PySem.Spec PyProof.Rows
def clo (cells:List (Str × Addr)):List (Str × NameKind)→List (Str × Addr)→List (Str × Addr)
  | [],cs=>cs
  | (n,k) :: r,cs=>clo cells r (if k == .free then (n,(cells.lookup n).getD 0) :: cs else cs)
theorem yP {env:Env}:∀ (names:List (Str × NameKind)) (cs:List (Str × Addr)),(∀ y∈names,y.2=.free→∃ c,env.cells.lookup y.1=some c) →
    (forIn names cs fun (x:Str × NameKind) (r:List (Str × Addr))=>(do
      let cs:=r
      match x with
      | (name,kind) =>
        if kind == .free then do
          let c ← cellOf env name
          let cs:=(name,c) :: cs
          pure (ForInStep.yield cs)
        else pure (ForInStep.yield cs):Sem (ForInStep (List (Str × Addr)))))=pure (clo env.cells names cs)
  | [],cs,_=>rfl
  | (n,k) :: r,cs,h=>by
    rw [List.forIn_cons]
    by_cases hk:k=.free
    · subst hk
      obtain ⟨c,hc⟩:=h (n,.free) List.mem_cons_self rfl
      have e:cellOf env n=pure c:=by unfold cellOf;rw [hc]
      simp only [beq_self_eq_true,if_true,e,pure_bind]
      rw [yP r _ fun y hy=>h y (List.mem_cons_of_mem _ hy)]
      simp [clo,hc]
    · have hb:(k == NameKind.free)=false:=by simpa using hk
      simp only [hb,Bool.false_eq_true,if_false,pure_bind]
      rw [yP r _ fun y hy=>h y (List.mem_cons_of_mem _ hy)]
      simp [clo,hb]
theorem oH {env:Env} {scope:Scope} (h:∀ y∈scope.names,y.2=.free→∃ c,env.cells.lookup y.1=some c):closureFor scope env=pure (clo env.cells scope.names []):=by
  unfold closureFor
  have e:=yP (env:=env) scope.names [] h
  first
    | (rw [← e];rfl)
    | (simp only [bind_pure];exact e)
    | exact e
theorem yO {cells:List (Str × Addr)}:∀ (names:List (Str × NameKind)) (cs:List (Str × Addr)) (p:Str × Addr),p∈clo cells names cs→p∈cs∨p.2=(cells.lookup p.1).getD 0
  | [],_,_,h=>.inl h
  | (n,k) :: r,cs,p,h=>by
    rcases yO r _ p h with h' | h'
    · by_cases hk:(k == NameKind.free)=true
      · rw [if_pos hk] at h'
        rcases List.mem_cons.mp h' with e | e
        · subst e;exact .inr rfl
        · exact .inl e
      · rw [if_neg hk] at h';exact .inl h'
    · exact .inr h'
theorem vo {cells:List (Str × Addr)}:∀ (names:List (Str × NameKind)) (cs:List (Str × Addr)) (x:Str),(cs.lookup x).isSome=true→((clo cells names cs).lookup x).isSome=true
  | [],_,_,h=>h
  | (n,k) :: r,cs,x,h=>by
    refine vo r _ x ?_
    by_cases hk:(k == NameKind.free)=true
    · rw [if_pos hk]
      rw [List.lookup_cons]
      cases x == n with
      | true=>rfl
      | false=>exact h
    · rw [if_neg hk];exact h
theorem uc {cells:List (Str × Addr)}:∀ (names:List (Str × NameKind)) (cs:List (Str × Addr)) (x:Str),(x,NameKind.free)∈names→((clo cells names cs).lookup x).isSome=true
  | [],_,_,h=>nomatch h
  | (n,k) :: r,cs,x,h=>by
    show ((clo cells r _).lookup x).isSome=true
    rcases List.mem_cons.mp h with e | e
    · have e1:x=n:=congrArg Prod.fst e
      have e2:NameKind.free=k:=congrArg Prod.snd e
      subst e1
      subst e2
      refine vo r _ x ?_
      rw [if_pos (by decide),List.lookup_cons]
      simp
    · exact uc r _ x e
theorem Ky {cells:List (Str × Addr)} {names:List (Str × NameKind)} {x:Str} {c:Addr} (h:(clo cells names []).lookup x=some c):c=(cells.lookup x).getD 0:=by
  rcases yO names [] _ (PySem.mem_of_lookup h) with z | z
  · exact nomatch z
  · exact z
theorem vp {cells:List (Str × Addr)}:∀ {names:List (Str × NameKind)} (cs:List (Str × Addr)) {p:Str × Addr},p∈clo cells names cs→p∈cs∨(p.1,NameKind.free)∈names
  | [],_,_,h=>.inl h
  | (n,k) :: r,cs,p,h=>by
    rcases vp (names:=r) _ h with h' | h'
    · by_cases hk:(k == NameKind.free)=true
      · rw [if_pos hk] at h'
        rcases List.mem_cons.mp h' with e | e
        · subst e
          have:k=.free:=by simpa using hk
          subst this
          exact .inr List.mem_cons_self
        · exact .inl e
      · rw [if_neg hk] at h';exact .inl h'
    · exact .inr (List.mem_cons_of_mem _ h')
def kZ (X:Cx) (scope:Scope) (N:List Str) (s:Shared) (H:Hp) (ex:List Addr):Cx :=
  { X with N:=N,s₀:=s,H₀:=H,env:=compEnvC scope (clo X.env.cells scope.names []) s.heap.objs.size X.env,outer:=X.stack,stack:=X.stack,ex:=ex,fn:=fun x=>((clo X.env.cells scope.names []).lookup x).isNone,pn:=[],xe:=fun _ _=>False }
def freeOk (sc scope:Scope):Bool:=scope.names.all fun y=>(y.2 != .free) || (sc.names.lookup y.1 == some .cell) || (sc.names.lookup y.1 == some .free)
def zF (scope:Scope):Bool:=(scope.kind == .function) && (scope.names.all fun y=>y.2 != .cell) && (scope.names.all fun y=>y.2 != .local || scope.names.lookup y.1 == some .local)
def Af (scope:Scope) (N N':List Str) (cap:List (Option Nat)):Bool:=(cap.length == N'.length) && (N'.zip cap).all fun p=>match p.2 with
  | none=>true
  | some j=>N[j]? == some p.1 && scope.names.lookup p.1 == some .free
def yQ (cap:List (Option Nat)) (σ:St):St:=cap.map fun o=>o.bind fun j=>(σ[j]?).bind id
theorem lu {f:Str × NameKind→Str × NameKind} (hf:∀ y,(f y).1=y.1) (x:Str):∀ names:List (Str × NameKind),(names.map f).lookup x=(names.lookup x).map fun k=>(f (x,k)).2
  | []=>rfl
  | (n,k) :: r=>by
    have ih:=lu hf x r
    have e1:(f (n,k)).1=n:=hf (n,k)
    have e2:f (n,k)=(n,(f (n,k)).2):=Prod.ext e1 rfl
    rw [List.map_cons,e2,List.lookup_cons,List.lookup_cons]
    cases hx:x == n with
    | true =>
      have:x=n:=by simpa using hx
      subst this
      rfl
    | false=>exact ih
def rlb (env:Env):Str × NameKind→Str × NameKind:=fun (n,k)=>if (k == NameKind.free && env.scope.kind == .function && env.kindOf n == some .cell) then (n,NameKind.cell) else (n,k)
theorem wY (env:Env) (y:Str × NameKind):(rlb env y).1=y.1:=by
  obtain ⟨n,k⟩:=y
  unfold rlb
  dsimp only
  split <;> rfl
theorem wX (env:Env) (n:Str) (k:NameKind):(rlb env (n,k)).2=k∨((rlb env (n,k)).2=.cell∧k=.free):=by
  unfold rlb
  dsimp only
  split
  · rename_i h
    rw [Bool.and_eq_true,Bool.and_eq_true] at h
    exact .inr ⟨rfl,by simpa using h.1.1⟩
  · exact .inl rfl
theorem lN (scope:Scope) (env:Env):(relabel scope env).names=scope.names.map (rlb env):=rfl
theorem qW {scope:Scope} {env:Env} {x:Str} (h:scope.names.lookup x=some .free):(relabel scope env).names.lookup x=some .cell∨(relabel scope env).names.lookup x=some .free:=by
  rw [lN,lu (wY env),h]
  rcases wX env x .free with e | ⟨e,_⟩
  · exact .inr (congrArg some e)
  · exact .inl (congrArg some e)
theorem mO {scope:Scope} {env:Env} {x:Str} {k':NameKind} (hk:k'=.cell∨k'=.free) (hn:∀ y∈scope.names,y.2≠.cell) (h:(relabel scope env).names.lookup x=some k'):(x,NameKind.free)∈scope.names:=by
  rw [lN,lu (wY env)] at h
  cases e:scope.names.lookup x with
  | none=>rw [e] at h;cases h
  | some k =>
    rw [e] at h
    have h':(rlb env (x,k)).2=k':=Option.some.inj h
    have hm:=PySem.mem_of_lookup e
    rcases wX env x k with z | ⟨_,z⟩
    · rw [z] at h'
      subst h'
      rcases hk with z2 | z2
      · exact absurd z2 (hn _ hm)
      · rw [z2] at hm;exact hm
    · rw [z] at hm;exact hm
def PTs (X:Cx) (ifs:List Expr) (t:TT):Prop :=
  ∀ (pins:List (Addr × Obj)) (s:Shared) (σ:St) (H:Hp) (Q:Bool→Hp→Prop),Inv X pins σ H s→t σ H Q →
    wpAny (model X.prog X.w) X.A (forIn ifs true fun c r=>if r=true then do let ok ← isTrue c X.env (eval c X.env);pure (ForInStep.yield ok) else pure (ForInStep.yield r)) (TP X pins σ Q) X.xe s
def R7:TT:=fun _ H Q=>Q true H
theorem Al {i:Nat} {x:V} {τ:St} {H:Hp} {A B:St→Hp→Prop} (h:A (τ.set i (some x)) H):Ac i x τ H fun τ4 H4=>R7 τ4 H4 fun b H5=>if b=true then A τ4 H5 else B τ4 H5:=by
  show if true=true then A (τ.set i (some x)) H else B (τ.set i (some x)) H
  rw [if_pos rfl];exact h
theorem jx {X:Cx}:PTs X [] R7:=fun _ _ _ H _ I h=>wpAny_tests_nil ⟨H,I,h⟩
theorem pP {X:Cx} {c:Expr} {t:TT} (h:PT X c t):PTs X [c] t:=fun pins s σ H Q I hq=>wpAny_tests_one (h pins s σ H Q I hq)
def oO (J:It) (acc:Addr) (g:TG) (tc:TT) (te:TE) (τ:St) (H1:Hp) (Q:Hp→Prop):Prop :=
  ∃ W:Nat→Nat→St→Hp→Prop,(∃ m,W 0 m τ (upd H1 acc (.lst [])))∧∀ i m τ H2,W i m τ H2→(J.stop i H2∧Q H2)∨(J.go i H2∧∃ N:St→Hp→Prop,(∀ τ' H',N τ' H'→∃ m',m'<m∧W (i + 1) m' τ' H')∧∀ x H3,J.yld i H2 x H3→g x τ H3 fun τ4 H4 =>
    tc τ4 H4 fun b H5=>if b=true then te τ4 H5 fun y H6=>∃ ys,H6 acc=some (.lst ys)∧ys.length<sizeLine∧N τ4 (upd H6 acc (.lst (ys++[y]))) else N τ4 H5)
theorem kj {lo:Int} {n:Nat} {acc:Addr} {g:TG} {tc:TT} {te:TE} {τ:St} {H1:Hp} {Q:Hp→Prop} (Pv:Nat→St→Hp→Prop) (h0:Pv 0 τ (upd H1 acc (.lst [])))
    (hs:∀ i τ H,i<n→Pv i τ H→g (.int (lo + i)) τ H fun τ4 H4=>tc τ4 H4 fun b H5=>if b=true then te τ4 H5 fun y H6=>∃ ys,H6 acc=some (.lst ys)∧ys.length<sizeLine∧Pv (i + 1) τ4 (upd H6 acc (.lst (ys++[y]))) else Pv (i + 1) τ4 H5)
    (hd:∀ τ H,Pv n τ H→Q H):oO (Itr lo n) acc g tc te τ H1 Q:=by
  refine ⟨fun i m τ H=>m=n - i∧i≤n∧Pv i τ H,⟨n,by simp,Nat.zero_le _,h0⟩,?_⟩
  rintro i m τ H ⟨rfl,hi,p⟩
  by_cases hlt:i<n
  · refine .inr ⟨hlt,Pv (i + 1),fun τ' H' p'=>⟨n - (i + 1),by omega,rfl,hlt,p'⟩,fun x H' y=>?_⟩
    obtain ⟨e,y⟩:=y
    subst e y
    exact hs i τ _ hlt p
  · have e:i=n:=by omega
    subst e
    exact .inl ⟨Nat.le_refl _,hd τ H p⟩
theorem nZ {K:PySem.W.Frag} {a:Addr} {xs:List V} {acc:Addr} {g:TG} {tc:TT} {te:TE} {τ:St} {H1:Hp} {Q:Hp→Prop} (Pv:Nat→St→Hp→Prop) (h0:Pv 0 τ (upd H1 acc (.lst []))) (hl:∀ i τ H,i≤xs.length→Pv i τ H→SqL K H a xs)
    (hs:∀ i x τ H,xs[i]?=some x→Pv i τ H→g x τ H fun τ4 H4=>tc τ4 H4 fun b H5=>if b=true then te τ4 H5 fun y H6=>∃ ys,H6 acc=some (.lst ys)∧ys.length<sizeLine∧Pv (i + 1) τ4 (upd H6 acc (.lst (ys++[y]))) else Pv (i + 1) τ4 H5)
    (hd:∀ τ H,Pv xs.length τ H→Q H):oO (Itl K a) acc g tc te τ H1 Q:=by
  refine ⟨fun i m τ H=>m=xs.length - i∧i≤xs.length∧Pv i τ H,⟨xs.length,by simp,Nat.zero_le _,h0⟩,?_⟩
  rintro i m τ H ⟨rfl,hi,p⟩
  have q:=hl i τ H hi p
  by_cases hlt:i<xs.length
  · refine .inr ⟨⟨xs,xs[i],q,by simp [hlt]⟩,Pv (i + 1),fun τ' H' p'=>⟨xs.length - (i + 1),by omega,rfl,hlt,p'⟩,fun x H' y=>?_⟩
    obtain ⟨e,y⟩:=y
    subst e
    exact hs i x τ _ (y xs q) p
  · have e:i=xs.length:=by omega
    subst e
    exact .inl ⟨⟨xs,q,Nat.le_refl _⟩,hd τ H p⟩
def JV (wi:TI) (cap:List (Option Nat)) (g:TG) (tc:TT) (te:TE):TE:=fun σ H Q=>wi σ H fun J H1=>∀ acc,H1 acc=none→oO J acc g tc te (yQ cap σ) H1 (fun H2=>Q (.ref acc) H2)
abbrev RT (ifs:List Expr) (env:Env):Sem Bool:=forIn ifs true fun c r=>if r=true then do let ok ← isTrue c env (eval c env);pure (ForInStep.yield ok) else pure (ForInStep.yield r)
abbrev wpQ {α:Type} (prog:Program) (w:World) (A:Around) (m:Sem α) (Q:α→Shared→Prop) (s:Shared):Prop:=wpAny (model prog w) A m Q (fun _ _=>False) s
theorem yN {prog:Program} {w:World} {A:Around} {R:Result→Shared→Prop} {s:Shared} {elt target iter:Expr} {ifs:List Expr} {scope:Scope} {pos:Pos} {it acc:Value} {env:Env} (I:Nat→Shared→Prop)
    (turn:∀ k s0,I k s0→wpQ prog w A (pyNext it) (fun r s1=>(r=none∧R (.ok .next) s1)∨∃ v,r=some v ∧
      wpQ prog w A (letOwnedTupleGo target it v) (fun _ s2=>wpQ prog w A (assign target env v) (fun _ s3=>wpQ prog w A (RT ifs env) (fun ok s4 =>
        (ok=false∧∃ m,m<k∧I m s4)∨(ok=true∧wpQ prog w A (eval elt env) (fun x s5=>wpQ prog w A (call (.builtin "list.append") [acc,x]) (fun _ s6=>∃ m,m<k∧I m s6) s5) s4)) s3) s2) s1) s0)
    (k:Nat) (h:I k s):codeAny (model prog w) A (.compLoop (.ListComp elt [⟨target,iter,ifs,0⟩] scope pos) 0 it acc env) R s:=by
  have quiet:∀ (e:Value) (s':Shared),False→notedBy (model prog w) A env (fun e s'=>R (.error e) s') e s':=fun _ _ z=>z.elim
  apply codeAny_loop rfl I _ k h
  intro k s0 start
  apply wpAny_noted
  rw [compTurn_list]
  apply wpAny_bind
  apply wpAny_standAt
  apply wpAny_bind
  apply wpAny_mono (turn k s0 start) _ quiet
  rintro r s1 (⟨rfl,stop⟩ | ⟨v,rfl,rest⟩)
  · exact wpAny_pure stop
  apply wpAny_bind
  apply wpAny_mono rest _ quiet
  intro _ s2 h2
  apply wpAny_bind
  apply wpAny_mono h2 _ quiet
  intro _ s3 h3
  apply wpAny_bind
  apply wpAny_mono h3 _ quiet
  rintro ok s4 (⟨rfl,skip⟩ | ⟨rfl,add⟩)
  · exact wpAny_pure ⟨rfl,skip⟩
  apply wpAny_bind
  apply wpAny_bind
  apply wpAny_mono add _ quiet
  intro x s5 h5
  apply wpAny_bind
  apply wpAny_mono h5 _ quiet
  intro _ s6 h6
  exact wpAny_pure (wpAny_pure ⟨rfl,h6⟩)
section
variable {X:Cx} {tg iter elt:Expr} {ifs:List Expr} {scope:Scope} {pos:Pos} {wi:TI} {N':List Str} {cap:List (Option Nat)} {g:TG} {tc:TT} {te:TE}
theorem o9 {use:Option (Value→Sem Unit)} {R:Value→Shared→Prop} (sc:Scope) (hsc:X.env.scope=sc) (N₀:List Str) (hN₀:X.N=N₀) (f1:freeOk sc scope=true) (f2:zF scope=true) (f3:Af scope N₀ N' cap=true) (hcalm:X.calm=true)
    (hi:PI X tg iter wi)
    (hg:∀ (s:Shared) (H:Hp) (ex:List Addr),PG (kZ X scope N' s H ex) tg g)
    (hc:∀ (s:Shared) (H:Hp) (ex:List Addr),PTs (kZ X scope N' s H ex) ifs tc)
    (he:∀ (s:Shared) (H:Hp) (ex:List Addr),PE (kZ X scope N' s H ex) elt te)
    (hs:∀ x,foldedSetIterable iter X.env x=pure x)
    {pins:List (Addr × Obj)} {s:Shared} {σ:St} {H:Hp} {Q:V→Hp→Prop} (I:Inv X pins σ H s) (h:JV wi cap g tc te σ H Q)
    (fin:∀ (acc C:Addr) (s':Shared) (H':Hp) (m:Str→Option Value),Inv X pins σ H' s'→s'.heap.Ns C m→H' C=none→C≠X.env.locals→X.s₀.heap.objs.size≤C→(∀ x c,X.env.cells.lookup x=some c→c≠C)→(∀ p∈X.pn++pins,p.1≠C)→Q (.ref acc) H' →
      compPost (model X.prog X.w) X.A X.xe use R (.ref acc) C (.ok .next) s') :
    wpAny (model X.prog X.w) X.A (comprehension (.ListComp elt [⟨tg,iter,ifs,0⟩] scope pos) scope X.env (firstIterPos [⟨tg,iter,ifs,0⟩] pos) (newList []) false (firstIter [⟨tg,iter,ifs,0⟩] X.env) use) R X.xe s:=by
  have ok:=I.ok
  have fr:∀ y∈scope.names,y.2=.free→X.env.kindOf y.1=some .cell∨X.env.kindOf y.1=some .free:=fun y hy e=>by
    have q:=List.all_eq_true.mp f1 y hy
    rw [e] at q
    have q':((sc.names.lookup y.1 == some NameKind.cell) || (sc.names.lookup y.1 == some NameKind.free))=true:=by simpa using q
    rw [Bool.or_eq_true] at q'
    unfold Env.kindOf
    rw [hsc]
    rcases q' with z | z
    · exact .inl (by simpa using z)
    · exact .inr (by simpa using z)
  obtain ⟨⟨k1,k2⟩,k3⟩:((scope.kind == .function)=true∧(scope.names.all fun y=>y.2 != .cell)=true)∧(scope.names.all fun y=>y.2 != .local || scope.names.lookup y.1 == some .local)=true:=by
    unfold zF at f2
    rw [Bool.and_eq_true,Bool.and_eq_true] at f2
    exact f2
  have hkind:scope.kind=.function:=by simpa using k1
  have hcell:∀ y∈scope.names,y.2≠.cell:=fun y hy=>by
    have q:=List.all_eq_true.mp k2 y hy
    simpa using q
  have hnames:∀ y∈scope.names,y.2=.local→scope.names.lookup y.1=some .local:=fun y hy e=>by
    have q:=List.all_eq_true.mp k3 y hy
    rw [e] at q
    simpa using q
  have hclos:closureFor scope X.env=pure (clo X.env.cells scope.names []):=oH fun y hy e=>ok.has y.1 (fr y hy e)
  have clX:∀ x c,(clo X.env.cells scope.names []).lookup x=some c→X.env.cells.lookup x=some c:=fun x c e=>by
    have e1:=Ky e
    have hx:(x,NameKind.free)∈scope.names:=by
      rcases vp [] (PySem.mem_of_lookup e) with z | z
      · exact nomatch z
      · exact z
    obtain ⟨c',e2⟩:=ok.has x (fr (x,.free) hx rfl)
    rw [e2] at e1 ⊢
    rw [e1];rfl
  refine wpAny_comprehension_free (use:=use) rfl hs hclos hkind hnames ?_
  show wpAny (model X.prog X.w) X.A (eval iter X.env) _ X.xe s
  refine thn (hi pins s σ H _ I h) fun v s1 h1=>thn h1 fun itv s2 h2=>?_
  obtain ⟨it,fp,tn,J,H2,e,I2,T,st2,f2',h3⟩:=h2
  subst e
  refine wpAny_newObj_type ?_
  have fresh2:H2 s2.heap.objs.size=none:=I2.hok.fresh (Nat.le_refl _)
  have I3:Inv X pins σ (upd H2 s2.heap.objs.size (.lst [])) { s2 with heap:=s2.heap.push { cls:=.type "list",data:=.seq ([]:List Value).toArray } } :=
    I2.laid (t':=s2.toks) (fun b o e=>Heap.get?_push_of_some _ e) (Nat.le_refl _) ⟨Nat.zero_le _,[],0,.nil,Heap.get?_push_size _ rfl⟩
  have st3:tn 0 (s2.heap.push { cls:=.type "list",data:=.seq ([]:List Value).toArray }):=T.keep _ _ _ st2 fun b _ o e=>Heap.get?_push_of_some _ e
  have fpne:∀ b∈fp,b≠s2.heap.objs.size:=fun b hb z=>by
    obtain ⟨o,eo,_⟩:=T.obj 0 _ st2 b hb
    exact absurd (Heap.lt_size eo) (by rw [z];exact Nat.lt_irrefl _)
  have fp3:∀ b∈fp,Aj X pins (upd H2 s2.heap.objs.size (.lst [])) b:=fun b hb=>by
    obtain ⟨a0,a1⟩:=f2' b hb
    exact ⟨by rw [bh (fpne b hb)];exact a0,a1⟩
  obtain ⟨W,⟨m0,w0⟩,turn⟩:=h3 s2.heap.objs.size fresh2
  generalize hacc:s2.heap.objs.size=acc at I3 fp3 w0 turn fpne ⊢
  generalize hs3:({ s2 with heap:=s2.heap.push { cls:=.type "list",data:=.seq ([]:List Value).toArray } }:Shared)=s3 at I3 ⊢
  have st3:tn 0 s3.heap:=by rw [← hs3];exact st3
  have accTr:(upd H2 acc (.lst [])) acc=some (.lst []):=dO
  refine wpAny_newFunctionEnv hcell (by intro y hy;cases hy) (fun h4 hns hsb=>?_) hkind
  have hCf:s3.heap.get? s3.heap.objs.size=none:=Heap.get?_none_of_le (Nat.le_refl _)
  have kp4:∀ b o,s3.heap.get? b=some o→h4.get? b=some o:=fun b o e=>hsb.extBut b o (Nat.ne_of_lt (Heap.lt_size e)) (Heap.get?_push_of_some _ e)
  let Y:Cx:=kZ X scope N' s3 (upd H2 acc (.lst [])) fp
  have envY:Y.env=compEnvC scope (clo X.env.cells scope.names []) s3.heap.objs.size X.env:=rfl
  have okY:Y.Ok:=by
    refine ⟨ok.mod,?_,ok.glob,ok.blt,Nat.le_refl _,?_,?_,?_,ok.hd,ok.frames,.inl rfl,?_,?_,?_,?_,?_,?_,?_⟩
    · show (relabel scope X.env).kind=.function
      exact hkind
    · exact fun x y c h1 h2=>ok.inj x y c (clX x c h1) (clX y c h2)
    · intro x hx
      have hx':(relabel scope X.env).names.lookup x=some .cell∨(relabel scope X.env).names.lookup x=some .free:=hx
      have hm:(x,NameKind.free)∈scope.names:=by
        rcases hx' with z | z
        · exact mO (.inl rfl) hcell z
        · exact mO (.inr rfl) hcell z
      exact Option.isSome_iff_exists.mp (uc scope.names [] x hm)
    · intro x c hx h1
      have hx':((clo X.env.cells scope.names []).lookup x).isNone=true:=hx
      have h1':(clo X.env.cells scope.names []).lookup x=some c:=h1
      rw [h1'] at hx';cases hx'
    · intro b hb
      obtain ⟨q0,q1,q2,q3,q4,q5⟩:=fp3 b hb
      refine ⟨?_,fun x c h1=>q4 x c (clX x c h1)⟩
      obtain ⟨o,eo,_⟩:=T.obj 0 _ st3 b hb
      exact Nat.ne_of_lt (Heap.lt_size eo)
    · exact fun b o e=>I3.bs b o e
    · exact Nat.le_trans ok.bsz I3.sz
    · intro b o e hb
      obtain ⟨q0,q1,q2,q3,q4,q5⟩:=fp3 b hb
      rcases q3 with z | z
      · exact ok.noex b o e z
      · exact absurd (Nat.lt_of_lt_of_le (Heap.lt_size e) (Nat.le_trans ok.bsz z)) (Nat.lt_irrefl _)
    · intro b hb hf
      obtain ⟨q0,q1,q2,q3,q4,q5⟩:=fp3 b hb
      rcases List.mem_cons.mp (I3.wC b hf) with z | z
      · exact q1 z
      · exact q2 z
    · exact I3.stack
    · exact I3.sG
  have capl:cap.length=N'.length∧∀ p∈N'.zip cap,(match p.2 with | none=>true | some j=>N₀[j]? == some p.1 && scope.names.lookup p.1 == some .free)=true:=by
    unfold Af at f3
    rw [Bool.and_eq_true] at f3
    exact ⟨by simpa using f3.1,fun p hp=>List.all_eq_true.mp f3.2 p hp⟩
  have IY:Inv Y [] (yQ cap σ) (upd H2 acc (.lst [])) { s3 with heap:=h4,toks:=s3.toks + ([]:List (Str × Value)).length }:=by
    refine ⟨okY,rfl,I3.bare,Un.kept kp4,⟨_,hns,?_⟩,?_,?_,?_,fun p hp=>absurd (show p∈([]:List (Addr × Obj)) from hp) (by simp),I3.hok.kept kp4,?_⟩
    · intro i x v e1 e2 e3
      have e1':N'[i]?=some x:=e1
      unfold yQ at e2
      rw [List.getElem?_map] at e2
      cases ec:cap[i]? with
      | none=>rw [ec] at e2;cases e2
      | some o =>
        rw [ec] at e2
        cases o with
        | none=>cases e2
        | some j =>
          have e2':(σ[j]?).bind id=some v:=by simpa using e2
          have hz:(x,some j)∈N'.zip cap:=by
            refine List.mem_of_getElem? (i:=i) ?_
            rw [List.getElem?_zip_eq_some]
            exact ⟨e1',ec⟩
          have q:=capl.2 _ hz
          have q':(N₀[j]? == some x)=true∧(scope.names.lookup x == some NameKind.free)=true:=by simpa [Bool.and_eq_true] using q
          have q1:X.N[j]?=some x:=by rw [hN₀];simpa using q'.1
          have q2:scope.names.lookup x=some .free:=by simpa using q'.2
          have eσ:σ[j]?=some (some v):=by
            cases z:σ[j]? with
            | none=>rw [z] at e2';cases e2'
            | some y =>
              rw [z] at e2'
              have:y=some v:=e2'
              rw [this]
          have hk:=fr (x,.free) (PySem.mem_of_lookup q2) rfl
          obtain ⟨m,hn,hl⟩:=I3.loc
          have vis:Vis X.env.scope x:=by
            rcases hk with z | z
            · exact .inr (.inl z)
            · exact .inr (.inr z)
          obtain ⟨u,r,l⟩:=hl j x v q1 eσ vis
          refine ⟨u,r,.inr ⟨?_,?_⟩⟩
          · rcases qW (scope:=scope) (env:=X.env) q2 with z | z
            · exact .inl z
            · exact .inr z
          · rcases l with ⟨kl,_⟩ | ⟨_,c,ecx,hcx⟩
            · rcases hk with z | z
              · have z':X.env.kindOf x=some .cell:=z
                rw [kl] at z';cases z'
              · have z':X.env.kindOf x=some .free:=z
                rw [kl] at z';cases z'
            · have hh:=uc (cells:=X.env.cells) scope.names [] x (PySem.mem_of_lookup q2)
              obtain ⟨c',ec'⟩:=Option.isSome_iff_exists.mp hh
              have ec2:=clX x c' ec'
              rw [ecx] at ec2
              cases ec2
              exact ⟨c,ec',hcx.keeps kp4⟩
    · intro x c e
      obtain ⟨v,z⟩:=I3.cell x c (clX x c e)
      exact ⟨v,z.keeps kp4⟩
    · exact I3.hok.fresh (Nat.le_refl _)
    · exact fun x c e=>I3.freeC x c (clX x c e)
    · show (yQ cap σ).length=N'.length
      unfold yQ
      rw [List.length_map];exact capl.1
  have fpY:∀ {H':Hp},(∀ b∈fp,H' b=none)→∀ b∈fp,Aj Y [] H' b:=fun {H'} hn b hb=>by
    obtain ⟨q0,q1,q2,q3,q4,q5⟩:=fp3 b hb
    refine ⟨hn b hb,(okY.exf b hb).1,okY.exfs b hb,.inl hb,(okY.exf b hb).2,fun p hp=>absurd (show p∈([]:List (Addr × Obj)) from hp) (by simp)⟩
  have st4:tn 0 h4:=T.keep _ _ _ st3 fun b _ o e=>kp4 b o e
  have back:∀ {τ:St} {H':Hp} {s':Shared},Inv Y [] τ H' s'→Q (.ref acc) H'→compPost (model X.prog X.w) X.A X.xe use R (.ref acc) s3.heap.objs.size (.ok .next) s':=fun {τ H' s'} J q=>by
    have un:Un (frs X.stack) fp (upd H2 acc (.lst [])) H' s3.heap s'.heap:=J.base
    have IX:Inv X pins σ H' s':=I3.call' (J.os) un J.hok J.bare fun b hb=>by
      obtain ⟨q0,q1,q2,q3,q4,q5⟩:=fp3 b hb
      exact ⟨q3,q1,q4,q5⟩
    obtain ⟨m,hn,_⟩:=J.loc
    refine fin acc s3.heap.objs.size s' H' m IX hn J.free (Nat.ne_of_gt I3.lt) I3.sz (fun x c e z=>?_) (fun p hp z=>?_) q
    · obtain ⟨v,q⟩:=I3.cell x c e
      exact absurd q.lt (by rw [z];exact Nat.lt_irrefl _)
    · exact absurd (Heap.lt_size (I3.pin p hp).1) (by rw [z];exact Nat.lt_irrefl _)
  have loop:∀ s5:Shared,s5={ s3 with heap:=h4,toks:=s3.toks + ([]:List (Str × Value)).length } →
      codeAny (model X.prog X.w) X.A (.compLoop (.ListComp elt [⟨tg,iter,ifs,0⟩] scope pos) 0 (.ref it) (.ref acc) Y.env) (compPost (model X.prog X.w) X.A X.xe use R (.ref acc) s3.heap.objs.size) s5:=by
    rintro s5 rfl
    refine yN (fun n s'=>∃ i τ H',Inv Y [] τ H' s'∧tn i s'.heap∧(∀ b∈fp,H' b=none)∧W i n τ H') ?_ m0 ⟨0,_,_,IY,st4,fun b hb=>(fp3 b hb).1,w0⟩
    rintro n s6 ⟨i,τ,H6,I6,st6,fr6,w6⟩
    rcases turn i n τ H6 w6 with ⟨stop,q⟩ | ⟨go,N,hN,step⟩
    · refine wpAny_mono (T.done Y rfl rfl rfl hcalm i [] s6 τ H6 (fun _ _=>False) I6 (fpY fr6) st6 stop) (fun r s7 ⟨hr,I7⟩=>?_) fun _ _ z=>z.elim
      exact .inl ⟨hr,back I7 q⟩
    · refine wpAny_mono (T.item Y rfl rfl rfl hcalm i [] s6 τ H6 (fun _ _=>False) I6 (fpY fr6) st6 go) (fun r s6b ⟨u,hr,h7⟩=>?_) fun _ _ z=>z.elim
      refine .inr ⟨u,hr,?_⟩
      refine wpAny_mono h7 (fun _ s7 ⟨x,H7,I7,r7,y7,st7,fr7⟩=>?_) fun _ _ z=>z.elim
      have I7':=I7.pinned (fpY fr7) (T.obj _ _ st7)
      have again:∀ {τ8:St} {H8:Hp} {s8:Shared},Inv Y ([]++rm fp s7.heap) τ8 H8 s8→N τ8 H8→∃ m,m<n∧∃ i τ H',Inv Y [] τ H' s8∧tn i s8.heap∧(∀ b∈fp,H' b=none)∧W i m τ H':=fun {τ8 H8 s8} I8 n8=>by
        obtain ⟨m',hm,w8⟩:=hN τ8 H8 n8
        refine ⟨m',hm,i + 1,τ8,H8,I8.mZ,T.keep _ _ _ st7 fun b hb o e=>(I8.pin (b,o) (List.mem_append_right _ (List.mem_append_right _ (kh hb e)))).1,fun b hb=>?_,w8⟩
        obtain ⟨o,e,d⟩:=T.obj _ _ st7 b hb
        exact (I8.pin (b,o) (List.mem_append_right _ (List.mem_append_right _ (kh hb e)))).2.1
      refine wpAny_mono (hg s3 (upd H2 acc (.lst [])) fp _ s7 τ H7 x u _ I7' r7 (step x H7 y7)) (fun _ s8 ⟨τ8,H8,I8,q8⟩=>?_) fun _ _ z=>z.elim
      refine wpAny_mono (hc s3 (upd H2 acc (.lst [])) fp _ s8 τ8 H8 _ I8 q8) (fun b s9 ⟨H9,I9,q9⟩=>?_) fun _ _ z=>z.elim
      cases b with
      | false =>
        rw [if_neg Bool.false_ne_true] at q9
        exact .inl ⟨rfl,again I9 q9⟩
      | true =>
        rw [if_pos rfl] at q9
        refine .inr ⟨rfl,?_⟩
        refine wpAny_mono (he s3 (upd H2 acc (.lst [])) fp _ s9 τ8 H9 _ I9 q9) (fun y s10 ⟨yv,H10,I10,r10,ys,hl,hz,q10⟩=>?_) fun _ _ z=>z.elim
        refine wpAny_mono (bL (X:=Y) _ s10 τ8 H10 (.ref acc) [yv] (.ref acc) [y] (fun v H'=>N τ8 H') I10 rfl (.cons r10 .nil) ⟨acc,ys,yv,rfl,rfl,hl,hz,q10⟩) (fun v s11 ⟨vv,H11,I11,r11,q11⟩=>?_) fun _ _ z=>z.elim
        exact again I11 q11
  exact codeAny_compStart_list (loop _ rfl) (T.self _ _ _ _ _ st4 (loop _ rfl))
theorem jy (sc:Scope) (hsc:X.env.scope=sc) (N₀:List Str) (hN₀:X.N=N₀) (N':List Str) (cap:List (Option Nat)) (f1:freeOk sc scope=true) (f2:zF scope=true) (f3:Af scope N₀ N' cap=true) (hcalm:X.calm=true)
    (hi:PI X tg iter wi)
    (hg:∀ (s:Shared) (H:Hp) (ex:List Addr),PG (kZ X scope N' s H ex) tg g)
    (hc:∀ (s:Shared) (H:Hp) (ex:List Addr),PTs (kZ X scope N' s H ex) ifs tc)
    (he:∀ (s:Shared) (H:Hp) (ex:List Addr),PE (kZ X scope N' s H ex) elt te)
    (hs:∀ x,foldedSetIterable iter X.env x=pure x:=by intro _;rfl) :
    PE X (.ListComp elt [⟨tg,iter,ifs,0⟩] scope pos) (JV wi cap g tc te):=by
  intro pins s σ H Q I h
  rw [eval_ListComp]
  refine o9 (use:=none) sc hsc N₀ hN₀ f1 f2 f3 hcalm hi hg hc he hs I h ?_
  intro acc C s' H' m IX hn hC h1 h2 h3 h4 q
  refine ⟨m,hn,fun h'' hs''=>?_⟩
  exact ⟨.ref acc,H',IX.turned (t':=s'.toks) (fun b o hb e=>(hs''.2 b hb).trans e) hC h1 (.inr h2) h3 h4,rfl,q⟩
theorem j9 {i:Nat} {x:Str} {pos' spos:Pos} (sc:Scope) (hsc:X.env.scope=sc) (N₀:List Str) (hN₀:X.N=N₀) (N':List Str) (cap:List (Option Nat)) (f1:freeOk sc scope=true) (f2:zF scope=true) (f3:Af scope N₀ N' cap=true) (hcalm:X.calm=true)
    (hnd:X.N.Nodup) (hix:X.N[i]?=some x) (hx:X.env.scope.names.lookup x=some .local)
    (hi:PI X tg iter wi)
    (hg:∀ (s:Shared) (H:Hp) (ex:List Addr),PG (kZ X scope N' s H ex) tg g)
    (hc:∀ (s:Shared) (H:Hp) (ex:List Addr),PTs (kZ X scope N' s H ex) ifs tc)
    (he:∀ (s:Shared) (H:Hp) (ex:List Addr),PE (kZ X scope N' s H ex) elt te)
    (hsw:swapsWith (.ListComp elt [⟨tg,iter,ifs,0⟩] scope pos) (some (.Name x pos')) spos.line X.env=pure true)
    (hs:∀ x,foldedSetIterable iter X.env x=pure x:=by intro _;rfl) :
    PS X (.Assign [.Name x pos'] (.ListComp elt [⟨tg,iter,ifs,0⟩] scope pos) spos) (Sy (JV wi cap g tc te) (Ac i)):=by
  intro pins s σ H D I h
  rw [exec_Assign_Name_used _ _ _ _ hsw]
  refine wpAny_bind (wpAny_standAt (wpAny_bind ?_))
  show wpAny _ X.A (do let _ ← comprehension (.ListComp elt [⟨tg,iter,ifs,0⟩] scope pos) scope X.env _ (newList []) false (firstIter [⟨tg,iter,ifs,0⟩] X.env) (some (assign (.Name x pos') X.env))) _ _ s
  refine wpAny_bind (wpAny_mono (o9 (use:=some (assign (.Name x pos') X.env)) (R:=fun _ s'=>SP X pins D .next s') sc hsc N₀ hN₀ f1 f2 f3 hcalm hi hg hc he hs I h ?_) (fun _ s' hq=>wpAny_pure (wpAny_pure hq)) fun _ _ e=>e)
  intro acc C s' H' m IX hn hC h1 h2 h3 h4 q
  show wpAny _ X.A (assign (.Name x pos') X.env (.ref acc)) _ _ _
  refine wpAny_assign_Name (qF (v:=.ref acc) IX hnd hix (.inl hx) rfl (fun s2 I2 hsb=>?_) (.inr hx))
  obtain ⟨a,sb,ha⟩:=hsb
  have hCa:C≠a:=by
    rcases ha with z | z
    · rw [z];exact h1
    · exact fun w=>h3 x a z w.symm
  refine ⟨m,hn.sameBut sb hCa,fun h'' hs''=>?_⟩
  exact ⟨_,H',I2.turned (t':=s2.toks) (fun b o hb e=>(hs''.2 b hb).trans e) hC h1 (.inr h2) h3 h4,q⟩
end
end L2
namespace L2
open PySem PySem.Spec PyProof.Rows
section
variable {X:Cx}
def Vk (K:PySem.W.Frag) (neg:Bool):R2:=fun x y H Q=>∃ (a b:Addr) (ns ms:List Int),x=.ref a∧y=.ref b∧SqL K H a (ns.map V.int)∧SqL K H b (ms.map V.int)∧Q (.bl (if neg then !decide (ns=ms) else decide (ns=ms))) H
theorem gK:lG X (.builtin "isinstance") (fun xs H Q=>∃ x t c b,xs=[x,.ty c]∧rZ X.K H x t∧PySem.W.kitOne X.K t (.type c)=some b∧Q (.bl b) H):=by
  intro pins s σ H xs us Q I r h
  obtain ⟨x,t,c,b,rfl,ty,e,q⟩:=h
  obtain ⟨u,w,rfl,ru,rw'⟩:=vals2 r
  obtain rfl:w=Value.type c:=rw'
  exact rG I ru ty e fun tk=>⟨.bl b,H,I.tok tk,rfl,q⟩
theorem rQ:lG X (.builtin "isinstance") (fun xs H Q=>∃ x t c b,xs=[x,.ref c]∧rZ X.K H x t∧PySem.W.kitOne X.K t (.ref c)=some b∧Q (.bl b) H):=by
  intro pins s σ H xs us Q I r h
  obtain ⟨x,t,c,b,rfl,ty,e,q⟩:=h
  obtain ⟨u,w,rfl,ru,rw'⟩:=vals2 r
  obtain rfl:w=Value.ref c:=rw'
  exact rG I ru ty e fun tk=>⟨.bl b,H,I.tok tk,rfl,q⟩
theorem vM:∀ (bs:List Bool),((List.range bs.length).all fun i=>(bs[i]?).getD true)=bs.all id:=by
  intro bs
  rw [Bool.eq_iff_iff]
  simp only [List.all_eq_true,List.mem_range,id_eq]
  constructor
  · intro h b hb
    obtain ⟨i,hi,e⟩:=List.getElem_of_mem hb
    have:=h i hi
    rw [List.getElem?_eq_getElem hi,e] at this
    exact this
  · intro h i hi
    rw [List.getElem?_eq_getElem hi]
    exact h _ (List.getElem_mem hi)
theorem lU (hc:X.calm=true):lG X (.builtin "all") (fun xs H Q=>∃ (p:Addr) (bs:List Bool),xs=[.ref p]∧SqL X.K H p (bs.map V.bl)∧Q (.bl (bs.all id)) H):=by
  intro pins s σ H xs us Q I r h
  obtain ⟨p,bs,rfl,hq,q⟩:=h
  obtain ⟨u,rfl,ru⟩:=vals1 r
  cases ru
  obtain ⟨its,r1,p1,hz⟩:=I.list hq
  have hl:=p1.isList
  have hlt:p<s.heap.objs.size:=p1.lt
  have hlen:=r1.length
  rw [List.length_map] at hlen
  refine call_all_walk (wpAny_pyIter_list hl ?_)
  refine ⟨s.heap.objs.size,[s.heap.objs.size,p],[s.heap.objs.size],its.toArray.size,_,_,fun i=>(bs[i]?).getD true,rfl,Walks.list (A:=X.A.in1) (I.ok.hd hc) _ p (Nat.ne_of_lt hlt) its.toArray,
    ⟨⟨_,Heap.get?_push_size _ rfl,rfl,rfl⟩,hl.push _⟩,fun i v s' Q' E' hP hQ=>?_,fun h' tk hk=>?_⟩
  · have hP':its[i]?=some v:=by simpa using hP
    have hi:i<bs.length:=by
      have:=(List.getElem?_eq_some_iff.mp hP').1
      omega
    obtain ⟨u,eu,ru⟩:=r1.get (x:=.bl bs[i]) (by rw [List.getElem?_map,List.getElem?_eq_getElem hi];rfl)
    rw [hP'] at eu
    cases eu
    cases ru
    dsimp only at hQ
    rw [List.getElem?_eq_getElem hi] at hQ
    exact wpAny_truthy_bool hQ
  · have e:((List.range its.toArray.size).all fun i=>(bs[i]?).getD true)=bs.all id:=by
      rw [List.size_toArray,← hlen];exact vM bs
    rw [e]
    refine ⟨.bl _,H,I.kept fun b o eo=>hk b o (fun hm=>?_) (Heap.get?_push_of_some _ eo),rfl,q⟩
    rw [List.mem_singleton.mp hm] at eo
    exact Nat.lt_irrefl _ (Heap.lt_size eo)
end
end L2
namespace L2
open PySem PySem.Spec PyProof.Rows
section
variable {X:Cx} {st:Stmt} {rest:List Stmt} {t u:TS}
def R9 (t u:TS):TS:=fun D σ H=>∃ M:St→Hp→Prop,t { D with nx:=M } σ H∧∀ σ' H',M σ' H'→u D σ' H'
theorem nH (h1:PS X st t) (h2:PSs X rest u):PSs X (st :: rest) (R9 t u):=by
  intro pins s σ H D I h
  obtain ⟨M,ha,hb⟩:=h
  refine wpAny_execs_cons (thn (h1 pins s σ H { D with nx:=M } I ha) fun f s1 q=>?_)
  cases f with
  | next =>
    obtain ⟨σ',H',I',q⟩:=q
    exact h2 pins s1 σ' H' D I' (hb σ' H' q)
  | ret v=>exact q
  | brk=>exact q
  | cont=>exact q
end
end L2
namespace L2
open PySem PySem.Spec PyProof.Rows
def Vx (H:Hp) (P:List V→Prop) (Q:VK):Prop:=∀ (l:Addr) (H':Hp) (xs:List V),Same H H'→H l=none→H' l=some (.lst xs)→P xs→Q (.ref l) H'
structure Df (K:PySem.W.Frag) (mg:Str→Option Value) (x:Str) (st:Stmt) (ps:List Str) (a:Addr) (fd:FuncData):Prop where
  F:Fun K x x st a fd
  b:Binds K fd ps []
  m:mg x=some (.ref a)
theorem Same.upd {H H':Hp} {l:Addr} {o:HO} (s:Same H H') (h:H l=none):Same H (L2.upd H' l o):=fun b u e=>by
  rw [bh (cZ e h)];exact s b u e
theorem ints_get {ns:List Int} {i:Nat} {y:V} (h:(ns.map V.int)[i]?=some y):∃ z,ns[i]?=some z∧y=V.int z:=by
  rw [List.getElem?_map] at h
  cases e:ns[i]? with
  | none=>rw [e] at h;cases h
  | some z=>rw [e] at h;exact ⟨z,rfl,(Option.some.inj h).symm⟩
theorem bQ {ns:List Int} {i:Nat} {z:Int} (h:ns[i]?=some z):atI (ns.map V.int) (i:Int)=some (V.int z):=fZ (by rw [List.getElem?_map,h];rfl)
theorem qb {ns:List Int} {i:Int} {z:Int} (h0:0≤i) (h:ns[i.toNat]?=some z):atI (ns.map V.int) i=some (V.int z):=by
  obtain ⟨k,rfl⟩:=Int.eq_ofNat_of_zero_le h0
  exact bQ (by simpa using h)
theorem iY {n j:Nat} (h:j<n):ixN n (j:Int)=some j:=by
  unfold ixN
  rw [if_pos (by omega),if_pos (by omega)];simp
theorem m6 {n:Nat} (h:n≤100000):n≤sizeLine:=Nat.le_trans h (by decide)
theorem aV {n:Nat} (h:n≤100000):n<sizeLine:=Nat.lt_of_le_of_lt h (by decide)
structure Blt (mg:Str→Option Value):Prop where
  len:mg "len"=none
  range:mg "range"=none
  list:mg "list"=none
  isinstance:mg "isinstance"=none
  bool:mg "bool"=none
  int:mg "int"=none
  all:mg "all"=none
  min:mg "min"=none
  max:mg "max"=none
  sum:mg "sum"=none
  sorted:mg "sorted"=none
  zip:mg "zip"=none
  tuple:mg "tuple"=none
  str:mg "str"=none
  any:mg "any"=none
  enumerate:mg "enumerate"=none
  reversed:mg "reversed"=none
  abs:mg "abs"=none
  ValueError:mg "ValueError"=none
  set:mg "set"=none
structure Mth (mg:Str→Option Value):Prop where
  MOUTH:∃ t,mg "MOUTH"=some (.int (-1) t)
section
variable {X:Cx} {K:PySem.W.Frag}
theorem m7 (h:X.K=K):IxR X (Vj K):=h ▸ aW
theorem Ko (h:X.K=K):IxR X (Vi K):=h ▸ aD
theorem qp (h:X.K=K):lG X (.builtin "len") (fun xs H Q=>∃ p ys,xs=[.ref p]∧(SqL K H p ys∨SqT K H p ys)∧Q (.int ys.length) H):=h ▸ bf
end
end L2
namespace L2
open PySem PySem.W PyProof.Rows
section
variable {N:Nat} {κ:Nat→Int} {R:Shared→Prop} {cmp:Nat→Nat→(Bool→Shared→Prop)→Shared→Prop}
def Cmp (N:Nat) (κ:Nat→Int) (R:Shared→Prop) (cmp:Nat→Nat→(Bool→Shared→Prop)→Shared→Prop):Prop :=
  ∀ i j C s,i<N→j<N→R s→(∀ s',R s'→C (decide (κ i<κ j)) s')→cmp i j C s
def Inj (N:Nat) (κ:Nat→Int):Prop:=∀ i j,i<N→j<N→i≠j→κ i≠κ j
variable (hc:Cmp N κ R cmp) (hI:Inj N κ)
include hc hI
end
end L2
namespace L2
open PySem PySem.Spec PyProof.Rows
section
variable {X:Cx} {pins:List (Addr × Obj)} {σ:St} {H:Hp} {s:Shared} {a:Addr} {o:HO}
theorem Inv.adopt (I:Inv X pins σ H s) (hn:H a=none) (hL:a≠X.env.locals) (h0:X.s₀.heap.objs.size≤a) (hc:∀ x c,X.env.cells.lookup x=some c→c≠a) (hp:∀ p∈X.pn++pins,p.1≠a)
    (new:iD X.prog X.w (upd H a o) s.heap a o):Inv X pins σ (upd H a o) s:=by
  have ne:∀ b u,H b=some u→b≠a:=fun b u e=>cZ e hn
  refine ⟨I.ok,I.os,I.bare,⟨I.base.keep,I.base.slot,fun b ob e n hx=>?_,I.base.there,fun b xs e=>?_,fun b ob xs e=>?_,fun b ps e=>?_⟩,I.loc,I.cell,?_,fun x c e=>?_,fun p hq=>?_,fun b u e=>?_,I.len⟩
  · rw [bh (Nat.ne_of_lt (Nat.lt_of_lt_of_le (Heap.lt_size e) h0))];exact I.base.free b ob e n hx
  · have:=I.base.tups b xs e;rw [bh (ne b _ this)];exact this
  · have:=I.base.frzs b ob xs e;rw [bh (ne b _ this)];exact this
  · obtain ⟨m,e1⟩:=I.base.tbls b ps e;exact ⟨m,by rw [bh (ne b _ e1)];exact e1⟩
  · rw [bh hL.symm];exact I.free
  · rw [bh (hc x c e)];exact I.freeC x c e
  · obtain ⟨e1,n,r⟩:=I.pin p hq;exact ⟨e1,by rw [bh (hp p hq)];exact n,r⟩
  · by_cases hb:b=a
    · subst hb;rw [dO] at e;cases e;exact new
    · rw [bh hb] at e
      exact (I.hok b u e).stay (fun _ _ _ q=>q) (fun c q=>by rw [bh (ne c _ q)];exact q) fun c xs q=>by rw [bh (ne c _ q)];exact q
end
end L2
namespace L2
open PySem PySem.W PySem.Spec PyProof.Rows
end L2
namespace L2
open PySem PySem.W PySem.Spec PyProof.Rows
end L2
namespace L2
open PySem PySem.W PySem.Spec PyProof.Rows
end L2
namespace L2
open PySem PySem.W PySem.Spec PyProof.Rows
end L2
namespace L2
open PySem PySem.W PySem.Spec PyProof.Rows
section
variable {X:Cx} {pins:List (Addr × Obj)} {σ:St} {H:Hp} {s:Shared}
def TabOk (P:Addr) (pos:Pos) (qual:Str) (H:Hp):Prop:=H P=some (.tbl #[])∨∃ c':Addr,H P=some (.tbl #[rawInt pos.line,rawInt pos.col,.ref c'])∧H c'=some (.ext fun h=>h.CodeRec (.ref c') qual)
end
end L2
namespace L2
open PySem PySem.W PySem.Spec PyProof.Rows
end L2
namespace L2
open PySem PySem.W PySem.Spec PyProof.Rows
end L2
namespace L2
open PySem PySem.Spec PyProof.Rows
mutual
inductive Den (K:PySem.W.Frag) (H:Hp):V→PyData→Prop
  | non:Den K H .non .none
  | bl (b:Bool):Den K H (.bl b) (.bool b)
  | int (i:Int):Den K H (.int i) (.int i)
  | str (x:Str):Den K H (.str x) (.str x)
  | list {a:Addr} {xs:List V} {ds:List PyData}:SqL K H a xs→cW K H xs ds→Den K H (.ref a) (.list ds)
  | tuple {a:Addr} {xs:List V} {ds:List PyData}:SqT K H a xs→cW K H xs ds→Den K H (.ref a) (.tuple ds)
inductive cW (K:PySem.W.Frag) (H:Hp):List V→List PyData→Prop
  | nil:cW K H [] []
  | cons {v:V} {vs:List V} {d:PyData} {ds:List PyData}:Den K H v d→cW K H vs ds→cW K H (v :: vs) (d :: ds)
end
theorem cW.length {K:PySem.W.Frag} {H:Hp}:∀ {vs:List V} {ds:List PyData},cW K H vs ds→vs.length=ds.length
  | _,_,.nil=>rfl
  | _,_,.cons _ hs=>by rw [List.length_cons,List.length_cons,cW.length hs]
theorem cW.append {K:PySem.W.Frag} {H:Hp}:∀ {vs ws:List V} {ds es:List PyData},cW K H vs ds→cW K H ws es→cW K H (vs++ws) (ds++es)
  | _,_,_,_,.nil,h=>h
  | _,_,_,_,.cons h hs,h'=>.cons h (cW.append hs h')
theorem cW.get {K:PySem.W.Frag} {H:Hp}:∀ {vs:List V} {ds:List PyData} {i:Nat} {d:PyData},cW K H vs ds→ds[i]?=some d→∃ v,vs[i]?=some v∧Den K H v d
  | _,_,_,_,.nil,e=>by simp at e
  | _,_,0,_,.cons h _,e=>by simp at e;subst e;exact ⟨_,rfl,h⟩
  | _,_,i + 1,d,.cons _ hs,e=>by
    obtain ⟨v,h1,h2⟩:=cW.get (i:=i) (d:=d) hs (by simpa using e)
    exact ⟨v,by simpa using h1,h2⟩
theorem cW.get' {K:PySem.W.Frag} {H:Hp}:∀ {vs:List V} {ds:List PyData} {i:Nat} {v:V},cW K H vs ds→vs[i]?=some v→∃ d,ds[i]?=some d∧Den K H v d
  | _,_,_,_,.nil,e=>by simp at e
  | _,_,0,_,.cons h _,e=>by simp at e;subst e;exact ⟨_,rfl,h⟩
  | _,_,i + 1,v,.cons _ hs,e=>by
    obtain ⟨d,h1,h2⟩:=cW.get' (i:=i) (v:=v) hs (by simpa using e)
    exact ⟨d,by simpa using h1,h2⟩
theorem cW.set {K:PySem.W.Frag} {H:Hp} {v:V} {d:PyData} (h:Den K H v d):∀ {vs:List V} {ds:List PyData} (i:Nat),cW K H vs ds→cW K H (vs.set i v) (ds.set i d)
  | _,_,_,.nil=>.nil
  | _,_,0,.cons _ hs=>.cons h hs
  | _,_,i + 1,.cons q hs=>.cons q (cW.set h i hs)
theorem cW.ints {K:PySem.W.Frag} {H:Hp}:∀ (ns:List Int),cW K H (ns.map V.int) (ns.map PyData.int)
  | []=>.nil
  | n :: ns=>.cons (.int n) (cW.ints ns)
def yL (ns:List Int):PyData:=.list (ns.map PyData.int)
theorem Den.ints {K:PySem.W.Frag} {H:Hp} {a:Addr} {ns:List Int} (h:SqL K H a (ns.map V.int)):Den K H (.ref a) (yL ns):=.list h (cW.ints ns)
theorem cW.int_inv {K:PySem.W.Frag} {H:Hp}:∀ {vs:List V} {ns:List Int},cW K H vs (ns.map PyData.int)→vs=ns.map V.int
  | _,[],.nil=>rfl
  | _,n :: ns,.cons h hs=>by
    cases h
    rw [cW.int_inv hs];rfl
theorem Den.int_inv {K:PySem.W.Frag} {H:Hp} {v:V} {i:Int} (h:Den K H v (.int i)):v=.int i:=by cases h;rfl
section
variable {X:Cx} {pins:List (Addr × Obj)} {σ:St} {H:Hp} {s:Shared}
mutual
theorem Den.reads (I:Inv X pins σ H s):∀ {v:V} {d:PyData} {u:Value},Den X.K H v d→RelV v u→∃ as,Reads s.heap u d as
  | _,_,_,.non,r=>by cases r;exact ⟨_,.none⟩
  | _,_,_,.bl b,r=>by cases r;exact ⟨_,.bool b⟩
  | _,_,_,.int i,r=>by obtain ⟨t,rfl⟩:=r;exact ⟨_,.int i t⟩
  | _,_,_,.str x,r=>by obtain ⟨t,rfl⟩:=r;exact ⟨_,.str x t⟩
  | _,_,_,.list h hs,r=>by
    cases r
    obtain ⟨its,r1,⟨o,n,e,c,_,d⟩,_⟩:=I.list h
    obtain ⟨as,q⟩:=cW.reads I hs r1
    exact ⟨_,.list e c d (by simpa using q)⟩
  | _,_,_,.tuple h hs,r=>by
    cases r
    obtain ⟨its,r1,⟨o,e,c,n,d⟩,_⟩:=I.tuple h
    obtain ⟨as,q⟩:=cW.reads I hs r1
    exact ⟨_,.tuple e c d (by simpa using q)⟩
theorem cW.reads (I:Inv X pins σ H s):∀ {vs:List V} {ds:List PyData} {us:List Value},cW X.K H vs ds→Vals vs us→∃ as,ReadsAll s.heap us ds as
  | _,_,_,.nil,r=>by cases r;exact ⟨_,.nil⟩
  | _,_,_,.cons h hs,r=>by
    cases r with
    | cons r1 r2 =>
      obtain ⟨as,q⟩:=Den.reads I h r1
      obtain ⟨bs,q'⟩:=cW.reads I hs r2
      exact ⟨_,.cons q q'⟩
end
def Vl (K:PySem.W.Frag) (neg:Bool):R2:=fun x y H Q=>∃ d e,Den K H x d∧Den K H y e∧SeqAt.shaped d=true∧SeqAt.shaped e=true∧Q (.bl (if neg then !PyData.eqv d e else PyData.eqv d e)) H
theorem xV (hu:X.A.units + 64<cLine):OpR X (compareOp .Eq) (Vl X.K false):=by
  intro pins s σ H x y v u Q I rx ry h
  obtain ⟨d,e,hd,he,sd,se,q⟩:=h
  obtain ⟨as,ra⟩:=hd.reads I rx
  obtain ⟨bs,rb⟩:=he.reads I ry
  exact SeqAt.compareEq_shaped ra rb sd se hu ⟨.bl _,H,I,rfl,q⟩
theorem lQ (hu:X.A.units + 64<cLine):OpR X (compareOp .NotEq) (Vl X.K true):=by
  intro pins s σ H x y v u Q I rx ry h
  obtain ⟨d,e,hd,he,sd,se,q⟩:=h
  obtain ⟨as,ra⟩:=hd.reads I rx
  obtain ⟨bs,rb⟩:=he.reads I ry
  exact SeqAt.compareNe_shaped ra rb sd se hu ⟨.bl _,H,I,rfl,q⟩
end
def Sh (n:Nat) (d:PyData):Prop:=d.canLay0=true∧d.depth≤n
theorem yR:∀ {ds:List PyData},(∀ d∈ds,d.canLay0=true)→PyData.canLayAll0 ds=true
  | [],_=>rfl
  | d :: ds,h=>by rw [PyData.canLayAll0,h d List.mem_cons_self,yR fun x hx=>h x (List.mem_cons_of_mem _ hx)];rfl
theorem yH {n:Nat}:∀ {ds:List PyData},(∀ d∈ds,d.depth≤n)→PyData.depthAll ds≤n
  | [],_=>by simp [PyData.depthAll]
  | d :: ds,h=>by
    have h1:=h d List.mem_cons_self
    have h2:=yH fun x hx=>h x (List.mem_cons_of_mem _ hx)
    simp only [PyData.depthAll]
    omega
theorem Sh.int (n:Nat) (i:Int):Sh n (.int i):=⟨rfl,by simp [PyData.depth]⟩
theorem Sh.list {n:Nat} {ds:List PyData} (h:∀ d∈ds,Sh n d):Sh (n + 1) (.list ds):=⟨by rw [PyData.canLay0];exact yR fun d hd=>(h d hd).1,by
  have:=yH fun d hd=>(h d hd).2
  simp only [PyData.depth];omega⟩
theorem Sh.tuple {n:Nat} {ds:List PyData} (h:∀ d∈ds,Sh n d):Sh (n + 1) (.tuple ds):=⟨by rw [PyData.canLay0];exact yR fun d hd=>(h d hd).1,by
  have:=yH fun d hd=>(h d hd).2
  simp only [PyData.depth];omega⟩
theorem Sh.ints (n:Nat) (ns:List Int):Sh (n + 1) (yL ns):=.list fun d hd=>by
  obtain ⟨i,_,rfl⟩:=List.mem_map.mp hd
  exact .int n i
theorem Sh.ok {n:Nat} {d:PyData} (h:Sh n d) (hn:n≤64):SeqAt.shaped d=true:=by
  unfold SeqAt.shaped
  rw [h.1,decide_eq_true (by have:=h.2;omega)];rfl
theorem iR {n:Nat} {d:PyData} (h:Sh n d):PyData.eqv d d=true:=SeqAt.eqv_refl d h.1
abbrev dW:=List (Addr × Pos × Str)
def TabsOk (T:dW) (H:Hp):Prop:=∀ t∈T,TabOk t.1 t.2.1 t.2.2 H
structure aJ (T:dW) (H H':Hp):Prop where
  t0:TabsOk T H
  t1:TabsOk T H'
  keep:∀ b o,H b=some o→(∀ ps,o≠.tbl ps)→H' b=some o
  tb:∀ b ps,H b=some (.tbl ps)→∃ ps',H' b=some (.tbl ps')
theorem TabsOk.nil (H:Hp):TabsOk [] H:=fun t ht=>nomatch ht
theorem TabsOk.mono {T:dW} {H H':Hp} (t:TabsOk T H) (s:Same H H'):TabsOk T H':=fun q hq=>by
  rcases t q hq with e | ⟨c,e1,e2⟩
  · exact .inl (s _ _ e)
  · exact .inr ⟨c,s _ _ e1,s _ _ e2⟩
theorem aJ.refl {T:dW} {H:Hp} (t:TabsOk T H):aJ T H H:=⟨t,t,fun _ _ h _=>h,fun _ ps h=>⟨ps,h⟩⟩
theorem aJ.of {T:dW} {H H':Hp} (t:TabsOk T H) (s:Same H H'):aJ T H H':=⟨t,t.mono s,fun b o h _=>s b o h,fun b ps h=>⟨ps,s _ _ h⟩⟩
theorem aJ.trans {T:dW} {H H1 H2:Hp} (a:aJ T H H1) (b:aJ T H1 H2):aJ T H H2:=⟨a.t0,b.t1,fun c o h n=>b.keep c o (a.keep c o h n) n,fun c ps h=>by
  obtain ⟨ps',e⟩:=a.tb c ps h
  exact b.tb c ps' e⟩
theorem aJ.free {T:dW} {H H':Hp} (a:aJ T H H') {l:Addr} (h:H' l=none):H l=none:=by
  cases q:H l with
  | none=>rfl
  | some o =>
    have key:(∃ ps,o=.tbl ps)∨∀ ps,o≠.tbl ps:=by
      cases o with
      | tbl ps=>exact .inl ⟨ps,rfl⟩
      | _=>exact .inr fun _ z=>by cases z
    rcases key with ⟨ps,rfl⟩ | n
    · obtain ⟨ps',e⟩:=a.tb l ps q
      rw [h] at e;cases e
    · have:=a.keep l o q n
      rw [h] at this;cases this
theorem aJ.seq {T:dW} {K:PySem.W.Frag} {H H':Hp} {a:Addr} {xs:List V} (e:aJ T H H') (h:SqL K H a xs):SqL K H' a xs:=by
  rcases h with (h | ⟨o,h⟩) | h
  · exact .inl (.inl (e.keep _ _ h fun _ z=>by cases z))
  · exact .inl (.inr ⟨o,e.keep _ _ h fun _ z=>by cases z⟩)
  · exact .inr h
theorem aJ.qw {T:dW} {K:PySem.W.Frag} {H H':Hp} {a:Addr} {xs:List V} (e:aJ T H H') (h:SqT K H a xs):SqT K H' a xs:=by
  rcases h with (h | ⟨o,h⟩) | h
  · exact .inl (.inl (e.keep _ _ h fun _ z=>by cases z))
  · exact .inl (.inr ⟨o,e.keep _ _ h fun _ z=>by cases z⟩)
  · exact .inr h
mutual
theorem Den.tV {T:dW} {K:PySem.W.Frag} {H H':Hp} (e:aJ T H H'):∀ {v:V} {d:PyData},Den K H v d→Den K H' v d
  | _,_,.non=>.non
  | _,_,.bl b=>.bl b
  | _,_,.int i=>.int i
  | _,_,.str x=>.str x
  | _,_,.list h hs=>.list (e.seq h) (cW.tV e hs)
  | _,_,.tuple h hs=>.tuple (e.qw h) (cW.tV e hs)
theorem cW.tV {T:dW} {K:PySem.W.Frag} {H H':Hp} (e:aJ T H H'):∀ {vs:List V} {ds:List PyData},cW K H vs ds→cW K H' vs ds
  | _,_,.nil=>.nil
  | _,_,.cons h hs=>.cons (Den.tV e h) (cW.tV e hs)
end
def Ah (T:dW) (H:Hp) (P:List V→Prop) (Q:VK):Prop:=∀ (l:Addr) (H':Hp) (xs:List V),aJ T H H'→H l=none→H' l=some (.lst xs)→P xs→Q (.ref l) H'
def jE:HO→Bool
  | .tbl _=>false
  | .ext _=>false
  | _=>true
structure Ow (T:dW) (H0 H:Hp) (L:List (Addr × HO)):Prop where
  same:aJ T H0 H
  new:∀ p∈L,H0 p.1=none
  at_:∀ p∈L,H p.1=some p.2
  pl:∀ p∈L,jE p.2=true
  nd:(L.map (·.1)).Nodup
section
variable {T:dW} {H0 H1 H H':Hp} {L L':List (Addr × HO)} {a l:Addr} {o o':HO} {xs:List V}
theorem Ow.refl (t:TabsOk T H):Ow T H H []:=⟨aJ.refl t,(fun p hp=>nomatch hp),(fun p hp=>nomatch hp),(fun p hp=>nomatch hp),List.nodup_nil⟩
theorem Ow.SM (H:Hp):Ow [] H H []:=Ow.refl (TabsOk.nil H)
theorem Ow.get (O:Ow T H0 H L) (k:Nat) (h:L[k]?=some (a,o):=by rfl):H a=some o:=O.at_ _ (List.mem_of_getElem? h)
theorem Ow.fr (O:Ow T H0 H L) (k:Nat) (h:L[k]?=some (a,o):=by rfl):H0 a=none:=O.new _ (List.mem_of_getElem? h)
theorem Ow.sq {K:PySem.W.Frag} (O:Ow T H0 H L) (k:Nat) (h:L[k]?=some (a,.lst xs):=by rfl):SqL K H a xs:=SqL.of (O.get k h)
theorem Ow.sqT {K:PySem.W.Frag} (O:Ow T H0 H L) (k:Nat) (h:L[k]?=some (a,.tup xs):=by rfl):SqT K H a xs:=SqT.of (O.get k h)
theorem TabOk.upd {P:Addr} {pos:Pos} {q:Str} (t:TabOk P pos q H) (h:H a=none∨∃ o,H a=some o∧jE o=true):TabOk P pos q (L2.upd H a o'):=by
  have ne:∀ b u,H b=some u→jE u=false→b≠a:=fun b u e p z=>by
    subst z
    rcases h with h | ⟨o,h,ho⟩
    · rw [h] at e;cases e
    · rw [h] at e;cases e;rw [ho] at p;cases p
  rcases t with e | ⟨c,e1,e2⟩
  · exact .inl (by rw [bh (ne _ _ e rfl)];exact e)
  · exact .inr ⟨c,by rw [bh (ne _ _ e1 rfl)];exact e1,by rw [bh (ne _ _ e2 rfl)];exact e2⟩
theorem aJ.upd (s:aJ T H0 H) (h:H0 a=none) (h':H a=none∨∃ o,H a=some o∧jE o=true):aJ T H0 (L2.upd H a o') :=
  ⟨s.t0,fun t ht=>(s.t1 t ht).upd h',fun b u e n=>by rw [bh (cZ e h)];exact s.keep b u e n,fun b ps e=>by rw [bh (cZ e h)];exact s.tb b ps e⟩
theorem Ow.mk' (O:Ow T H0 H L) (h:H a=none) (ho:jE o=true):Ow T H0 (upd H a o) ((a,o) :: L):=by
  have ne:∀ p∈L,p.1≠a:=fun p hp=>cZ (O.at_ p hp) h
  have n0:H0 a=none:=O.same.free h
  refine ⟨O.same.upd n0 (.inl h),fun p hp=>?_,fun p hp=>?_,fun p hp=>?_,?_⟩
  · rcases List.mem_cons.mp hp with e | e
    · rw [e];exact n0
    · exact O.new p e
  · rcases List.mem_cons.mp hp with e | e
    · rw [e];exact dO
    · rw [bh (ne p e)];exact O.at_ p e
  · rcases List.mem_cons.mp hp with e | e
    · rw [e];exact ho
    · exact O.pl p e
  · rw [List.map_cons,List.nodup_cons]
    refine ⟨fun hm=>?_,O.nd⟩
    obtain ⟨p,hp,e⟩:=List.mem_map.mp hm
    exact ne p hp e
theorem wU:∀ {L:List (Addr × HO)} {k:Nat} {a:Addr} {o o':HO},L[k]?=some (a,o)→(L.set k (a,o')).map (·.1)=L.map (·.1)
  | [],_,_,_,_,h=>by simp at h
  | p :: L,0,a,o,o',h=>by
    have:p=(a,o):=by simpa using h
    rw [this];rfl
  | p :: L,k + 1,a,o,o',h=>by
    rw [List.set_cons_succ,List.map_cons,List.map_cons,wU (L:=L) (k:=k) (o:=o) (by simpa using h)]
theorem Ow.J4 (O:Ow T H0 H L) (k:Nat) (h:L[k]?=some (a,o)) (ho:jE o'=true):Ow T H0 (upd H a o') (L.set k (a,o')):=by
  have hm0:=List.mem_of_getElem? h
  have n0:H0 a=none:=O.new _ hm0
  have hk:k<L.length:=(List.getElem?_eq_some_iff.mp h).1
  refine ⟨O.same.upd n0 (.inr ⟨o,O.at_ _ hm0,O.pl _ hm0⟩),fun p hp=>?_,fun p hp=>?_,fun p hp=>?_,by rw [wU h];exact O.nd⟩
  · rcases List.mem_or_eq_of_mem_set hp with e | e
    · exact O.new p e
    · rw [e];exact n0
  · obtain ⟨j,hj,e⟩:=List.getElem_of_mem hp
    by_cases hjk:j=k
    · subst hjk
      rw [List.getElem_set_self] at e
      rw [← e];exact dO
    · rw [List.getElem_set_ne (Ne.symm hjk)] at e
      have hj':j<L.length:=by rw [List.length_set] at hj;exact hj
      have hm:p∈L:=by rw [← e];exact List.getElem_mem hj'
      rw [bh]
      · exact O.at_ p hm
      · intro z
        have e1:(L.map (·.1))[j]?=some p.1:=by rw [List.getElem?_map,List.getElem?_eq_getElem hj',e];rfl
        have e2:(L.map (·.1))[k]?=some a:=by rw [List.getElem?_map,h];rfl
        rw [z] at e1
        obtain ⟨a1,a2⟩:=List.getElem?_eq_some_iff.mp e1
        obtain ⟨b1,b2⟩:=List.getElem?_eq_some_iff.mp e2
        exact hjk ((List.getElem_inj O.nd).mp (a2.trans b2.symm))
  · rcases List.mem_or_eq_of_mem_set hp with e | e
    · exact O.pl p e
    · rw [e];exact ho
theorem xu {o:HO} (h:jE o=true):∀ ps,o≠.tbl ps:=fun ps z=>by rw [z] at h;cases h
theorem Ow.jg (O:Ow T H0 H L) (s:aJ T H H'):Ow T H0 H' L:=⟨O.same.trans s,O.new,fun p hp=>s.keep _ _ (O.at_ p hp) (xu (O.pl p hp)),O.pl,O.nd⟩
theorem Ow.Ly (O:Ow T H0 H L) (s:aJ T H H') (n:H l=none) (h:H' l=some o) (ho:jE o=true):Ow T H0 H' ((l,o) :: L):=by
  have O2:=O.jg s
  refine ⟨O2.same,fun p hp=>?_,fun p hp=>?_,fun p hp=>?_,?_⟩
  · rcases List.mem_cons.mp hp with e | e
    · rw [e];exact O.same.free n
    · exact O.new p e
  · rcases List.mem_cons.mp hp with e | e
    · rw [e];exact h
    · exact O2.at_ p e
  · rcases List.mem_cons.mp hp with e | e
    · rw [e];exact ho
    · exact O.pl p e
  · rw [List.map_cons,List.nodup_cons]
    refine ⟨fun hm=>?_,O.nd⟩
    obtain ⟨p,hp,e⟩:=List.mem_map.mp hm
    exact cZ (O.at_ p hp) n e
theorem Ow.more (O:Ow T H0 H L) (s:Same H H') (n:H l=none) (h:H' l=some o) (ho:jE o=true):Ow T H0 H' ((l,o) :: L):=O.Ly (aJ.of O.same.t1 s) n h ho
theorem Ow.sub (O:Ow T H0 H L) (h:L'.Sublist L):Ow T H0 H L':=⟨O.same,fun p hp=>O.new p (h.subset hp),fun p hp=>O.at_ p (h.subset hp),fun p hp=>O.pl p (h.subset hp),O.nd.sublist (h.map _)⟩
theorem Ow.perm (O:Ow T H0 H L) (h:L'.Perm L):Ow T H0 H L':=⟨O.same,fun p hp=>O.new p (h.mem_iff.mp hp),fun p hp=>O.at_ p (h.mem_iff.mp hp),fun p hp=>O.pl p (h.mem_iff.mp hp),(h.map _).nodup_iff.mpr O.nd⟩
theorem Ow.tail {p:Addr × HO} (O:Ow T H0 H (p :: L)):Ow T H0 H L:=O.sub (List.sublist_cons_self _ _)
theorem Ow.reb (O:Ow T H0 H L):∃ H1,Ow T H1 H L∧aJ T H0 H1∧∀ b o,H b=some o→(∀ p∈L,p.1≠b)→H1 b=some o:=by
  have keep:∀ b u,H b=some u→(∀ p∈L,p.1≠b)→(fun b=>if b∈L.map (·.1) then none else H b:Hp) b=some u:=fun b u e h=>by
    show (if b∈L.map (·.1) then none else H b)=some u
    rw [if_neg fun hm=>?_];· exact e
    obtain ⟨p,hp,z⟩:=List.mem_map.mp hm
    exact h p hp z
  have back:∀ b u,(fun b=>if b∈L.map (·.1) then none else H b:Hp) b=some u→H b=some u:=fun b u e=>by
    dsimp only at e
    split at e
    · cases e
    · exact e
  have npl:∀ b u,H b=some u→jE u=false→∀ p∈L,p.1≠b:=fun b u e h p hp z=>by
    have:=O.at_ p hp
    rw [z,e] at this
    have e':u=p.2:=Option.some.inj this
    rw [e',O.pl p hp] at h;cases h
  have tk:TabsOk T (fun b=>if b∈L.map (·.1) then none else H b):=fun t ht=>by
    rcases O.same.t1 t ht with e | ⟨c,e1,e2⟩
    · exact .inl (keep _ _ e (npl _ _ e rfl))
    · exact .inr ⟨c,keep _ _ e1 (npl _ _ e1 rfl),keep _ _ e2 (npl _ _ e2 rfl)⟩
  refine ⟨fun b=>if b∈L.map (·.1) then none else H b,⟨⟨tk,O.same.t1,fun b u e _=>back b u e,fun b ps e=>⟨ps,back _ _ e⟩⟩,fun p hp=>?_,O.at_,O.pl,O.nd⟩,⟨O.same.t0,tk,fun b u e n=>?_,fun b ps e=>?_⟩,keep⟩
  · exact if_pos (List.mem_map.mpr ⟨p,hp,rfl⟩)
  · refine keep b u (O.same.keep b u e n) fun p hp z=>?_
    rw [← z,O.new p hp] at e;cases e
  · obtain ⟨ps',e'⟩:=O.same.tb b ps e
    exact ⟨ps',keep _ _ e' (npl _ _ e' rfl)⟩
theorem jT {i:Int} {j:Nat} {v:V} {Q:Hp→Prop} (O:Ow T H0 H L) (k:Nat) (h:L[k]?=some (l,.lst xs)) (hi:ixN xs.length i=some j) (q:∀ H',Ow T H0 H' (L.set k (l,.lst (xs.set j v)))→Q H'):K8 (.ref l) (.int i) v H Q :=
  ⟨l,xs,i,j,rfl,rfl,O.get k h,hi,q _ (O.J4 k h rfl)⟩
theorem pX {Q:VK} (O:Ow T H0 H L) (k:Nat) (h:L[k]?=some (l,.lst xs)) (q:∀ H',Ow T H0 H' (L.set k (l,.lst []))→Q .non H'):Az (.ref l) [] H Q :=
  ⟨l,xs,rfl,rfl,O.get k h,q _ (O.J4 k h rfl)⟩
theorem Ow.ret {P:List V→Prop} {Q:VK} (O:Ow T H0 H L) (k:Nat) (h:L[k]?=some (l,.lst xs)) (q:Ah T H0 P Q) (p:P xs):Q (.ref l) H:=q l H xs O.same (O.fr k h) (O.get k h) p
theorem Ow.got {P:List V→Prop} {Q:VK} (O:Ow T H0 H L) (k:∀ l H' xs,Ow T H0 H' ((l,.lst xs) :: L)→P xs→Q (.ref l) H'):Vx H P Q:=fun l H' xs s n h p=>k l H' xs (O.more s n h rfl) p
theorem Ow.U8 {P:List V→Prop} {Q:VK} (O:Ow T H0 H L) (k:∀ l H' xs,Ow T H0 H' ((l,.lst xs) :: L)→P xs→Q (.ref l) H'):Ah T H P Q:=fun l H' xs s n h p=>k l H' xs (O.Ly s n h rfl) p
end
end L2
namespace L2
open PySem PySem.W PySem.Spec PyProof.Rows
theorem szl {n:Nat} (h:Nat.ble n 100000=true:=by rfl):n≤sizeLine:=m6 (Nat.le_of_ble_eq_true h)
theorem Kp (p:Int) (ns:List Int):inV (.int p) (ns.map V.int)=decide (p∈ns):=by
  unfold inV
  rw [List.any_map,Bool.eq_iff_iff]
  simp only [List.any_eq_true,decide_eq_true_eq]
  constructor
  · rintro ⟨x,hx,e⟩
    have e':(x == p)=true:=e
    have:x=p:=by simpa using e'
    rw [← this];exact hx
  · intro h
    exact ⟨p,h,show (p == p)=true by simp⟩
theorem yF (ns:List Int):(ns.map V.int).all qg=true:=by
  rw [List.all_map,List.all_eq_true];intro _ _;rfl
section
variable {X:Cx}
theorem nY:∀ ns ms:List Int,PyData.eqvAll (ns.map PyData.int) (ms.map PyData.int)=decide (ns=ms)
  | [],[]=>by simp [PyData.eqvAll]
  | [],_ :: _=>by simp [PyData.eqvAll]
  | _ :: _,[]=>by simp [PyData.eqvAll]
  | n :: ns,m :: ms=>by
    rw [List.map_cons,List.map_cons,PyData.eqvAll,nY ns ms]
    have e:PyData.eqv (.int n) (.int m)=decide (n=m):=by
      rw [PyData.eqv];rfl
    rw [e,Bool.eq_iff_iff]
    simp
theorem vd (ns ms:List Int):PyData.eqv (yL ns) (yL ms)=decide (ns=ms):=by
  unfold yL
  rw [PyData.eqv];exact nY ns ms
theorem Bd (hu:X.A.units + 64<cLine):OpR X (compareOp .Eq) (Vk X.K false):=by
  intro pins s σ H x y v u Q I rx ry h
  obtain ⟨a,b,ns,ms,rfl,rfl,ha,hb,q⟩:=h
  refine xV hu pins s σ H _ _ v u Q I rx ry ⟨_,_,Den.ints ha,Den.ints hb,(Sh.ints 0 ns).ok (by decide),(Sh.ints 0 ms).ok (by decide),?_⟩
  rw [vd];exact q
theorem xQ (hu:X.A.units + 64<cLine):OpR X (compareOp .NotEq) (Vk X.K true):=by
  intro pins s σ H x y v u Q I rx ry h
  obtain ⟨a,b,ns,ms,rfl,rfl,ha,hb,q⟩:=h
  refine lQ hu pins s σ H _ _ v u Q I rx ry ⟨_,_,Den.ints ha,Den.ints hb,(Sh.ints 0 ns).ok (by decide),(Sh.ints 0 ms).ok (by decide),?_⟩
  rw [vd];exact q
end
section
variable {T:dW} {H0 H:Hp} {L:List (Addr × HO)} {l:Addr} {xs:List V}
theorem Ow.mkE {a:Addr} {o:HO} {H':Hp} (O:Ow T H0 H L) (h:H a=none) (e:upd H a o=H') (ho:jE o=true):Ow T H0 H' ((a,o) :: L):=e ▸ O.mk' h ho
theorem Ow.mV {a:Addr} {o o':HO} {H':Hp} (O:Ow T H0 H L) (k:Nat) (h:L[k]?=some (a,o)) (e:upd H a o'=H') (ho:jE o'=true):Ow T H0 H' (L.set k (a,o')):=e ▸ O.J4 k h ho
end
def dMv (m:Int × Int × Int):PyData:=.tuple [.int m.1,.int m.2.1,.int m.2.2]
def dMvs (ms:List (Int × Int × Int)):PyData:=.list (ms.map dMv)
theorem Sh.mv (n:Nat) (m:Int × Int × Int):Sh (n + 1) (dMv m):=.tuple fun d hd=>by
  simp at hd
  rcases hd with e | e | e <;> (rw [e];exact .int _ _)
theorem Sh.mvs (n:Nat) (ms:List (Int × Int × Int)):Sh (n + 2) (dMvs ms):=.list fun d hd=>by
  obtain ⟨m,_,rfl⟩:=List.mem_map.mp hd
  exact .mv n m
end L2
namespace L2
open PySem PySem.W PySem.Spec PySem.Calls PyProof.Rows PySem.Builtin PySem.Builtin.ObjectAttr PySem.Builtin.Getset_descriptor
section
variable {prog:Program} {w:World} {A:Around} {E:Value→Shared→Prop} {K:Frag} {e D:Addr} {hh:Heap} {g:Array GenState} {d:Drawn} {t:Nat} {os:OsState}
structure XCls (K:Frag) (D:Addr):Prop where
  ga:findIn K (.ref D) "__getattribute__"=some (some (.builtin "BaseException.__getattribute__"))
  gt:findIn K (.ref D) "__getattr__"=some none
  at_:findIn K (.ref D) "__class__"=some (some (.builtin "object.__class__"))
  sp:specialIn K (.builtin "object.__class__") "__get__"=some (some (.builtin "getset_descriptor.__get__"))
  tk:takesIn K (.builtin "object.__class__")=some true
  mo:mroIn K D (.type "object")=some true
  mb:mroIn K D (.type "BaseException")=some true
  cl:(clsIn K D).isSome=true
def XAt (e D:Addr) (h:Heap):Prop:=∃ o,h.get? e=some o∧o.cls=.ref D
theorem KY {M:Model} {h:Heap} (x:XAt e D h):Looks M h (typeOf (.ref e)) (.ref D):=by
  obtain ⟨o,h1,h2⟩:=x
  rw [← h2]
  exact (Looks.ld h1).andThen .now
end
end L2
namespace L2
open PySem PySem.W PySem.Spec PySem.Calls PyProof.Rows
theorem iD.obj {P:Program} {w:World} {H:Hp} {h:Heap} {a:Addr} {o:HO} (x:iD P w H h a o):∃ ob,h.get? a=some ob:=by
  cases o with
  | lst xs=>obtain ⟨_,_,_,_,e⟩:=x;exact ⟨_,e⟩
  | tup xs=>obtain ⟨_,_,_,o,e,_⟩:=x;exact ⟨_,e⟩
  | dK kvs=>obtain ⟨_,_,_,_,o,_,_,e,_⟩:=x;exact ⟨_,e⟩
  | dT kvs=>obtain ⟨_,_,_,_,o,_,_,e,_⟩:=x;exact ⟨_,e⟩
  | set S n=>obtain ⟨o,_,_,_,e,_⟩:=x;exact ⟨_,e⟩
  | ins C dx fs=>obtain ⟨_,_,_,e,_⟩:=x;exact ⟨_,e⟩
  | own y=>exact x
  | xd fs=>obtain ⟨_,⟨_,_,_,e,_⟩,_⟩:=x;exact ⟨_,e⟩
  | rng lo hi=>obtain ⟨_,_,_,e⟩:=x;exact ⟨_,e⟩
  | frz ob u=>obtain ⟨e,_⟩:=x;exact ⟨_,e⟩
  | tbl ps=>exact ⟨_,x⟩
  | met f y=>exact ⟨_,x⟩
  | ext φ=>obtain ⟨_,e,_⟩:=x;exact e
structure Fly (P:Program) (w:World) (B:Heap) (fs:List Addr) (H:Hp) (h0:Heap) (H':Hp) (h:Heap):Prop where
  un:Un fs [] H H' h0 h
  hok:HOk P w H' h
  old:∀ b o,h0.get? b=some o→b ∉ fs→∃ o',B.get? b=some o'∧(H b=none→o'=o)
  trk:∀ b u,H' b=some u→∃ o,h.get? b=some o∧B.get? b=some o
section
variable {P:Program} {w:World} {B h0 h h2:Heap} {fs:List Addr} {H H':Hp}
theorem Fly.on (x:Fly P w B fs H h0 H' h) (sb:B.StaysIn h2) (sm:∀ b∈fs,∀ o,h.get? b=some o→∃ sl,h2.get? b=some { o with slots:=sl }):Fly P w B fs H h0 H' h2:=by
  have kp:∀ b o,h0.get? b=some o→H b=none→b ∉ fs→h2.get? b=some o:=fun b o q n hb=>by
    obtain ⟨o',e,k⟩:=x.old b o q hb
    rw [← k n];exact sb b o' e
  have sl:∀ b o,h0.get? b=some o→H b=none→b∈fs→∃ s,h2.get? b=some { o with slots:=s }:=fun b o q n hb=>by
    obtain ⟨s1,e1⟩:=x.un.slot b o q n hb (by simp)
    obtain ⟨s2,e2⟩:=sm b hb _ e1
    exact ⟨s2,e2⟩
  refine ⟨⟨fun b o q n hb _=>kp b o q n hb,fun b o q n hb _=>sl b o q n hb,x.un.free,fun b o q _=>?_,x.un.tups,x.un.frzs,x.un.tbls⟩,fun a u e=>?_,x.old,fun b u e=>?_⟩
  · by_cases hb:b∈fs
    · obtain ⟨o1,e1⟩:=x.un.there b o q (by simp)
      obtain ⟨s2,e2⟩:=sm b hb _ e1
      exact ⟨_,e2⟩
    · obtain ⟨o',e,_⟩:=x.old b o q hb
      exact ⟨o',sb b o' e⟩
  · refine (x.hok a u e).stay (fun b v hb q=>?_) (fun _ q=>q) fun _ _ q=>q
    have tr:∃ u',H' b=some u':=by
      rcases hb with z | z
      · exact ⟨u,by rw [z];exact e⟩
      · exact ⟨_,z⟩
    obtain ⟨u',e'⟩:=tr
    obtain ⟨o,e1,e2⟩:=x.trk b u' e'
    rw [q] at e1;cases e1
    exact sb b v e2
  · obtain ⟨o,e1,e2⟩:=x.trk b u e
    exact ⟨o,sb b o e2,e2⟩
end
def CXE (P:Program) (w:World):CXT:=fun outer H s E e s'=>∃ (ea t C:Addr) (B:Heap) (H':Hp),e=.ref ea∧s'.os=s.os∧AllBare s'.gens∧Fly P w B (frs outer) H s.heap H' s'.heap∧Heap.FlyingW B outer ea (.ref C) (.ref t) s'.heap ∧
  s.heap.get? ea=none∧H' ea=none∧E (.ref C) (some ea) H'
theorem qe {env:Env} {l:List Env} {L:Addr} (hf:env.frame=some L):frs (env :: l)=L :: frs l:=by unfold frs;rw [List.filterMap_cons,hf]
theorem Mj {l:List Env}:∀ env∈l,∀ b,env.frame=some b→b∈frs l:=fun env he b hb=>List.mem_filterMap.mpr ⟨env,he,hb⟩
theorem jM {B h:Heap} {l:List Env} {h2:Heap} (f:h.FunFrames B l) (sm:h.UpToSlots h2):∀ b∈frs l,∀ o,h.get? b=some o→∃ sl,h2.get? b=some { o with slots:=sl }:=fun b hb o e=>by
  obtain ⟨_,o',e',d⟩:=f.mem hb
  rw [e] at e';cases e'
  exact sm b o e d
section
variable {X:Cx} {pins:List (Addr × Obj)} {σ:St} {H:Hp} {s:Shared} {E:XK}
structure Body (X:Cx):Prop where
  st:X.stack=X.env :: X.outer
  fr:X.env.frame=some X.env.locals
  ex:X.ex=[]
theorem Inv.tU (I:Inv X pins σ H s) (hB:Body X) {b:Addr} {o:Obj} (e:X.s₀.heap.get? b=some o) (hb:b ∉ frs X.outer):b ∉ frs X.stack:=by
  rw [hB.st,qe hB.fr]
  intro hm
  rcases List.mem_cons.mp hm with z | z
  · exact absurd (Heap.lt_size e) (by rw [z];exact Nat.not_lt.mpr I.ok.above)
  · exact hb z
theorem qX {e C:Addr} {args:List Value} {h':Heap} {F:Value→Shared→Prop} (hB:Body X) (I:Inv X pins σ H s) (hm:Heap.MadeExcOf s.heap h' e (.ref C) args) (hE:H e=none→E (.ref C) (some e) H) :
    wpAny (model X.prog X.w) X.A (leaving X.env (.ref e)) (fun _ s''=>CXE X.prog X.w X.outer X.H₀ X.s₀ E (.ref e) s'') F { s with heap:=h' }:=by
  have hfr:X.A.frames=some (X.env :: X.outer):=by rw [← hB.st];exact I.ok.frames
  have stk:=I.stack
  have hl:s.heap.FunFrames (hideAll s.heap (frs X.stack)) (X.env :: X.outer):=by
    have:=funFrames_hide stk Mj
    rw [hB.st] at this ⊢;exact this
  have hne:∀ b o,s.heap.get? b=some o→b ∉ frs X.stack→(hideAll s.heap (frs X.stack)).get? b=some o:=fun b o q n=>hideAll_get _ q n
  have htr:∀ b u,H b=some u→∃ o,s.heap.get? b=some o∧(hideAll s.heap (frs X.stack)).get? b=some o:=fun b u q=>by
    obtain ⟨o,eo⟩:=(I.hok b u q).obj
    exact ⟨o,eo,hne b o eo fun z=>by rw [I.sG b z] at q;cases q⟩
  have hnx:∀ b:Addr,b ∉ X.ex:=fun b=>by rw [hB.ex];simp
  refine wpAny_leaves_madeW (base:=hideAll s.heap (frs X.stack)) (h:=s.heap) hfr hB.fr (fun b o q=>of_hideAll _ q) hl hm fun h2 t fl _ _ sm=>?_
  have F0:Fly X.prog X.w (hideAll s.heap (frs X.stack)) (frs X.outer) X.H₀ X.s₀.heap H s.heap:=by
    refine ⟨?_,I.hok,fun b o q n=>?_,htr⟩
    · have u:=I.base
      rw [hB.ex] at u
      exact u
    · obtain ⟨o',e'⟩:=I.base.there b o q (hnx b)
      refine ⟨o',hne b o' e' (I.tU hB q n),fun z=>?_⟩
      have:=I.base.keep b o q z n (hnx b)
      rw [e'] at this;exact Option.some.inj this
  have F1:=F0.on (h2:=h2) fl.1 fun b hb o q=>by
    have hb':b∈frs X.stack:=by rw [hB.st,qe hB.fr];exact List.mem_cons_of_mem _ hb
    obtain ⟨_,o',e',d⟩:=stk.mem hb'
    rw [q] at e';cases e'
    exact sm b o (hm.keeps b o q) d
  have he0:H e=none:=by
    cases q:H e with
    | none=>rfl
    | some u =>
      obtain ⟨o,eo⟩:=(I.hok e u q).obj
      rw [hm.new] at eo;cases eo
  refine ⟨e,t,C,_,H,rfl,I.os,I.bare,F1,fl,?_,he0,hE he0⟩
  · cases q:X.s₀.heap.get? e with
    | none=>rfl
    | some o =>
      obtain ⟨o',e'⟩:=I.base.there e o q (hnx e)
      rw [hm.new] at e';cases e'
theorem ud {e:Value} {s':Shared} {F:Value→Shared→Prop} (hB:Body X) (I:Inv X pins σ H s) (h:CXE X.prog X.w X.stack H s E e s') :
    wpAny (model X.prog X.w) X.A (leaving X.env e) (fun _ s''=>CXE X.prog X.w X.outer X.H₀ X.s₀ E e s'') F s':=by
  obtain ⟨ea,t,C,B,H',rfl,os,bare,fl,fy,new,nh,hE⟩:=h
  have hfr:X.A.frames=some (X.env :: X.outer):=by rw [← hB.st];exact I.ok.frames
  have hnx:∀ b:Addr,b ∉ X.ex:=fun b=>by rw [hB.ex];simp
  rw [hB.st] at fy
  refine wpAny_leaves_onW hfr hB.fr fy fun h2 fy2 sm=>?_
  have sub:∀ b,b∈frs X.outer→b∈frs X.stack:=fun b hb=>by rw [hB.st,qe hB.fr];exact List.mem_cons_of_mem _ hb
  have F0:Fly X.prog X.w B (frs X.outer) X.H₀ X.s₀.heap H' s'.heap:=by
    refine ⟨⟨fun b o q n hb _=>?_,fun b o q n hb _=>?_,fun b o q n _=>?_,fun b o q _=>?_,fun b xs q=>fl.un.tups b xs (I.base.tups b xs q),fun b o u q=>fl.un.frzs b o u (I.base.frzs b o u q),fun b ps q=>?_⟩,fl.hok,fun b o q n=>?_,fl.trk⟩
    · have e1:=I.base.keep b o q n hb (hnx b)
      exact fl.un.keep b o e1 (I.base.free b o q n (hnx b)) (I.tU hB q hb) (by simp)
    · obtain ⟨s1,e1⟩:=I.base.slot b o q n hb (hnx b)
      obtain ⟨s2,e2⟩:=fl.un.slot b _ e1 (I.base.free b o q n (hnx b)) (sub b hb) (by simp)
      exact ⟨s2,e2⟩
    · obtain ⟨o',e'⟩:=I.base.there b o q (hnx b)
      exact fl.un.free b o' e' (I.base.free b o q n (hnx b)) (by simp)
    · obtain ⟨o',e'⟩:=I.base.there b o q (hnx b)
      exact fl.un.there b o' e' (by simp)
    · obtain ⟨m1,e1⟩:=I.base.tbls b ps q
      obtain ⟨m2,e2⟩:=fl.un.tbls b _ e1
      exact ⟨m1++m2,by rw [e2,Array.append_assoc]⟩
    · obtain ⟨o',e'⟩:=I.base.there b o q (hnx b)
      obtain ⟨o2,e2,k⟩:=fl.old b o' e' (I.tU hB q n)
      refine ⟨o2,e2,fun z=>?_⟩
      rw [k (I.base.free b o q z (hnx b))]
      have:=I.base.keep b o q z n (hnx b)
      rw [e'] at this;exact Option.some.inj this
  have F1:=F0.on (h2:=h2) fy2.1 fun b hb o q=>by
    obtain ⟨_,o',e',d⟩:=fy.2.2.1.mem (by rw [hB.st] at sub;exact sub b hb)
    rw [q] at e';cases e'
    exact sm b o q d
  refine ⟨ea,t,C,B,H',rfl,os.trans I.os,bare,F1,fy2,?_,nh,hE⟩
  cases q:X.s₀.heap.get? ea with
  | none=>rfl
  | some o =>
    obtain ⟨o',e'⟩:=I.base.there ea o q (hnx ea)
    rw [new] at e';cases e'
end
section
variable {P:Program} {w:World} {K:PySem.W.Frag} {mg:Str→Option Value} {base:Heap} {N:List Str} {qual:Str} {scope:Scope} {f:Addr} {cd:Value} {A:Around} {outer:List Env} {s:Shared} {H:Hp} {E:XK}
theorem gW {CX:CXT}:Body (zc CX P w K mg base N qual scope f cd A outer s H E):=⟨rfl,rfl,rfl⟩
theorem iM:Passes (CXE P w) (zc (CXE P w) P w K mg base N qual scope f cd A outer s H E) E:=fun _ _ _ _ _ _ I h=>ud gW I h
theorem Fun.okX {x:Str} {st:Stmt} {fd:FuncData} {ps:List Str} {k:Nat} {sp:Sp} (F:Fun K x qual st f fd) (S:aM N ps (ak st)) (len:∀ vs H Q E,sp vs H Q E→vs.length=ps.length)
    (hbody:∀ (cdv:Value) (A:Around) (outer:List Env) (s:Shared) (H:Hp) (vs:List V) (Q:VK) (E:XK),mC k (A.deeper (envOfC qual (ak st) s.heap.objs.size f cdv))→sp vs H Q E →
      ∃ t,PSs (zc (CXE P w) P w K mg base N qual (ak st) f cdv A outer s H E) (aB st) t∧t { nx:=fun _ H'=>Q .non H',rt:=Q } (start N vs) H):bF P w K mg base (CXE P w) (k + 1) f fd ps sp:=by
  obtain ⟨oc,od,kV,doc,pm,an,cdv,ct,osl,rfl,lk,hcd⟩:=F.ex
  exact Ks lk hcd S len fun A outer s H vs Q E hr hsp=>hbody cdv A outer s H vs Q E hr hsp
end
end L2
namespace L2
open PySem PySem.W PySem.Spec PySem.Calls PyProof.Rows
abbrev vX:List Value:=[.type "ValueError",.type "Exception",.type "BaseException",.type "object"]
theorem Ku {K:Frag} {h:Heap} {C:Addr} (X:K.In h) (q:excIn K C vX "ValueError.__new__"=true) :
    ∃ bm N nm qn bs hdct sn sub ab col dd k0 k1 k2 k3 k5 mN,h.get? C=some (excClassObj nm qn C N bs bm hdct sn sub ab col dd k0 k1 k2 k3 k5 "ValueError.__new__")∧h.Ns N mN∧mN "__init__"=none∧OwnTail h vX bm:=by
  unfold excIn at q
  split at q
  · rename_i d1 c1 s1 look
    split at q
    · rename_i C1 bm1 a0 a1 a2 a3 n1 a5 m1 l1
      simp only [Bool.and_eq_true,beq_iff_eq,Bool.not_eq_true'] at q
      obtain ⟨⟨⟨⟨⟨e1,e2⟩,e3⟩,e4⟩,e5⟩,e6⟩:=q
      subst e1 e2
      obtain ⟨nm,bs,mro,ns,qn,hd,sn,sub,ab,col,del⟩:=c1
      dsimp only at m1 e3 e5 e6
      subst m1 e3
      have es:s1=#[a0,a1,a2,a3,some (.builtin "ValueError.__new__"),a5]:=by cases s1;simp only at l1;rw [l1]
      subst es
      exact ⟨bm1,ns,nm,qn,bs,hd,sn,sub,ab,col,d1,a0,a1,a2,a3,a5,_,X _ _ look,Heap.Ns.of_isNs (isNs_of_in X e5),nsMap_none_of_in X e5 e6,tail_of_in X e4⟩
    · cases q
  · cases q
def K3 (E:XK) (C:Addr) (ta:TA):TS:=fun _ σ H=>ta σ H fun vs H1=>vs.length≤sizeLine∧∀ e,H1 e=none→E (.ref C) (some e) H1
section
variable {X:Cx} {E:XK} {x:Str} {C:Addr} {np cpos pos:Pos} {e0:Expr} {ta:TA}
theorem gA (hB:Body X) (hc:X.calm=true) (hx:∀ e s',wpAny (model X.prog X.w) X.A (leaving X.env e) (fun _ s''=>CXE X.prog X.w X.outer X.H₀ X.s₀ E e s'') (fun e s''=>CXE X.prog X.w X.outer X.H₀ X.s₀ E e s'') s'→X.xe e s')
    (hg:Gl X x) (hm:X.mg x=some (.ref C)) (hq:excIn X.K C vX "ValueError.__new__"=true) (ha:PA X [e0] ta) (he:starEach [e0] X.env=[(false,eval e0 X.env)]:=by rfl) (hd:(x == ("__debug__":Str))=false:=by decide) :
    PS X (.Raise (some (.Call (.Name x np) [e0] [] cpos)) none pos) (K3 E C ta):=by
  intro pins s σ H D I h
  obtain ⟨bm,Nn,nm,qn,bs,hdct,sn,sub,ab,col,dd,k0,k1,k2,k3,k5,mN,hC,hN,hni,TL⟩:=Ku I.ok.mod.kin hq
  refine wpAny_Raise_call_subU (C:=C) (nm:=nm) (q:=qn) (N:=Nn) (bs:=bs) (bm:=bm) (hdct:=hdct) (sn:=sn) (sub:=sub) (ab:=ab) (col:=col) (dd:=dd) (k0:=k0) (k1:=k1) (k2:=k2) (k3:=k3) (k5:=k5) (mN:=mN) (newId:="ValueError.__new__")
    PySem.F.excBase_ValueError PySem.F.excBase_ValueError.hasB PySem.F.excBase_ValueError (TL.hasType PySem.F.excBase_ValueError.hasBase) (I.ok.hd hc) (by rw [he];rfl) hni ?_
  refine mq I hg hm ⟨rfl,?_⟩ hd
  have a:=ha cpos pins s σ H _ I h
  rw [he] at a ⊢
  refine Calls.evalArgs_plain (wpAny_mono a (fun us s1 ⟨vs,H1,I1,r1,hz,q1⟩=>?_) fun _ _ z=>z)
  exact ⟨rfl,by show us.length≤_;rw [← r1.length];exact hz,I1.bk _ _ hC,hN.keeps I1.bk,TL.keeps I1.bk,fun h' e mk=>hx _ _ (qX hB I1 mk (q1 e))⟩
end
end L2
namespace L2
open PySem PySem.W PySem.Spec PySem.Calls PyProof.Rows
def XS (X:Cx) (pins:List (Addr × Obj)) (Ex:St→XK) (ev:Value) (s':Shared):Prop:=∃ σ H s,Inv X pins σ H s∧CXE X.prog X.w X.stack H s (Ex σ) ev s'
def PEx (X:Cx) (e:Expr) (t:St→Hp→VK→XK→Prop):Prop :=
  ∀ (pins:List (Addr × Obj)) (s:Shared) (σ:St) (H:Hp) (Q:VK) (Ex:St→XK),Inv X pins σ H s→t σ H Q (Ex σ)→wpAny (model X.prog X.w) X.A (eval e X.env) (EP X pins σ Q) (XS X pins Ex) s
abbrev TX:=Ends→(St→XK)→St→Hp→Prop
def PSx (X:Cx) (st:Stmt) (t:TX):Prop :=
  ∀ (pins:List (Addr × Obj)) (s:Shared) (σ:St) (H:Hp) (D:Ends) (Ex:St→XK),Inv X pins σ H s→t D Ex σ H→wpAny (model X.prog X.w) X.A (exec st X.env) (SP X pins D) (XS X pins Ex) s
def Vy (X:Cx) (sts:List Stmt) (t:TX):Prop :=
  ∀ (pins:List (Addr × Obj)) (s:Shared) (σ:St) (H:Hp) (D:Ends) (Ex:St→XK),Inv X pins σ H s→t D Ex σ H→wpAny (model X.prog X.w) X.A (execs sts X.env) (SP X pins D) (XS X pins Ex) s
section
variable {X:Cx} {k:Nat} {f:Addr} {fd:FuncData} {ps:List Str} {sp:Sp} {dvs:List V} {ds:List Value} {x:Str} {p pos:Pos} {e:Expr} {es:List Expr} {t:TA}
def R6 (sp:Sp) (dvs:List V) (t:TA):St→Hp→VK→XK→Prop:=fun σ H Q Ex=>t σ H fun vs H1=>sp (vs++dvs) H1 Q Ex
theorem wj (F:bF X.prog X.w X.K X.mg X.base (CXE X.prog X.w) k f fd ps sp) (hr:mC k X.A) (hg:Gl X x) (hm:X.mg x=some (.ref f)) (hk:PySem.W.keepIn X.K (.ref f)=true) (hb:Binds X.K fd ps ds) (hd:Vals dvs ds)
    (ha:PA X.nox (e :: es) t) (hdb:(x == ("__debug__":Str))=false:=by decide) (he:starEach (e :: es) X.env=(false,eval e X.env) :: starEach es X.env:=by rfl) (hpl:(backTo pos (starEach es X.env)).any (·.1)=false:=by rfl) :
    PEx X (.Call (.Name x p) (e :: es) [] pos) (R6 sp dvs t):=by
  intro pins s σ H Q Ex I h
  refine wpAny_Call_Name_kw (mq I hg hm ?_ hdb)
  refine PySem.W.callWith_K (h₀:=X.base) I.ok.mod.kin hk (wpAny_mono (ha pos pins s σ H _ (I.wish _) h) (fun us s1 ⟨vs,H1,I1,r,q⟩=>?_) fun _ _ z=>z.elim) he hpl
  have I1:=I1.lK
  refine ⟨I1.kIn,?_⟩
  have r2:Vals (vs++dvs) (us++ds):=r.append hd
  have hl:(us++ds).length=ps.length:=by rw [← r2.length];exact F.len _ _ _ _ q
  refine wpAny_call (codeAny_mono (F.run X.A X.stack s1 H1 ⟨us,[]⟩ (us++ds) (vs++dvs) Q (Ex σ) hr I1.env0 (hb s1 us I1.kIn hl) r2 q) fun rr s' hq=>?_)
  cases rr with
  | error ev=>exact ⟨σ,H1,s1,I1,hq⟩
  | ok fl =>
    cases fl with
    | ret u=>exact I1.after hq
    | next=>exact False.elim hq
    | brk=>exact False.elim hq
    | cont=>exact False.elim hq
theorem wg {te:St→Hp→VK→XK→Prop} {pos:Pos} (he:PEx X e te) (hs:swapsWith e none pos.line X.env=pure false:=by rfl):PSx X (.Expr e pos) (fun D Ex σ H=>te σ H (fun _ H1=>D.nx σ H1) (Ex σ)):=by
  intro pins s σ H D Ex I h
  exact wpAny_Expr_any (wpAny_mono (he pins s σ H _ Ex I h) (fun v s1 ⟨x,H1,I1,r1,q1⟩=>⟨σ,H1,I1,q1⟩) fun _ _ z=>z) I.quiet hs
theorem v9 {st:Stmt} {tx:TX} (h:PSx X st tx):Vy X [st] tx:=by
  intro pins s σ H D Ex I hq
  refine wpAny_execs_cons (wpAny_mono (h pins s σ H D Ex I hq) (fun fl s1 q=>?_) fun _ _ z=>z)
  cases fl with
  | next=>exact wpAny_execs_nil q
  | ret v=>exact q
  | brk=>exact q
  | cont=>exact q
end
section
variable {X:Cx} {pins:List (Addr × Obj)} {σ:St} {H:Hp} {s:Shared}
def zq (X:Cx) (e:Addr):Cx:={ X with A:=X.A.mark (some (.ref e)),calm:=false,xe:=fun _ _=>False }
theorem Inv.sup (I:Inv X pins σ H s) (e:Addr):Inv (zq X e) pins σ H s :=
  ⟨⟨I.ok.mod,I.ok.kind,I.ok.glob,I.ok.blt,I.ok.above,I.ok.inj,I.ok.has,I.ok.cab,fun z=>(by cases z),I.ok.frames,I.ok.stk,I.ok.exf,I.ok.bs,I.ok.bsz,I.ok.noex,I.ok.exfs,I.ok.uZ,I.ok.frf⟩,I.os,I.bare,I.base,I.loc,I.cell,I.free,I.freeC,I.pin,I.hok,I.len⟩
theorem Inv.zm {e:Addr} (hc:X.calm=true→X.A.handled=none) (I:Inv (zq X e) pins σ H s):Inv X pins σ H s :=
  ⟨⟨I.ok.mod,I.ok.kind,I.ok.glob,I.ok.blt,I.ok.above,I.ok.inj,I.ok.has,I.ok.cab,hc,I.ok.frames,I.ok.stk,I.ok.exf,I.ok.bs,I.ok.bsz,I.ok.noex,I.ok.exfs,I.ok.uZ,I.ok.frf⟩,I.os,I.bare,I.base,I.loc,I.cell,I.free,I.freeC,I.pin,I.hok,I.len⟩
theorem Inv.RW {a:Addr} {o:HO} (I:Inv X pins σ H s) (hn:H a=none) (hL:a≠X.env.locals) (h0:X.s₀.heap.get? a=none) (hc:∀ x c,X.env.cells.lookup x=some c→c≠a) (hp:∀ p∈X.pn++pins,p.1≠a)
    (new:iD X.prog X.w (upd H a o) s.heap a o):Inv X pins σ (upd H a o) s:=by
  have ne:∀ b u,H b=some u→b≠a:=fun b u e=>cZ e hn
  refine ⟨I.ok,I.os,I.bare,⟨I.base.keep,I.base.slot,fun b ob e n hx=>?_,I.base.there,fun b xs e=>?_,fun b ob xs e=>?_,fun b ps e=>?_⟩,I.loc,I.cell,?_,fun x c e=>?_,fun p hq=>?_,fun b u e=>?_,I.len⟩
  · rw [bh fun z=>by rw [z,h0] at e;cases e];exact I.base.free b ob e n hx
  · have:=I.base.tups b xs e;rw [bh (ne b _ this)];exact this
  · have:=I.base.frzs b ob xs e;rw [bh (ne b _ this)];exact this
  · obtain ⟨m,e1⟩:=I.base.tbls b ps e;exact ⟨m,by rw [bh (ne b _ e1)];exact e1⟩
  · rw [bh hL.symm];exact I.free
  · rw [bh (hc x c e)];exact I.freeC x c e
  · obtain ⟨e1,n,r⟩:=I.pin p hq;exact ⟨e1,by rw [bh (hp p hq)];exact n,r⟩
  · by_cases hb:b=a
    · subst hb;rw [dO] at e;cases e;exact new
    · rw [bh hb] at e
      exact (I.hok b u e).stay (fun _ _ _ q=>q) (fun c q=>by rw [bh (ne c _ q)];exact q) fun c xs q=>by rw [bh (ne c _ q)];exact q
end
end L2
namespace L2
open PySem PySem.W PySem.Spec PySem.Calls PyProof.Rows
theorem J6 {X:Cx}:Passes (CXE X.prog X.w) X E0:=fun _ _ _ _ _ _ _ h=>by
  obtain ⟨_,_,_,_,_,_,_,_,_,_,_,_,hE⟩:=h
  exact hE.elim
theorem Lg {X:Cx} {x:Str} {C:Addr} {pos:Pos} (hg:Gl X x) (hm:X.mg x=some (.ref C)) (hd:(x == ("__debug__":Str))=false:=by decide):PE X (.Name x pos) (tC (.ref C)):=iK (v:=.ref C) hg hm rfl hd
structure m9 (K:PySem.W.Frag) (mg:Str→Option Value) (x:Str) (C:Addr):Prop where
  m:mg x=some (.ref C)
  q:excIn K C vX "ValueError.__new__"=true
  x:XCls K C
end L2
namespace L2
open PySem PySem.Spec PyProof.Rows
section
variable {X:Cx}
theorem Inv.pq {pins:List (Addr × Obj)} {σ:St} {H:Hp} {s:Shared} {h':Heap} {t':Nat} {ch:List Addr} (I:Inv X pins σ H s) (k:∀ b o,b ∉ ch→s.heap.get? b=some o→h'.get? b=some o) (f:∀ b∈ch,Aj X pins H b):Inv X pins σ H { s with heap:=h',toks:=t' }:=by
  have nit:∀ b u,H b=some u→b ∉ ch:=fun b u e z=>by rw [(f b z).1] at e;cases e
  refine I.step (g':=s.gens) (d':=s.drawn) (ch:=ch) (fun b hb=>?_) (fun b o _ _ hc e _=>k b o hc e) (fun b o _ _ hc e _=>⟨o.slots,k b o hc e⟩) (fun _ _ _ _ n=>n)
    (fun b o hc e=>⟨o,k b o hc e⟩) (fun _ _ e=>e) (fun _ _ _ e=>e) (fun b ps e=>⟨#[],by rw [e];simp⟩) (fun m hm=>?_) (fun b u e=>?_) I.bare
  · obtain ⟨f0,f1,f2,f3,f4,f5⟩:=f b hb
    exact ⟨f3,f1,f4,f5⟩
  · obtain ⟨o,es,ep,ho,r⟩:=hm
    exact ⟨o,es,ep,k _ o (fun z=>(f _ z).2.1 rfl) ho,r⟩
  · refine (I.hok b u e).stay (fun c v hc q=>k c v ?_ q) (fun _ q=>q) fun _ _ q=>q
    rcases hc with z | z
    · rw [z];exact nit b u e
    · exact nit c _ z
end
end L2
namespace L2
open PySem PySem.Spec PyProof.Rows
section
variable {X:Cx}
def Ite (K:PySem.W.Frag) (l:Addr) (xs:List V):It :=
  ⟨fun i H=>SqL K H l xs∧i<xs.length,fun i H x H'=>∃ T a,x=.ref T∧H T=none∧xs[i]?=some a∧H'=upd H T (.tup [.int (i:Int),a]),fun i H=>SqL K H l xs∧xs.length≤i⟩
def RZ (e it l:Addr) (i:Nat) (h:Heap):Prop:=(∃ old,IsEnum h e it i old)∧h.IsListIter it l i
theorem wu {P:Program} {w:World} {K:PySem.W.Frag} {elts:List Expr} {kk:Nat} {tpos:Pos} {e it l:Addr} {xs:List V} (hei:e≠it) :
    Turn P w K (.Tuple elts kk tpos) (Ite K l xs) [e,it] e (RZ e it l) where
  mem:=by simp
  obj:=fun i h st b hb=>by
    obtain ⟨⟨old,he⟩,⟨o1,e1,c1,d1⟩⟩:=st
    simp at hb
    rcases hb with rfl | rfl
    · exact ⟨_,he,fun v z=>by cases (show Data.fields _=Data.cell v from z)⟩
    · exact ⟨o1,e1,fun v z=>by rw [d1] at z;cases z⟩
  keep:=fun i h h' st k=>by
    obtain ⟨⟨old,he⟩,h1⟩:=st
    exact ⟨⟨old,k e (by simp) _ he⟩,h1.at fun o x=>k it (by simp) o x⟩
  item:=by
    intro X hP hw hK hc i pins s σ H E I hf st hg
    subst hP hw hK
    obtain ⟨⟨old,he⟩,h1⟩:=st
    obtain ⟨hq1,hi1⟩:=hg
    obtain ⟨its1,rv1,pl1,hz1⟩:=I.list hq1
    obtain ⟨u1,hu1,ru1⟩:=rv1.get (List.getElem?_eq_getElem hi1)
    refine wpAny_pyNext_enum_item he h1 pl1.isList (x:=u1) (by simpa using hu1) hei fun h' a1 a2 a3 a4 hk=>?_
    have lt:∀ {c o},s.heap.get? c=some o→s.heap.objs.size≠c:=fun e=>Nat.ne_of_gt (Heap.lt_size e)
    refine ⟨.ref s.heap.objs.size,rfl,wpAny_letOwnedTupleGo_enum (s:={ s with heap:=h',toks:=s.toks + 1 }) a1 fun h'' hz' hs'=>?_⟩
    have Tz:s.heap.objs.size≠e:=lt he
    have I1:Inv X pins σ H { s with heap:=h'',toks:=s.toks + 1 }:=I.pq (ch:=[e,it])
      (fun b o hb x=>hs'.extBut b o (fun z=>hb (by simp [z])) (hk b o (fun z=>hb (by simp [z])) (fun z=>hb (by simp [z])) x)) fun b hb=>hf b hb
    obtain ⟨F0,F1,F2,F3,F4,F5⟩:=I.JG (H':=H) (Nat.le_refl _) (I.hok.fresh (Nat.le_refl _))
    have hT:IsTup h'' s.heap.objs.size #[.int (i:Int) s.toks,u1]:=⟨_,hs'.extBut _ _ Tz a3,rfl,_,rfl⟩
    have I2:Inv X pins σ (upd H s.heap.objs.size (.tup [.int (i:Int),xs[i]])) { s with heap:=h'',toks:=s.toks + 1 }:=I1.adopt F0 F1 I.sz F4 F5 (show iD X.prog X.w _ h'' _ (.tup [.int (i:Int),xs[i]]) from ⟨by rw [sizeLine_eq];simp,[.int (i:Int) s.toks,u1],.cons ⟨_,rfl⟩ (.cons ru1 .nil),hT⟩)
    refine ⟨.ref s.heap.objs.size,_,I2,rfl,⟨_,_,rfl,F0,List.getElem?_eq_getElem hi1,rfl⟩,?_,fun b hb=>?_⟩
    · exact ⟨⟨_,by simpa using hz'⟩,a2.extBut hs'.extBut hei.symm⟩
    · rw [bh]
      · exact (hf b hb).1
      · simp at hb
        obtain ⟨o1,e1,_⟩:=h1
        rcases hb with rfl | rfl
        · exact (lt he).symm
        · exact (lt e1).symm
  done:=by
    intro X hP hw hK hc i pins s σ H E I hf st hg
    subst hP hw hK
    obtain ⟨⟨old,he⟩,h1⟩:=st
    obtain ⟨hq1,hend⟩:=hg
    obtain ⟨its1,rv1,pl1,hz1⟩:=I.list hq1
    have e1:=rv1.length
    exact wpAny_pyNext_enum_end (I.ok.hd hc) he h1 pl1.isList (by simp;omega) fun h' hk=>⟨rfl,I.pq (t':=s.toks) (ch:=[e,it])
      (fun b o hb x=>hk b o (fun z=>hb (by simp [z])) x) fun b hb=>hf b hb⟩
  self:=fun _ _ _ _ _ st h=>by
    obtain ⟨⟨old,he⟩,_⟩:=st
    exact wpAny_pyIter_enum he h
def Te (K:PySem.W.Frag) (ta:TA):TI:=fun σ H R=>ta σ H fun vs H1=>∃ l xs,vs=[.ref l]∧SqL K H1 l xs∧R (Ite K l xs) H1
theorem pR {elts:List Expr} {kk:Nat} {tpos:Pos} {a:Expr} {ta:TA} {p pos:Pos} (hg:Gl X "enumerate") (hm:X.mg "enumerate"=none) (ha:PA X [a] ta) (hs:starEach [a] X.env=[(false,eval a X.env)]:=by rfl) :
    PI X (.Tuple elts kk tpos) (.Call (.Name "enumerate" p) [a] [] pos) (Te X.K ta):=by
  intro pins s σ H R I h
  refine Call_ (nQ I hg hm boot_enumerate (PyProof.Rows.callWith_type1 (thn (ha pos pins s σ H _ I h) fun us s1 ⟨vs,H1,I1,r1,q1⟩=>?_) hs rfl))
  obtain ⟨l1,xs,e,hq1,q⟩:=q1
  subst e
  obtain ⟨u,rfl,ru⟩:=vals1 r1
  cases ru
  obtain ⟨its1,rv1,pl1,hz1⟩:=I1.list hq1
  refine call_enumerate_list pl1.isList fun h' a1 a2 a3 hk=>?_
  refine wpAny_pyIter_enum a1 ?_
  refine ⟨_,_,_,_,H1,rfl,I1.kept (t':=s1.toks) hk,wu (l:=l1) (xs:=xs) (it:=s1.heap.objs.size) (Nat.succ_ne_self _),⟨⟨_,a1⟩,a2⟩,fun b hb=>?_,q⟩
  have hb':s1.heap.objs.size≤b:=by
    simp at hb
    rcases hb with rfl | rfl <;> simp
  exact I1.JG hb' (I1.hok.fresh hb')
theorem u6 {K:PySem.W.Frag} {l:Addr} {xs:List V} {g:TG} {tb:TS} {D:Ends} {σ:St} {H:Hp} (Pv:Nat→St→Hp→Prop) (h0:Pv 0 σ H) (hl:∀ i σ H,i≤xs.length→Pv i σ H→SqL K H l xs)
    (hs:∀ i a T σ H,xs[i]?=some a→Pv i σ H→H T=none→g (.ref T) σ (upd H T (.tup [.int (i:Int),a])) fun σ2 H2=>tb { D with nx:=Pv (i + 1),ct:=Pv (i + 1),bk:=D.nx } σ2 H2) (hd:∀ σ H,Pv xs.length σ H→D.nx σ H) :
    ∃ W:Nat→Nat→St→Hp→Prop,(∃ m,W 0 m σ H)∧∀ i m σ H,W i m σ H →
      ((Ite K l xs).stop i H∧D.nx σ H)∨((Ite K l xs).go i H∧∃ N:St→Hp→Prop,(∀ σ' H',N σ' H'→∃ m',m'<m∧W (i + 1) m' σ' H')∧∀ x H',(Ite K l xs).yld i H x H'→g x σ H' fun σ2 H2=>tb { D with nx:=N,ct:=N,bk:=D.nx } σ2 H2):=by
  refine ⟨fun i m σ H=>m=xs.length - i∧i≤xs.length∧Pv i σ H,⟨xs.length,by simp,Nat.zero_le _,h0⟩,?_⟩
  rintro i m σ H ⟨rfl,hi,p⟩
  have q1:=hl i σ H hi p
  by_cases hlt:i<xs.length
  · refine .inr ⟨⟨q1,hlt⟩,Pv (i + 1),fun σ' H' p'=>⟨xs.length - (i + 1),by omega,rfl,hlt,p'⟩,fun x H' y=>?_⟩
    obtain ⟨T,a,rfl,hT,ha,rfl⟩:=y
    exact hs i a T σ _ ha p hT
  · have e:i=xs.length:=by omega
    subst e
    exact .inl ⟨⟨q1,Nat.le_refl _⟩,hd σ H p⟩
theorem rK {K:PySem.W.Frag} {a:Addr} {xs:List V} {acc:Addr} {g:TG} {tc:TT} {te:TE} {τ:St} {H1:Hp} {Q:Hp→Prop} (Pv:Nat→St→Hp→Prop) (h0:Pv 0 τ (upd H1 acc (.lst []))) (hl:∀ i τ H,i≤xs.length→Pv i τ H→SqL K H a xs)
    (hs:∀ i x T τ H,xs[i]?=some x→Pv i τ H→H T=none→g (.ref T) τ (upd H T (.tup [.int (i:Int),x])) fun τ4 H4=>tc τ4 H4 fun b H5=>if b=true then te τ4 H5 fun y H6=>∃ ys,H6 acc=some (.lst ys)∧ys.length<sizeLine∧Pv (i + 1) τ4 (upd H6 acc (.lst (ys++[y]))) else Pv (i + 1) τ4 H5)
    (hd:∀ τ H,Pv xs.length τ H→Q H):oO (Ite K a xs) acc g tc te τ H1 Q:=by
  refine ⟨fun i m τ H=>m=xs.length - i∧i≤xs.length∧Pv i τ H,⟨xs.length,by simp,Nat.zero_le _,h0⟩,?_⟩
  rintro i m τ H ⟨rfl,hi,p⟩
  have q:=hl i τ H hi p
  by_cases hlt:i<xs.length
  · refine .inr ⟨⟨q,hlt⟩,Pv (i + 1),fun τ' H' p'=>⟨xs.length - (i + 1),by omega,rfl,hlt,p'⟩,fun x H' y=>?_⟩
    obtain ⟨T,b,rfl,hT,hb,rfl⟩:=y
    exact hs i b T τ _ hb p hT
  · have e:i=xs.length:=by omega
    subst e
    exact .inl ⟨⟨q,Nat.le_refl _⟩,hd τ H p⟩
end
end L2
namespace L2
open PySem PySem.Spec PyProof.Rows
structure Iv (P:Prop):Prop where
  t:True
  p:P
theorem ifT {c:Bool} {A B:Prop} (h:c=true) (a:A):if c=true then A else B:=by rw [if_pos h];exact a
theorem ifF {c:Bool} {A B:Prop} (h:c=false) (b:B):if c=true then A else B:=by rw [if_neg (by rw [h];exact Bool.false_ne_true)];exact b
theorem ifB {c:Bool} {A B:Prop} (h1:c=true→A) (h2:c=false→B):if c=true then A else B:=by
  cases c with
  | true=>exact ifT rfl (h1 rfl)
  | false=>exact ifF rfl (h2 rfl)
theorem Kv (x y:Int):decide (V.int x=V.int y)=decide (x=y):=by
  by_cases h:x=y
  · simp [h]
  · have:¬ V.int x=V.int y:=fun e=>h (by cases e;rfl)
    simp [h,this]
theorem rH {ns:List Int} {k:Nat} (h:k<ns.length):ns[k]?=some (ns.getD k 0):=by
  rw [List.getD_eq_getElem?_getD,List.getElem?_eq_getElem h];rfl
theorem S7 {n:Nat} {i:Int} (h0:0≤i) (h1:i<(n:Int)):ixN n i=some i.toNat:=by
  unfold ixN;rw [if_pos h0,if_pos h1]
theorem Den.mo {T:dW} {K:PySem.W.Frag} {H H':Hp} {v:V} {d:PyData} (h:Den K H v d) (e:aJ T H H'):Den K H' v d:=Den.tV e h
theorem cW.mo {T:dW} {K:PySem.W.Frag} {H H':Hp} {vs:List V} {ds:List PyData} (h:cW K H vs ds) (e:aJ T H H'):cW K H' vs ds:=cW.tV e h
theorem SqL.mo {T:dW} {K:PySem.W.Frag} {H H':Hp} {a:Addr} {xs:List V} (h:SqL K H a xs) (e:aJ T H H'):SqL K H' a xs:=e.seq h
theorem SqT.mo {T:dW} {K:PySem.W.Frag} {H H':Hp} {a:Addr} {xs:List V} (h:SqT K H a xs) (e:aJ T H H'):SqT K H' a xs:=e.qw h
section
variable {T:dW} {H0 H1 H H':Hp} {L L':List (Addr × HO)} {a l p:Addr} {o o':HO} {xs:List V} {K:PySem.W.Frag}
theorem Ow.frz (O:Ow T H0 H ((p,o) :: L)):∃ Hn,Ow T Hn H L∧aJ T H0 Hn∧Hn p=some o:=by
  obtain ⟨Hn,On,sn,kn⟩:=O.tail.reb
  refine ⟨Hn,On,sn,kn p o (O.get 0) fun q hq z=>?_⟩
  have nd:=O.nd
  rw [List.map_cons,List.nodup_cons] at nd
  exact nd.1 (List.mem_map.mpr ⟨q,hq,z⟩)
theorem Ow.join (O:Ow T H0 H L) (O':Ow T H H' L'):Ow T H0 H' (L'++L):=by
  have keep:∀ q∈L,H' q.1=some q.2:=fun q hq=>(O.jg O'.same).at_ q hq
  refine ⟨O.same.trans O'.same,fun q hq=>?_,fun q hq=>?_,fun q hq=>?_,?_⟩
  · rcases List.mem_append.mp hq with h | h
    · exact O.same.free (O'.new q h)
    · exact O.new q h
  · rcases List.mem_append.mp hq with h | h
    · exact O'.at_ q h
    · exact keep q h
  · rcases List.mem_append.mp hq with h | h
    · exact O'.pl q h
    · exact O.pl q h
  · rw [List.map_append,List.nodup_append]
    refine ⟨O'.nd,O.nd,fun x hx y hy z=>?_⟩
    obtain ⟨q,hq,rfl⟩:=List.mem_map.mp hx
    obtain ⟨r,hr,rfl⟩:=List.mem_map.mp hy
    have:=O'.new q hq
    rw [z,O.at_ r hr] at this
    cases this
end
def dTup (ns:List Int):PyData:=.tuple (ns.map PyData.int)
section
variable {K:PySem.W.Frag} {H:Hp} {v:V} {a:Addr} {ns:List Int} {rs:List (List Int)}
theorem Den.tup (h:SqT K H a (ns.map V.int)):Den K H (.ref a) (dTup ns):=.tuple h (cW.ints ns)
theorem Den.JQ (h:Den K H v (dTup ns)):∃ a,v=.ref a∧SqT K H a (ns.map V.int):=by
  cases h with
  | tuple h hs=>exact ⟨_,rfl,by rw [← cW.int_inv hs];exact h⟩
theorem Den.iz {ds:List PyData} (h:Den K H v (.tuple ds)):∃ a xs,v=.ref a∧SqT K H a xs∧cW K H xs ds:=by
  cases h with
  | tuple h hs=>exact ⟨_,_,rfl,h,hs⟩
theorem Sh.tup (n:Nat) (ns:List Int):Sh (n + 1) (dTup ns):=.tuple fun d hd=>by
  obtain ⟨i,_,rfl⟩:=List.mem_map.mp hd
  exact .int n i
theorem Sh.up {n m:Nat} {d:PyData} (h:Sh n d) (e:n≤m):Sh m d:=⟨h.1,Nat.le_trans h.2 e⟩
end
end L2
namespace L2
open PySem PySem.Spec PyProof.Rows
section
variable {A B:Prop}
theorem ifD {p:Prop} [Decidable p] (h1:p→A) (h2:¬ p→B):if decide p=true then A else B:=ifB (fun h=>h1 (of_decide_eq_true h)) fun h=>h2 (of_decide_eq_false h)
theorem ifI {x y:Int} (h1:x=y→A) (h2:¬ x=y→B):if decide (V.int x=V.int y)=true then A else B:=by rw [Kv];exact ifD h1 h2
theorem ifN {c:Bool} (h:if c=true then B else A):if (!c)=true then A else B:=by cases c <;> simpa using h
end
structure Lic where
  day:Int
  start:Int
  back:Int
  most:Int
def oF (l:Lic):PyData:=dTup [l.day,l.start,l.back,l.most]
def vV (ls:List Lic):PyData:=.list (ls.map oF)
abbrev lV (l:Lic):List V:=[.int l.day,.int l.start,.int l.back,.int l.most]
section
variable {K:PySem.W.Frag} {H:Hp} {v:V} {a:Addr} {ls:List Lic} {l:Lic} {xs:List V} {k:Nat}
theorem Den.lic (h:SqT K H a (lV l)):Den K H (.ref a) (oF l):=Den.tup (ns:=[l.day,l.start,l.back,l.most]) h
theorem Den.yq (h:Den K H v (oF l)):∃ a,v=.ref a∧SqT K H a (lV l):=h.JQ
theorem cW.jW (h:cW K H xs (ls.map oF)) (hk:ls[k]?=some l):∃ a,xs[k]?=some (.ref a)∧SqT K H a (lV l):=by
  obtain ⟨v,h1,h2⟩:=h.get (i:=k) (d:=oF l) (by rw [List.getElem?_map,hk];rfl)
  obtain ⟨a,rfl,hT⟩:=h2.yq
  exact ⟨a,h1,hT⟩
theorem cW.tY (h:cW K H xs (ls.map oF)) (hx:xs[k]?=some v):∃ a l,v=.ref a∧ls[k]?=some l∧SqT K H a (lV l):=by
  obtain ⟨d,h1,h2⟩:=h.get' hx
  rw [List.getElem?_map] at h1
  cases e:ls[k]? with
  | none=>rw [e] at h1;cases h1
  | some l =>
    rw [e] at h1
    cases h1
    obtain ⟨a,rfl,hT⟩:=h2.yq
    exact ⟨a,l,rfl,rfl,hT⟩
theorem Sh.lic (n:Nat) (l:Lic):Sh (n + 1) (oF l):=Sh.tup n _
theorem Sh.roll (n:Nat) (ls:List Lic):Sh (n + 2) (vV ls):=.list fun d hd=>by
  obtain ⟨i,_,rfl⟩:=List.mem_map.mp hd
  exact .lic n i
end
theorem Kw (xs:List V) (i j:Nat):yM xs (some (i:Int)) (some (j:Int))=(xs.drop i).take (j - i):=by
  unfold yM
  rw [HT.tG,HT.tG]
  refine List.ext_getElem? fun k=>?_
  simp only [List.getElem?_take,List.getElem?_drop]
  by_cases h1:k<j - i
  · rw [if_pos h1]
    by_cases h2:i + k<xs.length
    · rw [if_pos (by omega),show min i xs.length=i by omega]
    · rw [List.getElem?_eq_none (l:=xs) (i:=i + k) (by omega)]
      split
      · exact List.getElem?_eq_none (by omega)
      · rfl
  · rw [if_neg h1]
    split
    · rename_i h3
      omega
    · rfl
theorem RQ (ns:List Int) (i j:Nat):yM (ns.map V.int) (some (i:Int)) (some (j:Int))=((ns.drop i).take (j - i)).map V.int:=by
  rw [Kw,List.map_take,List.map_drop]
theorem vm (ns:List Int) (i:Nat):yM (ns.map V.int) (some (i:Int)) none=(ns.drop i).map V.int:=by
  unfold yM
  rw [HT.tG,List.length_map,show HT.sIx ns.length ns.length none=ns.length from rfl,List.map_drop]
  by_cases h:i≤ns.length
  · rw [Nat.min_eq_left h,List.take_of_length_le (by rw [List.length_drop,List.length_map];omega)]
  · rw [Nat.min_eq_right (by omega),List.drop_of_length_le (l:=ns.map V.int) (i:=i) (by rw [List.length_map];omega),Nat.sub_self,List.take_zero]
end L2
namespace L2
open PySem PySem.Spec PyProof.Rows
end L2
namespace L2
open PySem PySem.Spec PyProof.Rows
theorem xK {X:Cx} {K:PySem.W.Frag} {pos:Pos} {es:List Expr} {k:Nat} {t:TGs} {n:Nat} (hK:X.K=K) (hc:X.calm=true) (h:PGs X es t) (hn:(assignEach es X.env).length=n:=by rfl) (hst:(assignEach es X.env).findIdx? (·.1)=none:=by rfl):PG X (.Tuple es k pos) (Vw K n t):=hK ▸ rA hc h hn hst
end L2
namespace L2
open PySem PySem.Spec PyProof.Rows
theorem Vf {τ:St} {H:Hp} {A B:Hp→Prop} (h:A H):R7 τ H fun b H5=>if b=true then A H5 else B H5:=by
  show if true=true then A H else B H
  rw [if_pos rfl];exact h
end L2
namespace L2
open PySem PySem.Spec PyProof.Rows
theorem o8 {α:Type}:∀ {L:List α} {k:Nat} {p:α},L[k]?=some p→(p :: L.eraseIdx k).Perm L
  | [],_,_,h=>by simp at h
  | a :: L,0,p,h=>by
    have e:a=p:=by simpa using h
    subst e;exact List.Perm.refl _
  | a :: L,k + 1,p,h=>by
    have h':L[k]?=some p:=by simpa using h
    rw [List.eraseIdx_cons_succ]
    exact (List.Perm.swap a p _).trans ((o8 h').cons a)
section
variable {T:dW} {H0 H:Hp} {L:List (Addr × HO)} {p:Addr} {o:HO}
theorem Ow.pull (O:Ow T H0 H L) (k:Nat) (h:L[k]?=some (p,o):=by rfl):Ow T H0 H ((p,o) :: L.eraseIdx k):=O.perm (o8 h)
end
end L2
namespace L2
open PySem PySem.Spec PyProof.Rows
end L2
namespace L2
open PySem PySem.Spec PyProof.Rows
end L2
namespace L2
open PySem PySem.W PySem.Spec PyProof.Rows
end L2
namespace L2
open PySem PySem.Spec PyProof.Rows
abbrev KT (H:Hp):List (List Key × V)→List (List Key × Addr × Value)→Prop:=Paired fun p q=>p.1=q.1∧H q.2.1=some (.tup (p.1.map kV))∧RelV p.2 q.2.2
abbrev VV:List (V × V)→List (Value × Value)→Prop:=Paired fun p q=>RelV p.1 q.1∧RelV p.2 q.2
end L2
namespace L2
open PySem PySem.W PySem.Spec PyProof.Rows
end L2
namespace L2
open PySem PySem.W PySem.Spec PyProof.Rows
section
variable {X:Cx}
abbrev oLic (l:Lic):HO:=.tup (lV l)
abbrev oInts (w:List Int):HO:=.lst (w.map V.int)
theorem qm {K:PySem.W.Frag} {a:Addr} {xs:List V} {acc:Addr} {g:TG} {tc:TT} {te:TE} {τ:St} {H1:Hp} {Q:Hp→Prop} (Pv:Nat→St→Hp→Prop) (h0:Pv 0 τ (upd H1 acc (.lst []))) (hl:∀ i τ H,i≤xs.length→Pv i τ H→SqT K H a xs)
    (hs:∀ i x τ H,xs[i]?=some x→Pv i τ H→g x τ H fun τ4 H4=>tc τ4 H4 fun b H5=>if b=true then te τ4 H5 fun y H6=>∃ ys,H6 acc=some (.lst ys)∧ys.length<sizeLine∧Pv (i + 1) τ4 (upd H6 acc (.lst (ys++[y]))) else Pv (i + 1) τ4 H5)
    (hd:∀ τ H,Pv xs.length τ H→Q H):oO (Itt K a) acc g tc te τ H1 Q:=by
  refine ⟨fun i m τ H=>m=xs.length - i∧i≤xs.length∧Pv i τ H,⟨xs.length,by simp,Nat.zero_le _,h0⟩,?_⟩
  rintro i m τ H ⟨rfl,hi,p⟩
  have q:=hl i τ H hi p
  by_cases hlt:i<xs.length
  · refine .inr ⟨⟨xs,xs[i],q,by simp [hlt]⟩,Pv (i + 1),fun τ' H' p'=>⟨xs.length - (i + 1),by omega,rfl,hlt,p'⟩,fun x H' y=>?_⟩
    obtain ⟨e,y⟩:=y
    subst e
    exact hs i x τ _ (y xs q) p
  · have e:i=xs.length:=by omega
    subst e
    exact .inl ⟨⟨xs,q,Nat.le_refl _⟩,hd τ H p⟩
end
end L2
namespace L2
open PySem PySem.W PySem.Spec PyProof.Rows
end L2
namespace L2
open PySem PySem.W PySem.Spec PyProof.Rows
theorem rP {X:Cx} {K:PySem.W.Frag} (h:X.K=K):lG X (.builtin "isinstance") (fun xs H Q=>∃ x t c b,xs=[x,.ty c]∧rZ K H x t∧PySem.W.kitOne K t (.type c)=some b∧Q (.bl b) H):=h ▸ gK
end L2
namespace HT
open PySem PyProof.Rows
end HT
namespace L2
open PySem PySem.W PySem.Spec PyProof.Rows
end L2
namespace L2
open PySem PySem.Spec PyProof.Rows
def Its (x:Str):It:=⟨fun i _=>i<x.cps.size,fun i H y H'=>H'=H∧∃ c,x.cps[i]?=some c∧y=.str ⟨#[c]⟩,fun i _=>x.cps.size≤i⟩
theorem zp {P:Program} {w:World} {K:PySem.W.Frag} {tg:Expr} (it:Addr) (x:Str) (t:Tok):Turn P w K tg (Its x) [it] it (fun i h=>h.IsStrIter it "str_ascii_iterator" x t i) where
  mem:=by simp
  obj:=fun i h st b hb=>by
    have e:b=it:=by simpa using hb
    subst e
    obtain ⟨o,e,c,d⟩:=st
    exact ⟨o,e,fun v z=>by rw [d] at z;cases z⟩
  keep:=fun i h h' st k=>let ⟨o,e,r⟩:=st;⟨o,k it (by simp) o e,r⟩
  item:=by
    intro X hP hw hK hc i pins s σ H E I hf st hg
    subst hP hw hK
    obtain ⟨f0,f1,f2,f3,f4,f5⟩:=hf it (by simp)
    have hg:i<x.cps.size:=hg
    have hx:x.cps[i]?=some x.cps[i]:=by simp [hg]
    refine wpAny_pyNext_ascii_item st hx fun h' st' sb=>?_
    have I1:Inv X pins σ H { s with heap:=h',toks:=s.toks + 1 }:=I.turned (fun b o hb e=>(sb.2 b hb).trans e) f0 f1 f3 f4 f5
    obtain ⟨o,e,c,d⟩:=id st'
    exact ⟨_,rfl,Aa (s:={ s with heap:=h',toks:=s.toks + 1 }) e c d (by decide) ⟨.str ⟨#[x.cps[i]]⟩,H,I1,⟨_,rfl⟩,⟨rfl,_,hx,rfl⟩,st',fun b hb=>(hf b hb).1⟩⟩
  done:=by
    intro X hP hw hK hc i pins s σ H E I hf st hg
    subst hP hw hK
    obtain ⟨f0,f1,f2,f3,f4,f5⟩:=hf it (by simp)
    have hg:x.cps.size≤i:=hg
    exact wpAny_pyNext_ascii_end (I.ok.hd hc) st (by simp [hg]) fun h' eb=>⟨rfl,I.turned (t':=s.toks) (fun b o hb e=>eb b o hb e) f0 f1 f3 f4 f5⟩
  self:=fun _ _ _ _ _ st h=>wpAny_pyIter_striter_ascii st h
section
variable {X:Cx} {tg:Expr}
def iStr (tl:TE):TI:=fun σ H R=>tl σ H fun v H1=>∃ x,v=.str x∧x.cps.all (·<128)=true∧R (Its x) H1
theorem Ld {l:Expr} {tl:TE} (hl:PE X l tl):PI X tg l (iStr tl):=by
  intro pins s σ H R I h
  refine thn (hl pins s σ H _ I h) fun v s1 ⟨x,H1,I1,r1,q1⟩=>?_
  obtain ⟨z,e,ha,q⟩:=q1
  subst e
  obtain ⟨t,rfl⟩:=r1
  refine wpAny_pyIter_ascii ha ?_
  refine ⟨s1.heap.objs.size,[s1.heap.objs.size],_,_,H1,rfl,I1.kept (t':=s1.toks) fun b o e=>Heap.get?_push_of_some _ e,zp _ z t,⟨_,Heap.get?_push_size _ rfl,rfl,rfl⟩,fun b hb=>?_,q⟩
  have e:b=s1.heap.objs.size:=by simpa using hb
  subst e
  exact I1.JG (Nat.le_refl _) (I1.hok.fresh (Nat.le_refl _))
theorem Ae {x:Str} {acc:Addr} {g:TG} {tc:TT} {te:TE} {τ:St} {H1:Hp} {Q:Hp→Prop} (Pv:Nat→St→Hp→Prop) (h0:Pv 0 τ (upd H1 acc (.lst [])))
    (hs:∀ i c τ H,x.cps[i]?=some c→Pv i τ H→g (.str ⟨#[c]⟩) τ H fun τ4 H4=>tc τ4 H4 fun b H5=>if b=true then te τ4 H5 fun y H6=>∃ ys,H6 acc=some (.lst ys)∧ys.length<sizeLine∧Pv (i + 1) τ4 (upd H6 acc (.lst (ys++[y]))) else Pv (i + 1) τ4 H5)
    (hd:∀ τ H,Pv x.cps.size τ H→Q H):oO (Its x) acc g tc te τ H1 Q:=by
  refine ⟨fun i m τ H=>m=x.cps.size - i∧i≤x.cps.size∧Pv i τ H,⟨x.cps.size,by simp,Nat.zero_le _,h0⟩,?_⟩
  rintro i m τ H ⟨rfl,hi,p⟩
  by_cases hlt:i<x.cps.size
  · refine .inr ⟨hlt,Pv (i + 1),fun τ' H' p'=>⟨x.cps.size - (i + 1),by omega,rfl,hlt,p'⟩,fun y H' e=>?_⟩
    obtain ⟨e,c,hc,ey⟩:=e
    subst e ey
    exact hs i c τ _ hc p
  · have e:i=x.cps.size:=by omega
    subst e
    exact .inl ⟨Nat.le_refl _,hd τ H p⟩
structure Dm (K:PySem.W.Frag) (C:Addr) (x qual:Str) (st:Stmt) (ps:List Str) (a:Addr) (fd:FuncData):Prop where
  F:Fun K x qual st a fd
  b:Binds K fd ps []
  m:Meth K C x a
structure KR (K:PySem.W.Frag) (x qual:Str) (st:Stmt) (dv:List Value) (f:Addr) (fd:FuncData):Prop where
  ex:∃ (oc:Value) (od:Option Addr) (T:Addr) (o:Obj) (n:Nat) (kV doc pm:Value) (an:Option Addr) (cdv ct:Value) (osl:Array (Option Value)),
    fd=PySem.W.fnOf x qual (aC st) (aB st) (ak st) (.ref T) kV doc pm an cdv ct∧K.lookup f=some ⟨oc,od,.func fd,osl⟩∧PySem.W.codeIn K cdv qual=true∧K.lookup T=some o∧o.data=.seq dv.toArray n
  kp:PySem.W.keepIn K (.ref f)=true
section
variable {P:Program} {w:World} {K:PySem.W.Frag} {mg:Str→Option Value} {base:Heap} {x qual:Str} {st:Stmt} {dv:List Value} {f:Addr} {fd:FuncData} {N ps:List Str} {k:Nat} {sp:Sp}
theorem KR.okX (F:KR K x qual st dv f fd) (S:aM N ps (ak st)) (len:∀ vs H Q E,sp vs H Q E→vs.length=ps.length)
    (hbody:∀ (cdv:Value) (A:Around) (outer:List Env) (s:Shared) (H:Hp) (vs:List V) (Q:VK) (E:XK),mC k (A.deeper (envOfC qual (ak st) s.heap.objs.size f cdv))→sp vs H Q E →
      ∃ t,PSs (zc (CXE P w) P w K mg base N qual (ak st) f cdv A outer s H E) (aB st) t∧t { nx:=fun _ H'=>Q .non H',rt:=Q } (start N vs) H):bF P w K mg base (CXE P w) (k + 1) f fd ps sp:=by
  obtain ⟨oc,od,T,o,n,kV,doc,pm,an,cdv,ct,osl,rfl,lk,hcd,_⟩:=F.ex
  exact Ks lk hcd S len fun A outer s H vs Q E hr hsp=>hbody cdv A outer s H vs Q E hr hsp
theorem KR.binds {ds:List Value} (F:KR K x qual st dv f fd)
    (h:∀ (T:Addr) (kV doc pm:Value) (an:Option Addr) (cdv ct:Value) (us:List Value),(us++ds).length=ps.length→∃ k:Option (Array Value)→Sem (List (Str × Value)),
      bindArgs (PySem.W.fnOf x qual (aC st) (aB st) (ak st) (.ref T) kV doc pm an cdv ct) ⟨us,[]⟩=(seqItems? (.ref T) >>= k)∧k (some dv.toArray)=pure (ps.zip (us++ds))):Binds K fd ps ds:=by
  obtain ⟨oc,od,T,o,n,kV,doc,pm,an,cdv,ct,osl,rfl,lk,hcd,lt,hs⟩:=F.ex
  intro s us X hl
  obtain ⟨k,h1,h2⟩:=h T kV doc pm an cdv ct us hl
  exact BindsTo.of_defaults rfl (X _ _ lt) hs h1 h2
end
structure DmD (K:PySem.W.Frag) (C:Addr) (x qual:Str) (st:Stmt) (ps:List Str) (a:Addr) (fd:FuncData):Prop where
  F:KR K x qual st [.none] a fd
  b0:Binds K fd ps []
  b1:Binds K fd ps [.none]
  m:Meth K C x a
structure Cl (K:PySem.W.Frag) (mg:Str→Option Value) (x:Str) (C f:Addr) (fs:List Str):Prop where
  c:Cls K C
  k:Mk K C f
  m:mg x=some (.ref C)
  n:∀ y∈fs,jl K C y
end
section
variable {T:dW} {H0 H:Hp} {L R B:List (Addr × HO)} {a b:Addr} {o o':HO} {x y:Addr × HO}
theorem Ow.ne (O:Ow T H0 H L) (i j:Nat) (hi:L[i]?=some (a,o):=by rfl) (hj:L[j]?=some (b,o'):=by rfl) (hij:i≠j:=by decide):a≠b:=by
  intro e
  subst e
  have h1:(L.map (·.1))[i]?=some a:=by rw [List.getElem?_map,hi];rfl
  have h2:(L.map (·.1))[j]?=some a:=by rw [List.getElem?_map,hj];rfl
  exact hij ((List.getElem?_inj (List.getElem?_eq_some_iff.mp h1).1 O.nd).mp (h1.trans h2.symm))
theorem Ow.mid (O:Ow T H0 H (x :: (R++B))):Ow T H0 H (R++x :: B):=O.perm List.perm_middle
end
end L2
namespace L2
open PySem PySem.Spec PyProof.Rows
open AutoSeq1 (wpAny_loadPart')
section
variable {prog:Program} {w:World} {A:Around} {E:Value→Shared→Prop} {s:Shared} {it l:Addr} {i:Nat} {items:Array Value}
theorem wA {x:Value} {Q:Value→Shared→Prop} (st:s.heap.IsTupleIter it l i) (ht:s.heap.IsTuple l items) (hx:items[i]?=some x)
    (q:∀ h',h'.IsTupleIter it l (i + 1)→Heap.SameBut it s.heap h'→Q x { s with heap:=h' }):wpAny (model prog w) A (Builtin.SmallTypes.nextOf (.ref it)) Q E s:=by
  obtain ⟨o,eo,oc,od⟩:=id st;obtain ⟨u,eu,-,m,um⟩:=ht
  unfold Builtin.SmallTypes.nextOf
  refine wpAny_bind (wpAny_callSpecial?_slot (name:=Str.ofString "__next__") st.typeIs F.slot_tuple_iterator_next (wpAny_call_entry F.slot_tuple_iterator_next st.typeIs F.entry_tuple_iterator_next ?_ (F.args_tuple_iterator_next_1 _)))
  (show wpAny _ _ (field (.ref it) 0 >>= _) _ _ s);refine wpAny_bind (wpAny_field eo od (x:=.ref l) rfl ?_)
  (show wpAny _ _ (if (Value.ref l == Value.none)=true then _ else _) _ _ s);rw [if_neg (show ¬ ((Value.ref l == Value.none)=true) from Bool.false_ne_true)]
  (show wpAny _ _ (field (.ref it) 1 >>= _) _ _ s);refine wpAny_bind (wpAny_field eo od (x:=.int i 0) rfl ?_)
  (show wpAny _ _ (seqItems? (.ref l) >>= _) _ _ s);refine wpAny_bind (wpAny_seqItems eu um ?_)
  simp only [Int.toNat_natCast,hx]
  refine wpAny_bind (wpAny_setField eo od (by simp) (wpAny_pure ⟨x,rfl,wpAny_pure (q _ ⟨_,Heap.get?_update_self _ eo (Obj.isFreed_of_fields (Obj.data_mapFields od _)),(Obj.cls_mapFields ..).trans oc,?_⟩ (Heap.SameBut.update ..))⟩))
  rw [Obj.data_mapFields od];simp [rawInt]
theorem wB {Q:Value→Shared→Prop} (hh:A.handled=none) (st:s.heap.IsTupleIter it l i) (ht:s.heap.IsTuple l items) (hx:items[i]?=none)
    (q:∀ h' e,Heap.ExtBut it s.heap h'→(∃ o,h'.get? e=some o∧o.cls=.type "StopIteration")→E (.ref e) { s with heap:=h' }):wpAny (model prog w) A (Builtin.SmallTypes.nextOf (.ref it)) Q E s:=by
  obtain ⟨o,eo,oc,od⟩:=id st;obtain ⟨u,eu,-,m,um⟩:=ht
  unfold Builtin.SmallTypes.nextOf
  refine wpAny_bind (wpAny_callSpecial?_slot (name:=Str.ofString "__next__") st.typeIs F.slot_tuple_iterator_next (wpAny_call_entry F.slot_tuple_iterator_next st.typeIs F.entry_tuple_iterator_next ?_ (F.args_tuple_iterator_next_1 _)))
  (show wpAny _ _ (field (.ref it) 0 >>= _) _ _ s);refine wpAny_bind (wpAny_field eo od (x:=.ref l) rfl ?_)
  (show wpAny _ _ (if (Value.ref l == Value.none)=true then _ else _) _ _ s);rw [if_neg (show ¬ ((Value.ref l == Value.none)=true) from Bool.false_ne_true)]
  (show wpAny _ _ (field (.ref it) 1 >>= _) _ _ s);refine wpAny_bind (wpAny_field eo od (x:=.int i 0) rfl ?_)
  (show wpAny _ _ (seqItems? (.ref l) >>= _) _ _ s);refine wpAny_bind (wpAny_seqItems eu um ?_)
  simp only [Int.toNat_natCast,hx]
  refine wpAny_bind (wpAny_rule (wpAny_bind (wpAny_setField eo od (by simp) ?_)));(show wpAny _ _ (newExc (.type "StopIteration") [] >>= _) _ _ _);refine wpAny_bind ?_
  simp only [newExc,newTuple]
  refine wpAny_bind (wpAny_newObj_type (wpAny_bind (m:=firstArgMember _ _) (wpAny_of_eq (a:=Value.none) (by first | rfl | (simp only [firstArgMember];rfl)) (wpAny_newObj_type ?_ (by size_fits)))) (by size_fits))
  simp only [raiseNew]
  refine wpAny_bind (wpAny_handled ?_);(first | rw [show A.in1.handled=none from hh] | rw [hh])
  refine wpAny_bind (wpAny_pure (wpAny_throw (q _ _ (((Heap.SameBut.update ..).extBut.push _).push _) ⟨_,Heap.get?_push_size _ rfl,rfl⟩)))
theorem qD (hh:A.handled=none) (hne:l≠it):Draws prog w A it [it,l] items.size (fun i v=>items[i]?=some v) (fun i h=>h.IsTupleIter it l i∧h.IsTuple l items) :=
  ⟨fun _ _ ⟨⟨o,ho,_⟩,_⟩=>⟨o,ho⟩,fun _ _ _ st hk=>⟨st.1.at fun o e=>hk it (by simp) o e,st.2.at fun o e=>hk l (by simp) o e⟩,
    fun i s Q E hi st q=>wA st.1 st.2 (x:=items[i]) (by simp [hi]) fun h' st' sb=>q _ h' s.toks (by simp [hi]) ⟨st',st.2.extBut sb.extBut hne⟩ sb,
    fun s Q E st q=>wB hh st.1 st.2 (by simp) q⟩
theorem tX (l:Addr) (items:Array Value) (n:Nat) (dct:Option Addr) (sl:Array (Option Value)) :
    Meets (Builtin.«enumerate.__new__» ⟨[.type "enumerate",.ref l],[]⟩) (fun _ R s=>s.heap.get? l=some ⟨.type "tuple",dct,.seq items n,sl⟩ ∧
      R (.ok (.ret (.ref (s.heap.push { cls:=.type "tuple_iterator",data:=.fields #[.ref l,.int 0 0] }).objs.size)))
        { s with heap:=(s.heap.push { cls:=.type "tuple_iterator",data:=.fields #[.ref l,.int 0 0] }).push { cls:=.type "enumerate",data:=.fields #[.none,.bool false,.ref s.heap.objs.size,rawInt 0,.none,.none] } }) :=
  .of_wp fun prog w A R s h=>by
    obtain ⟨hp,g,d,tk,os⟩:=s;obtain ⟨hl,h⟩:=h
    have hs2:=sub_enumerate
    have hT:Heap.IsTuple (Shared.heap ⟨hp,g,d,tk,os⟩) l items:=⟨_,hl,rfl,n,rfl⟩
    wp_walk using wpAny_loadPart' hl
    refine wpAny_stack_any fun st=>wpAny_pure ?_
    split
    · rename_i c _ _ _ _ _
      cases (c == Value.type "enumerate") <;> (wp_walk using wpAny_loadPart' hl,wpAny_pyIter_tuple hT;exact ⟨_,rfl,h⟩)
    · wp_walk using wpAny_loadPart' hl,wpAny_pyIter_tuple hT;exact ⟨_,rfl,h⟩
end
def Iet (K:PySem.W.Frag) (l:Addr) (xs:List V):It :=
  ⟨fun i H=>SqT K H l xs∧i<xs.length,fun i H x H'=>∃ T a,x=.ref T∧H T=none∧xs[i]?=some a∧H'=upd H T (.tup [.int (i:Int),a]),fun i H=>SqT K H l xs∧i=xs.length⟩
def KN (e it l:Addr) (i:Nat) (h:Heap):Prop:=(∃ old,IsEnum h e it i old)∧h.IsTupleIter it l i
theorem nj {h:Heap} {a b:Addr} {o:Obj} {n:String} {items:Array Value} (ha:h.get? a=some o) (hc:o.cls=.type n) (hn:n≠"tuple") (hb:h.IsTuple b items):a≠b:=by
  intro e
  subst e
  obtain ⟨o',e',c',_⟩:=hb
  rw [ha] at e';cases e'
  rw [hc] at c'
  exact hn (Value.type.inj c')
theorem vH {P:Program} {w:World} {K:PySem.W.Frag} {elts:List Expr} {kk:Nat} {tpos:Pos} {e it l:Addr} {xs:List V} (hei:e≠it) :
    Turn P w K (.Tuple elts kk tpos) (Iet K l xs) [e,it] e (KN e it l):=by
  refine ⟨by simp,fun i h st b hb=>?_,fun i h h' st k=>?_,?_,?_,fun _ _ _ _ _ st h=>?_⟩
  · obtain ⟨⟨old,he⟩,⟨o1,e1,c1,d1⟩⟩:=st
    simp at hb
    rcases hb with rfl | rfl
    · exact ⟨_,he,fun v z=>by cases (show Data.fields _=Data.cell v from z)⟩
    · exact ⟨o1,e1,fun v z=>by rw [d1] at z;cases z⟩
  · obtain ⟨⟨old,he⟩,h1⟩:=st
    exact ⟨⟨old,k e (by simp) _ he⟩,h1.at fun o x=>k it (by simp) o x⟩
  · intro X hP hw hK hc i pins s σ H E I hf st hg
    subst hP hw hK
    obtain ⟨⟨old,he⟩,h1⟩:=st
    obtain ⟨hq,hi⟩:=hg
    obtain ⟨its,rv,pt,hz⟩:=I.tuple hq
    have pt:s.heap.IsTuple l its.toArray:=pt
    have el:=rv.length
    have n1:it≠l:=by obtain ⟨o1,e1,c1,_⟩:=id h1;exact nj e1 c1 (by decide) pt
    have n2:e≠l:=nj (n:="enumerate") he rfl (by decide) pt
    refine wpAny_pyNext_enum_itemD (qD (items:=its.toArray) (I.ok.hd hc) n1.symm) he ⟨h1,pt⟩ (by simp;omega) hei (by simp [hei,n2]) fun u h' tk hu a1 a2 a3 a4 hk=>?_
    obtain ⟨v,hv,ru⟩:∃ v,xs[i]?=some v∧RelV v u:=by
      obtain ⟨u',hu',ru'⟩:=rv.get (List.getElem?_eq_getElem hi)
      have:u'=u:=by
        have hu:its[i]?=some u:=by simpa using hu
        rw [hu'] at hu;exact Option.some.inj hu
      exact ⟨_,List.getElem?_eq_getElem hi,this ▸ ru'⟩
    have lt:∀ {c o},s.heap.get? c=some o→s.heap.objs.size≠c:=fun e=>Nat.ne_of_gt (Heap.lt_size e)
    refine ⟨.ref s.heap.objs.size,rfl,wpAny_letOwnedTupleGo_enum (s:={ s with heap:=h',toks:=tk + 1 }) a1 fun h'' hz' hs'=>?_⟩
    have Tz:s.heap.objs.size≠e:=lt he
    have I1:Inv X pins σ H { s with heap:=h'',toks:=tk + 1 }:=I.pq (ch:=[e,it])
      (fun b o hb x=>hs'.extBut b o (fun z=>hb (by simp [z])) (hk b o (fun z=>hb (by simp [z])) (fun z=>hb (by simp [z])) x)) fun b hb=>hf b hb
    obtain ⟨F0,F1,F2,F3,F4,F5⟩:=I.JG (H':=H) (Nat.le_refl _) (I.hok.fresh (Nat.le_refl _))
    have hT:h''.IsTuple s.heap.objs.size #[.int (i:Int) tk,u]:=⟨_,hs'.extBut _ _ Tz a3,rfl,_,rfl⟩
    have I2:Inv X pins σ (upd H s.heap.objs.size (.tup [.int (i:Int),v])) { s with heap:=h'',toks:=tk + 1 }:=I1.adopt F0 F1 I.sz F4 F5 (show iD X.prog X.w _ h'' _ (.tup [.int (i:Int),v]) from ⟨by rw [sizeLine_eq];simp,[.int (i:Int) tk,u],.cons ⟨_,rfl⟩ (.cons ru .nil),hT⟩)
    refine ⟨.ref s.heap.objs.size,_,I2,rfl,⟨_,_,rfl,F0,hv,rfl⟩,⟨⟨_,by simpa using hz'⟩,a2.1.extBut hs'.extBut hei.symm⟩,fun b hb=>?_⟩
    rw [bh]
    · exact (hf b hb).1
    · simp at hb
      obtain ⟨o1,e1,_⟩:=h1
      rcases hb with rfl | rfl
      · exact (lt he).symm
      · exact (lt e1).symm
  · intro X hP hw hK hc i pins s σ H E I hf st hg
    subst hP hw hK
    obtain ⟨⟨old,he⟩,h1⟩:=st
    obtain ⟨hq,hend⟩:=hg
    obtain ⟨its,rv,pt,hz⟩:=I.tuple hq
    have pt:s.heap.IsTuple l its.toArray:=pt
    have el:=rv.length
    have n1:it≠l:=by obtain ⟨o1,e1,c1,_⟩:=id h1;exact nj e1 c1 (by decide) pt
    have hi:i=its.toArray.size:=by simp;omega
    refine wpAny_pyNext_enum_endD (qD (items:=its.toArray) (I.ok.hd hc) n1.symm) he ⟨hi ▸ h1,pt⟩ fun h' hk=>⟨rfl,I.pq (t':=s.toks) (ch:=[e,it]) (fun b o hb x=>hk b o (fun z=>hb (by simp [z])) x) fun b hb=>hf b hb⟩
  · obtain ⟨⟨old,he⟩,_⟩:=st
    exact wpAny_pyIter_enum he h
theorem vW {prog:Program} {w:World} {A:Around} {E:Value→Shared→Prop} {s:Shared} {l:Addr} {items:Array Value} {Q:Value→Shared→Prop} (hL:s.heap.IsTuple l items)
    (h:∀ h',IsEnum h' (s.heap.objs.size + 1) s.heap.objs.size 0 .none→h'.IsTupleIter s.heap.objs.size l 0→(∀ b o,s.heap.get? b=some o→h'.get? b=some o)→Q (.ref (s.heap.objs.size + 1)) { s with heap:=h' }) :
    wpAny (model prog w) A (call (.type "enumerate") [.ref l]) Q E s:=by
  obtain ⟨⟨c,dct,dt,sl⟩,hl,hc,n,hd⟩:=hL
  obtain rfl:c=.type "tuple":=hc
  obtain rfl:dt=.seq items n:=hd
  have z:(s.heap.push { cls:=.type "tuple_iterator",data:=.fields #[.ref l,.int 0 0] }).objs.size=s.heap.objs.size + 1:=Heap.size_push ..
  refine callType_new F.called_enumerate (by decide) (F.typeCall_enumerate_1 _) (F.newCall_enumerate_1 _) (fun obj=>F.args_object_init_2 obj _) F.entry_enumerate_new (tX l items n dct sl) ⟨hl,?_⟩
  show _∧_
  rw [z]
  have he:=Heap.get?_push_size (s.heap.push { cls:=.type "tuple_iterator",data:=.fields #[.ref l,.int 0 0] }) (o:={ cls:=.type "enumerate",data:=.fields #[.none,.bool false,.ref s.heap.objs.size,rawInt 0,.none,.none] }) rfl
  rw [z] at he
  exact ⟨⟨_,he,rfl⟩,h _ he ⟨_,Heap.get?_push_of_some _ (Heap.get?_push_size _ rfl),rfl,rfl⟩ fun b o x=>Heap.get?_push_of_some _ (Heap.get?_push_of_some _ x)⟩
section
variable {X:Cx}
def Mp (K:PySem.W.Frag) (ta:TA):TI:=fun σ H R=>ta σ H fun vs H1=>∃ l xs,vs=[.ref l]∧SqT K H1 l xs∧R (Iet K l xs) H1
theorem zB {elts:List Expr} {kk:Nat} {tpos:Pos} {a:Expr} {ta:TA} {p pos:Pos} (hg:Gl X "enumerate") (hm:X.mg "enumerate"=none) (ha:PA X [a] ta) (hs:starEach [a] X.env=[(false,eval a X.env)]:=by rfl) :
    PI X (.Tuple elts kk tpos) (.Call (.Name "enumerate" p) [a] [] pos) (Mp X.K ta):=by
  intro pins s σ H R I h
  refine Call_ (nQ I hg hm boot_enumerate (PyProof.Rows.callWith_type1 (thn (ha pos pins s σ H _ I h) fun us s1 ⟨vs,H1,I1,r1,q1⟩=>?_) hs rfl))
  obtain ⟨l1,xs,e,hq1,q⟩:=q1
  subst e
  obtain ⟨u,rfl,ru⟩:=vals1 r1
  cases ru
  obtain ⟨its1,rv1,pl1,hz1⟩:=I1.tuple hq1
  refine vW (show s1.heap.IsTuple l1 its1.toArray from pl1) fun h' a1 a2 hk=>?_
  refine wpAny_pyIter_enum a1 ⟨_,_,_,_,H1,rfl,I1.kept (t':=s1.toks) hk,vH (l:=l1) (xs:=xs) (it:=s1.heap.objs.size) (Nat.succ_ne_self _),⟨⟨_,a1⟩,a2⟩,fun b hb=>?_,q⟩
  have hb':s1.heap.objs.size≤b:=by
    simp at hb
    rcases hb with rfl | rfl <;> simp
  exact I1.JG hb' (I1.hok.fresh hb')
theorem yE {K:PySem.W.Frag} {l:Addr} {xs:List V} {g:TG} {tb:TS} {D:Ends} {σ:St} {H:Hp} (Pv:Nat→St→Hp→Prop) (h0:Pv 0 σ H) (hl:∀ i σ H,i≤xs.length→Pv i σ H→SqT K H l xs)
    (hs:∀ i a T σ H,xs[i]?=some a→Pv i σ H→H T=none→g (.ref T) σ (upd H T (.tup [.int (i:Int),a])) fun σ2 H2=>tb { D with nx:=Pv (i + 1),ct:=Pv (i + 1),bk:=D.nx } σ2 H2) (hd:∀ σ H,Pv xs.length σ H→D.nx σ H) :
    ∃ W:Nat→Nat→St→Hp→Prop,(∃ m,W 0 m σ H)∧∀ i m σ H,W i m σ H →
      ((Iet K l xs).stop i H∧D.nx σ H)∨((Iet K l xs).go i H∧∃ N:St→Hp→Prop,(∀ σ' H',N σ' H'→∃ m',m'<m∧W (i + 1) m' σ' H')∧∀ x H',(Iet K l xs).yld i H x H'→g x σ H' fun σ2 H2=>tb { D with nx:=N,ct:=N,bk:=D.nx } σ2 H2):=by
  refine ⟨fun i m σ H=>m=xs.length - i∧i≤xs.length∧Pv i σ H,⟨xs.length,by simp,Nat.zero_le _,h0⟩,?_⟩
  rintro i m σ H ⟨rfl,hi,p⟩
  have q1:=hl i σ H hi p
  rcases Nat.lt_or_ge i xs.length with hlt | hge
  · refine .inr ⟨⟨q1,hlt⟩,Pv (i + 1),fun σ' H' p'=>⟨xs.length - (i + 1),by omega,rfl,hlt,p'⟩,fun x H' y=>?_⟩
    obtain ⟨T,a,rfl,hT,ha,rfl⟩:=y
    exact hs i a T σ _ ha p hT
  · have e:i=xs.length:=by omega
    subst e
    exact .inl ⟨⟨q1,rfl⟩,hd σ H p⟩
end
theorem jX {X:Cx}:lG X (.builtin "isinstance") (fun xs H Q=>∃ a ys c b,xs=[.ref a,.ty c]∧SqT X.K H a ys∧PySem.W.kitOne X.K (.type "tuple") (.type c)=some b∧Q (.bl b) H):=by
  intro pins s σ H xs us Q I r h
  obtain ⟨a,ys,c,b,rfl,hq,e,q⟩:=h
  obtain ⟨u,w,rfl,ru,rw'⟩:=vals2 r
  obtain rfl:w=Value.type c:=rw'
  cases (show u=Value.ref a from ru)
  obtain ⟨its,rv,⟨o,h1,h2,_⟩,hz⟩:=I.tuple hq
  exact PySem.W.kia_one PySem.W.kitx_tuple I.kIn ⟨o,h1,h2⟩ e (fun z=>nomatch z) fun tk=>⟨.bl b,H,I.tok tk,rfl,q⟩
end L2
namespace L2
open PySem PySem.W PySem.Spec PySem.Calls PyProof.Rows
def KZ (K:PySem.W.Frag) (Bc:Value) (th:TS) (D:Ends):St→XK:=fun σ cls oe H=>∃ C e,cls=.ref C∧oe=some e∧exmOne K (.ref C) Bc=some true∧th D σ (upd H e (.ext (XAt e C)))
def R8 (K:PySem.W.Frag) (Bc:Value) (tb:TX) (th:TS):TS:=fun D σ H=>tb D (KZ K Bc th D) σ H
section
variable {X:Cx} {body suite:List Stmt} {b0:Stmt} {x:Str} {Ba:Addr} {tb:TX} {th:TS} {np hpos pos:Pos}
theorem w5 (hB:Body X) (hc:X.calm=true) (hb:Vy X body tb) (hg:Gl X x) (hm:X.mg x=some (.ref Ba))
    (hs:∀ e:Addr,PSs (zq X e) (b0 :: suite) th) (hd:(x == ("__debug__":Str))=false:=by decide) :
    PS X (.Try body [.ExceptHandler (some (.Name x np)) none (b0 :: suite) hpos] [] [] pos) (R8 X.K (.ref Ba) tb th):=by
  intro pins s σ H D I h
  refine wpAny_Try_except (wpAny_mono (hb pins s σ H D _ I h) (fun fl s1 q=>?_) fun ev s1 q=>?_)
  · cases fl with
    | next=>exact wpAny_execs_nil q
    | ret v=>exact q
    | brk=>exact q
    | cont=>exact q
  obtain ⟨σ1,H1,s0,I1,ea,t,C,B,H',rfl,os,bare,fl,fy,new,nh,C',e',ec,ee,hx,ht⟩:=q
  cases ec
  cases ee
  have hfr:X.A.frames=some (X.env :: X.outer):=by rw [← hB.st];exact I1.ok.frames
  have fy0:Heap.FlyingW B (X.env :: X.outer) ea (.ref C) (.ref t) s1.heap:=by rw [← hB.st];exact fy
  refine wpAny_looks_onW hfr hB.fr fy0 fun h4 hd4 sm4=>?_
  have fl4:=fl.on (h2:=h4) hd4.1 (jM fy.2.2.1 sm4)
  refine wpAny_landsW hd4 fun h5 fy5 sm5=>?_
  have fl5:=fl4.on (h2:=h5) fy5.1 (by rw [hB.st];exact jM hd4.2.2.1 sm5)
  have I5:Inv X pins σ1 H' { s1 with heap:=h5 }:=I1.call' (s':={ s1 with heap:=h5 }) (ch:=[]) os fl5.un fl5.hok bare (fun b z=>nomatch z)
  have hxe:XAt ea C h5:=by obtain ⟨ob,h1,h2⟩:=fy5.there;exact ⟨ob,h1,h2⟩
  refine wpAny_handleBy_cons (codeAny_handlers_test ?_) (by intro q;cases q)
  refine mq (X:=zq X ea) (I5.sup ea) hg hm ?_ hd
  refine (exm_one (K:=X.K) I5.kIn (KY hxe) hx).at ?_
  show codeAny _ _ _ _ _
  refine codeAny_handlers_suite ?_
  refine lands_againW fy5 fun h6 fy6 sm6=>?_
  have fl6:=fl5.on (h2:=h6) fy6.1 (by rw [hB.st];exact jM fy5.2.2.1 sm6)
  have I6:Inv X pins σ1 H' { s1 with heap:=h6 }:=I1.call' (s':={ s1 with heap:=h6 }) (ch:=[]) os fl6.un fl6.hok bare (fun b z=>nomatch z)
  have hxe6:XAt ea C h6:=by obtain ⟨ob,h1,h2⟩:=fy6.there;exact ⟨ob,h1,h2⟩
  have newS:X.s₀.heap.get? ea=none:=by
    cases q:X.s₀.heap.get? ea with
    | none=>rfl
    | some o =>
      obtain ⟨o',e'⟩:=I1.base.there ea o q (by rw [hB.ex];simp)
      rw [new] at e';cases e'
  have I7:Inv X pins σ1 (upd H' ea (.ext (XAt ea C))) { s1 with heap:=h6 }:=by
    refine I6.RW nh (fun z=>?_) newS (fun y c e z=>?_) (fun p hp z=>?_) ⟨hxe6,(by obtain ⟨o,h1,_⟩:=hxe6;exact ⟨o,h1⟩),fun g1 g2 p k=>?_⟩
    · obtain ⟨m,⟨o,_,_,ho,_⟩,_⟩:=I1.loc
      rw [← z,new] at ho;cases ho
    · obtain ⟨v,o,ho,_⟩:=I1.cell y c e
      rw [z,new] at ho;cases ho
    · have ho:=(I1.pin p hp).1
      rw [z,new] at ho;cases ho
    · obtain ⟨o,h1,h2⟩:=p
      exact ⟨o,k o h1,h2⟩
  refine wpAny_mono (hs ea pins _ _ _ _ (I7.sup ea) ht) (fun f s9 q=>?_) fun _ _ z=>z.elim
  cases f with
  | next=>obtain ⟨σ9,H9,J,q⟩:=q;exact ⟨_,H9,J.zm fun hc=>I1.ok.hd hc,q⟩
  | brk=>obtain ⟨σ9,H9,J,q⟩:=q;exact ⟨_,H9,J.zm fun hc=>I1.ok.hd hc,q⟩
  | cont=>obtain ⟨σ9,H9,J,q⟩:=q;exact ⟨_,H9,J.zm fun hc=>I1.ok.hd hc,q⟩
  | ret u=>obtain ⟨v,σ9,H9,J,r,q⟩:=q;exact ⟨v,_,H9,J.zm fun hc=>I1.ok.hd hc,r,q⟩
end
end L2
namespace L2
open PySem PySem.W PySem.Spec PyProof.Rows
def TyU (K:PySem.W.Frag) (H:Hp) (x:V) (t:Value):Prop:=rZ K H x t∨∃ a ys,x=.ref a∧SqT K H a ys∧t=.type "tuple"
theorem rO {X:Cx} {K:PySem.W.Frag} (h:X.K=K):lG X (.builtin "isinstance") (fun xs H Q=>∃ x t c b,xs=[x,.ty c]∧TyU K H x t∧PySem.W.kitOne K t (.type c)=some b∧Q (.bl b) H):=by
  subst h
  intro pins s σ H xs us Q I r ⟨x,t,c,b,e,ht,hk,q⟩
  rcases ht with ht | ⟨a,ys,ex,hq,et⟩
  · exact gK pins s σ H xs us Q I r ⟨x,t,c,b,e,ht,hk,q⟩
  · subst ex et
    exact jX pins s σ H xs us Q I r ⟨a,ys,c,b,e,hq,hk,q⟩
theorem cW.strs {K:PySem.W.Frag} {H:Hp}:∀ xs:List Str,cW K H (xs.map V.str) (xs.map PyData.str)
  | []=>.nil
  | x :: xs=>.cons (.str x) (cW.strs xs)
end L2
namespace Rv
def mW (r:List Int):Prop:=∃ rk:Nat→Nat,(∀ i,i<r.length→rk i<r.length) ∧
  ∀ (i:Nat) (x:Int),r[i]?=some x→x=-1∨(0≤x∧x<r.length∧rk x.toNat<rk i)
def nxt (r:List Int) (p:Int):Int:=r.getD p.toNat (-1)
theorem lA {r:List Int} {p:Int} (h0:0≤p) (h1:p<r.length):r[p.toNat]?=some (nxt r p):=by
  have h:p.toNat<r.length:=by omega
  unfold nxt
  rw [List.getD_eq_getElem?_getD,List.getElem?_eq_getElem h];rfl
theorem mW.step {r:List Int} (h:mW r) {p:Int} (h0:0≤p) (h1:p<r.length):nxt r p=-1∨(0≤nxt r p∧nxt r p<r.length):=by
  obtain ⟨rk,_,h3⟩:=h
  rcases h3 _ _ (lA h0 h1) with e | ⟨a,b,_⟩
  · exact .inl e
  · exact .inr ⟨a,b⟩
def ni (r:List Int):Nat→Int→List Int
  | 0,_=>[]
  | f + 1,p=>if p=-1 then [] else p :: ni r f (nxt r p)
def walk (r:List Int) (p:Int):List Int:=ni r (r.length + 1) p
theorem lJ (r:List Int) (f:Nat):ni r f (-1)=[]:=by
  cases f with
  | zero=>rfl
  | succ f=>unfold ni;rw [if_pos rfl]
theorem ux (r:List Int):walk r (-1)=[]:=lJ r _
theorem mF {r:List Int} {rk:Nat→Nat} (h:∀ (i:Nat) (x:Int),r[i]?=some x→x=-1∨(0≤x∧x<r.length∧rk x.toNat<rk i)) :
    ∀ (f g:Nat) (p:Int),0≤p→p<r.length→rk p.toNat<f→rk p.toNat<g→ni r f p=ni r g p
  | 0,_,_,_,_,hf,_=>by omega
  | _ + 1,0,_,_,_,_,hg=>by omega
  | f + 1,g + 1,p,h0,h1,hf,hg=>by
    unfold ni
    rw [if_neg (by omega),if_neg (by omega)]
    rcases h _ _ (lA h0 h1) with e | ⟨a,b,c⟩
    · rw [e,lJ,lJ]
    · rw [mF h f g _ a b (by omega) (by omega)]
theorem lH {r:List Int} (h:mW r) {p:Int} (h0:0≤p) (h1:p<r.length):walk r p=p :: walk r (nxt r p):=by
  obtain ⟨rk,h2,h3⟩:=h
  show ni r (r.length + 1) p=_
  unfold ni
  rw [if_neg (by omega)]
  rcases h3 _ _ (lA h0 h1) with e | ⟨a,b,c⟩
  · rw [e,lJ,ux]
  · have:=h2 p.toNat (by omega)
    unfold walk
    rw [mF h3 r.length (r.length + 1) _ a b (by omega) (by omega)]
theorem qz (r:List Int):∀ (f:Nat) (p:Int),(ni r f p).length≤f
  | 0,_=>Nat.le_refl _
  | f + 1,p=>by
    unfold ni
    split
    · exact Nat.zero_le _
    · exact Nat.succ_le_succ (qz r f _)
theorem zj (r:List Int) (p:Int):(walk r p).length≤r.length + 1:=qz r _ _
noncomputable def mea (r:List Int) (p:Int):Nat:=(walk r p).length
theorem Lz {r:List Int} (h:mW r) {p:Int} (h0:0≤p) (h1:p<r.length):mea r (nxt r p)<mea r p:=by
  unfold mea;rw [lH h h0 h1];exact Nat.lt_succ_self _
def stp (r:List Int) (p:Int):Int:=if p=-1 then -1 else nxt r p
def lW (r:List Int):Nat→Int→Int
  | 0,p=>p
  | f + 1,p=>lW r f (stp r p)
theorem uy (r:List Int):∀ f,lW r f (-1)=-1
  | 0=>rfl
  | f + 1=>by
    show lW r f (stp r (-1))=-1
    unfold stp
    rw [if_pos rfl];exact uy r f
theorem j7 (r:List Int):∀ (f:Nat) (p:Int),lW r (f + 1) p=stp r (lW r f p)
  | 0,_=>rfl
  | f + 1,p=>by
    show lW r (f + 1) (stp r p)=stp r (lW r f (stp r p))
    exact j7 r f (stp r p)
theorem uz (r:List Int) (p:Int) {f:Nat} (h:lW r f p=-1):∀ g,lW r (f + g) p=-1
  | 0=>h
  | g + 1=>by
    rw [show f + (g + 1)=(f + g) + 1 from rfl,j7,uz r p h g]
    unfold stp;rw [if_pos rfl]
def inB (r:List Int):Prop:=∀ x∈r,-1≤x∧x<(r.length:Int)
instance (r:List Int):Decidable (inB r):=inferInstanceAs (Decidable (∀ x∈r,-1≤x∧x<(r.length:Int)))
theorem Kq {r:List Int} (h:inB r) {p:Int} (h0:0≤p) (h1:p<r.length):-1≤nxt r p∧nxt r p<r.length:=h _ (List.mem_of_getElem? (lA h0 h1))
theorem uY {r:List Int} (h:inB r) {p:Int} (h0:0≤p) (h1:p<r.length):∀ f,-1≤lW r f p∧lW r f p<(r.length:Int)
  | 0=>⟨by show -1≤p;omega,h1⟩
  | f + 1=>by
    rw [j7]
    obtain ⟨a,b⟩:=uY h h0 h1 f
    unfold stp
    by_cases e:lW r f p=-1
    · rw [if_pos e];omega
    · rw [if_neg e];exact Kq h (by omega) b
def isR (r:List Int):Bool:=decide (1≤r.length∧r.length≤40) && decide (inB r) && decide (∀ i,i<r.length→lW r r.length (i:Int)=-1)
end Rv
namespace Rv
end Rv
namespace Rv
abbrev Mv:=Int × Int × Int
end Rv
namespace Rv
end Rv
namespace Rv
end Rv
namespace Rv
end Rv
namespace Rv
end Rv
namespace Rv
end Rv
namespace Tn
end Tn
namespace Tn
end Tn
namespace Tn
end Tn
namespace Tn
end Tn
namespace Tn
end Tn
namespace Tn
end Tn
namespace Tn
end Tn
namespace Tn
end Tn
namespace Tn
end Tn
namespace Tn
theorem iU {α:Type} {gs:List α} {i:Nat} {k:α} (h:gs[i]?=some k):gs.take (i + 1)=gs.take i++[k]:=by
  rw [List.take_add_one,h];rfl
end Tn
namespace Tn
end Tn
namespace Tn
end Tn
namespace Tn
end Tn
namespace Tn
end Tn
namespace Rv
end Rv
namespace Rv
def spot (n x s:Int) (k:Nat):Int:=(x + s * (k:Int)) % n
theorem vf {n a b:Int} (hn:0<n) (h:a % n=b % n) (h1:a - b<n) (h2:b - a<n):a=b:=by
  have ea:=Int.emod_add_mul_ediv a n
  have eb:=Int.emod_add_mul_ediv b n
  have e:a - b=n * (a / n - b / n):=by rw [Int.mul_sub];omega
  generalize a / n - b / n=q at e
  by_cases h0:q=0
  · rw [h0,Int.mul_zero] at e;omega
  · by_cases hp:1≤q
    · have:=Int.mul_le_mul_of_nonneg_left hp (Int.le_of_lt hn)
      rw [Int.mul_one] at this;omega
    · have:q≤-1:=by omega
      have:=Int.mul_le_mul_of_nonneg_left this (Int.le_of_lt hn)
      rw [Int.mul_neg,Int.mul_one] at this;omega
theorem zx {n x s:Int} (hn:0<n) (hs:s=1∨s=n - 1) {j k:Nat} (hj:(j:Int)<n) (hk:(k:Int)<n) (h:spot n x s j=spot n x s k):j=k:=by
  unfold spot at h
  rcases hs with rfl | rfl
  · rw [Int.one_mul,Int.one_mul] at h
    have:=vf hn h (by omega) (by omega)
    omega
  · have e:∀ m:Nat,(x + (n - 1) * (m:Int)) % n=(x - (m:Int)) % n:=fun m=>by
      have:x + (n - 1) * (m:Int)=(x - (m:Int)) + n * (m:Int):=by rw [Int.sub_mul];omega
      rw [this,Int.add_mul_emod_self_left]
    rw [e j,e k] at h
    have:=vf hn h (by omega) (by omega)
    omega
theorem wG {n x s:Int} (hn:0<n) (k:Nat):0≤spot n x s k:=Int.emod_nonneg _ (by omega)
theorem wH {n x s:Int} (hn:0<n) (k:Nat):spot n x s k<n:=Int.emod_lt_of_pos _ hn
def spots (n x s:Int) (m:Nat):List Int:=(List.range m).map (spot n x s)
theorem wF (n x s:Int) (m:Nat):(spots n x s m).length=m:=by simp [spots]
theorem vI (n x s:Int) (m:Nat):spots n x s (m + 1)=spots n x s m++[spot n x s m]:=by
  unfold spots;rw [List.range_succ,List.map_append];rfl
theorem uE {n x s:Int} {m k:Nat} (h:k<m):(spots n x s m)[k]?=some (spot n x s k):=by
  unfold spots;rw [List.getElem?_map,List.getElem?_range h];rfl
structure Lnk (n:Nat) (sp:Nat→Int) (k:Nat) (b:List Int):Prop where
  len:b.length=n
  at_:∀ (i:Nat) (x:Int),b[i]?=some x→x=-1∨∃ j m,j<m∧m<k∧m<n∧sp m=(i:Int)∧x=sp j
theorem Lnk.start (n:Nat) (sp:Nat→Int):Lnk n sp 1 (List.replicate n (-1)) :=
  ⟨by simp,fun i x h=>.inl (by
    rw [List.getElem?_replicate] at h
    split at h
    · exact (Option.some.inj h).symm
    · cases h)⟩
theorem Lnk.skip {n:Nat} {sp:Nat→Int} {k:Nat} {b:List Int} (h:Lnk n sp k b):Lnk n sp (k + 1) b :=
  ⟨h.len,fun i x hx=>(h.at_ i x hx).imp id fun ⟨j,m,h1,h2,h3⟩=>⟨j,m,h1,by omega,h3⟩⟩
theorem Lnk.turn {n:Nat} {sp:Nat→Int} {k j:Nat} {b:List Int} (h:Lnk n sp k b) (hk:k<n) (hj:j<k) (h0:0≤sp k):Lnk n sp (k + 1) (b.set (sp k).toNat (sp j)):=by
  refine ⟨by rw [List.length_set];exact h.len,fun i x hx=>?_⟩
  rw [List.getElem?_set] at hx
  split at hx
  · rename_i e
    split at hx
    · exact .inr ⟨j,k,hj,by omega,hk,by omega,(Option.some.inj hx).symm⟩
    · cases hx
  · exact h.skip.at_ i x hx
theorem Lnk.nG {n:Nat} {sp:Nat→Int} {k:Nat} {b:List Int} (h:Lnk n sp k b) (h0:∀ k,0≤sp k) (h1:∀ k,sp k<n) (inj:∀ j k,j<n→k<n→sp j=sp k→j=k) (hn:0<n):mW b:=by
  classical
  let rk:Nat→Nat:=fun i=>if h:∃ k,k<n∧sp k=(i:Int) then h.choose else 0
  have rk_at:∀ k,k<n→rk (sp k).toNat=k:=fun k hk=>by
    have hex:∃ m,m<n∧sp m=((sp k).toNat:Int):=⟨k,hk,by have:=h0 k;omega⟩
    show (if h:∃ m,m<n∧sp m=((sp k).toNat:Int) then h.choose else 0)=k
    rw [dif_pos hex]
    obtain ⟨a1,a2⟩:=hex.choose_spec
    exact inj _ _ a1 hk (by have:=h0 k;omega)
  refine ⟨rk,fun i _=>?_,fun i x hx=>?_⟩
  · rw [h.len]
    show (if h:∃ k,k<n∧sp k=(i:Int) then h.choose else 0)<n
    split
    · rename_i hex;exact hex.choose_spec.1
    · exact hn
  · rcases h.at_ i x hx with e | ⟨j,m,hjm,_,hm,e,rfl⟩
    · exact .inl e
    · refine .inr ⟨h0 j,by rw [h.len];exact h1 j,?_⟩
      have ei:i=(sp m).toNat:=by have:=h0 m;omega
      rw [ei,rk_at m hm,rk_at j (by omega)]
      exact hjm
end Rv
namespace Tn
end Tn
namespace Rv
end Rv
namespace Tn
end Tn
namespace Tn
end Tn
namespace Rv
end Rv
namespace Tn
end Tn
namespace Rv
end Rv
namespace Tn
end Tn
namespace Rv
end Rv
namespace My
open PySem L2
local macro_rules | `(tactic| walk_at "new") => `(tactic| (generalize hE : upd _ _ _ = Hn; have On := Ow.mkE (by assumption) (by assumption) hE rfl; clear hE; revert On; revert Hn))
local macro_rules | `(tactic| walk_at "put") => `(tactic| (generalize hE : upd _ _ _ = Hn; (first | have On := Ow.mV (by assumption) 0 rfl hE rfl | have On := Ow.mV (by assumption) 1 rfl hE rfl | have On := Ow.mV (by assumption) 2 rfl hE rfl | have On := Ow.mV (by assumption) 3 rfl hE rfl | have On := Ow.mV (by assumption) 4 rfl hE rfl | have On := Ow.mV (by assumption) 5 rfl hE rfl); clear hE; (try simp only [List.set_cons_zero, List.set_cons_succ] at On); revert On; revert Hn))
set_option hygiene false
local macro_rules | `(tactic| walk_at "get") => `(tactic| first | assumption | exact O.get 0 | exact O.get 1 | exact O.get 2 | exact O.get 3 | exact O.get 4 | exact O.get 5 | exact O.get 6 | exact O.get 7 | exact O.get 8 | exact O.get 9 | exact O.get 10 | exact O.get 11 | exact O.get 12 | fail)
local macro_rules | `(tactic| walk_at "sq") => `(tactic| first | assumption | exact O.sq 0 | exact O.sq 1 | exact O.sq 2 | exact O.sq 3 | exact O.sq 4 | exact O.sq 5 | exact O.sq 6 | exact O.sq 7 | exact O.sq 8 | exact O.sq 9 | exact O.sq 10 | exact O.sq 11 | exact O.sq 12 | exact SqL.mo (by assumption) O.same | exact SqL.mo (by assumption) (s0.trans O.same) | fail)
local macro_rules | `(tactic| walk_at "sqT") => `(tactic| first | assumption | exact O.sqT 0 | exact O.sqT 1 | exact O.sqT 2 | exact O.sqT 3 | exact O.sqT 4 | exact O.sqT 5 | exact O.sqT 6 | exact O.sqT 7 | exact SqT.mo (by assumption) O.same | exact SqT.mo (by assumption) (s0.trans O.same) | fail)
local macro_rules | `(tactic| walk_at "at") => `(tactic| first | rfl | exact bQ (by assumption) | exact fZ (by assumption) | exact ints_atZ (by omega) (by omega) | exact lastV _ _ | exact ints_last (by omega) | exact ints_atZ (ns := [_, _]) (by omega) (by simp only [List.length_cons, List.length_nil]; omega) | exact ints_atZ (ns := [_, _, _]) (by omega) (by simp only [List.length_cons, List.length_nil]; omega) | exact ints_atZ (ns := [_, _, _, _]) (by omega) (by simp only [List.length_cons, List.length_nil]; omega) | exact ints_atZ (ns := [_, _, _, _, _]) (by omega) (by simp only [List.length_cons, List.length_nil]; omega) | exact ints_atZ (ns := [_, _, _, _, _, _]) (by omega) (by simp only [List.length_cons, List.length_nil]; omega) | exact ints_atZ (ns := [_, _, _, _, _, _, _]) (by omega) (by simp only [List.length_cons, List.length_nil]; omega) | exact ints_atZ (ns := [_, _, _, _, _, _, _, _]) (by omega) (by simp only [List.length_cons, List.length_nil]; omega) | fail)
local macro_rules | `(tactic| walk_at "c") => `(tactic| first | omega | (simp only [List.length_map]; omega) | exact szl | (show (0 : Int) < _; decide) | (show (0 : Int) < _; omega) | exact ⟨by decide, by decide⟩ | exact .inl ⟨by decide, by decide⟩ | exact .inr ⟨by decide, by decide⟩ | exact ⟨by decide, by decide, by decide⟩ | exact .inl ⟨by omega, by omega⟩ | exact .inr ⟨by omega, by omega⟩ | exact ⟨by omega, by omega⟩ | (split <;> omega) | fail)
local macro_rules | `(tactic| walk_at "ty") => `(tactic| first | exact .int _ | exact .bl _ | exact .lst (by walk_at "get") | exact .tup (by walk_at "get") | exact .non | fail)
local macro_rules | `(tactic| walk_at "kit") => `(tactic| first | exact Bf K | exact yt K | exact uX K | exact kit_bb K | exact kit_bi K | exact yr K | fail)
local macro_rules | `(tactic| walk_at "sz") => `(tactic| exact aV (by (try simp only [List.length_map, List.length_append, List.length_cons, List.length_nil]); omega))
local macro_rules | `(tactic| walk_at "s") => `(tactic| first | refine Vf ?_ | refine ⟨_, rfl, ?_⟩ | refine ⟨_, _, rfl, rfl, ?_⟩ | refine And.intro rfl ?_ | refine And.intro (by walk_at "c") ?_ | refine ⟨_, _, _, _, rfl, rfl, (show SqL _ _ _ _ by walk_at "sq"), (show atI _ _ = some _ by walk_at "at"), ?_⟩ | refine ⟨_, _, _, _, rfl, rfl, (show SqT _ _ _ _ by walk_at "sqT"), (show atI _ _ = some _ by walk_at "at"), ?_⟩ | refine ⟨_, _, rfl, .inl (show SqL _ _ _ _ by walk_at "sq"), ?_⟩ | refine ⟨_, _, rfl, .inr (show SqT _ _ _ _ by walk_at "sqT"), ?_⟩ | refine ⟨_, _, rfl, (show SqL _ _ _ _ by walk_at "sq"), ?_⟩ | refine And.intro ⟨_, (show SqL _ _ _ _ by walk_at "sq")⟩ ?_ | refine And.intro (.inl ⟨rfl, _, (show SqL _ _ _ _ by walk_at "sq")⟩) ?_ | refine ⟨_, _, _, _, rfl, (show rZ _ _ _ _ by walk_at "ty"), (show PySem.W.kitOne _ _ _ = some _ by walk_at "kit"), ?_⟩ | refine ⟨_, _, rfl, ?_⟩ | fail)
local macro_rules | `(tactic| walk_at "w") => `(tactic| repeat walk_at "s")
local macro_rules | `(tactic| walk_at "if") => `(tactic| first | refine jK ?_ | refine jG ?_ | refine ifN ?_ | refine ifI (fun hc => ?_) (fun hc => ?_) | refine ifD (fun hc => ?_) (fun hc => ?_) | refine ifB (fun hc => ?_) (fun hc => ?_) | fail)
local macro_rules | `(tactic| walk_at "go") => `(tactic| repeat' (first | walk_at "if" | walk_at "s" | fail))
local macro_rules | `(tactic| walk_at "nw") => `(tactic| (generalize hE : upd _ _ _ = Hn; replace O := Ow.mkE O (by assumption) hE rfl; clear hE))
local macro_rules | `(tactic| walk_at "pt") => `(tactic| (generalize hE : upd _ _ _ = Hn; (first | replace O := Ow.mV O 0 rfl hE rfl | replace O := Ow.mV O 1 rfl hE rfl | replace O := Ow.mV O 2 rfl hE rfl | replace O := Ow.mV O 3 rfl hE rfl | replace O := Ow.mV O 4 rfl hE rfl | replace O := Ow.mV O 5 rfl hE rfl | replace O := Ow.mV O 6 rfl hE rfl | replace O := Ow.mV O 7 rfl hE rfl); clear hE; (try simp only [List.set_cons_zero, List.set_cons_succ] at O)))
local macro_rules | `(tactic| walk_at "app") => `(tactic| (refine ⟨_, _, _, rfl, rfl, (by walk_at "get"), (by walk_at "sz"), ?_⟩; walk_at "pt"))
local macro_rules | `(tactic| walk_at "elt") => `(tactic| (refine ⟨_, (by walk_at "get"), (by walk_at "sz"), ?_⟩; walk_at "pt"))
local macro_rules | `(tactic| walk_at "frz") => `(tactic| (obtain ⟨Hn, On, sn, en⟩ := O.frz; clear O; have O := On; clear On; (try replace s0 := s0.mo sn); (try replace d0 := d0.mo sn); (try replace d1 := d1.mo sn); (try replace d2 := d2.mo sn); (try replace d3 := d3.mo sn); (try replace d4 := d4.mo sn); (try replace d5 := d5.mo sn); (try replace d6 := d6.mo sn); (try replace d7 := d7.mo sn)))
local macro_rules | `(tactic| walk_at "mo") => `(tactic| ((try simp only [List.eraseIdx_cons_zero, List.eraseIdx_cons_succ] at O); (try replace s0 := s0.mo sn); (try replace d0 := d0.mo sn); (try replace d1 := d1.mo sn); (try replace d2 := d2.mo sn); (try replace d3 := d3.mo sn); (try replace d4 := d4.mo sn); (try replace d5 := d5.mo sn); (try replace d6 := d6.mo sn); (try replace d7 := d7.mo sn)))
local macro_rules | `(tactic| walk_at "er") => `(tactic| simp only [List.eraseIdx_cons_zero, List.eraseIdx_cons_succ] at O)
local macro_rules | `(tactic| walk_at "jn") => `(tactic| simp only [List.cons_append, List.nil_append] at O)
def top (i:Nat):Stmt:=PySem.Challenge.pw_sluice_k57_whole_deeds_replayed.main.body.getD i (.Pass ⟨0,0,0,0⟩)
abbrev jf:Stmt:=top 21
theorem qK:aM ["below","reach","way"] ["below","reach"] (ak jf):=⟨rfl,rfl,rfl,by decide +kernel,rfl,by decide +kernel,by decide +kernel⟩
def Ar (K:PySem.W.Frag):Sp:=fun vs H Q _=>∃ (a:Addr) (r:List Int) (p:Int),vs=[.ref a,.int p]∧SqL K H a (r.map V.int)∧Rv.mW r∧0≤p∧p<r.length∧r.length≤900 ∧
  Vx H (fun xs=>xs=(Rv.walk r p).map V.int) Q
theorem yU (pre:List Int) (z:Int):atI ((pre++[z]).map V.int) (-1)=some (V.int z):=by
  rw [List.map_append];exact Ag _ _
theorem Lk {f:Addr} {fd:FuncData} (D:Df K mg "way_of" jf ["below","reach"] f fd) (C:Mth mg):bF P w K mg base CX0 1 f fd ["below","reach"] (Ar K):=by
  obtain ⟨tM,hMOUTH⟩:=C.MOUTH
  refine D.F.ok qK (fun vs H Q E h=>?_) (fun cdv A outer s H vs Q E hr h=>?_)
  · obtain ⟨a,r,p,rfl,_⟩:=h;rfl
  · obtain ⟨a,r,p,rfl,hS,hR,p0,p1,hn,q⟩:=h
    refine ⟨_,(au (bG (i:=2) qK.nd rfl (Or.inl rfl) (gF (aj (pv 1) ao)))
      (au (zA PassesOwn.never (aH xR (aG aW (pv 0) (aG aW (pv 2) (rB mG aq) (fun _ _=>rfl)) (fun _ _=>rfl)) (iK (v:=.int (-1)) rfl hMOUTH ⟨_,rfl⟩) (aX _))
        (aA (aN (jz PySem.F.plainAttrs_list PySem.F.slot_list_append PySem.F.type_list_append bL (pv 2) (aj (aG aW (pv 0) (aG aW (pv 2) (rB mG aq) (fun _ _=>rfl)) (fun _ _=>rfl)) ao)))))
      (aA (aY (pv 2))))),?_⟩
    refine ⟨_,rfl,(by show 1≤sizeLine;decide),fun lw hlw=>?_⟩
    refine ⟨fun m σ H'=>∃ (pre:List Int) (z:Int),σ=[some (.ref a),some (.int p),some (.ref lw)]∧Same H H'∧H' lw=some (.lst ((pre++[z]).map V.int))∧0≤z∧z<r.length∧pre++Rv.walk r z=Rv.walk r p∧m=Rv.mea r z,
      ⟨_,[],p,rfl,(Same.refl H).upd hlw,dO,p0,p1,rfl,rfl⟩,?_⟩
    rintro m σ H2 ⟨pre,z,rfl,s2,h2,z0,z1,e,rfl⟩
    have g:=Rv.lA z0 z1
    have hlen:pre.length + (Rv.walk r z).length≤r.length + 1:=by
      have:=Rv.zj r p
      rw [← e,List.length_append] at this;exact this
    refine ⟨_,rfl,_,rfl,_,rfl,lw,_,_,_,rfl,rfl,SqL.of h2,yU pre z,a,_,_,_,rfl,rfl,s2.seq hS,qb z0 g,rfl,_,rfl,?_⟩
    rcases hR.step z0 z1 with hm | ⟨n0,n1⟩
    · rw [hm]
      refine S8 rfl ?_
      refine ⟨_,rfl,q lw H2 _ s2 hlw h2 ?_⟩
      have ew:Rv.walk r z=[z]:=by rw [Rv.lH hR z0 z1,hm,Rv.ux]
      rw [← e,ew]
    · have hd:(!decide (V.int (Rv.nxt r z)=V.int (-1)))=true:=by
        have:¬ Rv.nxt r z=-1:=by omega
        simp [this]
      rw [hd]
      refine jK ?_
      refine ⟨fun σ' H'=>∃ m',m'<Rv.mea r z∧∃ (pre:List Int) (z:Int),σ'=[some (.ref a),some (.int p),some (.ref lw)]∧Same H H'∧H' lw=some (.lst ((pre++[z]).map V.int))∧0≤z∧z<r.length∧pre++Rv.walk r z=Rv.walk r p∧m'=Rv.mea r z,fun _ _ x=>x,?_⟩
      refine ⟨_,rfl,.inl ⟨rfl,_,SqL.of h2⟩,_,rfl,_,rfl,_,rfl,lw,_,_,_,rfl,rfl,SqL.of h2,yU pre z,a,_,_,_,rfl,rfl,s2.seq hS,qb z0 g,lw,_,_,rfl,rfl,h2,aV ?_,?_⟩
      · rw [List.length_map,List.length_append]
        have:1≤(Rv.walk r z).length:=by rw [Rv.lH hR z0 z1];exact Nat.succ_le_succ (Nat.zero_le _)
        show pre.length + 1≤_
        omega
      · refine ⟨_,Rv.Lz hR z0 z1,pre++[z],Rv.nxt r z,rfl,s2.upd hlw,?_,n0,n1,?_,rfl⟩
        · rw [dO,List.map_append (l₁:=pre++[z])];rfl
        · rw [List.append_assoc]
          show pre++(z :: Rv.walk r (Rv.nxt r z))=_
          rw [← Rv.lH hR z0 z1];exact e
abbrev bW:Stmt:=top 19
theorem gn:aM ["below","start","reach","step"] ["below","start"] (ak bW):=⟨rfl,rfl,rfl,by decide +kernel,rfl,by decide +kernel,by decide +kernel⟩
def uM (K:PySem.W.Frag):Sp:=fun vs H Q _=>∃ (a:Addr) (r:List Int) (i:Nat),vs=[.ref a,.int (i:Int)]∧SqL K H a (r.map V.int)∧Rv.inB r∧i<r.length∧r.length≤900∧Q (.bl (decide (Rv.lW r r.length (i:Int)=-1))) H
structure Cst (mg:Str→Option Value):Prop where
  MOUTH:∃ t,mg "MOUTH"=some (.int (-1) t)
  MOST_REACHES:∃ t,mg "MOST_REACHES"=some (.int 40 t)
theorem zN {f:Addr} {fd:FuncData} (D:Df K mg "comes_to_mouth" bW ["below","start"] f fd) (B:Blt mg) (C:Cst mg):bF P w K mg base CX0 1 f fd ["below","start"] (uM K):=by
  obtain ⟨tM,hMOUTH⟩:=C.MOUTH
  refine D.F.ok gn (fun vs H Q E h=>?_) (fun cdv A outer s H vs Q E hr h=>?_)
  · obtain ⟨a,r,i,rfl,_⟩:=h;rfl
  · obtain ⟨a,r,i,rfl,hS,hB,hi,hn,q⟩:=h
    refine ⟨_,(au (bG (i:=2) gn.nd rfl (Or.inl rfl) (pv 1))
      (au (kW PassesOwn.never rfl (jQ rfl B.range (aj (aR bf rfl B.len PySem.boot_len (aj (pv 0) ao)) ao)) (bH (i:=3) gn.nd rfl (Or.inl rfl))
        (au (bG (i:=2) gn.nd rfl (Or.inl rfl) (aG aW (pv 0) (pv 2) (fun _ _=>rfl)))
        (aA (bN (aH gJ (pv 2) (iK (v:=.int (-1)) rfl hMOUTH ⟨_,rfl⟩) (aX _))
          (aA (aY jk))
          aZ))))
      (aA (aY jk)))),?_⟩
    refine ⟨_,rfl,_,rfl,a,_,rfl,.inl hS,_,rfl,by rw [List.length_map];omega,by rw [List.length_map];omega,?_⟩
    rw [List.length_map,Int.toNat_natCast]
    refine rJ (n:=r.length) (fun j σ H2=>∃ (v:Option V),σ=[some (.ref a),some (.int (i:Int)),some (.int (Rv.lW r j (i:Int))),v]∧H=H2∧(j=0∨Rv.lW r j (i:Int)≠-1)) ⟨none,rfl,rfl,.inl rfl⟩ ?_ ?_
    · rintro j σ H2 hj ⟨v,rfl,rfl,hne⟩
      obtain ⟨b0,b1⟩:=Rv.uY hB (p:=(i:Int)) (by omega) (by omega) j
      have hne':Rv.lW r j (i:Int)≠-1:=by
        rcases hne with e | e
        · subst e
          show (i:Int)≠-1
          omega
        · exact e
      have g:=Rv.lA (r:=r) (p:=Rv.lW r j (i:Int)) (by omega) b1
      have es:Rv.nxt r (Rv.lW r j (i:Int))=Rv.lW r (j + 1) (i:Int):=by
        rw [Rv.j7];unfold Rv.stp;rw [if_neg hne']
      rw [es] at g
      refine ⟨_,rfl,_,rfl,a,_,_,_,rfl,rfl,hS,qb (by omega) g,_,rfl,rfl,_,rfl,?_⟩
      refine R5 (fun h=>?_) (fun h=>?_)
      · have e:Rv.lW r (j + 1) (i:Int)=-1:=by
          have:=of_decide_eq_true h
          exact V.int.inj this
        have e2:Rv.lW r r.length (i:Int)=-1:=by
          have:=Rv.uz r (i:Int) e (r.length - (j + 1))
          rw [show j + 1 + (r.length - (j + 1))=r.length by omega] at this
          exact this
        rw [decide_eq_true e2] at q
        exact q
      · refine ⟨_,rfl,rfl,.inr fun e=>h (decide_eq_true (by rw [e]))⟩
    · rintro σ H2 ⟨v,rfl,rfl,hne⟩
      have e:¬ Rv.lW r r.length (i:Int)=-1:=by
        rcases hne with e | e
        · omega
        · exact e
      rw [decide_eq_false e] at q
      exact q
abbrev fH:Stmt:=top 20
theorem tE:aM ["below"] ["below"] (ak fH):=⟨rfl,rfl,rfl,by decide +kernel,rfl,by decide +kernel,by decide +kernel⟩
def Aw (K:PySem.W.Frag):Sp:=fun vs H Q _=>∃ (a:Addr) (r:List Int),vs=[.ref a]∧SqL K H a (r.map V.int)∧r.length≤900∧∀ H',Same H H'→Q (.bl (Rv.isR r)) H'
theorem vC {α:Type} {p:α→Bool} {l:List α}:(l.map p).all id=l.all p:=by
  rw [List.all_map];rfl
theorem Kr (r:List Int):(r.all fun x=>decide (-1≤x) && decide (x<(r.length:Int)))=decide (Rv.inB r):=by
  rw [Bool.eq_iff_iff]
  simp only [List.all_eq_true,Bool.and_eq_true,decide_eq_true_eq]
  exact Iff.rfl
theorem Lq {f fC:Addr} {fd fdC:FuncData} (D:Df K mg "is_river" fH ["below"] f fd) (B:Blt mg) (C:Cst mg) (dg:Df K mg "comes_to_mouth" bW ["below","start"] fC fdC)
    (mX:bF P w K mg base CX0 1 fC fdC ["below","start"] (uM K)):bF P w K mg base CX0 2 f fd ["below"] (Aw K):=by
  obtain ⟨tM,hMOUTH⟩:=C.MOUTH
  obtain ⟨tR,hMOST_REACHES⟩:=C.MOST_REACHES
  refine D.F.ok tE (fun vs H Q E h=>?_) (fun cdv A outer s H vs Q E hr h=>?_)
  · obtain ⟨a,r,rfl,_⟩:=h;rfl
  · obtain ⟨a,r,rfl,hS,hn,q⟩:=h
    refine ⟨_,(au (bN (fX (j8 mj mj aq (aR bf rfl B.len PySem.boot_len (aj (pv 0) ao)) (iK (v:=.int (40)) rfl hMOST_REACHES ⟨_,rfl⟩)))
        (aA (aY jk))
        aZ)
      (au (bN (fX (gC (aR (lU rfl) rfl B.all PyProof.Rows.boot_all (aj (jy (ak fH) rfl ["below"] rfl ["reach","below"] [none,some 0] (by decide +kernel) (by decide +kernel) (by decide +kernel) rfl (jR (pv 0)) (fun _ _ _=>(bH (i:=0) (show (["reach","below"]:List Str).Nodup by decide +kernel) rfl (Or.inl rfl))) (fun _ _ _=>jx) (fun _ _ _=>(pW mj pY (iK (v:=.int (-1)) rfl hMOUTH ⟨_,rfl⟩) (pv 0) (aR (qp (K:=K) rfl) rfl B.len PySem.boot_len (aj (pv 1) ao))))) ao))))
        (aA (aY jk))
        aZ)
      (aA (aY (aR (lU rfl) rfl B.all PyProof.Rows.boot_all (aj (jy (ak fH) rfl ["below"] rfl ["start","below"] [none,some 0] (by decide +kernel) (by decide +kernel) (by decide +kernel) rfl (jQ rfl B.range (aj (aR bf rfl B.len PySem.boot_len (aj (pv 0) ao)) ao)) (fun _ _ _=>(bH (i:=0) (show (["start","below"]:List Str).Nodup by decide +kernel) rfl (Or.inl rfl))) (fun _ _ _=>jx) (fun _ _ _=>(aL mX (hr.mono (by decide)) rfl dg.m dg.F.kp dg.b .nil bO (aj (pv 1) (aj (pv 0) ao))))) ao)))))),?_⟩
    refine ⟨_,rfl,a,_,rfl,.inl hS,_,_,rfl,rfl,_,rfl,?_⟩
    rw [List.length_map]
    have no1:¬ (1≤r.length∧r.length≤40)→Q (.bl false) H:=fun h=>by
      have e:Rv.isR r=false:=by unfold Rv.isR;rw [decide_eq_false h];rfl
      have:=q H (Same.refl H)
      rw [e] at this
      exact this
    refine R5 (fun h1=>⟨_,_,rfl,rfl,_,rfl,?_⟩) (fun h1=>⟨_,rfl,?_⟩)
    case refine_2=>exact jK (no1 fun z=>h1 (decide_eq_true (by omega)))
    have g1:=of_decide_eq_true h1
    by_cases h2:r.length≤40
    case neg =>
      rw [decide_eq_false (by omega)]
      exact jK (no1 fun z=>h2 z.2)
    rw [decide_eq_true (by omega)]
    refine jG ?_
    refine ⟨_,rfl,a,rfl,⟨_,hS⟩,fun acc hacc=>?_⟩
    refine nZ (K:=K) (a:=a) (xs:=r.map V.int) (fun i τ H2=>∃ v,τ=[v,some (.ref a)]∧Same H H2∧H2 acc=some (.lst (((r.take i).map fun x=>decide (-1≤x) && decide (x<(r.length:Int))).map V.bl)))
      ⟨none,rfl,(Same.refl H).upd hacc,by rw [dO];rfl⟩ (fun i τ H2 _ ⟨_,_,s2,_⟩=>s2.seq hS) ?_ ?_
    · rintro i y τ H2 hi ⟨v,rfl,s2,h2'⟩
      obtain ⟨z,hz,rfl⟩:=ints_get hi
      have hil:i<r.length:=(List.getElem?_eq_some_iff.mp hz).1
      have e:∀ b:Bool,b=(decide (-1≤z) && decide (z<(r.length:Int)))→((r.take i).map fun x=>decide (-1≤x) && decide (x<(r.length:Int))).map V.bl++[V.bl b]=((r.take (i + 1)).map fun x=>decide (-1≤x) && decide (x<(r.length:Int))).map V.bl:=fun b hb=>by
        rw [List.take_add_one,hz,List.map_append,List.map_append,hb];rfl
      have hsz:(((r.take i).map fun x=>decide (-1≤x) && decide (x<(r.length:Int))).map V.bl).length<sizeLine:=aV (by rw [List.length_map,List.length_map,List.length_take];omega)
      refine Al ?_
      refine ⟨_,rfl,_,_,rfl,rfl,_,rfl,?_⟩
      refine R5 (fun h3=>?_) (fun h3=>?_)
      · refine ⟨_,rfl,a,_,rfl,.inl (s2.seq hS),_,_,rfl,rfl,_,h2',hsz,_,rfl,s2.upd hacc,?_⟩
        rw [dO,e _ (by rw [h3,List.length_map];rfl)]
      · refine ⟨_,h2',hsz,_,rfl,s2.upd hacc,?_⟩
        have h3':decide (-1≤z)=false:=by simpa using h3
        rw [dO,e false (by rw [h3'];rfl)]
    · rintro τ H2 ⟨v,rfl,s2,h2'⟩
      rw [List.length_map,List.take_length] at h2'
      refine ⟨acc,_,rfl,SqL.of h2',_,rfl,?_⟩
      rw [vC,Kr]
      by_cases hB:Rv.inB r
      case neg =>
        rw [decide_eq_false hB]
        refine jK ?_
        have e:Rv.isR r=false:=by unfold Rv.isR;rw [decide_eq_false hB,Bool.and_false];rfl
        have:=q H2 s2
        rw [e] at this
        exact this
      rw [decide_eq_true hB]
      refine jG ?_
      refine ⟨_,rfl,a,_,rfl,.inl (s2.seq hS),_,rfl,by rw [List.length_map];omega,by rw [List.length_map];omega,fun ac2 hac2=>?_⟩
      rw [List.length_map,Int.toNat_natCast]
      have nac2:H ac2=none:=s2.free hac2
      refine kj (fun i τ H3=>∃ v,τ=[v,some (.ref a)]∧Same H H3∧H3 ac2=some (.lst (((List.range i).map fun (j:Nat)=>decide (Rv.lW r r.length (j:Int)=-1)).map V.bl))) ⟨none,rfl,s2.upd nac2,by rw [dO];rfl⟩ ?_ ?_
      · rintro i τ H3 hi ⟨v,rfl,s3,h3⟩
        rw [show (0:Int) + (i:Int)=(i:Int) by omega]
        refine Al ?_
        refine ⟨_,rfl,_,rfl,a,r,i,rfl,s3.seq hS,hB,hi,hn,?_⟩
        refine ⟨_,h3,aV (by rw [List.length_map,List.length_map,List.length_range];omega),_,rfl,s3.upd nac2,?_⟩
        rw [dO,List.range_succ,List.map_append,List.map_append];rfl
      · rintro τ H3 ⟨v,rfl,s3,h3⟩
        refine ⟨ac2,_,rfl,SqL.of h3,?_⟩
        have e:(((List.range r.length).map fun (j:Nat)=>decide (Rv.lW r r.length (j:Int)=-1)).all id)=Rv.isR r:=by
          unfold Rv.isR
          rw [vC,decide_eq_true (show 1≤r.length∧r.length≤40 from ⟨by omega,h2⟩),decide_eq_true hB,Bool.true_and,Bool.true_and,Bool.eq_iff_iff]
          simp only [List.all_eq_true,List.mem_range,decide_eq_true_eq]
        rw [e]
        exact q H3 s3
abbrev fG:Stmt:=top 4
theorem tu:aM ["amount"] ["amount"] (ak fG):=⟨rfl,rfl,rfl,by decide +kernel,rfl,by decide +kernel,by decide +kernel⟩
def m5:Sp:=fun vs H Q _=>∃ (z:Int),vs=[.int z]∧∀ b:Bool,(b=true↔(0≤z∧z≤1000000000000))→Q (.bl b) H
theorem zH {f:Addr} {fd:FuncData} (D:Df K mg "is_water" fG ["amount"] f fd) (CW:∃ t,mg "MOST_WATER"=some (.int 1000000000000 t)):bF P w K mg base CX0 1 f fd ["amount"] m5:=by
  obtain ⟨tW,hMOST_WATER⟩:=CW
  refine D.F.ok tu (fun vs H Q E h=>?_) (fun cdv A outer s H vs Q E hr h=>?_)
  · obtain ⟨_,rfl,_⟩:=h;rfl
  · obtain ⟨z,rfl,q⟩:=h
    refine ⟨_,(aA (aY (pW mj mj aq (pv 0) (iK (v:=.int (1000000000000)) rfl hMOST_WATER ⟨_,rfl⟩)))),?_⟩
    walk_at "go"
    all_goals refine q _ ?_
    all_goals simp only [decide_eq_true_eq,Bool.false_eq_true,true_iff,false_iff]
    all_goals omega
abbrev dh:Stmt:=top 24
theorem gU:aM ["below","one","day","start","back","most"] ["below","one"] (ak dh):=⟨rfl,rfl,rfl,by decide +kernel,rfl,by decide +kernel,by decide +kernel⟩
def vZ (r:List Int) (l:Lic):Prop:=(0≤l.day∧l.day≤1000000∧0≤l.start∧l.start<r.length∧0≤l.most∧l.most≤1000000000000)∧(l.back=-1∨l.back∈(Rv.walk r l.start).drop 1)
def pC (K:PySem.W.Frag) (T:dW):Sp:=fun vs H Q _=>∃ (a t:Addr) (r:List Int) (l:Lic),vs=[.ref a,.ref t]∧SqL K H a (r.map V.int)∧Rv.mW r∧r.length≤900∧SqT K H t (lV l)∧TabsOk T H∧∀ (b:Bool) (H':Hp),aJ T H H'→(b=true↔vZ r l)→Q (.bl b) H'
theorem zM {f f1 f2:Addr} {fd fd1 fd2:FuncData} (D:Df K mg "is_licence" dh ["below","one"] f fd) (B:Blt mg) (C:Mth mg) (CD:∃ t,mg "LAST_DAY"=some (.int 1000000 t))
    (bV:Df K mg "is_water" fG ["amount"] f1 fd1) (jm:bF P w K mg base CX0 1 f1 fd1 ["amount"] m5)
    (kE:Df K mg "way_of" jf ["below","reach"] f2 fd2) (Ai:bF P w K mg base CX0 1 f2 fd2 ["below","reach"] (Ar K)):bF P w K mg base CX0 2 f fd ["below","one"] (pC K T):=by
  obtain ⟨tM,hMOUTH⟩:=C.MOUTH
  obtain ⟨tD,hLAST_DAY⟩:=CD
  refine D.F.ok gU (fun vs H Q E h=>?_) (fun cdv A outer s H vs Q E hr h=>?_)
  · obtain ⟨_,_,_,_,rfl,_⟩:=h;rfl
  · obtain ⟨a,t,r,l,rfl,hA,hR,hn,hT,tk,q⟩:=h
    have hml:((r.map V.int).length:Int)=(r.length:Int):=by rw [List.length_map]
    have O:=Ow.refl tk
    have s0:=O.same
    have no:¬ (0≤l.day∧l.day≤1000000∧0≤l.start∧l.start<r.length∧0≤l.most∧l.most≤1000000000000)→Q (.bl false) H:=fun h=>q _ _ O.same ⟨(fun e=>by cases e),fun z=>absurd z.1 h⟩
    refine ⟨_,(au (jj (pv 1) (rA rfl (fL (bH (i:=2) gU.nd rfl (Or.inl rfl)) (fL (bH (i:=3) gU.nd rfl (Or.inl rfl)) (fL (bH (i:=4) gU.nd rfl (Or.inl rfl)) (fL (bH (i:=5) gU.nd rfl (Or.inl rfl)) lY))))))
      (au (bN (fX (PW.pt (pw_and (j8 mj mj aq (pv 2) (iK (v:=.int (1000000)) rfl hLAST_DAY ⟨_,rfl⟩)) (pw_and (j8 mj pY aq (pv 3) (aR bf rfl B.len PySem.boot_len (aj (pv 0) ao))) (pw_and1 (gC (aL jm (hr.mono (by decide)) rfl bV.m bV.F.kp bV.b .nil bO (aj (pv 5) ao))))))))
        (aA (aY jk))
        aZ)
      (aA (aY (SN (lZ gJ (pv 4) (iK (v:=.int (-1)) rfl hMOUTH ⟨_,rfl⟩) (aX _)) (uQ (lZ xU (pv 4) (pU sZ (aL Ai (hr.mono (by decide)) rfl kE.m kE.F.kp kE.b .nil bO (aj (pv 0) (aj (pv 3) ao))) (pQ aq) xr) (by rfl)))))))),?_⟩
    refine ⟨_,rfl,t,_,rfl,hT,rfl,_,_,rfl,_,_,rfl,_,_,rfl,_,_,rfl,rfl,?_⟩
    walk_at "go"
    all_goals first | (refine no ?_;omega) | skip
    intro b hb
    walk_at "go"
    · have hm:=hb.mp (by assumption)
      have num:0≤l.day∧l.day≤1000000∧0≤l.start∧l.start<r.length∧0≤l.most∧l.most≤1000000000000:=by omega
      exact q _ _ O.same ⟨fun _=>⟨num,.inl (by omega)⟩,fun _=>rfl⟩
    · have hm:=hb.mp (by assumption)
      have num:0≤l.day∧l.day≤1000000∧0≤l.start∧l.start<r.length∧0≤l.most∧l.most≤1000000000000:=by omega
      refine ⟨a,r,l.start,rfl,hA,hR,by omega,by omega,hn,O.got fun lw H2 xs O e=>?_⟩
      subst e
      refine ⟨1,rfl,lw,_,rfl,O.sq 0,fun l1 h1=>?_⟩
      walk_at "nw"
      rw [show yM ((Rv.walk r l.start).map V.int) (some 1) none=((Rv.walk r l.start).drop 1).map V.int from vm _ 1] at O
      refine ⟨l1,_,rfl,.inl (O.sq 0),rfl,yF _,?_⟩
      rw [if_neg Bool.false_ne_true,Kp]
      refine q _ _ O.same ?_
      rw [decide_eq_true_iff]
      exact ⟨fun h=>⟨num,.inr h⟩,fun h=>h.2.resolve_left (by omega)⟩
    · refine no fun z=>?_
      have:=hb.mpr ⟨z.2.2.2.2.1,z.2.2.2.2.2⟩
      simp_all
abbrev cO:Stmt:=top 37
theorem nC:aM ["script","k"] ["script","k"] (ak cO):=⟨rfl,rfl,rfl,by decide +kernel,rfl,by decide +kernel,by decide +kernel⟩
def wQ (K:PySem.W.Frag):Sp:=fun vs H Q _=>∃ (a:Addr) (ns:List Int) (k:Nat),vs=[.ref a,.int (k:Int)]∧SqL K H a (ns.map V.int)∧Q (.int (ns.getD k 0)) H
theorem Kh {f:Addr} {fd:FuncData} (D:Df K mg "_law_cell_at" cO ["script","k"] f fd) (B:Blt mg):bF P w K mg base CX0 1 f fd ["script","k"] (wQ K):=by
  refine D.F.ok nC (fun vs H Q E h=>?_) (fun cdv A outer s H vs Q E hr h=>?_)
  · obtain ⟨a,ns,k,rfl,_⟩:=h;rfl
  · obtain ⟨a,ns,k,rfl,hS,q⟩:=h
    refine ⟨_,(au (bN (aH pY (pv 1) (aR bf rfl B.len PySem.boot_len (aj (pv 0) ao)) (aX _))
        (aA (aY (aG aW (pv 0) (pv 1) (fun _ _=>rfl))))
        aZ)
      (aA (aY aq))),?_⟩
    refine ⟨_,rfl,_,rfl,a,_,rfl,.inl hS,_,_,rfl,rfl,_,rfl,?_⟩
    refine R5 (fun h=>?_) (fun h=>?_)
    · have hk:k<ns.length:=by
        have:=of_decide_eq_true h
        rw [List.length_map] at this;omega
      have e:ns[k]?=some (ns.getD k 0):=by rw [List.getD_eq_getElem?_getD,List.getElem?_eq_getElem hk];rfl
      exact ⟨_,rfl,_,rfl,a,_,_,_,rfl,rfl,hS,bQ e,q⟩
    · have hk:¬ k<ns.length:=fun z=>h (decide_eq_true (by rw [List.length_map];omega))
      have e:ns.getD k 0=0:=by rw [List.getD_eq_getElem?_getD,List.getElem?_eq_none (by omega)];rfl
      rw [e] at q
      exact q
abbrev dZ:Stmt:=top 38
theorem pI:aM ["found"] ["found"] (ak dZ):=⟨rfl,rfl,rfl,by decide +kernel,rfl,by decide +kernel,by decide +kernel⟩
def uF:Sp:=fun vs H Q _=>∃ (z:Int),vs=[.int z]∧Q (.bl true) H
theorem Bf (K:PySem.W.Frag):PySem.W.kitOne K (.type "int") (.type "int")=some true:=by rfl
theorem yt (K:PySem.W.Frag):PySem.W.kitOne K (.type "int") (.type "bool")=some false:=by rfl
theorem uX (K:PySem.W.Frag):PySem.W.kitOne K (.type "list") (.type "list")=some true:=by rfl
theorem zG {f:Addr} {fd:FuncData} (D:Df K mg "_law_whole" dZ ["found"] f fd) (B:Blt mg):bF P w K mg base CX0 1 f fd ["found"] uF:=by
  refine D.F.ok pI (fun vs H Q E h=>?_) (fun cdv A outer s H vs Q E hr h=>?_)
  · obtain ⟨z,rfl,_⟩:=h;rfl
  · obtain ⟨z,rfl,q⟩:=h
    refine ⟨_,(aA (aY (xP (aR gK rfl B.isinstance PyProof.Rows.boot_isinstance (aj (pv 0) (aj (jA (v:=.ty "int") rfl B.int PyProof.Rows.boot_int rfl) ao))) (uQ (Lf (aR gK rfl B.isinstance PyProof.Rows.boot_isinstance (aj (pv 0) (aj (jA (v:=.ty "bool") rfl B.bool PyProof.Rows.boot_bool rfl) ao)))))))),?_⟩
    refine ⟨_,rfl,_,_,_,true,rfl,.int _,Bf K,_,rfl,jK ?_⟩
    exact ⟨_,rfl,_,_,_,false,rfl,.int _,yt K,_,rfl,q⟩
def oh (x:Str):Prop:=1≤x.cps.size∧x.cps.size≤8∧∀ c∈x.cps.toList,97≤c∧c≤122
def Asc (x:Str):Prop:=x.cps.all (·<128)=true∧x.cps.size≤1000
theorem vR:∀ c:Nat,c<128→(!(Builtin.Str.occurrences ("abcdefghijklmnopqrstuvwxyz":Str) ⟨#[c]⟩ 0 ("abcdefghijklmnopqrstuvwxyz":Str).length 1).isEmpty)=decide (97≤c∧c≤122):=by
  have h:∀ k:Fin 128,(!(Builtin.Str.occurrences ("abcdefghijklmnopqrstuvwxyz":Str) ⟨#[k.val]⟩ 0 ("abcdefghijklmnopqrstuvwxyz":Str).length 1).isEmpty)=decide (97≤k.val∧k.val≤122):=by decide +kernel
  exact fun c hc=>h ⟨c,hc⟩
abbrev gV:Stmt:=top 5
theorem vK:aM ["text"] ["text"] (ak gV):=⟨rfl,rfl,rfl,by decide +kernel,rfl,by decide +kernel,by decide +kernel⟩
def qH (T:dW):Sp:=fun vs H Q _=>∃ (x:Str),vs=[.str x]∧Asc x∧TabsOk T H∧∀ (b:Bool) H',(b=true↔oh x)→aJ T H H'→Q (.bl b) H'
structure CN (mg:Str→Option Value):Prop where
  LONGEST_NAME:∃ t,mg "LONGEST_NAME"=some (.int 8 t)
  LETTERS:∃ t,mg "LETTERS"=some (.str "abcdefghijklmnopqrstuvwxyz" t)
theorem xX {f:Addr} {fd:FuncData} (D:Df K mg "is_name" gV ["text"] f fd) (B:Blt mg) (CN:CN mg):bF P w K mg base CX0 1 f fd ["text"] (qH T):=by
  obtain ⟨tM,hLONGEST_NAME⟩:=CN.LONGEST_NAME
  obtain ⟨tL,hLETTERS⟩:=CN.LETTERS
  refine D.F.ok vK (fun vs H Q E h=>?_) (fun cdv A outer s H vs Q E hr h=>?_)
  · obtain ⟨_,rfl,_⟩:=h;rfl
  · obtain ⟨x,rfl,⟨ha,hx⟩,tk,q⟩:=h
    have hu:=hr.units
    have O:=Ow.refl tk
    refine ⟨_,(aA (aY (xP (pW mj mj aq (aR rN rfl B.len PySem.boot_len (aj (pv 0) ao)) (iK (v:=.int (8)) rfl hLONGEST_NAME ⟨_,rfl⟩)) (uQ (aR (lU rfl) rfl B.all PyProof.Rows.boot_all (aj (jy (ak gV) rfl ["text"] rfl ["sign"] [none] (by decide +kernel) (by decide +kernel) (by decide +kernel) rfl (Ld (pv 0)) (fun _ _ _=>(bH (i:=0) (show (["sign"]:List Str).Nodup by decide +kernel) rfl (Or.inl rfl))) (fun _ _ _=>jx) (fun _ _ _=>(lZ xT (pv 0) (iK (v:=.str "abcdefghijklmnopqrstuvwxyz") rfl hLETTERS ⟨_,rfl⟩) (by rfl)))) ao)))))),?_⟩
    have hl:x.length=x.cps.size:=rfl
    refine ⟨_,rfl,x,rfl,(by rw [hl,sizeLine_eq];omega),_,_,rfl,rfl,?_⟩
    refine ⟨_,rfl,?_⟩
    refine ifD (fun h1=>?_) (fun h1=>?_)
    rotate_left
    · exact ⟨_,rfl,jG (q _ _ ⟨(fun z=>nomatch z),fun z=>absurd z.1 (by omega)⟩ O.same)⟩
    refine ⟨_,_,rfl,rfl,_,rfl,?_⟩
    refine ifD (fun h2=>?_) (fun h2=>?_)
    rotate_left
    · exact q _ _ ⟨(fun z=>nomatch z),fun z=>absurd z.2.1 (by omega)⟩ O.same
    refine ⟨_,rfl,x,rfl,ha,fun lw hlw=>?_⟩
    refine Ae (fun i τ H'=>Iv (∃ (v0:Option V) (bs:List Bool),τ=[v0]∧bs.length=i∧(bs.all id=true↔∀ c∈x.cps.toList.take i,97≤c∧c≤122)∧Ow T H H' [(lw,.lst (bs.map V.bl))])) ⟨trivial,none,[],rfl,rfl,⟨(fun _ c hc=>nomatch hc),fun _=>rfl⟩,O.mk' hlw rfl⟩ ?_ ?_
    · rintro i c τ H4 hc ⟨-,v0,bs,rfl,hbl,hb,O⟩
      have hi:i<x.cps.size:=by
        rcases Nat.lt_or_ge i x.cps.size with h | h
        · exact h
        · rw [Array.getElem?_eq_none h] at hc;cases hc
      have hm:x.cps.toList[i]?=some c:=by rw [Array.getElem?_toList];exact hc
      have hc128:c<128:=by
        have:=Array.all_eq_true.mp ha i hi
        rw [Array.getElem?_eq_getElem hi] at hc
        cases hc;exact of_decide_eq_true this
      refine Al ?_
      refine ⟨_,rfl,_,_,rfl,rfl,?_⟩
      rw [vR c hc128]
      refine ⟨_,O.get 0,aV (by rw [List.length_map];omega),?_⟩
      walk_at "pt"
      refine ⟨trivial,_,bs++[decide (97≤c∧c≤122)],rfl,by rw [List.length_append,hbl];rfl,?_,?_⟩
      · rw [Tn.iU hm,List.all_append,Bool.and_eq_true,hb]
        constructor
        · rintro ⟨z1,z2⟩ y hy
          rcases List.mem_append.mp hy with h | h
          · exact z1 y h
          · rw [List.mem_singleton.mp h];simpa using z2
        · intro z
          exact ⟨fun y hy=>z y (List.mem_append_left _ hy),by simpa using z c (List.mem_append_right _ (List.mem_singleton.mpr rfl))⟩
      · rw [List.map_append];exact O
    rintro τ H4 ⟨-,v0,bs,rfl,hbl,hb,O⟩
    refine ⟨lw,_,rfl,O.sq 0,?_⟩
    rw [show x.cps.size=x.cps.toList.length by simp,List.take_length] at hb
    exact q _ _ ⟨fun z=>⟨by omega,by omega,hb.mp z⟩,fun z=>hb.mpr z.2.2⟩ O.same
abbrev bR:Stmt:=top 31
theorem nA:aM ["name"] ["name"] (ak bR):=⟨rfl,rfl,rfl,by decide +kernel,rfl,by decide +kernel,by decide +kernel⟩
def ju (T:dW) (cH:Addr):Sp:=fun vs H Q E=>∃ (x:Str),vs=[.str x]∧Asc x∧TabsOk T H∧(oh x→∀ H',aJ T H H'→Q .non H')∧(¬ oh x→∀ (e:Addr) (H':Hp),aJ T H H'→H' e=none→E (.ref cH) (some e) H')
theorem tH {f f1 cH:Addr} {fd fd1:FuncData} (D:Df K mg "look_at_name" bR ["name"] f fd) (X_NoHolder:m9 K mg "NoHolder" cH)
    (jq:Df K mg "is_name" gV ["text"] f1 fd1) (yX:bF P w K mg base CX0 1 f1 fd1 ["text"] (qH T)):bF P w K mg base (CXE P w) 2 f fd ["name"] (ju T cH):=by
  refine D.F.okX nA (fun vs H Q E h=>?_) (fun cdv A outer s H vs Q E hr h=>?_)
  · obtain ⟨_,rfl,_⟩:=h;rfl
  · obtain ⟨x,rfl,ax,tk,q,qx⟩:=h
    refine ⟨_,(aA (bN (fX (gC (aL yX (hr.mono (by decide)) rfl jq.m jq.F.kp jq.b .nil bO (aj (pv 0) ao))))
        (aA (gA gW rfl (fun _ _ z=>z) rfl X_NoHolder.m X_NoHolder.q (aj aQ ao)))
        aZ)),?_⟩
    refine ⟨_,rfl,x,rfl,ax,tk,fun b H1 hb s1=>?_⟩
    cases b with
    | true=>exact ⟨_,rfl,jG (q (hb.mp rfl) _ s1)⟩
    | false=>exact ⟨_,rfl,jK ⟨szl,fun e he=>qx (fun z=>nomatch hb.mpr z) e _ s1 he⟩⟩
structure Rs where
  p:Addr
  dx:Addr
  lb:Addr
  ll:Addr
  ln:Addr
  lo:Addr
abbrev J1:List Str:=["below","day","licences","names","done"]
abbrev z7 (C:Addr) (A:Rs) (ex:List (Str × V)) (day:Int):HO:=.ins C A.dx (("below",.ref A.lb) :: ("day",.int day) :: ("licences",.ref A.ll) :: ("names",.ref A.ln) :: ("done",.ref A.lo) :: ex)
abbrev RX (C:Addr) (A:Rs) (ex:List (Str × V)) (r:List Int) (day:Int) (us:List V) (ns:List Str) (ds:List V):List (Addr × HO) :=
  [(A.p,z7 C A ex day),(A.dx,.own A.p),(A.lb,.lst (r.map V.int)),(A.ll,.lst us),(A.ln,.lst (ns.map V.str)),(A.lo,.lst ds)]
structure RC (K:PySem.W.Frag) (C:Addr):Prop where
  c:Cls K C
  nB:jl K C "below"
  nD:jl K C "day"
  nL:jl K C "licences"
  nN:jl K C "names"
  nO:jl K C "done"
theorem J2 {K:PySem.W.Frag} {mg:Str→Option Value} {C f0:Addr} (R:Cl K mg "Roll" C f0 J1):RC K C :=
  ⟨R.c,R.n _ (.head _),R.n _ (.tail _ (.head _)),R.n _ (.tail _ (.tail _ (.head _))),R.n _ (.tail _ (.tail _ (.tail _ (.head _)))),R.n _ (.tail _ (.tail _ (.tail _ (.tail _ (.head _)))))⟩
theorem K9 (A:Rs) (ex:List (Str × V)) (day:Int) (z:V):qy "day" z (("below",.ref A.lb) :: ("day",.int day) :: ("licences",.ref A.ll) :: ("names",.ref A.ln) :: ("done",.ref A.lo) :: ex)=((("below",.ref A.lb) :: ("day",z) :: ("licences",.ref A.ll) :: ("names",.ref A.ln) :: ("done",.ref A.lo) :: ex):List (Str × V)):=rfl
inductive je
  | turn
  | file (x:Str) (s m b:Int)
  | sell (n:Int) (y z:Str)
  | part (n:Int) (y:Str) (m:Int) (z:Str)
  | drop (n:Int) (y:Str)
  | move (n:Int) (y:Str) (s:Int)
  | lapse (xs:List Int)
def iQ:je→PyData
  | .turn=>.tuple [.str "turn"]
  | .file x s m b=>.tuple [.str "file",.str x,.int s,.int m,.int b]
  | .sell n y z=>.tuple [.str "sell",.int n,.str y,.str z]
  | .part n y m z=>.tuple [.str "part",.int n,.str y,.int m,.str z]
  | .drop n y=>.tuple [.str "drop",.int n,.str y]
  | .move n y s=>.tuple [.str "move",.int n,.str y,.int s]
  | .lapse xs=>.tuple [.str "lapse",.tuple (xs.map PyData.int)]
structure RS where
  day:Int
  ls:List Lic
  ns:List Str
  ds:List je
inductive EK
  | number | yours | holder | licence | much | alone | full | nG
structure Ec where
  number:Addr
  yours:Addr
  holder:Addr
  licence:Addr
  much:Addr
  alone:Addr
  full:Addr
  nG:Addr
def Ec.at_ (c:Ec):EK→Addr
  | .number=>c.number | .yours=>c.yours | .holder=>c.holder | .licence=>c.licence | .much=>c.much | .alone=>c.alone | .full=>c.full | .nG=>c.nG
def wm (l:Lic) (m:Int):Lic:=⟨l.day,l.start,l.back,m⟩
def wst (l:Lic) (s:Int):Lic:=⟨l.day,s,l.back,l.most⟩
def kJ (ls:List Lic) (d:Int):Nat→List Int
  | 0=>[]
  | i + 1=>kJ ls d i++(match ls[i]? with | some l=>if l.day=d∧0<l.most then [(i:Int)] else [] | none=>[])
def kY (ls:List Lic) (xs:List Int):List Lic:=List.zipWith (fun l x=>wm l (min l.most x)) ls xs
def RS.at_ (S:RS) (n:Int):Lic:=S.ls.getD n.toNat ⟨0,0,0,0⟩
open Classical in
noncomputable def RS.oJ (S:RS) (n:Int) (y:Str) (k:Except EK RS):Except EK RS :=
  if ¬ (0≤n∧n<S.ls.length) then .error .number else if S.ns[n.toNat]?≠some y then .error .yours else k
open Classical in
noncomputable def step (r:List Int) (S:RS):je→Except EK RS
  | .turn=>.ok ⟨S.day + 1,S.ls,S.ns,S.ds++[.turn]⟩
  | .file x s m b=>if ¬ oh x then .error .holder else if m=0∨¬ vZ r ⟨S.day,s,b,m⟩ then .error .licence else if 60≤S.ls.length then .error .full else
      .ok ⟨S.day,S.ls++[⟨S.day,s,b,m⟩],S.ns++[x],S.ds++[.file x s m b]⟩
  | .sell n y z=>S.oJ n y (if ¬ oh z then .error .holder else .ok ⟨S.day,S.ls,S.ns.set n.toNat z,S.ds++[.sell n y z]⟩)
  | .part n y m z=>S.oJ n y (if ¬ oh z then .error .holder else if ¬ (1≤m∧m<(S.at_ n).most) then .error .much else if kJ S.ls (S.at_ n).day S.ls.length≠[n] then .error .alone else if 60≤S.ls.length then .error .full else
      .ok ⟨S.day,S.ls.set n.toNat (wm (S.at_ n) ((S.at_ n).most - m))++[wm (S.at_ n) m],S.ns++[z],S.ds++[.part n y m z]⟩)
  | .drop n y=>S.oJ n y (.ok ⟨S.day,S.ls.set n.toNat (wm (S.at_ n) 0),S.ns,S.ds++[.drop n y]⟩)
  | .move n y s=>S.oJ n y (if ¬ vZ r (wst (S.at_ n) s) then .error .licence else .ok ⟨S.day,S.ls.set n.toNat (wst (S.at_ n) s),S.ns,S.ds++[.move n y s]⟩)
  | .lapse xs=>if xs.length≠S.ls.length then .error .number else if ¬ ∀ x∈xs,0≤x∧x≤1000000000000 then .error .much else
      .ok ⟨S.day,kY S.ls xs,S.ns,S.ds++[.lapse xs]⟩
def RA (K:PySem.W.Frag) (T:dW) (C:Addr) (A:Rs) (ex:List (Str × V)) (r:List Int) (H0 H:Hp) (B:List (Addr × HO)) (S:RS):Prop :=
  ∃ us vs,Ow T H0 H (RX C A ex r S.day us S.ns vs++B)∧cW K H0 us (S.ls.map oF)∧cW K H0 vs (S.ds.map iQ)
structure v8 (ex:List (Str × V)):Prop where
  num:ex.lookup ("look_at_number":Str)=none
  hol:ex.lookup ("look_at_holder":Str)=none
  room:ex.lookup ("look_at_room":Str)=none
  ent:ex.lookup ("enter":Str)=none
  al:ex.lookup ("is_alone":Str)=none
  lmv:ex.lookup ("look_move":Str)=none
  lp:ex.lookup ("lapse":Str)=none
  tn:ex.lookup ("turn":Str)=none
  rl:ex.lookup ("roll":Str)=none
  hs:ex.lookup ("holders":Str)=none
  de:ex.lookup ("deeds":Str)=none
  td:ex.lookup ("today":Str)=none
  fi:ex.lookup ("file":Str)=none
  se:ex.lookup ("sell":Str)=none
  pa:ex.lookup ("part":Str)=none
  dr:ex.lookup ("drop":Str)=none
  mv:ex.lookup ("move":Str)=none
theorem v8.nil:v8 []:=⟨rfl,rfl,rfl,rfl,rfl,rfl,rfl,rfl,rfl,rfl,rfl,rfl,rfl,rfl,rfl,rfl,rfl⟩
structure RP (r:List Int) (ex:List (Str × V)) (S:RS):Prop where
  rv:Rv.mW r
  r40:r.length≤40
  nn:S.ns.length=S.ls.length
  l60:S.ls.length≤60
  dl:S.ds.length≤9000
  e9:ex.length≤100
  ex:v8 ex
def After (K:PySem.W.Frag) (T:dW) (C:Addr) (c:Ec) (A:Rs) (ex:List (Str × V)) (r:List Int) (H0 H:Hp) (B:List (Addr × HO)) (S:RS) (d:je) (v:V) (Q:VK) (E:XK):Prop :=
  (∀ S',step r S d=.ok S'→∀ Hb H',aJ T H0 Hb→RA K T C A ex r Hb H' B S'→Q v H')∧(∀ k,step r S d=.error k→∀ (e:Addr) (H':Hp),aJ T H H'→H' e=none→E (.ref (c.at_ k)) (some e) H')
def jL (K:PySem.W.Frag) (C:Addr) (y:Str):Sp:=fun vs H Q _=>∃ (p dx l:Addr) (fs:List (Str × V)) (us:List V),vs=[.ref p]∧H p=some (.ins C dx fs)∧fs.lookup y=some (.ref l)∧SqL K H l us∧∀ l',H l'=none→Q (.ref l') (upd H l' (.lst us))
abbrev fW:Stmt:=inClass (top 32) 2
theorem qQ:aM ["self"] ["self"] (ak fW):=⟨rfl,rfl,rfl,by decide +kernel,rfl,by decide +kernel,by decide +kernel⟩
section
variable {P:Program} {w:World} {K:PySem.W.Frag} {mg:Str→Option Value} {base:Heap} {C:Addr}
theorem zR {f:Addr} {fd:FuncData} (D:Dm K C "roll" "Roll.roll" fW ["self"] f fd) (B:Blt mg) (R:RC K C):bF P w K mg base CX0 1 f fd ["self"] (jL K C "licences"):=by
  refine D.F.ok qQ (fun vs H Q E h=>?_) (fun cdv A outer s H vs Q E hr h=>?_)
  · obtain ⟨_,_,_,_,_,rfl,_⟩:=h;rfl
  · obtain ⟨p,dx,l,fs,us,rfl,hp,hf,hl,q⟩:=h
    refine ⟨_,(aA (aY (fB dH rfl B.list PyProof.Rows.boot_list (aj (cg (pv 0) rfl) ao)))),?_⟩
    exact ⟨_,rfl,p,C,dx,fs,.ref l,rfl,hp,R.c,R.nL,hf,l,us,rfl,.inl hl,q⟩
end
abbrev cu:Stmt:=inClass (top 32) 3
theorem nF:aM ["self"] ["self"] (ak cu):=⟨rfl,rfl,rfl,by decide +kernel,rfl,by decide +kernel,by decide +kernel⟩
section
variable {P:Program} {w:World} {K:PySem.W.Frag} {mg:Str→Option Value} {base:Heap} {C:Addr}
theorem tQ {f:Addr} {fd:FuncData} (D:Dm K C "holders" "Roll.holders" cu ["self"] f fd) (B:Blt mg) (R:RC K C):bF P w K mg base CX0 1 f fd ["self"] (jL K C "names"):=by
  refine D.F.ok nF (fun vs H Q E h=>?_) (fun cdv A outer s H vs Q E hr h=>?_)
  · obtain ⟨_,_,_,_,_,rfl,_⟩:=h;rfl
  · obtain ⟨p,dx,l,fs,us,rfl,hp,hf,hl,q⟩:=h
    refine ⟨_,(aA (aY (fB dH rfl B.list PyProof.Rows.boot_list (aj (cg (pv 0) rfl) ao)))),?_⟩
    exact ⟨_,rfl,p,C,dx,fs,.ref l,rfl,hp,R.c,R.nN,hf,l,us,rfl,.inl hl,q⟩
end
abbrev dD:Stmt:=inClass (top 32) 4
theorem pO:aM ["self"] ["self"] (ak dD):=⟨rfl,rfl,rfl,by decide +kernel,rfl,by decide +kernel,by decide +kernel⟩
section
variable {P:Program} {w:World} {K:PySem.W.Frag} {mg:Str→Option Value} {base:Heap} {C:Addr}
theorem yd {f:Addr} {fd:FuncData} (D:Dm K C "deeds" "Roll.deeds" dD ["self"] f fd) (B:Blt mg) (R:RC K C):bF P w K mg base CX0 1 f fd ["self"] (jL K C "done"):=by
  refine D.F.ok pO (fun vs H Q E h=>?_) (fun cdv A outer s H vs Q E hr h=>?_)
  · obtain ⟨_,_,_,_,_,rfl,_⟩:=h;rfl
  · obtain ⟨p,dx,l,fs,us,rfl,hp,hf,hl,q⟩:=h
    refine ⟨_,(aA (aY (fB dH rfl B.list PyProof.Rows.boot_list (aj (cg (pv 0) rfl) ao)))),?_⟩
    exact ⟨_,rfl,p,C,dx,fs,.ref l,rfl,hp,R.c,R.nO,hf,l,us,rfl,.inl hl,q⟩
end
abbrev d9:Stmt:=inClass (top 32) 1
theorem pL:aM ["self"] ["self"] (ak d9):=⟨rfl,rfl,rfl,by decide +kernel,rfl,by decide +kernel,by decide +kernel⟩
def uG (C:Addr):Sp:=fun vs H Q _=>∃ (A:Rs) (ex:List (Str × V)) (day:Int),vs=[.ref A.p]∧H A.p=some (z7 C A ex day)∧Q (.int day) H
section
variable {P:Program} {w:World} {K:PySem.W.Frag} {mg:Str→Option Value} {base:Heap} {C:Addr}
theorem xY {f:Addr} {fd:FuncData} (D:Dm K C "today" "Roll.today" d9 ["self"] f fd) (R:RC K C):bF P w K mg base CX0 1 f fd ["self"] (uG C):=by
  refine D.F.ok pL (fun vs H Q E h=>?_) (fun cdv A outer s H vs Q E hr h=>?_)
  · obtain ⟨_,_,_,rfl,_⟩:=h;rfl
  · obtain ⟨A,ex,day,rfl,hp,q⟩:=h
    refine ⟨_,(aA (aY (cg (pv 0) rfl))),?_⟩
    exact ⟨_,rfl,A.p,C,A.dx,_,.int day,rfl,hp,R.c,R.nD,rfl,q⟩
end
abbrev eF:Stmt:=inClass (top 32) 5
theorem qO:aM ["self"] ["self"] (ak eF):=⟨rfl,rfl,rfl,by decide +kernel,rfl,by decide +kernel,by decide +kernel⟩
def sI (K:PySem.W.Frag) (T:dW) (C:Addr) (c:Ec):Sp:=fun vs H Q E=>∃ (A:Rs) (ex:List (Str × V)) (H0:Hp) (B:List (Addr × HO)) (r:List Int) (S:RS),vs=[.ref A.p]∧RA K T C A ex r H0 H B S∧RP r ex S∧After K T C c A ex r H0 H B S .turn .non Q E
section
variable {P:Program} {w:World} {K:PySem.W.Frag} {mg:Str→Option Value} {base:Heap} {T:dW} {C:Addr} {c:Ec}
theorem zO {f:Addr} {fd:FuncData} (D:Dm K C "turn" "Roll.turn" eF ["self"] f fd) (R:RC K C):bF P w K mg base CX0 1 f fd ["self"] (sI K T C c):=by
  refine D.F.ok qO (fun vs H Q E h=>?_) (fun cdv A outer s H vs Q E hr h=>?_)
  · obtain ⟨_,_,_,_,_,_,rfl,_⟩:=h;rfl
  · obtain ⟨A,ex,H0,L,r,S,rfl,⟨us,vs,O,d0,d1⟩,hp,q,-⟩:=h
    have hvl:vs.length=S.ds.length:=by rw [d1.length,List.length_map]
    have hdl:=hp.dl
    have hel:=hp.e9
    refine ⟨_,(au (xg (pv 0) aq Ml)
      (aA (aN (jz PySem.F.plainAttrs_list PySem.F.slot_list_append PySem.F.type_list_append bL (cg (pv 0) rfl) (aj (cP (aj aQ ao)) ao))))),?_⟩
    simp only [List.cons_append,List.nil_append] at O
    refine ⟨_,rfl,A.p,C,A.dx,_,_,rfl,O.get 0,R.c,R.nD,rfl,_,_,rfl,rfl,A.dx,_,O.get 0,(by simp only [List.length_cons];omega),?_⟩
    rw [K9]
    walk_at "pt"
    refine ⟨_,rfl,A.p,C,A.dx,_,.ref A.lo,rfl,O.get 0,R.c,R.nO,rfl,.inl ⟨rfl,_,O.sq 5⟩,szl,fun t ht=>?_⟩
    walk_at "nw"
    refine ⟨A.lo,_,_,rfl,rfl,O.get 6,aV (by omega),?_⟩
    walk_at "pt"
    obtain ⟨Hb,O,sb,e1⟩:=O.frz
    refine q _ rfl Hb _ sb ⟨us,vs++[V.ref t],O,d0.mo sb,?_⟩
    rw [List.map_append]
    exact (d1.mo sb).append (.cons (.tuple (SqT.of e1) (.cons (.str _) .nil)) .nil)
end
abbrev dw:Stmt:=inClass (top 32) 13
theorem pN:aM ["self","one","holder"] ["self","one","holder"] (ak dw):=⟨rfl,rfl,rfl,by decide +kernel,rfl,by decide +kernel,by decide +kernel⟩
def pF (C:Addr):Sp:=fun vs H Q _=>∃ (A:Rs) (ex:List (Str × V)) (day:Int) (us:List V) (ns:List V) (v x:V),vs=[.ref A.p,v,x]∧H A.p=some (z7 C A ex day)∧H A.ll=some (.lst us)∧H A.ln=some (.lst ns)∧us.length≤900∧ns.length≤900∧A.p≠A.ll∧A.p≠A.ln∧A.ln≠A.ll ∧
  Q (.int us.length) (upd (upd H A.ll (.lst (us++[v]))) A.ln (.lst (ns++[x])))
section
variable {P:Program} {w:World} {K:PySem.W.Frag} {mg:Str→Option Value} {base:Heap} {T:dW} {C:Addr}
theorem yc {f:Addr} {fd:FuncData} (D:Dm K C "enter" "Roll.enter" dw ["self","one","holder"] f fd) (B:Blt mg) (R:RC K C):bF P w K mg base CX0 1 f fd ["self","one","holder"] (pF C):=by
  refine D.F.ok pN (fun vs H Q E h=>?_) (fun cdv A outer s H vs Q E hr h=>?_)
  · obtain ⟨_,_,_,_,_,_,_,rfl,_⟩:=h;rfl
  · obtain ⟨A,ex,day,us,ns,v,x,rfl,hp,hl,hn,ul,nl,n1,n2,n3,q⟩:=h
    refine ⟨_,(au (aN (jz PySem.F.plainAttrs_list PySem.F.slot_list_append PySem.F.type_list_append bL (cg (pv 0) rfl) (aj (pv 1) ao)))
      (au (aN (jz PySem.F.plainAttrs_list PySem.F.slot_list_append PySem.F.type_list_append bL (cg (pv 0) rfl) (aj (pv 2) ao)))
      (aA (aY (bK lO (aR bf rfl B.len PySem.boot_len (aj (cg (pv 0) rfl) ao)) aq))))),?_⟩
    refine ⟨_,rfl,A.p,C,A.dx,_,.ref A.ll,rfl,hp,R.c,R.nL,rfl,.inl ⟨rfl,_,SqL.of hl⟩,_,rfl,A.ll,_,_,rfl,rfl,hl,aV (by omega),?_⟩
    have hp:=(bh (H:=H) (o:=.lst (us++[v])) n1).trans hp
    have hn:=(bh (H:=H) (o:=.lst (us++[v])) n3).trans hn
    have hl:upd H A.ll (.lst (us++[v])) A.ll=some (.lst (us++[v])):=dO
    refine ⟨_,rfl,A.p,C,A.dx,_,.ref A.ln,rfl,hp,R.c,R.nN,rfl,.inl ⟨rfl,_,SqL.of hn⟩,_,rfl,A.ln,_,_,rfl,rfl,hn,aV (by omega),?_⟩
    have hp:=(bh (o:=.lst (ns++[x])) n2).trans hp
    have hl:=(bh (o:=.lst (ns++[x])) n3.symm).trans hl
    refine ⟨_,rfl,A.p,C,A.dx,_,.ref A.ll,rfl,hp,R.c,R.nL,rfl,A.ll,_,rfl,.inl (SqL.of hl),_,_,rfl,rfl,?_⟩
    dsimp only
    rw [show (((us++[v]).length:Nat):Int) - 1=(us.length:Int) by rw [List.length_append];simp]
    exact q
end
abbrev bx:Stmt:=inClass (top 32) 17
theorem kI:aM ["self"] ["self"] (ak bx):=⟨rfl,rfl,rfl,by decide +kernel,rfl,by decide +kernel,by decide +kernel⟩
def sS (K:PySem.W.Frag) (T:dW) (C cF:Addr):Sp:=fun vs H Q E=>∃ (A:Rs) (ex:List (Str × V)) (day:Int) (us:List V),vs=[.ref A.p]∧H A.p=some (z7 C A ex day)∧SqL K H A.ll us∧TabsOk T H∧(us.length<60→Q .non H)∧(60≤us.length→∀ (e:Addr) (H':Hp),aJ T H H'→H' e=none→E (.ref cF) (some e) H')
section
variable {P:Program} {w:World} {K:PySem.W.Frag} {mg:Str→Option Value} {base:Heap} {T:dW} {C:Addr}
theorem zQ {f cF:Addr} {fd:FuncData} (D:Dm K C "look_at_room" "Roll.look_at_room" bx ["self"] f fd) (B:Blt mg) (R:RC K C) (X_Full:m9 K mg "Full" cF) (CL:∃ t,mg "MOST_LICENCES"=some (.int 60 t)):bF P w K mg base (CXE P w) 1 f fd ["self"] (sS K T C cF):=by
  obtain ⟨tL,hMOST_LICENCES⟩:=CL
  refine D.F.okX kI (fun vs H Q E h=>?_) (fun cdv A outer s H vs Q E hr h=>?_)
  · obtain ⟨_,_,_,_,rfl,_⟩:=h;rfl
  · obtain ⟨A,ex,day,us,rfl,hp,hl,tk,q,qx⟩:=h
    refine ⟨_,(aA (bN (aH SQ (aR bf rfl B.len PySem.boot_len (aj (cg (pv 0) rfl) ao)) (iK (v:=.int (60)) rfl hMOST_LICENCES ⟨_,rfl⟩) (aX _))
        (aA (gA gW rfl (fun _ _ z=>z) rfl X_Full.m X_Full.q (aj aQ ao)))
        aZ)),?_⟩
    refine ⟨_,rfl,A.p,C,A.dx,_,.ref A.ll,rfl,hp,R.c,R.nL,rfl,A.ll,_,rfl,.inl hl,_,_,rfl,rfl,_,rfl,ifD (fun h=>?_) (fun h=>?_)⟩
    · have h:(60:Int)≤(us.length:Int):=h
      exact ⟨szl,fun e he=>qx (by omega) e H (aJ.refl tk) he⟩
    · have h:¬ (60:Int)≤(us.length:Int):=h
      exact q (by omega)
end
abbrev bw:Stmt:=inClass (top 32) 15
theorem jH:aM ["self","number"] ["self","number"] (ak bw):=⟨rfl,rfl,rfl,by decide +kernel,rfl,by decide +kernel,by decide +kernel⟩
def oR (K:PySem.W.Frag) (T:dW) (C cN:Addr):Sp:=fun vs H Q E=>∃ (A:Rs) (ex:List (Str × V)) (day:Int) (us:List V) (n:Int),vs=[.ref A.p,.int n]∧H A.p=some (z7 C A ex day)∧SqL K H A.ll us∧TabsOk T H∧(0≤n→n<us.length→Q .non H)∧(¬ (0≤n∧n<us.length)→∀ (e:Addr) (H':Hp),aJ T H H'→H' e=none→E (.ref cN) (some e) H')
section
variable {P:Program} {w:World} {K:PySem.W.Frag} {mg:Str→Option Value} {base:Heap} {T:dW} {C:Addr}
theorem tK {f cN:Addr} {fd:FuncData} (D:Dm K C "look_at_number" "Roll.look_at_number" bw ["self","number"] f fd) (B:Blt mg) (R:RC K C) (X_NoNumber:m9 K mg "NoNumber" cN):bF P w K mg base (CXE P w) 1 f fd ["self","number"] (oR K T C cN):=by
  refine D.F.okX jH (fun vs H Q E h=>?_) (fun cdv A outer s H vs Q E hr h=>?_)
  · obtain ⟨_,_,_,_,_,rfl,_⟩:=h;rfl
  · obtain ⟨A,ex,day,us,n,rfl,hp,hl,tk,q,qx⟩:=h
    refine ⟨_,(aA (bN (fX (j8 mj pY aq (pv 1) (aR bf rfl B.len PySem.boot_len (aj (cg (pv 0) rfl) ao))))
        (aA (gA gW rfl (fun _ _ z=>z) rfl X_NoNumber.m X_NoNumber.q (aj aQ ao)))
        aZ)),?_⟩
    refine ⟨_,rfl,_,_,rfl,rfl,_,rfl,ifD (fun h1=>?_) (fun h1=>?_)⟩
    rotate_left
    · refine ⟨_,rfl,jK ⟨szl,fun e he=>qx (fun z=>h1 z.1) e H (aJ.refl tk) he⟩⟩
    refine ⟨_,rfl,A.p,C,A.dx,_,.ref A.ll,rfl,hp,R.c,R.nL,rfl,A.ll,_,rfl,.inl hl,_,_,rfl,rfl,_,rfl,ifN (ifD (fun h2=>?_) (fun h2=>?_))⟩
    · exact q h1 h2
    · exact ⟨szl,fun e he=>qx (fun z=>h2 z.2) e H (aJ.refl tk) he⟩
end
abbrev aK:Stmt:=inClass (top 32) 16
theorem jJ:aM ["self","number","holder"] ["self","number","holder"] (ak aK):=⟨rfl,rfl,rfl,by decide +kernel,rfl,by decide +kernel,by decide +kernel⟩
def ji (K:PySem.W.Frag) (T:dW) (C cN cY:Addr):Sp:=fun vs H Q E=>∃ (A:Rs) (ex:List (Str × V)) (day:Int) (us:List V) (ns:List Str) (n:Int) (y:Str),vs=[.ref A.p,.int n,.str y]∧H A.p=some (z7 C A ex day)∧SqL K H A.ll us∧SqL K H A.ln (ns.map V.str)∧us.length=ns.length∧v8 ex∧TabsOk T H ∧
  (0≤n→n<ns.length→ns[n.toNat]?=some y→Q .non H)∧(¬ (0≤n∧n<ns.length)→∀ (e:Addr) (H':Hp),aJ T H H'→H' e=none→E (.ref cN) (some e) H') ∧
  (0≤n→n<ns.length→ns[n.toNat]?≠some y→∀ (e:Addr) (H':Hp),aJ T H H'→H' e=none→E (.ref cY) (some e) H')
section
variable {P:Program} {w:World} {K:PySem.W.Frag} {mg:Str→Option Value} {base:Heap} {T:dW} {C:Addr}
theorem tO {f f1 cN cY:Addr} {fd fd1:FuncData} (D:Dm K C "look_at_holder" "Roll.look_at_holder" aK ["self","number","holder"] f fd) (B:Blt mg) (R_Roll:RC K C) (X_NotYours:m9 K mg "NotYours" cY)
    (cI:Dm K C "look_at_number" "Roll.look_at_number" bw ["self","number"] f1 fd1) (j4:bF P w K mg base (CXE P w) 1 f1 fd1 ["self","number"] (oR K T C cN)) :
    bF P w K mg base (CXE P w) 2 f fd ["self","number","holder"] (ji K T C cN cY):=by
  have R:=R_Roll
  refine D.F.okX jJ (fun vs H Q E h=>?_) (fun cdv A outer s H vs Q E hr h=>?_)
  · obtain ⟨_,_,_,_,_,_,_,rfl,_⟩:=h;rfl
  · obtain ⟨A,ex,day,us,ns,n,y,rfl,hp,hl,hn,hul,hex,tk,q,qN,qY⟩:=h
    refine ⟨_,(au (aN (cU (pv 0) R_Roll.c cI.m j4 (hr.mono (by decide)) cI.b .nil iM (aj (pv 1) ao)))
      (aA (bN (aH xR (aG aW (cg (pv 0) rfl) (pv 1) (fun _ _=>rfl)) (pv 2) (aX _))
        (aA (gA gW rfl (fun _ _ z=>z) rfl X_NotYours.m X_NotYours.q (aj aQ ao)))
        aZ))),?_⟩
    refine ⟨_,rfl,A.p,A.dx,_,rfl,hp,hex.num,_,rfl,A,ex,day,us,n,rfl,hp,hl,tk,fun h0 h1=>?_,fun h=>qN (fun z=>h (by omega))⟩
    obtain ⟨k,rfl⟩:=Int.eq_ofNat_of_zero_le h0
    obtain ⟨x,hx⟩:∃ x,ns[k]?=some x:=⟨_,List.getElem?_eq_getElem (by omega)⟩
    refine ⟨_,rfl,A.p,C,A.dx,_,.ref A.ln,rfl,hp,R.c,R.nN,rfl,_,rfl,A.ln,_,_,_,rfl,rfl,hn,fZ (show (ns.map V.str)[k]?=some (.str x) by rw [List.getElem?_map,hx];rfl),_,rfl,rfl,_,rfl,ifN (ifD (fun h=>?_) (fun h=>?_))⟩
    · exact q h0 (by omega) (by rw [Int.toNat_natCast,hx,V.str.inj h])
    · refine ⟨szl,fun e he=>?_⟩
      exact qY h0 (by omega) (fun z=>h (by rw [Int.toNat_natCast,hx] at z;rw [Option.some.inj z])) e H (aJ.refl tk) he
end
abbrev fO:Stmt:=top 25
theorem qL:aM ["one"] ["one"] (ak fO):=⟨rfl,rfl,rfl,by decide +kernel,rfl,by decide +kernel,by decide +kernel⟩
def Ax (K:PySem.W.Frag):Sp:=fun vs H Q _=>∃ (a:Addr) (l:Lic),vs=[.ref a]∧SqT K H a (lV l)∧Q (.int l.day) H
theorem Ls {f:Addr} {fd:FuncData} (D:Df K mg "day_filed" fO ["one"] f fd):bF P w K mg base CX0 1 f fd ["one"] (Ax K):=by
  refine D.F.ok qL (fun vs H Q E h=>?_) (fun cdv A outer s H vs Q E hr h=>?_)
  · obtain ⟨_,_,rfl,_⟩:=h;rfl
  · obtain ⟨a,l,rfl,hT,q⟩:=h
    exact ⟨_,(aA (aY (aG aD (pv 0) aq (fun _ _=>rfl)))),_,rfl,a,_,0,_,rfl,rfl,hT,rfl,q⟩
abbrev fM:Stmt:=top 26
theorem vJ:aM ["one"] ["one"] (ak fM):=⟨rfl,rfl,rfl,by decide +kernel,rfl,by decide +kernel,by decide +kernel⟩
def nq (K:PySem.W.Frag):Sp:=fun vs H Q _=>∃ (a:Addr) (l:Lic),vs=[.ref a]∧SqT K H a (lV l)∧Q (.int l.most) H
theorem Kc {f:Addr} {fd:FuncData} (D:Df K mg "most_of" fM ["one"] f fd):bF P w K mg base CX0 1 f fd ["one"] (nq K):=by
  refine D.F.ok vJ (fun vs H Q E h=>?_) (fun cdv A outer s H vs Q E hr h=>?_)
  · obtain ⟨_,_,rfl,_⟩:=h;rfl
  · obtain ⟨a,l,rfl,hT,q⟩:=h
    exact ⟨_,(aA (aY (aG aD (pv 0) aq (fun _ _=>rfl)))),_,rfl,a,_,3,_,rfl,rfl,hT,rfl,q⟩
abbrev cT:Stmt:=top 28
theorem qJ:aM ["one","most"] ["one","most"] (ak cT):=⟨rfl,rfl,rfl,by decide +kernel,rfl,by decide +kernel,by decide +kernel⟩
def wI (K:PySem.W.Frag):Sp:=fun vs H Q _=>∃ (a:Addr) (l:Lic) (m:Int),vs=[.ref a,.int m]∧SqT K H a (lV l)∧∀ t,H t=none→Q (.ref t) (upd H t (.tup (lV (wm l m))))
theorem SX {f:Addr} {fd:FuncData} (D:Df K mg "with_most" cT ["one","most"] f fd):bF P w K mg base CX0 1 f fd ["one","most"] (wI K):=by
  refine D.F.ok qJ (fun vs H Q E h=>?_) (fun cdv A outer s H vs Q E hr h=>?_)
  · obtain ⟨_,_,_,rfl,_⟩:=h;rfl
  · obtain ⟨a,l,m,rfl,hT,q⟩:=h
    refine ⟨_,(aA (aY (cP (aj (aG aD (pv 0) aq (fun _ _=>rfl)) (aj (aG aD (pv 0) aq (fun _ _=>rfl)) (aj (aG aD (pv 0) aq (fun _ _=>rfl)) (aj (pv 1) ao))))))),?_⟩
    exact ⟨_,rfl,a,_,0,_,rfl,rfl,hT,rfl,_,rfl,a,_,1,_,rfl,rfl,hT,rfl,_,rfl,a,_,2,_,rfl,rfl,hT,rfl,_,rfl,szl,q⟩
abbrev dY:Stmt:=top 27
theorem pH:aM ["one","start"] ["one","start"] (ak dY):=⟨rfl,rfl,rfl,by decide +kernel,rfl,by decide +kernel,by decide +kernel⟩
def Aq (K:PySem.W.Frag):Sp:=fun vs H Q _=>∃ (a:Addr) (l:Lic) (m:Int),vs=[.ref a,.int m]∧SqT K H a (lV l)∧∀ t,H t=none→Q (.ref t) (upd H t (.tup (lV (wst l m))))
theorem Lj {f:Addr} {fd:FuncData} (D:Df K mg "with_start" dY ["one","start"] f fd):bF P w K mg base CX0 1 f fd ["one","start"] (Aq K):=by
  refine D.F.ok pH (fun vs H Q E h=>?_) (fun cdv A outer s H vs Q E hr h=>?_)
  · obtain ⟨_,_,_,rfl,_⟩:=h;rfl
  · obtain ⟨a,l,m,rfl,hT,q⟩:=h
    refine ⟨_,(aA (aY (cP (aj (aG aD (pv 0) aq (fun _ _=>rfl)) (aj (pv 1) (aj (aG aD (pv 0) aq (fun _ _=>rfl)) (aj (aG aD (pv 0) aq (fun _ _=>rfl)) ao))))))),?_⟩
    exact ⟨_,rfl,a,_,0,_,rfl,rfl,hT,rfl,_,rfl,_,rfl,a,_,2,_,rfl,rfl,hT,rfl,_,rfl,a,_,3,_,rfl,rfl,hT,rfl,szl,q⟩
theorem oN (ls:List Lic) (d:Int):∀ i,(kJ ls d i).length≤i
  | 0=>Nat.le_refl _
  | i + 1=>by
    have:=oN ls d i
    unfold kJ
    rw [List.length_append]
    split
    · split <;> simp <;> omega
    · simp;omega
abbrev bT:Stmt:=inClass (top 32) 14
theorem iJ:aM ["self","number","day","taking"] ["self","number"] (ak bT):=⟨rfl,rfl,rfl,by decide +kernel,rfl,by decide +kernel,by decide +kernel⟩
def uN (K:PySem.W.Frag) (T:dW) (C:Addr):Sp:=fun vs H Q _=>∃ (A:Rs) (ex:List (Str × V)) (day:Int) (us:List V) (ls:List Lic) (n:Nat) (l:Lic),vs=[.ref A.p,.int (n:Int)]∧H A.p=some (z7 C A ex day)∧SqL K H A.ll us∧cW K H us (ls.map oF)∧ls[n]?=some l∧ls.length≤64∧TabsOk T H ∧
  ∀ H',aJ T H H'→Q (.bl (decide (kJ ls l.day ls.length=[(n:Int)]))) H'
section
variable {P:Program} {w:World} {K:PySem.W.Frag} {mg:Str→Option Value} {base:Heap} {T:dW} {C:Addr}
theorem yg {f f1 f2:Addr} {fd fd1 fd2:FuncData} (D:Dm K C "is_alone" "Roll.is_alone" bT ["self","number"] f fd) (B:Blt mg) (R:RC K C)
    (eV:Df K mg "day_filed" fO ["one"] f1 fd1) (ou:bF P w K mg base CX0 1 f1 fd1 ["one"] (Ax K))
    (bB:Df K mg "most_of" fM ["one"] f2 fd2) (iG:bF P w K mg base CX0 1 f2 fd2 ["one"] (nq K)):bF P w K mg base CX0 2 f fd ["self","number"] (uN K T C):=by
  refine D.F.ok iJ (fun vs H Q E h=>?_) (fun cdv A outer s H vs Q E hr h=>?_)
  · obtain ⟨_,_,_,_,_,_,_,rfl,_⟩:=h;rfl
  · obtain ⟨A,ex,day,us,ls,n,l,rfl,hp,hl,d0,hn,l64,tk,q⟩:=h
    have hu:=hr.units
    have O:=Ow.refl tk
    have hul:us.length=ls.length:=by rw [d0.length,List.length_map]
    obtain ⟨al,hal,hT⟩:=d0.jW hn
    refine ⟨_,(au (bG (i:=2) iJ.nd rfl (Or.inr rfl) (aL ou (hr.mono (by decide)) rfl eV.m eV.F.kp eV.b .nil bO (aj (aG aW (cg (pv 0) rfl) (pv 1) (fun _ _=>rfl)) ao)))
      (au (j9 (i:=3) (ak bT) rfl ["self","number","day","taking"] rfl ["other","one","day"] [none,none,some 2] (by decide +kernel) (by decide +kernel) (by decide +kernel) rfl iJ.nd rfl rfl (pR rfl B.enumerate (aj (cg (pv 0) rfl) ao)) (fun _ _ _=>(xK (K:=K) (n:=2) rfl rfl (fL (bH (i:=0) (show (["other","one","day"]:List Str).Nodup by decide +kernel) rfl (Or.inl rfl)) (fL (bH (i:=1) (show (["other","one","day"]:List Str).Nodup by decide +kernel) rfl (Or.inl rfl)) lY)))) (fun _ _ _=>(pP (PW.pt (pw_and (aH gJ (aL ou (hr.mono (by decide)) rfl eV.m eV.F.kp eV.b .nil bO (aj (pv 1) ao)) (pv 2) (aX _)) (pw_and1 (aH J7 (aL iG (hr.mono (by decide)) rfl bB.m bB.F.kp bB.b .nil bO (aj (pv 1) ao)) aq (aX _))))))) (fun _ _ _=>(pv 0)) rfl)
      (aA (aY (lZ (Bd hu) (pv 3) (gF (aj (pv 1) ao)) (aX _)))))),?_⟩
    refine ⟨_,rfl,A.p,C,A.dx,_,.ref A.ll,rfl,hp,R.c,R.nL,rfl,_,rfl,A.ll,_,_,_,rfl,rfl,hl,fZ hal,al,l,rfl,hT,?_⟩
    refine ⟨_,rfl,A.p,C,A.dx,_,.ref A.ll,rfl,hp,R.c,R.nL,rfl,A.ll,_,rfl,hl,fun lw hlw=>?_⟩
    refine rK (K:=K) (xs:=us) (fun i τ H'=>Iv (∃ (v0 v1:Option V),τ=[v0,v1,some (.int l.day)]∧Ow T H H' [(lw,.lst ((kJ ls l.day i).map V.int))]))
      ⟨trivial,none,none,rfl,O.mk' hlw rfl⟩ (fun i τ H' _ ⟨_,_,_,_,O⟩=>hl.mo O.same) ?_ ?_
    · rintro i y T0 τ H5 hy ⟨-,v0,v1,rfl,O⟩ hT0
      obtain ⟨al,l2,rfl,hl2,hT2⟩:=d0.tY hy
      have hi:=(List.getElem?_eq_some_iff.mp hl2).1
      have ht:=oN ls l.day i
      walk_at "nw"
      refine ⟨T0,_,rfl,O.sqT 0,rfl,_,_,rfl,_,_,rfl,rfl,?_⟩
      have O:=O.tail
      have hT3:=hT2.mo O.same
      refine ⟨_,rfl,al,l2,rfl,hT3,_,rfl,rfl,_,rfl,ifI (fun hd=>?_) (fun hd=>?_)⟩
      · refine ⟨_,rfl,al,l2,rfl,hT3,_,_,rfl,rfl,_,rfl,ifD (fun hm=>?_) (fun hm=>?_)⟩
        · refine ⟨_,rfl,_,O.get 0,aV (by rw [List.length_map];omega),?_⟩
          walk_at "pt"
          refine ⟨trivial,_,_,rfl,?_⟩
          unfold kJ
          rw [hl2]
          simp only [if_pos (And.intro hd hm)]
          rw [List.map_append];exact O
        · refine ⟨trivial,_,_,rfl,?_⟩
          unfold kJ
          rw [hl2]
          simp only [if_neg (fun z:l2.day=l.day∧0<l2.most=>hm z.2),List.append_nil]
          exact O
      · refine ⟨trivial,_,_,rfl,?_⟩
        unfold kJ
        rw [hl2]
        simp only [if_neg (fun z:l2.day=l.day∧0<l2.most=>hd z.1),List.append_nil]
        exact O
    rintro τ H5 ⟨-,v0,v1,rfl,O⟩
    rw [hul] at O
    refine ⟨_,rfl,_,rfl,szl,fun l0 hl0=>?_⟩
    walk_at "nw"
    refine ⟨lw,l0,kJ ls l.day ls.length,[(n:Int)],rfl,rfl,O.sq 1,O.sq 0,?_⟩
    rw [if_neg Bool.false_ne_true]
    exact q _ O.same
end
theorem oY {S:RS} {n:Int} {k:Nat} {l:Lic} (e:n=(k:Int)) (h:S.ls[k]?=some l):S.at_ n=l:=by
  unfold RS.at_
  rw [e,Int.toNat_natCast,List.getD_eq_getElem?_getD,h];rfl
section
variable {K:PySem.W.Frag} {T:dW} {C:Addr} {c:Ec} {A:Rs} {ex:List (Str × V)} {r:List Int} {H0 H:Hp} {B:List (Addr × HO)} {S S':RS} {d:je} {v:V} {Q:VK} {E:XK} {n:Int} {y:Str} {k:Except EK RS} {ek:EK}
theorem vB (h:¬ (0≤n∧n<S.ls.length)):S.oJ n y k=.error .number:=if_pos h
theorem vY (h0:0≤n) (h1:n<S.ls.length) (h:S.ns[n.toNat]?≠some y):S.oJ n y k=.error .yours:=by unfold RS.oJ;rw [if_neg (not_not_intro ⟨h0,h1⟩),if_pos h]
theorem qt (h0:0≤n) (h1:n<S.ls.length) (h:S.ns[n.toNat]?=some y):S.oJ n y k=k:=by unfold RS.oJ;rw [if_neg (not_not_intro ⟨h0,h1⟩),if_neg (not_not_intro h)]
theorem After.oJ {k:Except EK RS} (q:After K T C c A ex r H0 H B S d v Q E) (hk:step r S d=S.oJ n y k) (hnn:S.ns.length=S.ls.length) :
    (¬ (0≤n∧n<S.ns.length)→∀ (e:Addr) (H':Hp),aJ T H H'→H' e=none→E (.ref c.number) (some e) H')∧(0≤n→n<S.ns.length→S.ns[n.toNat]?≠some y→∀ (e:Addr) (H':Hp),aJ T H H'→H' e=none→E (.ref c.yours) (some e) H') :=
  ⟨fun h=>q.2 .number (hk.trans (vB (by rw [← hnn];exact h))),fun h0 h1 h=>q.2 .yours (hk.trans (vY h0 (by rw [← hnn];exact h1) h))⟩
end
theorem Den.RM {K:PySem.W.Frag} {H:Hp} {a:Addr} {x y:V} {d e:PyData} (h:H a=some (.tup [x,y])) (h1:Den K H x d) (h2:Den K H y e):Den K H (.ref a) (.tuple [d,e]):=.tuple (SqT.of h) (.cons h1 (.cons h2 .nil))
abbrev eO:Stmt:=inClass (top 32) 9
theorem qT:aM ["self","number","holder"] ["self","number","holder"] (ak eO):=⟨rfl,rfl,rfl,by decide +kernel,rfl,by decide +kernel,by decide +kernel⟩
def sY (K:PySem.W.Frag) (T:dW) (C:Addr) (c:Ec):Sp:=fun vs H Q E=>∃ (A:Rs) (ex:List (Str × V)) (H0:Hp) (B:List (Addr × HO)) (r:List Int) (S:RS) (n:Int) (y:Str),vs=[.ref A.p,.int n,.str y]∧RA K T C A ex r H0 H B S∧RP r ex S∧After K T C c A ex r H0 H B S (.drop n y) .non Q E
section
variable {P:Program} {w:World} {K:PySem.W.Frag} {mg:Str→Option Value} {base:Heap} {T:dW} {C:Addr} {c:Ec}
theorem zX {f f1 f2:Addr} {fd fd1 fd2:FuncData} (D:Dm K C "drop" "Roll.drop" eO ["self","number","holder"] f fd) (R_Roll:RC K C)
    (aF:Dm K C "look_at_holder" "Roll.look_at_holder" aK ["self","number","holder"] f1 fd1) (bC:bF P w K mg base (CXE P w) 2 f1 fd1 ["self","number","holder"] (ji K T C c.number c.yours))
    (aO:Df K mg "with_most" cT ["one","most"] f2 fd2) (gb:bF P w K mg base CX0 1 f2 fd2 ["one","most"] (wI K)):bF P w K mg base (CXE P w) 3 f fd ["self","number","holder"] (sY K T C c):=by
  have R:=R_Roll
  refine D.F.okX qT (fun vs H Q E h=>?_) (fun cdv A outer s H vs Q E hr h=>?_)
  · obtain ⟨_,_,_,_,_,_,_,_,rfl,_⟩:=h;rfl
  · obtain ⟨A,ex,H0,L,r,S,n,y,rfl,⟨us,vs,O,d0,d1⟩,hp,q⟩:=h
    have hul:us.length=S.ls.length:=by rw [d0.length,List.length_map]
    have hvl:vs.length=S.ds.length:=by rw [d1.length,List.length_map]
    have hnn:=hp.nn
    have hdl:=hp.dl
    obtain ⟨qN,qY⟩:=After.oJ (n:=n) (y:=y) q rfl hnn
    refine ⟨_,(au (aN (cU (pv 0) R_Roll.c aF.m bC (hr.mono (by decide)) aF.b .nil iM (aj (pv 1) (aj (pv 2) ao))))
      (au (jj (aL gb (hr.mono (by decide)) rfl aO.m aO.F.kp aO.b .nil bO (aj (aG aW (cg (pv 0) rfl) (pv 1) (fun _ _=>rfl)) (aj aq ao))) (jF (cg (pv 0) rfl) (pv 1) set_list))
      (aA (aN (jz PySem.F.plainAttrs_list PySem.F.slot_list_append PySem.F.type_list_append bL (cg (pv 0) rfl) (aj (cP (aj aQ (aj (pv 1) (aj (pv 2) ao)))) ao)))))),?_⟩
    refine ⟨_,rfl,A.p,A.dx,_,rfl,O.get 0,(by exact hp.ex.hol),_,rfl,_,rfl,A,ex,S.day,us,S.ns,n,y,rfl,O.get 0,O.sq 3,O.sq 4,by omega,hp.ex,O.same.t1,fun h0 h1 hx=>?_,qN,qY⟩
    have hst:step r S (.drop n y)=.ok ⟨S.day,S.ls.set n.toNat (wm (S.at_ n) 0),S.ns,S.ds++[.drop n y]⟩:=qt h0 (by omega) hx
    obtain ⟨k,rfl⟩:=Int.eq_ofNat_of_zero_le h0
    obtain ⟨l,hl⟩:∃ l,S.ls[k]?=some l:=⟨_,List.getElem?_eq_getElem (by omega)⟩
    obtain ⟨al,hal,hT⟩:=d0.jW hl
    rw [oY rfl hl,Int.toNat_natCast] at hst
    refine ⟨_,rfl,A.p,C,A.dx,_,.ref A.ll,rfl,O.get 0,R.c,R.nL,rfl,_,rfl,A.ll,_,_,_,rfl,rfl,O.sq 3,fZ hal,al,l,0,rfl,hT.mo O.same,fun t1 ht1=>?_⟩
    walk_at "nw"
    refine ⟨_,rfl,A.p,C,A.dx,_,.ref A.ll,rfl,O.get 1,R.c,R.nL,rfl,_,rfl,?_⟩
    refine jT O 4 rfl (iY (by omega)) fun H6 O=>?_
    refine ⟨_,rfl,A.p,C,A.dx,_,.ref A.lo,rfl,O.get 1,R.c,R.nO,rfl,.inl ⟨rfl,_,O.sq 6⟩,_,rfl,_,rfl,szl,fun t2 ht2=>?_⟩
    walk_at "nw"
    refine ⟨A.lo,_,_,rfl,rfl,O.get 7,aV (by omega),?_⟩
    generalize hE:upd _ _ _=Hn
    have O:=Ow.mV O 7 rfl hE rfl
    have O:Ow T H0 Hn ((t2,.tup [.str "drop",.int (k:Int),.str y]) :: (t1,.tup (lV (wm l 0))) :: (RX C A ex r S.day (us.set k (.ref t1)) S.ns (vs++[V.ref t2])++L)):=O
    obtain ⟨Hb,O,sb,e2⟩:=O.frz
    obtain ⟨Hc,O,sc,e1⟩:=O.frz
    have e2:=sc.keep _ _ e2 (fun _ z=>nomatch z)
    refine q.1 _ hst Hc _ (sb.trans sc) ⟨us.set k (.ref t1),vs++[V.ref t2],O,?_,?_⟩
    · rw [List.map_set]
      exact ((d0.mo sb).mo sc).set (Den.lic (l:=wm l 0) (SqT.of e1)) k
    · rw [List.map_append]
      exact ((d1.mo sb).mo sc).append (.cons (.tuple (SqT.of e2) (.cons (.str _) (.cons (.int _) (.cons (.str _) .nil)))) .nil)
end
abbrev eG:Stmt:=inClass (top 32) 7
theorem qP:aM ["self","number","holder","to"] ["self","number","holder","to"] (ak eG):=⟨rfl,rfl,rfl,by decide +kernel,rfl,by decide +kernel,by decide +kernel⟩
def sJ (K:PySem.W.Frag) (T:dW) (C:Addr) (c:Ec):Sp:=fun vs H Q E=>∃ (A:Rs) (ex:List (Str × V)) (H0:Hp) (B:List (Addr × HO)) (r:List Int) (S:RS) (n:Int) (y z:Str),vs=[.ref A.p,.int n,.str y,.str z]∧RA K T C A ex r H0 H B S∧RP r ex S∧Asc z∧After K T C c A ex r H0 H B S (.sell n y z) .non Q E
section
variable {P:Program} {w:World} {K:PySem.W.Frag} {mg:Str→Option Value} {base:Heap} {T:dW} {C:Addr} {c:Ec}
theorem zP {f f1 f2:Addr} {fd fd1 fd2:FuncData} (D:Dm K C "sell" "Roll.sell" eG ["self","number","holder","to"] f fd) (R_Roll:RC K C)
    (aF:Dm K C "look_at_holder" "Roll.look_at_holder" aK ["self","number","holder"] f1 fd1) (bC:bF P w K mg base (CXE P w) 2 f1 fd1 ["self","number","holder"] (ji K T C c.number c.yours))
    (aU:Df K mg "look_at_name" bR ["name"] f2 fd2) (gG:bF P w K mg base (CXE P w) 2 f2 fd2 ["name"] (ju T c.holder)):bF P w K mg base (CXE P w) 3 f fd ["self","number","holder","to"] (sJ K T C c):=by
  have R:=R_Roll
  refine D.F.okX qP (fun vs H Q E h=>?_) (fun cdv A outer s H vs Q E hr h=>?_)
  · obtain ⟨_,_,_,_,_,_,_,_,_,rfl,_⟩:=h;rfl
  · obtain ⟨A,ex,H0,L,r,S,n,y,z,rfl,⟨us,vs,O,d0,d1⟩,hp,az,q⟩:=h
    have hul:us.length=S.ls.length:=by rw [d0.length,List.length_map]
    have hvl:vs.length=S.ds.length:=by rw [d1.length,List.length_map]
    have hnn:=hp.nn
    have hdl:=hp.dl
    obtain ⟨qN,qY⟩:=After.oJ (n:=n) (y:=y) q rfl hnn
    refine ⟨_,(au (aN (cU (pv 0) R_Roll.c aF.m bC (hr.mono (by decide)) aF.b .nil iM (aj (pv 1) (aj (pv 2) ao))))
      (au (aN (aL gG (hr.mono (by decide)) rfl aU.m aU.F.kp aU.b .nil iM (aj (pv 3) ao)))
      (au (jj (pv 3) (jF (cg (pv 0) rfl) (pv 1) set_list))
      (aA (aN (jz PySem.F.plainAttrs_list PySem.F.slot_list_append PySem.F.type_list_append bL (cg (pv 0) rfl) (aj (cP (aj aQ (aj (pv 1) (aj (pv 2) (aj (pv 3) ao))))) ao))))))),?_⟩
    refine ⟨_,rfl,A.p,A.dx,_,rfl,O.get 0,(by exact hp.ex.hol),_,rfl,_,rfl,A,ex,S.day,us,S.ns,n,y,rfl,O.get 0,O.sq 3,O.sq 4,by omega,hp.ex,O.same.t1,fun h0 h1 hx=>?_,qN,qY⟩
    have hst:step r S (.sell n y z)=_:=qt h0 (by omega) hx
    refine ⟨_,rfl,z,rfl,az,O.same.t1,fun nz H2 s2=>?_,fun nz e H' s' he=>q.2 .holder (hst.trans (if_pos nz)) e H' s' he⟩
    have hst:=hst.trans (if_neg (not_not_intro nz))
    have O:=O.jg s2
    obtain ⟨k,rfl⟩:=Int.eq_ofNat_of_zero_le h0
    rw [Int.toNat_natCast] at hst
    refine ⟨_,rfl,_,rfl,A.p,C,A.dx,_,.ref A.ln,rfl,O.get 0,R.c,R.nN,rfl,_,rfl,?_⟩
    refine jT O 4 rfl (iY (by rw [List.length_map];omega)) fun H6 O=>?_
    refine ⟨_,rfl,A.p,C,A.dx,_,.ref A.lo,rfl,O.get 0,R.c,R.nO,rfl,.inl ⟨rfl,_,O.sq 5⟩,_,rfl,_,rfl,_,rfl,szl,fun t2 ht2=>?_⟩
    walk_at "nw"
    refine ⟨A.lo,_,_,rfl,rfl,O.get 6,aV (by omega),?_⟩
    generalize hE:upd _ _ _=Hn
    have O:=Ow.mV O 6 rfl hE rfl
    obtain ⟨Hb,O,sb,e2⟩:=(show Ow T H0 Hn ((t2,.tup [.str "sell",.int (k:Int),.str y,.str z]) :: (RX C A ex r S.day us (S.ns.set k z) (vs++[V.ref t2])++L) ) from by simp only [RX,List.map_set];exact O).frz
    refine q.1 _ hst Hb _ sb ⟨us,vs++[V.ref t2],O,d0.mo sb,?_⟩
    rw [List.map_append]
    exact (d1.mo sb).append (.cons (.tuple (SqT.of e2) (.cons (.str _) (.cons (.int _) (.cons (.str _) (.cons (.str _) .nil))))) .nil)
end
abbrev eH:Stmt:=inClass (top 32) 8
theorem mJ:aM ["self","number","holder","most","to","one"] ["self","number","holder","most","to"] (ak eH):=⟨rfl,rfl,rfl,by decide +kernel,rfl,by decide +kernel,by decide +kernel⟩
def sV (K:PySem.W.Frag) (T:dW) (C:Addr) (c:Ec):Sp:=fun vs H Q E=>∃ (A:Rs) (ex:List (Str × V)) (H0:Hp) (B:List (Addr × HO)) (r:List Int) (S:RS) (n:Int) (y:Str) (m:Int) (z:Str),vs=[.ref A.p,.int n,.str y,.int m,.str z]∧RA K T C A ex r H0 H B S∧RP r ex S∧Asc z∧After K T C c A ex r H0 H B S (.part n y m z) (.int (S.ls.length:Int)) Q E
section
variable {P:Program} {w:World} {K:PySem.W.Frag} {mg:Str→Option Value} {base:Heap} {T:dW} {C:Addr} {c:Ec}
theorem zT {f f1 f2 f3 f4 f5 f6 f7:Addr} {fd fd1 fd2 fd3 fd4 fd5 fd6 fd7:FuncData} (D:Dm K C "part" "Roll.part" eH ["self","number","holder","most","to"] f fd) (B:Blt mg) (R_Roll:RC K C) (X_TooMuch:m9 K mg "TooMuch" c.much) (X_NotAlone:m9 K mg "NotAlone" c.alone)
    (aF:Dm K C "look_at_holder" "Roll.look_at_holder" aK ["self","number","holder"] f1 fd1) (bC:bF P w K mg base (CXE P w) 2 f1 fd1 ["self","number","holder"] (ji K T C c.number c.yours))
    (aU:Df K mg "look_at_name" bR ["name"] f2 fd2) (gG:bF P w K mg base (CXE P w) 2 f2 fd2 ["name"] (ju T c.holder))
    (bB:Df K mg "most_of" fM ["one"] f3 fd3) (iG:bF P w K mg base CX0 1 f3 fd3 ["one"] (nq K))
    (gj:Dm K C "is_alone" "Roll.is_alone" bT ["self","number"] f4 fd4) (oE:bF P w K mg base CX0 2 f4 fd4 ["self","number"] (uN K T C))
    (bA:Dm K C "look_at_room" "Roll.look_at_room" bx ["self"] f5 fd5) (gM:bF P w K mg base (CXE P w) 1 f5 fd5 ["self"] (sS K T C c.full))
    (aO:Df K mg "with_most" cT ["one","most"] f6 fd6) (gb:bF P w K mg base CX0 1 f6 fd6 ["one","most"] (wI K))
    (dM:Dm K C "enter" "Roll.enter" dw ["self","one","holder"] f7 fd7) (j6:bF P w K mg base CX0 1 f7 fd7 ["self","one","holder"] (pF C)) :
    bF P w K mg base (CXE P w) 3 f fd ["self","number","holder","most","to"] (sV K T C c):=by
  have R:=R_Roll
  refine D.F.okX mJ (fun vs H Q E h=>?_) (fun cdv A outer s H vs Q E hr h=>?_)
  · obtain ⟨_,_,_,_,_,_,_,_,_,_,rfl,_⟩:=h;rfl
  · obtain ⟨A,ex,H0,L,r,S,n,y,m,z,rfl,⟨us,vs,O,d0,d1⟩,hp,az,q⟩:=h
    have hul:us.length=S.ls.length:=by rw [d0.length,List.length_map]
    have hvl:vs.length=S.ds.length:=by rw [d1.length,List.length_map]
    have hnn:=hp.nn
    have hdl:=hp.dl
    have hl60:=hp.l60
    obtain ⟨qN,qY⟩:=After.oJ (n:=n) (y:=y) q rfl hnn
    refine ⟨_,(au (aN (cU (pv 0) R_Roll.c aF.m bC (hr.mono (by decide)) aF.b .nil iM (aj (pv 1) (aj (pv 2) ao))))
      (au (aN (aL gG (hr.mono (by decide)) rfl aU.m aU.F.kp aU.b .nil iM (aj (pv 4) ao)))
      (au (bG (i:=5) mJ.nd rfl (Or.inl rfl) (aG aW (cg (pv 0) rfl) (pv 1) (fun _ _=>rfl)))
      (au (bN (fX (j8 mj pY aq (pv 3) (aL iG (hr.mono (by decide)) rfl bB.m bB.F.kp bB.b .nil bO (aj (pv 5) ao))))
        (aA (gA gW rfl (fun _ _ z=>z) rfl X_TooMuch.m X_TooMuch.q (aj aQ ao)))
        aZ)
      (au (bN (fX (gC (cU (pv 0) R_Roll.c gj.m oE (hr.mono (by decide)) gj.b .nil bO (aj (pv 1) ao))))
        (aA (gA gW rfl (fun _ _ z=>z) rfl X_NotAlone.m X_NotAlone.q (aj aQ ao)))
        aZ)
      (au (aN (gH (pv 0) R_Roll.c bA.m gM (hr.mono (by decide)) bA.b .nil iM))
      (au (jj (aL gb (hr.mono (by decide)) rfl aO.m aO.F.kp aO.b .nil bO (aj (pv 5) (aj (bK lO (aL iG (hr.mono (by decide)) rfl bB.m bB.F.kp bB.b .nil bO (aj (pv 5) ao)) (pv 3)) ao))) (jF (cg (pv 0) rfl) (pv 1) set_list))
      (au (aN (jz PySem.F.plainAttrs_list PySem.F.slot_list_append PySem.F.type_list_append bL (cg (pv 0) rfl) (aj (cP (aj aQ (aj (pv 1) (aj (pv 2) (aj (pv 3) (aj (pv 4) ao)))))) ao)))
      (aA (aY (cU (pv 0) R_Roll.c dM.m j6 (hr.mono (by decide)) dM.b .nil bO (aj (aL gb (hr.mono (by decide)) rfl aO.m aO.F.kp aO.b .nil bO (aj (pv 5) (aj (pv 3) ao))) (aj (pv 4) ao))))))))))))),?_⟩
    refine ⟨_,rfl,A.p,A.dx,_,rfl,O.get 0,(by exact hp.ex.hol),_,rfl,_,rfl,A,ex,S.day,us,S.ns,n,y,rfl,O.get 0,O.sq 3,O.sq 4,by omega,hp.ex,O.same.t1,fun h0 h1 hx=>?_,qN,qY⟩
    have hst:step r S (.part n y m z)=_:=qt h0 (by omega) hx
    refine ⟨_,rfl,z,rfl,az,O.same.t1,fun nz H2 s2=>?_,fun nz e H' s' he=>q.2 .holder (hst.trans (if_pos nz)) e H' s' he⟩
    have hst:=hst.trans (if_neg (not_not_intro nz))
    have O:=O.jg s2
    obtain ⟨k,rfl⟩:=Int.eq_ofNat_of_zero_le h0
    obtain ⟨l,hl⟩:∃ l,S.ls[k]?=some l:=⟨_,List.getElem?_eq_getElem (by omega)⟩
    obtain ⟨al,hal,hT⟩:=d0.jW hl
    rw [oY rfl hl,Int.toNat_natCast] at hst
    refine ⟨_,rfl,A.p,C,A.dx,_,.ref A.ll,rfl,O.get 0,R.c,R.nL,rfl,_,rfl,A.ll,_,_,_,rfl,rfl,O.sq 3,fZ hal,?_⟩
    refine ⟨_,rfl,?_⟩
    have hTm:=hT.mo O.same
    refine ⟨_,_,rfl,rfl,_,rfl,?_⟩
    refine ifD (fun h1=>?_) (fun h1=>?_)
    rotate_left
    · refine ⟨_,rfl,jK ⟨szl,fun e he=>?_⟩⟩
      exact q.2 .much (hst.trans (if_pos fun z=>h1 z.1)) e _ s2 he
    refine ⟨_,rfl,al,l,rfl,hTm,_,_,rfl,rfl,_,rfl,ifN (ifD (fun h2=>?_) (fun h2=>?_))⟩
    rotate_left
    · refine ⟨szl,fun e he=>?_⟩
      exact q.2 .much (hst.trans (if_pos fun z=>h2 z.2)) e _ s2 he
    have hst:=hst.trans (if_neg (not_not_intro ⟨h1,h2⟩))
    refine ⟨_,rfl,A.p,A.dx,_,rfl,O.get 0,(by exact hp.ex.al),_,rfl,A,ex,S.day,us,S.ls,k,l,rfl,O.get 0,O.sq 3,d0.mo O.same,hl,by omega,O.same.t1,fun H3 s3=>?_⟩
    have O:=O.jg s3
    have hTm:=hT.mo O.same
    refine ⟨_,rfl,ifN (ifD (fun h3=>?_) (fun h3=>?_))⟩
    rotate_left
    · refine ⟨szl,fun e he=>?_⟩
      exact q.2 .alone (hst.trans (if_pos h3)) e _ (s2.trans s3) he
    have hst:=hst.trans (if_neg (not_not_intro h3))
    refine ⟨_,rfl,A.p,A.dx,_,rfl,O.get 0,(by exact hp.ex.room),A,ex,S.day,us,rfl,O.get 0,O.sq 3,O.same.t1,fun h4=>?_,fun h4 e H' s' he=>q.2 .full (hst.trans (if_pos (by omega))) e H' ((s2.trans s3).trans s') he⟩
    have hst:=hst.trans (if_neg (by omega))
    refine ⟨_,rfl,_,rfl,al,l,rfl,hTm,_,rfl,_,_,rfl,rfl,al,l,_,rfl,hTm,fun t1 ht1=>?_⟩
    walk_at "nw"
    refine ⟨_,rfl,A.p,C,A.dx,_,.ref A.ll,rfl,O.get 1,R.c,R.nL,rfl,_,rfl,?_⟩
    refine jT O 4 rfl (iY (by omega)) fun H6 O=>?_
    refine ⟨_,rfl,A.p,C,A.dx,_,.ref A.lo,rfl,O.get 1,R.c,R.nO,rfl,.inl ⟨rfl,_,O.sq 6⟩,_,rfl,_,rfl,_,rfl,_,rfl,szl,fun t2 ht2=>?_⟩
    walk_at "nw"
    refine ⟨A.lo,_,_,rfl,rfl,O.get 7,aV (by omega),?_⟩
    generalize hE:upd _ _ _=Hn
    have O:=Ow.mV O 7 rfl hE rfl
    clear hE
    refine ⟨_,rfl,A.p,A.dx,_,rfl,O.get 2,(by exact hp.ex.ent),_,rfl,_,rfl,al,l,m,rfl,hT.mo O.same,fun t3 ht3=>?_⟩
    walk_at "nw"
    refine ⟨_,rfl,A,ex,S.day,us.set k (.ref t1),S.ns.map V.str,.ref t3,.str z,rfl,O.get 3,O.get 6,O.get 7,by rw [List.length_set];omega,by rw [List.length_map];omega,O.ne 3 6,O.ne 3 7,O.ne 7 6,?_⟩
    have O:=(O.J4 6 rfl (o':=.lst (us.set k (.ref t1)++[.ref t3])) rfl).J4 7 rfl (o':=.lst (S.ns.map V.str++[.str z])) rfl
    rw [List.length_set,hul]
    obtain ⟨Hb,O,sb,e3⟩:=(show Ow T H0 _ ((t3,.tup (lV (wm l m))) :: (t2,.tup [.str "part",.int (k:Int),.str y,.int m,.str z]) :: (t1,.tup (lV (wm l (l.most - m)))) :: (RX C A ex r S.day (us.set k (.ref t1)++[.ref t3]) (S.ns++[z]) (vs++[V.ref t2])++L)) from by simp only [RX,List.map_append,List.map_cons,List.map_nil];exact O).frz
    obtain ⟨Hc,O,sc,e2⟩:=O.frz
    obtain ⟨Hd,O,sd,e1⟩:=O.frz
    have e3:=(sc.trans sd).keep _ _ e3 (fun _ z=>nomatch z)
    have e2:=sd.keep _ _ e2 (fun _ z=>nomatch z)
    have sx:=sb.trans (sc.trans sd)
    refine q.1 _ hst Hd _ sx ⟨us.set k (.ref t1)++[V.ref t3],vs++[V.ref t2],O,?_,?_⟩
    · rw [List.map_append,List.map_set]
      exact ((d0.mo sx).set (Den.lic (l:=wm l (l.most - m)) (SqT.of e1)) k).append (.cons (Den.lic (l:=wm l m) (SqT.of e3)) .nil)
    · rw [List.map_append]
      exact (d1.mo sx).append (.cons (.tuple (SqT.of e2) (.cons (.str _) (.cons (.int _) (.cons (.str _) (.cons (.int _) (.cons (.str _) .nil)))))) .nil)
end
abbrev bY:Stmt:=inClass (top 32) 11
theorem lX:aM ["self","number","start"] ["self","number","start"] (ak bY):=⟨rfl,rfl,rfl,by decide +kernel,rfl,by decide +kernel,by decide +kernel⟩
def nu:Sp:=fun vs H Q _=>∃ (p n s:V),vs=[p,n,s]∧Q .non H
section
variable {P:Program} {w:World} {K:PySem.W.Frag} {mg:Str→Option Value} {base:Heap} {C:Addr}
theorem rC {f:Addr} {fd:FuncData} (D:Dm K C "look_move" "Roll.look_move" bY ["self","number","start"] f fd):bF P w K mg base CX0 1 f fd ["self","number","start"] nu:=by
  refine D.F.ok lX (fun vs H Q E h=>?_) (fun cdv A outer s H vs Q E hr h=>?_)
  · obtain ⟨_,_,_,rfl,_⟩:=h;rfl
  · obtain ⟨_,_,_,rfl,q⟩:=h
    exact ⟨_,(aA (aY Bb)),q⟩
end
abbrev eN:Stmt:=inClass (top 32) 10
theorem mK:aM ["self","number","holder","start","one"] ["self","number","holder","start"] (ak eN):=⟨rfl,rfl,rfl,by decide +kernel,rfl,by decide +kernel,by decide +kernel⟩
def sW (K:PySem.W.Frag) (T:dW) (C:Addr) (c:Ec):Sp:=fun vs H Q E=>∃ (A:Rs) (ex:List (Str × V)) (H0:Hp) (B:List (Addr × HO)) (r:List Int) (S:RS) (n:Int) (y:Str) (st:Int),vs=[.ref A.p,.int n,.str y,.int st]∧RA K T C A ex r H0 H B S∧RP r ex S∧After K T C c A ex r H0 H B S (.move n y st) .non Q E
section
variable {P:Program} {w:World} {K:PySem.W.Frag} {mg:Str→Option Value} {base:Heap} {T:dW} {C:Addr} {c:Ec}
theorem zU {f f1 f2 f3 f4:Addr} {fd fd1 fd2 fd3 fd4:FuncData} (D:Dm K C "move" "Roll.move" eN ["self","number","holder","start"] f fd) (B:Blt mg) (R_Roll:RC K C) (X_NoLicence:m9 K mg "NoLicence" c.licence)
    (aF:Dm K C "look_at_holder" "Roll.look_at_holder" aK ["self","number","holder"] f1 fd1) (bC:bF P w K mg base (CXE P w) 2 f1 fd1 ["self","number","holder"] (ji K T C c.number c.yours))
    (gQ:Df K mg "with_start" dY ["one","start"] f2 fd2) (su:bF P w K mg base CX0 1 f2 fd2 ["one","start"] (Aq K))
    (cD:Df K mg "is_licence" dh ["below","one"] f3 fd3) (jY:bF P w K mg base CX0 2 f3 fd3 ["below","one"] (pC K T))
    (fD:Dm K C "look_move" "Roll.look_move" bY ["self","number","start"] f4 fd4) (mY:bF P w K mg base CX0 1 f4 fd4 ["self","number","start"] nu):bF P w K mg base (CXE P w) 3 f fd ["self","number","holder","start"] (sW K T C c):=by
  have R:=R_Roll
  refine D.F.okX mK (fun vs H Q E h=>?_) (fun cdv A outer s H vs Q E hr h=>?_)
  · obtain ⟨_,_,_,_,_,_,_,_,_,rfl,_⟩:=h;rfl
  · obtain ⟨A,ex,H0,L,r,S,n,y,st,rfl,⟨us,vs,O,d0,d1⟩,hp,q⟩:=h
    have hul:us.length=S.ls.length:=by rw [d0.length,List.length_map]
    have hvl:vs.length=S.ds.length:=by rw [d1.length,List.length_map]
    have hnn:=hp.nn
    have hdl:=hp.dl
    have hr40:=hp.r40
    obtain ⟨qN,qY⟩:=After.oJ (n:=n) (y:=y) q rfl hnn
    have sA:=aJ.refl O.same.t1
    refine ⟨_,(au (aN (cU (pv 0) R_Roll.c aF.m bC (hr.mono (by decide)) aF.b .nil iM (aj (pv 1) (aj (pv 2) ao))))
      (au (bG (i:=4) mK.nd rfl (Or.inl rfl) (aL su (hr.mono (by decide)) rfl gQ.m gQ.F.kp gQ.b .nil bO (aj (aG aW (cg (pv 0) rfl) (pv 1) (fun _ _=>rfl)) (aj (pv 3) ao))))
      (au (bN (fX (gC (aL jY (hr.mono (by decide)) rfl cD.m cD.F.kp cD.b .nil bO (aj (cg (pv 0) rfl) (aj (pv 4) ao)))))
        (aA (gA gW rfl (fun _ _ z=>z) rfl X_NoLicence.m X_NoLicence.q (aj aQ ao)))
        aZ)
      (au (aN (cU (pv 0) R_Roll.c fD.m mY (hr.mono (by decide)) fD.b .nil bO (aj (pv 1) (aj (pv 3) ao))))
      (au (jj (pv 4) (jF (cg (pv 0) rfl) (pv 1) set_list))
      (aA (aN (jz PySem.F.plainAttrs_list PySem.F.slot_list_append PySem.F.type_list_append bL (cg (pv 0) rfl) (aj (cP (aj aQ (aj (pv 1) (aj (pv 2) (aj (pv 3) ao))))) ao))))))))),?_⟩
    refine ⟨_,rfl,A.p,A.dx,_,rfl,O.get 0,(by exact hp.ex.hol),_,rfl,_,rfl,A,ex,S.day,us,S.ns,n,y,rfl,O.get 0,O.sq 3,O.sq 4,by omega,hp.ex,O.same.t1,fun h0 h1 hx=>?_,qN,qY⟩
    have hst:step r S (.move n y st)=_:=qt h0 (by omega) hx
    obtain ⟨k,rfl⟩:=Int.eq_ofNat_of_zero_le h0
    obtain ⟨l,hl⟩:∃ l,S.ls[k]?=some l:=⟨_,List.getElem?_eq_getElem (by omega)⟩
    obtain ⟨al,hal,hT⟩:=d0.jW hl
    rw [oY rfl hl,Int.toNat_natCast] at hst
    refine ⟨_,rfl,A.p,C,A.dx,_,.ref A.ll,rfl,O.get 0,R.c,R.nL,rfl,_,rfl,A.ll,_,_,_,rfl,rfl,O.sq 3,fZ hal,_,rfl,al,l,st,rfl,hT.mo O.same,fun t1 ht1=>?_⟩
    have sA:=sA.upd (o':=.tup (lV (wst l st))) ht1 (.inl ht1)
    have O:=O.mk' ht1 (o:=.tup (lV (wst l st))) rfl
    refine ⟨_,rfl,A.p,C,A.dx,_,.ref A.lb,rfl,O.get 1,R.c,R.nB,rfl,_,rfl,A.lb,t1,r,wst l st,rfl,O.sq 3,hp.rv,by omega,O.sqT 0,O.same.t1,fun b H2 s2 hb2=>?_⟩
    have O:=O.jg s2
    have sA:=sA.trans s2
    refine ⟨_,rfl,?_⟩
    cases b with
    | false =>
      refine jK ⟨szl,fun e he=>?_⟩
      exact q.2 .licence (hst.trans (if_pos fun h=>nomatch hb2.mpr h)) e _ sA he
    | true =>
      refine jG ?_
      have hst:=hst.trans (if_neg (not_not_intro (hb2.mp rfl)))
      refine ⟨_,rfl,A.p,A.dx,_,rfl,O.get 1,(by exact hp.ex.lmv),_,rfl,_,rfl,_,_,_,rfl,?_⟩
      refine ⟨_,rfl,_,rfl,A.p,C,A.dx,_,.ref A.ll,rfl,O.get 1,R.c,R.nL,rfl,_,rfl,?_⟩
      refine jT O 4 rfl (iY (by omega)) fun H6 O=>?_
      refine ⟨_,rfl,A.p,C,A.dx,_,.ref A.lo,rfl,O.get 1,R.c,R.nO,rfl,.inl ⟨rfl,_,O.sq 6⟩,_,rfl,_,rfl,_,rfl,szl,fun t2 ht2=>?_⟩
      walk_at "nw"
      refine ⟨A.lo,_,_,rfl,rfl,O.get 7,aV (by omega),?_⟩
      generalize hE:upd _ _ _=Hn
      have O:=Ow.mV O 7 rfl hE rfl
      clear hE
      obtain ⟨Hb,O,sb,e2⟩:=(show Ow T H0 Hn ((t2,.tup [.str "move",.int (k:Int),.str y,.int st]) :: (t1,.tup (lV (wst l st))) :: (RX C A ex r S.day (us.set k (.ref t1)) S.ns (vs++[V.ref t2])++L)) from O).frz
      obtain ⟨Hc,O,sc,e1⟩:=O.frz
      have e2:=sc.keep _ _ e2 (fun _ z=>nomatch z)
      have sx:=sb.trans sc
      refine q.1 _ hst Hc _ sx ⟨us.set k (.ref t1),vs++[V.ref t2],O,?_,?_⟩
      · rw [List.map_set]
        exact (d0.mo sx).set (Den.lic (l:=wst l st) (SqT.of e1)) k
      · rw [List.map_append]
        exact (d1.mo sx).append (.cons (.tuple (SqT.of e2) (.cons (.str _) (.cons (.int _) (.cons (.str _) (.cons (.int _) .nil))))) .nil)
end
abbrev dN:Stmt:=inClass (top 32) 6
theorem jP:aM ["self","holder","start","most","back","stop","one"] ["self","holder","start","most","back"] (ak dN):=⟨rfl,rfl,rfl,by decide +kernel,rfl,by decide +kernel,by decide +kernel⟩
def pD (K:PySem.W.Frag) (T:dW) (C:Addr) (c:Ec):Sp:=fun vs H Q E=>∃ (A:Rs) (ex:List (Str × V)) (H0:Hp) (B:List (Addr × HO)) (r:List Int) (S:RS) (x:Str) (st m b:Int) (bv:V),vs=[.ref A.p,.str x,.int st,.int m,bv]∧(bv=.non∧b=-1∨bv=.int b)∧RA K T C A ex r H0 H B S∧RP r ex S∧Asc x∧After K T C c A ex r H0 H B S (.file x st m b) (.int (S.ls.length:Int)) Q E
theorem JW {j:Nat} {σ:St} {H:Hp} {Q:VK} {bv:V} {stop:Int} (hb:bv=.non∧stop=-1∨bv=.int stop) (hj:σ[j]?=some (some bv)) (h:Q (.int stop) H) :
    tIf (JR (tOp (fun x y H Q=>y=V.non∧Q (V.bl (decide (x=V.non))) H) (R0 j) (tC V.non))) (tC (V.int (-1))) (R0 j) σ H Q:=by
  refine ⟨bv,hj,rfl,_,rfl,?_⟩
  rcases hb with ⟨rfl,rfl⟩ | rfl
  · exact jK h
  · exact jG ⟨_,hj,h⟩
section
variable {P:Program} {w:World} {K:PySem.W.Frag} {mg:Str→Option Value} {base:Heap} {T:dW} {C:Addr} {c:Ec}
theorem zW {f f1 f2 f3 f4:Addr} {fd fd1 fd2 fd3 fd4:FuncData} (D:DmD K C "file" "Roll.file" dN ["self","holder","start","most","back"] f fd) (B:Blt mg) (CM:Mth mg) (R_Roll:RC K C) (X_NoLicence:m9 K mg "NoLicence" c.licence)
    (aU:Df K mg "look_at_name" bR ["name"] f1 fd1) (gG:bF P w K mg base (CXE P w) 2 f1 fd1 ["name"] (ju T c.holder))
    (cD:Df K mg "is_licence" dh ["below","one"] f2 fd2) (jY:bF P w K mg base CX0 2 f2 fd2 ["below","one"] (pC K T))
    (bA:Dm K C "look_at_room" "Roll.look_at_room" bx ["self"] f3 fd3) (gM:bF P w K mg base (CXE P w) 1 f3 fd3 ["self"] (sS K T C c.full))
    (dM:Dm K C "enter" "Roll.enter" dw ["self","one","holder"] f4 fd4) (j6:bF P w K mg base CX0 1 f4 fd4 ["self","one","holder"] (pF C)) :
    bF P w K mg base (CXE P w) 3 f fd ["self","holder","start","most","back"] (pD K T C c):=by
  obtain ⟨tM,hMOUTH⟩:=CM.MOUTH
  have R:=R_Roll
  refine D.F.okX jP (fun vs H Q E h=>?_) (fun cdv A outer s H vs Q E hr h=>?_)
  · obtain ⟨_,_,_,_,_,_,_,_,_,_,_,rfl,_⟩:=h;rfl
  · obtain ⟨A,ex,H0,L,r,S,x,st,m,b,bv,rfl,hb,⟨us,vs,O,d0,d1⟩,hp,ax,q⟩:=h
    have hul:us.length=S.ls.length:=by rw [d0.length,List.length_map]
    have hvl:vs.length=S.ds.length:=by rw [d1.length,List.length_map]
    have hnn:=hp.nn
    have hdl:=hp.dl
    have hr40:=hp.r40
    have hl60:=hp.l60
    have sA:=aJ.refl O.same.t1
    refine ⟨_,(au (aN (aL gG (hr.mono (by decide)) rfl aU.m aU.F.kp aU.b .nil iM (aj (pv 1) ao)))
      (au (bG (i:=5) jP.nd rfl (Or.inl rfl) (zE (aH Li (pv 4) Bb (aX _)) (iK (v:=.int (-1)) rfl hMOUTH ⟨_,rfl⟩) (pv 4)))
      (au (bG (i:=6) jP.nd rfl (Or.inl rfl) (cP (aj (cg (pv 0) rfl) (aj (pv 2) (aj (pv 5) (aj (pv 3) ao))))))
      (au (bN (PW.pt (pw_or (aH gJ (pv 3) aq (aX _)) (pw_or1 (fX (gC (aL jY (hr.mono (by decide)) rfl cD.m cD.F.kp cD.b .nil bO (aj (cg (pv 0) rfl) (aj (pv 6) ao))))))))
        (aA (gA gW rfl (fun _ _ z=>z) rfl X_NoLicence.m X_NoLicence.q (aj aQ ao)))
        aZ)
      (au (aN (gH (pv 0) R_Roll.c bA.m gM (hr.mono (by decide)) bA.b .nil iM))
      (au (aN (jz PySem.F.plainAttrs_list PySem.F.slot_list_append PySem.F.type_list_append bL (cg (pv 0) rfl) (aj (cP (aj aQ (aj (pv 1) (aj (pv 2) (aj (pv 3) (aj (pv 5) ao)))))) ao)))
      (aA (aY (cU (pv 0) R_Roll.c dM.m j6 (hr.mono (by decide)) dM.b .nil bO (aj (pv 6) (aj (pv 1) ao))))))))))),?_⟩
    refine ⟨_,rfl,x,rfl,ax,O.same.t1,fun nx H1 s1=>?_,fun nx e H' s' he=>q.2 .holder (if_pos nx) e H' s' he⟩
    have hst:step r S (.file x st m b)=_:=if_neg (not_not_intro nx)
    have O:=O.jg s1
    refine JW hb rfl ?_
    refine ⟨_,rfl,A.p,C,A.dx,_,.int S.day,rfl,O.get 0,R.c,R.nD,rfl,_,rfl,_,rfl,_,rfl,szl,fun t1 ht1=>?_⟩
    generalize hE:upd _ _ _=Hn
    have s2:aJ T H Hn:=hE ▸ s1.upd (s1.free ht1) (.inl ht1)
    replace O:=Ow.mkE O ht1 hE rfl
    clear hE
    refine ⟨_,rfl,rfl,_,rfl,ifI (fun m0=>?_) (fun m0=>?_)⟩
    · exact ⟨szl,fun e he=>q.2 .licence (hst.trans (if_pos (.inl m0))) e _ s2 he⟩
    refine ⟨_,rfl,A.p,C,A.dx,_,.ref A.lb,rfl,O.get 1,R.c,R.nB,rfl,_,rfl,A.lb,t1,r,⟨S.day,st,b,m⟩,rfl,O.sq 3,hp.rv,by omega,O.sqT 0,O.same.t1,fun bb H2 s3 hb2=>?_⟩
    have O:=O.jg s3
    cases bb with
    | false=>exact ⟨_,rfl,jK ⟨szl,fun e he=>q.2 .licence (hst.trans (if_pos (.inr fun z=>nomatch hb2.mpr z))) e _ (s2.trans s3) he⟩⟩
    | true =>
    refine ⟨_,rfl,jG ?_⟩
    have hl:=hb2.mp rfl
    have hst:=hst.trans (if_neg (show ¬ (m=0∨¬ vZ r ⟨S.day,st,b,m⟩) from fun z=>z.elim m0 fun w=>w hl))
    refine ⟨_,rfl,A.p,A.dx,_,rfl,O.get 1,(by exact hp.ex.room),A,ex,S.day,us,rfl,O.get 1,O.sq 4,O.same.t1,fun h4=>?_,fun h4 e H' s' he=>q.2 .full (hst.trans (if_pos (by omega))) e H' ((s2.trans s3).trans s') he⟩
    have hst:=hst.trans (if_neg (by omega))
    refine ⟨_,rfl,A.p,C,A.dx,_,.ref A.lo,rfl,O.get 1,R.c,R.nO,rfl,.inl ⟨rfl,_,O.sq 6⟩,_,rfl,_,rfl,_,rfl,_,rfl,szl,fun t2 ht2=>?_⟩
    walk_at "nw"
    refine ⟨A.lo,_,_,rfl,rfl,O.get 7,aV (by omega),?_⟩
    generalize hE:upd _ _ _=Hn2
    replace O:=Ow.mV O 7 rfl hE rfl
    clear hE
    refine ⟨_,rfl,A.p,A.dx,_,rfl,O.get 2,(by exact hp.ex.ent),_,rfl,_,rfl,A,ex,S.day,us,S.ns.map V.str,.ref t1,.str x,rfl,O.get 2,O.get 5,O.get 6,by omega,by rw [List.length_map];omega,O.ne 2 5,O.ne 2 6,O.ne 6 5,?_⟩
    have O:=(O.J4 5 rfl (o':=.lst (us++[.ref t1])) rfl).J4 6 rfl (o':=.lst (S.ns.map V.str++[.str x])) rfl
    rw [hul]
    obtain ⟨Hb,O,sb,e2⟩:=(show Ow T H0 _ ((t2,.tup [.str "file",.str x,.int st,.int m,.int b]) :: (t1,.tup (lV ⟨S.day,st,b,m⟩)) :: (RX C A ex r S.day (us++[.ref t1]) (S.ns++[x]) (vs++[V.ref t2])++L)) from by simp only [RX,List.map_append,List.map_cons,List.map_nil];exact O).frz
    obtain ⟨Hc,O,sc,e1⟩:=O.frz
    have e2:=sc.keep _ _ e2 (fun _ z=>nomatch z)
    have sx:=sb.trans sc
    refine q.1 _ hst Hc _ sx ⟨us++[V.ref t1],vs++[V.ref t2],O,?_,?_⟩
    · rw [List.map_append]
      exact (d0.mo sx).append (.cons (Den.lic (l:=⟨S.day,st,b,m⟩) (SqT.of e1)) .nil)
    · rw [List.map_append]
      exact (d1.mo sx).append (.cons (.tuple (SqT.of e2) (.cons (.str _) (.cons (.str _) (.cons (.int _) (.cons (.int _) (.cons (.int _) .nil)))))) .nil)
end
def uW (ls:List Lic) (xs:List Int) (i:Nat):List Lic:=kY (ls.take i) (xs.take i)++ls.drop i
def fall (ls:List Lic) (xs:List Int):Nat→List (Int × Int × Int)
  | 0=>[]
  | i + 1=>fall ls xs i++(match ls[i]?,xs[i]? with | some l,some x=>if x<l.most then [((i:Int),l.most,x)] else [] | _,_=>[])
theorem qj (ls:List Lic) (xs:List Int):∀ i,(fall ls xs i).length≤i
  | 0=>Nat.le_refl _
  | i + 1=>by
    have:=qj ls xs i
    unfold fall
    rw [List.length_append]
    split
    · split <;> simp <;> omega
    · simp;omega
theorem nR (ls:List Lic) (xs:List Int):uW ls xs 0=ls:=by unfold uW kY;simp
theorem nT {ls:List Lic} {xs:List Int} (h:ls.length=xs.length):uW ls xs xs.length=kY ls xs:=by unfold uW;rw [← h,List.take_length,h,List.take_length,← h,List.drop_length,List.append_nil]
theorem p8 {ls:List Lic} {xs:List Int} {i:Nat} {l:Lic} {x:Int} (hl:ls[i]?=some l) (hx:xs[i]?=some x):(uW ls xs i)[i]?=some l∧uW ls xs (i + 1)=(uW ls xs i).set i (wm l (min l.most x)):=by
  have h1:=(List.getElem?_eq_some_iff.mp hl).1
  have h2:=(List.getElem?_eq_some_iff.mp hx).1
  have hn:(kY (ls.take i) (xs.take i)).length=i:=by unfold kY;rw [List.length_zipWith,List.length_take,List.length_take];omega
  have hd:ls.drop i=l :: ls.drop (i + 1):=by
    rw [List.drop_eq_getElem_cons h1]
    rw [List.getElem?_eq_getElem h1] at hl;cases hl;rfl
  unfold uW
  constructor
  · rw [List.getElem?_append_right (by omega),hn,hd,Nat.sub_self];rfl
  · rw [List.set_append_right _ _ (by omega),hn,hd,Nat.sub_self,Tn.iU hl,Tn.iU hx]
    unfold kY
    rw [List.zipWith_append (by rw [List.length_take,List.length_take];omega)]
    simp
theorem rF {ls:List Lic} {xs:List Int} {i:Nat} {l:Lic} {x:Int} (hl:ls[i]?=some l) (hx:xs[i]?=some x) (h:¬ x<l.most):uW ls xs (i + 1)=uW ls xs i:=by
  obtain ⟨h1,h2⟩:=p8 hl hx
  rw [h2,show wm l (min l.most x)=l by unfold wm;rw [Int.min_eq_left (by omega)]]
  obtain ⟨hi,e⟩:=List.getElem?_eq_some_iff.mp h1
  rw [← e];exact List.set_getElem_self hi
abbrev bZ:Stmt:=inClass (top 32) 12
theorem cj:aM ["self","numbers","fallen","number","amount","before"] ["self","numbers"] (ak bZ):=⟨rfl,rfl,rfl,by decide +kernel,rfl,by decide +kernel,by decide +kernel⟩
def uL (K:PySem.W.Frag) (T:dW) (C:Addr) (c:Ec):Sp:=fun vs H Q E=>∃ (A:Rs) (ex:List (Str × V)) (H0:Hp) (B:List (Addr × HO)) (r:List Int) (S:RS) (a:Addr) (xs:List Int),vs=[.ref A.p,.ref a]∧RA K T C A ex r H0 H B S∧RP r ex S∧xs.length≤1000∧(∀ (Hb H':Hp) (X:List (Addr × HO)),aJ T H0 Hb→Ow T Hb H' (X++B)→SqL K H' a (xs.map V.int)) ∧
  (∀ S',step r S (.lapse xs)=.ok S'→∀ (Hb H':Hp) (fl:Addr) (fs:List V),aJ T H0 Hb→RA K T C A ex r Hb H' ((fl,.lst fs) :: B) S'→cW K Hb fs ((fall S.ls xs xs.length).map dMv)→Q (.ref fl) H') ∧
  (∀ k,step r S (.lapse xs)=.error k→∀ (e:Addr) (H':Hp),aJ T H H'→H' e=none→E (.ref (c.at_ k)) (some e) H')
section
variable {P:Program} {w:World} {K:PySem.W.Frag} {mg:Str→Option Value} {base:Heap} {T:dW} {C:Addr} {c:Ec}
theorem xZ {f f1 f2 f3:Addr} {fd fd1 fd2 fd3:FuncData} (D:Dm K C "lapse" "Roll.lapse" bZ ["self","numbers"] f fd) (B:Blt mg) (R:RC K C) (X_NoNumber:m9 K mg "NoNumber" c.number) (X_TooMuch:m9 K mg "TooMuch" c.much)
    (bV:Df K mg "is_water" fG ["amount"] f1 fd1) (jm:bF P w K mg base CX0 1 f1 fd1 ["amount"] m5)
    (bB:Df K mg "most_of" fM ["one"] f2 fd2) (iG:bF P w K mg base CX0 1 f2 fd2 ["one"] (nq K))
    (aO:Df K mg "with_most" cT ["one","most"] f3 fd3) (gb:bF P w K mg base CX0 1 f3 fd3 ["one","most"] (wI K)) :
    bF P w K mg base (CXE P w) 2 f fd ["self","numbers"] (uL K T C c):=by
  refine D.F.okX cj (fun vs H Q E h=>?_) (fun cdv A outer s H vs Q E hr h=>?_)
  · obtain ⟨_,_,_,_,_,_,_,_,rfl,_⟩:=h;rfl
  · obtain ⟨A,ex,H0,L,r,S,a,xs,rfl,⟨us,vs,O,d0,d1⟩,hp,hx1,ha0,q,qx⟩:=h
    refine ⟨_,(au (bN (aH xR (aR bf rfl B.len PySem.boot_len (aj (pv 1) ao)) (aR bf rfl B.len PySem.boot_len (aj (cg (pv 0) rfl) ao)) (aX _))
        (aA (gA gW rfl (fun _ _ z=>z) rfl X_NoNumber.m X_NoNumber.q (aj aQ ao)))
        aZ)
      (au (bN (fX (gC (aR (lU rfl) rfl B.all PyProof.Rows.boot_all (aj (jy (ak bZ) rfl ["self","numbers","fallen","number","amount","before"] rfl ["amount"] [none] (by decide +kernel) (by decide +kernel) (by decide +kernel) rfl (jR (pv 1)) (fun _ _ _=>(bH (i:=0) (show (["amount"]:List Str).Nodup by decide +kernel) rfl (Or.inl rfl))) (fun _ _ _=>jx) (fun _ _ _=>(aL jm (hr.mono (by decide)) rfl bV.m bV.F.kp bV.b .nil bO (aj (pv 0) ao)))) ao))))
        (aA (gA gW rfl (fun _ _ z=>z) rfl X_TooMuch.m X_TooMuch.q (aj aQ ao)))
        aZ)
      (au (bG (i:=2) cj.nd rfl (Or.inl rfl) (gF ao))
      (au (kW PassesOwn.leaving rfl (pR rfl B.enumerate (aj (pv 1) ao)) (rA rfl (fL (bH (i:=3) cj.nd rfl (Or.inl rfl)) (fL (bH (i:=4) cj.nd rfl (Or.inl rfl)) lY)))
        (au (bG (i:=5) cj.nd rfl (Or.inl rfl) (aL iG (hr.mono (by decide)) rfl bB.m bB.F.kp bB.b .nil bO (aj (aG aW (cg (pv 0) rfl) (pv 3) (fun _ _=>rfl)) ao)))
        (aA (bN (aH pY (pv 4) (pv 5) (aX _))
          (au (jj (aL gb (hr.mono (by decide)) rfl aO.m aO.F.kp aO.b .nil bO (aj (aG aW (cg (pv 0) rfl) (pv 3) (fun _ _=>rfl)) (aj (pv 4) ao))) (jF (cg (pv 0) rfl) (pv 3) set_list))
          (aA (aN (jz PySem.F.plainAttrs_list PySem.F.slot_list_append PySem.F.type_list_append bL (pv 2) (aj (cP (aj (pv 3) (aj (pv 5) (aj (pv 4) ao)))) ao)))))
          aZ))))
      (au (aN (jz PySem.F.plainAttrs_list PySem.F.slot_list_append PySem.F.type_list_append bL (cg (pv 0) rfl) (aj (cP (aj aQ (aj (fB jB rfl B.tuple PyProof.Rows.boot_tuple (aj (pv 1) ao)) ao))) ao)))
      (aA (aY (pv 2)))))))),?_⟩
    have hul:us.length=S.ls.length:=by rw [d0.length,List.length_map]
    have hvl:vs.length=S.ds.length:=by rw [d1.length,List.length_map]
    have hdl:=hp.dl
    have hl60:=hp.l60
    have hxm:(xs.map V.int).length=xs.length:=List.length_map _
    have sA:=aJ.refl O.same.t1
    have t0:=O.same.t0
    have ha:∀ {Hb H':Hp} (X:List (Addr × HO)),aJ T H0 Hb→Ow T Hb H' (X++L)→SqL K H' a (xs.map V.int):=fun X s O=>ha0 _ _ X s O
    have ha1:SqL K H a (xs.map V.int):=ha _ (aJ.refl t0) O
    refine ⟨_,rfl,a,_,rfl,.inl ha1,_,rfl,A.p,C,A.dx,_,.ref A.ll,rfl,O.get 0,R.c,R.nL,rfl,A.ll,_,rfl,.inl (O.sq 3),rfl,_,rfl,ifN (ifI (fun hlen=>?_) fun hlen=>?_)⟩
    rotate_left
    · refine ⟨szl,fun e he=>qx .number (if_pos (fun z=>hlen (by rw [hxm,hul,z]))) e H sA he⟩
    have hll:S.ls.length=xs.length:=by rw [hxm] at hlen;omega
    have hst:step r S (.lapse xs)=_:=if_neg (not_not_intro hll.symm)
    refine ⟨_,rfl,a,rfl,⟨_,ha1⟩,fun lw hlw=>?_⟩
    refine nZ (K:=K) (xs:=xs.map V.int) (fun i τ H'=>Iv (∃ (v0:Option V) (bs:List Bool),τ=[v0]∧bs.length=i∧(bs.all id=true↔∀ x∈xs.take i,0≤x∧x≤1000000000000)∧Ow T H0 H' ((lw,.lst (bs.map V.bl)) :: (RX C A ex r S.day us S.ns vs++L))∧aJ T H H')) ⟨trivial,none,[],rfl,rfl,⟨(fun _ x hx=>nomatch hx),fun _=>rfl⟩,O.mk' hlw rfl,sA.upd hlw (.inl hlw)⟩ (fun i τ H' _ ⟨_,_,_,_,_,_,O,_⟩=>ha (_ :: RX C A ex r S.day us S.ns vs) (aJ.refl t0) O) ?_ ?_
    · rintro i y τ H4 hy ⟨-,v0,bs,rfl,hbl,hb,O,sA⟩
      obtain ⟨z,hz,rfl⟩:=ints_get hy
      have hi:=(List.getElem?_eq_some_iff.mp hz).1
      refine Al ⟨_,rfl,z,rfl,fun b hbz=>?_⟩
      refine ⟨_,O.get 0,aV (by rw [List.length_map];omega),?_⟩
      have hnew:H lw=none:=hlw
      generalize hE:upd _ _ _=Hn
      have sA:aJ T H Hn:=hE ▸ sA.upd hnew (.inr ⟨_,O.get 0,rfl⟩)
      replace O:=Ow.mV O 0 rfl hE rfl
      refine ⟨trivial,_,bs++[b],rfl,by rw [List.length_append,hbl];rfl,?_,?_,sA⟩
      · rw [Tn.iU hz,List.all_append,Bool.and_eq_true,hb]
        constructor
        · rintro ⟨z1,z2⟩ y hy
          rcases List.mem_append.mp hy with h | h
          · exact z1 y h
          · rw [List.mem_singleton.mp h];exact hbz.mp (by simpa using z2)
        · intro w
          exact ⟨fun y hy=>w y (List.mem_append_left _ hy),by simpa using hbz.mpr (w z (List.mem_append_right _ (List.mem_singleton.mpr rfl)))⟩
      · rw [List.map_append];exact O
    clear O sA
    rintro τ H4 ⟨-,v0,bs,rfl,hbl,hb,O,sA⟩
    rw [hxm,List.take_length] at hb
    refine ⟨lw,_,rfl,O.sq 0,?_⟩
    cases hba:bs.all id with
    | false =>
      exact ⟨_,rfl,jK ⟨szl,fun e he=>qx .much (hst.trans (if_pos fun z=>by rw [hb.mpr z] at hba;cases hba)) e _ sA he⟩⟩
    | true =>
    have hxs:=hb.mp hba
    have hst:=hst.trans (if_neg (not_not_intro hxs))
    refine ⟨_,rfl,jG ?_⟩
    clear hb hba
    have O:=O.tail
    refine ⟨szl,fun fl hfl=>?_⟩
    walk_at "nw"
    refine ⟨_,rfl,a,_,rfl,ha (_ :: RX C A ex r S.day us S.ns vs) (aJ.refl t0) O,?_⟩
    refine u6 (K:=K) (xs:=xs.map V.int) (fun i σ H'=>Iv (∃ (Hb:Hp) (us' fs:List V) (v3 v4 v5:Option V),σ=[some (.ref A.p),some (.ref a),some (.ref fl),v3,v4,v5]∧Ow T Hb H' ((fl,.lst fs) :: (RX C A ex r S.day us' S.ns vs++L))∧aJ T H0 Hb∧cW K Hb us' ((uW S.ls xs i).map oF)∧cW K Hb fs ((fall S.ls xs i).map dMv)))
      ⟨trivial,H0,us,[],none,none,none,rfl,O,aJ.refl t0,by rw [nR];exact d0,.nil⟩ (fun i σ H' _ ⟨_,Hb,us',_,_,_,_,_,O,s,_⟩=>ha (_ :: RX C A ex r S.day us' S.ns vs) s O) ?_ ?_
    · rintro i y T0 σ H5 hy ⟨-,Hb,us',fs,v3,v4,v5,rfl,O,s0,d0,d2⟩ hT0
      obtain ⟨x,hx,rfl⟩:=ints_get hy
      have hi:=(List.getElem?_eq_some_iff.mp hx).1
      obtain ⟨l,hl⟩:∃ l,S.ls[i]?=some l:=⟨_,List.getElem?_eq_getElem (by omega)⟩
      obtain ⟨e1,e2⟩:=p8 hl hx
      obtain ⟨al,hal,hT⟩:=d0.jW e1
      have hil:i<us'.length:=(List.getElem?_eq_some_iff.mp hal).1
      have hfl2:fs.length≤i:=by have:=qj S.ls xs i;rw [d2.length,List.length_map];exact this
      walk_at "nw"
      refine ⟨T0,_,rfl,O.sqT 0,rfl,_,_,rfl,_,_,rfl,rfl,?_⟩
      have O:=O.tail
      refine ⟨_,rfl,A.p,C,A.dx,_,.ref A.ll,rfl,O.get 1,R.c,R.nL,rfl,_,rfl,A.ll,_,_,_,rfl,rfl,O.sq 4,fZ hal,al,_,rfl,hT.mo O.same,?_⟩
      refine ⟨_,rfl,_,rfl,_,_,rfl,rfl,_,rfl,?_⟩
      refine ifD (fun hlt=>?_) (fun hge=>?_)
      · refine ⟨_,rfl,A.p,C,A.dx,_,.ref A.ll,rfl,O.get 1,R.c,R.nL,rfl,_,rfl,A.ll,_,_,_,rfl,rfl,O.sq 4,fZ hal,_,rfl,al,l,x,rfl,hT.mo O.same,fun t ht=>?_⟩
        walk_at "nw"
        refine ⟨_,rfl,A.p,C,A.dx,_,.ref A.ll,rfl,O.get 2,R.c,R.nL,rfl,_,rfl,?_⟩
        refine jT O 5 rfl (iY hil) fun H6 O=>?_
        have O:Ow T Hb H6 ((t,.tup (lV (wm l x))) :: (fl,.lst fs) :: (RX C A ex r S.day (us'.set i (.ref t)) S.ns vs++L)):=O
        refine ⟨_,rfl,.inl ⟨rfl,_,O.sq 1⟩,_,rfl,_,rfl,_,rfl,szl,fun t2 ht2=>?_⟩
        walk_at "nw"
        refine ⟨fl,_,_,rfl,rfl,O.get 2,aV (by omega),?_⟩
        walk_at "pt"
        have O:Ow T Hb _ ((t2,.tup [.int (i:Int),.int l.most,.int x]) :: (t,.tup (lV (wm l x))) :: (fl,.lst (fs++[.ref t2])) :: (RX C A ex r S.day (us'.set i (.ref t)) S.ns vs++L)):=O
        obtain ⟨Hn2,O,sn,en⟩:=O.frz
        obtain ⟨Hn3,O,sn3,en2⟩:=O.frz
        have en:=sn3.keep _ _ en (fun _ z=>nomatch z)
        have sn:=sn.trans sn3
        refine ⟨trivial,Hn3,us'.set i (.ref t),fs++[V.ref t2],_,_,_,rfl,O,s0.trans sn,?_,?_⟩
        · rw [e2,show wm l (min l.most x)=wm l x by rw [Int.min_eq_right (by omega)],List.map_set]
          exact (d0.mo sn).set (Den.lic (l:=wm l x) (SqT.of en2)) i
        · unfold fall
          rw [hl,hx]
          simp only [if_pos hlt]
          rw [List.map_append]
          exact (d2.mo sn).append (.cons (Den.tup (ns:=[(i:Int),l.most,x]) (SqT.of en)) .nil)
      · refine ⟨trivial,Hb,us',fs,_,_,_,rfl,O,s0,by rw [rF hl hx hge];exact d0,?_⟩
        unfold fall
        rw [hl,hx]
        simp only [if_neg hge,List.append_nil]
        exact d2
    clear O d0
    rintro σ H5 ⟨-,Hb,us',fs,v3,v4,v5,rfl,O,s0,d0,d2⟩
    rw [hxm,nT hll] at d0
    rw [hxm] at d2
    refine ⟨_,rfl,A.p,C,A.dx,_,.ref A.lo,rfl,O.get 1,R.c,R.nO,rfl,.inl ⟨rfl,_,O.sq 6⟩,_,rfl,a,_,rfl,.inl ⟨ha (_ :: RX C A ex r S.day us' S.ns vs) s0 O,fun tt htt=>?_⟩⟩
    walk_at "nw"
    refine ⟨szl,fun t ht=>?_⟩
    walk_at "nw"
    refine ⟨A.lo,_,_,rfl,rfl,O.get 8,aV (by omega),?_⟩
    generalize hE:upd _ _ _=Hn
    have O:=Ow.mV O 8 rfl hE rfl
    obtain ⟨Hc,O,sc,e1⟩:=(show Ow T Hb Hn ((t,.tup [.str "lapse",.ref tt]) :: (tt,.tup (xs.map V.int)) :: (fl,.lst fs) :: (RX C A ex r S.day us' S.ns (vs++[V.ref t])++L)) from O).frz
    obtain ⟨Hd,O,sd,e2⟩:=O.frz
    have e1:=sd.keep _ _ e1 (fun _ z=>nomatch z)
    have sc:=sc.trans sd
    refine ⟨_,rfl,q _ hst Hd _ fl fs (s0.trans sc) ⟨us',vs++[V.ref t],O.mid,d0.mo sc,?_⟩ (d2.mo sc)⟩
    rw [List.map_append]
    exact ((d1.mo s0).mo sc).append (.cons (Den.RM e1 (.str _) (.tuple (SqT.of e2) (cW.ints xs))) .nil)
end
def qG (K:PySem.W.Frag) (T:dW) (C:Addr) (c:Ec):Sp:=fun vs H Q E=>∃ (A:Rs) (ex:List (Str × V)) (H0:Hp) (B:List (Addr × HO)) (r:List Int) (S:RS) (a:Addr) (xs:List Int),vs=[.ref A.p,.ref a]∧RA K T C A ex r H0 H B S∧RP r ex S∧xs.length≤1000∧SqT K H0 a (xs.map V.int) ∧
  (∀ S',step r S (.lapse xs)=.ok S'→∀ (Hb H':Hp) (fl:Addr) (fs:List V),aJ T H0 Hb→RA K T C A ex r Hb H' ((fl,.lst fs) :: B) S'→cW K Hb fs ((fall S.ls xs xs.length).map dMv)→Q (.ref fl) H') ∧
  (∀ k,step r S (.lapse xs)=.error k→∀ (e:Addr) (H':Hp),aJ T H H'→H' e=none→E (.ref (c.at_ k)) (some e) H')
section
variable {P:Program} {w:World} {K:PySem.W.Frag} {mg:Str→Option Value} {base:Heap} {T:dW} {C:Addr} {c:Ec}
theorem vN {f f1 f2 f3:Addr} {fd fd1 fd2 fd3:FuncData} (D:Dm K C "lapse" "Roll.lapse" bZ ["self","numbers"] f fd) (B:Blt mg) (R:RC K C) (X_NoNumber:m9 K mg "NoNumber" c.number) (X_TooMuch:m9 K mg "TooMuch" c.much)
    (bV:Df K mg "is_water" fG ["amount"] f1 fd1) (jm:bF P w K mg base CX0 1 f1 fd1 ["amount"] m5)
    (bB:Df K mg "most_of" fM ["one"] f2 fd2) (iG:bF P w K mg base CX0 1 f2 fd2 ["one"] (nq K))
    (aO:Df K mg "with_most" cT ["one","most"] f3 fd3) (gb:bF P w K mg base CX0 1 f3 fd3 ["one","most"] (wI K)) :
    bF P w K mg base (CXE P w) 2 f fd ["self","numbers"] (qG K T C c):=by
  refine D.F.okX cj (fun vs H Q E h=>?_) (fun cdv A outer s H vs Q E hr h=>?_)
  · obtain ⟨_,_,_,_,_,_,_,_,rfl,_⟩:=h;rfl
  · obtain ⟨A,ex,H0,L,r,S,a,xs,rfl,⟨us,vs,O,d0,d1⟩,hp,hx1,ha0,q,qx⟩:=h
    refine ⟨_,(au (bN (aH xR (aR bf rfl B.len PySem.boot_len (aj (pv 1) ao)) (aR bf rfl B.len PySem.boot_len (aj (cg (pv 0) rfl) ao)) (aX _))
        (aA (gA gW rfl (fun _ _ z=>z) rfl X_NoNumber.m X_NoNumber.q (aj aQ ao)))
        aZ)
      (au (bN (fX (gC (aR (lU rfl) rfl B.all PyProof.Rows.boot_all (aj (jy (ak bZ) rfl ["self","numbers","fallen","number","amount","before"] rfl ["amount"] [none] (by decide +kernel) (by decide +kernel) (by decide +kernel) rfl (xH (pv 1)) (fun _ _ _=>(bH (i:=0) (show (["amount"]:List Str).Nodup by decide +kernel) rfl (Or.inl rfl))) (fun _ _ _=>jx) (fun _ _ _=>(aL jm (hr.mono (by decide)) rfl bV.m bV.F.kp bV.b .nil bO (aj (pv 0) ao)))) ao))))
        (aA (gA gW rfl (fun _ _ z=>z) rfl X_TooMuch.m X_TooMuch.q (aj aQ ao)))
        aZ)
      (au (bG (i:=2) cj.nd rfl (Or.inl rfl) (gF ao))
      (au (kW PassesOwn.leaving rfl (zB rfl B.enumerate (aj (pv 1) ao)) (rA rfl (fL (bH (i:=3) cj.nd rfl (Or.inl rfl)) (fL (bH (i:=4) cj.nd rfl (Or.inl rfl)) lY)))
        (au (bG (i:=5) cj.nd rfl (Or.inl rfl) (aL iG (hr.mono (by decide)) rfl bB.m bB.F.kp bB.b .nil bO (aj (aG aW (cg (pv 0) rfl) (pv 3) (fun _ _=>rfl)) ao)))
        (aA (bN (aH pY (pv 4) (pv 5) (aX _))
          (au (jj (aL gb (hr.mono (by decide)) rfl aO.m aO.F.kp aO.b .nil bO (aj (aG aW (cg (pv 0) rfl) (pv 3) (fun _ _=>rfl)) (aj (pv 4) ao))) (jF (cg (pv 0) rfl) (pv 3) set_list))
          (aA (aN (jz PySem.F.plainAttrs_list PySem.F.slot_list_append PySem.F.type_list_append bL (pv 2) (aj (cP (aj (pv 3) (aj (pv 5) (aj (pv 4) ao)))) ao)))))
          aZ))))
      (au (aN (jz PySem.F.plainAttrs_list PySem.F.slot_list_append PySem.F.type_list_append bL (cg (pv 0) rfl) (aj (cP (aj aQ (aj (fB jB rfl B.tuple PyProof.Rows.boot_tuple (aj (pv 1) ao)) ao))) ao)))
      (aA (aY (pv 2)))))))),?_⟩
    have hul:us.length=S.ls.length:=by rw [d0.length,List.length_map]
    have hvl:vs.length=S.ds.length:=by rw [d1.length,List.length_map]
    have hdl:=hp.dl
    have hl60:=hp.l60
    have hxm:(xs.map V.int).length=xs.length:=List.length_map _
    have sA:=aJ.refl O.same.t1
    have t0:=O.same.t0
    have ha:∀ {Hb H':Hp} (X:List (Addr × HO)),aJ T H0 Hb→Ow T Hb H' (X++L)→SqT K H' a (xs.map V.int):=fun X s O=>(s.trans O.same).qw ha0
    have ha1:SqT K H a (xs.map V.int):=ha _ (aJ.refl t0) O
    refine ⟨_,rfl,a,_,rfl,.inr ha1,_,rfl,A.p,C,A.dx,_,.ref A.ll,rfl,O.get 0,R.c,R.nL,rfl,A.ll,_,rfl,.inl (O.sq 3),rfl,_,rfl,ifN (ifI (fun hlen=>?_) fun hlen=>?_)⟩
    rotate_left
    · refine ⟨szl,fun e he=>qx .number (if_pos (fun z=>hlen (by rw [hxm,hul,z]))) e H sA he⟩
    have hll:S.ls.length=xs.length:=by rw [hxm] at hlen;omega
    have hst:step r S (.lapse xs)=_:=if_neg (not_not_intro hll.symm)
    refine ⟨_,rfl,a,rfl,⟨_,ha1⟩,fun lw hlw=>?_⟩
    refine qm (K:=K) (xs:=xs.map V.int) (fun i τ H'=>Iv (∃ (v0:Option V) (bs:List Bool),τ=[v0]∧bs.length=i∧(bs.all id=true↔∀ x∈xs.take i,0≤x∧x≤1000000000000)∧Ow T H0 H' ((lw,.lst (bs.map V.bl)) :: (RX C A ex r S.day us S.ns vs++L))∧aJ T H H')) ⟨trivial,none,[],rfl,rfl,⟨(fun _ x hx=>nomatch hx),fun _=>rfl⟩,O.mk' hlw rfl,sA.upd hlw (.inl hlw)⟩ (fun i τ H' _ ⟨_,_,_,_,_,_,O,_⟩=>ha (_ :: RX C A ex r S.day us S.ns vs) (aJ.refl t0) O) ?_ ?_
    · rintro i y τ H4 hy ⟨-,v0,bs,rfl,hbl,hb,O,sA⟩
      obtain ⟨z,hz,rfl⟩:=ints_get hy
      have hi:=(List.getElem?_eq_some_iff.mp hz).1
      refine Al ⟨_,rfl,z,rfl,fun b hbz=>?_⟩
      refine ⟨_,O.get 0,aV (by rw [List.length_map];omega),?_⟩
      have hnew:H lw=none:=hlw
      generalize hE:upd _ _ _=Hn
      have sA:aJ T H Hn:=hE ▸ sA.upd hnew (.inr ⟨_,O.get 0,rfl⟩)
      replace O:=Ow.mV O 0 rfl hE rfl
      refine ⟨trivial,_,bs++[b],rfl,by rw [List.length_append,hbl];rfl,?_,?_,sA⟩
      · rw [Tn.iU hz,List.all_append,Bool.and_eq_true,hb]
        constructor
        · rintro ⟨z1,z2⟩ y hy
          rcases List.mem_append.mp hy with h | h
          · exact z1 y h
          · rw [List.mem_singleton.mp h];exact hbz.mp (by simpa using z2)
        · intro w
          exact ⟨fun y hy=>w y (List.mem_append_left _ hy),by simpa using hbz.mpr (w z (List.mem_append_right _ (List.mem_singleton.mpr rfl)))⟩
      · rw [List.map_append];exact O
    clear O sA
    rintro τ H4 ⟨-,v0,bs,rfl,hbl,hb,O,sA⟩
    rw [hxm,List.take_length] at hb
    refine ⟨lw,_,rfl,O.sq 0,?_⟩
    cases hba:bs.all id with
    | false =>
      exact ⟨_,rfl,jK ⟨szl,fun e he=>qx .much (hst.trans (if_pos fun z=>by rw [hb.mpr z] at hba;cases hba)) e _ sA he⟩⟩
    | true =>
    have hxs:=hb.mp hba
    have hst:=hst.trans (if_neg (not_not_intro hxs))
    refine ⟨_,rfl,jG ?_⟩
    clear hb hba
    have O:=O.tail
    refine ⟨szl,fun fl hfl=>?_⟩
    walk_at "nw"
    refine ⟨_,rfl,a,_,rfl,ha (_ :: RX C A ex r S.day us S.ns vs) (aJ.refl t0) O,?_⟩
    refine yE (K:=K) (xs:=xs.map V.int) (fun i σ H'=>Iv (∃ (Hb:Hp) (us' fs:List V) (v3 v4 v5:Option V),σ=[some (.ref A.p),some (.ref a),some (.ref fl),v3,v4,v5]∧Ow T Hb H' ((fl,.lst fs) :: (RX C A ex r S.day us' S.ns vs++L))∧aJ T H0 Hb∧cW K Hb us' ((uW S.ls xs i).map oF)∧cW K Hb fs ((fall S.ls xs i).map dMv)))
      ⟨trivial,H0,us,[],none,none,none,rfl,O,aJ.refl t0,by rw [nR];exact d0,.nil⟩ (fun i σ H' _ ⟨_,Hb,us',_,_,_,_,_,O,s,_⟩=>ha (_ :: RX C A ex r S.day us' S.ns vs) s O) ?_ ?_
    · rintro i y T0 σ H5 hy ⟨-,Hb,us',fs,v3,v4,v5,rfl,O,s0,d0,d2⟩ hT0
      obtain ⟨x,hx,rfl⟩:=ints_get hy
      have hi:=(List.getElem?_eq_some_iff.mp hx).1
      obtain ⟨l,hl⟩:∃ l,S.ls[i]?=some l:=⟨_,List.getElem?_eq_getElem (by omega)⟩
      obtain ⟨e1,e2⟩:=p8 hl hx
      obtain ⟨al,hal,hT⟩:=d0.jW e1
      have hil:i<us'.length:=(List.getElem?_eq_some_iff.mp hal).1
      have hfl2:fs.length≤i:=by have:=qj S.ls xs i;rw [d2.length,List.length_map];exact this
      walk_at "nw"
      refine ⟨T0,_,rfl,O.sqT 0,rfl,_,_,rfl,_,_,rfl,rfl,?_⟩
      have O:=O.tail
      refine ⟨_,rfl,A.p,C,A.dx,_,.ref A.ll,rfl,O.get 1,R.c,R.nL,rfl,_,rfl,A.ll,_,_,_,rfl,rfl,O.sq 4,fZ hal,al,_,rfl,hT.mo O.same,?_⟩
      refine ⟨_,rfl,_,rfl,_,_,rfl,rfl,_,rfl,?_⟩
      refine ifD (fun hlt=>?_) (fun hge=>?_)
      · refine ⟨_,rfl,A.p,C,A.dx,_,.ref A.ll,rfl,O.get 1,R.c,R.nL,rfl,_,rfl,A.ll,_,_,_,rfl,rfl,O.sq 4,fZ hal,_,rfl,al,l,x,rfl,hT.mo O.same,fun t ht=>?_⟩
        walk_at "nw"
        refine ⟨_,rfl,A.p,C,A.dx,_,.ref A.ll,rfl,O.get 2,R.c,R.nL,rfl,_,rfl,?_⟩
        refine jT O 5 rfl (iY hil) fun H6 O=>?_
        have O:Ow T Hb H6 ((t,.tup (lV (wm l x))) :: (fl,.lst fs) :: (RX C A ex r S.day (us'.set i (.ref t)) S.ns vs++L)):=O
        refine ⟨_,rfl,.inl ⟨rfl,_,O.sq 1⟩,_,rfl,_,rfl,_,rfl,szl,fun t2 ht2=>?_⟩
        walk_at "nw"
        refine ⟨fl,_,_,rfl,rfl,O.get 2,aV (by omega),?_⟩
        walk_at "pt"
        have O:Ow T Hb _ ((t2,.tup [.int (i:Int),.int l.most,.int x]) :: (t,.tup (lV (wm l x))) :: (fl,.lst (fs++[.ref t2])) :: (RX C A ex r S.day (us'.set i (.ref t)) S.ns vs++L)):=O
        obtain ⟨Hn2,O,sn,en⟩:=O.frz
        obtain ⟨Hn3,O,sn3,en2⟩:=O.frz
        have en:=sn3.keep _ _ en (fun _ z=>nomatch z)
        have sn:=sn.trans sn3
        refine ⟨trivial,Hn3,us'.set i (.ref t),fs++[V.ref t2],_,_,_,rfl,O,s0.trans sn,?_,?_⟩
        · rw [e2,show wm l (min l.most x)=wm l x by rw [Int.min_eq_right (by omega)],List.map_set]
          exact (d0.mo sn).set (Den.lic (l:=wm l x) (SqT.of en2)) i
        · unfold fall
          rw [hl,hx]
          simp only [if_pos hlt]
          rw [List.map_append]
          exact (d2.mo sn).append (.cons (Den.tup (ns:=[(i:Int),l.most,x]) (SqT.of en)) .nil)
      · refine ⟨trivial,Hb,us',fs,_,_,_,rfl,O,s0,by rw [rF hl hx hge];exact d0,?_⟩
        unfold fall
        rw [hl,hx]
        simp only [if_neg hge,List.append_nil]
        exact d2
    clear O d0
    rintro σ H5 ⟨-,Hb,us',fs,v3,v4,v5,rfl,O,s0,d0,d2⟩
    rw [hxm,nT hll] at d0
    rw [hxm] at d2
    refine ⟨_,rfl,A.p,C,A.dx,_,.ref A.lo,rfl,O.get 1,R.c,R.nO,rfl,.inl ⟨rfl,_,O.sq 6⟩,_,rfl,a,_,rfl,.inr ⟨ha (_ :: RX C A ex r S.day us' S.ns vs) s0 O,?_⟩⟩
    refine ⟨szl,fun t ht=>?_⟩
    walk_at "nw"
    refine ⟨A.lo,_,_,rfl,rfl,O.get 7,aV (by omega),?_⟩
    generalize hE:upd _ _ _=Hn
    have O:=Ow.mV O 7 rfl hE rfl
    obtain ⟨Hc,O,sc,e1⟩:=(show Ow T Hb Hn ((t,.tup [.str "lapse",.ref a]) :: (fl,.lst fs) :: (RX C A ex r S.day us' S.ns (vs++[V.ref t])++L)) from O).frz
    refine ⟨_,rfl,q _ hst Hc _ fl fs (s0.trans sc) ⟨us',vs++[V.ref t],O.mid,d0.mo sc,?_⟩ (d2.mo sc)⟩
    rw [List.map_append]
    exact ((d1.mo s0).mo sc).append (.cons (Den.RM e1 (.str _) (.tuple ((s0.trans sc).qw ha0) (cW.ints xs))) .nil)
end
abbrev bU:Stmt:=inClass (top 32) 0
theorem mU:aM ["self","below"] ["self","below"] (ak bU):=⟨rfl,rfl,rfl,by decide +kernel,rfl,by decide +kernel,by decide +kernel⟩
def sX (K:PySem.W.Frag) (T:dW) (C:Addr) (c:Ec):Sp:=fun vs H Q E=>∃ (p dx lv:Addr) (H0:Hp) (B:List (Addr × HO)) (r:List Int),vs=[.ref p,.ref lv]∧Ow T H0 H ((p,.ins C dx []) :: (dx,.own p) :: B)∧SqL K H lv (r.map V.int)∧r.length≤900 ∧
  (Rv.isR r=true→∀ (A:Rs) (H':Hp),A.p=p→Ow T H0 H' (RX C A [] r 0 [] [] []++B)→Q .non H')∧(Rv.isR r=false→∀ (e:Addr) (H':Hp),aJ T H H'→H' e=none→E (.ref c.nG) (some e) H')
section
variable {P:Program} {w:World} {K:PySem.W.Frag} {mg:Str→Option Value} {base:Heap} {T:dW} {C:Addr} {c:Ec}
theorem zV {f f1:Addr} {fd fd1:FuncData} (D:Dm K C "__init__" "Roll.__init__" bU ["self","below"] f fd) (B:Blt mg) (R:RC K C) (X_NoRiver:m9 K mg "NoRiver" c.nG)
    (iT:Df K mg "is_river" fH ["below"] f1 fd1) (v7:bF P w K mg base CX0 2 f1 fd1 ["below"] (Aw K)) :
    bF P w K mg base (CXE P w) 3 f fd ["self","below"] (sX K T C c):=by
  refine D.F.okX mU (fun vs H Q E h=>?_) (fun cdv A outer s H vs Q E hr h=>?_)
  · obtain ⟨_,_,_,_,_,_,rfl,_⟩:=h;rfl
  · obtain ⟨p,dx,lv,H0,L,r,rfl,O,hv,r9,q,qx⟩:=h
    refine ⟨_,(au (bN (fX (gC (aL v7 (hr.mono (by decide)) rfl iT.m iT.F.kp iT.b .nil bO (aj (pv 1) ao))))
        (aA (gA gW rfl (fun _ _ z=>z) rfl X_NoRiver.m X_NoRiver.q (aj aQ ao)))
        aZ)
      (au (qZ (pv 0) (fB dH rfl B.list PyProof.Rows.boot_list (aj (pv 1) ao)) rfl)
      (au (qZ (pv 0) aq rfl)
      (au (qZ (pv 0) (gF ao) rfl)
      (au (qZ (pv 0) (gF ao) rfl)
      (aA (qZ (pv 0) (gF ao) rfl))))))),?_⟩
    refine ⟨_,rfl,lv,r,rfl,hv,by omega,fun H1 s1=>?_⟩
    have s1:=aJ.of O.same.t1 s1
    cases hR:Rv.isR r with
    | false=>exact ⟨_,rfl,jK ⟨szl,fun e he=>qx hR e _ s1 he⟩⟩
    | true =>
    refine ⟨_,rfl,jG ?_⟩
    have hv:=s1.seq hv
    have O:=O.jg s1
    refine ⟨_,rfl,lv,_,rfl,.inl hv,fun lb hlb=>?_⟩
    walk_at "nw"
    refine ⟨_,rfl,p,C,dx,_,rfl,O.get 1,R.c,R.nB,(by show 0<1000;decide),?_⟩
    walk_at "pt"
    refine ⟨_,rfl,p,C,dx,_,rfl,O.get 1,R.c,R.nD,(by show 1<1000;decide),?_⟩
    walk_at "pt"
    refine ⟨szl,fun ll hll=>?_⟩
    walk_at "nw"
    refine ⟨_,rfl,p,C,dx,_,rfl,O.get 2,R.c,R.nL,(by show 2<1000;decide),?_⟩
    walk_at "pt"
    refine ⟨szl,fun ln hln=>?_⟩
    walk_at "nw"
    refine ⟨_,rfl,p,C,dx,_,rfl,O.get 3,R.c,R.nN,(by show 3<1000;decide),?_⟩
    walk_at "pt"
    refine ⟨szl,fun lo hlo=>?_⟩
    walk_at "nw"
    refine ⟨_,rfl,p,C,dx,_,rfl,O.get 4,R.c,R.nO,(by show 4<1000;decide),?_⟩
    walk_at "pt"
    have O:=((((O.pull 1 rfl).pull 2 rfl).pull 3 rfl).pull 5 rfl).pull 5 rfl
    exact q hR ⟨p,dx,lb,ll,ln,lo⟩ _ rfl O
end
def DAt (K:PySem.W.Frag) (H:Hp) (t:Addr):je→Prop
  | .turn=>SqT K H t [.str "turn"]
  | .file x s m b=>SqT K H t [.str "file",.str x,.int s,.int m,.int b]
  | .sell n y z=>SqT K H t [.str "sell",.int n,.str y,.str z]
  | .part n y m z=>SqT K H t [.str "part",.int n,.str y,.int m,.str z]
  | .drop n y=>SqT K H t [.str "drop",.int n,.str y]
  | .move n y s=>SqT K H t [.str "move",.int n,.str y,.int s]
  | .lapse xs=>∃ a,SqT K H t [.str "lapse",.ref a]∧SqT K H a (xs.map V.int)
theorem _root_.L2.Den.str_inv {K:PySem.W.Frag} {H:Hp} {v:V} {x:Str} (h:Den K H v (.str x)):v=.str x:=by cases h;rfl
theorem _root_.L2.cW.cons_inv {K:PySem.W.Frag} {H:Hp} {vs:List V} {d:PyData} {ds:List PyData} (h:cW K H vs (d :: ds)):∃ v us,vs=v :: us∧Den K H v d∧cW K H us ds:=by cases h with | cons a b=>exact ⟨_,_,rfl,a,b⟩
theorem _root_.L2.cW.nil_inv {K:PySem.W.Frag} {H:Hp} {vs:List V} (h:cW K H vs []):vs=[]:=by cases h;rfl
theorem mz {K:PySem.W.Frag} {H:Hp} {v:V} {d:je} (h:Den K H v (iQ d)):∃ t,v=.ref t∧DAt K H t d:=by
  cases d with
  | turn =>
    obtain ⟨t,zs,rfl,hT,dz⟩:=Den.iz h
    obtain ⟨v1,u1,rfl,e1,dn⟩:=dz.cons_inv
    obtain rfl:=e1.str_inv;obtain rfl:=dn.nil_inv
    exact ⟨t,rfl,hT⟩
  | file x s m b =>
    obtain ⟨t,zs,rfl,hT,dz⟩:=Den.iz h
    obtain ⟨v1,u1,rfl,e1,dz⟩:=dz.cons_inv
    obtain ⟨v2,u2,rfl,e2,dz⟩:=dz.cons_inv
    obtain ⟨v3,u3,rfl,e3,dz⟩:=dz.cons_inv
    obtain ⟨v4,u4,rfl,e4,dz⟩:=dz.cons_inv
    obtain ⟨v5,u5,rfl,e5,dn⟩:=dz.cons_inv
    obtain rfl:=e1.str_inv;obtain rfl:=e2.str_inv;obtain rfl:=e3.int_inv;obtain rfl:=e4.int_inv;obtain rfl:=e5.int_inv;obtain rfl:=dn.nil_inv
    exact ⟨t,rfl,hT⟩
  | sell n y z =>
    obtain ⟨t,zs,rfl,hT,dz⟩:=Den.iz h
    obtain ⟨v1,u1,rfl,e1,dz⟩:=dz.cons_inv
    obtain ⟨v2,u2,rfl,e2,dz⟩:=dz.cons_inv
    obtain ⟨v3,u3,rfl,e3,dz⟩:=dz.cons_inv
    obtain ⟨v4,u4,rfl,e4,dn⟩:=dz.cons_inv
    obtain rfl:=e1.str_inv;obtain rfl:=e2.int_inv;obtain rfl:=e3.str_inv;obtain rfl:=e4.str_inv;obtain rfl:=dn.nil_inv
    exact ⟨t,rfl,hT⟩
  | part n y m z =>
    obtain ⟨t,zs,rfl,hT,dz⟩:=Den.iz h
    obtain ⟨v1,u1,rfl,e1,dz⟩:=dz.cons_inv
    obtain ⟨v2,u2,rfl,e2,dz⟩:=dz.cons_inv
    obtain ⟨v3,u3,rfl,e3,dz⟩:=dz.cons_inv
    obtain ⟨v4,u4,rfl,e4,dz⟩:=dz.cons_inv
    obtain ⟨v5,u5,rfl,e5,dn⟩:=dz.cons_inv
    obtain rfl:=e1.str_inv;obtain rfl:=e2.int_inv;obtain rfl:=e3.str_inv;obtain rfl:=e4.int_inv;obtain rfl:=e5.str_inv;obtain rfl:=dn.nil_inv
    exact ⟨t,rfl,hT⟩
  | drop n y =>
    obtain ⟨t,zs,rfl,hT,dz⟩:=Den.iz h
    obtain ⟨v1,u1,rfl,e1,dz⟩:=dz.cons_inv
    obtain ⟨v2,u2,rfl,e2,dz⟩:=dz.cons_inv
    obtain ⟨v3,u3,rfl,e3,dn⟩:=dz.cons_inv
    obtain rfl:=e1.str_inv;obtain rfl:=e2.int_inv;obtain rfl:=e3.str_inv;obtain rfl:=dn.nil_inv
    exact ⟨t,rfl,hT⟩
  | move n y s =>
    obtain ⟨t,zs,rfl,hT,dz⟩:=Den.iz h
    obtain ⟨v1,u1,rfl,e1,dz⟩:=dz.cons_inv
    obtain ⟨v2,u2,rfl,e2,dz⟩:=dz.cons_inv
    obtain ⟨v3,u3,rfl,e3,dz⟩:=dz.cons_inv
    obtain ⟨v4,u4,rfl,e4,dn⟩:=dz.cons_inv
    obtain rfl:=e1.str_inv;obtain rfl:=e2.int_inv;obtain rfl:=e3.str_inv;obtain rfl:=e4.int_inv;obtain rfl:=dn.nil_inv
    exact ⟨t,rfl,hT⟩
  | lapse xs =>
    obtain ⟨t,zs,rfl,hT,dz⟩:=Den.iz h
    obtain ⟨v1,u1,rfl,e1,dz⟩:=dz.cons_inv
    obtain ⟨v2,u2,rfl,e2,dn⟩:=dz.cons_inv
    obtain rfl:=e1.str_inv;obtain rfl:=dn.nil_inv
    obtain ⟨a,ys,rfl,hA,dy⟩:=e2.iz
    obtain rfl:=dy.int_inv
    exact ⟨t,rfl,a,hT,hA⟩
theorem DAt.mo {K:PySem.W.Frag} {T:dW} {H H':Hp} {t:Addr} {d:je} (h:DAt K H t d) (s:aJ T H H'):DAt K H' t d:=by
  cases d with
  | lapse xs=>obtain ⟨a,h1,h2⟩:=h;exact ⟨a,s.qw h1,s.qw h2⟩
  | _=>exact s.qw h
theorem RA.drop {K:PySem.W.Frag} {T:dW} {C:Addr} {A:Rs} {ex:List (Str × V)} {r:List Int} {H0 H:Hp} {x:Addr × HO} {B:List (Addr × HO)} {S:RS} (h:RA K T C A ex r H0 H (x :: B) S):RA K T C A ex r H0 H B S:=by
  obtain ⟨us,vs,O,d0,d1⟩:=h
  exact ⟨us,vs,O.sub (List.Sublist.append_left (List.sublist_cons_self _ _) _),d0,d1⟩
def jo:je→Prop
  | .file x _ _ _=>Asc x
  | .sell _ y z=>Asc y∧Asc z
  | .part _ y _ z=>Asc y∧Asc z
  | .drop _ y=>Asc y
  | .move _ y _=>Asc y
  | .lapse xs=>xs.length≤1000
  | .turn=>True
theorem pB {r:List Int} {S S':RS} {d:je} (h:step r S d=.ok S'):S'.ds=S.ds++[d]:=by
  cases d <;> simp only [step,RS.oJ] at h <;> (repeat' split at h) <;> first | (cases h;rfl) | cases h
theorem pA {r:List Int} {S S':RS} {d:je} (h:step r S d=.ok S') (hn:S.ns.length=S.ls.length) (hl:S.ls.length≤60):S'.ns.length=S'.ls.length∧S'.ls.length≤60∧S'.ls.length≤S.ls.length + 1:=by
  cases d <;> simp only [step,RS.oJ] at h <;> (repeat' split at h) <;> first | (cases h;done) | (cases h;simp only [List.length_append,List.length_set,List.length_cons,List.length_nil,kY,List.length_zipWith] at *;omega)
theorem wD {r:List Int} {ex:List (Str × V)} {S S':RS} {d:je} (hp:RP r ex S) (hd:S.ds.length<9000) (h:step r S d=.ok S'):RP r ex S':=by
  obtain ⟨h1,h2,-⟩:=pA h hp.nn hp.l60
  exact ⟨hp.rv,hp.r40,h1,h2,by rw [pB h,List.length_append];exact hd,hp.e9,hp.ex⟩
theorem ifS {x y:Str} {A B:Prop} (h1:x=y→A) (h2:¬ x=y→B):if decide (V.str x=V.str y)=true then A else B:=ifD (fun h=>h1 (V.str.inj h)) (fun h=>h2 fun z=>h (by rw [z]))
theorem gD {x y:Str} {A B:Prop} (h:(x == y)=false) (b:B):if decide (V.str x=V.str y)=true then A else B:=ifS (fun z=>by rw [z,beq_self_eq_true] at h;cases h) fun _=>b
abbrev iB:Stmt:=top 34
theorem oV:aM ["roll","deed","kind"] ["roll","deed"] (ak iB):=⟨rfl,rfl,rfl,by decide +kernel,rfl,by decide +kernel,by decide +kernel⟩
def wR (K:PySem.W.Frag) (T:dW) (C:Addr) (c:Ec):Sp:=fun vs H Q E=>∃ (A:Rs) (ex:List (Str × V)) (H0:Hp) (B:List (Addr × HO)) (r:List Int) (S:RS) (t:Addr) (d:je),vs=[.ref A.p,.ref t]∧RA K T C A ex r H0 H B S∧RP r ex S∧Den K H0 (.ref t) (iQ d)∧jo d∧After K T C c A ex r H0 H B S d .non Q E
section
variable {P:Program} {w:World} {K:PySem.W.Frag} {mg:Str→Option Value} {base:Heap} {T:dW} {C:Addr} {c:Ec}
theorem After.any {A:Rs} {ex:List (Str × V)} {r:List Int} {H0 H:Hp} {B:List (Addr × HO)} {S:RS} {d:je} {v v':V} {Q Q':VK} {E:XK} (h:After K T C c A ex r H0 H B S d v Q E) (f:∀ H',Q v H'→Q' v' H'):After K T C c A ex r H0 H B S d v' Q' E :=
  ⟨fun S' e Hb H' s a=>f H' (h.1 S' e Hb H' s a),h.2⟩
theorem Kl {f f1 f2 f3 f4 f5 f6 f7:Addr} {fd fd1 fd2 fd3 fd4 fd5 fd6 fd7:FuncData} (D:Df K mg "do_anew" iB ["roll","deed"] f fd) (R_Roll:RC K C)
    (eX:Dm K C "turn" "Roll.turn" eF ["self"] f1 fd1) (lB:bF P w K mg base CX0 1 f1 fd1 ["self"] (sI K T C c))
    (bJ:DmD K C "file" "Roll.file" dN ["self","holder","start","most","back"] f2 fd2) (gZ:bF P w K mg base (CXE P w) 3 f2 fd2 ["self","holder","start","most","back"] (pD K T C c))
    (eY:Dm K C "sell" "Roll.sell" eG ["self","number","holder","to"] f3 fd3) (lC:bF P w K mg base (CXE P w) 3 f3 fd3 ["self","number","holder","to"] (sJ K T C c))
    (eZ:Dm K C "part" "Roll.part" eH ["self","number","holder","most","to"] f4 fd4) (lD:bF P w K mg base (CXE P w) 3 f4 fd4 ["self","number","holder","most","to"] (sV K T C c))
    (fu:Dm K C "drop" "Roll.drop" eO ["self","number","holder"] f5 fd5) (lF:bF P w K mg base (CXE P w) 3 f5 fd5 ["self","number","holder"] (sY K T C c))
    (fj:Dm K C "move" "Roll.move" eN ["self","number","holder","start"] f6 fd6) (lE:bF P w K mg base (CXE P w) 3 f6 fd6 ["self","number","holder","start"] (sW K T C c))
    (cR:Dm K C "lapse" "Roll.lapse" bZ ["self","numbers"] f7 fd7) (j5:bF P w K mg base (CXE P w) 2 f7 fd7 ["self","numbers"] (qG K T C c)) :
    bF P w K mg base (CXE P w) 4 f fd ["roll","deed"] (wR K T C c):=by
  refine D.F.okX oV (fun vs H Q E h=>?_) (fun cdv A outer s H vs Q E hr h=>?_)
  · obtain ⟨_,_,_,_,_,_,_,_,rfl,_⟩:=h;rfl
  · obtain ⟨A,ex,H0,L,r,S,t,d,rfl,ra,hp,dd,hok,q⟩:=h
    have hA:H A.p=some (z7 C A ex S.day):=by obtain ⟨us,vs,O,_⟩:=ra;exact O.get 0
    have sH:aJ T H0 H:=by obtain ⟨us,vs,O,_⟩:=ra;exact O.same
    obtain ⟨t',e,d0A⟩:=mz dd
    cases e
    have dA:=d0A.mo sH
    refine ⟨_,(au (bG (i:=2) oV.nd rfl (Or.inl rfl) (aG aD (pv 1) aq (fun _ _=>rfl)))
      (aA (bN (aH gJ (pv 2) aQ (aX _))
        (aA (aN (gH (pv 0) R_Roll.c eX.m lB (hr.mono (by decide)) eX.b .nil bO)))
        (aA (bN (aH gJ (pv 2) aQ (aX _))
          (aA (aN (cU (pv 0) R_Roll.c bJ.m gZ (hr.mono (by decide)) bJ.b0 .nil iM (aj (aG aD (pv 1) aq (fun _ _=>rfl)) (aj (aG aD (pv 1) aq (fun _ _=>rfl)) (aj (aG aD (pv 1) aq (fun _ _=>rfl)) (aj (aG aD (pv 1) aq (fun _ _=>rfl)) ao)))))))
          (aA (bN (aH gJ (pv 2) aQ (aX _))
            (aA (aN (cU (pv 0) R_Roll.c eY.m lC (hr.mono (by decide)) eY.b .nil iM (aj (aG aD (pv 1) aq (fun _ _=>rfl)) (aj (aG aD (pv 1) aq (fun _ _=>rfl)) (aj (aG aD (pv 1) aq (fun _ _=>rfl)) ao))))))
            (aA (bN (aH gJ (pv 2) aQ (aX _))
              (aA (aN (cU (pv 0) R_Roll.c eZ.m lD (hr.mono (by decide)) eZ.b .nil iM (aj (aG aD (pv 1) aq (fun _ _=>rfl)) (aj (aG aD (pv 1) aq (fun _ _=>rfl)) (aj (aG aD (pv 1) aq (fun _ _=>rfl)) (aj (aG aD (pv 1) aq (fun _ _=>rfl)) ao)))))))
              (aA (bN (aH gJ (pv 2) aQ (aX _))
                (aA (aN (cU (pv 0) R_Roll.c fu.m lF (hr.mono (by decide)) fu.b .nil iM (aj (aG aD (pv 1) aq (fun _ _=>rfl)) (aj (aG aD (pv 1) aq (fun _ _=>rfl)) ao)))))
                (aA (bN (aH gJ (pv 2) aQ (aX _))
                  (aA (aN (cU (pv 0) R_Roll.c fj.m lE (hr.mono (by decide)) fj.b .nil iM (aj (aG aD (pv 1) aq (fun _ _=>rfl)) (aj (aG aD (pv 1) aq (fun _ _=>rfl)) (aj (aG aD (pv 1) aq (fun _ _=>rfl)) ao))))))
                  (aA (aN (cU (pv 0) R_Roll.c cR.m j5 (hr.mono (by decide)) cR.b .nil iM (aj (aG aD (pv 1) aq (fun _ _=>rfl)) ao))))))))))))))))),?_⟩
    cases d with
    | turn =>
      refine ⟨_,rfl,t,_,0,_,rfl,rfl,dA,rfl,?_⟩
      refine ⟨_,rfl,rfl,_,rfl,jK ?_⟩
      exact ⟨_,rfl,A.p,A.dx,_,rfl,hA,(by exact hp.ex.tn),A,ex,H0,L,r,S,rfl,ra,hp,q.1,fun k e=>by simp only [step] at e;cases e⟩
    | file x st m b =>
      refine ⟨_,rfl,t,_,0,_,rfl,rfl,dA,rfl,?_⟩
      refine ⟨_,rfl,rfl,_,rfl,gD rfl ?_⟩
      refine ⟨_,rfl,rfl,_,rfl,jK ?_⟩
      exact ⟨_,rfl,A.p,A.dx,_,rfl,hA,(by exact hp.ex.fi),_,rfl,t,_,1,_,rfl,rfl,dA,rfl,_,rfl,t,_,2,_,rfl,rfl,dA,rfl,_,rfl,t,_,3,_,rfl,rfl,dA,rfl,_,rfl,t,_,4,_,rfl,rfl,dA,rfl,A,ex,H0,L,r,S,x,st,m,b,_,rfl,.inr rfl,ra,hp,hok,q.any fun _ h=>h⟩
    | sell n y z =>
      refine ⟨_,rfl,t,_,0,_,rfl,rfl,dA,rfl,?_⟩
      refine ⟨_,rfl,rfl,_,rfl,gD rfl ?_⟩
      refine ⟨_,rfl,rfl,_,rfl,gD rfl ?_⟩
      refine ⟨_,rfl,rfl,_,rfl,jK ?_⟩
      exact ⟨_,rfl,A.p,A.dx,_,rfl,hA,(by exact hp.ex.se),_,rfl,t,_,1,_,rfl,rfl,dA,rfl,_,rfl,t,_,2,_,rfl,rfl,dA,rfl,_,rfl,t,_,3,_,rfl,rfl,dA,rfl,A,ex,H0,L,r,S,n,y,z,rfl,ra,hp,hok.2,q⟩
    | part n y m z =>
      refine ⟨_,rfl,t,_,0,_,rfl,rfl,dA,rfl,?_⟩
      refine ⟨_,rfl,rfl,_,rfl,gD rfl ?_⟩
      refine ⟨_,rfl,rfl,_,rfl,gD rfl ?_⟩
      refine ⟨_,rfl,rfl,_,rfl,gD rfl ?_⟩
      refine ⟨_,rfl,rfl,_,rfl,jK ?_⟩
      exact ⟨_,rfl,A.p,A.dx,_,rfl,hA,(by exact hp.ex.pa),_,rfl,t,_,1,_,rfl,rfl,dA,rfl,_,rfl,t,_,2,_,rfl,rfl,dA,rfl,_,rfl,t,_,3,_,rfl,rfl,dA,rfl,_,rfl,t,_,4,_,rfl,rfl,dA,rfl,A,ex,H0,L,r,S,n,y,m,z,rfl,ra,hp,hok.2,q.any fun _ h=>h⟩
    | drop n y =>
      refine ⟨_,rfl,t,_,0,_,rfl,rfl,dA,rfl,?_⟩
      refine ⟨_,rfl,rfl,_,rfl,gD rfl ?_⟩
      refine ⟨_,rfl,rfl,_,rfl,gD rfl ?_⟩
      refine ⟨_,rfl,rfl,_,rfl,gD rfl ?_⟩
      refine ⟨_,rfl,rfl,_,rfl,gD rfl ?_⟩
      refine ⟨_,rfl,rfl,_,rfl,jK ?_⟩
      exact ⟨_,rfl,A.p,A.dx,_,rfl,hA,(by exact hp.ex.dr),_,rfl,t,_,1,_,rfl,rfl,dA,rfl,_,rfl,t,_,2,_,rfl,rfl,dA,rfl,A,ex,H0,L,r,S,n,y,rfl,ra,hp,q⟩
    | move n y st =>
      refine ⟨_,rfl,t,_,0,_,rfl,rfl,dA,rfl,?_⟩
      refine ⟨_,rfl,rfl,_,rfl,gD rfl ?_⟩
      refine ⟨_,rfl,rfl,_,rfl,gD rfl ?_⟩
      refine ⟨_,rfl,rfl,_,rfl,gD rfl ?_⟩
      refine ⟨_,rfl,rfl,_,rfl,gD rfl ?_⟩
      refine ⟨_,rfl,rfl,_,rfl,gD rfl ?_⟩
      refine ⟨_,rfl,rfl,_,rfl,jK ?_⟩
      exact ⟨_,rfl,A.p,A.dx,_,rfl,hA,(by exact hp.ex.mv),_,rfl,t,_,1,_,rfl,rfl,dA,rfl,_,rfl,t,_,2,_,rfl,rfl,dA,rfl,_,rfl,t,_,3,_,rfl,rfl,dA,rfl,A,ex,H0,L,r,S,n,y,st,rfl,ra,hp,q⟩
    | lapse xs =>
      obtain ⟨a,hT0,hAx⟩:=d0A
      have hT:=sH.qw hT0
      refine ⟨_,rfl,t,_,0,_,rfl,rfl,hT,rfl,?_⟩
      refine ⟨_,rfl,rfl,_,rfl,gD rfl ?_⟩
      refine ⟨_,rfl,rfl,_,rfl,gD rfl ?_⟩
      refine ⟨_,rfl,rfl,_,rfl,gD rfl ?_⟩
      refine ⟨_,rfl,rfl,_,rfl,gD rfl ?_⟩
      refine ⟨_,rfl,rfl,_,rfl,gD rfl ?_⟩
      refine ⟨_,rfl,rfl,_,rfl,gD rfl ?_⟩
      exact ⟨_,rfl,A.p,A.dx,_,rfl,hA,(by exact hp.ex.lp),_,rfl,t,_,1,_,rfl,rfl,hT,rfl,A,ex,H0,L,r,S,a,xs,rfl,ra,hp,hok,hAx,fun S' e Hb H' fl fs s ra' _=>q.1 S' e Hb H' s ra'.drop,q.2⟩
end
noncomputable def replay (r:List Int):RS→List je→Except EK RS
  | S,[]=>.ok S
  | S,d :: ds=>match step r S d with | .ok S'=>replay r S' ds | .error k=>.error k
theorem iW {r:List Int}:∀ {S S':RS} {ds:List je} {d:je},replay r S ds=.ok S'→replay r S (ds++[d])=step r S' d
  | S,S',[],d,h=>by
    cases h
    show (match step r S d with | .ok S'=>replay r S' [] | .error k=>.error k)=_
    cases step r S d <;> rfl
  | S,S',e :: ds,d,h=>by
    simp only [replay,List.cons_append] at h ⊢
    cases hs:step r S e with
    | ok S1 =>
      rw [hs] at h
      exact iW h
    | error k=>rw [hs] at h;cases h
theorem oX {r:List Int} {k:EK}:∀ {S S':RS} {ds es:List je},replay r S ds=.ok S'→replay r S' es=.error k→replay r S (ds++es)=.error k
  | S,S',[],es,h,h2=>by cases h;exact h2
  | S,S',e :: ds,es,h,h2=>by
    simp only [replay,List.cons_append] at h ⊢
    cases hs:step r S e with
    | ok S1=>rw [hs] at h;exact oX h h2
    | error k=>rw [hs] at h;cases h
abbrev RS.new:RS:=⟨0,[],[],[]⟩
abbrev gw:Stmt:=top 35
theorem lg:aM ["below","deeds","roll","deed"] ["below","deeds"] (ak gw):=⟨rfl,rfl,rfl,by decide +kernel,rfl,by decide +kernel,by decide +kernel⟩
def sU (K:PySem.W.Frag) (T:dW) (C:Addr) (c:Ec):Sp:=fun vs H Q E=>∃ (lv ld:Addr) (H0:Hp) (B:List (Addr × HO)) (r:List Int) (ts:List V) (ds:List je),vs=[.ref lv,.ref ld]∧Ow T H0 H B∧SqL K H lv (r.map V.int)∧r.length≤40∧(∀ (Hb H':Hp) (X:List (Addr × HO)),aJ T H0 Hb→Ow T Hb H' (X++B)→SqL K H' ld ts)∧cW K H0 ts (ds.map iQ)∧(∀ d∈ds,jo d)∧ds.length≤1000∧(Rv.isR r=true→Rv.mW r) ∧
  (Rv.isR r=true→∀ S',replay r RS.new ds=.ok S'→∀ (A:Rs) (Hb H':Hp),aJ T H0 Hb→RA K T C A [] r Hb H' B S'→Q (.ref A.p) H') ∧
  (Rv.isR r=true→∀ k,replay r RS.new ds=.error k→∀ (e:Addr) (Hb H':Hp),aJ T H0 Hb→Ow T Hb H' B→H' e=none→E (.ref (c.at_ k)) (some e) H') ∧
  (Rv.isR r=false→∀ (e:Addr) (Hb H':Hp),aJ T H0 Hb→Ow T Hb H' B→H' e=none→E (.ref c.nG) (some e) H')
section
variable {P:Program} {w:World} {K:PySem.W.Frag} {mg:Str→Option Value} {base:Heap} {T:dW} {C f1:Addr} {c:Ec}
theorem J9 {f f2:Addr} {fd fd1 fd2:FuncData} (D:Df K mg "replayed" gw ["below","deeds"] f fd) (R_Roll:Cl K mg "Roll" C f1 J1)
    (cV:Dm K C "__init__" "Roll.__init__" bU ["self","below"] f1 fd1) (jc:bF P w K mg base (CXE P w) 3 f1 fd1 ["self","below"] (sX K T C c))
    (jr:Df K mg "do_anew" iB ["roll","deed"] f2 fd2) (yZ:bF P w K mg base (CXE P w) 4 f2 fd2 ["roll","deed"] (wR K T C c)) :
    bF P w K mg base (CXE P w) 5 f fd ["below","deeds"] (sU K T C c):=by
  refine D.F.okX lg (fun vs H Q E h=>?_) (fun cdv A outer s H vs Q E hr h=>?_)
  · obtain ⟨_,_,_,_,_,_,_,rfl,_⟩:=h;rfl
  · obtain ⟨lv,ld,H0,L,r,ts,ds,rfl,O,hv,r40,hL,dd,hok,hdl,hRr,q,qE,qR⟩:=h
    have htl:ts.length=ds.length:=by rw [dd.length,List.length_map]
    refine ⟨_,(au (bG (i:=2) lg.nd rfl (Or.inl rfl) (xM R_Roll.k jc (hr.mono (by decide)) rfl R_Roll.m cV.b .nil iM (aj (pv 0) ao)))
      (au (kW PassesOwn.leaving rfl (jR (pv 1)) (bH (i:=3) lg.nd rfl (Or.inl rfl))
        (aA (aN (aL yZ (hr.mono (by decide)) rfl jr.m jr.F.kp jr.b .nil iM (aj (pv 2) (aj (pv 3) ao))))))
      (aA (aY (pv 2))))),?_⟩
    refine ⟨_,rfl,?_⟩
    intro x dx nx ndx nex
    have hx':(upd H dx (HO.own x)) x=none:=by rw [bh nex.symm];exact nx
    have O1:=(O.mk' ndx (o:=.own x) rfl).mk' (a:=x) (o:=.ins C dx []) hx' rfl
    have s1:aJ T H (upd (upd H dx (.own x)) x (.ins C dx [])):=((aJ.refl O.same.t1).upd ndx (.inl ndx)).upd nx (.inl hx')
    refine ⟨x,dx,lv,H0,_,r,rfl,O1,s1.seq hv,by omega,fun hR A H5 eA O5=>⟨rfl,?_⟩,fun hR e H' s' he=>?_⟩
    rotate_left
    · exact qR hR e H0 H' (aJ.refl O.same.t0) ((O1.jg s').sub (List.Sublist.cons _ (List.sublist_cons_self _ _))) he
    subst eA
    clear O1 nx ndx nex hx' s1
    refine ⟨_,rfl,ld,rfl,⟨_,hL H0 _ _ (aJ.refl O.same.t0) O5⟩,?_⟩
    refine lR (K:=K) (xs:=ts) (fun i σ H'=>Iv (∃ (v3:Option V) (Hb:Hp) (S:RS),σ=[some (.ref lv),some (.ref ld),some (.ref A.p),v3]∧aJ T H0 Hb∧RA K T C A [] r Hb H' L S∧RP r [] S∧S.ds.length=i∧replay r RS.new (ds.take i)=.ok S))
      ⟨trivial,none,H0,RS.new,rfl,aJ.refl O.same.t0,⟨[],[],O5,.nil,.nil⟩,⟨hRr hR,r40,rfl,by decide,by decide,by decide,v8.nil⟩,rfl,rfl⟩ (fun i σ H' _ ⟨_,_,Hb,S,_,s,⟨us,vs,O,_⟩,_⟩=>hL Hb H' (RX C A [] r S.day us S.ns vs) s O) ?_ ?_
    · clear O O5
      rintro i y σ H6 hy ⟨-,v3,Hb,S,rfl,sb,ra,hp,hSi,hre⟩
      have hi:=(List.getElem?_eq_some_iff.mp hy).1
      obtain ⟨d,hd⟩:∃ d,ds[i]?=some d:=⟨_,List.getElem?_eq_getElem (by omega)⟩
      obtain ⟨v,hv1,hv2⟩:=dd.get (i:=i) (d:=iQ d) (by rw [List.getElem?_map,hd];rfl)
      rw [hy] at hv1
      cases hv1
      obtain ⟨t,e,-⟩:=mz hv2
      subst e
      have hsn:replay r RS.new (ds.take (i + 1))=step r S d:=by rw [Tn.iU hd];exact iW hre
      refine ⟨_,rfl,_,rfl,A,[],Hb,L,r,S,t,d,rfl,ra,hp,hv2.mo sb,hok d (List.mem_of_getElem? hd),fun S' hs Hc H7 sc ra'=>?_,fun k hk e H7 s7 he=>?_⟩
      · exact ⟨trivial,_,Hc,S',rfl,sb.trans sc,ra',wD hp (by omega) hs,by rw [pB hs,List.length_append,hSi];rfl,hsn.trans hs⟩
      · obtain ⟨us,vs,O,_⟩:=ra
        refine qE hR k ?_ e Hb H7 sb ((O.jg s7).sub (List.sublist_append_right _ _)) he
        have h1:ds=ds.take i++(d :: ds.drop (i + 1)):=by
          obtain ⟨h1,h2⟩:=List.getElem?_eq_some_iff.mp hd
          rw [← h2,← List.drop_eq_getElem_cons h1,List.take_append_drop]
        rw [h1]
        refine oX hre ?_
        simp only [replay,hk]
    clear O O5
    rintro σ H6 ⟨-,v3,Hb,S,rfl,sb,ra,hp,hSi,hre⟩
    rw [htl,List.take_length] at hre
    exact ⟨_,rfl,q hR S hre A Hb H6 sb ra⟩
end
theorem yG (ls:List Lic):PyData.eqv (.list (ls.map oF)) (.list [])=decide (ls.length=0):=by
  cases ls with
  | nil=>rfl
  | cons p ps=>rfl
abbrev fU:Stmt:=top 39
theorem mH:aM ["cell","place","spot"] ["cell","place"] (ak fU):=⟨rfl,rfl,rfl,by decide +kernel,rfl,by decide +kernel,by decide +kernel⟩
def dv (c k:Int):Int:=(c % 999983 + 400009 + 7001 * k) * (c % 999983 + 400009 + 7001 * k) * (c % 999983 + 400009 + 7001 * k) * (2 * k + 3) % 1000000007
theorem Va (c k:Int):0≤dv c k:=Int.emod_nonneg _ (by decide)
def K6:Sp:=fun vs H Q _=>∃ (c k:Int),vs=[.int c,.int k]∧0≤k∧k≤1000∧Q (.int (dv c k)) H
theorem S5 {f:Addr} {fd:FuncData} (D:Df K mg "_law_draw" fU ["cell","place"] f fd):bF P w K mg base CX0 1 f fd ["cell","place"] K6:=by
  refine D.F.ok mH (fun vs H Q E h=>?_) (fun cdv A outer s H vs Q E hr h=>?_)
  · obtain ⟨c,k,rfl,_⟩:=h;rfl
  · obtain ⟨c,k,rfl,h0,h1,q⟩:=h
    have a0:=Int.emod_nonneg c (show (999983:Int)≠0 by decide)
    have a1:=Int.emod_lt_of_pos c (show (0:Int)<999983 by decide)
    refine ⟨_,(au (bG (i:=2) mH.nd rfl (Or.inl rfl) (bK jV (bK jV (bK fY (pv 0) aq) aq) (bK nJ aq (pv 1))))
      (aA (aY (bK fY (bK nJ (bK nJ (bK nJ (pv 2) (pv 2)) (pv 2)) (bK jV (bK nJ aq (pv 1)) aq)) aq)))),?_⟩
    refine ⟨_,rfl,_,_,rfl,rfl,(by show (0:Int)<999983;decide),_,_,rfl,rfl,_,rfl,_,_,rfl,rfl,.inl ⟨by decide,by decide⟩,_,_,rfl,rfl,?_⟩
    exact ⟨_,rfl,_,rfl,_,_,rfl,rfl,.inl ⟨by omega,by omega⟩,_,rfl,_,_,rfl,rfl,.inr ⟨by omega,by omega⟩,_,rfl,_,_,rfl,rfl,.inl ⟨by decide,by decide⟩,_,_,rfl,rfl,_,_,rfl,rfl,.inr ⟨by omega,by omega⟩,_,_,rfl,rfl,(by show (0:Int)<1000000007;decide),q⟩
abbrev cM:Stmt:=top 40
theorem pK:aM ["cell","many"] ["cell","many"] (ak cM):=⟨rfl,rfl,rfl,by decide +kernel,rfl,by decide +kernel,by decide +kernel⟩
def dvs (c:Int) (n:Nat):List Int:=(List.range n).map fun (i:Nat)=>dv c (i:Int)
theorem Ad (c:Int) (n:Nat):dvs c (n + 1)=dvs c n++[dv c (n:Int)]:=by
  unfold dvs;rw [List.range_succ,List.map_append];rfl
theorem ql (c:Int) (n:Nat):(dvs c n).length=n:=by unfold dvs;simp
theorem vg {c:Int} {n k:Nat} (h:k<n):(dvs c n)[k]?=some (dv c (k:Int)):=by
  unfold dvs;rw [List.getElem?_map,List.getElem?_range h];rfl
def wM (T:dW):Sp:=fun vs H Q _=>∃ (c:Int) (n:Nat),vs=[.int c,.int (n:Int)]∧n≤100∧TabsOk T H∧Ah T H (fun xs=>xs=(dvs c n).map V.int) Q
theorem Lr {f f1:Addr} {fd fd1:FuncData} (D:Df K mg "_law_draws" cM ["cell","many"] f fd) (B:Blt mg)
    (iu:Df K mg "_law_draw" fU ["cell","place"] f1 fd1) (uo:bF P w K mg base CX0 1 f1 fd1 ["cell","place"] K6):bF P w K mg base CX0 2 f fd ["cell","many"] (wM T):=by
  refine D.F.ok pK (fun vs H Q E h=>?_) (fun cdv A outer s H vs Q E hr h=>?_)
  · obtain ⟨c,n,rfl,_⟩:=h;rfl
  · obtain ⟨c,n,rfl,h1,tk,q⟩:=h
    refine ⟨_,(aA (aY (jy (ak cM) rfl ["cell","many"] rfl ["place","cell"] [none,some 0] (by decide +kernel) (by decide +kernel) (by decide +kernel) rfl (jQ rfl B.range (aj (pv 1) ao)) (fun _ _ _=>(bH (i:=0) (show (["place","cell"]:List Str).Nodup by decide +kernel) rfl (Or.inl rfl))) (fun _ _ _=>jx) (fun _ _ _=>(aL uo (hr.mono (by decide)) rfl iu.m iu.F.kp iu.b .nil bO (aj (pv 1) (aj (pv 0) ao))))))),?_⟩
    have O:=Ow.refl tk
    refine ⟨_,rfl,n,rfl,by omega,by omega,fun lw hlw=>?_⟩
    refine kj (fun i τ H'=>Iv (∃ (v0:Option V),τ=[v0,some (.int c)]∧Ow T H H' [(lw,.lst ((dvs c i).map V.int))])) ⟨trivial,none,rfl,O.mk' hlw rfl⟩ ?_ ?_
    · rintro i τ H4 hi ⟨-,v0,rfl,O⟩
      refine Al ⟨_,rfl,_,rfl,c,_,rfl,by omega,by omega,?_⟩
      refine ⟨_,O.get 0,aV (by rw [List.length_map,ql];omega),?_⟩
      walk_at "pt"
      refine ⟨trivial,_,rfl,?_⟩
      rw [Ad,List.map_append,← Int.zero_add (i:Int)];exact O
    rintro τ H4 ⟨-,v0,rfl,O⟩
    rw [show ((n:Int)).toNat=n by omega] at O
    exact O.ret 0 rfl q rfl
abbrev cJ:Stmt:=top 41
theorem gq:aM ["cell","xs","many","spots","below","k"] ["cell"] (ak cJ):=⟨rfl,rfl,rfl,by decide +kernel,rfl,by decide +kernel,by decide +kernel⟩
def uI (T:dW):Sp:=fun vs H Q _=>∃ (c:Int),vs=[.int c]∧TabsOk T H∧Ah T H (fun xs=>∃ r,xs=r.map V.int∧Rv.mW r∧1≤r.length∧r.length≤12) Q
theorem Lb {n:Nat} {w:Int} (h0:0≤w) (h1:w<2):∃ s:Int,atI [V.int 1,V.int ((n:Int) - 1)] w=some (V.int s)∧s=(if w=0 then 1 else (n:Int) - 1):=by
  rcases (by omega:w=0∨w=1) with e | e <;> subst e <;> exact ⟨_,rfl,rfl⟩
theorem zK {f f1:Addr} {fd fd1:FuncData} (D:Df K mg "_law_river" cJ ["cell"] f fd) (B:Blt mg)
    (cG:Df K mg "_law_draws" cM ["cell","many"] f1 fd1) (jZ:bF P w K mg base CX0 2 f1 fd1 ["cell","many"] (wM T)):bF P w K mg base CX0 3 f fd ["cell"] (uI T):=by
  refine D.F.ok gq (fun vs H Q E h=>?_) (fun cdv A outer s H vs Q E hr h=>?_)
  · obtain ⟨_,rfl,_⟩:=h;rfl
  · obtain ⟨c,rfl,tk,q⟩:=h
    refine ⟨_,(au (bG (i:=1) gq.nd rfl (Or.inr rfl) (aL jZ (hr.mono (by decide)) rfl cG.m cG.F.kp cG.b .nil bO (aj (bK jU (pv 0) aq) (aj aq ao))))
      (au (bG (i:=2) gq.nd rfl (Or.inr rfl) (bK jV aq (bK fY (pv 0) aq)))
      (au (j9 (i:=3) (ak cJ) rfl ["cell","xs","many","spots","below","k"] rfl ["k","many","xs"] [none,some 2,some 1] (by decide +kernel) (by decide +kernel) (by decide +kernel) rfl gq.nd rfl rfl (jQ rfl B.range (aj (pv 2) ao)) (fun _ _ _=>(bH (i:=0) (show (["k","many","xs"]:List Str).Nodup by decide +kernel) rfl (Or.inl rfl))) (fun _ _ _=>jx) (fun _ _ _=>(bK fY (bK jV (aG (m7 (K:=K) rfl) (pv 2) aq (fun _ _=>rfl)) (bK nJ (pv 0) (aG (m7 (K:=K) rfl) (gF (aj aq (aj (bK lO (pv 1) aq) ao))) (bK fY (aG (m7 (K:=K) rfl) (pv 2) aq (fun _ _=>rfl)) aq) (fun _ _=>rfl)))) (pv 1))) rfl)
      (au (j9 (i:=4) (ak cJ) rfl ["cell","xs","many","spots","below","k"] rfl ["k"] [none] (by decide +kernel) (by decide +kernel) (by decide +kernel) rfl gq.nd rfl rfl (jQ rfl B.range (aj (pv 2) ao)) (fun _ _ _=>(bH (i:=0) (show (["k"]:List Str).Nodup by decide +kernel) rfl (Or.inl rfl))) (fun _ _ _=>jx) (fun _ _ _=>(rB mG aq)) rfl)
      (au (kW PassesOwn.never rfl (xJ rfl B.range (aj aq (aj (pv 2) ao))) (bH (i:=5) gq.nd rfl (Or.inl rfl))
        (aA (bN (aH xR (bK fY (aG aW (pv 1) (pv 5) (fun _ _=>rfl)) aq) aq (aX _))
          (aA (jj (aG aW (pv 3) (bK fY (bK jU (aG aW (pv 1) (pv 5) (fun _ _=>rfl)) aq) (pv 5)) (fun _ _=>rfl)) (jF (pv 4) (aG aW (pv 3) (pv 5) (fun _ _=>rfl)) set_list)))
          aZ)))
      (aA (aY (pv 4)))))))),?_⟩
    have O:=Ow.refl tk
    have c0:=Int.emod_nonneg c (show (12:Int)≠0 by decide)
    have c1:=Int.emod_lt_of_pos c (show (0:Int)<12 by decide)
    refine ⟨_,rfl,_,_,rfl,rfl,⟨by decide,by decide⟩,_,14,rfl,by omega,tk,O.U8 fun lx H2 xs O e=>?_⟩
    subst e
    refine ⟨_,rfl,_,_,rfl,rfl,(by show (0:Int)<12;decide),_,_,rfl,rfl,?_⟩
    dsimp only
    obtain ⟨n,hn⟩:∃ n:Nat,1 + c % 12=(n:Int):=⟨(1 + c % 12).toNat,by omega⟩
    rw [hn]
    have n1:1≤n:=by omega
    have n12:n≤12:=by omega
    have hx14:=ql (c / 12) 14
    have g12:(dvs (c / 12) 14)[12]?=some (dv (c / 12) 12):=vg (by decide)
    have g13:(dvs (c / 12) 14)[13]?=some (dv (c / 12) 13):=vg (by decide)
    have gk:∀ k:Nat,k<14→(dvs (c / 12) 14)[k]?=some (dv (c / 12) (k:Int)):=fun k hk=>vg hk
    generalize dvs (c / 12) 14=ys at O hx14 g12 g13 gk
    have w0:=Int.emod_nonneg (dv (c / 12) 13) (show (2:Int)≠0 by decide)
    have w1:=Int.emod_lt_of_pos (dv (c / 12) 13) (show (0:Int)<2 by decide)
    obtain ⟨st,hst,est⟩:=Lb (n:=n) w0 w1
    have hst2:st=1∨st=(n:Int) - 1:=by rw [est];split <;> simp
    have nn:(0:Int)<(n:Int):=by omega
    generalize dv (c / 12) 12=x1 at g12
    generalize dv (c / 12) 13=x2 at g13 hst w0 w1
    refine ⟨_,rfl,n,rfl,by omega,by omega,fun acc hacc=>?_⟩
    refine kj (fun i τ H'=>Iv (∃ (v0:Option V),τ=[v0,some (.int (n:Int)),some (.ref lx)]∧Ow T H H' [(acc,.lst ((Rv.spots n x1 st i).map V.int)),(lx,.lst (ys.map V.int))])) ⟨trivial,none,rfl,O.mk' hacc rfl⟩ ?_ ?_
    · rintro i τ H3 hi ⟨-,v0,rfl,O⟩
      have hi:i<n:=by omega
      rw [show (0:Int) + (i:Int)=(i:Int) by omega]
      refine Al ?_
      refine ⟨_,rfl,lx,_,12,_,rfl,rfl,O.sq 1,bQ (i:=12) g12,_,rfl,_,rfl,_,_,rfl,rfl,szl,fun l3 h3=>?_⟩
      walk_at "nw"
      refine ⟨_,rfl,lx,_,13,_,rfl,rfl,O.sq 2,bQ (i:=13) g13,_,_,rfl,rfl,(by show (0:Int)<2;decide),l3,_,_,_,rfl,rfl,O.sq 0,hst,_,_,rfl,rfl,.inl ⟨by omega,by omega⟩,_,_,rfl,rfl,_,rfl,_,_,rfl,rfl,nn,?_⟩
      have O:=O.tail
      refine ⟨_,O.get 0,aV (by rw [List.length_map,Rv.wF];omega),?_⟩
      walk_at "pt"
      refine ⟨trivial,_,rfl,?_⟩
      rw [Rv.vI,List.map_append]
      rw [Int.mul_comm (i:Int) st] at O
      exact O
    rintro τ H3 ⟨-,v0,rfl,O⟩
    rw [Int.toNat_natCast] at O
    refine ⟨_,rfl,n,rfl,by omega,by omega,fun lb hlb=>?_⟩
    refine kj (fun i τ H'=>Iv (∃ (v0:Option V),τ=[v0]∧Ow T H H' [(lb,.lst ((List.replicate i (-1:Int)).map V.int)),(acc,.lst ((Rv.spots n x1 st n).map V.int)),(lx,.lst (ys.map V.int))])) ⟨trivial,none,rfl,O.mk' hlb rfl⟩ ?_ ?_
    · rintro i τ H3 hi ⟨-,v0,rfl,O⟩
      refine Al ?_
      refine ⟨1,rfl,_,O.get 0,aV (by rw [List.length_map,List.length_replicate];omega),?_⟩
      walk_at "pt"
      refine ⟨trivial,_,rfl,?_⟩
      rw [List.replicate_succ',List.map_append];exact O
    rintro τ H4 ⟨-,v0,rfl,O⟩
    rw [Int.toNat_natCast] at O
    refine ⟨_,rfl,1,(n:Int),rfl,⟨by omega,by omega,by omega,by omega⟩,?_⟩
    rw [show ((n:Int) - 1).toNat=n - 1 by omega]
    refine rJ (n:=n - 1) (fun i σ H'=>Iv (∃ (v5:Option V) (b:List Int),σ=[some (.int c),some (.ref lx),some (.int (n:Int)),some (.ref acc),some (.ref lb),v5]∧Rv.Lnk n (Rv.spot n x1 st) (i + 1) b ∧
      Ow T H H' [(lb,.lst (b.map V.int)),(acc,.lst ((Rv.spots n x1 st n).map V.int)),(lx,.lst (ys.map V.int))])) ⟨trivial,none,_,rfl,Rv.Lnk.start _ _,O⟩ ?_ ?_
    · rintro i σ H3 hi ⟨-,v5,b,rfl,L,O⟩
      rw [show (1:Int) + (i:Int)=((i + 1:Nat):Int) by omega]
      have gz:=gk (i + 1) (by omega)
      generalize dv (c / 12) ((i + 1:Nat):Int)=z at gz
      refine ⟨_,rfl,_,rfl,lx,_,_,_,rfl,rfl,O.sq 2,bQ gz,_,_,rfl,rfl,(by show (0:Int)<9;decide),rfl,_,rfl,ifN (ifI (fun hc=>?_) fun hc=>?_)⟩
      · exact ⟨trivial,_,b,rfl,L.skip,O⟩
      · have m0:=Int.emod_nonneg (z / 9) (show ((i + 1:Nat):Int)≠0 by omega)
        have m1:=Int.emod_lt_of_pos (z / 9) (show (0:Int)<((i + 1:Nat):Int) by omega)
        obtain ⟨j,hj⟩:∃ j:Nat,z / 9 % ((i + 1:Nat):Int)=(j:Int):=⟨(z / 9 % ((i + 1:Nat):Int)).toNat,by omega⟩
        have hjk:j<i + 1:=by omega
        refine ⟨_,rfl,_,rfl,_,rfl,lx,_,_,_,rfl,rfl,O.sq 2,bQ gz,_,_,rfl,rfl,⟨by decide,by decide⟩,_,rfl,_,_,rfl,rfl,(by show (0:Int)<((i + 1:Nat):Int);omega),?_⟩
        dsimp only
        rw [hj]
        refine ⟨acc,_,_,_,rfl,rfl,O.sq 1,bQ (Rv.uE (by omega)),?_⟩
        have s0:=Rv.wG (x:=x1) (s:=st) nn (i + 1)
        have s1:=Rv.wH (x:=x1) (s:=st) nn (i + 1)
        refine ⟨_,rfl,_,rfl,_,rfl,acc,_,_,_,rfl,rfl,O.sq 1,bQ (Rv.uE (by omega)),lb,_,_,_,rfl,rfl,O.get 0,S7 s0 (by rw [List.length_map,L.len];exact s1),?_⟩
        walk_at "pt"
        refine ⟨trivial,_,_,rfl,L.turn (by omega) hjk s0,?_⟩
        rw [List.map_set];exact O
    · rintro σ H3 ⟨-,v5,b,rfl,L,O⟩
      refine ⟨_,rfl,O.ret 0 rfl q ⟨b,rfl,L.nG (Rv.wG nn) (Rv.wH nn) (fun j k hj hk h=>Rv.zx nn hst2 (by omega) (by omega) h) n1,by rw [L.len];exact n1,by rw [L.len];exact n12⟩⟩
theorem J5 {a b w:Int} (h0:0≤w) (h1:w<2):∃ y,atI [V.int a,V.int b] w=some (V.int y):=by
  rcases (by omega:w=0∨w=1) with e | e <;> subst e
  · exact ⟨a,rfl⟩
  · exact ⟨b,rfl⟩
abbrev dj:Stmt:=top 42
theorem kO:aM ["xs","lines","far"] ["xs","lines"] (ak dj):=⟨rfl,rfl,rfl,by decide +kernel,rfl,by decide +kernel,by decide +kernel⟩
def Ay (K:PySem.W.Frag) (T:dW):Sp:=fun vs H Q _=>∃ (lx ll:Addr) (xs:List Int) (us:List V) (ls:List Lic),vs=[.ref lx,.ref ll]∧SqL K H lx (xs.map V.int)∧xs.length=8∧(∀ x∈xs,0≤x)∧SqL K H ll us∧cW K H us (ls.map oF)∧TabsOk T H∧∀ (y:Int) H',aJ T H H'→Q (.int y) H'
theorem Lw {f:Addr} {fd:FuncData} (D:Df K mg "_law_amount" dj ["xs","lines"] f fd) (B:Blt mg):bF P w K mg base CX0 1 f fd ["xs","lines"] (Ay K T):=by
  refine D.F.ok kO (fun vs H Q E h=>?_) (fun cdv A outer s H vs Q E hr h=>?_)
  · obtain ⟨_,_,_,_,_,rfl,_⟩:=h;rfl
  · obtain ⟨lx,ll,xs,us,ls,rfl,hX,h8,hx0,hL,d0,tk,q⟩:=h
    have hu:=hr.units
    have O:=Ow.refl tk
    have g:∀ k:Nat,k<8→xs[k]?=some (xs.getD k 0):=fun k hk=>rH (by omega)
    have gp:∀ k:Nat,k<8→0≤xs.getD k 0:=fun k hk=>hx0 _ (List.mem_of_getElem? (g k hk))
    have p4:=gp 4 (by decide)
    have p5:=gp 5 (by decide)
    have hul:us.length=ls.length:=by rw [d0.length,List.length_map]
    refine ⟨_,(au (bG (i:=2) kO.nd rfl (Or.inl rfl) (bK fY (bK nJ (aG aW (pv 0) aq (fun _ _=>rfl)) aq) (bK jV (bK Lh aq aq) aq)))
      (au (bN (PW.pt (pw_or (aH (xV hu) (pv 1) (gF ao) (aX _)) (pw_or1 (aH J7 (bK fY (aG aW (pv 0) aq (fun _ _=>rfl)) aq) aq (aX _)))))
        (aA (aY (aG aW (gF (aj (bK fY (aG aW (pv 0) aq (fun _ _=>rfl)) aq) (aj (pv 2) ao))) (bK fY (bK jU (aG aW (pv 0) aq (fun _ _=>rfl)) aq) aq) (fun _ _=>rfl))))
        aZ)
      (aA (aY (aR (rM rfl) rfl B.max PyProof.Rows.boot_max (aj aq (aj (bK lO (aG aD (aG aW (pv 1) (bK fY (aG aW (pv 0) aq (fun _ _=>rfl)) (aR bf rfl B.len PySem.boot_len (aj (pv 1) ao))) (fun _ _=>rfl)) aq (fun _ _=>rfl)) (bK fY (bK jU (aG aW (pv 0) aq (fun _ _=>rfl)) aq) aq)) ao))))))),?_⟩
    refine ⟨_,rfl,lx,_,4,_,rfl,rfl,hX,bQ (i:=4) (g 4 (by decide)),_,_,rfl,rfl,.inr ⟨by decide,by decide⟩,_,_,rfl,rfl,⟨by decide,by decide,by decide⟩,_,_,rfl,rfl,_,_,rfl,rfl,(by show (0:Int)<10 ^ (12:Int).toNat + 2;decide),?_⟩
    dsimp only
    generalize xs.getD 4 0 * 80021 % _=far
    have w0:=Int.emod_nonneg (xs.getD 5 0 / 3) (show (2:Int)≠0 by decide)
    have w1:=Int.emod_lt_of_pos (xs.getD 5 0 / 3) (show (0:Int)<2 by decide)
    refine ⟨_,rfl,szl,fun l0 h0=>?_⟩
    walk_at "nw"
    refine ⟨_,_,Den.list (O.same.seq hL) (d0.mo O.same),Den.list (ds:=[]) (O.sq 0) .nil,(Sh.roll 0 ls).ok (by decide),(Sh.mvs 0 []).ok (by decide),?_⟩
    rw [if_neg Bool.false_ne_true,yG]
    refine ⟨_,rfl,ifD (fun hc=>?_) (fun hc=>?_)⟩
    · refine ⟨_,rfl,lx,_,4,_,rfl,rfl,O.same.seq hX,bQ (i:=4) (g 4 (by decide)),_,_,rfl,rfl,(by show (0:Int)<7;decide),_,rfl,szl,fun l1 h1=>?_⟩
      walk_at "nw"
      obtain ⟨y,hy⟩:=J5 (a:=xs.getD 4 0 % 7) (b:=far) w0 w1
      exact ⟨_,rfl,lx,_,5,_,rfl,rfl,O.same.seq hX,bQ (i:=5) (g 5 (by decide)),_,_,rfl,rfl,⟨by decide,by decide⟩,_,_,rfl,rfl,(by show (0:Int)<2;decide),l1,_,_,_,rfl,rfl,O.sq 0,hy,q y _ O.same⟩
    refine ⟨_,rfl,lx,_,5,_,rfl,rfl,O.same.seq hX,bQ (i:=5) (g 5 (by decide)),_,_,rfl,rfl,(by show (0:Int)<3;decide),_,_,rfl,rfl,_,rfl,ifD (fun _=>?_) (fun _=>?_)⟩
    · refine ⟨_,rfl,lx,_,4,_,rfl,rfl,O.same.seq hX,bQ (i:=4) (g 4 (by decide)),_,_,rfl,rfl,(by show (0:Int)<7;decide),_,rfl,szl,fun l1 h1=>?_⟩
      walk_at "nw"
      obtain ⟨y,hy⟩:=J5 (a:=xs.getD 4 0 % 7) (b:=far) w0 w1
      exact ⟨_,rfl,lx,_,5,_,rfl,rfl,O.same.seq hX,bQ (i:=5) (g 5 (by decide)),_,_,rfl,rfl,⟨by decide,by decide⟩,_,_,rfl,rfl,(by show (0:Int)<2;decide),l1,_,_,_,rfl,rfl,O.sq 0,hy,q y _ O.same⟩
    have hl1:1≤us.length:=by
      have:¬ ls.length=0:=hc
      omega
    have n0:=Int.emod_nonneg (xs.getD 4 0) (show (us.length:Int)≠0 by omega)
    have n1:=Int.emod_lt_of_pos (xs.getD 4 0) (show (0:Int)<(us.length:Int) by omega)
    obtain ⟨k,hk⟩:=Int.eq_ofNat_of_zero_le n0
    obtain ⟨l,hl⟩:∃ l,ls[k]?=some l:=⟨_,List.getElem?_eq_getElem (by omega)⟩
    obtain ⟨al,hal,hT⟩:=d0.jW hl
    refine ⟨_,rfl,_,rfl,lx,_,4,_,rfl,rfl,O.same.seq hX,bQ (i:=4) (g 4 (by decide)),_,rfl,ll,_,rfl,.inl (O.same.seq hL),_,_,rfl,rfl,(by omega),ll,_,_,_,rfl,rfl,O.same.seq hL,(by rw [hk];exact fZ hal),al,_,3,_,rfl,rfl,hT.mo O.same,rfl,_,rfl,lx,_,5,_,rfl,rfl,O.same.seq hX,bQ (i:=5) (g 5 (by decide)),_,_,rfl,rfl,⟨by decide,by decide⟩,_,_,rfl,rfl,(by show (0:Int)<2;decide),_,_,rfl,rfl,_,_,rfl,?_⟩
    exact q _ _ O.same
abbrev fQ:Stmt:=top 43
theorem qM:aM ["number"] ["number"] (ak fQ):=⟨rfl,rfl,rfl,by decide +kernel,rfl,by decide +kernel,by decide +kernel⟩
theorem La {w:Int} (h0:0≤w) (h1:w<8):∃ x:Str,atI [V.str "a",V.str "b",V.str "c",V.str "ab",V.str "ba",V.str "abcabcab",V.str "",V.str "A"] w=some (V.str x)∧Asc x:=by
  rcases (by omega:w=0∨w=1∨w=2∨w=3∨w=4∨w=5∨w=6∨w=7) with e | e | e | e | e | e | e | e <;> subst e
  all_goals exact ⟨_,rfl,by decide +kernel,by decide +kernel⟩
def wK (T:dW):Sp:=fun vs H Q _=>∃ (n:Int),vs=[.int n]∧TabsOk T H∧∀ (x:Str) H',Asc x→aJ T H H'→Q (.str x) H'
theorem Ka {f:Addr} {fd:FuncData} (D:Df K mg "_law_name" fQ ["number"] f fd):bF P w K mg base CX0 1 f fd ["number"] (wK T):=by
  refine D.F.ok qM (fun vs H Q E h=>?_) (fun cdv A outer s H vs Q E hr h=>?_)
  · obtain ⟨_,rfl,_⟩:=h;rfl
  · obtain ⟨n,rfl,tk,q⟩:=h
    have O:=Ow.refl tk
    obtain ⟨x,hx,ax⟩:=La (Int.emod_nonneg n (show (8:Int)≠0 by decide)) (Int.emod_lt_of_pos n (show (0:Int)<8 by decide))
    change ∃ t,PSs _ (_ :: _) t∧_
    generalize hc0:Expr.Constant (Const.str "a") 0 ⟨227,12,227,15⟩=a0
    have hA0:∀ X:Cx,PE X a0 (tC (.str "a")):=fun X=>by rw [← hc0];exact aQ
    have hN0:∀ (es:List Expr) (env:Env),starEach (a0 :: es) env=(false,eval a0 env) :: starEach es env:=fun es env=>by rw [← hc0];rfl
    generalize hc1:Expr.Constant (Const.str "b") 0 ⟨227,17,227,20⟩=a1
    have hA1:∀ X:Cx,PE X a1 (tC (.str "b")):=fun X=>by rw [← hc1];exact aQ
    have hN1:∀ (es:List Expr) (env:Env),starEach (a1 :: es) env=(false,eval a1 env) :: starEach es env:=fun es env=>by rw [← hc1];rfl
    generalize hc2:Expr.Constant (Const.str "c") 0 ⟨227,22,227,25⟩=a2
    have hA2:∀ X:Cx,PE X a2 (tC (.str "c")):=fun X=>by rw [← hc2];exact aQ
    have hN2:∀ (es:List Expr) (env:Env),starEach (a2 :: es) env=(false,eval a2 env) :: starEach es env:=fun es env=>by rw [← hc2];rfl
    generalize hc3:Expr.Constant (Const.str "ab") 0 ⟨227,27,227,31⟩=a3
    have hA3:∀ X:Cx,PE X a3 (tC (.str "ab")):=fun X=>by rw [← hc3];exact aQ
    have hN3:∀ (es:List Expr) (env:Env),starEach (a3 :: es) env=(false,eval a3 env) :: starEach es env:=fun es env=>by rw [← hc3];rfl
    generalize hc4:Expr.Constant (Const.str "ba") 0 ⟨227,33,227,37⟩=a4
    have hA4:∀ X:Cx,PE X a4 (tC (.str "ba")):=fun X=>by rw [← hc4];exact aQ
    have hN4:∀ (es:List Expr) (env:Env),starEach (a4 :: es) env=(false,eval a4 env) :: starEach es env:=fun es env=>by rw [← hc4];rfl
    generalize hc5:Expr.Constant (Const.str "abcabcab") 0 ⟨227,39,227,49⟩=a5
    have hA5:∀ X:Cx,PE X a5 (tC (.str "abcabcab")):=fun X=>by rw [← hc5];exact aQ
    have hN5:∀ (es:List Expr) (env:Env),starEach (a5 :: es) env=(false,eval a5 env) :: starEach es env:=fun es env=>by rw [← hc5];rfl
    generalize hc6:Expr.Constant (Const.str "") 0 ⟨227,51,227,53⟩=a6
    have hA6:∀ X:Cx,PE X a6 (tC (.str "")):=fun X=>by rw [← hc6];exact aQ
    have hN6:∀ (es:List Expr) (env:Env),starEach (a6 :: es) env=(false,eval a6 env) :: starEach es env:=fun es env=>by rw [← hc6];rfl
    generalize hc7:Expr.Constant (Const.str "A") 0 ⟨227,55,227,58⟩=a7
    have hA7:∀ X:Cx,PE X a7 (tC (.str "A")):=fun X=>by rw [← hc7];exact aQ
    have hN7:∀ (es:List Expr) (env:Env),starEach (a7 :: es) env=(false,eval a7 env) :: starEach es env:=fun es env=>by rw [← hc7];rfl
    refine ⟨_,(aA (aY (aG aW (gF (aj (hA0 _) (aj (hA1 _) (aj (hA2 _) (aj (hA3 _) (aj (hA4 _) (aj (hA5 _) (aj (hA6 _) (aj (hA7 _) ao (hN7 _ _)) (hN6 _ _)) (hN5 _ _)) (hN4 _ _)) (hN3 _ _)) (hN2 _ _)) (hN1 _ _)) (hN0 _ _))) (bK fY (pv 0) aq) (fun _ _=>rfl)))),?_⟩
    refine ⟨szl,fun l1 h1=>?_⟩
    walk_at "nw"
    exact ⟨_,rfl,_,_,rfl,rfl,(by show (0:Int)<8;decide),l1,_,_,_,rfl,rfl,O.sq 0,hx,q x _ ax O.same⟩
def dL (t a:Addr):je→List (Addr × HO)
  | .turn=>[(t,.tup [.str "turn"])]
  | .file x s m b=>[(t,.tup [.str "file",.str x,.int s,.int m,.int b])]
  | .sell n y z=>[(t,.tup [.str "sell",.int n,.str y,.str z])]
  | .part n y m z=>[(t,.tup [.str "part",.int n,.str y,.int m,.str z])]
  | .drop n y=>[(t,.tup [.str "drop",.int n,.str y])]
  | .move n y s=>[(t,.tup [.str "move",.int n,.str y,.int s])]
  | .lapse xs=>[(t,.tup [.str "lapse",.ref a]),(a,.tup (xs.map V.int))]
theorem RN {K:PySem.W.Frag} {T:dW} {H0 H:Hp} {L:List (Addr × HO)} {t a:Addr} {d:je} (O:Ow T H0 H (dL t a d++L)):∃ Hb,Ow T Hb H L∧aJ T H0 Hb∧Den K Hb (.ref t) (iQ d):=by
  cases d with
  | turn=>obtain ⟨Hb,O,sb,e⟩:=(show Ow T H0 H (_ :: L) from O).frz;exact ⟨Hb,O,sb,.tuple (SqT.of e) (.cons (.str _) .nil)⟩
  | file x s m b=>obtain ⟨Hb,O,sb,e⟩:=(show Ow T H0 H (_ :: L) from O).frz;exact ⟨Hb,O,sb,.tuple (SqT.of e) (.cons (.str _) (.cons (.str _) (.cons (.int _) (.cons (.int _) (.cons (.int _) .nil)))))⟩
  | sell n y z=>obtain ⟨Hb,O,sb,e⟩:=(show Ow T H0 H (_ :: L) from O).frz;exact ⟨Hb,O,sb,.tuple (SqT.of e) (.cons (.str _) (.cons (.int _) (.cons (.str _) (.cons (.str _) .nil))))⟩
  | part n y m z=>obtain ⟨Hb,O,sb,e⟩:=(show Ow T H0 H (_ :: L) from O).frz;exact ⟨Hb,O,sb,.tuple (SqT.of e) (.cons (.str _) (.cons (.int _) (.cons (.str _) (.cons (.int _) (.cons (.str _) .nil)))))⟩
  | drop n y=>obtain ⟨Hb,O,sb,e⟩:=(show Ow T H0 H (_ :: L) from O).frz;exact ⟨Hb,O,sb,.tuple (SqT.of e) (.cons (.str _) (.cons (.int _) (.cons (.str _) .nil)))⟩
  | move n y s=>obtain ⟨Hb,O,sb,e⟩:=(show Ow T H0 H (_ :: L) from O).frz;exact ⟨Hb,O,sb,.tuple (SqT.of e) (.cons (.str _) (.cons (.int _) (.cons (.str _) (.cons (.int _) .nil))))⟩
  | lapse xs =>
    obtain ⟨Hb,O,sb,e⟩:=(show Ow T H0 H (_ :: _ :: L) from O).frz
    obtain ⟨Hc,O,sc,e2⟩:=O.frz
    have e:=sc.keep _ _ e (fun _ z=>nomatch z)
    exact ⟨Hc,O,sb.trans sc,.tuple (SqT.of e) (.cons (.str _) (.cons (.tuple (SqT.of e2) (cW.ints xs)) .nil))⟩
abbrev eE:Stmt:=top 44
theorem dX:aM ["xs","many","lines","owners","number","name","amount","start","kind","numbers"] ["xs","many","lines","owners"] (ak eE):=⟨rfl,rfl,rfl,by decide +kernel,rfl,by decide +kernel,by decide +kernel⟩
def wO (K:PySem.W.Frag) (T:dW):Sp:=fun vs H Q _=>∃ (lx ll ln:Addr) (xs:List Int) (many:Nat) (us:List V) (ls:List Lic) (ns:List Str),vs=[.ref lx,.int (many:Int),.ref ll,.ref ln]∧SqL K H lx (xs.map V.int)∧xs.length=8∧(∀ x∈xs,0≤x)∧SqL K H ll us∧cW K H us (ls.map oF)∧SqL K H ln (ns.map V.str)∧ns.length=ls.length∧(∀ x∈ns,Asc x)∧ls.length≤60∧TabsOk T H ∧
  ∀ (t a:Addr) (d:je) H',Ow T H H' (dL t a d)→jo d→Q (.ref t) H'
theorem Kg {f f1 f2:Addr} {fd fd1 fd2:FuncData} (D:Df K mg "_law_deed" eE ["xs","many","lines","owners"] f fd) (B:Blt mg)
    (bI:Df K mg "_law_name" fQ ["number"] f1 fd1) (jD:bF P w K mg base CX0 1 f1 fd1 ["number"] (wK T))
    (gB:Df K mg "_law_amount" dj ["xs","lines"] f2 fd2) (qu:bF P w K mg base CX0 1 f2 fd2 ["xs","lines"] (Ay K T)):bF P w K mg base CX0 2 f fd ["xs","many","lines","owners"] (wO K T):=by
  refine D.F.ok dX (fun vs H Q E h=>?_) (fun cdv A outer s H vs Q E hr h=>?_)
  · obtain ⟨_,_,_,_,_,_,_,_,rfl,_⟩:=h;rfl
  · obtain ⟨lx,ll,ln,xs,many,us,ls,ns,rfl,hX,h8,hx0,hL,d0,hN,hnn,hna,hl60,tk,q⟩:=h
    have hu:=hr.units
    have O:=Ow.refl tk
    have g:∀ k:Nat,k<8→xs[k]?=some (xs.getD k 0):=fun k hk=>rH (by omega)
    have hul:us.length=ls.length:=by rw [d0.length,List.length_map]
    refine ⟨_,(au (bG (i:=4) dX.nd rfl (Or.inl rfl) (bK lO (bK fY (aG aW (pv 0) aq (fun _ _=>rfl)) (bK jV (aR bf rfl B.len PySem.boot_len (aj (pv 2) ao)) aq)) aq))
      (au (bG (i:=5) dX.nd rfl (Or.inl rfl) (aL jD (hr.mono (by decide)) rfl bI.m bI.F.kp bI.b .nil bO (aj (aG aW (pv 0) aq (fun _ _=>rfl)) ao)))
      (nH (bN (PW.pt (pw_and (aH J7 (bK fY (aG aW (pv 0) aq (fun _ _=>rfl)) aq) aq (aX _)) (pw_and1 (j8 mj pY aq (pv 4) (aR bf rfl B.len PySem.boot_len (aj (pv 2) ao))))))
        (aA (bG (i:=5) dX.nd rfl (Or.inl rfl) (aG aW (pv 3) (pv 4) (fun _ _=>rfl))))
        aZ)
      (au (bG (i:=6) dX.nd rfl (Or.inl rfl) (aL qu (hr.mono (by decide)) rfl gB.m gB.F.kp gB.b .nil bO (aj (pv 0) (aj (pv 2) ao))))
      (au (bG (i:=7) dX.nd rfl (Or.inl rfl) (bK lO (bK fY (aG aW (pv 0) aq (fun _ _=>rfl)) (bK jV (pv 1) aq)) aq))
      (au (bG (i:=8) dX.nd rfl (Or.inl rfl) (bK fY (aG aW (pv 0) aq (fun _ _=>rfl)) aq))
      (au (bN (aH gJ (pv 8) aq (aX _))
        (aA (aY (cP (aj aQ ao))))
        aZ)
      (au (bN (aH pY (pv 8) aq (aX _))
        (aA (aY (cP (aj aQ (aj (aL jD (hr.mono (by decide)) rfl bI.m bI.F.kp bI.b .nil bO (aj (aG aW (pv 0) aq (fun _ _=>rfl)) ao)) (aj (pv 7) (aj (pv 6) (aj (aG aW (gF (aj (rB mG aq) (aj (bK lO (bK fY (aG aW (pv 0) aq (fun _ _=>rfl)) (bK jV (pv 1) aq)) aq) ao))) (bK fY (bK jU (aG aW (pv 0) aq (fun _ _=>rfl)) aq) aq) (fun _ _=>rfl)) ao))))))))
        aZ)
      (au (bN (aH gJ (pv 8) aq (aX _))
        (aA (aY (cP (aj aQ (aj (pv 4) (aj (pv 5) (aj (aL jD (hr.mono (by decide)) rfl bI.m bI.F.kp bI.b .nil bO (aj (aG aW (pv 0) aq (fun _ _=>rfl)) ao)) ao)))))))
        aZ)
      (au (bN (aH gJ (pv 8) aq (aX _))
        (aA (aY (cP (aj aQ (aj (pv 4) (aj (pv 5) (aj (pv 6) (aj (aL jD (hr.mono (by decide)) rfl bI.m bI.F.kp bI.b .nil bO (aj (aG aW (pv 0) aq (fun _ _=>rfl)) ao)) ao))))))))
        aZ)
      (au (bN (aH gJ (pv 8) aq (aX _))
        (aA (aY (cP (aj aQ (aj (pv 4) (aj (pv 5) ao))))))
        aZ)
      (au (bN (aH gJ (pv 8) aq (aX _))
        (aA (aY (cP (aj aQ (aj (pv 4) (aj (pv 5) (aj (pv 7) ao)))))))
        aZ)
      (au (j9 (i:=9) (ak eE) rfl ["xs","many","lines","owners","number","name","amount","start","kind","numbers"] rfl ["k","line","xs"] [none,none,some 0] (by decide +kernel) (by decide +kernel) (by decide +kernel) rfl dX.nd rfl rfl (pR rfl B.enumerate (aj (pv 2) ao)) (fun _ _ _=>(xK (K:=K) (n:=2) rfl rfl (fL (bH (i:=0) (show (["k","line","xs"]:List Str).Nodup by decide +kernel) rfl (Or.inl rfl)) (fL (bH (i:=1) (show (["k","line","xs"]:List Str).Nodup by decide +kernel) rfl (Or.inl rfl)) lY)))) (fun _ _ _=>jx) (fun _ _ _=>(aR (rM rfl) rfl B.max PyProof.Rows.boot_max (aj aq (aj (bK lO (aG (Ko (K:=K) rfl) (pv 1) aq (fun _ _=>rfl)) (bK jU (bK fY (bK jU (aG (m7 (K:=K) rfl) (pv 2) aq (fun _ _=>rfl)) (bK jV (pv 0) aq)) aq) aq)) ao)))) rfl)
      (aA (aY (cP (aj aQ (aj (fB jB rfl B.tuple PyProof.Rows.boot_tuple (aj (pU sZ (pv 9) (pQ (bK jU (bK fY (aG aW (pv 0) aq (fun _ _=>rfl)) aq) aq)) xr) ao)) ao)))))))))))))))))),?_⟩
    refine ⟨_,rfl,lx,_,1,_,rfl,rfl,hX,bQ (i:=1) (g 1 (by decide)),_,rfl,ll,_,rfl,.inl hL,_,_,rfl,rfl,_,_,rfl,rfl,(by show (0:Int)<(us.length:Int) + 2;omega),_,_,rfl,rfl,?_⟩
    dsimp only
    generalize xs.getD 1 0 % ((us.length:Int) + 2) - 1=nb
    refine ⟨_,rfl,lx,_,2,_,rfl,rfl,hX,bQ (i:=2) (g 2 (by decide)),_,rfl,tk,fun nm H1 anm s1=>?_⟩
    have O:=O.jg s1
    refine ⟨fun σ H'=>Iv (∃ (nm:Str),σ=[some (.ref lx),some (.int (many:Int)),some (.ref ll),some (.ref ln),some (.int nb),some (.str nm),none,none,none,none]∧Asc nm∧aJ T H H'),?_,?_⟩
    · refine ⟨_,rfl,lx,_,2,_,rfl,rfl,O.same.seq hX,bQ (i:=2) (g 2 (by decide)),_,_,rfl,rfl,(by show (0:Int)<5;decide),_,_,rfl,rfl,_,rfl,ifD (fun _=>?_) (fun _=>⟨trivial,nm,rfl,anm,O.same⟩)⟩
      refine ⟨_,rfl,_,_,rfl,rfl,_,rfl,ifD (fun h0=>?_) (fun h0=>?_)⟩
      · refine ⟨_,rfl,ll,_,rfl,.inl (O.same.seq hL),_,_,rfl,rfl,_,rfl,ifD (fun h1=>?_) (fun h1=>⟨trivial,nm,rfl,anm,O.same⟩)⟩
        have h0:0≤nb:=h0
        have h1:nb<(us.length:Int):=h1
        obtain ⟨k,rfl⟩:=Int.eq_ofNat_of_zero_le h0
        obtain ⟨x,hx⟩:∃ x,ns[k]?=some x:=⟨_,List.getElem?_eq_getElem (by omega)⟩
        exact ⟨_,rfl,_,rfl,ln,_,_,_,rfl,rfl,O.same.seq hN,fZ (show (ns.map V.str)[k]?=some (.str x) by rw [List.getElem?_map,hx];rfl),trivial,x,rfl,hna x (List.mem_of_getElem? hx),O.same⟩
      · exact ⟨_,rfl,jG ⟨trivial,nm,rfl,anm,O.same⟩⟩
    clear O
    rintro σ H2 ⟨-,nm,rfl,anm,s2⟩
    have O:=(Ow.refl tk).jg s2
    refine ⟨_,rfl,_,rfl,lx,ll,xs,us,ls,rfl,O.same.seq hX,h8,hx0,O.same.seq hL,d0.mo O.same,O.same.t1,fun am H3 s3=>?_⟩
    have O:=O.jg s3
    refine ⟨_,rfl,lx,_,6,_,rfl,rfl,O.same.seq hX,bQ (i:=6) (g 6 (by decide)),_,rfl,_,_,rfl,rfl,_,_,rfl,rfl,(by show (0:Int)<(many:Int) + 2;omega),_,_,rfl,rfl,?_⟩
    dsimp only
    generalize xs.getD 6 0 % ((many:Int) + 2) - 1=st
    refine ⟨_,rfl,lx,_,0,_,rfl,rfl,O.same.seq hX,bQ (i:=0) (g 0 (by decide)),_,_,rfl,rfl,(by show (0:Int)<9;decide),?_⟩
    dsimp only
    generalize xs.getD 0 0 % 9=kd
    refine ⟨_,rfl,rfl,_,rfl,ifI (fun _=>?_) (fun _=>?_)⟩
    · refine ⟨szl,fun t ht=>?_⟩
      walk_at "nw"
      exact q t t .turn _ O trivial
    refine ⟨_,rfl,_,_,rfl,rfl,_,rfl,ifD (fun _=>?_) (fun _=>?_)⟩
    · refine ⟨_,rfl,lx,_,3,_,rfl,rfl,O.same.seq hX,bQ (i:=3) (g 3 (by decide)),_,rfl,O.same.t1,fun x H4 ax s4=>?_⟩
      have O:=O.jg s4
      refine ⟨_,rfl,_,rfl,1,rfl,_,rfl,lx,_,7,_,rfl,rfl,O.same.seq hX,bQ (i:=7) (g 7 (by decide)),_,rfl,_,_,rfl,rfl,_,_,rfl,rfl,(by show (0:Int)<(many:Int) + 2;omega),_,_,rfl,rfl,szl,fun l1 h1=>?_⟩
      walk_at "nw"
      obtain ⟨b,hb⟩:=J5 (a:=-1) (b:=xs.getD 7 0 % ((many:Int) + 2) - 1) (Int.emod_nonneg (xs.getD 7 0 / 29) (show (2:Int)≠0 by decide)) (Int.emod_lt_of_pos (xs.getD 7 0 / 29) (show (0:Int)<2 by decide))
      refine ⟨_,rfl,lx,_,7,_,rfl,rfl,O.same.seq hX,bQ (i:=7) (g 7 (by decide)),_,_,rfl,rfl,⟨by decide,by decide⟩,_,_,rfl,rfl,(by show (0:Int)<2;decide),l1,_,_,_,rfl,rfl,O.sq 0,hb,szl,fun t ht=>?_⟩
      walk_at "nw"
      exact q t t (.file x st am b) _ (O.sub (List.Sublist.cons₂ _ (List.nil_sublist _))) ax
    refine ⟨_,rfl,rfl,_,rfl,ifI (fun _=>?_) (fun _=>?_)⟩
    · refine ⟨_,rfl,_,rfl,_,rfl,lx,_,3,_,rfl,rfl,O.same.seq hX,bQ (i:=3) (g 3 (by decide)),_,rfl,O.same.t1,fun x H4 ax s4=>?_⟩
      have O:=O.jg s4
      refine ⟨szl,fun t ht=>?_⟩
      walk_at "nw"
      exact q t t (.sell nb nm x) _ O ⟨anm,ax⟩
    refine ⟨_,rfl,rfl,_,rfl,ifI (fun _=>?_) (fun _=>?_)⟩
    · refine ⟨_,rfl,_,rfl,_,rfl,_,rfl,lx,_,3,_,rfl,rfl,O.same.seq hX,bQ (i:=3) (g 3 (by decide)),_,rfl,O.same.t1,fun x H4 ax s4=>?_⟩
      have O:=O.jg s4
      refine ⟨szl,fun t ht=>?_⟩
      walk_at "nw"
      exact q t t (.part nb nm am x) _ O ⟨anm,ax⟩
    refine ⟨_,rfl,rfl,_,rfl,ifI (fun _=>?_) (fun _=>?_)⟩
    · refine ⟨_,rfl,_,rfl,szl,fun t ht=>?_⟩
      walk_at "nw"
      exact q t t (.drop nb nm) _ O anm
    refine ⟨_,rfl,rfl,_,rfl,ifI (fun _=>?_) (fun _=>?_)⟩
    · refine ⟨_,rfl,_,rfl,_,rfl,szl,fun t ht=>?_⟩
      walk_at "nw"
      exact q t t (.move nb nm st) _ O anm
    refine ⟨_,rfl,ll,us,rfl,O.same.seq hL,fun lw hlw=>?_⟩
    refine rK (K:=K) (xs:=us) (fun i τ H'=>Iv (∃ (v0 v1:Option V) (ms:List Int),τ=[v0,v1,some (.ref lx)]∧ms.length=i∧Ow T H H' [(lw,.lst (ms.map V.int))]))
      ⟨trivial,none,none,[],rfl,rfl,O.mk' hlw rfl⟩ (fun i τ H' _ ⟨_,_,_,_,_,_,O⟩=>O.same.seq hL) ?_ ?_
    · clear O
      rintro i y T0 τ H5 hy ⟨-,v0,v1,ms,rfl,hml,O⟩ hT0
      obtain ⟨al,l2,rfl,hl2,hT2⟩:=d0.tY hy
      have hi:=(List.getElem?_eq_some_iff.mp hl2).1
      walk_at "nw"
      refine ⟨T0,_,rfl,O.sqT 0,rfl,_,_,rfl,_,_,rfl,rfl,?_⟩
      have O:=O.tail
      refine Vf ?_
      refine ⟨_,rfl,al,_,3,_,rfl,rfl,hT2.mo O.same,rfl,_,rfl,lx,_,7,_,rfl,rfl,O.same.seq hX,bQ (i:=7) (g 7 (by decide)),_,rfl,_,_,rfl,rfl,_,_,rfl,rfl,(show VF _ _ from ⟨by omega,by omega⟩),_,_,rfl,rfl,(by show (0:Int)<5;decide),_,_,rfl,rfl,⟨by decide,by decide⟩,_,_,rfl,rfl,_,_,rfl,?_⟩
      dsimp only
      generalize (if _ > (0:Int) then _ else (0:Int))=z
      refine ⟨_,O.get 0,aV (by rw [List.length_map];omega),?_⟩
      walk_at "pt"
      refine ⟨trivial,_,_,ms++[z],rfl,by rw [List.length_append,hml];rfl,?_⟩
      rw [List.map_append];exact O
    clear O
    rintro τ H5 ⟨-,v0,v1,ms,rfl,hml,O⟩
    have c0:=Int.emod_nonneg (xs.getD 6 0) (show (9:Int)≠0 by decide)
    obtain ⟨cc,hcc⟩:=Int.eq_ofNat_of_zero_le (show 0≤xs.getD 6 0 % 9 / 8 by omega)
    refine ⟨_,rfl,_,rfl,lx,_,6,_,rfl,rfl,O.same.seq hX,bQ (i:=6) (g 6 (by decide)),_,_,rfl,rfl,(by show (0:Int)<9;decide),_,_,rfl,rfl,⟨by decide,by decide⟩,_,rfl,lw,_,rfl,O.sq 0,fun l3 h3=>?_⟩
    walk_at "nw"
    rw [hcc,vm] at O
    refine ⟨l3,_,rfl,.inl ⟨O.sq 0,fun tt htt=>?_⟩⟩
    walk_at "nw"
    refine ⟨szl,fun t ht=>?_⟩
    walk_at "nw"
    exact q t tt (.lapse (ms.drop cc)) _ (O.sub (List.Sublist.cons₂ _ (List.Sublist.cons₂ _ (List.nil_sublist _)))) (by show (ms.drop cc).length≤1000;rw [List.length_drop];omega)
abbrev iC:Stmt:=top 45
theorem vL:aM ["one","deed","bit"] ["one","deed","bit"] (ak iC):=⟨rfl,rfl,rfl,by decide +kernel,rfl,by decide +kernel,by decide +kernel⟩
def K7 (K:PySem.W.Frag) (T:dW) (C:Addr) (c:Ec):Sp:=fun vs H Q E=>∃ (A:Rs) (ex:List (Str × V)) (H0:Hp) (B:List (Addr × HO)) (r:List Int) (S:RS) (t:Addr) (d:je) (bit:Int),vs=[.ref A.p,.ref t,.int bit]∧RA K T C A ex r H0 H B S∧RP r ex S∧Den K H0 (.ref t) (iQ d)∧jo d∧After K T C c A ex r H0 H B S d .non Q E
section
variable {P:Program} {w:World} {K:PySem.W.Frag} {mg:Str→Option Value} {base:Heap} {T:dW} {C:Addr} {c:Ec}
theorem S6 {f f1 f2 f3 f4 f5 f6 f7:Addr} {fd fd1 fd2 fd3 fd4 fd5 fd6 fd7:FuncData} (D:Df K mg "_law_do" iC ["one","deed","bit"] f fd) (B:Blt mg) (R_Roll:RC K C)
    (eX:Dm K C "turn" "Roll.turn" eF ["self"] f1 fd1) (lB:bF P w K mg base CX0 1 f1 fd1 ["self"] (sI K T C c))
    (bJ:DmD K C "file" "Roll.file" dN ["self","holder","start","most","back"] f2 fd2) (gZ:bF P w K mg base (CXE P w) 3 f2 fd2 ["self","holder","start","most","back"] (pD K T C c))
    (eY:Dm K C "sell" "Roll.sell" eG ["self","number","holder","to"] f3 fd3) (lC:bF P w K mg base (CXE P w) 3 f3 fd3 ["self","number","holder","to"] (sJ K T C c))
    (eZ:Dm K C "part" "Roll.part" eH ["self","number","holder","most","to"] f4 fd4) (lD:bF P w K mg base (CXE P w) 3 f4 fd4 ["self","number","holder","most","to"] (sV K T C c))
    (fu:Dm K C "drop" "Roll.drop" eO ["self","number","holder"] f5 fd5) (lF:bF P w K mg base (CXE P w) 3 f5 fd5 ["self","number","holder"] (sY K T C c))
    (fj:Dm K C "move" "Roll.move" eN ["self","number","holder","start"] f6 fd6) (lE:bF P w K mg base (CXE P w) 3 f6 fd6 ["self","number","holder","start"] (sW K T C c))
    (cR:Dm K C "lapse" "Roll.lapse" bZ ["self","numbers"] f7 fd7) (j5:bF P w K mg base (CXE P w) 2 f7 fd7 ["self","numbers"] (uL K T C c)) :
    bF P w K mg base (CXE P w) 4 f fd ["one","deed","bit"] (K7 K T C c):=by
  refine D.F.okX vL (fun vs H Q E h=>?_) (fun cdv A outer s H vs Q E hr h=>?_)
  · obtain ⟨_,_,_,_,_,_,_,_,_,rfl,_⟩:=h;rfl
  · obtain ⟨A,ex,H0,L,r,S,t,d,bit,rfl,ra,hp,dd,hok,q⟩:=h
    have hA:H A.p=some (z7 C A ex S.day):=by obtain ⟨us,vs,O,_⟩:=ra;exact O.get 0
    have sH:aJ T H0 H:=by obtain ⟨us,vs,O,_⟩:=ra;exact O.same
    obtain ⟨t',e,d0A⟩:=mz dd
    cases e
    have dA:=d0A.mo sH
    refine ⟨_,(aA (bN (aH gJ (aG aD (pv 1) aq (fun _ _=>rfl)) aQ (aX _))
        (aA (aN (gH (pv 0) R_Roll.c eX.m lB (hr.mono (by decide)) eX.b .nil bO)))
        (aA (bN (PW.pt (pw_and (aH gJ (aG aD (pv 1) aq (fun _ _=>rfl)) aQ (aX _)) (pw_and (aH gJ (aG aD (pv 1) aq (fun _ _=>rfl)) (rB mG aq) (aX _)) (pw_and1 (aH gJ (pv 2) aq (aX _))))))
          (aA (aN (cU (pv 0) R_Roll.c bJ.m gZ (hr.mono (by decide)) bJ.b1 (.cons (show RelV .non Value.none from rfl) .nil) iM (aj (aG aD (pv 1) aq (fun _ _=>rfl)) (aj (aG aD (pv 1) aq (fun _ _=>rfl)) (aj (aG aD (pv 1) aq (fun _ _=>rfl)) ao))))))
          (aA (bN (aH gJ (aG aD (pv 1) aq (fun _ _=>rfl)) aQ (aX _))
            (aA (aN (cU (pv 0) R_Roll.c bJ.m gZ (hr.mono (by decide)) bJ.b0 .nil iM (aj (aG aD (pv 1) aq (fun _ _=>rfl)) (aj (aG aD (pv 1) aq (fun _ _=>rfl)) (aj (aG aD (pv 1) aq (fun _ _=>rfl)) (aj (aG aD (pv 1) aq (fun _ _=>rfl)) ao)))))))
            (aA (bN (aH gJ (aG aD (pv 1) aq (fun _ _=>rfl)) aQ (aX _))
              (aA (aN (cU (pv 0) R_Roll.c eY.m lC (hr.mono (by decide)) eY.b .nil iM (aj (aG aD (pv 1) aq (fun _ _=>rfl)) (aj (aG aD (pv 1) aq (fun _ _=>rfl)) (aj (aG aD (pv 1) aq (fun _ _=>rfl)) ao))))))
              (aA (bN (aH gJ (aG aD (pv 1) aq (fun _ _=>rfl)) aQ (aX _))
                (aA (aN (cU (pv 0) R_Roll.c eZ.m lD (hr.mono (by decide)) eZ.b .nil iM (aj (aG aD (pv 1) aq (fun _ _=>rfl)) (aj (aG aD (pv 1) aq (fun _ _=>rfl)) (aj (aG aD (pv 1) aq (fun _ _=>rfl)) (aj (aG aD (pv 1) aq (fun _ _=>rfl)) ao)))))))
                (aA (bN (aH gJ (aG aD (pv 1) aq (fun _ _=>rfl)) aQ (aX _))
                  (aA (aN (cU (pv 0) R_Roll.c fu.m lF (hr.mono (by decide)) fu.b .nil iM (aj (aG aD (pv 1) aq (fun _ _=>rfl)) (aj (aG aD (pv 1) aq (fun _ _=>rfl)) ao)))))
                  (aA (bN (aH gJ (aG aD (pv 1) aq (fun _ _=>rfl)) aQ (aX _))
                    (aA (aN (cU (pv 0) R_Roll.c fj.m lE (hr.mono (by decide)) fj.b .nil iM (aj (aG aD (pv 1) aq (fun _ _=>rfl)) (aj (aG aD (pv 1) aq (fun _ _=>rfl)) (aj (aG aD (pv 1) aq (fun _ _=>rfl)) ao))))))
                    (aA (aN (cU (pv 0) R_Roll.c cR.m j5 (hr.mono (by decide)) cR.b .nil iM (aj (fB dH rfl B.list PyProof.Rows.boot_list (aj (aG aD (pv 1) aq (fun _ _=>rfl)) ao)) ao)))))))))))))))))),?_⟩
    cases d with
    | turn =>
      refine ⟨_,rfl,t,_,0,_,rfl,rfl,dA,rfl,rfl,_,rfl,jK ?_⟩
      exact ⟨_,rfl,A.p,A.dx,_,rfl,hA,(by exact hp.ex.tn),A,ex,H0,L,r,S,rfl,ra,hp,q.1,fun k e=>by simp only [step] at e;cases e⟩
    | file x st m b =>
      refine ⟨_,rfl,t,_,0,_,rfl,rfl,dA,rfl,rfl,_,rfl,gD rfl ?_⟩
      refine ⟨_,rfl,t,_,0,_,rfl,rfl,dA,rfl,rfl,_,rfl,jK ?_⟩
      refine ⟨_,rfl,t,_,4,_,rfl,rfl,dA,rfl,1,rfl,rfl,_,rfl,ifI (fun hb=>?_) (fun hb=>?_)⟩
      · refine ⟨_,rfl,rfl,_,rfl,ifI (fun _=>?_) (fun _=>?_)⟩
        · exact ⟨_,rfl,A.p,A.dx,_,rfl,hA,(by exact hp.ex.fi),_,rfl,t,_,1,_,rfl,rfl,dA,rfl,_,rfl,t,_,2,_,rfl,rfl,dA,rfl,_,rfl,t,_,3,_,rfl,rfl,dA,rfl,A,ex,H0,L,r,S,x,st,m,b,.non,rfl,.inl ⟨rfl,hb⟩,ra,hp,hok,q.any fun _ h=>h⟩
        · refine ⟨_,rfl,t,_,0,_,rfl,rfl,dA,rfl,rfl,_,rfl,jK ?_⟩
          exact ⟨_,rfl,A.p,A.dx,_,rfl,hA,(by exact hp.ex.fi),_,rfl,t,_,1,_,rfl,rfl,dA,rfl,_,rfl,t,_,2,_,rfl,rfl,dA,rfl,_,rfl,t,_,3,_,rfl,rfl,dA,rfl,_,rfl,t,_,4,_,rfl,rfl,dA,rfl,A,ex,H0,L,r,S,x,st,m,b,_,rfl,.inr rfl,ra,hp,hok,q.any fun _ h=>h⟩
      · refine ⟨_,rfl,t,_,0,_,rfl,rfl,dA,rfl,rfl,_,rfl,jK ?_⟩
        exact ⟨_,rfl,A.p,A.dx,_,rfl,hA,(by exact hp.ex.fi),_,rfl,t,_,1,_,rfl,rfl,dA,rfl,_,rfl,t,_,2,_,rfl,rfl,dA,rfl,_,rfl,t,_,3,_,rfl,rfl,dA,rfl,_,rfl,t,_,4,_,rfl,rfl,dA,rfl,A,ex,H0,L,r,S,x,st,m,b,_,rfl,.inr rfl,ra,hp,hok,q.any fun _ h=>h⟩
    | sell n y z =>
      refine ⟨_,rfl,t,_,0,_,rfl,rfl,dA,rfl,rfl,_,rfl,gD rfl ?_⟩
      refine ⟨_,rfl,t,_,0,_,rfl,rfl,dA,rfl,rfl,_,rfl,gD rfl ?_⟩
      refine ⟨_,rfl,t,_,0,_,rfl,rfl,dA,rfl,rfl,_,rfl,gD rfl ?_⟩
      refine ⟨_,rfl,t,_,0,_,rfl,rfl,dA,rfl,rfl,_,rfl,jK ?_⟩
      exact ⟨_,rfl,A.p,A.dx,_,rfl,hA,(by exact hp.ex.se),_,rfl,t,_,1,_,rfl,rfl,dA,rfl,_,rfl,t,_,2,_,rfl,rfl,dA,rfl,_,rfl,t,_,3,_,rfl,rfl,dA,rfl,A,ex,H0,L,r,S,n,y,z,rfl,ra,hp,hok.2,q⟩
    | part n y m z =>
      refine ⟨_,rfl,t,_,0,_,rfl,rfl,dA,rfl,rfl,_,rfl,gD rfl ?_⟩
      refine ⟨_,rfl,t,_,0,_,rfl,rfl,dA,rfl,rfl,_,rfl,gD rfl ?_⟩
      refine ⟨_,rfl,t,_,0,_,rfl,rfl,dA,rfl,rfl,_,rfl,gD rfl ?_⟩
      refine ⟨_,rfl,t,_,0,_,rfl,rfl,dA,rfl,rfl,_,rfl,gD rfl ?_⟩
      refine ⟨_,rfl,t,_,0,_,rfl,rfl,dA,rfl,rfl,_,rfl,jK ?_⟩
      exact ⟨_,rfl,A.p,A.dx,_,rfl,hA,(by exact hp.ex.pa),_,rfl,t,_,1,_,rfl,rfl,dA,rfl,_,rfl,t,_,2,_,rfl,rfl,dA,rfl,_,rfl,t,_,3,_,rfl,rfl,dA,rfl,_,rfl,t,_,4,_,rfl,rfl,dA,rfl,A,ex,H0,L,r,S,n,y,m,z,rfl,ra,hp,hok.2,q.any fun _ h=>h⟩
    | drop n y =>
      refine ⟨_,rfl,t,_,0,_,rfl,rfl,dA,rfl,rfl,_,rfl,gD rfl ?_⟩
      refine ⟨_,rfl,t,_,0,_,rfl,rfl,dA,rfl,rfl,_,rfl,gD rfl ?_⟩
      refine ⟨_,rfl,t,_,0,_,rfl,rfl,dA,rfl,rfl,_,rfl,gD rfl ?_⟩
      refine ⟨_,rfl,t,_,0,_,rfl,rfl,dA,rfl,rfl,_,rfl,gD rfl ?_⟩
      refine ⟨_,rfl,t,_,0,_,rfl,rfl,dA,rfl,rfl,_,rfl,gD rfl ?_⟩
      refine ⟨_,rfl,t,_,0,_,rfl,rfl,dA,rfl,rfl,_,rfl,jK ?_⟩
      exact ⟨_,rfl,A.p,A.dx,_,rfl,hA,(by exact hp.ex.dr),_,rfl,t,_,1,_,rfl,rfl,dA,rfl,_,rfl,t,_,2,_,rfl,rfl,dA,rfl,A,ex,H0,L,r,S,n,y,rfl,ra,hp,q⟩
    | move n y st =>
      refine ⟨_,rfl,t,_,0,_,rfl,rfl,dA,rfl,rfl,_,rfl,gD rfl ?_⟩
      refine ⟨_,rfl,t,_,0,_,rfl,rfl,dA,rfl,rfl,_,rfl,gD rfl ?_⟩
      refine ⟨_,rfl,t,_,0,_,rfl,rfl,dA,rfl,rfl,_,rfl,gD rfl ?_⟩
      refine ⟨_,rfl,t,_,0,_,rfl,rfl,dA,rfl,rfl,_,rfl,gD rfl ?_⟩
      refine ⟨_,rfl,t,_,0,_,rfl,rfl,dA,rfl,rfl,_,rfl,gD rfl ?_⟩
      refine ⟨_,rfl,t,_,0,_,rfl,rfl,dA,rfl,rfl,_,rfl,gD rfl ?_⟩
      refine ⟨_,rfl,t,_,0,_,rfl,rfl,dA,rfl,rfl,_,rfl,jK ?_⟩
      exact ⟨_,rfl,A.p,A.dx,_,rfl,hA,(by exact hp.ex.mv),_,rfl,t,_,1,_,rfl,rfl,dA,rfl,_,rfl,t,_,2,_,rfl,rfl,dA,rfl,_,rfl,t,_,3,_,rfl,rfl,dA,rfl,A,ex,H0,L,r,S,n,y,st,rfl,ra,hp,q⟩
    | lapse xs =>
      obtain ⟨a,hT,hAx⟩:=dA
      refine ⟨_,rfl,t,_,0,_,rfl,rfl,hT,rfl,rfl,_,rfl,gD rfl ?_⟩
      refine ⟨_,rfl,t,_,0,_,rfl,rfl,hT,rfl,rfl,_,rfl,gD rfl ?_⟩
      refine ⟨_,rfl,t,_,0,_,rfl,rfl,hT,rfl,rfl,_,rfl,gD rfl ?_⟩
      refine ⟨_,rfl,t,_,0,_,rfl,rfl,hT,rfl,rfl,_,rfl,gD rfl ?_⟩
      refine ⟨_,rfl,t,_,0,_,rfl,rfl,hT,rfl,rfl,_,rfl,gD rfl ?_⟩
      refine ⟨_,rfl,t,_,0,_,rfl,rfl,hT,rfl,rfl,_,rfl,gD rfl ?_⟩
      refine ⟨_,rfl,t,_,0,_,rfl,rfl,hT,rfl,rfl,_,rfl,gD rfl ?_⟩
      obtain ⟨us,vs,O,d0,d1⟩:=ra
      have t1:=O.same.t1
      refine ⟨_,rfl,A.p,A.dx,_,rfl,hA,(by exact hp.ex.lp),_,rfl,t,_,1,_,rfl,rfl,hT,rfl,a,_,rfl,.inr hAx,fun la hla=>?_⟩
      generalize hE:upd _ _ _=Hn
      have s2:aJ T H Hn:=hE ▸ (aJ.refl t1).upd hla (.inl hla)
      replace O:=Ow.mkE O hla hE rfl
      clear hE
      exact ⟨A,ex,H0,(la,.lst (xs.map V.int)) :: L,r,S,la,xs,rfl,⟨us,vs,O.mid,d0,d1⟩,hp,hok,fun Hb H' X s O=>SqL.of (O.at_ _ (List.mem_append_right _ List.mem_cons_self)),fun S' e Hb H' fl fs s ra' _=>q.1 S' e Hb H' s ra'.drop.drop,fun k hk e H' s' he=>q.2 k hk e H' (s2.trans s') he⟩
end
structure JM (K:PySem.W.Frag) (c:Ec) (cS:Addr):Prop where
  m:∀ k,k≠EK.nG→PySem.W.exmOne K (.ref (c.at_ k)) (.ref cS)=some true
theorem JX {r:List Int} {S:RS} {d:je} {k:EK} (h:step r S d=.error k):k≠.nG:=by
  cases d <;> simp only [step,RS.oJ] at h <;> (repeat' split at h) <;> first | (cases h;done) | (cases h;intro z;cases z)
abbrev fV:Stmt:=top 46
theorem jO:aM ["one","deed","bit","done"] ["one","deed","bit"] (ak fV):=⟨rfl,rfl,rfl,by decide +kernel,rfl,by decide +kernel,by decide +kernel⟩
def wN (K:PySem.W.Frag) (T:dW) (C:Addr):Sp:=fun vs H Q _=>∃ (A:Rs) (ex:List (Str × V)) (H0:Hp) (B:List (Addr × HO)) (r:List Int) (S:RS) (t:Addr) (d:je) (bit:Int),vs=[.ref A.p,.ref t,.int bit]∧RA K T C A ex r H0 H B S∧RP r ex S∧Den K H0 (.ref t) (iQ d)∧jo d ∧
  (∀ S',step r S d=.ok S'→∀ Hb H',aJ T H0 Hb→RA K T C A ex r Hb H' B S'→Q (.bl true) H')∧(∀ k,step r S d=.error k→∀ (H':Hp),aJ T H H'→Q (.bl false) H')
section
variable {P:Program} {w:World} {K:PySem.W.Frag} {mg:Str→Option Value} {base:Heap} {T:dW} {C:Addr} {c:Ec}
theorem Ke {f f1 cS:Addr} {fd fd1:FuncData} (D:Df K mg "_law_done" fV ["one","deed","bit"] f fd) (X_SluiceError:m9 K mg "SluiceError" cS) (TT:JM K c cS)
    (jt:Df K mg "_law_do" iC ["one","deed","bit"] f1 fd1) (za:bF P w K mg base (CXE P w) 4 f1 fd1 ["one","deed","bit"] (K7 K T C c)):bF P w K mg base CX0 5 f fd ["one","deed","bit"] (wN K T C):=by
  refine D.F.ok jO (fun vs H Q E h=>?_) (fun cdv A outer s H vs Q E hr h=>?_)
  · obtain ⟨_,_,_,_,_,_,_,_,_,rfl,_⟩:=h;rfl
  · obtain ⟨A,ex,H0,L,r,S,t,d,bit,rfl,ra,hp,dd,hok,q,qx⟩:=h
    refine ⟨_,(au (bG (i:=3) jO.nd rfl (Or.inl rfl) jk)
      (au (w5 ⟨rfl,rfl,rfl⟩ rfl (v9 (wg (wj za (hr.mono (by decide)) rfl jt.m jt.F.kp jt.b .nil (aj (pv 0) (aj (pv 1) (aj (pv 2) ao)))))) rfl X_SluiceError.m (fun e =>
        (aA (bG (i:=3) jO.nd rfl (Or.inl rfl) jk))))
      (aA (aY (pv 3))))),?_⟩
    refine ⟨_,rfl,_,rfl,_,rfl,A,ex,H0,L,r,S,t,d,bit,rfl,ra,hp,dd,hok,fun S' e Hb H' s ra'=>?_,fun k hk e H' s' he=>⟨_,e,rfl,rfl,TT.m k (JX hk),?_⟩⟩
    · exact ⟨_,rfl,q S' e Hb H' s ra'⟩
    · exact ⟨_,rfl,qx k hk _ (s'.upd (s'.free he) (.inl he))⟩
end
theorem Sh.str (n:Nat) {x:Str} (h:Asc x):Sh n (.str x):=by
  refine ⟨?_,by simp [PyData.depth]⟩
  rw [PyData.canLay0]
  show x.cps.all (·<0x110000)=true
  rw [Array.all_eq_true]
  intro i hi
  have:=of_decide_eq_true (Array.all_eq_true.mp h.1 i hi)
  exact decide_eq_true (by omega)
theorem Sh.strs (n:Nat) {xs:List Str} (h:∀ x∈xs,Asc x):Sh (n + 1) (.list (xs.map PyData.str)):=.list fun d hd=>by
  obtain ⟨i,hi,rfl⟩:=List.mem_map.mp hd
  exact Sh.str n (h i hi)
theorem jC:∀ x∈(["turn","file","sell","part","drop","move","lapse"]:List Str),Asc x:=fun x hx=>by
  simp only [List.mem_cons,List.not_mem_nil,or_false] at hx
  rcases hx with rfl | rfl | rfl | rfl | rfl | rfl | rfl <;> exact ⟨by decide +kernel,by decide +kernel⟩
theorem Sh.deed {d:je} (h:jo d):Sh 2 (iQ d):=by
  cases d with
  | turn =>
    exact .tuple fun e he=>by
      simp only [List.mem_cons,List.not_mem_nil,or_false] at he
      subst he;exact Sh.str _ (jC _ (by simp))
  | file x s m b =>
    exact .tuple fun e he=>by
      simp only [List.mem_cons,List.not_mem_nil,or_false] at he
      rcases he with rfl | rfl | rfl | rfl | rfl
      · exact Sh.str _ (jC _ (by simp))
      · exact Sh.str _ h
      · exact Sh.int _ _
      · exact Sh.int _ _
      · exact Sh.int _ _
  | sell n y z =>
    exact .tuple fun e he=>by
      simp only [List.mem_cons,List.not_mem_nil,or_false] at he
      rcases he with rfl | rfl | rfl | rfl
      · exact Sh.str _ (jC _ (by simp))
      · exact Sh.int _ _
      · exact Sh.str _ h.1
      · exact Sh.str _ h.2
  | part n y m z =>
    exact .tuple fun e he=>by
      simp only [List.mem_cons,List.not_mem_nil,or_false] at he
      rcases he with rfl | rfl | rfl | rfl | rfl
      · exact Sh.str _ (jC _ (by simp))
      · exact Sh.int _ _
      · exact Sh.str _ h.1
      · exact Sh.int _ _
      · exact Sh.str _ h.2
  | drop n y =>
    exact .tuple fun e he=>by
      simp only [List.mem_cons,List.not_mem_nil,or_false] at he
      rcases he with rfl | rfl | rfl
      · exact Sh.str _ (jC _ (by simp))
      · exact Sh.int _ _
      · exact Sh.str _ h
  | move n y s =>
    exact .tuple fun e he=>by
      simp only [List.mem_cons,List.not_mem_nil,or_false] at he
      rcases he with rfl | rfl | rfl | rfl
      · exact Sh.str _ (jC _ (by simp))
      · exact Sh.int _ _
      · exact Sh.str _ h
      · exact Sh.int _ _
  | lapse xs =>
    exact .tuple fun e he=>by
      simp only [List.mem_cons,List.not_mem_nil,or_false] at he
      rcases he with rfl | rfl
      · exact Sh.str _ (jC _ (by simp))
      · exact .tuple fun e he=>by
          obtain ⟨i,_,rfl⟩:=List.mem_map.mp he
          exact Sh.int _ _
theorem Sh.vU {ds:List je} (h:∀ d∈ds,jo d):Sh 3 (.list (ds.map iQ)):=.list fun e he=>by
  obtain ⟨d,hd,rfl⟩:=List.mem_map.mp he
  exact Sh.deed (h d hd)
theorem zu {r:List Int} {S S':RS} {d:je} (h:step r S d=.ok S') (hd:jo d) (hn:∀ x∈S.ns,Asc x):∀ x∈S'.ns,Asc x:=by
  have ap:∀ {z:Str},Asc z→∀ x∈S.ns++[z],Asc x:=fun hz x hx=>by
    rcases List.mem_append.mp hx with e | e
    · exact hn x e
    · rw [List.mem_singleton.mp e];exact hz
  cases d <;> simp only [step,RS.oJ] at h <;> (repeat' split at h) <;> first | (cases h;done) | (cases h;exact hn) | (cases h;exact ap hd) | (cases h;exact ap hd.2) | (cases h;intro x hx;rcases List.mem_or_eq_of_mem_set hx with e | e;exact hn x e;rw [e];exact hd.2)
abbrev d8:Stmt:=top 47
theorem pJ:aM ["one"] ["one"] (ak d8):=⟨rfl,rfl,rfl,by decide +kernel,rfl,by decide +kernel,by decide +kernel⟩
def uH (T:dW) (C:Addr):Sp:=fun vs H Q _=>∃ (A:Rs) (ex:List (Str × V)) (H0:Hp) (B:List (Addr × HO)) (r:List Int) (day:Int) (us:List V) (ns:List Str) (ds:List V),vs=[.ref A.p]∧Ow T H0 H (RX C A ex r day us ns ds++B)∧v8 ex ∧
  ∀ (t l1 l2 l3:Addr) H',Ow T H0 H' ((t,.tup [.int day,.ref l1,.ref l2,.ref l3]) :: (l3,.lst ds) :: (l2,.lst (ns.map V.str)) :: (l1,.lst us) :: (RX C A ex r day us ns ds++B))→Q (.ref t) H'
section
variable {P:Program} {w:World} {K:PySem.W.Frag} {mg:Str→Option Value} {base:Heap} {T:dW} {C:Addr}
theorem zJ {f f1 f2 f3 f4:Addr} {fd fd1 fd2 fd3 fd4:FuncData} (D:Df K mg "_law_stand" d8 ["one"] f fd) (R_Roll:RC K C)
    (iI:Dm K C "today" "Roll.today" d9 ["self"] f1 fd1) (sE:bF P w K mg base CX0 1 f1 fd1 ["self"] (uG C))
    (jd:Dm K C "roll" "Roll.roll" fW ["self"] f2 fd2) (uw:bF P w K mg base CX0 1 f2 fd2 ["self"] (jL K C "licences"))
    (cA:Dm K C "holders" "Roll.holders" cu ["self"] f3 fd3) (jh:bF P w K mg base CX0 1 f3 fd3 ["self"] (jL K C "names"))
    (bM:Dm K C "deeds" "Roll.deeds" dD ["self"] f4 fd4) (iH:bF P w K mg base CX0 1 f4 fd4 ["self"] (jL K C "done")):bF P w K mg base CX0 2 f fd ["one"] (uH T C):=by
  refine D.F.ok pJ (fun vs H Q E h=>?_) (fun cdv A outer s H vs Q E hr h=>?_)
  · obtain ⟨_,_,_,_,_,_,_,_,_,rfl,_⟩:=h;rfl
  · obtain ⟨A,ex,H0,L,r,day,us,ns,ds,rfl,O,hex,q⟩:=h
    refine ⟨_,(aA (aY (cP (aj (gH (pv 0) R_Roll.c iI.m sE (hr.mono (by decide)) iI.b .nil bO) (aj (gH (pv 0) R_Roll.c jd.m uw (hr.mono (by decide)) jd.b .nil bO) (aj (gH (pv 0) R_Roll.c cA.m jh (hr.mono (by decide)) cA.b .nil bO) (aj (gH (pv 0) R_Roll.c bM.m iH (hr.mono (by decide)) bM.b .nil bO) ao))))))),?_⟩
    refine ⟨_,rfl,A.p,A.dx,_,rfl,O.get 0,(by exact hex.td),A,ex,day,rfl,O.get 0,?_⟩
    refine ⟨_,rfl,A.p,A.dx,_,rfl,O.get 0,(by exact hex.rl),A.p,A.dx,A.ll,_,us,rfl,O.get 0,rfl,O.sq 3,fun l1 h1=>?_⟩
    walk_at "nw"
    refine ⟨_,rfl,A.p,A.dx,_,rfl,O.get 1,(by exact hex.hs),A.p,A.dx,A.ln,_,_,rfl,O.get 1,rfl,O.sq 5,fun l2 h2=>?_⟩
    walk_at "nw"
    refine ⟨_,rfl,A.p,A.dx,_,rfl,O.get 2,(by exact hex.de),A.p,A.dx,A.lo,_,_,rfl,O.get 2,rfl,O.sq 7,fun l3 h3=>?_⟩
    walk_at "nw"
    refine ⟨szl,fun t ht=>?_⟩
    walk_at "nw"
    exact q t l1 l2 l3 _ O
end
theorem LR (K:PySem.W.Frag):PySem.W.kitOne K (.type "str") (.type "bool")=some false:=by rfl
theorem LK (K:PySem.W.Frag):PySem.W.kitOne K (.type "tuple") (.type "bool")=some false:=by rfl
theorem LQ (K:PySem.W.Frag):PySem.W.kitOne K (.type "str") (.type "str")=some true:=by rfl
theorem yr (K:PySem.W.Frag):PySem.W.kitOne K (.type "tuple") (.type "tuple")=some true:=by rfl
theorem DAt.parts {K:PySem.W.Frag} {H:Hp} {t:Addr} {d:je} (h:DAt K H t d):∃ ys,SqT K H t ys∧ys.length≤5∧∀ y∈ys,(∃ i,y=.int i)∨(∃ x,y=.str x)∨∃ a zs,y=.ref a∧SqT K H a zs:=by
  cases d with
  | lapse xs =>
    obtain ⟨a,h1,h2⟩:=h
    refine ⟨_,h1,by simp,fun y hy=>?_⟩
    simp only [List.mem_cons,List.not_mem_nil,or_false] at hy
    rcases hy with rfl | rfl
    · exact .inr (.inl ⟨_,rfl⟩)
    · exact .inr (.inr ⟨a,_,rfl,h2⟩)
  | _ =>
    refine ⟨_,h,by simp,fun y hy=>?_⟩
    simp only [List.mem_cons,List.not_mem_nil,or_false] at hy
    first
      | (subst hy;exact .inr (.inl ⟨_,rfl⟩))
      | (rcases hy with rfl | rfl | rfl | rfl | rfl <;> first | exact .inl ⟨_,rfl⟩ | exact .inr (.inl ⟨_,rfl⟩))
      | (rcases hy with rfl | rfl | rfl | rfl <;> first | exact .inl ⟨_,rfl⟩ | exact .inr (.inl ⟨_,rfl⟩))
      | (rcases hy with rfl | rfl | rfl <;> first | exact .inl ⟨_,rfl⟩ | exact .inr (.inl ⟨_,rfl⟩))
abbrev cB:Stmt:=top 48
theorem jw:aM ["stand","one","deed"] ["stand"] (ak cB):=⟨rfl,rfl,rfl,by decide +kernel,rfl,by decide +kernel,by decide +kernel⟩
def uJ (K:PySem.W.Frag) (T:dW):Sp:=fun vs H Q _=>∃ (t l1 l2 l3:Addr) (day:Int) (us:List V) (ls:List Lic) (ns:List Str) (ts:List V) (ds:List je),vs=[.ref t]∧SqT K H t [.int day,.ref l1,.ref l2,.ref l3]∧H l1=some (.lst us)∧cW K H us (ls.map oF)∧H l2=some (.lst (ns.map V.str))∧H l3=some (.lst ts)∧cW K H ts (ds.map iQ)∧ns.length≤900∧TabsOk T H∧∀ H',aJ T H H'→Q (.bl true) H'
theorem zL {f f1:Addr} {fd fd1:FuncData} (D:Df K mg "_law_plain" cB ["stand"] f fd) (B:Blt mg) (dI:Df K mg "_law_whole" dZ ["found"] f1 fd1) (mQ:bF P w K mg base CX0 1 f1 fd1 ["found"] uF):bF P w K mg base CX0 2 f fd ["stand"] (uJ K T):=by
  refine D.F.ok jw (fun vs H Q E h=>?_) (fun cdv A outer s H vs Q E hr h=>?_)
  · obtain ⟨_,_,_,_,_,_,_,_,_,_,rfl,_⟩:=h;rfl
  · obtain ⟨t,l1,l2,l3,day,us,ls,ns,ts,ds,rfl,hT,h1,d0,h2,h3,d1,hn9,tk,q⟩:=h
    have hu:=hr.units
    have O:=Ow.refl tk
    refine ⟨_,(au (bN (PW.pt (pw_or (fX (gC (aL mQ (hr.mono (by decide)) rfl dI.m dI.F.kp dI.b .nil bO (aj (aG aD (pv 0) aq (fun _ _=>rfl)) ao)))) (pw_or1 (fX (gC (aR gK rfl B.isinstance PyProof.Rows.boot_isinstance (aj (aG aD (pv 0) aq (fun _ _=>rfl)) (aj (jA (v:=.ty "list") rfl B.list PyProof.Rows.boot_list rfl) ao))))))))
        (aA (aY jk))
        aZ)
      (au (bN (PW.pt (pw_or (fX (gC (aR gK rfl B.isinstance PyProof.Rows.boot_isinstance (aj (aG aD (pv 0) aq (fun _ _=>rfl)) (aj (jA (v:=.ty "list") rfl B.list PyProof.Rows.boot_list rfl) ao))))) (pw_or1 (fX (gC (aR gK rfl B.isinstance PyProof.Rows.boot_isinstance (aj (aG aD (pv 0) aq (fun _ _=>rfl)) (aj (jA (v:=.ty "list") rfl B.list PyProof.Rows.boot_list rfl) ao))))))))
        (aA (aY jk))
        aZ)
      (au (kW PassesOwn.never rfl (jR (aG aD (pv 0) aq (fun _ _=>rfl))) (bH (i:=1) jw.nd rfl (Or.inl rfl))
        (aA (bN (PW.pt (pw_or (fX (gC (aR jX rfl B.isinstance PyProof.Rows.boot_isinstance (aj (pv 1) (aj (jA (v:=.ty "tuple") rfl B.tuple PyProof.Rows.boot_tuple rfl) ao))))) (pw_or1 (aH (xQ hu) (jy (ak cB) rfl ["stand","one","deed"] rfl ["part"] [none] (by decide +kernel) (by decide +kernel) (by decide +kernel) rfl (xH (pv 1)) (fun _ _ _=>(bH (i:=0) (show (["part"]:List Str).Nodup by decide +kernel) rfl (Or.inl rfl))) (fun _ _ _=>(pP (fX (gC (aL mQ (hr.mono (by decide)) rfl dI.m dI.F.kp dI.b .nil bO (aj (pv 0) ao)))))) (fun _ _ _=>(pv 0))) (gF ao) (aX _)))))
          (aA (aY jk))
          aZ)))
      (au (kW PassesOwn.never rfl (jR (aG aD (pv 0) aq (fun _ _=>rfl))) (bH (i:=2) jw.nd rfl (Or.inl rfl))
        (aA (bN (PW.pt (pw_or (fX (gC (aR jX rfl B.isinstance PyProof.Rows.boot_isinstance (aj (pv 2) (aj (jA (v:=.ty "tuple") rfl B.tuple PyProof.Rows.boot_tuple rfl) ao))))) (pw_or1 (aH (xQ hu) (jy (ak cB) rfl ["stand","one","deed"] rfl ["part"] [none] (by decide +kernel) (by decide +kernel) (by decide +kernel) rfl (xH (pv 2)) (fun _ _ _=>(bH (i:=0) (show (["part"]:List Str).Nodup by decide +kernel) rfl (Or.inl rfl))) (fun _ _ _=>(pP (gC (aR (rO (K:=K) rfl) rfl B.isinstance PyProof.Rows.boot_isinstance (aj (pv 0) (aj (jA (v:=.ty "bool") rfl B.bool PyProof.Rows.boot_bool rfl) ao)))))) (fun _ _ _=>(pv 0))) (gF ao) (aX _)))))
          (aA (aY jk))
          aZ)))
      (aA (aY (lZ (Bd hu) (jy (ak cB) rfl ["stand","one","deed"] rfl ["name"] [none] (by decide +kernel) (by decide +kernel) (by decide +kernel) rfl (jR (aG aD (pv 0) aq (fun _ _=>rfl))) (fun _ _ _=>(bH (i:=0) (show (["name"]:List Str).Nodup by decide +kernel) rfl (Or.inl rfl))) (fun _ _ _=>(pP (fX (gC (aR (rP (K:=K) rfl) rfl B.isinstance PyProof.Rows.boot_isinstance (aj (pv 0) (aj (jA (v:=.ty "str") rfl B.str PyProof.Rows.boot_str rfl) ao))))))) (fun _ _ _=>(pv 0))) (gF ao) (aX _)))))))),?_⟩
    refine ⟨_,rfl,t,_,0,_,rfl,rfl,hT,rfl,day,rfl,_,rfl,jG ?_⟩
    refine ⟨_,rfl,t,_,1,_,rfl,rfl,hT,rfl,_,_,_,true,rfl,.lst h1,uX K,_,rfl,jG ?_⟩
    refine ⟨_,rfl,t,_,2,_,rfl,rfl,hT,rfl,_,_,_,true,rfl,.lst h2,uX K,_,rfl,jG ?_⟩
    refine ⟨_,rfl,t,_,3,_,rfl,rfl,hT,rfl,_,_,_,true,rfl,.lst h3,uX K,_,rfl,jG ?_⟩
    refine ⟨_,rfl,t,_,1,_,rfl,rfl,hT,rfl,l1,rfl,⟨_,SqL.of h1⟩,?_⟩
    refine lR (K:=K) (xs:=us) (fun i σ H'=>Iv (∃ (v1:Option V),σ=[some (.ref t),v1,none]∧aJ T H H')) ⟨trivial,none,rfl,O.same⟩ (fun i σ H' _ ⟨_,_,_,s⟩=>s.seq (SqL.of h1)) ?_ ?_
    · rintro i y σ H4 hy ⟨-,v1,rfl,s4⟩
      obtain ⟨al,l,rfl,hl,hTl⟩:=d0.tY hy
      have hTl:=s4.qw hTl
      refine ⟨_,rfl,al,_,_,true,rfl,hTl,yr K,_,rfl,jG ?_⟩
      refine ⟨_,rfl,al,rfl,⟨_,hTl⟩,fun lw hlw=>?_⟩
      have O:=Ow.refl s4.t1
      refine qm (K:=K) (xs:=lV l) (fun i τ H'=>Iv (∃ (v0:Option V),τ=[v0]∧Ow T H4 H' [(lw,.lst [])])) ⟨trivial,none,rfl,O.mk' hlw rfl⟩ (fun i τ H' _ ⟨_,_,_,O⟩=>O.same.qw hTl) ?_ ?_
      · rintro i y τ H5 hy ⟨-,v0,rfl,O⟩
        obtain ⟨z,hz,rfl⟩:=ints_get (ns:=[l.day,l.start,l.back,l.most]) hy
        exact ⟨_,rfl,z,rfl,_,rfl,jG ⟨trivial,_,rfl,O⟩⟩
      clear O
      rintro τ H5 ⟨-,v0,rfl,O⟩
      refine ⟨szl,fun lz hlz=>?_⟩
      walk_at "nw"
      refine ⟨lw,lz,[],[],rfl,rfl,O.sq 1,O.sq 0,_,rfl,jG ?_⟩
      exact ⟨trivial,_,rfl,s4.trans O.same⟩
    clear O
    rintro σ H4 ⟨-,v1,rfl,s4⟩
    refine ⟨_,rfl,t,_,3,_,rfl,rfl,s4.qw hT,rfl,l3,rfl,⟨_,s4.seq (SqL.of h3)⟩,?_⟩
    refine lR (K:=K) (xs:=ts) (fun i σ H'=>Iv (∃ (v2:Option V),σ=[some (.ref t),v1,v2]∧aJ T H H')) ⟨trivial,none,rfl,s4⟩ (fun i σ H' _ ⟨_,_,_,s⟩=>s.seq (SqL.of h3)) ?_ ?_
    · clear s4
      rintro i y σ H5 hy ⟨-,v2,rfl,s5⟩
      obtain ⟨d,hd,dd⟩:=d1.get' hy
      rw [List.getElem?_map] at hd
      obtain ⟨de,hde,rfl⟩:=Option.map_eq_some_iff.mp hd
      obtain ⟨td,rfl,dA⟩:=mz (dd.mo s5)
      obtain ⟨ys,hTd,hy5,hpa⟩:=dA.parts
      refine ⟨_,rfl,td,_,_,true,rfl,hTd,yr K,_,rfl,jG ?_⟩
      refine ⟨_,rfl,td,rfl,⟨_,hTd⟩,fun lw hlw=>?_⟩
      have O:=Ow.refl s5.t1
      refine qm (K:=K) (xs:=ys) (fun i τ H'=>Iv (∃ (v0:Option V),τ=[v0]∧Ow T H5 H' [(lw,.lst [])])) ⟨trivial,none,rfl,O.mk' hlw rfl⟩ (fun i τ H' _ ⟨_,_,_,O⟩=>O.same.qw hTd) ?_ ?_
      · rintro i y τ H6 hy ⟨-,v0,rfl,O⟩
        rcases hpa y (List.mem_of_getElem? hy) with ⟨z,rfl⟩ | ⟨z,rfl⟩ | ⟨a,zs,rfl,ha⟩
        · exact ⟨_,rfl,_,_,_,false,rfl,.inl (.int _),yt K,_,rfl,jG ⟨trivial,_,rfl,O⟩⟩
        · exact ⟨_,rfl,_,_,_,false,rfl,.inl (.str _),LR K,_,rfl,jG ⟨trivial,_,rfl,O⟩⟩
        · exact ⟨_,rfl,_,_,_,false,rfl,.inr ⟨a,zs,rfl,O.same.qw ha,rfl⟩,LK K,_,rfl,jG ⟨trivial,_,rfl,O⟩⟩
      clear O
      rintro τ H6 ⟨-,v0,rfl,O⟩
      refine ⟨szl,fun lz hlz=>?_⟩
      walk_at "nw"
      refine ⟨lw,lz,[],[],rfl,rfl,O.sq 1,O.sq 0,_,rfl,jG ?_⟩
      exact ⟨trivial,_,rfl,s5.trans O.same⟩
    rintro σ H5 ⟨-,v2,rfl,s5⟩
    have O:=Ow.refl s5.t1
    refine ⟨_,rfl,t,_,2,_,rfl,rfl,s5.qw hT,rfl,l2,rfl,⟨_,s5.seq (SqL.of h2)⟩,fun lw hlw=>?_⟩
    refine nZ (K:=K) (xs:=ns.map V.str) (fun i τ H'=>Iv (∃ (v0:Option V),τ=[v0]∧Ow T H5 H' [(lw,.lst [])])) ⟨trivial,none,rfl,O.mk' hlw rfl⟩ (fun i τ H' _ ⟨_,_,_,O⟩=>(s5.trans O.same).seq (SqL.of h2)) ?_ ?_
    · rintro i y τ H6 hy ⟨-,v0,rfl,O⟩
      rw [List.getElem?_map] at hy
      obtain ⟨x,hx,rfl⟩:=Option.map_eq_some_iff.mp hy
      exact ⟨_,rfl,_,_,_,true,rfl,.str _,LQ K,_,rfl,jG ⟨trivial,_,rfl,O⟩⟩
    clear O
    rintro τ H6 ⟨-,v0,rfl,O⟩
    refine ⟨szl,fun lz hlz=>?_⟩
    walk_at "nw"
    exact ⟨lw,lz,[],[],rfl,rfl,O.sq 1,O.sq 0,q _ (s5.trans O.same)⟩
section
variable {S S':RS} {n:Int} {y:Str} {k:Except EK RS} {r:List Int} {d:je}
theorem m8 (h:S.oJ n y k=.ok S'):0≤n∧n<S.ls.length∧S.ns[n.toNat]?=some y∧k=.ok S':=by
  unfold RS.oJ at h
  split at h
  · cases h
  · rename_i h1
    split at h
    · cases h
    · rename_i h2
      have h1:=Classical.not_not.mp h1
      exact ⟨h1.1,h1.2,Classical.not_not.mp h2,h⟩
theorem u9 {x:Str} {s m b:Int} (h:step r S (.file x s m b)=.ok S'):S'=⟨S.day,S.ls++[⟨S.day,s,b,m⟩],S.ns++[x],S.ds++[.file x s m b]⟩:=by
  simp only [step] at h
  repeat' split at h
  all_goals first | (cases h;done) | (cases h;rfl)
theorem uO {z:Str} (h:step r S (.sell n y z)=.ok S'):0≤n∧n<S.ls.length∧S'=⟨S.day,S.ls,S.ns.set n.toNat z,S.ds++[.sell n y z]⟩:=by
  obtain ⟨h0,h1,-,h⟩:=m8 h
  split at h
  · cases h
  · cases h;exact ⟨h0,h1,rfl⟩
theorem uR {m:Int} {z:Str} (h:step r S (.part n y m z)=.ok S'):0≤n∧n<S.ls.length∧S'=⟨S.day,S.ls.set n.toNat (wm (S.at_ n) ((S.at_ n).most - m))++[wm (S.at_ n) m],S.ns++[z],S.ds++[.part n y m z]⟩:=by
  obtain ⟨h0,h1,-,h⟩:=m8 h
  repeat' split at h
  all_goals first | (cases h;done) | (cases h;exact ⟨h0,h1,rfl⟩)
theorem vh (h:step r S (.drop n y)=.ok S'):0≤n∧n<S.ls.length∧S'=⟨S.day,S.ls.set n.toNat (wm (S.at_ n) 0),S.ns,S.ds++[.drop n y]⟩:=by
  obtain ⟨h0,h1,-,h⟩:=m8 h
  cases h;exact ⟨h0,h1,rfl⟩
theorem uU {s:Int} (h:step r S (.move n y s)=.ok S'):0≤n∧n<S.ls.length∧S'=⟨S.day,S.ls.set n.toNat (wst (S.at_ n) s),S.ns,S.ds++[.move n y s]⟩:=by
  obtain ⟨h0,h1,-,h⟩:=m8 h
  split at h
  · cases h
  · cases h;exact ⟨h0,h1,rfl⟩
theorem rE {xs:List Int} (h:step r S (.lapse xs)=.ok S'):xs.length=S.ls.length∧S'=⟨S.day,kY S.ls xs,S.ns,S.ds++[.lapse xs]⟩:=by
  simp only [step] at h
  split at h
  · cases h
  · rename_i h1
    split at h
    · cases h
    · cases h;exact ⟨Classical.not_not.mp h1,rfl⟩
end
def kindS:je→Str
  | .turn=>"turn" | .file ..=>"file" | .sell ..=>"sell" | .part ..=>"part" | .drop ..=>"drop" | .move ..=>"move" | .lapse ..=>"lapse"
theorem DAt.kind {K:PySem.W.Frag} {H:Hp} {t:Addr} {d:je} (h:DAt K H t d):∃ ys,SqT K H t (.str (kindS d) :: ys):=by
  cases d with
  | lapse xs=>obtain ⟨a,h1,_⟩:=h;exact ⟨_,h1⟩
  | _=>exact ⟨_,h⟩
theorem yu {d:je} (h:kindS d="turn"):d=.turn:=by
  cases d with
  | turn=>rfl
  | _=>simp only [kindS] at h;exact absurd h (by decide +kernel)
theorem lM {r:List Int} {S S':RS} {d:je} (h:step r S d=.ok S'):(d=.turn∧S'.day=S.day + 1)∨(d≠.turn∧S'.day=S.day):=by
  cases d with
  | turn=>cases h;exact .inl ⟨rfl,rfl⟩
  | file x s m b=>exact .inr ⟨(fun z=>nomatch z),by rw [u9 h]⟩
  | sell n y z=>exact .inr ⟨(fun z=>nomatch z),by rw [(uO h).2.2]⟩
  | part n y m z=>exact .inr ⟨(fun z=>nomatch z),by rw [(uR h).2.2]⟩
  | drop n y=>exact .inr ⟨(fun z=>nomatch z),by rw [(vh h).2.2]⟩
  | move n y s=>exact .inr ⟨(fun z=>nomatch z),by rw [(uU h).2.2]⟩
  | lapse xs=>exact .inr ⟨(fun z=>nomatch z),by rw [(rE h).2]⟩
theorem mL {r:List Int}:∀ {S S':RS} {a b:List je},replay r S (a++b)=.ok S'→∃ S1,replay r S a=.ok S1∧replay r S1 b=.ok S'
  | S,S',[],b,h=>⟨S,rfl,h⟩
  | S,S',d :: a,b,h=>by
    simp only [replay,List.cons_append] at h ⊢
    cases hs:step r S d with
    | ok S1=>rw [hs] at h;exact mL h
    | error k=>rw [hs] at h;cases h
abbrev fP:Stmt:=top 49
theorem gO:aM ["deed","day","lines","owners","line","k"] ["deed","day","lines","owners"] (ak fP):=⟨rfl,rfl,rfl,by decide +kernel,rfl,by decide +kernel,by decide +kernel⟩
def wJ (K:PySem.W.Frag) (T:dW):Sp:=fun vs H Q _=>∃ (r:List Int) (t ll lo:Addr) (day:Int) (H0:Hp) (B:List (Addr × HO)) (us:List V) (S S':RS) (d:je),vs=[.ref t,.int day,.ref ll,.ref lo]∧Ow T H0 H ((lo,.lst (S.ns.map V.str)) :: (ll,.lst us) :: B)∧cW K H0 us (S.ls.map oF)∧Den K H0 (.ref t) (iQ d)∧step r S d=.ok S'∧(S.day=day∨d=.turn)∧S.ns.length=S.ls.length∧S.ls.length≤60 ∧
  ∀ (Hb H':Hp) (us':List V),aJ T H0 Hb→Ow T Hb H' ((lo,.lst (S'.ns.map V.str)) :: (ll,.lst us') :: B)→cW K Hb us' (S'.ls.map oF)→Q .non H'
theorem J8 {f:Addr} {fd:FuncData} (D:Df K mg "_law_step" fP ["deed","day","lines","owners"] f fd) (B:Blt mg):bF P w K mg base CX0 1 f fd ["deed","day","lines","owners"] (wJ K T):=by
  refine D.F.ok gO (fun vs H Q E h=>?_) (fun cdv A outer s H vs Q E hr h=>?_)
  · obtain ⟨_,_,_,_,_,_,_,_,_,_,_,rfl,_⟩:=h;rfl
  · obtain ⟨r,t,ll,lo,day,H0,L,us,S,S',d,rfl,O,d0,dd,hst,hday,hnn,hl60,q⟩:=h
    obtain ⟨t',e,d0A⟩:=mz dd
    cases e
    have dA:=d0A.mo O.same
    have hul:us.length=S.ls.length:=by rw [d0.length,List.length_map]
    refine ⟨_,(aA (bN (aH gJ (aG aD (pv 0) aq (fun _ _=>rfl)) aQ (aX _))
        (au (aN (jz PySem.F.plainAttrs_list PySem.F.slot_list_append PySem.F.type_list_append bL (pv 2) (aj (cP (aj (pv 1) (aj (aG aD (pv 0) aq (fun _ _=>rfl)) (aj (aG aD (pv 0) aq (fun _ _=>rfl)) (aj (aG aD (pv 0) aq (fun _ _=>rfl)) ao))))) ao)))
        (aA (aN (jz PySem.F.plainAttrs_list PySem.F.slot_list_append PySem.F.type_list_append bL (pv 3) (aj (aG aD (pv 0) aq (fun _ _=>rfl)) ao)))))
        (aA (bN (aH gJ (aG aD (pv 0) aq (fun _ _=>rfl)) aQ (aX _))
          (aA (jj (aG aD (pv 0) aq (fun _ _=>rfl)) (jF (pv 3) (aG aD (pv 0) aq (fun _ _=>rfl)) set_list)))
          (aA (bN (aH gJ (aG aD (pv 0) aq (fun _ _=>rfl)) aQ (aX _))
            (au (bG (i:=4) gO.nd rfl (Or.inl rfl) (aG aW (pv 2) (aG aD (pv 0) aq (fun _ _=>rfl)) (fun _ _=>rfl)))
            (au (jj (cP (aj (aG aD (pv 4) aq (fun _ _=>rfl)) (aj (aG aD (pv 4) aq (fun _ _=>rfl)) (aj (aG aD (pv 4) aq (fun _ _=>rfl)) (aj (bK lO (aG aD (pv 4) aq (fun _ _=>rfl)) (aG aD (pv 0) aq (fun _ _=>rfl))) ao))))) (jF (pv 2) (aG aD (pv 0) aq (fun _ _=>rfl)) set_list))
            (au (aN (jz PySem.F.plainAttrs_list PySem.F.slot_list_append PySem.F.type_list_append bL (pv 2) (aj (cP (aj (aG aD (pv 4) aq (fun _ _=>rfl)) (aj (aG aD (pv 4) aq (fun _ _=>rfl)) (aj (aG aD (pv 4) aq (fun _ _=>rfl)) (aj (aG aD (pv 0) aq (fun _ _=>rfl)) ao))))) ao)))
            (aA (aN (jz PySem.F.plainAttrs_list PySem.F.slot_list_append PySem.F.type_list_append bL (pv 3) (aj (aG aD (pv 0) aq (fun _ _=>rfl)) ao)))))))
            (aA (bN (aH gJ (aG aD (pv 0) aq (fun _ _=>rfl)) aQ (aX _))
              (au (bG (i:=4) gO.nd rfl (Or.inl rfl) (aG aW (pv 2) (aG aD (pv 0) aq (fun _ _=>rfl)) (fun _ _=>rfl)))
              (aA (jj (cP (aj (aG aD (pv 4) aq (fun _ _=>rfl)) (aj (aG aD (pv 4) aq (fun _ _=>rfl)) (aj (aG aD (pv 4) aq (fun _ _=>rfl)) (aj aq ao))))) (jF (pv 2) (aG aD (pv 0) aq (fun _ _=>rfl)) set_list))))
              (aA (bN (aH gJ (aG aD (pv 0) aq (fun _ _=>rfl)) aQ (aX _))
                (au (bG (i:=4) gO.nd rfl (Or.inl rfl) (aG aW (pv 2) (aG aD (pv 0) aq (fun _ _=>rfl)) (fun _ _=>rfl)))
                (aA (jj (cP (aj (aG aD (pv 4) aq (fun _ _=>rfl)) (aj (aG aD (pv 0) aq (fun _ _=>rfl)) (aj (aG aD (pv 4) aq (fun _ _=>rfl)) (aj (aG aD (pv 4) aq (fun _ _=>rfl)) ao))))) (jF (pv 2) (aG aD (pv 0) aq (fun _ _=>rfl)) set_list))))
                (aA (bN (aH gJ (aG aD (pv 0) aq (fun _ _=>rfl)) aQ (aX _))
                  (aA (kW PassesOwn.never rfl (pR rfl B.enumerate (aj (fB dH rfl B.list PyProof.Rows.boot_list (aj (pv 2) ao)) ao)) (rA rfl (fL (bH (i:=5) gO.nd rfl (Or.inl rfl)) (fL (bH (i:=4) gO.nd rfl (Or.inl rfl)) lY)))
                    (aA (jj (cP (aj (aG aD (pv 4) aq (fun _ _=>rfl)) (aj (aG aD (pv 4) aq (fun _ _=>rfl)) (aj (aG aD (pv 4) aq (fun _ _=>rfl)) (aj (aR (yS rfl) rfl B.min PyProof.Rows.boot_min (aj (aG aD (pv 4) aq (fun _ _=>rfl)) (aj (aG aD (aG aD (pv 0) aq (fun _ _=>rfl)) (pv 5) (fun _ _=>rfl)) ao))) ao))))) (jF (pv 2) (pv 5) set_list)))))
                  aZ)))))))))))),?_⟩
    cases d with
    | turn =>
      refine ⟨_,rfl,t,_,0,_,rfl,rfl,dA,rfl,rfl,_,rfl,gD rfl ?_⟩
      refine ⟨_,rfl,t,_,0,_,rfl,rfl,dA,rfl,rfl,_,rfl,gD rfl ?_⟩
      refine ⟨_,rfl,t,_,0,_,rfl,rfl,dA,rfl,rfl,_,rfl,gD rfl ?_⟩
      refine ⟨_,rfl,t,_,0,_,rfl,rfl,dA,rfl,rfl,_,rfl,gD rfl ?_⟩
      refine ⟨_,rfl,t,_,0,_,rfl,rfl,dA,rfl,rfl,_,rfl,gD rfl ?_⟩
      refine ⟨_,rfl,t,_,0,_,rfl,rfl,dA,rfl,rfl,_,rfl,gD rfl ?_⟩
      cases hst
      exact q H0 _ us (aJ.refl O.same.t0) O d0
    | file x st m b =>
      have hday:S.day=day:=hday.resolve_right (fun z=>nomatch z)
      subst hday
      refine ⟨_,rfl,t,_,0,_,rfl,rfl,dA,rfl,rfl,_,rfl,jK ?_⟩
      refine ⟨_,rfl,.inl ⟨rfl,_,O.sq 1⟩,_,rfl,_,rfl,t,_,2,_,rfl,rfl,dA,rfl,_,rfl,t,_,4,_,rfl,rfl,dA,rfl,_,rfl,t,_,3,_,rfl,rfl,dA,rfl,szl,fun tn htn=>?_⟩
      walk_at "nw"
      refine ⟨ll,_,_,rfl,rfl,O.get 2,aV (by omega),?_⟩
      walk_at "pt"
      have dA:=d0A.mo O.same
      refine ⟨_,rfl,.inl ⟨rfl,_,O.sq 1⟩,_,rfl,t,_,1,_,rfl,rfl,dA,rfl,lo,_,_,rfl,rfl,O.get 1,aV (by rw [List.length_map];omega),?_⟩
      walk_at "pt"
      have hS:=u9 hst
      subst hS
      obtain ⟨Hb,O,sb,e1⟩:=O.frz
      refine q Hb _ (us++[V.ref tn]) sb ?_ ?_
      · rw [List.map_append];exact O
      · rw [List.map_append];exact (d0.mo sb).append (.cons (Den.lic (l:=⟨S.day,st,b,m⟩) (SqT.of e1)) .nil)
    | sell n y z =>
      obtain ⟨h0,h1,hS⟩:=uO hst
      subst hS
      obtain ⟨k,rfl⟩:=Int.eq_ofNat_of_zero_le h0
      refine ⟨_,rfl,t,_,0,_,rfl,rfl,dA,rfl,rfl,_,rfl,gD rfl ?_⟩
      refine ⟨_,rfl,t,_,0,_,rfl,rfl,dA,rfl,rfl,_,rfl,jK ?_⟩
      refine ⟨_,rfl,t,_,3,_,rfl,rfl,dA,rfl,_,rfl,_,rfl,t,_,1,_,rfl,rfl,dA,rfl,?_⟩
      refine jT O 0 rfl (iY (by rw [List.length_map];omega)) fun H6 O=>?_
      refine q H0 _ us (aJ.refl O.same.t0) ?_ d0
      rw [Int.toNat_natCast,List.map_set];exact O
    | part n y m z =>
      obtain ⟨h0,h1,hS⟩:=uR hst
      subst hS
      obtain ⟨k,rfl⟩:=Int.eq_ofNat_of_zero_le h0
      obtain ⟨l,hl⟩:∃ l,S.ls[k]?=some l:=⟨_,List.getElem?_eq_getElem (by omega)⟩
      obtain ⟨al,hal,hT⟩:=d0.jW hl
      rw [oY rfl hl,Int.toNat_natCast] at q
      refine ⟨_,rfl,t,_,0,_,rfl,rfl,dA,rfl,rfl,_,rfl,gD rfl ?_⟩
      refine ⟨_,rfl,t,_,0,_,rfl,rfl,dA,rfl,rfl,_,rfl,gD rfl ?_⟩
      refine ⟨_,rfl,t,_,0,_,rfl,rfl,dA,rfl,rfl,_,rfl,jK ?_⟩
      refine ⟨_,rfl,_,rfl,t,_,1,_,rfl,rfl,dA,rfl,ll,_,_,_,rfl,rfl,O.sq 1,fZ hal,?_⟩
      have hTm:=hT.mo O.same
      refine ⟨_,rfl,al,_,0,_,rfl,rfl,hTm,rfl,_,rfl,al,_,1,_,rfl,rfl,hTm,rfl,_,rfl,al,_,2,_,rfl,rfl,hTm,rfl,_,rfl,al,_,3,_,rfl,rfl,hTm,rfl,_,rfl,t,_,3,_,rfl,rfl,dA,rfl,_,_,rfl,rfl,szl,fun t1 ht1=>?_⟩
      walk_at "nw"
      have dA:=d0A.mo O.same
      refine ⟨_,rfl,_,rfl,t,_,1,_,rfl,rfl,dA,rfl,?_⟩
      refine jT O 2 rfl (iY (by omega)) fun H6 O=>?_
      have dA:=d0A.mo O.same
      have hTm:=hT.mo O.same
      refine ⟨_,rfl,.inl ⟨rfl,_,O.sq 2⟩,_,rfl,al,_,0,_,rfl,rfl,hTm,rfl,_,rfl,al,_,1,_,rfl,rfl,hTm,rfl,_,rfl,al,_,2,_,rfl,rfl,hTm,rfl,_,rfl,t,_,3,_,rfl,rfl,dA,rfl,szl,fun t2 ht2=>?_⟩
      walk_at "nw"
      refine ⟨ll,_,_,rfl,rfl,O.get 3,aV (by rw [List.length_set];omega),?_⟩
      walk_at "pt"
      have dA:=d0A.mo O.same
      refine ⟨_,rfl,.inl ⟨rfl,_,O.sq 2⟩,_,rfl,t,_,4,_,rfl,rfl,dA,rfl,lo,_,_,rfl,rfl,O.get 2,aV (by rw [List.length_map];omega),?_⟩
      walk_at "pt"
      obtain ⟨Hb,O,sb,e2⟩:=O.frz
      obtain ⟨Hc,O,sc,e1⟩:=O.frz
      have e2:=sc.keep _ _ e2 (fun _ z=>nomatch z)
      have sx:=sb.trans sc
      refine q Hc _ (us.set k (V.ref t1)++[V.ref t2]) sx ?_ ?_
      · rw [List.map_append];exact O
      · rw [List.map_append,List.map_set]
        exact ((d0.mo sx).set (Den.lic (l:=wm l (l.most - m)) (SqT.of e1)) k).append (.cons (Den.lic (l:=wm l m) (SqT.of e2)) .nil)
    | drop n y =>
      obtain ⟨h0,h1,hS⟩:=vh hst
      subst hS
      obtain ⟨k,rfl⟩:=Int.eq_ofNat_of_zero_le h0
      obtain ⟨l,hl⟩:∃ l,S.ls[k]?=some l:=⟨_,List.getElem?_eq_getElem (by omega)⟩
      obtain ⟨al,hal,hT⟩:=d0.jW hl
      rw [oY rfl hl,Int.toNat_natCast] at q
      refine ⟨_,rfl,t,_,0,_,rfl,rfl,dA,rfl,rfl,_,rfl,gD rfl ?_⟩
      refine ⟨_,rfl,t,_,0,_,rfl,rfl,dA,rfl,rfl,_,rfl,gD rfl ?_⟩
      refine ⟨_,rfl,t,_,0,_,rfl,rfl,dA,rfl,rfl,_,rfl,gD rfl ?_⟩
      refine ⟨_,rfl,t,_,0,_,rfl,rfl,dA,rfl,rfl,_,rfl,jK ?_⟩
      refine ⟨_,rfl,_,rfl,t,_,1,_,rfl,rfl,dA,rfl,ll,_,_,_,rfl,rfl,O.sq 1,fZ hal,?_⟩
      have hTm:=hT.mo O.same
      refine ⟨_,rfl,al,_,0,_,rfl,rfl,hTm,rfl,_,rfl,al,_,1,_,rfl,rfl,hTm,rfl,_,rfl,al,_,2,_,rfl,rfl,hTm,rfl,szl,fun t1 ht1=>?_⟩
      walk_at "nw"
      have dA:=d0A.mo O.same
      refine ⟨_,rfl,_,rfl,t,_,1,_,rfl,rfl,dA,rfl,?_⟩
      refine jT O 2 rfl (iY (by omega)) fun H6 O=>?_
      obtain ⟨Hb,O,sb,e1⟩:=(show Ow T H0 H6 ((t1,.tup (lV (wm l 0))) :: (lo,.lst (S.ns.map V.str)) :: (ll,.lst (us.set k (V.ref t1))) :: L) from O).frz
      refine q Hb _ (us.set k (V.ref t1)) sb O ?_
      rw [List.map_set]
      exact (d0.mo sb).set (Den.lic (l:=wm l 0) (SqT.of e1)) k
    | move n y st =>
      obtain ⟨h0,h1,hS⟩:=uU hst
      subst hS
      obtain ⟨k,rfl⟩:=Int.eq_ofNat_of_zero_le h0
      obtain ⟨l,hl⟩:∃ l,S.ls[k]?=some l:=⟨_,List.getElem?_eq_getElem (by omega)⟩
      obtain ⟨al,hal,hT⟩:=d0.jW hl
      rw [oY rfl hl,Int.toNat_natCast] at q
      refine ⟨_,rfl,t,_,0,_,rfl,rfl,dA,rfl,rfl,_,rfl,gD rfl ?_⟩
      refine ⟨_,rfl,t,_,0,_,rfl,rfl,dA,rfl,rfl,_,rfl,gD rfl ?_⟩
      refine ⟨_,rfl,t,_,0,_,rfl,rfl,dA,rfl,rfl,_,rfl,gD rfl ?_⟩
      refine ⟨_,rfl,t,_,0,_,rfl,rfl,dA,rfl,rfl,_,rfl,gD rfl ?_⟩
      refine ⟨_,rfl,t,_,0,_,rfl,rfl,dA,rfl,rfl,_,rfl,jK ?_⟩
      refine ⟨_,rfl,_,rfl,t,_,1,_,rfl,rfl,dA,rfl,ll,_,_,_,rfl,rfl,O.sq 1,fZ hal,?_⟩
      have hTm:=hT.mo O.same
      refine ⟨_,rfl,al,_,0,_,rfl,rfl,hTm,rfl,_,rfl,t,_,3,_,rfl,rfl,dA,rfl,_,rfl,al,_,2,_,rfl,rfl,hTm,rfl,_,rfl,al,_,3,_,rfl,rfl,hTm,rfl,szl,fun t1 ht1=>?_⟩
      walk_at "nw"
      have dA:=d0A.mo O.same
      refine ⟨_,rfl,_,rfl,t,_,1,_,rfl,rfl,dA,rfl,?_⟩
      refine jT O 2 rfl (iY (by omega)) fun H6 O=>?_
      obtain ⟨Hb,O,sb,e1⟩:=(show Ow T H0 H6 ((t1,.tup (lV (wst l st))) :: (lo,.lst (S.ns.map V.str)) :: (ll,.lst (us.set k (V.ref t1))) :: L) from O).frz
      refine q Hb _ (us.set k (V.ref t1)) sb O ?_
      rw [List.map_set]
      exact (d0.mo sb).set (Den.lic (l:=wst l st) (SqT.of e1)) k
    | lapse xs =>
      obtain ⟨hxl,hS⟩:=rE hst
      subst hS
      obtain ⟨a,hT0,hA0⟩:=d0A
      have hT:=O.same.qw hT0
      refine ⟨_,rfl,t,_,0,_,rfl,rfl,hT,rfl,rfl,_,rfl,gD rfl ?_⟩
      refine ⟨_,rfl,t,_,0,_,rfl,rfl,hT,rfl,rfl,_,rfl,gD rfl ?_⟩
      refine ⟨_,rfl,t,_,0,_,rfl,rfl,hT,rfl,rfl,_,rfl,gD rfl ?_⟩
      refine ⟨_,rfl,t,_,0,_,rfl,rfl,hT,rfl,rfl,_,rfl,gD rfl ?_⟩
      refine ⟨_,rfl,t,_,0,_,rfl,rfl,hT,rfl,rfl,_,rfl,gD rfl ?_⟩
      refine ⟨_,rfl,t,_,0,_,rfl,rfl,hT,rfl,rfl,_,rfl,jK ?_⟩
      clear hT dA
      refine ⟨_,rfl,ll,_,rfl,.inl (O.sq 1),fun lc hlc=>?_⟩
      walk_at "nw"
      refine ⟨lc,us,rfl,O.sq 0,?_⟩
      refine u6 (K:=K) (xs:=us) (fun i σ H'=>Iv (∃ (Hb:Hp) (us':List V) (v4 v5:Option V),σ=[some (.ref t),some (.int day),some (.ref ll),some (.ref lo),v4,v5]∧Ow T Hb H' ((lc,.lst us) :: (lo,.lst (S.ns.map V.str)) :: (ll,.lst us') :: L)∧aJ T H0 Hb∧cW K Hb us' ((uW S.ls xs i).map oF)))
        ⟨trivial,H0,us,none,none,rfl,O,aJ.refl O.same.t0,by rw [nR];exact d0⟩ (fun i σ H' _ ⟨_,_,_,_,_,_,O,_⟩=>O.sq 0) ?_ ?_
      · clear O
        rintro i y T0 σ H5 hy ⟨-,Hb,us',v4,v5,rfl,O,s0,d2⟩ hT0n
        have hi:=(List.getElem?_eq_some_iff.mp hy).1
        obtain ⟨l,hl⟩:∃ l,S.ls[i]?=some l:=⟨_,List.getElem?_eq_getElem (by omega)⟩
        obtain ⟨x,hx⟩:∃ x,xs[i]?=some x:=⟨_,List.getElem?_eq_getElem (by omega)⟩
        obtain ⟨al,hal,hTl⟩:=d0.jW hl
        rw [hy] at hal
        cases hal
        obtain ⟨e1,e2⟩:=p8 hl hx
        have hul2:us'.length=S.ls.length:=by
          have h1:=(List.getElem?_eq_some_iff.mp e1).1
          rw [d2.length,List.length_map];unfold uW kY;rw [List.length_append,List.length_zipWith,List.length_take,List.length_take,List.length_drop];omega
        walk_at "nw"
        refine ⟨T0,_,rfl,O.sqT 0,rfl,_,_,rfl,_,_,rfl,rfl,?_⟩
        have O:=O.tail
        have sO:=s0.trans O.same
        have hTm:=sO.qw hTl
        refine ⟨_,rfl,al,_,0,_,rfl,rfl,hTm,rfl,_,rfl,al,_,1,_,rfl,rfl,hTm,rfl,_,rfl,al,_,2,_,rfl,rfl,hTm,rfl,_,rfl,al,_,3,_,rfl,rfl,hTm,rfl,_,rfl,t,_,1,_,rfl,rfl,sO.qw hT0,rfl,_,rfl,a,_,_,_,rfl,rfl,sO.qw hA0,bQ hx,_,_,rfl,?_⟩
        refine ⟨szl,fun t1 ht1=>?_⟩
        dsimp only
        rw [show (if x<l.most then x else l.most)=min l.most x by rw [Int.min_def];split <;> split <;> omega]
        walk_at "nw"
        refine ⟨_,rfl,_,rfl,?_⟩
        refine jT O 3 rfl (iY (by omega)) fun H6 O=>?_
        obtain ⟨Hc,O,sc,e1'⟩:=(show Ow T Hb H6 ((t1,.tup (lV (wm l (min l.most x)))) :: (lc,.lst us) :: (lo,.lst (S.ns.map V.str)) :: (ll,.lst (us'.set i (V.ref t1))) :: L) from O).frz
        refine ⟨trivial,Hc,us'.set i (V.ref t1),_,_,rfl,O,s0.trans sc,?_⟩
        rw [e2,List.map_set]
        exact (d2.mo sc).set (Den.lic (l:=wm l (min l.most x)) (SqT.of e1')) i
      clear O
      rintro σ H5 ⟨-,Hb,us',v4,v5,rfl,O,s0,d2⟩
      rw [hul,← hxl,nT (by omega)] at d2
      exact q Hb _ us' s0 O.tail d2
theorem qU {r:List Int}:∀ {S S':RS} {ds:List je},replay r S ds=.ok S'→S.ns.length=S.ls.length→S.ls.length≤60→S'.ns.length=S'.ls.length∧S'.ls.length≤60
  | S,S',[],h,h1,h2=>by cases h;exact ⟨h1,h2⟩
  | S,S',d :: ds,h,h1,h2=>by
    simp only [replay] at h
    cases hs:step r S d with
    | ok S1 =>
      rw [hs] at h
      obtain ⟨a,b,-⟩:=pA hs h1 h2
      exact qU h a b
    | error k=>rw [hs] at h;cases h
abbrev cC:Stmt:=top 50
theorem cX:aM ["deeds","day","lines","owners","deed"] ["deeds"] (ak cC):=⟨rfl,rfl,rfl,by decide +kernel,rfl,by decide +kernel,by decide +kernel⟩
def wL (K:PySem.W.Frag) (T:dW):Sp:=fun vs H Q _=>∃ (r:List Int) (ld:Addr) (ts:List V) (ds:List je) (S':RS),vs=[.ref ld]∧SqL K H ld ts∧cW K H ts (ds.map iQ)∧replay r RS.new ds=.ok S'∧TabsOk T H ∧
  ∀ (t:Addr) H',aJ T H H'→Den K H' (.ref t) (.tuple [.int S'.day,vV S'.ls,.list (S'.ns.map PyData.str)])→Q (.ref t) H'
theorem Kd {f f1:Addr} {fd fd1:FuncData} (D:Df K mg "_law_followed" cC ["deeds"] f fd) (B:Blt mg)
    (ig:Df K mg "_law_step" fP ["deed","day","lines","owners"] f1 fd1) (uh:bF P w K mg base CX0 1 f1 fd1 ["deed","day","lines","owners"] (wJ K T)):bF P w K mg base CX0 2 f fd ["deeds"] (wL K T):=by
  refine D.F.ok cX (fun vs H Q E h=>?_) (fun cdv A outer s H vs Q E hr h=>?_)
  · obtain ⟨_,_,_,_,_,rfl,_⟩:=h;rfl
  · obtain ⟨r,ld,ts,ds,S',rfl,hD,dd,hre,tk,q⟩:=h
    have O:=Ow.refl tk
    have htl:ts.length=ds.length:=by rw [dd.length,List.length_map]
    refine ⟨_,(au (bG (i:=1) cX.nd rfl (Or.inl rfl) aq)
      (au (bG (i:=2) cX.nd rfl (Or.inl rfl) (gF ao))
      (au (bG (i:=3) cX.nd rfl (Or.inl rfl) (gF ao))
      (au (kW PassesOwn.never rfl (jR (pv 0)) (bH (i:=4) cX.nd rfl (Or.inl rfl))
        (nH (bN (aH gJ (aG aD (pv 4) aq (fun _ _=>rfl)) aQ (aX _))
          (aA (bG (i:=1) cX.nd rfl (Or.inl rfl) (bK jV (pv 1) aq)))
          aZ)
        (aA (aN (aL uh (hr.mono (by decide)) rfl ig.m ig.F.kp ig.b .nil bO (aj (pv 4) (aj (pv 1) (aj (pv 2) (aj (pv 3) ao)))))))))
      (aA (aY (cP (aj (pv 1) (aj (pv 2) (aj (pv 3) ao)))))))))),?_⟩
    refine ⟨szl,fun ll hll=>?_⟩
    walk_at "nw"
    refine ⟨szl,fun lo hlo=>?_⟩
    walk_at "nw"
    refine ⟨_,rfl,ld,rfl,⟨_,O.same.seq hD⟩,?_⟩
    refine lR (K:=K) (xs:=ts) (fun i σ H'=>Iv (∃ (v4:Option V) (Hb:Hp) (us:List V) (S:RS),σ=[some (.ref ld),some (.int S.day),some (.ref ll),some (.ref lo),v4]∧aJ T H Hb∧Ow T Hb H' [(lo,.lst (S.ns.map V.str)),(ll,.lst us)]∧cW K Hb us (S.ls.map oF)∧replay r RS.new (ds.take i)=.ok S))
      ⟨trivial,none,H,[],RS.new,rfl,aJ.refl tk,O,.nil,rfl⟩ (fun i σ H' _ ⟨_,_,_,_,_,_,s,O,_⟩=>(s.trans O.same).seq hD) ?_ ?_
    · clear O
      rintro i y σ H4 hy ⟨-,v4,Hb,us,S,rfl,sb,O,d0,hS⟩
      have hi:=(List.getElem?_eq_some_iff.mp hy).1
      obtain ⟨d,hd⟩:∃ d,ds[i]?=some d:=⟨_,List.getElem?_eq_getElem (by omega)⟩
      obtain ⟨v,hv1,hv2⟩:=dd.get (i:=i) (d:=iQ d) (by rw [List.getElem?_map,hd];rfl)
      rw [hy] at hv1
      cases hv1
      have dB:=hv2.mo sb
      obtain ⟨t,e,dA⟩:=mz (dB.mo O.same)
      subst e
      obtain ⟨ys,hT⟩:=dA.kind
      have h1:ds=ds.take i++(d :: ds.drop (i + 1)):=by
        obtain ⟨h1,h2⟩:=List.getElem?_eq_some_iff.mp hd
        rw [← h2,← List.drop_eq_getElem_cons h1,List.take_append_drop]
      obtain ⟨S1,hst⟩:∃ S1,step r S d=.ok S1:=by
        rw [h1] at hre
        obtain ⟨S0,hS0,hrest⟩:=mL hre
        rw [hS] at hS0
        cases hS0
        simp only [replay] at hrest
        cases hs:step r S d with
        | ok S1=>exact ⟨S1,rfl⟩
        | error k=>rw [hs] at hrest;cases hrest
      obtain ⟨hnn,hl60⟩:=qU hS rfl (by decide)
      have hsn:replay r RS.new (ds.take (i + 1))=.ok S1:=by rw [Tn.iU hd,iW hS,hst]
      refine ⟨fun σ H'=>Iv (σ=[some (.ref ld),some (.int S1.day),some (.ref ll),some (.ref lo),some (.ref t)]∧H'=H4),?_,?_⟩
      · refine ⟨_,rfl,t,_,0,_,rfl,rfl,hT,(show atI _ ((0:Nat):Int)=some _ from fZ rfl),rfl,_,rfl,ifS (fun hk=>?_) (fun hk=>?_)⟩
        · rcases lM hst with ⟨_,e⟩ | ⟨e,_⟩
          · rw [e];exact ⟨_,rfl,_,_,rfl,rfl,trivial,rfl,rfl⟩
          · exact absurd (yu hk) e
        · rcases lM hst with ⟨e,_⟩ | ⟨_,e⟩
          · rw [e] at hk;exact absurd rfl hk
          · rw [e];exact ⟨trivial,rfl,rfl⟩
      rintro σ H5 ⟨-,rfl,rfl⟩
      refine ⟨_,rfl,_,rfl,_,rfl,_,rfl,r,t,ll,lo,S1.day,Hb,[],us,S,S1,d,rfl,O,d0,dB,hst,?_,hnn,hl60,fun Hc H6 us' sc O d0=>?_⟩
      · rcases lM hst with ⟨e,_⟩ | ⟨_,e⟩
        · exact .inr e
        · exact .inl e.symm
      · exact ⟨trivial,_,Hc,us',S1,rfl,sb.trans sc,O,d0,hsn⟩
    clear O
    rintro σ H4 ⟨-,v4,Hb,us,S,rfl,sb,O,d0,hS⟩
    rw [htl,List.take_length,hre] at hS
    cases hS
    refine ⟨_,rfl,_,rfl,_,rfl,szl,fun t ht=>?_⟩
    walk_at "nw"
    exact q t _ (sb.trans O.same) (.tuple (O.sqT 0) (.cons (.int _) (.cons (.list (O.sq 2) (d0.mo O.same)) (.cons (.list (O.sq 1) (cW.strs _)) .nil))))
structure yW (K:PySem.W.Frag) (c:Ec):Prop where
  m:PySem.W.exmOne K (.ref c.number) (.ref c.number)=some true
abbrev cL:Stmt:=top 51
theorem iV:aM ["below","deeds","deed","refused"] ["below","deeds","deed"] (ak cL):=⟨rfl,rfl,rfl,by decide +kernel,rfl,by decide +kernel,by decide +kernel⟩
def Av (K:PySem.W.Frag) (T:dW) (C:Addr) (c:Ec):Sp:=fun vs H Q _=>∃ (lv ld t:Addr) (H0:Hp) (B:List (Addr × HO)) (r:List Int) (ts:List V) (ds:List je) (d:je) (S:RS),vs=[.ref lv,.ref ld,.ref t]∧Ow T H0 H ((ld,.lst ts) :: (lv,.lst (r.map V.int)) :: B)∧r.length≤40∧cW K H0 ts (ds.map iQ)∧Den K H0 (.ref t) (iQ d)∧(∀ e∈ds,jo e)∧jo d∧ds.length≤900∧Rv.isR r=true∧Rv.mW r∧replay r RS.new ds=.ok S∧step r S d=.error .number∧∀ H',Q (.bl true) H'
section
variable {P:Program} {w:World} {K:PySem.W.Frag} {mg:Str→Option Value} {base:Heap} {T:dW} {C:Addr} {c:Ec}
theorem Ln {f f1:Addr} {fd fd1:FuncData} (D:Df K mg "_law_refused" cL ["below","deeds","deed"] f fd) (X_NoNumber:m9 K mg "NoNumber" c.number) (TT:yW K c)
    (dR:Df K mg "replayed" gw ["below","deeds"] f1 fd1) (mD:bF P w K mg base (CXE P w) 5 f1 fd1 ["below","deeds"] (sU K T C c)):bF P w K mg base CX0 6 f fd ["below","deeds","deed"] (Av K T C c):=by
  refine D.F.ok iV (fun vs H Q E h=>?_) (fun cdv A outer s H vs Q E hr h=>?_)
  · obtain ⟨_,_,_,_,_,_,_,_,_,_,rfl,_⟩:=h;rfl
  · obtain ⟨lv,ld,t,H0,L,r,ts,ds,d,S,rfl,O,r40,dd,d1,hok,hok1,hdl,hR,hRv,hre,hst,q⟩:=h
    have htl:ts.length=ds.length:=by rw [dd.length,List.length_map]
    refine ⟨_,(au (bG (i:=3) iV.nd rfl (Or.inl rfl) jk)
      (au (w5 ⟨rfl,rfl,rfl⟩ rfl (v9 (wg (wj mD (hr.mono (by decide)) rfl dR.m dR.F.kp dR.b .nil (aj (pv 0) (aj (bK xW (pv 1) (gF (aj (pv 2) ao))) ao))))) rfl X_NoNumber.m (fun e =>
        (aA (bG (i:=3) iV.nd rfl (Or.inl rfl) jk))))
      (aA (aY (pv 3))))),?_⟩
    refine ⟨_,rfl,_,rfl,_,rfl,szl,fun l1 h1=>?_⟩
    walk_at "nw"
    refine ⟨ld,l1,_,_,rfl,rfl,O.get 1,O.get 0,m6 (by simp only [List.length_cons,List.length_nil];omega),fun l2 h2=>?_⟩
    walk_at "nw"
    have hall:replay r RS.new (ds++[d])=.error .number:=by rw [iW hre];exact hst
    refine ⟨lv,l2,H0,_,r,ts++[.ref t],ds++[d],rfl,O,O.sq 3,r40,fun Hb H' X s O=>SqL.of (O.at_ _ (List.mem_append_right _ List.mem_cons_self)),?_,fun e he=>?_,by rw [List.length_append,List.length_singleton];omega,fun _=>hRv,fun _ S' e=>?_,fun _ k e ea Hb H' sb O' he=>?_,fun z=>?_⟩
    · rw [List.map_append];exact dd.append (.cons d1 .nil)
    · rcases List.mem_append.mp he with h | h
      · exact hok e h
      · rw [List.mem_singleton.mp h];exact hok1
    · rw [hall] at e;cases e
    · rw [hall] at e;cases e
      exact ⟨_,ea,rfl,rfl,TT.m,_,rfl,q _⟩
    · rw [hR] at z;cases z
end
theorem oW {r:List Int} {rk:Nat→Nat} (h3:∀ (i:Nat) (x:Int),r[i]?=some x→x=-1∨(0≤x∧x<r.length∧rk x.toNat<rk i)):∀ (f:Nat) (p:Int),0≤p→p<r.length→rk p.toNat<f→Rv.lW r f p=-1
  | 0,p,_,_,h=>absurd h (Nat.not_lt_zero _)
  | f + 1,p,h0,h1,h=>by
    show Rv.lW r f (Rv.stp r p)=-1
    unfold Rv.stp
    rw [if_neg (by omega)]
    rcases h3 _ _ (Rv.lA h0 h1) with e | ⟨a,b,c⟩
    · rw [e];exact Rv.uy r f
    · exact oW h3 f _ a b (by omega)
theorem wZ {r:List Int} (hR:Rv.mW r) (h1:1≤r.length) (h2:r.length≤40):Rv.isR r=true:=by
  obtain ⟨rk,k1,k2⟩:=hR
  have hB:Rv.inB r:=fun x hx=>by
    obtain ⟨i,hi⟩:=List.getElem?_of_mem hx
    rcases k2 i x hi with e | ⟨a,b,_⟩ <;> omega
  unfold Rv.isR
  rw [decide_eq_true (⟨h1,h2⟩:1≤r.length∧r.length≤40),decide_eq_true hB,decide_eq_true (fun i hi=>oW k2 _ _ (by omega) (by omega) (by rw [Int.toNat_natCast];exact k1 i hi))]
  rfl
abbrev JL (S:RS):PyData:=.tuple [.int S.day,vV S.ls,.list (S.ns.map PyData.str),.list (S.ds.map iQ)]
theorem Sh.stand {S:RS} (hn:∀ x∈S.ns,Asc x) (hd:∀ d∈S.ds,jo d):Sh 4 (JL S):=.tuple fun e he=>by
  simp only [List.mem_cons,List.not_mem_nil,or_false] at he
  rcases he with rfl | rfl | rfl | rfl
  · exact Sh.int _ _
  · exact (Sh.roll 0 S.ls).up (by decide)
  · exact (Sh.strs 0 hn).up (by decide)
  · exact Sh.vU hd
theorem Sh.K5 {S:RS} (hn:∀ x∈S.ns,Asc x):Sh 4 (.tuple [.int S.day,vV S.ls,.list (S.ns.map PyData.str)]):=.tuple fun e he=>by
  simp only [List.mem_cons,List.not_mem_nil,or_false] at he
  rcases he with rfl | rfl | rfl
  · exact Sh.int _ _
  · exact (Sh.roll 0 S.ls).up (by decide)
  · exact (Sh.strs 0 hn).up (by decide)
theorem Den.stand {K:PySem.W.Frag} {H:Hp} {t l1 l2 l3:Addr} {us vs:List V} {S:RS} (hT:SqT K H t [.int S.day,.ref l1,.ref l2,.ref l3]) (h1:SqL K H l1 us) (d0:cW K H us (S.ls.map oF)) (h2:SqL K H l2 (S.ns.map V.str)) (h3:SqL K H l3 vs) (d1:cW K H vs (S.ds.map iQ)):Den K H (.ref t) (JL S) :=
  .tuple hT (.cons (.int _) (.cons (.list h1 d0) (.cons (.list h2 (cW.strs _)) (.cons (.list h3 d1) .nil))))
theorem Ow.front {T:dW} {H0 H:Hp} (X R B:List (Addr × HO)) (O:Ow T H0 H (X++(R++B))):Ow T H0 H (R++(X++B)):=O.perm (List.perm_append_comm_assoc _ _ _)
theorem Ow.behind {T:dW} {H0 H:Hp} (X R Y Z:List (Addr × HO)) (O:Ow T H0 H (X++(R++(Y++Z)))):Ow T H0 H (R++(Y++(X++Z))):=(Ow.front X R (Y++Z) O).perm (List.Perm.append_left _ (List.perm_append_comm_assoc Y X Z))
structure Ak (r:List Int) (S:RS) (i:Nat):Prop where
  rp:RP r [] S
  re:replay r RS.new S.ds=.ok S
  le:S.ds.length≤i
  ok:∀ d∈S.ds,jo d
  na:∀ x∈S.ns,Asc x
  d0:0≤S.day
  d1:S.day≤(i:Int)
  ll:S.ls.length≤i
theorem Ak.up {r:List Int} {S:RS} {i j:Nat} (h:Ak r S i) (e:i≤j):Ak r S j:=⟨h.rp,h.re,Nat.le_trans h.le e,h.ok,h.na,h.d0,by have:=h.d1;omega,Nat.le_trans h.ll e⟩
theorem Ak.step {r:List Int} {S S':RS} {i:Nat} {d:je} (h:Ak r S i) (hi:i≤100) (hs:step r S d=.ok S') (hd:jo d):Ak r S' (i + 1):=by
  have e:=pB hs
  have h0:=h.d0
  have h1:=h.d1
  have h2:=h.ll
  have h3:=h.le
  refine ⟨wD h.rp (by omega) hs,?_,by rw [e,List.length_append];simp only [List.length_cons,List.length_nil];omega,fun x hx=>?_,zu hs hd h.na,?_,?_,?_⟩
  · rw [e,iW h.re];exact hs
  · rw [e] at hx
    rcases List.mem_append.mp hx with z | z
    · exact h.ok x z
    · rw [List.mem_singleton.mp z];exact hd
  · rcases lM hs with ⟨_,z⟩ | ⟨_,z⟩ <;> omega
  · rcases lM hs with ⟨_,z⟩ | ⟨_,z⟩ <;> omega
  · obtain ⟨_,_,z⟩:=pA hs h.rp.nn h.rp.l60
    omega
theorem KC:Asc "a":=⟨by decide +kernel,by decide +kernel⟩
theorem Lx:oh "a":=by
  refine ⟨by decide +kernel,by decide +kernel,fun c hc=>?_⟩
  have:c=97:=by
    have h:("a":Str).cps.toList=[97]:=by decide +kernel
    rw [h] at hc;simpa using hc
  omega
theorem RK {r:List Int} {S:RS} {i:Nat} (h:Ak r S i) (hi:i≤50) (r1:1≤r.length):step r S (.file "a" 0 1 (-1))=.ok ⟨S.day,S.ls++[⟨S.day,0,-1,1⟩],S.ns++[("a":Str)],S.ds++[.file "a" 0 1 (-1)]⟩:=by
  have h0:=h.d0
  have h1:=h.d1
  have h2:=h.ll
  have hl:vZ r ⟨S.day,0,-1,1⟩:=⟨⟨h0,by show S.day≤1000000;omega,by show (0:Int)≤0;omega,by show (0:Int)<r.length;omega,by show (0:Int)≤1;omega,by show (1:Int)≤1000000000000;omega⟩,.inl rfl⟩
  simp only [step]
  rw [if_neg (not_not_intro Lx),if_neg (show ¬ ((1:Int)=0∨¬ vZ r ⟨S.day,0,-1,1⟩) from fun z=>z.elim (by decide) fun w=>w hl),if_neg (by omega)]
structure VB (K:PySem.W.Frag) (C:Addr):Prop where
  ha:PySem.W.findIn K (.ref C) "__class__"=some (some (.builtin "object.__class__"))
  hn:PySem.W.specialIn K (.builtin "object.__class__") "__get__"=some (some (.builtin "getset_descriptor.__get__"))
  ht:PySem.W.takesIn K (.builtin "object.__class__")=some true
  hm:PySem.W.mroIn K C (.type "object")=some true
  kt:PySem.W.kitOne K (.ref C) (.ref C)=some true
abbrev oG:Stmt:=top 52
theorem jN:aM ["script","below","one","stand","trail","cell","deed","handed","river","again"] ["script"] (ak oG):=⟨rfl,rfl,rfl,by decide +kernel,rfl,by decide +kernel,by decide +kernel⟩
def uK (K:PySem.W.Frag):Sp:=fun vs H Q _=>∃ (a:Addr) (ns:List Int),vs=[.ref a]∧SqL K H a (ns.map V.int)∧ns.length≤63∧∀ H',Q (.bl true) H'
section
variable {P:Program} {w:World} {K:PySem.W.Frag} {mg:Str→Option Value} {base:Heap} {C f2:Addr} {c:Ec}
theorem Lp {f f1 f3 f4 f5 f6 f7 f8 f9 f10 f11 f12 f13:Addr} {fd fd1 fd2 fd3 fd4 fd5 fd6 fd7 fd8 fd9 fd10 fd11 fd12 fd13:FuncData} (D:Df K mg "law" oG ["script"] f fd) (B:Blt mg) (R_Roll:Cl K mg "Roll" C f2 J1) (HI:VB K C)
    (fK:Df K mg "_law_cell_at" cO ["script","k"] f1 fd1) (oM:bF P w K mg base CX0 1 f1 fd1 ["script","k"] (wQ K))
    (gR:Df K mg "_law_river" cJ ["cell"] f3 fd3) (sy:bF P w K mg base CX0 3 f3 fd3 ["cell"] (uI []))
    (cV:Dm K C "__init__" "Roll.__init__" bU ["self","below"] f2 fd2) (jc:bF P w K mg base (CXE P w) 3 f2 fd2 ["self","below"] (sX K [] C c))
    (aP:Df K mg "_law_stand" d8 ["one"] f4 fd4) (gP:bF P w K mg base CX0 2 f4 fd4 ["one"] (uH [] C))
    (cG:Df K mg "_law_draws" cM ["cell","many"] f5 fd5) (jZ:bF P w K mg base CX0 2 f5 fd5 ["cell","many"] (wM []))
    (iy:Df K mg "_law_deed" eE ["xs","many","lines","owners"] f6 fd6) (ur:bF P w K mg base CX0 2 f6 fd6 ["xs","many","lines","owners"] (wO K []))
    (iw:Df K mg "_law_done" fV ["one","deed","bit"] f7 fd7) (uq:bF P w K mg base CX0 5 f7 fd7 ["one","deed","bit"] (wN K [] C))
    (bM:Dm K C "deeds" "Roll.deeds" dD ["self"] f8 fd8) (iH:bF P w K mg base CX0 1 f8 fd8 ["self"] (jL K C "done"))
    (cA:Dm K C "holders" "Roll.holders" cu ["self"] f9 fd9) (jh:bF P w K mg base CX0 1 f9 fd9 ["self"] (jL K C "names"))
    (dJ:Df K mg "_law_plain" cB ["stand"] f10 fd10) (mR:bF P w K mg base CX0 2 f10 fd10 ["stand"] (uJ K []))
    (dU:Df K mg "_law_followed" cC ["deeds"] f11 fd11) (oA:bF P w K mg base CX0 2 f11 fd11 ["deeds"] (wL K []))
    (dR:Df K mg "replayed" gw ["below","deeds"] f12 fd12) (mD:bF P w K mg base (CXE P w) 5 f12 fd12 ["below","deeds"] (sU K [] C c))
    {f14:Addr} {fd14:FuncData} (bJ:DmD K C "file" "Roll.file" dN ["self","holder","start","most","back"] f14 fd14) (gZ:bF P w K mg base (CXE P w) 3 f14 fd14 ["self","holder","start","most","back"] (pD K [] C c))
    (fJ:Df K mg "_law_refused" cL ["below","deeds","deed"] f13 fd13) (oK:bF P w K mg base CX0 6 f13 fd13 ["below","deeds","deed"] (Av K [] C c)):bF P w K mg base CX0 7 f fd ["script"] (uK K):=by
  refine D.F.ok jN (fun vs H Q E h=>?_) (fun cdv A outer s H vs Q E hr h=>?_)
  · obtain ⟨_,_,rfl,_⟩:=h;rfl
  · obtain ⟨a,ns,rfl,hS,hlen,k⟩:=h
    have hu:=hr.units
    refine ⟨_,(au (bG (i:=1) jN.nd rfl (Or.inl rfl) (aL sy (hr.mono (by decide)) rfl gR.m gR.F.kp gR.b .nil bO (aj (aL oM (hr.mono (by decide)) rfl fK.m fK.F.kp fK.b .nil bO (aj (pv 0) (aj aq ao))) ao)))
      (au (bG (i:=2) jN.nd rfl (Or.inl rfl) (xM R_Roll.k jc (hr.mono (by decide)) rfl R_Roll.m cV.b .nil J6 (aj (fB dH rfl B.list PyProof.Rows.boot_list (aj (pv 1) ao)) ao)))
      (au (bG (i:=3) jN.nd rfl (Or.inl rfl) (aL gP (hr.mono (by decide)) rfl aP.m aP.F.kp aP.b .nil bO (aj (pv 2) ao)))
      (au (bG (i:=4) jN.nd rfl (Or.inl rfl) (gF ao))
      (au (kW PassesOwn.never rfl (jR (pU sZ (pv 0) (pQ aq) (pQ aq))) (bH (i:=5) jN.nd rfl (Or.inl rfl))
        (au (bG (i:=6) jN.nd rfl (Or.inl rfl) (aL ur (hr.mono (by decide)) rfl iy.m iy.F.kp iy.b .nil bO (aj (aL jZ (hr.mono (by decide)) rfl cG.m cG.F.kp cG.b .nil bO (aj (pv 5) (aj aq ao))) (aj (aR bf rfl B.len PySem.boot_len (aj (pv 1) ao)) (aj (aG aD (pv 3) aq (fun _ _=>rfl)) (aj (aG aD (pv 3) aq (fun _ _=>rfl)) ao))))))
        (nH (bN (gC (aL uq (hr.mono (by decide)) rfl iw.m iw.F.kp iw.b .nil bO (aj (pv 2) (aj (pv 6) (aj (bK fY (pv 5) aq) ao)))))
          (aA (aN (jz PySem.F.plainAttrs_list PySem.F.slot_list_append PySem.F.type_list_append bL (pv 4) (aj (pv 6) ao))))
          (aA (bN (aH (lQ hu) (aL gP (hr.mono (by decide)) rfl aP.m aP.F.kp aP.b .nil bO (aj (pv 2) ao)) (pv 3) (aX _))
            (aA (aY jk))
            aZ)))
        (au (aN (xO PySem.F.plainAttrs_list PySem.F.slot_list_clear PySem.F.type_list_clear pZ (gH (pv 2) R_Roll.c bM.m iH (hr.mono (by decide)) bM.b .nil bO)))
        (au (aN (xO PySem.F.plainAttrs_list PySem.F.slot_list_clear PySem.F.type_list_clear pZ (gH (pv 2) R_Roll.c cA.m jh (hr.mono (by decide)) cA.b .nil bO)))
        (au (bG (i:=3) jN.nd rfl (Or.inl rfl) (aL gP (hr.mono (by decide)) rfl aP.m aP.F.kp aP.b .nil bO (aj (pv 2) ao)))
        (aA (bN (PW.pt (pw_or (fX (gC (aL mR (hr.mono (by decide)) rfl dJ.m dJ.F.kp dJ.b .nil bO (aj (pv 3) ao)))) (pw_or1 (aH (lQ hu) (aG aD (pv 3) aq (fun _ _=>rfl)) (pv 4) (aX _)))))
          (aA (aY jk))
          aZ))))))))
      (au (bN (aH (lQ hu) (aL oA (hr.mono (by decide)) rfl dU.m dU.F.kp dU.b .nil bO (aj (pv 4) ao)) (cP (aj (aG aD (pv 3) aq (fun _ _=>rfl)) (aj (aG aD (pv 3) aq (fun _ _=>rfl)) (aj (aG aD (pv 3) aq (fun _ _=>rfl)) ao)))) (aX _))
        (aA (aY jk))
        aZ)
      (au (bG (i:=7) jN.nd rfl (Or.inl rfl) (fB dH rfl B.list PyProof.Rows.boot_list (aj (pv 4) ao)))
      (au (bG (i:=8) jN.nd rfl (Or.inl rfl) (fB dH rfl B.list PyProof.Rows.boot_list (aj (pv 1) ao)))
      (au (bG (i:=9) jN.nd rfl (Or.inl rfl) (aL mD (hr.mono (by decide)) rfl dR.m dR.F.kp dR.b .nil J6 (aj (pv 8) (aj (pv 7) ao))))
      (au (bN (PW.pt (pw_or (fX (gC (aR rQ rfl B.isinstance PyProof.Rows.boot_isinstance (aj (pv 9) (aj (Lg rfl R_Roll.m) ao))))) (pw_or (aH (lQ hu) (pv 7) (pv 4) (aX _)) (pw_or1 (aH (lQ hu) (aL gP (hr.mono (by decide)) rfl aP.m aP.F.kp aP.b .nil bO (aj (pv 9) ao)) (pv 3) (aX _))))))
        (aA (aY jk))
        aZ)
      (au (bN (fX (gC (aL mR (hr.mono (by decide)) rfl dJ.m dJ.F.kp dJ.b .nil bO (aj (aL gP (hr.mono (by decide)) rfl aP.m aP.F.kp aP.b .nil bO (aj (pv 9) ao)) ao))))
        (aA (aY jk))
        aZ)
      (au (aN (cU (pv 9) R_Roll.c bJ.m gZ (hr.mono (by decide)) bJ.b1 (.cons (show RelV .non Value.none from rfl) .nil) J6 (aj aQ (aj aq (aj aq ao)))))
      (au (bN (PW.pt (pw_or (aH (lQ hu) (pv 7) (pv 4) (aX _)) (pw_or (aH (xQ hu) (pv 8) (pv 1) (aX _)) (pw_or1 (aH (lQ hu) (gH (pv 9) R_Roll.c bM.m iH (hr.mono (by decide)) bM.b .nil bO) (bK xW (pv 4) (gF (aj (cP (aj aQ (aj aQ (aj aq (aj aq (aj (rB mG aq) ao)))))) ao))) (aX _))))))
        (aA (aY jk))
        aZ)
      (au (aN (xO PySem.F.plainAttrs_list PySem.F.slot_list_clear PySem.F.type_list_clear pZ (pv 7)))
      (au (aN (jz PySem.F.plainAttrs_list PySem.F.slot_list_append PySem.F.type_list_append bL (pv 8) (aj (rB mG aq) ao)))
      (au (bN (aH (lQ hu) (gH (pv 9) R_Roll.c bM.m iH (hr.mono (by decide)) bM.b .nil bO) (bK xW (pv 4) (gF (aj (cP (aj aQ (aj aQ (aj aq (aj aq (aj (rB mG aq) ao)))))) ao))) (aX _))
        (aA (aY jk))
        aZ)
      (aA (aY (xP (lZ (xV hu) (aL gP (hr.mono (by decide)) rfl aP.m aP.F.kp aP.b .nil bO (aj (pv 2) ao)) (pv 3) (aX _)) (uQ (aL oK (hr.mono (by decide)) rfl fJ.m fJ.F.kp fJ.b .nil bO (aj (pv 1) (aj (pv 4) (aj (cP (aj aQ (aj (aR bf rfl B.len PySem.boot_len (aj (aG aD (pv 3) aq (fun _ _=>rfl)) ao)) (aj aQ ao)))) ao)))))))))))))))))))))))),?_⟩
    have O:=Ow.SM H
    refine ⟨_,rfl,a,ns,0,rfl,hS,_,rfl,O.same.t1,O.U8 fun lv H1 rs O e=>?_⟩
    obtain ⟨r,rfl,hR,r1,r12⟩:=e
    have hIR:=wZ hR r1 (by omega)
    have hml:(((r.map V.int).length:Nat):Int)=(r.length:Int):=by rw [List.length_map]
    refine ⟨_,rfl,lv,_,rfl,.inl (O.sq 0),fun lb hlb=>?_⟩
    walk_at "nw"
    intro x dx nx ndx nex
    have O:=(O.mk' ndx (o:=.own x) rfl).mk' (a:=x) (o:=.ins C dx []) (by rw [bh nex.symm];exact nx) rfl
    refine ⟨x,dx,lb,H,_,r,rfl,O,O.sq 2,by omega,fun _ A H5 eA O5=>⟨rfl,?_⟩,fun z=>by rw [hIR] at z;cases z⟩
    subst eA
    clear O nx ndx nex
    have O:Ow [] H H5 (RX C A [] r 0 [] [] []++[(lv,.lst (r.map V.int))]):=O5.sub (List.Sublist.append_left (List.sublist_cons_self _ _) _)
    clear O5
    refine ⟨_,rfl,A,[],H,_,r,0,[],[],[],rfl,O,v8.nil,fun tS l1 l2 l3 H6 O=>?_⟩
    refine ⟨szl,fun lt hlt=>?_⟩
    walk_at "nw"
    refine ⟨_,rfl,1,rfl,41,rfl,a,_,rfl,O.same.seq hS,fun lq hlq=>?_⟩
    walk_at "nw"
    rw [show yM (ns.map V.int) (some 1) (some 41)=((ns.drop 1).take 40).map V.int from RQ ns 1 41] at O
    have hql:((ns.drop 1).take 40).length≤40:=by rw [List.length_take];omega
    generalize (ns.drop 1).take 40=qs at O hql
    have O:=Ow.front [(lq,.lst (qs.map V.int)),(lt,.lst []),(tS,.tup [.int 0,.ref l1,.ref l2,.ref l3]),(l3,.lst []),(l2,.lst []),(l1,.lst [])] (RX C A [] r 0 [] [] []) [(lv,.lst (r.map V.int))] O
    refine ⟨lq,rfl,⟨_,O.sq 6⟩,?_⟩
    refine lR (K:=K) (xs:=qs.map V.int) (fun i σ H'=>Iv (∃ (Hb:Hp) (S:RS) (us vs vt:List V) (tS l1 l2 l3:Addr) (v5 v6:Option V),σ=[some (.ref a),some (.ref lv),some (.ref A.p),some (.ref tS),some (.ref lt),v5,v6,none,none,none] ∧
      Ow [] Hb H' (RX C A [] r S.day us S.ns vs++[(lq,.lst (qs.map V.int)),(lt,.lst vt),(tS,.tup [.int S.day,.ref l1,.ref l2,.ref l3]),(l3,.lst vs),(l2,.lst (S.ns.map V.str)),(l1,.lst us),(lv,.lst (r.map V.int))])∧aJ [] H Hb∧cW K Hb us (S.ls.map oF)∧cW K Hb vs (S.ds.map iQ)∧cW K Hb vt (S.ds.map iQ)∧Ak r S i))
      ⟨trivial,H,RS.new,[],[],[],tS,l1,l2,l3,none,none,rfl,O,aJ.refl (TabsOk.nil H),.nil,.nil,.nil,⟨⟨hR,by omega,rfl,by decide,by decide,by decide,v8.nil⟩,rfl,by decide,(fun d hd=>nomatch hd),(fun d hd=>nomatch hd),by decide,by decide,by decide⟩⟩ (fun i σ H' _ ⟨_,_,_,_,_,_,_,_,_,_,_,_,_,O,_⟩=>O.sq 6) ?_ ?_
    · clear O
      rintro i y σ H7 hy ⟨-,Hb,S,us,vs,vt,tS,l1,l2,l3,v5,v6,rfl,O,s0,d0,d1,d2,hA⟩
      obtain ⟨z,hz,rfl⟩:=ints_get hy
      have hi:=(List.getElem?_eq_some_iff.mp hz).1
      have hp:=hA.rp
      have hvt:vt.length=S.ds.length:=by rw [d2.length,List.length_map]
      have hle:=hA.le
      refine ⟨_,rfl,z,8,rfl,by decide,O.same.t1,O.U8 fun lx H8 xs O e=>?_⟩
      subst e
      refine ⟨_,rfl,lv,_,rfl,.inl (O.sq 13),_,rfl,tS,_,1,_,rfl,rfl,O.sqT 9,rfl,_,rfl,tS,_,2,_,rfl,rfl,O.sqT 9,rfl,lx,l1,l2,dvs z 8,r.length,us,S.ls,S.ns,congrArg (fun z=>[V.ref lx,V.int z,V.ref l1,V.ref l2]) hml,O.sq 0,ql z 8,fun x hx=>?_,O.sq 12,d0.mo O.same,O.sq 11,hp.nn,hA.na,hp.l60,O.same.t1,fun td ad d H9 OD hok=>?_⟩
      · obtain ⟨j,hj⟩:=List.getElem?_of_mem hx
        have hj8:=(List.getElem?_eq_some_iff.mp hj).1
        rw [ql] at hj8
        rw [vg hj8] at hj
        rw [← Option.some.inj hj];exact Va _ _
      obtain ⟨Hc,O,sc,dd⟩:=RN (K:=K) (O.join OD)
      clear OD
      have O:=O.tail
      have d0:=d0.mo sc
      have d1:=d1.mo sc
      have d2:=d2.mo sc
      have s0:=s0.trans sc
      clear sc
      refine ⟨fun σ H'=>Iv (∃ (Hd:Hp) (S:RS) (us vs vt:List V),σ=[some (.ref a),some (.ref lv),some (.ref A.p),some (.ref tS),some (.ref lt),some (.int z),some (.ref td),none,none,none] ∧
        Ow [] Hd H' (RX C A [] r S.day us S.ns vs++[(lq,.lst (qs.map V.int)),(lt,.lst vt),(lv,.lst (r.map V.int))])∧aJ [] H Hd∧cW K Hd us (S.ls.map oF)∧cW K Hd vs (S.ds.map iQ)∧cW K Hd vt (S.ds.map iQ)∧Ak r S (i + 1)),?_,?_⟩
      · have cutB:∀ {X:List (Addr × HO)} {Hx Hy:Hp} {vt:List V},Ow [] Hx Hy (X++[(lq,.lst (qs.map V.int)),(lt,.lst vt),(tS,.tup [.int S.day,.ref l1,.ref l2,.ref l3]),(l3,.lst vs),(l2,.lst (S.ns.map V.str)),(l1,.lst us),(lv,.lst (r.map V.int))])→Ow [] Hx Hy (X++[(lq,.lst (qs.map V.int)),(lt,.lst vt),(lv,.lst (r.map V.int))]):=fun O =>
          O.sub (List.Sublist.append_left (List.Sublist.cons₂ _ (List.Sublist.cons₂ _ (List.sublist_append_right [_,_,_,_] _))) _)
        refine ⟨_,rfl,_,rfl,_,rfl,_,_,rfl,rfl,(by show (0:Int)<2;decide),A,[],Hc,_,r,S,td,d,z % 2,rfl,⟨us,vs,O,d0,d1⟩,hp,dd,hok,fun S' hs Hd H10 sd ra'=>?_,fun k hk H10 s10=>?_⟩
        · clear O
          obtain ⟨us',vs',O,d0',d1'⟩:=ra'
          refine ⟨_,rfl,jK ?_⟩
          refine ⟨_,rfl,.inl ⟨rfl,_,O.sq 7⟩,_,rfl,lt,_,_,rfl,rfl,O.get 7,aV (by omega),?_⟩
          generalize hE:upd _ _ _=Hn
          have O:=Ow.mV O 7 rfl hE rfl
          clear hE
          refine ⟨trivial,Hd,S',us',vs',vt++[V.ref td],rfl,cutB (X:=RX C A [] r S'.day us' S'.ns vs') O,s0.trans sd,d0',d1',?_,hA.step (by omega) hs hok⟩
          rw [pB hs,List.map_append]
          exact (d2.mo sd).append (.cons (dd.mo sd) .nil)
        · have O:=O.jg s10
          refine ⟨_,rfl,jG ?_⟩
          refine ⟨_,rfl,A,[],Hc,_,r,S.day,us,S.ns,vs,rfl,O,v8.nil,fun t9 m1 m2 m3 H11 O=>?_⟩
          refine ⟨_,rfl,_,_,Den.stand (S:=S) (O.sqT 0) (O.sq 3) (d0.mo O.same) (O.sq 2) (O.sq 1) (d1.mo O.same),Den.stand (S:=S) (O.sqT 12) (O.sq 15) (d0.mo O.same) (O.sq 14) (O.sq 13) (d1.mo O.same),(Sh.stand hA.na hA.ok).ok (by decide),(Sh.stand hA.na hA.ok).ok (by decide),_,rfl,?_⟩
          rw [if_pos rfl,iR (Sh.stand hA.na hA.ok)]
          refine jG ?_
          exact ⟨trivial,Hc,S,us,vs,vt,rfl,cutB (X:=RX C A [] r S.day us S.ns vs) O.tail.tail.tail.tail,s0,d0,d1,d2,hA.up (by omega)⟩
      clear O d0 d1 d2 s0 dd hvt hle hp hA
      rintro σ H10 ⟨-,Hd,S,us,vs,vt,rfl,O,s0,d0,d1,d2,hA⟩
      have hp:=hA.rp
      have hnn:=hp.nn
      have h60:=hp.l60
      refine ⟨_,rfl,A.p,A.dx,_,rfl,O.get 0,rfl,A.p,A.dx,A.lo,_,_,rfl,O.get 0,rfl,O.sq 5,fun lz hlz=>?_⟩
      walk_at "nw"
      refine ⟨.inl ⟨rfl,_,O.sq 0⟩,pX O 0 rfl fun H11 O=>?_⟩
      have O:=O.tail
      refine ⟨_,rfl,A.p,A.dx,_,rfl,O.get 0,rfl,A.p,A.dx,A.ln,_,_,rfl,O.get 0,rfl,O.sq 4,fun lz hlz=>?_⟩
      walk_at "nw"
      refine ⟨.inl ⟨rfl,_,O.sq 0⟩,pX O 0 rfl fun H12 O=>?_⟩
      have O:=O.tail
      refine ⟨_,rfl,A,[],Hd,_,r,S.day,us,S.ns,vs,rfl,O,v8.nil,fun tS l1 l2 l3 H13 O=>?_⟩
      refine ⟨_,rfl,tS,l1,l2,l3,S.day,us,S.ls,S.ns,vs,S.ds,rfl,O.sqT 0,O.get 3,d0.mo O.same,O.get 2,O.get 1,d1.mo O.same,by omega,O.same.t1,fun H14 s14=>⟨_,rfl,jG ?_⟩⟩
      have O:=O.jg s14
      refine ⟨_,rfl,tS,_,3,_,rfl,rfl,O.sqT 0,rfl,_,rfl,_,_,.list (O.sq 1) (d1.mo O.same),.list (O.sq 11) (d2.mo O.same),(Sh.vU hA.ok).ok (by decide),(Sh.vU hA.ok).ok (by decide),_,rfl,?_⟩
      rw [if_pos rfl,iR (Sh.vU hA.ok)]
      refine jG ?_
      refine ⟨trivial,Hd,S,us,vs,vt,tS,l1,l2,l3,_,_,rfl,?_,s0,d0,d1,d2,hA⟩
      exact Ow.behind [(tS,.tup [.int S.day,.ref l1,.ref l2,.ref l3]),(l3,.lst vs),(l2,.lst (S.ns.map V.str)),(l1,.lst us)] (RX C A [] r S.day us S.ns vs) [(lq,.lst (qs.map V.int)),(lt,.lst vt)] [(lv,.lst (r.map V.int))] O
    clear O
    rintro σ H7 ⟨-,Hb,S,us,vs,vt,tS,l1,l2,l3,v5,v6,rfl,O,s0,d0,d1,d2,hA⟩
    rw [List.length_map] at hA
    have hA:=hA.up hql
    have hp:=hA.rp
    have hnn:=hp.nn
    have h60:=hp.l60
    have hle:=hA.le
    have hvt:vt.length=S.ds.length:=by rw [d2.length,List.length_map]
    have shS:=Sh.stand hA.na hA.ok
    have shD:=Sh.vU hA.ok
    have sh3:=Sh.K5 hA.na
    refine ⟨_,rfl,r,lt,vt,S.ds,S,rfl,O.sq 7,d2.mo O.same,hA.re,O.same.t1,fun tf H8 s8 dF=>?_⟩
    have O:=O.jg s8
    refine ⟨_,rfl,tS,_,0,_,rfl,rfl,O.sqT 8,rfl,_,rfl,tS,_,1,_,rfl,rfl,O.sqT 8,rfl,_,rfl,tS,_,2,_,rfl,rfl,O.sqT 8,rfl,szl,fun tg htg=>?_⟩
    generalize hE:upd _ _ _=Hn
    have dF:Den K Hn (.ref tf) (.tuple [.int S.day,vV S.ls,.list (S.ns.map PyData.str)]):=dF.mo (hE ▸ (aJ.refl O.same.t1).upd htg (.inl htg))
    replace O:=Ow.mkE O htg hE rfl
    clear hE
    have dG:Den K Hn (.ref tg) (.tuple [.int S.day,vV S.ls,.list (S.ns.map PyData.str)]):=.tuple (O.sqT 0) (.cons (.int _) (.cons (.list (O.sq 12) (d0.mo O.same)) (.cons (.list (O.sq 11) (cW.strs _)) .nil)))
    refine ⟨_,_,dF,dG,sh3.ok (by decide),sh3.ok (by decide),_,rfl,?_⟩
    rw [if_pos rfl,iR sh3]
    refine jG ?_
    have O:=O.tail
    clear dF dG s8
    refine ⟨_,rfl,lt,_,rfl,.inl (O.sq 7),fun lh hlh=>?_⟩
    walk_at "nw"
    refine ⟨_,rfl,lv,_,rfl,.inl (O.sq 13),fun lw hlw=>?_⟩
    walk_at "nw"
    refine ⟨_,rfl,_,rfl,lw,lh,Hb,_,r,vt,S.ds,rfl,O,O.sq 0,by omega,(fun Hb H' X s O=>SqL.of (O.at_ _ (List.mem_append_right _ (List.mem_cons_of_mem _ List.mem_cons_self)))),d2,hA.ok,by omega,(fun _=>hR),fun _ S' e A2 Hc H9 sc ra2=>?_,(fun _ k e=>by rw [hA.re] at e;cases e),fun z=>by rw [hIR] at z;cases z⟩
    rw [hA.re] at e
    cases e
    clear O
    obtain ⟨us2,vs2,O,e0,e1⟩:=ra2
    have d0:=d0.mo sc
    have d1:=d1.mo sc
    have d2:=d2.mo sc
    clear s0 sc
    refine ⟨_,rfl,_,_,_,true,rfl,.ins (O.get 0) R_Roll.c HI.ha HI.hn HI.ht HI.hm,HI.kt,_,rfl,jG ?_⟩
    refine ⟨_,rfl,_,rfl,_,_,.list (O.sq 7) (d2.mo O.same),.list (O.sq 15) (d2.mo O.same),shD.ok (by decide),shD.ok (by decide),_,rfl,?_⟩
    rw [if_pos rfl,iR shD]
    refine jG ?_
    refine ⟨_,rfl,A2,[],Hc,_,r,S.day,us2,S.ns,vs2,rfl,O,v8.nil,fun t9 m1 m2 m3 H11 O=>?_⟩
    refine ⟨_,rfl,_,_,Den.stand (S:=S) (O.sqT 0) (O.sq 3) (e0.mo O.same) (O.sq 2) (O.sq 1) (e1.mo O.same),Den.stand (S:=S) (O.sqT 20) (O.sq 23) (d0.mo O.same) (O.sq 22) (O.sq 21) (d1.mo O.same),shS.ok (by decide),shS.ok (by decide),_,rfl,?_⟩
    rw [if_pos rfl,iR shS]
    refine jG ?_
    have O:=O.tail.tail.tail.tail
    refine ⟨_,rfl,A2,[],Hc,_,r,S.day,us2,S.ns,vs2,rfl,O,v8.nil,fun t9 m1 m2 m3 H12 O=>?_⟩
    refine ⟨t9,m1,m2,m3,S.day,us2,S.ls,S.ns,vs2,S.ds,rfl,O.sqT 0,O.get 3,e0.mo O.same,O.get 2,O.get 1,e1.mo O.same,by omega,O.same.t1,fun H13 s13=>⟨_,rfl,jG ?_⟩⟩
    have O:=(O.jg s13).tail.tail.tail.tail
    clear s13
    have hfi:=RK hA (by omega) r1
    refine ⟨_,rfl,A2.p,A2.dx,_,rfl,O.get 0,rfl,A2,[],Hc,_,r,S,"a",0,1,-1,.non,rfl,.inl ⟨rfl,rfl⟩,⟨us2,vs2,O,e0,e1⟩,hp,KC,fun S2 e Hd H14 sd ra=>?_,fun k e=>by rw [hfi] at e;cases e⟩
    rw [hfi] at e
    cases e
    clear O e0 e1
    obtain ⟨us3,vs3,O,e0,e1⟩:=ra
    have d0:=d0.mo sd
    have d1:=d1.mo sd
    have d2:=d2.mo sd
    clear sd
    have shE:Sh 3 (.list ((S.ds++[je.file "a" 0 1 (-1)]).map iQ)):=Sh.vU fun e he=>by
      rcases List.mem_append.mp he with h | h
      · exact hA.ok e h
      · rw [List.mem_singleton.mp h];exact KC
    refine ⟨_,rfl,_,rfl,_,_,.list (O.sq 7) (d2.mo O.same),.list (O.sq 15) (d2.mo O.same),shD.ok (by decide),shD.ok (by decide),_,rfl,?_⟩
    rw [if_pos rfl,iR shD]
    refine jG ?_
    refine ⟨_,rfl,_,rfl,lw,lv,r,r,rfl,rfl,O.sq 6,O.sq 20,_,rfl,?_⟩
    rw [if_pos rfl]
    refine ifN (ifD (fun _=>?_) (fun h=>absurd rfl h))
    refine ⟨_,rfl,A2.p,A2.dx,_,rfl,O.get 0,rfl,A2.p,A2.dx,A2.lo,_,_,rfl,O.get 0,rfl,O.sq 5,fun n1 hn1=>?_⟩
    walk_at "nw"
    refine ⟨_,rfl,1,rfl,szl,fun n2 hn2=>?_⟩
    walk_at "nw"
    refine ⟨szl,fun n3 hn3=>?_⟩
    walk_at "nw"
    refine ⟨lt,n3,_,_,rfl,rfl,O.get 18,O.get 0,m6 (by simp only [List.length_cons,List.length_nil];omega),fun n4 hn4=>?_⟩
    walk_at "nw"
    have g2:Den K Hn (.ref n4) (.list ((S.ds++[je.file "a" 0 1 (-1)]).map iQ)):=.list (O.sq 0) (by rw [List.map_append];exact (d2.mo O.same).append (.cons (.tuple (O.sqT 2) (.cons (.str _) (.cons (.str _) (.cons (.int _) (.cons (.int _) (.cons (.int _) .nil)))))) .nil))
    refine ⟨_,_,.list (O.sq 3) (e1.mo O.same),g2,shE.ok (by decide),shE.ok (by decide),_,rfl,?_⟩
    rw [if_pos rfl,iR shE]
    refine jG ?_
    clear g2
    have O:=O.tail.tail.tail.tail
    refine ⟨_,rfl,.inl ⟨rfl,_,O.sq 7⟩,pX O 7 rfl fun H15 O=>?_⟩
    refine ⟨_,rfl,.inl ⟨rfl,_,O.sq 6⟩,1,rfl,lw,_,_,rfl,rfl,O.get 6,aV (by rw [List.length_map];omega),?_⟩
    generalize hE:upd _ _ _=Hn
    have O:=Ow.mV O 6 rfl hE rfl
    clear hE
    refine ⟨_,rfl,A2.p,A2.dx,_,rfl,O.get 0,rfl,A2.p,A2.dx,A2.lo,_,_,rfl,O.get 0,rfl,O.sq 5,fun n1 hn1=>?_⟩
    walk_at "nw"
    refine ⟨_,rfl,1,rfl,szl,fun n2 hn2=>?_⟩
    walk_at "nw"
    refine ⟨szl,fun n3 hn3=>?_⟩
    walk_at "nw"
    refine ⟨lt,n3,_,_,rfl,rfl,O.get 18,O.get 0,m6 (by simp only [List.length_cons,List.length_nil];omega),fun n4 hn4=>?_⟩
    walk_at "nw"
    have g2:Den K Hn (.ref n4) (.list ((S.ds++[je.file "a" 0 1 (-1)]).map iQ)):=.list (O.sq 0) (by rw [List.map_append];exact (d2.mo O.same).append (.cons (.tuple (O.sqT 2) (.cons (.str _) (.cons (.str _) (.cons (.int _) (.cons (.int _) (.cons (.int _) .nil)))))) .nil))
    refine ⟨_,_,.list (O.sq 3) (e1.mo O.same),g2,shE.ok (by decide),shE.ok (by decide),_,rfl,?_⟩
    rw [if_pos rfl,iR shE]
    refine jG ?_
    clear g2
    have O:=O.tail.tail.tail.tail
    have hul:us.length=S.ls.length:=by rw [d0.length,List.length_map]
    have O:Ow [] Hd Hn (RX C A [] r S.day us S.ns vs++[(lq,.lst (qs.map V.int)),(lt,.lst vt),(tS,.tup [.int S.day,.ref l1,.ref l2,.ref l3]),(l3,.lst vs),(l2,.lst (S.ns.map V.str)),(l1,.lst us),(lv,.lst (r.map V.int))]):=O.sub (List.sublist_append_right [_,_,_,_,_,_,_,_] _)
    refine ⟨_,rfl,A,[],Hd,_,r,S.day,us,S.ns,vs,rfl,O,v8.nil,fun t9 m1 m2 m3 H17 O=>?_⟩
    refine ⟨_,rfl,_,_,Den.stand (S:=S) (O.sqT 0) (O.sq 3) (d0.mo O.same) (O.sq 2) (O.sq 1) (d1.mo O.same),Den.stand (S:=S) (O.sqT 12) (O.sq 15) (d0.mo O.same) (O.sq 14) (O.sq 13) (d1.mo O.same),shS.ok (by decide),shS.ok (by decide),?_⟩
    rw [if_neg Bool.false_ne_true,iR shS]
    refine ⟨_,rfl,jK ?_⟩
    refine ⟨_,rfl,_,rfl,_,rfl,tS,_,1,_,rfl,rfl,O.sqT 12,rfl,l1,_,rfl,.inl (O.sq 15),szl,fun n5 hn5=>?_⟩
    walk_at "nw"
    rw [hul] at O
    obtain ⟨He,O,se,e5⟩:=O.frz
    have O:=(O.pull 16 rfl).pull 12 rfl
    refine ⟨lv,lt,n5,He,_,r,vt,S.ds,.drop (S.ls.length:Int) "a",S,rfl,O,by omega,d2.mo se,.tuple (SqT.of e5) (.cons (.str _) (.cons (.int _) (.cons (.str _) .nil))),hA.ok,KC,by omega,hIR,hR,hA.re,vB (by omega),fun H'=>k H'⟩
end
theorem gY {K:PySem.W.Frag} {x qual:Str} {st:Stmt} {f:Addr} {fd:FuncData} {n0:Str} (F:Fun K x qual st f fd) (h:∀ (kV doc pm:Value) (an:Option Addr) (cdv ct u0:Value),bindArgs (PySem.W.fnOf x qual (aC st) (aB st) (ak st) .none kV doc pm an cdv ct) ⟨[u0],[]⟩=pure (([n0]:List Str).zip [u0])):Binds K fd [n0] [] :=
  F.binds (ps:=[n0]) fun kV doc pm an cdv ct us hl=>match us,hl with | [u0],_=>h kV doc pm an cdv ct u0
theorem iZ {K:PySem.W.Frag} {x qual:Str} {st:Stmt} {f:Addr} {fd:FuncData} {n0 n1:Str} (F:Fun K x qual st f fd) (h:∀ (kV doc pm:Value) (an:Option Addr) (cdv ct u0 u1:Value),bindArgs (PySem.W.fnOf x qual (aC st) (aB st) (ak st) .none kV doc pm an cdv ct) ⟨[u0,u1],[]⟩=pure (([n0,n1]:List Str).zip [u0,u1])):Binds K fd [n0,n1] [] :=
  F.binds (ps:=[n0,n1]) fun kV doc pm an cdv ct us hl=>match us,hl with | [u0,u1],_=>h kV doc pm an cdv ct u0 u1
theorem n6 {K:PySem.W.Frag} {x qual:Str} {st:Stmt} {f:Addr} {fd:FuncData} {n0 n1 n2:Str} (F:Fun K x qual st f fd) (h:∀ (kV doc pm:Value) (an:Option Addr) (cdv ct u0 u1 u2:Value),bindArgs (PySem.W.fnOf x qual (aC st) (aB st) (ak st) .none kV doc pm an cdv ct) ⟨[u0,u1,u2],[]⟩=pure (([n0,n1,n2]:List Str).zip [u0,u1,u2])):Binds K fd [n0,n1,n2] [] :=
  F.binds (ps:=[n0,n1,n2]) fun kV doc pm an cdv ct us hl=>match us,hl with | [u0,u1,u2],_=>h kV doc pm an cdv ct u0 u1 u2
theorem vA {K:PySem.W.Frag} {x qual:Str} {st:Stmt} {f:Addr} {fd:FuncData} {n0 n1 n2 n3:Str} (F:Fun K x qual st f fd) (h:∀ (kV doc pm:Value) (an:Option Addr) (cdv ct u0 u1 u2 u3:Value),bindArgs (PySem.W.fnOf x qual (aC st) (aB st) (ak st) .none kV doc pm an cdv ct) ⟨[u0,u1,u2,u3],[]⟩=pure (([n0,n1,n2,n3]:List Str).zip [u0,u1,u2,u3])):Binds K fd [n0,n1,n2,n3] [] :=
  F.binds (ps:=[n0,n1,n2,n3]) fun kV doc pm an cdv ct us hl=>match us,hl with | [u0,u1,u2,u3],_=>h kV doc pm an cdv ct u0 u1 u2 u3
theorem RV {K:PySem.W.Frag} {x qual:Str} {st:Stmt} {f:Addr} {fd:FuncData} {n0 n1 n2 n3 n4:Str} (F:Fun K x qual st f fd) (h:∀ (kV doc pm:Value) (an:Option Addr) (cdv ct u0 u1 u2 u3 u4:Value),bindArgs (PySem.W.fnOf x qual (aC st) (aB st) (ak st) .none kV doc pm an cdv ct) ⟨[u0,u1,u2,u3,u4],[]⟩=pure (([n0,n1,n2,n3,n4]:List Str).zip [u0,u1,u2,u3,u4])):Binds K fd [n0,n1,n2,n3,n4] [] :=
  F.binds (ps:=[n0,n1,n2,n3,n4]) fun kV doc pm an cdv ct us hl=>match us,hl with | [u0,u1,u2,u3,u4],_=>h kV doc pm an cdv ct u0 u1 u2 u3 u4
theorem all_mk {l:PySem.W.OpenLaw} {w:World} {K:PySem.W.Frag} {h:Heap} {mg:Str→Option Value} {fa f0 f1 f2 f3 f4 f5 f6 f7 f8 f9 f10 f11 f12 f13 f14 f15 f16 f17 f18 f19 f20 f21 f22 f23 f24 f25 f26 f27 f28 cR_Roll fm_Roll___init__ fm_Roll_today fm_Roll_roll fm_Roll_holders fm_Roll_deeds fm_Roll_turn fm_Roll_file dT_Roll_file fm_Roll_sell fm_Roll_part fm_Roll_drop fm_Roll_move fm_Roll_look_move fm_Roll_lapse fm_Roll_enter fm_Roll_is_alone fm_Roll_look_at_number fm_Roll_look_at_holder fm_Roll_look_at_room cX_SluiceError cX_NoNumber cX_NotYours cX_NoHolder cX_NoLicence cX_TooMuch cX_NotAlone cX_Full cX_NoRiver:Addr} (X:K.In h) (G:h.Ns mainGlobals mg) (hfa:mg "law"=some (.ref fa))
    {odM0 anM0 odM1 anM1 odM2 anM2 odM3 anM3 odM4 anM4 odM5 anM5 odM6 anM6 odM7 anM7 odM8 anM8 odM9 anM9 odM10 anM10 odM11 anM11 odM12 anM12 odM13 anM13 odM14 anM14 odM15 anM15 odM16 anM16 odM17 anM17:Option Addr} {slM0 slM1 slM2 slM3 slM4 slM5 slM6 slM7 slM8 slM9 slM10 slM11 slM12 slM13 slM14 slM15 slM16 slM17:Array (Option Value)} {ocM0 kVM0 dcM0 pmM0 cdM0 ctM0 ocM1 kVM1 dcM1 pmM1 cdM1 ctM1 ocM2 kVM2 dcM2 pmM2 cdM2 ctM2 ocM3 kVM3 dcM3 pmM3 cdM3 ctM3 ocM4 kVM4 dcM4 pmM4 cdM4 ctM4 ocM5 kVM5 dcM5 pmM5 cdM5 ctM5 ocM6 kVM6 dcM6 pmM6 cdM6 ctM6 ocM7 kVM7 dcM7 pmM7 cdM7 ctM7 ocM8 kVM8 dcM8 pmM8 cdM8 ctM8 ocM9 kVM9 dcM9 pmM9 cdM9 ctM9 ocM10 kVM10 dcM10 pmM10 cdM10 ctM10 ocM11 kVM11 dcM11 pmM11 cdM11 ctM11 ocM12 kVM12 dcM12 pmM12 cdM12 ctM12 ocM13 kVM13 dcM13 pmM13 cdM13 ctM13 ocM14 kVM14 dcM14 pmM14 cdM14 ctM14 ocM15 kVM15 dcM15 pmM15 cdM15 ctM15 ocM16 kVM16 dcM16 pmM16 cdM16 ctM16 ocM17 kVM17 dcM17 pmM17 cdM17 ctM17:Value} {oT_Roll_file:Obj}
    {od0 an0 od1 an1 od2 an2 od3 an3 od4 an4 od5 an5 od6 an6 od7 an7 od8 an8 od9 an9 od10 an10 od11 an11 od12 an12 od13 an13 od14 an14 od15 an15 od16 an16 od17 an17 od18 an18 od19 an19 od20 an20 od21 an21 od22 an22 od23 an23 od24 an24 od25 an25 od26 an26 od27 an27 od28 an28:Option Addr} {sl0 sl1 sl2 sl3 sl4 sl5 sl6 sl7 sl8 sl9 sl10 sl11 sl12 sl13 sl14 sl15 sl16 sl17 sl18 sl19 sl20 sl21 sl22 sl23 sl24 sl25 sl26 sl27 sl28:Array (Option Value)} {oc0 kV0 dc0 pm0 cd0 ct0 oc1 kV1 dc1 pm1 cd1 ct1 oc2 kV2 dc2 pm2 cd2 ct2 oc3 kV3 dc3 pm3 cd3 ct3 oc4 kV4 dc4 pm4 cd4 ct4 oc5 kV5 dc5 pm5 cd5 ct5 oc6 kV6 dc6 pm6 cd6 ct6 oc7 kV7 dc7 pm7 cd7 ct7 oc8 kV8 dc8 pm8 cd8 ct8 oc9 kV9 dc9 pm9 cd9 ct9 oc10 kV10 dc10 pm10 cd10 ct10 oc11 kV11 dc11 pm11 cd11 ct11 oc12 kV12 dc12 pm12 cd12 ct12 oc13 kV13 dc13 pm13 cd13 ct13 oc14 kV14 dc14 pm14 cd14 ct14 oc15 kV15 dc15 pm15 cd15 ct15 oc16 kV16 dc16 pm16 cd16 ct16 oc17 kV17 dc17 pm17 cd17 ct17 oc18 kV18 dc18 pm18 cd18 ct18 oc19 kV19 dc19 pm19 cd19 ct19 oc20 kV20 dc20 pm20 cd20 ct20 oc21 kV21 dc21 pm21 cd21 ct21 oc22 kV22 dc22 pm22 cd22 ct22 oc23 kV23 dc23 pm23 cd23 ct23 oc24 kV24 dc24 pm24 cd24 ct24 oc25 kV25 dc25 pm25 cd25 ct25 oc26 kV26 dc26 pm26 cd26 ct26 oc27 kV27 dc27 pm27 cd27 ct27 oc28 kV28 dc28 pm28 cd28 ct28:Value} {t0 t1 t2 t3 t4 t5 t6:Tok}
    (a0:PySem.W.nsIn K mainGlobals "is_water"=some (some (.ref f0))) (l0:K.lookup f0=some ⟨oc0,od0,.func (PySem.W.fnOf "is_water" "is_water" (aC fG) (aB fG) (ak fG) .none kV0 dc0 pm0 an0 cd0 ct0),sl0⟩) (c0:PySem.W.codeIn K cd0 "is_water"=true) (k0:PySem.W.keepIn K (.ref f0)=true)
    (a1:PySem.W.nsIn K mainGlobals "is_name"=some (some (.ref f1))) (l1:K.lookup f1=some ⟨oc1,od1,.func (PySem.W.fnOf "is_name" "is_name" (aC gV) (aB gV) (ak gV) .none kV1 dc1 pm1 an1 cd1 ct1),sl1⟩) (c1:PySem.W.codeIn K cd1 "is_name"=true) (k1:PySem.W.keepIn K (.ref f1)=true)
    (a2:PySem.W.nsIn K mainGlobals "comes_to_mouth"=some (some (.ref f2))) (l2:K.lookup f2=some ⟨oc2,od2,.func (PySem.W.fnOf "comes_to_mouth" "comes_to_mouth" (aC bW) (aB bW) (ak bW) .none kV2 dc2 pm2 an2 cd2 ct2),sl2⟩) (c2:PySem.W.codeIn K cd2 "comes_to_mouth"=true) (k2:PySem.W.keepIn K (.ref f2)=true)
    (a3:PySem.W.nsIn K mainGlobals "is_river"=some (some (.ref f3))) (l3:K.lookup f3=some ⟨oc3,od3,.func (PySem.W.fnOf "is_river" "is_river" (aC fH) (aB fH) (ak fH) .none kV3 dc3 pm3 an3 cd3 ct3),sl3⟩) (c3:PySem.W.codeIn K cd3 "is_river"=true) (k3:PySem.W.keepIn K (.ref f3)=true)
    (a4:PySem.W.nsIn K mainGlobals "way_of"=some (some (.ref f4))) (l4:K.lookup f4=some ⟨oc4,od4,.func (PySem.W.fnOf "way_of" "way_of" (aC jf) (aB jf) (ak jf) .none kV4 dc4 pm4 an4 cd4 ct4),sl4⟩) (c4:PySem.W.codeIn K cd4 "way_of"=true) (k4:PySem.W.keepIn K (.ref f4)=true)
    (a5:PySem.W.nsIn K mainGlobals "is_licence"=some (some (.ref f5))) (l5:K.lookup f5=some ⟨oc5,od5,.func (PySem.W.fnOf "is_licence" "is_licence" (aC dh) (aB dh) (ak dh) .none kV5 dc5 pm5 an5 cd5 ct5),sl5⟩) (c5:PySem.W.codeIn K cd5 "is_licence"=true) (k5:PySem.W.keepIn K (.ref f5)=true)
    (a6:PySem.W.nsIn K mainGlobals "day_filed"=some (some (.ref f6))) (l6:K.lookup f6=some ⟨oc6,od6,.func (PySem.W.fnOf "day_filed" "day_filed" (aC fO) (aB fO) (ak fO) .none kV6 dc6 pm6 an6 cd6 ct6),sl6⟩) (c6:PySem.W.codeIn K cd6 "day_filed"=true) (k6:PySem.W.keepIn K (.ref f6)=true)
    (a7:PySem.W.nsIn K mainGlobals "most_of"=some (some (.ref f7))) (l7:K.lookup f7=some ⟨oc7,od7,.func (PySem.W.fnOf "most_of" "most_of" (aC fM) (aB fM) (ak fM) .none kV7 dc7 pm7 an7 cd7 ct7),sl7⟩) (c7:PySem.W.codeIn K cd7 "most_of"=true) (k7:PySem.W.keepIn K (.ref f7)=true)
    (a8:PySem.W.nsIn K mainGlobals "with_start"=some (some (.ref f8))) (l8:K.lookup f8=some ⟨oc8,od8,.func (PySem.W.fnOf "with_start" "with_start" (aC dY) (aB dY) (ak dY) .none kV8 dc8 pm8 an8 cd8 ct8),sl8⟩) (c8:PySem.W.codeIn K cd8 "with_start"=true) (k8:PySem.W.keepIn K (.ref f8)=true)
    (a9:PySem.W.nsIn K mainGlobals "with_most"=some (some (.ref f9))) (l9:K.lookup f9=some ⟨oc9,od9,.func (PySem.W.fnOf "with_most" "with_most" (aC cT) (aB cT) (ak cT) .none kV9 dc9 pm9 an9 cd9 ct9),sl9⟩) (c9:PySem.W.codeIn K cd9 "with_most"=true) (k9:PySem.W.keepIn K (.ref f9)=true)
    (a10:PySem.W.nsIn K mainGlobals "look_at_name"=some (some (.ref f10))) (l10:K.lookup f10=some ⟨oc10,od10,.func (PySem.W.fnOf "look_at_name" "look_at_name" (aC bR) (aB bR) (ak bR) .none kV10 dc10 pm10 an10 cd10 ct10),sl10⟩) (c10:PySem.W.codeIn K cd10 "look_at_name"=true) (k10:PySem.W.keepIn K (.ref f10)=true)
    (a11:PySem.W.nsIn K mainGlobals "do_anew"=some (some (.ref f11))) (l11:K.lookup f11=some ⟨oc11,od11,.func (PySem.W.fnOf "do_anew" "do_anew" (aC iB) (aB iB) (ak iB) .none kV11 dc11 pm11 an11 cd11 ct11),sl11⟩) (c11:PySem.W.codeIn K cd11 "do_anew"=true) (k11:PySem.W.keepIn K (.ref f11)=true)
    (a12:PySem.W.nsIn K mainGlobals "replayed"=some (some (.ref f12))) (l12:K.lookup f12=some ⟨oc12,od12,.func (PySem.W.fnOf "replayed" "replayed" (aC gw) (aB gw) (ak gw) .none kV12 dc12 pm12 an12 cd12 ct12),sl12⟩) (c12:PySem.W.codeIn K cd12 "replayed"=true) (k12:PySem.W.keepIn K (.ref f12)=true)
    (a13:PySem.W.nsIn K mainGlobals "_law_cell_at"=some (some (.ref f13))) (l13:K.lookup f13=some ⟨oc13,od13,.func (PySem.W.fnOf "_law_cell_at" "_law_cell_at" (aC cO) (aB cO) (ak cO) .none kV13 dc13 pm13 an13 cd13 ct13),sl13⟩) (c13:PySem.W.codeIn K cd13 "_law_cell_at"=true) (k13:PySem.W.keepIn K (.ref f13)=true)
    (a14:PySem.W.nsIn K mainGlobals "_law_whole"=some (some (.ref f14))) (l14:K.lookup f14=some ⟨oc14,od14,.func (PySem.W.fnOf "_law_whole" "_law_whole" (aC dZ) (aB dZ) (ak dZ) .none kV14 dc14 pm14 an14 cd14 ct14),sl14⟩) (c14:PySem.W.codeIn K cd14 "_law_whole"=true) (k14:PySem.W.keepIn K (.ref f14)=true)
    (a15:PySem.W.nsIn K mainGlobals "_law_draw"=some (some (.ref f15))) (l15:K.lookup f15=some ⟨oc15,od15,.func (PySem.W.fnOf "_law_draw" "_law_draw" (aC fU) (aB fU) (ak fU) .none kV15 dc15 pm15 an15 cd15 ct15),sl15⟩) (c15:PySem.W.codeIn K cd15 "_law_draw"=true) (k15:PySem.W.keepIn K (.ref f15)=true)
    (a16:PySem.W.nsIn K mainGlobals "_law_draws"=some (some (.ref f16))) (l16:K.lookup f16=some ⟨oc16,od16,.func (PySem.W.fnOf "_law_draws" "_law_draws" (aC cM) (aB cM) (ak cM) .none kV16 dc16 pm16 an16 cd16 ct16),sl16⟩) (c16:PySem.W.codeIn K cd16 "_law_draws"=true) (k16:PySem.W.keepIn K (.ref f16)=true)
    (a17:PySem.W.nsIn K mainGlobals "_law_river"=some (some (.ref f17))) (l17:K.lookup f17=some ⟨oc17,od17,.func (PySem.W.fnOf "_law_river" "_law_river" (aC cJ) (aB cJ) (ak cJ) .none kV17 dc17 pm17 an17 cd17 ct17),sl17⟩) (c17:PySem.W.codeIn K cd17 "_law_river"=true) (k17:PySem.W.keepIn K (.ref f17)=true)
    (a18:PySem.W.nsIn K mainGlobals "_law_amount"=some (some (.ref f18))) (l18:K.lookup f18=some ⟨oc18,od18,.func (PySem.W.fnOf "_law_amount" "_law_amount" (aC dj) (aB dj) (ak dj) .none kV18 dc18 pm18 an18 cd18 ct18),sl18⟩) (c18:PySem.W.codeIn K cd18 "_law_amount"=true) (k18:PySem.W.keepIn K (.ref f18)=true)
    (a19:PySem.W.nsIn K mainGlobals "_law_name"=some (some (.ref f19))) (l19:K.lookup f19=some ⟨oc19,od19,.func (PySem.W.fnOf "_law_name" "_law_name" (aC fQ) (aB fQ) (ak fQ) .none kV19 dc19 pm19 an19 cd19 ct19),sl19⟩) (c19:PySem.W.codeIn K cd19 "_law_name"=true) (k19:PySem.W.keepIn K (.ref f19)=true)
    (a20:PySem.W.nsIn K mainGlobals "_law_deed"=some (some (.ref f20))) (l20:K.lookup f20=some ⟨oc20,od20,.func (PySem.W.fnOf "_law_deed" "_law_deed" (aC eE) (aB eE) (ak eE) .none kV20 dc20 pm20 an20 cd20 ct20),sl20⟩) (c20:PySem.W.codeIn K cd20 "_law_deed"=true) (k20:PySem.W.keepIn K (.ref f20)=true)
    (a21:PySem.W.nsIn K mainGlobals "_law_do"=some (some (.ref f21))) (l21:K.lookup f21=some ⟨oc21,od21,.func (PySem.W.fnOf "_law_do" "_law_do" (aC iC) (aB iC) (ak iC) .none kV21 dc21 pm21 an21 cd21 ct21),sl21⟩) (c21:PySem.W.codeIn K cd21 "_law_do"=true) (k21:PySem.W.keepIn K (.ref f21)=true)
    (a22:PySem.W.nsIn K mainGlobals "_law_done"=some (some (.ref f22))) (l22:K.lookup f22=some ⟨oc22,od22,.func (PySem.W.fnOf "_law_done" "_law_done" (aC fV) (aB fV) (ak fV) .none kV22 dc22 pm22 an22 cd22 ct22),sl22⟩) (c22:PySem.W.codeIn K cd22 "_law_done"=true) (k22:PySem.W.keepIn K (.ref f22)=true)
    (a23:PySem.W.nsIn K mainGlobals "_law_stand"=some (some (.ref f23))) (l23:K.lookup f23=some ⟨oc23,od23,.func (PySem.W.fnOf "_law_stand" "_law_stand" (aC d8) (aB d8) (ak d8) .none kV23 dc23 pm23 an23 cd23 ct23),sl23⟩) (c23:PySem.W.codeIn K cd23 "_law_stand"=true) (k23:PySem.W.keepIn K (.ref f23)=true)
    (a24:PySem.W.nsIn K mainGlobals "_law_plain"=some (some (.ref f24))) (l24:K.lookup f24=some ⟨oc24,od24,.func (PySem.W.fnOf "_law_plain" "_law_plain" (aC cB) (aB cB) (ak cB) .none kV24 dc24 pm24 an24 cd24 ct24),sl24⟩) (c24:PySem.W.codeIn K cd24 "_law_plain"=true) (k24:PySem.W.keepIn K (.ref f24)=true)
    (a25:PySem.W.nsIn K mainGlobals "_law_step"=some (some (.ref f25))) (l25:K.lookup f25=some ⟨oc25,od25,.func (PySem.W.fnOf "_law_step" "_law_step" (aC fP) (aB fP) (ak fP) .none kV25 dc25 pm25 an25 cd25 ct25),sl25⟩) (c25:PySem.W.codeIn K cd25 "_law_step"=true) (k25:PySem.W.keepIn K (.ref f25)=true)
    (a26:PySem.W.nsIn K mainGlobals "_law_followed"=some (some (.ref f26))) (l26:K.lookup f26=some ⟨oc26,od26,.func (PySem.W.fnOf "_law_followed" "_law_followed" (aC cC) (aB cC) (ak cC) .none kV26 dc26 pm26 an26 cd26 ct26),sl26⟩) (c26:PySem.W.codeIn K cd26 "_law_followed"=true) (k26:PySem.W.keepIn K (.ref f26)=true)
    (a27:PySem.W.nsIn K mainGlobals "_law_refused"=some (some (.ref f27))) (l27:K.lookup f27=some ⟨oc27,od27,.func (PySem.W.fnOf "_law_refused" "_law_refused" (aC cL) (aB cL) (ak cL) .none kV27 dc27 pm27 an27 cd27 ct27),sl27⟩) (c27:PySem.W.codeIn K cd27 "_law_refused"=true) (k27:PySem.W.keepIn K (.ref f27)=true)
    (a28:PySem.W.nsIn K mainGlobals "law"=some (some (.ref f28))) (l28:K.lookup f28=some ⟨oc28,od28,.func (PySem.W.fnOf "law" "law" (aC oG) (aB oG) (ak oG) .none kV28 dc28 pm28 an28 cd28 ct28),sl28⟩) (c28:PySem.W.codeIn K cd28 "law"=true) (k28:PySem.W.keepIn K (.ref f28)=true)
    (e0:PySem.W.nsIn K mainGlobals "MOST_WATER"=some (some (.int (1000000000000) t0)))
    (e1:PySem.W.nsIn K mainGlobals "LONGEST_NAME"=some (some (.int (8) t1)))
    (e2:PySem.W.nsIn K mainGlobals "LETTERS"=some (some (.str "abcdefghijklmnopqrstuvwxyz" t2)))
    (e3:PySem.W.nsIn K mainGlobals "MOST_REACHES"=some (some (.int (40) t3)))
    (e4:PySem.W.nsIn K mainGlobals "MOUTH"=some (some (.int (-1) t4)))
    (e5:PySem.W.nsIn K mainGlobals "LAST_DAY"=some (some (.int (1000000) t5)))
    (e6:PySem.W.nsIn K mainGlobals "MOST_LICENCES"=some (some (.int (60) t6)))
    (n_Roll:PySem.W.nsIn K mainGlobals "Roll"=some (some (.ref cR_Roll))) (ka_Roll:PySem.W.plainGet K cR_Roll Str.empty=true) (kb_Roll:PySem.W.hasDictIn K cR_Roll=true) (kc_Roll:PySem.W.plainOver K cR_Roll=true) (kd_Roll:PySem.W.findIn K (.ref cR_Roll) "__setattr__"=some (some (.builtin "object.__setattr__")))
    (ke_Roll:PySem.W.makesIn K cR_Roll=true) (kf_Roll:PySem.W.keepIn K (.ref cR_Roll)=true)
    (kn_Roll_below:PySem.W.findIn K (.ref cR_Roll) "below"=some none)
    (kn_Roll_day:PySem.W.findIn K (.ref cR_Roll) "day"=some none)
    (kn_Roll_licences:PySem.W.findIn K (.ref cR_Roll) "licences"=some none)
    (kn_Roll_names:PySem.W.findIn K (.ref cR_Roll) "names"=some none)
    (kn_Roll_done:PySem.W.findIn K (.ref cR_Roll) "done"=some none)
    (ma_Roll___init__:PySem.W.findIn K (.ref cR_Roll) "__init__"=some (some (.ref fm_Roll___init__))) (mf_Roll___init__:PySem.W.isFn K (.ref fm_Roll___init__)=true) (mk_Roll___init__:PySem.W.keepIn K (.ref fm_Roll___init__)=true) (ml_Roll___init__:K.lookup fm_Roll___init__=some ⟨ocM0,odM0,.func (PySem.W.fnOf "__init__" "Roll.__init__" (aC bU) (aB bU) (ak bU) .none kVM0 dcM0 pmM0 anM0 cdM0 ctM0),slM0⟩) (mc_Roll___init__:PySem.W.codeIn K cdM0 "Roll.__init__"=true)
    (ma_Roll_today:PySem.W.findIn K (.ref cR_Roll) "today"=some (some (.ref fm_Roll_today))) (mf_Roll_today:PySem.W.isFn K (.ref fm_Roll_today)=true) (mk_Roll_today:PySem.W.keepIn K (.ref fm_Roll_today)=true) (ml_Roll_today:K.lookup fm_Roll_today=some ⟨ocM1,odM1,.func (PySem.W.fnOf "today" "Roll.today" (aC d9) (aB d9) (ak d9) .none kVM1 dcM1 pmM1 anM1 cdM1 ctM1),slM1⟩) (mc_Roll_today:PySem.W.codeIn K cdM1 "Roll.today"=true)
    (ma_Roll_roll:PySem.W.findIn K (.ref cR_Roll) "roll"=some (some (.ref fm_Roll_roll))) (mf_Roll_roll:PySem.W.isFn K (.ref fm_Roll_roll)=true) (mk_Roll_roll:PySem.W.keepIn K (.ref fm_Roll_roll)=true) (ml_Roll_roll:K.lookup fm_Roll_roll=some ⟨ocM2,odM2,.func (PySem.W.fnOf "roll" "Roll.roll" (aC fW) (aB fW) (ak fW) .none kVM2 dcM2 pmM2 anM2 cdM2 ctM2),slM2⟩) (mc_Roll_roll:PySem.W.codeIn K cdM2 "Roll.roll"=true)
    (ma_Roll_holders:PySem.W.findIn K (.ref cR_Roll) "holders"=some (some (.ref fm_Roll_holders))) (mf_Roll_holders:PySem.W.isFn K (.ref fm_Roll_holders)=true) (mk_Roll_holders:PySem.W.keepIn K (.ref fm_Roll_holders)=true) (ml_Roll_holders:K.lookup fm_Roll_holders=some ⟨ocM3,odM3,.func (PySem.W.fnOf "holders" "Roll.holders" (aC cu) (aB cu) (ak cu) .none kVM3 dcM3 pmM3 anM3 cdM3 ctM3),slM3⟩) (mc_Roll_holders:PySem.W.codeIn K cdM3 "Roll.holders"=true)
    (ma_Roll_deeds:PySem.W.findIn K (.ref cR_Roll) "deeds"=some (some (.ref fm_Roll_deeds))) (mf_Roll_deeds:PySem.W.isFn K (.ref fm_Roll_deeds)=true) (mk_Roll_deeds:PySem.W.keepIn K (.ref fm_Roll_deeds)=true) (ml_Roll_deeds:K.lookup fm_Roll_deeds=some ⟨ocM4,odM4,.func (PySem.W.fnOf "deeds" "Roll.deeds" (aC dD) (aB dD) (ak dD) .none kVM4 dcM4 pmM4 anM4 cdM4 ctM4),slM4⟩) (mc_Roll_deeds:PySem.W.codeIn K cdM4 "Roll.deeds"=true)
    (ma_Roll_turn:PySem.W.findIn K (.ref cR_Roll) "turn"=some (some (.ref fm_Roll_turn))) (mf_Roll_turn:PySem.W.isFn K (.ref fm_Roll_turn)=true) (mk_Roll_turn:PySem.W.keepIn K (.ref fm_Roll_turn)=true) (ml_Roll_turn:K.lookup fm_Roll_turn=some ⟨ocM5,odM5,.func (PySem.W.fnOf "turn" "Roll.turn" (aC eF) (aB eF) (ak eF) .none kVM5 dcM5 pmM5 anM5 cdM5 ctM5),slM5⟩) (mc_Roll_turn:PySem.W.codeIn K cdM5 "Roll.turn"=true)
    (ma_Roll_file:PySem.W.findIn K (.ref cR_Roll) "file"=some (some (.ref fm_Roll_file))) (mf_Roll_file:PySem.W.isFn K (.ref fm_Roll_file)=true) (mk_Roll_file:PySem.W.keepIn K (.ref fm_Roll_file)=true) (ml_Roll_file:K.lookup fm_Roll_file=some ⟨ocM6,odM6,.func (PySem.W.fnOf "file" "Roll.file" (aC dN) (aB dN) (ak dN) (.ref dT_Roll_file) kVM6 dcM6 pmM6 anM6 cdM6 ctM6),slM6⟩) (mc_Roll_file:PySem.W.codeIn K cdM6 "Roll.file"=true)
    (mt_Roll_file:K.lookup dT_Roll_file=some oT_Roll_file) (mu_Roll_file:∃ n,oT_Roll_file.data=.seq #[.none] n)
    (ma_Roll_sell:PySem.W.findIn K (.ref cR_Roll) "sell"=some (some (.ref fm_Roll_sell))) (mf_Roll_sell:PySem.W.isFn K (.ref fm_Roll_sell)=true) (mk_Roll_sell:PySem.W.keepIn K (.ref fm_Roll_sell)=true) (ml_Roll_sell:K.lookup fm_Roll_sell=some ⟨ocM7,odM7,.func (PySem.W.fnOf "sell" "Roll.sell" (aC eG) (aB eG) (ak eG) .none kVM7 dcM7 pmM7 anM7 cdM7 ctM7),slM7⟩) (mc_Roll_sell:PySem.W.codeIn K cdM7 "Roll.sell"=true)
    (ma_Roll_part:PySem.W.findIn K (.ref cR_Roll) "part"=some (some (.ref fm_Roll_part))) (mf_Roll_part:PySem.W.isFn K (.ref fm_Roll_part)=true) (mk_Roll_part:PySem.W.keepIn K (.ref fm_Roll_part)=true) (ml_Roll_part:K.lookup fm_Roll_part=some ⟨ocM8,odM8,.func (PySem.W.fnOf "part" "Roll.part" (aC eH) (aB eH) (ak eH) .none kVM8 dcM8 pmM8 anM8 cdM8 ctM8),slM8⟩) (mc_Roll_part:PySem.W.codeIn K cdM8 "Roll.part"=true)
    (ma_Roll_drop:PySem.W.findIn K (.ref cR_Roll) "drop"=some (some (.ref fm_Roll_drop))) (mf_Roll_drop:PySem.W.isFn K (.ref fm_Roll_drop)=true) (mk_Roll_drop:PySem.W.keepIn K (.ref fm_Roll_drop)=true) (ml_Roll_drop:K.lookup fm_Roll_drop=some ⟨ocM9,odM9,.func (PySem.W.fnOf "drop" "Roll.drop" (aC eO) (aB eO) (ak eO) .none kVM9 dcM9 pmM9 anM9 cdM9 ctM9),slM9⟩) (mc_Roll_drop:PySem.W.codeIn K cdM9 "Roll.drop"=true)
    (ma_Roll_move:PySem.W.findIn K (.ref cR_Roll) "move"=some (some (.ref fm_Roll_move))) (mf_Roll_move:PySem.W.isFn K (.ref fm_Roll_move)=true) (mk_Roll_move:PySem.W.keepIn K (.ref fm_Roll_move)=true) (ml_Roll_move:K.lookup fm_Roll_move=some ⟨ocM10,odM10,.func (PySem.W.fnOf "move" "Roll.move" (aC eN) (aB eN) (ak eN) .none kVM10 dcM10 pmM10 anM10 cdM10 ctM10),slM10⟩) (mc_Roll_move:PySem.W.codeIn K cdM10 "Roll.move"=true)
    (ma_Roll_look_move:PySem.W.findIn K (.ref cR_Roll) "look_move"=some (some (.ref fm_Roll_look_move))) (mf_Roll_look_move:PySem.W.isFn K (.ref fm_Roll_look_move)=true) (mk_Roll_look_move:PySem.W.keepIn K (.ref fm_Roll_look_move)=true) (ml_Roll_look_move:K.lookup fm_Roll_look_move=some ⟨ocM11,odM11,.func (PySem.W.fnOf "look_move" "Roll.look_move" (aC bY) (aB bY) (ak bY) .none kVM11 dcM11 pmM11 anM11 cdM11 ctM11),slM11⟩) (mc_Roll_look_move:PySem.W.codeIn K cdM11 "Roll.look_move"=true)
    (ma_Roll_lapse:PySem.W.findIn K (.ref cR_Roll) "lapse"=some (some (.ref fm_Roll_lapse))) (mf_Roll_lapse:PySem.W.isFn K (.ref fm_Roll_lapse)=true) (mk_Roll_lapse:PySem.W.keepIn K (.ref fm_Roll_lapse)=true) (ml_Roll_lapse:K.lookup fm_Roll_lapse=some ⟨ocM12,odM12,.func (PySem.W.fnOf "lapse" "Roll.lapse" (aC bZ) (aB bZ) (ak bZ) .none kVM12 dcM12 pmM12 anM12 cdM12 ctM12),slM12⟩) (mc_Roll_lapse:PySem.W.codeIn K cdM12 "Roll.lapse"=true)
    (ma_Roll_enter:PySem.W.findIn K (.ref cR_Roll) "enter"=some (some (.ref fm_Roll_enter))) (mf_Roll_enter:PySem.W.isFn K (.ref fm_Roll_enter)=true) (mk_Roll_enter:PySem.W.keepIn K (.ref fm_Roll_enter)=true) (ml_Roll_enter:K.lookup fm_Roll_enter=some ⟨ocM13,odM13,.func (PySem.W.fnOf "enter" "Roll.enter" (aC dw) (aB dw) (ak dw) .none kVM13 dcM13 pmM13 anM13 cdM13 ctM13),slM13⟩) (mc_Roll_enter:PySem.W.codeIn K cdM13 "Roll.enter"=true)
    (ma_Roll_is_alone:PySem.W.findIn K (.ref cR_Roll) "is_alone"=some (some (.ref fm_Roll_is_alone))) (mf_Roll_is_alone:PySem.W.isFn K (.ref fm_Roll_is_alone)=true) (mk_Roll_is_alone:PySem.W.keepIn K (.ref fm_Roll_is_alone)=true) (ml_Roll_is_alone:K.lookup fm_Roll_is_alone=some ⟨ocM14,odM14,.func (PySem.W.fnOf "is_alone" "Roll.is_alone" (aC bT) (aB bT) (ak bT) .none kVM14 dcM14 pmM14 anM14 cdM14 ctM14),slM14⟩) (mc_Roll_is_alone:PySem.W.codeIn K cdM14 "Roll.is_alone"=true)
    (ma_Roll_look_at_number:PySem.W.findIn K (.ref cR_Roll) "look_at_number"=some (some (.ref fm_Roll_look_at_number))) (mf_Roll_look_at_number:PySem.W.isFn K (.ref fm_Roll_look_at_number)=true) (mk_Roll_look_at_number:PySem.W.keepIn K (.ref fm_Roll_look_at_number)=true) (ml_Roll_look_at_number:K.lookup fm_Roll_look_at_number=some ⟨ocM15,odM15,.func (PySem.W.fnOf "look_at_number" "Roll.look_at_number" (aC bw) (aB bw) (ak bw) .none kVM15 dcM15 pmM15 anM15 cdM15 ctM15),slM15⟩) (mc_Roll_look_at_number:PySem.W.codeIn K cdM15 "Roll.look_at_number"=true)
    (ma_Roll_look_at_holder:PySem.W.findIn K (.ref cR_Roll) "look_at_holder"=some (some (.ref fm_Roll_look_at_holder))) (mf_Roll_look_at_holder:PySem.W.isFn K (.ref fm_Roll_look_at_holder)=true) (mk_Roll_look_at_holder:PySem.W.keepIn K (.ref fm_Roll_look_at_holder)=true) (ml_Roll_look_at_holder:K.lookup fm_Roll_look_at_holder=some ⟨ocM16,odM16,.func (PySem.W.fnOf "look_at_holder" "Roll.look_at_holder" (aC aK) (aB aK) (ak aK) .none kVM16 dcM16 pmM16 anM16 cdM16 ctM16),slM16⟩) (mc_Roll_look_at_holder:PySem.W.codeIn K cdM16 "Roll.look_at_holder"=true)
    (ma_Roll_look_at_room:PySem.W.findIn K (.ref cR_Roll) "look_at_room"=some (some (.ref fm_Roll_look_at_room))) (mf_Roll_look_at_room:PySem.W.isFn K (.ref fm_Roll_look_at_room)=true) (mk_Roll_look_at_room:PySem.W.keepIn K (.ref fm_Roll_look_at_room)=true) (ml_Roll_look_at_room:K.lookup fm_Roll_look_at_room=some ⟨ocM17,odM17,.func (PySem.W.fnOf "look_at_room" "Roll.look_at_room" (aC bx) (aB bx) (ak bx) .none kVM17 dcM17 pmM17 anM17 cdM17 ctM17),slM17⟩) (mc_Roll_look_at_room:PySem.W.codeIn K cdM17 "Roll.look_at_room"=true)
    (z_len:PySem.W.nsIn K mainGlobals "len"=some none)
    (z_range:PySem.W.nsIn K mainGlobals "range"=some none)
    (z_list:PySem.W.nsIn K mainGlobals "list"=some none)
    (z_isinstance:PySem.W.nsIn K mainGlobals "isinstance"=some none)
    (z_bool:PySem.W.nsIn K mainGlobals "bool"=some none)
    (z_int:PySem.W.nsIn K mainGlobals "int"=some none)
    (z_all:PySem.W.nsIn K mainGlobals "all"=some none)
    (z_min:PySem.W.nsIn K mainGlobals "min"=some none)
    (z_max:PySem.W.nsIn K mainGlobals "max"=some none)
    (z_sum:PySem.W.nsIn K mainGlobals "sum"=some none)
    (z_sorted:PySem.W.nsIn K mainGlobals "sorted"=some none)
    (z_zip:PySem.W.nsIn K mainGlobals "zip"=some none)
    (z_tuple:PySem.W.nsIn K mainGlobals "tuple"=some none)
    (z_str:PySem.W.nsIn K mainGlobals "str"=some none)
    (z_any:PySem.W.nsIn K mainGlobals "any"=some none)
    (z_enumerate:PySem.W.nsIn K mainGlobals "enumerate"=some none)
    (z_reversed:PySem.W.nsIn K mainGlobals "reversed"=some none)
    (z_abs:PySem.W.nsIn K mainGlobals "abs"=some none)
    (z_ValueError:PySem.W.nsIn K mainGlobals "ValueError"=some none)
    (z_set:PySem.W.nsIn K mainGlobals "set"=some none)
    (n_SluiceError:PySem.W.nsIn K mainGlobals "SluiceError"=some (some (.ref cX_SluiceError))) (q_SluiceError:PySem.W.excIn K cX_SluiceError vX "ValueError.__new__"=true)
    (xa_SluiceError:PySem.W.findIn K (.ref cX_SluiceError) "__getattribute__"=some (some (.builtin "BaseException.__getattribute__"))) (xb_SluiceError:PySem.W.findIn K (.ref cX_SluiceError) "__getattr__"=some none) (xc_SluiceError:PySem.W.findIn K (.ref cX_SluiceError) "__class__"=some (some (.builtin "object.__class__")))
    (xd_SluiceError:PySem.W.specialIn K (.builtin "object.__class__") "__get__"=some (some (.builtin "getset_descriptor.__get__"))) (xe_SluiceError:PySem.W.takesIn K (.builtin "object.__class__")=some true) (xf_SluiceError:PySem.W.mroIn K cX_SluiceError (.type "object")=some true) (xg_SluiceError:PySem.W.mroIn K cX_SluiceError (.type "BaseException")=some true) (xh_SluiceError:(PySem.W.clsIn K cX_SluiceError).isSome=true)
    (n_NoNumber:PySem.W.nsIn K mainGlobals "NoNumber"=some (some (.ref cX_NoNumber))) (q_NoNumber:PySem.W.excIn K cX_NoNumber vX "ValueError.__new__"=true)
    (xa_NoNumber:PySem.W.findIn K (.ref cX_NoNumber) "__getattribute__"=some (some (.builtin "BaseException.__getattribute__"))) (xb_NoNumber:PySem.W.findIn K (.ref cX_NoNumber) "__getattr__"=some none) (xc_NoNumber:PySem.W.findIn K (.ref cX_NoNumber) "__class__"=some (some (.builtin "object.__class__")))
    (xd_NoNumber:PySem.W.specialIn K (.builtin "object.__class__") "__get__"=some (some (.builtin "getset_descriptor.__get__"))) (xe_NoNumber:PySem.W.takesIn K (.builtin "object.__class__")=some true) (xf_NoNumber:PySem.W.mroIn K cX_NoNumber (.type "object")=some true) (xg_NoNumber:PySem.W.mroIn K cX_NoNumber (.type "BaseException")=some true) (xh_NoNumber:(PySem.W.clsIn K cX_NoNumber).isSome=true)
    (n_NotYours:PySem.W.nsIn K mainGlobals "NotYours"=some (some (.ref cX_NotYours))) (q_NotYours:PySem.W.excIn K cX_NotYours vX "ValueError.__new__"=true)
    (xa_NotYours:PySem.W.findIn K (.ref cX_NotYours) "__getattribute__"=some (some (.builtin "BaseException.__getattribute__"))) (xb_NotYours:PySem.W.findIn K (.ref cX_NotYours) "__getattr__"=some none) (xc_NotYours:PySem.W.findIn K (.ref cX_NotYours) "__class__"=some (some (.builtin "object.__class__")))
    (xd_NotYours:PySem.W.specialIn K (.builtin "object.__class__") "__get__"=some (some (.builtin "getset_descriptor.__get__"))) (xe_NotYours:PySem.W.takesIn K (.builtin "object.__class__")=some true) (xf_NotYours:PySem.W.mroIn K cX_NotYours (.type "object")=some true) (xg_NotYours:PySem.W.mroIn K cX_NotYours (.type "BaseException")=some true) (xh_NotYours:(PySem.W.clsIn K cX_NotYours).isSome=true)
    (n_NoHolder:PySem.W.nsIn K mainGlobals "NoHolder"=some (some (.ref cX_NoHolder))) (q_NoHolder:PySem.W.excIn K cX_NoHolder vX "ValueError.__new__"=true)
    (xa_NoHolder:PySem.W.findIn K (.ref cX_NoHolder) "__getattribute__"=some (some (.builtin "BaseException.__getattribute__"))) (xb_NoHolder:PySem.W.findIn K (.ref cX_NoHolder) "__getattr__"=some none) (xc_NoHolder:PySem.W.findIn K (.ref cX_NoHolder) "__class__"=some (some (.builtin "object.__class__")))
    (xd_NoHolder:PySem.W.specialIn K (.builtin "object.__class__") "__get__"=some (some (.builtin "getset_descriptor.__get__"))) (xe_NoHolder:PySem.W.takesIn K (.builtin "object.__class__")=some true) (xf_NoHolder:PySem.W.mroIn K cX_NoHolder (.type "object")=some true) (xg_NoHolder:PySem.W.mroIn K cX_NoHolder (.type "BaseException")=some true) (xh_NoHolder:(PySem.W.clsIn K cX_NoHolder).isSome=true)
    (n_NoLicence:PySem.W.nsIn K mainGlobals "NoLicence"=some (some (.ref cX_NoLicence))) (q_NoLicence:PySem.W.excIn K cX_NoLicence vX "ValueError.__new__"=true)
    (xa_NoLicence:PySem.W.findIn K (.ref cX_NoLicence) "__getattribute__"=some (some (.builtin "BaseException.__getattribute__"))) (xb_NoLicence:PySem.W.findIn K (.ref cX_NoLicence) "__getattr__"=some none) (xc_NoLicence:PySem.W.findIn K (.ref cX_NoLicence) "__class__"=some (some (.builtin "object.__class__")))
    (xd_NoLicence:PySem.W.specialIn K (.builtin "object.__class__") "__get__"=some (some (.builtin "getset_descriptor.__get__"))) (xe_NoLicence:PySem.W.takesIn K (.builtin "object.__class__")=some true) (xf_NoLicence:PySem.W.mroIn K cX_NoLicence (.type "object")=some true) (xg_NoLicence:PySem.W.mroIn K cX_NoLicence (.type "BaseException")=some true) (xh_NoLicence:(PySem.W.clsIn K cX_NoLicence).isSome=true)
    (n_TooMuch:PySem.W.nsIn K mainGlobals "TooMuch"=some (some (.ref cX_TooMuch))) (q_TooMuch:PySem.W.excIn K cX_TooMuch vX "ValueError.__new__"=true)
    (xa_TooMuch:PySem.W.findIn K (.ref cX_TooMuch) "__getattribute__"=some (some (.builtin "BaseException.__getattribute__"))) (xb_TooMuch:PySem.W.findIn K (.ref cX_TooMuch) "__getattr__"=some none) (xc_TooMuch:PySem.W.findIn K (.ref cX_TooMuch) "__class__"=some (some (.builtin "object.__class__")))
    (xd_TooMuch:PySem.W.specialIn K (.builtin "object.__class__") "__get__"=some (some (.builtin "getset_descriptor.__get__"))) (xe_TooMuch:PySem.W.takesIn K (.builtin "object.__class__")=some true) (xf_TooMuch:PySem.W.mroIn K cX_TooMuch (.type "object")=some true) (xg_TooMuch:PySem.W.mroIn K cX_TooMuch (.type "BaseException")=some true) (xh_TooMuch:(PySem.W.clsIn K cX_TooMuch).isSome=true)
    (n_NotAlone:PySem.W.nsIn K mainGlobals "NotAlone"=some (some (.ref cX_NotAlone))) (q_NotAlone:PySem.W.excIn K cX_NotAlone vX "ValueError.__new__"=true)
    (xa_NotAlone:PySem.W.findIn K (.ref cX_NotAlone) "__getattribute__"=some (some (.builtin "BaseException.__getattribute__"))) (xb_NotAlone:PySem.W.findIn K (.ref cX_NotAlone) "__getattr__"=some none) (xc_NotAlone:PySem.W.findIn K (.ref cX_NotAlone) "__class__"=some (some (.builtin "object.__class__")))
    (xd_NotAlone:PySem.W.specialIn K (.builtin "object.__class__") "__get__"=some (some (.builtin "getset_descriptor.__get__"))) (xe_NotAlone:PySem.W.takesIn K (.builtin "object.__class__")=some true) (xf_NotAlone:PySem.W.mroIn K cX_NotAlone (.type "object")=some true) (xg_NotAlone:PySem.W.mroIn K cX_NotAlone (.type "BaseException")=some true) (xh_NotAlone:(PySem.W.clsIn K cX_NotAlone).isSome=true)
    (n_Full:PySem.W.nsIn K mainGlobals "Full"=some (some (.ref cX_Full))) (q_Full:PySem.W.excIn K cX_Full vX "ValueError.__new__"=true)
    (xa_Full:PySem.W.findIn K (.ref cX_Full) "__getattribute__"=some (some (.builtin "BaseException.__getattribute__"))) (xb_Full:PySem.W.findIn K (.ref cX_Full) "__getattr__"=some none) (xc_Full:PySem.W.findIn K (.ref cX_Full) "__class__"=some (some (.builtin "object.__class__")))
    (xd_Full:PySem.W.specialIn K (.builtin "object.__class__") "__get__"=some (some (.builtin "getset_descriptor.__get__"))) (xe_Full:PySem.W.takesIn K (.builtin "object.__class__")=some true) (xf_Full:PySem.W.mroIn K cX_Full (.type "object")=some true) (xg_Full:PySem.W.mroIn K cX_Full (.type "BaseException")=some true) (xh_Full:(PySem.W.clsIn K cX_Full).isSome=true)
    (n_NoRiver:PySem.W.nsIn K mainGlobals "NoRiver"=some (some (.ref cX_NoRiver))) (q_NoRiver:PySem.W.excIn K cX_NoRiver vX "ValueError.__new__"=true)
    (xa_NoRiver:PySem.W.findIn K (.ref cX_NoRiver) "__getattribute__"=some (some (.builtin "BaseException.__getattribute__"))) (xb_NoRiver:PySem.W.findIn K (.ref cX_NoRiver) "__getattr__"=some none) (xc_NoRiver:PySem.W.findIn K (.ref cX_NoRiver) "__class__"=some (some (.builtin "object.__class__")))
    (xd_NoRiver:PySem.W.specialIn K (.builtin "object.__class__") "__get__"=some (some (.builtin "getset_descriptor.__get__"))) (xe_NoRiver:PySem.W.takesIn K (.builtin "object.__class__")=some true) (xf_NoRiver:PySem.W.mroIn K cX_NoRiver (.type "object")=some true) (xg_NoRiver:PySem.W.mroIn K cX_NoRiver (.type "BaseException")=some true) (xh_NoRiver:(PySem.W.clsIn K cX_NoRiver).isSome=true)
    (m_NoNumber_SluiceError:PySem.W.exmOne K (.ref cX_NoNumber) (.ref cX_SluiceError)=some true)
    (m_NotYours_SluiceError:PySem.W.exmOne K (.ref cX_NotYours) (.ref cX_SluiceError)=some true)
    (m_NoHolder_SluiceError:PySem.W.exmOne K (.ref cX_NoHolder) (.ref cX_SluiceError)=some true)
    (m_NoLicence_SluiceError:PySem.W.exmOne K (.ref cX_NoLicence) (.ref cX_SluiceError)=some true)
    (m_TooMuch_SluiceError:PySem.W.exmOne K (.ref cX_TooMuch) (.ref cX_SluiceError)=some true)
    (m_NotAlone_SluiceError:PySem.W.exmOne K (.ref cX_NotAlone) (.ref cX_SluiceError)=some true)
    (m_Full_SluiceError:PySem.W.exmOne K (.ref cX_Full) (.ref cX_SluiceError)=some true)
    (m_NoNumber_NoNumber:PySem.W.exmOne K (.ref cX_NoNumber) (.ref cX_NoNumber)=some true)
    (xia_Roll:PySem.W.findIn K (.ref cR_Roll) "__class__"=some (some (.builtin "object.__class__"))) (xib_Roll:PySem.W.specialIn K (.builtin "object.__class__") "__get__"=some (some (.builtin "getset_descriptor.__get__"))) (xic_Roll:PySem.W.takesIn K (.builtin "object.__class__")=some true) (xid_Roll:PySem.W.mroIn K cR_Roll (.type "object")=some true) (xie_Roll:PySem.W.kitOne K (.ref cR_Roll) (.ref cR_Roll)=some true)
    : ∃ fd:FuncData,(∀ (s:Shared) (v:Value),BindsTo s fd ⟨[v],[]⟩ [("script",v)])∧∀ base:Heap,K.In base→base.Ns mainGlobals mg→bF l.prog w K mg base CX0 7 fa fd ["script"] (uK K):=by
  have e:=hfa.symm.trans (PySem.W.mg_of X G a28)
  cases e
  have B:Blt mg:=⟨PySem.W.mg_none_of X G z_len,PySem.W.mg_none_of X G z_range,PySem.W.mg_none_of X G z_list,PySem.W.mg_none_of X G z_isinstance,PySem.W.mg_none_of X G z_bool,PySem.W.mg_none_of X G z_int,PySem.W.mg_none_of X G z_all,PySem.W.mg_none_of X G z_min,PySem.W.mg_none_of X G z_max,PySem.W.mg_none_of X G z_sum,PySem.W.mg_none_of X G z_sorted,PySem.W.mg_none_of X G z_zip,PySem.W.mg_none_of X G z_tuple,PySem.W.mg_none_of X G z_str,PySem.W.mg_none_of X G z_any,PySem.W.mg_none_of X G z_enumerate,PySem.W.mg_none_of X G z_reversed,PySem.W.mg_none_of X G z_abs,PySem.W.mg_none_of X G z_ValueError,PySem.W.mg_none_of X G z_set⟩
  have h_MOST_WATER:∃ t,mg "MOST_WATER"=some (.int (1000000000000) t):=⟨_,PySem.W.mg_of X G e0⟩
  have h_LONGEST_NAME:∃ t,mg "LONGEST_NAME"=some (.int (8) t):=⟨_,PySem.W.mg_of X G e1⟩
  have h_LETTERS:∃ t,mg "LETTERS"=some (.str "abcdefghijklmnopqrstuvwxyz" t):=⟨_,PySem.W.mg_of X G e2⟩
  have h_MOST_REACHES:∃ t,mg "MOST_REACHES"=some (.int (40) t):=⟨_,PySem.W.mg_of X G e3⟩
  have h_MOUTH:∃ t,mg "MOUTH"=some (.int (-1) t):=⟨_,PySem.W.mg_of X G e4⟩
  have h_LAST_DAY:∃ t,mg "LAST_DAY"=some (.int (1000000) t):=⟨_,PySem.W.mg_of X G e5⟩
  have h_MOST_LICENCES:∃ t,mg "MOST_LICENCES"=some (.int (60) t):=⟨_,PySem.W.mg_of X G e6⟩
  have FM_Roll___init__:=bD (st:=bU) ml_Roll___init__ mc_Roll___init__ mk_Roll___init__
  have cV:Dm K cR_Roll "__init__" "Roll.__init__" bU ["self","below"] fm_Roll___init__ _:=⟨FM_Roll___init__,iZ FM_Roll___init__ (fun _ _ _ _ _ _ _ _=>rfl),⟨ma_Roll___init__,mf_Roll___init__,mk_Roll___init__⟩⟩
  have FM_Roll_today:=bD (st:=d9) ml_Roll_today mc_Roll_today mk_Roll_today
  have iI:Dm K cR_Roll "today" "Roll.today" d9 ["self"] fm_Roll_today _:=⟨FM_Roll_today,gY FM_Roll_today (fun _ _ _ _ _ _ _=>rfl),⟨ma_Roll_today,mf_Roll_today,mk_Roll_today⟩⟩
  have FM_Roll_roll:=bD (st:=fW) ml_Roll_roll mc_Roll_roll mk_Roll_roll
  have jd:Dm K cR_Roll "roll" "Roll.roll" fW ["self"] fm_Roll_roll _:=⟨FM_Roll_roll,gY FM_Roll_roll (fun _ _ _ _ _ _ _=>rfl),⟨ma_Roll_roll,mf_Roll_roll,mk_Roll_roll⟩⟩
  have FM_Roll_holders:=bD (st:=cu) ml_Roll_holders mc_Roll_holders mk_Roll_holders
  have cA:Dm K cR_Roll "holders" "Roll.holders" cu ["self"] fm_Roll_holders _:=⟨FM_Roll_holders,gY FM_Roll_holders (fun _ _ _ _ _ _ _=>rfl),⟨ma_Roll_holders,mf_Roll_holders,mk_Roll_holders⟩⟩
  have FM_Roll_deeds:=bD (st:=dD) ml_Roll_deeds mc_Roll_deeds mk_Roll_deeds
  have bM:Dm K cR_Roll "deeds" "Roll.deeds" dD ["self"] fm_Roll_deeds _:=⟨FM_Roll_deeds,gY FM_Roll_deeds (fun _ _ _ _ _ _ _=>rfl),⟨ma_Roll_deeds,mf_Roll_deeds,mk_Roll_deeds⟩⟩
  have FM_Roll_turn:=bD (st:=eF) ml_Roll_turn mc_Roll_turn mk_Roll_turn
  have eX:Dm K cR_Roll "turn" "Roll.turn" eF ["self"] fm_Roll_turn _:=⟨FM_Roll_turn,gY FM_Roll_turn (fun _ _ _ _ _ _ _=>rfl),⟨ma_Roll_turn,mf_Roll_turn,mk_Roll_turn⟩⟩
  obtain ⟨nT_Roll_file,mu_Roll_file⟩:=mu_Roll_file
  have FM_Roll_file:KR K "file" "Roll.file" dN [.none] fm_Roll_file _:=⟨⟨_,_,_,_,_,_,_,_,_,_,_,_,rfl,ml_Roll_file,mc_Roll_file,mt_Roll_file,mu_Roll_file⟩,mk_Roll_file⟩
  have bJ:DmD K cR_Roll "file" "Roll.file" dN ["self","holder","start","most","back"] fm_Roll_file _:=⟨FM_Roll_file,FM_Roll_file.binds (fun _ _ _ _ _ _ _ us hl=>match us,(show us.length=5 by simpa using hl) with | [u0,u1,u2,u3,u4],_=>⟨_,rfl,rfl⟩),FM_Roll_file.binds (fun _ _ _ _ _ _ _ us hl=>match us,(show us.length=4 by simpa using hl) with | [u0,u1,u2,u3],_=>⟨_,rfl,rfl⟩),⟨ma_Roll_file,mf_Roll_file,mk_Roll_file⟩⟩
  have FM_Roll_sell:=bD (st:=eG) ml_Roll_sell mc_Roll_sell mk_Roll_sell
  have eY:Dm K cR_Roll "sell" "Roll.sell" eG ["self","number","holder","to"] fm_Roll_sell _:=⟨FM_Roll_sell,vA FM_Roll_sell (fun _ _ _ _ _ _ _ _ _ _=>rfl),⟨ma_Roll_sell,mf_Roll_sell,mk_Roll_sell⟩⟩
  have FM_Roll_part:=bD (st:=eH) ml_Roll_part mc_Roll_part mk_Roll_part
  have eZ:Dm K cR_Roll "part" "Roll.part" eH ["self","number","holder","most","to"] fm_Roll_part _:=⟨FM_Roll_part,RV FM_Roll_part (fun _ _ _ _ _ _ _ _ _ _ _=>rfl),⟨ma_Roll_part,mf_Roll_part,mk_Roll_part⟩⟩
  have FM_Roll_drop:=bD (st:=eO) ml_Roll_drop mc_Roll_drop mk_Roll_drop
  have fu:Dm K cR_Roll "drop" "Roll.drop" eO ["self","number","holder"] fm_Roll_drop _:=⟨FM_Roll_drop,n6 FM_Roll_drop (fun _ _ _ _ _ _ _ _ _=>rfl),⟨ma_Roll_drop,mf_Roll_drop,mk_Roll_drop⟩⟩
  have FM_Roll_move:=bD (st:=eN) ml_Roll_move mc_Roll_move mk_Roll_move
  have fj:Dm K cR_Roll "move" "Roll.move" eN ["self","number","holder","start"] fm_Roll_move _:=⟨FM_Roll_move,vA FM_Roll_move (fun _ _ _ _ _ _ _ _ _ _=>rfl),⟨ma_Roll_move,mf_Roll_move,mk_Roll_move⟩⟩
  have FM_Roll_look_move:=bD (st:=bY) ml_Roll_look_move mc_Roll_look_move mk_Roll_look_move
  have fD:Dm K cR_Roll "look_move" "Roll.look_move" bY ["self","number","start"] fm_Roll_look_move _:=⟨FM_Roll_look_move,n6 FM_Roll_look_move (fun _ _ _ _ _ _ _ _ _=>rfl),⟨ma_Roll_look_move,mf_Roll_look_move,mk_Roll_look_move⟩⟩
  have FM_Roll_lapse:=bD (st:=bZ) ml_Roll_lapse mc_Roll_lapse mk_Roll_lapse
  have cR:Dm K cR_Roll "lapse" "Roll.lapse" bZ ["self","numbers"] fm_Roll_lapse _:=⟨FM_Roll_lapse,iZ FM_Roll_lapse (fun _ _ _ _ _ _ _ _=>rfl),⟨ma_Roll_lapse,mf_Roll_lapse,mk_Roll_lapse⟩⟩
  have FM_Roll_enter:=bD (st:=dw) ml_Roll_enter mc_Roll_enter mk_Roll_enter
  have dM:Dm K cR_Roll "enter" "Roll.enter" dw ["self","one","holder"] fm_Roll_enter _:=⟨FM_Roll_enter,n6 FM_Roll_enter (fun _ _ _ _ _ _ _ _ _=>rfl),⟨ma_Roll_enter,mf_Roll_enter,mk_Roll_enter⟩⟩
  have FM_Roll_is_alone:=bD (st:=bT) ml_Roll_is_alone mc_Roll_is_alone mk_Roll_is_alone
  have gj:Dm K cR_Roll "is_alone" "Roll.is_alone" bT ["self","number"] fm_Roll_is_alone _:=⟨FM_Roll_is_alone,iZ FM_Roll_is_alone (fun _ _ _ _ _ _ _ _=>rfl),⟨ma_Roll_is_alone,mf_Roll_is_alone,mk_Roll_is_alone⟩⟩
  have FM_Roll_look_at_number:=bD (st:=bw) ml_Roll_look_at_number mc_Roll_look_at_number mk_Roll_look_at_number
  have cI:Dm K cR_Roll "look_at_number" "Roll.look_at_number" bw ["self","number"] fm_Roll_look_at_number _:=⟨FM_Roll_look_at_number,iZ FM_Roll_look_at_number (fun _ _ _ _ _ _ _ _=>rfl),⟨ma_Roll_look_at_number,mf_Roll_look_at_number,mk_Roll_look_at_number⟩⟩
  have FM_Roll_look_at_holder:=bD (st:=aK) ml_Roll_look_at_holder mc_Roll_look_at_holder mk_Roll_look_at_holder
  have aF:Dm K cR_Roll "look_at_holder" "Roll.look_at_holder" aK ["self","number","holder"] fm_Roll_look_at_holder _:=⟨FM_Roll_look_at_holder,n6 FM_Roll_look_at_holder (fun _ _ _ _ _ _ _ _ _=>rfl),⟨ma_Roll_look_at_holder,mf_Roll_look_at_holder,mk_Roll_look_at_holder⟩⟩
  have FM_Roll_look_at_room:=bD (st:=bx) ml_Roll_look_at_room mc_Roll_look_at_room mk_Roll_look_at_room
  have bA:Dm K cR_Roll "look_at_room" "Roll.look_at_room" bx ["self"] fm_Roll_look_at_room _:=⟨FM_Roll_look_at_room,gY FM_Roll_look_at_room (fun _ _ _ _ _ _ _=>rfl),⟨ma_Roll_look_at_room,mf_Roll_look_at_room,mk_Roll_look_at_room⟩⟩
  have R_Roll:Cl K mg "Roll" cR_Roll fm_Roll___init__ ["below","day","licences","names","done"]:=⟨⟨ka_Roll,kb_Roll,kc_Roll,kd_Roll⟩,⟨ke_Roll,ma_Roll___init__,mf_Roll___init__,kf_Roll⟩,PySem.W.mg_of X G n_Roll,by
    simp only [List.mem_cons,List.not_mem_nil,or_false,forall_eq_or_imp,forall_eq]
    exact ⟨kn_Roll_below,kn_Roll_day,kn_Roll_licences,kn_Roll_names,kn_Roll_done⟩⟩
  have X_SluiceError:m9 K mg "SluiceError" cX_SluiceError:=⟨PySem.W.mg_of X G n_SluiceError,q_SluiceError,⟨xa_SluiceError,xb_SluiceError,xc_SluiceError,xd_SluiceError,xe_SluiceError,xf_SluiceError,xg_SluiceError,xh_SluiceError⟩⟩
  have X_NoNumber:m9 K mg "NoNumber" cX_NoNumber:=⟨PySem.W.mg_of X G n_NoNumber,q_NoNumber,⟨xa_NoNumber,xb_NoNumber,xc_NoNumber,xd_NoNumber,xe_NoNumber,xf_NoNumber,xg_NoNumber,xh_NoNumber⟩⟩
  have X_NotYours:m9 K mg "NotYours" cX_NotYours:=⟨PySem.W.mg_of X G n_NotYours,q_NotYours,⟨xa_NotYours,xb_NotYours,xc_NotYours,xd_NotYours,xe_NotYours,xf_NotYours,xg_NotYours,xh_NotYours⟩⟩
  have X_NoHolder:m9 K mg "NoHolder" cX_NoHolder:=⟨PySem.W.mg_of X G n_NoHolder,q_NoHolder,⟨xa_NoHolder,xb_NoHolder,xc_NoHolder,xd_NoHolder,xe_NoHolder,xf_NoHolder,xg_NoHolder,xh_NoHolder⟩⟩
  have X_NoLicence:m9 K mg "NoLicence" cX_NoLicence:=⟨PySem.W.mg_of X G n_NoLicence,q_NoLicence,⟨xa_NoLicence,xb_NoLicence,xc_NoLicence,xd_NoLicence,xe_NoLicence,xf_NoLicence,xg_NoLicence,xh_NoLicence⟩⟩
  have X_TooMuch:m9 K mg "TooMuch" cX_TooMuch:=⟨PySem.W.mg_of X G n_TooMuch,q_TooMuch,⟨xa_TooMuch,xb_TooMuch,xc_TooMuch,xd_TooMuch,xe_TooMuch,xf_TooMuch,xg_TooMuch,xh_TooMuch⟩⟩
  have X_NotAlone:m9 K mg "NotAlone" cX_NotAlone:=⟨PySem.W.mg_of X G n_NotAlone,q_NotAlone,⟨xa_NotAlone,xb_NotAlone,xc_NotAlone,xd_NotAlone,xe_NotAlone,xf_NotAlone,xg_NotAlone,xh_NotAlone⟩⟩
  have X_Full:m9 K mg "Full" cX_Full:=⟨PySem.W.mg_of X G n_Full,q_Full,⟨xa_Full,xb_Full,xc_Full,xd_Full,xe_Full,xf_Full,xg_Full,xh_Full⟩⟩
  have X_NoRiver:m9 K mg "NoRiver" cX_NoRiver:=⟨PySem.W.mg_of X G n_NoRiver,q_NoRiver,⟨xa_NoRiver,xb_NoRiver,xc_NoRiver,xd_NoRiver,xe_NoRiver,xf_NoRiver,xg_NoRiver,xh_NoRiver⟩⟩
  have F0:=bD (st:=fG) l0 c0 k0
  have bV:Df K mg "is_water" fG ["amount"] _ _:=⟨F0,gY F0 (fun _ _ _ _ _ _ _=>rfl),PySem.W.mg_of X G a0⟩
  have F1:=bD (st:=gV) l1 c1 k1
  have jq:Df K mg "is_name" gV ["text"] _ _:=⟨F1,gY F1 (fun _ _ _ _ _ _ _=>rfl),PySem.W.mg_of X G a1⟩
  have F2:=bD (st:=bW) l2 c2 k2
  have dg:Df K mg "comes_to_mouth" bW ["below","start"] _ _:=⟨F2,iZ F2 (fun _ _ _ _ _ _ _ _=>rfl),PySem.W.mg_of X G a2⟩
  have F3:=bD (st:=fH) l3 c3 k3
  have iT:Df K mg "is_river" fH ["below"] _ _:=⟨F3,gY F3 (fun _ _ _ _ _ _ _=>rfl),PySem.W.mg_of X G a3⟩
  have F4:=bD (st:=jf) l4 c4 k4
  have kE:Df K mg "way_of" jf ["below","reach"] _ _:=⟨F4,iZ F4 (fun _ _ _ _ _ _ _ _=>rfl),PySem.W.mg_of X G a4⟩
  have F5:=bD (st:=dh) l5 c5 k5
  have cD:Df K mg "is_licence" dh ["below","one"] _ _:=⟨F5,iZ F5 (fun _ _ _ _ _ _ _ _=>rfl),PySem.W.mg_of X G a5⟩
  have F6:=bD (st:=fO) l6 c6 k6
  have eV:Df K mg "day_filed" fO ["one"] _ _:=⟨F6,gY F6 (fun _ _ _ _ _ _ _=>rfl),PySem.W.mg_of X G a6⟩
  have F7:=bD (st:=fM) l7 c7 k7
  have bB:Df K mg "most_of" fM ["one"] _ _:=⟨F7,gY F7 (fun _ _ _ _ _ _ _=>rfl),PySem.W.mg_of X G a7⟩
  have F8:=bD (st:=dY) l8 c8 k8
  have gQ:Df K mg "with_start" dY ["one","start"] _ _:=⟨F8,iZ F8 (fun _ _ _ _ _ _ _ _=>rfl),PySem.W.mg_of X G a8⟩
  have F9:=bD (st:=cT) l9 c9 k9
  have aO:Df K mg "with_most" cT ["one","most"] _ _:=⟨F9,iZ F9 (fun _ _ _ _ _ _ _ _=>rfl),PySem.W.mg_of X G a9⟩
  have F10:=bD (st:=bR) l10 c10 k10
  have aU:Df K mg "look_at_name" bR ["name"] _ _:=⟨F10,gY F10 (fun _ _ _ _ _ _ _=>rfl),PySem.W.mg_of X G a10⟩
  have F11:=bD (st:=iB) l11 c11 k11
  have jr:Df K mg "do_anew" iB ["roll","deed"] _ _:=⟨F11,iZ F11 (fun _ _ _ _ _ _ _ _=>rfl),PySem.W.mg_of X G a11⟩
  have F12:=bD (st:=gw) l12 c12 k12
  have dR:Df K mg "replayed" gw ["below","deeds"] _ _:=⟨F12,iZ F12 (fun _ _ _ _ _ _ _ _=>rfl),PySem.W.mg_of X G a12⟩
  have F13:=bD (st:=cO) l13 c13 k13
  have fK:Df K mg "_law_cell_at" cO ["script","k"] _ _:=⟨F13,iZ F13 (fun _ _ _ _ _ _ _ _=>rfl),PySem.W.mg_of X G a13⟩
  have F14:=bD (st:=dZ) l14 c14 k14
  have dI:Df K mg "_law_whole" dZ ["found"] _ _:=⟨F14,gY F14 (fun _ _ _ _ _ _ _=>rfl),PySem.W.mg_of X G a14⟩
  have F15:=bD (st:=fU) l15 c15 k15
  have iu:Df K mg "_law_draw" fU ["cell","place"] _ _:=⟨F15,iZ F15 (fun _ _ _ _ _ _ _ _=>rfl),PySem.W.mg_of X G a15⟩
  have F16:=bD (st:=cM) l16 c16 k16
  have cG:Df K mg "_law_draws" cM ["cell","many"] _ _:=⟨F16,iZ F16 (fun _ _ _ _ _ _ _ _=>rfl),PySem.W.mg_of X G a16⟩
  have F17:=bD (st:=cJ) l17 c17 k17
  have gR:Df K mg "_law_river" cJ ["cell"] _ _:=⟨F17,gY F17 (fun _ _ _ _ _ _ _=>rfl),PySem.W.mg_of X G a17⟩
  have F18:=bD (st:=dj) l18 c18 k18
  have gB:Df K mg "_law_amount" dj ["xs","lines"] _ _:=⟨F18,iZ F18 (fun _ _ _ _ _ _ _ _=>rfl),PySem.W.mg_of X G a18⟩
  have F19:=bD (st:=fQ) l19 c19 k19
  have bI:Df K mg "_law_name" fQ ["number"] _ _:=⟨F19,gY F19 (fun _ _ _ _ _ _ _=>rfl),PySem.W.mg_of X G a19⟩
  have F20:=bD (st:=eE) l20 c20 k20
  have iy:Df K mg "_law_deed" eE ["xs","many","lines","owners"] _ _:=⟨F20,vA F20 (fun _ _ _ _ _ _ _ _ _ _=>rfl),PySem.W.mg_of X G a20⟩
  have F21:=bD (st:=iC) l21 c21 k21
  have jt:Df K mg "_law_do" iC ["one","deed","bit"] _ _:=⟨F21,n6 F21 (fun _ _ _ _ _ _ _ _ _=>rfl),PySem.W.mg_of X G a21⟩
  have F22:=bD (st:=fV) l22 c22 k22
  have iw:Df K mg "_law_done" fV ["one","deed","bit"] _ _:=⟨F22,n6 F22 (fun _ _ _ _ _ _ _ _ _=>rfl),PySem.W.mg_of X G a22⟩
  have F23:=bD (st:=d8) l23 c23 k23
  have aP:Df K mg "_law_stand" d8 ["one"] _ _:=⟨F23,gY F23 (fun _ _ _ _ _ _ _=>rfl),PySem.W.mg_of X G a23⟩
  have F24:=bD (st:=cB) l24 c24 k24
  have dJ:Df K mg "_law_plain" cB ["stand"] _ _:=⟨F24,gY F24 (fun _ _ _ _ _ _ _=>rfl),PySem.W.mg_of X G a24⟩
  have F25:=bD (st:=fP) l25 c25 k25
  have ig:Df K mg "_law_step" fP ["deed","day","lines","owners"] _ _:=⟨F25,vA F25 (fun _ _ _ _ _ _ _ _ _ _=>rfl),PySem.W.mg_of X G a25⟩
  have F26:=bD (st:=cC) l26 c26 k26
  have dU:Df K mg "_law_followed" cC ["deeds"] _ _:=⟨F26,gY F26 (fun _ _ _ _ _ _ _=>rfl),PySem.W.mg_of X G a26⟩
  have F27:=bD (st:=cL) l27 c27 k27
  have fJ:Df K mg "_law_refused" cL ["below","deeds","deed"] _ _:=⟨F27,n6 F27 (fun _ _ _ _ _ _ _ _ _=>rfl),PySem.W.mg_of X G a27⟩
  have F28:=bD (st:=oG) l28 c28 k28
  have Vd:Df K mg "law" oG ["script"] _ _:=⟨F28,gY F28 (fun _ _ _ _ _ _ _=>rfl),PySem.W.mg_of X G a28⟩
  refine ⟨PySem.W.fnOf "law" "law" (aC oG) (aB oG) (ak oG) .none kV28 dc28 pm28 an28 cd28 ct28,fun s v=>.of_eq rfl,fun base _ _=>?_⟩
  have RR:RC K cR_Roll:=J2 R_Roll
  have TTa:JM K (⟨cX_NoNumber,cX_NotYours,cX_NoHolder,cX_NoLicence,cX_TooMuch,cX_NotAlone,cX_Full,cX_NoRiver⟩:Ec) cX_SluiceError:=⟨fun k hk=>match k,hk with | .number,_=>m_NoNumber_SluiceError | .yours,_=>m_NotYours_SluiceError | .holder,_=>m_NoHolder_SluiceError | .licence,_=>m_NoLicence_SluiceError | .much,_=>m_TooMuch_SluiceError | .alone,_=>m_NotAlone_SluiceError | .full,_=>m_Full_SluiceError | .nG,h=>absurd rfl h⟩
  have TTb:yW K (⟨cX_NoNumber,cX_NotYours,cX_NoHolder,cX_NoLicence,cX_TooMuch,cX_NotAlone,cX_Full,cX_NoRiver⟩:Ec):=⟨m_NoNumber_NoNumber⟩
  have HI:VB K cR_Roll:=⟨xia_Roll,xib_Roll,xic_Roll,xid_Roll,xie_Roll⟩
  have C:Mth mg:=⟨h_MOUTH⟩
  have CS:Cst mg:=⟨h_MOUTH,h_MOST_REACHES⟩
  have CNm:CN mg:=⟨h_LONGEST_NAME,h_LETTERS⟩
  have g1:=Lk (P:=l.prog) (w:=w) (base:=base) kE C
  have g2:=zN (P:=l.prog) (w:=w) (base:=base) dg B CS
  have g3:=Lq iT B CS dg g2
  have g4:=zH (P:=l.prog) (w:=w) (base:=base) bV h_MOST_WATER
  have g5:=zM (T:=[]) cD B C h_LAST_DAY bV g4 kE g1
  have g6:=Kh (P:=l.prog) (w:=w) (base:=base) fK B
  have g7:=zG (P:=l.prog) (w:=w) (base:=base) dI B
  have g8:=xX (P:=l.prog) (w:=w) (base:=base) (T:=[]) jq B CNm
  have g9:=tH (T:=[]) aU X_NoHolder jq g8
  have g10:=zR (P:=l.prog) (w:=w) (base:=base) (mg:=mg) jd B RR
  have g11:=tQ (P:=l.prog) (w:=w) (base:=base) (mg:=mg) cA B RR
  have g12:=yd (P:=l.prog) (w:=w) (base:=base) (mg:=mg) bM B RR
  have g13:=xY (P:=l.prog) (w:=w) (base:=base) (mg:=mg) iI RR
  have g14:=zO (P:=l.prog) (w:=w) (base:=base) (mg:=mg) (T:=[]) (c:=(⟨cX_NoNumber,cX_NotYours,cX_NoHolder,cX_NoLicence,cX_TooMuch,cX_NotAlone,cX_Full,cX_NoRiver⟩:Ec)) eX RR
  have g15:=yc (P:=l.prog) (w:=w) (base:=base) (mg:=mg) dM B RR
  have g16:=zQ (P:=l.prog) (w:=w) (base:=base) (mg:=mg) (T:=[]) bA B RR X_Full h_MOST_LICENCES
  have g17:=tK (P:=l.prog) (w:=w) (base:=base) (mg:=mg) (T:=[]) cI B RR X_NoNumber
  have g18:=tO (T:=[]) aF B RR X_NotYours cI g17
  have g19:=Ls (P:=l.prog) (w:=w) (base:=base) eV
  have g20:=Kc (P:=l.prog) (w:=w) (base:=base) bB
  have g21:=SX (P:=l.prog) (w:=w) (base:=base) aO
  have g22:=Lj (P:=l.prog) (w:=w) (base:=base) gQ
  have g23:=yg (T:=[]) gj B RR eV g19 bB g20
  have g24:=zX (T:=[]) (c:=(⟨cX_NoNumber,cX_NotYours,cX_NoHolder,cX_NoLicence,cX_TooMuch,cX_NotAlone,cX_Full,cX_NoRiver⟩:Ec)) fu RR aF g18 aO g21
  have g25:=zP (T:=[]) (c:=(⟨cX_NoNumber,cX_NotYours,cX_NoHolder,cX_NoLicence,cX_TooMuch,cX_NotAlone,cX_Full,cX_NoRiver⟩:Ec)) eY RR aF g18 aU g9
  have g26:=zT (T:=[]) (c:=(⟨cX_NoNumber,cX_NotYours,cX_NoHolder,cX_NoLicence,cX_TooMuch,cX_NotAlone,cX_Full,cX_NoRiver⟩:Ec)) eZ B RR X_TooMuch X_NotAlone aF g18 aU g9 bB g20 gj g23 bA g16 aO g21 dM g15
  have g27:=rC (P:=l.prog) (w:=w) (base:=base) (mg:=mg) fD
  have g28:=zU (T:=[]) (c:=(⟨cX_NoNumber,cX_NotYours,cX_NoHolder,cX_NoLicence,cX_TooMuch,cX_NotAlone,cX_Full,cX_NoRiver⟩:Ec)) fj B RR X_NoLicence aF g18 gQ g22 cD g5 fD g27
  have g29:=zW (T:=[]) (c:=(⟨cX_NoNumber,cX_NotYours,cX_NoHolder,cX_NoLicence,cX_TooMuch,cX_NotAlone,cX_Full,cX_NoRiver⟩:Ec)) bJ B C RR X_NoLicence aU g9 cD g5 bA g16 dM g15
  have g30:=xZ (T:=[]) (c:=(⟨cX_NoNumber,cX_NotYours,cX_NoHolder,cX_NoLicence,cX_TooMuch,cX_NotAlone,cX_Full,cX_NoRiver⟩:Ec)) cR B RR X_NoNumber X_TooMuch bV g4 bB g20 aO g21
  have g31:=vN (T:=[]) (c:=(⟨cX_NoNumber,cX_NotYours,cX_NoHolder,cX_NoLicence,cX_TooMuch,cX_NotAlone,cX_Full,cX_NoRiver⟩:Ec)) cR B RR X_NoNumber X_TooMuch bV g4 bB g20 aO g21
  have g32:=zV (T:=[]) (c:=(⟨cX_NoNumber,cX_NotYours,cX_NoHolder,cX_NoLicence,cX_TooMuch,cX_NotAlone,cX_Full,cX_NoRiver⟩:Ec)) cV B RR X_NoRiver iT g3
  have g33:=Kl (T:=[]) (c:=(⟨cX_NoNumber,cX_NotYours,cX_NoHolder,cX_NoLicence,cX_TooMuch,cX_NotAlone,cX_Full,cX_NoRiver⟩:Ec)) jr RR eX g14 bJ g29 eY g25 eZ g26 fu g24 fj g28 cR g31
  have g34:=J9 (T:=[]) (c:=(⟨cX_NoNumber,cX_NotYours,cX_NoHolder,cX_NoLicence,cX_TooMuch,cX_NotAlone,cX_Full,cX_NoRiver⟩:Ec)) dR R_Roll cV g32 jr g33
  have g35:=S5 (P:=l.prog) (w:=w) (base:=base) iu
  have g36:=Lr (T:=[]) cG B iu g35
  have g37:=zK (T:=[]) gR B cG g36
  have g38:=Lw (P:=l.prog) (w:=w) (base:=base) (T:=[]) gB B
  have g39:=Ka (P:=l.prog) (w:=w) (base:=base) (T:=[]) bI
  have g40:=Kg (T:=[]) iy B bI g39 gB g38
  have g41:=S6 (T:=[]) (c:=(⟨cX_NoNumber,cX_NotYours,cX_NoHolder,cX_NoLicence,cX_TooMuch,cX_NotAlone,cX_Full,cX_NoRiver⟩:Ec)) jt B RR eX g14 bJ g29 eY g25 eZ g26 fu g24 fj g28 cR g30
  have g42:=Ke (T:=[]) (c:=(⟨cX_NoNumber,cX_NotYours,cX_NoHolder,cX_NoLicence,cX_TooMuch,cX_NotAlone,cX_Full,cX_NoRiver⟩:Ec)) iw X_SluiceError TTa jt g41
  have g43:=zJ (T:=[]) aP RR iI g13 jd g10 cA g11 bM g12
  have g44:=zL (T:=[]) dJ B dI g7
  have g45:=J8 (P:=l.prog) (w:=w) (base:=base) (T:=[]) ig B
  have g46:=Kd (T:=[]) dU B ig g45
  have g47:=Ln (T:=[]) (c:=(⟨cX_NoNumber,cX_NotYours,cX_NoHolder,cX_NoLicence,cX_TooMuch,cX_NotAlone,cX_Full,cX_NoRiver⟩:Ec)) fJ X_NoNumber TTb dR g34
  exact Lp Vd B R_Roll HI fK g6 gR g37 cV g32 aP g43 cG g36 iy g40 iw g42 bM g12 cA g11 dJ g44 dU g46 dR g34 bJ g29 fJ g47
theorem walk {l:PySem.W.OpenLaw} {q:Program} {loose:List Str} {XP:(Str→Option Value)→Heap→Prop} {YP:World→Heap→Prop} {d:DefRec} {K:Params→PySem.W.Frag} (hn:l.most=some 63) (hdf:d.params.defaults=[])
    (hY:∀ (w:World) (h:Heap),YP w h→(K w.params).In h)
    (F:∀ (w:World) (mg:Str→Option Value) (fa:Addr) (h:Heap),(K w.params).In h→h.Ns mainGlobals mg→mg d.name=some (.ref fa) →
      ∃ fd:FuncData,(∀ (s:Shared) (u:Value),BindsTo s fd ⟨[u],[]⟩ [("script",u)])∧∀ base:Heap,(K w.params).In base→base.Ns mainGlobals mg→bF l.prog w (K w.params) mg base CX0 7 fa fd ["script"] (uK (K w.params))) :
    PySem.W.WalkO q loose XP YP l.row.toRowW d [] (fun f vs=>PySem.call f vs) :=
  L2.JN (n:=63) (k:=7) (x:="script") (CX:=fun _=>CX0) (sp:=fun w=>uK (K w.params)) hn (by decide) hdf ⟨rfl,by decide,by decide⟩ hY F (fun _ _ a ns hl _ hS=>⟨a,ns,rfl,hS,hl,fun _=>rfl⟩) fun _ _ _ _ _ z=>z
end My
open PySem PySem.W PyProof.Rows
set_option maxRecDepth 100000 in
set_option maxHeartbeats 0 in
theorem PySem.Challenge.cw_sluice_k57_whole_deeds_replayed_holds : PySem.Challenge.rw_sluice_k57_whole_deeds_replayed.Holds := by
  w_on;o_law
  refine PySem.W.holds_open (q:=My.qv) (loose:=My.uV) (Xt:=(fun s=>PySem.W.xlAt My.qv [] s && PySem.W.recOk (PySem.W.RowW.records PySem.Challenge.rw_sluice_k57_whole_deeds_replayed.row.toRowW) s)) (XP:=PySem.W.XL My.qv []) (Yf:=PySem.W.Hook.obs (PySem.W.kHook My.Kf My.asK My.hkE)) (Ya:=PySem.W.Hook.val (PySem.W.kHook My.Kf My.asK My.hkE)) (YP:=PySem.W.Hook.says (PySem.W.kHook My.Kf My.asK My.hkE)) (N:=7460) My.hlE (PySem.W.Hook.of (PySem.W.kHook My.Kf My.asK My.hkE)) (PySem.W.Hook.keeps (PySem.W.kHook My.Kf My.asK My.hkE)) (fun s e=>PySem.W.xl_of s (Bool.and_eq_true_iff.mp e).1) PySem.W.XL.keeps (by rfl) (by rfl) (by rfl) (fun s e=>PySem.W.recFacts_of (Bool.and_eq_true_iff.mp e).2) (by rfl) (by first | assumption | decide +kernel) (by decide +kernel) ⟨rfl,rfl,rfl,rfl,rfl,by decide +kernel⟩ ?hw ?hc
  case hw=>w_witness2
  k_fill
  refine My.walk (l:=PySem.Challenge.rw_sluice_k57_whole_deeds_replayed) rfl rfl (fun w h Y=>PySem.W.kIn_of Y) ?F
  case F =>
    intro w mg fa h KX G hmg
    refine' My.all_mk KX G hmg ?a0 ?l0 ?c0 ?k0 ?a1 ?l1 ?c1 ?k1 ?a2 ?l2 ?c2 ?k2 ?a3 ?l3 ?c3 ?k3 ?a4 ?l4 ?c4 ?k4 ?a5 ?l5 ?c5 ?k5 ?a6 ?l6 ?c6 ?k6 ?a7 ?l7 ?c7 ?k7 ?a8 ?l8 ?c8 ?k8 ?a9 ?l9 ?c9 ?k9 ?a10 ?l10 ?c10 ?k10 ?a11 ?l11 ?c11 ?k11 ?a12 ?l12 ?c12 ?k12 ?a13 ?l13 ?c13 ?k13 ?a14 ?l14 ?c14 ?k14 ?a15 ?l15 ?c15 ?k15 ?a16 ?l16 ?c16 ?k16 ?a17 ?l17 ?c17 ?k17 ?a18 ?l18 ?c18 ?k18 ?a19 ?l19 ?c19 ?k19 ?a20 ?l20 ?c20 ?k20 ?a21 ?l21 ?c21 ?k21 ?a22 ?l22 ?c22 ?k22 ?a23 ?l23 ?c23 ?k23 ?a24 ?l24 ?c24 ?k24 ?a25 ?l25 ?c25 ?k25 ?a26 ?l26 ?c26 ?k26 ?a27 ?l27 ?c27 ?k27 ?a28 ?l28 ?c28 ?k28 ?e0 ?e1 ?e2 ?e3 ?e4 ?e5 ?e6 ?n_Roll ?ka_Roll ?kb_Roll ?kc_Roll ?kd_Roll ?ke_Roll ?kf_Roll ?kn_Roll_below ?kn_Roll_day ?kn_Roll_licences ?kn_Roll_names ?kn_Roll_done ?ma_Roll___init__ ?mf_Roll___init__ ?mk_Roll___init__ ?ml_Roll___init__ ?mc_Roll___init__ ?ma_Roll_today ?mf_Roll_today ?mk_Roll_today ?ml_Roll_today ?mc_Roll_today ?ma_Roll_roll ?mf_Roll_roll ?mk_Roll_roll ?ml_Roll_roll ?mc_Roll_roll ?ma_Roll_holders ?mf_Roll_holders ?mk_Roll_holders ?ml_Roll_holders ?mc_Roll_holders ?ma_Roll_deeds ?mf_Roll_deeds ?mk_Roll_deeds ?ml_Roll_deeds ?mc_Roll_deeds ?ma_Roll_turn ?mf_Roll_turn ?mk_Roll_turn ?ml_Roll_turn ?mc_Roll_turn ?ma_Roll_file ?mf_Roll_file ?mk_Roll_file ?ml_Roll_file ?mc_Roll_file ?mt_Roll_file ?mu_Roll_file ?ma_Roll_sell ?mf_Roll_sell ?mk_Roll_sell ?ml_Roll_sell ?mc_Roll_sell ?ma_Roll_part ?mf_Roll_part ?mk_Roll_part ?ml_Roll_part ?mc_Roll_part ?ma_Roll_drop ?mf_Roll_drop ?mk_Roll_drop ?ml_Roll_drop ?mc_Roll_drop ?ma_Roll_move ?mf_Roll_move ?mk_Roll_move ?ml_Roll_move ?mc_Roll_move ?ma_Roll_look_move ?mf_Roll_look_move ?mk_Roll_look_move ?ml_Roll_look_move ?mc_Roll_look_move ?ma_Roll_lapse ?mf_Roll_lapse ?mk_Roll_lapse ?ml_Roll_lapse ?mc_Roll_lapse ?ma_Roll_enter ?mf_Roll_enter ?mk_Roll_enter ?ml_Roll_enter ?mc_Roll_enter ?ma_Roll_is_alone ?mf_Roll_is_alone ?mk_Roll_is_alone ?ml_Roll_is_alone ?mc_Roll_is_alone ?ma_Roll_look_at_number ?mf_Roll_look_at_number ?mk_Roll_look_at_number ?ml_Roll_look_at_number ?mc_Roll_look_at_number ?ma_Roll_look_at_holder ?mf_Roll_look_at_holder ?mk_Roll_look_at_holder ?ml_Roll_look_at_holder ?mc_Roll_look_at_holder ?ma_Roll_look_at_room ?mf_Roll_look_at_room ?mk_Roll_look_at_room ?ml_Roll_look_at_room ?mc_Roll_look_at_room ?z_len ?z_range ?z_list ?z_isinstance ?z_bool ?z_int ?z_all ?z_min ?z_max ?z_sum ?z_sorted ?z_zip ?z_tuple ?z_str ?z_any ?z_enumerate ?z_reversed ?z_abs ?z_ValueError ?z_set ?n_SluiceError ?q_SluiceError ?xa_SluiceError ?xb_SluiceError ?xc_SluiceError ?xd_SluiceError ?xe_SluiceError ?xf_SluiceError ?xg_SluiceError ?xh_SluiceError ?n_NoNumber ?q_NoNumber ?xa_NoNumber ?xb_NoNumber ?xc_NoNumber ?xd_NoNumber ?xe_NoNumber ?xf_NoNumber ?xg_NoNumber ?xh_NoNumber ?n_NotYours ?q_NotYours ?xa_NotYours ?xb_NotYours ?xc_NotYours ?xd_NotYours ?xe_NotYours ?xf_NotYours ?xg_NotYours ?xh_NotYours ?n_NoHolder ?q_NoHolder ?xa_NoHolder ?xb_NoHolder ?xc_NoHolder ?xd_NoHolder ?xe_NoHolder ?xf_NoHolder ?xg_NoHolder ?xh_NoHolder ?n_NoLicence ?q_NoLicence ?xa_NoLicence ?xb_NoLicence ?xc_NoLicence ?xd_NoLicence ?xe_NoLicence ?xf_NoLicence ?xg_NoLicence ?xh_NoLicence ?n_TooMuch ?q_TooMuch ?xa_TooMuch ?xb_TooMuch ?xc_TooMuch ?xd_TooMuch ?xe_TooMuch ?xf_TooMuch ?xg_TooMuch ?xh_TooMuch ?n_NotAlone ?q_NotAlone ?xa_NotAlone ?xb_NotAlone ?xc_NotAlone ?xd_NotAlone ?xe_NotAlone ?xf_NotAlone ?xg_NotAlone ?xh_NotAlone ?n_Full ?q_Full ?xa_Full ?xb_Full ?xc_Full ?xd_Full ?xe_Full ?xf_Full ?xg_Full ?xh_Full ?n_NoRiver ?q_NoRiver ?xa_NoRiver ?xb_NoRiver ?xc_NoRiver ?xd_NoRiver ?xe_NoRiver ?xf_NoRiver ?xg_NoRiver ?xh_NoRiver ?m_NoNumber_SluiceError ?m_NotYours_SluiceError ?m_NoHolder_SluiceError ?m_NoLicence_SluiceError ?m_TooMuch_SluiceError ?m_NotAlone_SluiceError ?m_Full_SluiceError ?m_NoNumber_NoNumber ?xia_Roll ?xib_Roll ?xic_Roll ?xid_Roll ?xie_Roll
    (case a0=>k_is)
    (case l0=>k_is)
    (case c0=>k_is)
    (case k0=>k_is)
    (case a1=>k_is)
    (case l1=>k_is)
    (case c1=>k_is)
    (case k1=>k_is)
    (case a2=>k_is)
    (case l2=>k_is)
    (case c2=>k_is)
    (case k2=>k_is)
    (case a3=>k_is)
    (case l3=>k_is)
    (case c3=>k_is)
    (case k3=>k_is)
    (case a4=>k_is)
    (case l4=>k_is)
    (case c4=>k_is)
    (case k4=>k_is)
    (case a5=>k_is)
    (case l5=>k_is)
    (case c5=>k_is)
    (case k5=>k_is)
    (case a6=>k_is)
    (case l6=>k_is)
    (case c6=>k_is)
    (case k6=>k_is)
    (case a7=>k_is)
    (case l7=>k_is)
    (case c7=>k_is)
    (case k7=>k_is)
    (case a8=>k_is)
    (case l8=>k_is)
    (case c8=>k_is)
    (case k8=>k_is)
    (case a9=>k_is)
    (case l9=>k_is)
    (case c9=>k_is)
    (case k9=>k_is)
    (case a10=>k_is)
    (case l10=>k_is)
    (case c10=>k_is)
    (case k10=>k_is)
    (case a11=>k_is)
    (case l11=>k_is)
    (case c11=>k_is)
    (case k11=>k_is)
    (case a12=>k_is)
    (case l12=>k_is)
    (case c12=>k_is)
    (case k12=>k_is)
    (case a13=>k_is)
    (case l13=>k_is)
    (case c13=>k_is)
    (case k13=>k_is)
    (case a14=>k_is)
    (case l14=>k_is)
    (case c14=>k_is)
    (case k14=>k_is)
    (case a15=>k_is)
    (case l15=>k_is)
    (case c15=>k_is)
    (case k15=>k_is)
    (case a16=>k_is)
    (case l16=>k_is)
    (case c16=>k_is)
    (case k16=>k_is)
    (case a17=>k_is)
    (case l17=>k_is)
    (case c17=>k_is)
    (case k17=>k_is)
    (case a18=>k_is)
    (case l18=>k_is)
    (case c18=>k_is)
    (case k18=>k_is)
    (case a19=>k_is)
    (case l19=>k_is)
    (case c19=>k_is)
    (case k19=>k_is)
    (case a20=>k_is)
    (case l20=>k_is)
    (case c20=>k_is)
    (case k20=>k_is)
    (case a21=>k_is)
    (case l21=>k_is)
    (case c21=>k_is)
    (case k21=>k_is)
    (case a22=>k_is)
    (case l22=>k_is)
    (case c22=>k_is)
    (case k22=>k_is)
    (case a23=>k_is)
    (case l23=>k_is)
    (case c23=>k_is)
    (case k23=>k_is)
    (case a24=>k_is)
    (case l24=>k_is)
    (case c24=>k_is)
    (case k24=>k_is)
    (case a25=>k_is)
    (case l25=>k_is)
    (case c25=>k_is)
    (case k25=>k_is)
    (case a26=>k_is)
    (case l26=>k_is)
    (case c26=>k_is)
    (case k26=>k_is)
    (case a27=>k_is)
    (case l27=>k_is)
    (case c27=>k_is)
    (case k27=>k_is)
    (case a28=>k_is)
    (case l28=>k_is)
    (case c28=>k_is)
    (case k28=>k_is)
    (case e0=>k_is)
    (case e1=>k_is)
    (case e2=>k_is)
    (case e3=>k_is)
    (case e4=>k_is)
    (case e5=>k_is)
    (case e6=>k_is)
    (case n_Roll=>k_is)
    (case ka_Roll=>(first | k_is | kernel_rfl | rfl))
    (case kb_Roll=>(first | k_is | kernel_rfl | rfl))
    (case kc_Roll=>(first | k_is | kernel_rfl | rfl))
    (case kd_Roll=>(first | k_is | kernel_rfl | rfl))
    (case ke_Roll=>(first | k_is | kernel_rfl | rfl))
    (case kf_Roll=>(first | k_is | kernel_rfl | rfl))
    (case kn_Roll_below=>(first | k_is | kernel_rfl | rfl))
    (case kn_Roll_day=>(first | k_is | kernel_rfl | rfl))
    (case kn_Roll_licences=>(first | k_is | kernel_rfl | rfl))
    (case kn_Roll_names=>(first | k_is | kernel_rfl | rfl))
    (case kn_Roll_done=>(first | k_is | kernel_rfl | rfl))
    (case ma_Roll___init__=>k_is)
    (case mf_Roll___init__=>(first | k_is | kernel_rfl | rfl))
    (case mk_Roll___init__=>k_is)
    (case ml_Roll___init__=>k_is)
    (case mc_Roll___init__=>k_is)
    (case ma_Roll_today=>k_is)
    (case mf_Roll_today=>(first | k_is | kernel_rfl | rfl))
    (case mk_Roll_today=>k_is)
    (case ml_Roll_today=>k_is)
    (case mc_Roll_today=>k_is)
    (case ma_Roll_roll=>k_is)
    (case mf_Roll_roll=>(first | k_is | kernel_rfl | rfl))
    (case mk_Roll_roll=>k_is)
    (case ml_Roll_roll=>k_is)
    (case mc_Roll_roll=>k_is)
    (case ma_Roll_holders=>k_is)
    (case mf_Roll_holders=>(first | k_is | kernel_rfl | rfl))
    (case mk_Roll_holders=>k_is)
    (case ml_Roll_holders=>k_is)
    (case mc_Roll_holders=>k_is)
    (case ma_Roll_deeds=>k_is)
    (case mf_Roll_deeds=>(first | k_is | kernel_rfl | rfl))
    (case mk_Roll_deeds=>k_is)
    (case ml_Roll_deeds=>k_is)
    (case mc_Roll_deeds=>k_is)
    (case ma_Roll_turn=>k_is)
    (case mf_Roll_turn=>(first | k_is | kernel_rfl | rfl))
    (case mk_Roll_turn=>k_is)
    (case ml_Roll_turn=>k_is)
    (case mc_Roll_turn=>k_is)
    (case ma_Roll_file=>k_is)
    (case mf_Roll_file=>(first | k_is | kernel_rfl | rfl))
    (case mk_Roll_file=>k_is)
    (case ml_Roll_file=>k_is)
    (case mc_Roll_file=>k_is)
    (case mt_Roll_file=>k_is)
    (case mu_Roll_file=>exact ⟨_,rfl⟩)
    (case ma_Roll_sell=>k_is)
    (case mf_Roll_sell=>(first | k_is | kernel_rfl | rfl))
    (case mk_Roll_sell=>k_is)
    (case ml_Roll_sell=>k_is)
    (case mc_Roll_sell=>k_is)
    (case ma_Roll_part=>k_is)
    (case mf_Roll_part=>(first | k_is | kernel_rfl | rfl))
    (case mk_Roll_part=>k_is)
    (case ml_Roll_part=>k_is)
    (case mc_Roll_part=>k_is)
    (case ma_Roll_drop=>k_is)
    (case mf_Roll_drop=>(first | k_is | kernel_rfl | rfl))
    (case mk_Roll_drop=>k_is)
    (case ml_Roll_drop=>k_is)
    (case mc_Roll_drop=>k_is)
    (case ma_Roll_move=>k_is)
    (case mf_Roll_move=>(first | k_is | kernel_rfl | rfl))
    (case mk_Roll_move=>k_is)
    (case ml_Roll_move=>k_is)
    (case mc_Roll_move=>k_is)
    (case ma_Roll_look_move=>k_is)
    (case mf_Roll_look_move=>(first | k_is | kernel_rfl | rfl))
    (case mk_Roll_look_move=>k_is)
    (case ml_Roll_look_move=>k_is)
    (case mc_Roll_look_move=>k_is)
    (case ma_Roll_lapse=>k_is)
    (case mf_Roll_lapse=>(first | k_is | kernel_rfl | rfl))
    (case mk_Roll_lapse=>k_is)
    (case ml_Roll_lapse=>k_is)
    (case mc_Roll_lapse=>k_is)
    (case ma_Roll_enter=>k_is)
    (case mf_Roll_enter=>(first | k_is | kernel_rfl | rfl))
    (case mk_Roll_enter=>k_is)
    (case ml_Roll_enter=>k_is)
    (case mc_Roll_enter=>k_is)
    (case ma_Roll_is_alone=>k_is)
    (case mf_Roll_is_alone=>(first | k_is | kernel_rfl | rfl))
    (case mk_Roll_is_alone=>k_is)
    (case ml_Roll_is_alone=>k_is)
    (case mc_Roll_is_alone=>k_is)
    (case ma_Roll_look_at_number=>k_is)
    (case mf_Roll_look_at_number=>(first | k_is | kernel_rfl | rfl))
    (case mk_Roll_look_at_number=>k_is)
    (case ml_Roll_look_at_number=>k_is)
    (case mc_Roll_look_at_number=>k_is)
    (case ma_Roll_look_at_holder=>k_is)
    (case mf_Roll_look_at_holder=>(first | k_is | kernel_rfl | rfl))
    (case mk_Roll_look_at_holder=>k_is)
    (case ml_Roll_look_at_holder=>k_is)
    (case mc_Roll_look_at_holder=>k_is)
    (case ma_Roll_look_at_room=>k_is)
    (case mf_Roll_look_at_room=>(first | k_is | kernel_rfl | rfl))
    (case mk_Roll_look_at_room=>k_is)
    (case ml_Roll_look_at_room=>k_is)
    (case mc_Roll_look_at_room=>k_is)
    (case z_len=>k_is)
    (case z_range=>k_is)
    (case z_list=>k_is)
    (case z_isinstance=>k_is)
    (case z_bool=>k_is)
    (case z_int=>k_is)
    (case z_all=>k_is)
    (case z_min=>k_is)
    (case z_max=>k_is)
    (case z_sum=>k_is)
    (case z_sorted=>k_is)
    (case z_zip=>k_is)
    (case z_tuple=>k_is)
    (case z_str=>k_is)
    (case z_any=>k_is)
    (case z_enumerate=>k_is)
    (case z_reversed=>k_is)
    (case z_abs=>k_is)
    (case z_ValueError=>k_is)
    (case z_set=>k_is)
    (case n_SluiceError=>k_is)
    (case q_SluiceError=>(first | k_is | kernel_rfl))
    (case xa_SluiceError=>(first | k_is | kernel_rfl))
    (case xb_SluiceError=>(first | k_is | kernel_rfl))
    (case xc_SluiceError=>(first | k_is | kernel_rfl))
    (case xd_SluiceError=>(first | k_is | kernel_rfl))
    (case xe_SluiceError=>(first | k_is | kernel_rfl))
    (case xf_SluiceError=>(first | k_is | kernel_rfl))
    (case xg_SluiceError=>(first | k_is | kernel_rfl))
    (case xh_SluiceError=>(first | k_is | kernel_rfl))
    (case n_NoNumber=>k_is)
    (case q_NoNumber=>(first | k_is | kernel_rfl))
    (case xa_NoNumber=>(first | k_is | kernel_rfl))
    (case xb_NoNumber=>(first | k_is | kernel_rfl))
    (case xc_NoNumber=>(first | k_is | kernel_rfl))
    (case xd_NoNumber=>(first | k_is | kernel_rfl))
    (case xe_NoNumber=>(first | k_is | kernel_rfl))
    (case xf_NoNumber=>(first | k_is | kernel_rfl))
    (case xg_NoNumber=>(first | k_is | kernel_rfl))
    (case xh_NoNumber=>(first | k_is | kernel_rfl))
    (case n_NotYours=>k_is)
    (case q_NotYours=>(first | k_is | kernel_rfl))
    (case xa_NotYours=>(first | k_is | kernel_rfl))
    (case xb_NotYours=>(first | k_is | kernel_rfl))
    (case xc_NotYours=>(first | k_is | kernel_rfl))
    (case xd_NotYours=>(first | k_is | kernel_rfl))
    (case xe_NotYours=>(first | k_is | kernel_rfl))
    (case xf_NotYours=>(first | k_is | kernel_rfl))
    (case xg_NotYours=>(first | k_is | kernel_rfl))
    (case xh_NotYours=>(first | k_is | kernel_rfl))
    (case n_NoHolder=>k_is)
    (case q_NoHolder=>(first | k_is | kernel_rfl))
    (case xa_NoHolder=>(first | k_is | kernel_rfl))
    (case xb_NoHolder=>(first | k_is | kernel_rfl))
    (case xc_NoHolder=>(first | k_is | kernel_rfl))
    (case xd_NoHolder=>(first | k_is | kernel_rfl))
    (case xe_NoHolder=>(first | k_is | kernel_rfl))
    (case xf_NoHolder=>(first | k_is | kernel_rfl))
    (case xg_NoHolder=>(first | k_is | kernel_rfl))
    (case xh_NoHolder=>(first | k_is | kernel_rfl))
    (case n_NoLicence=>k_is)
    (case q_NoLicence=>(first | k_is | kernel_rfl))
    (case xa_NoLicence=>(first | k_is | kernel_rfl))
    (case xb_NoLicence=>(first | k_is | kernel_rfl))
    (case xc_NoLicence=>(first | k_is | kernel_rfl))
    (case xd_NoLicence=>(first | k_is | kernel_rfl))
    (case xe_NoLicence=>(first | k_is | kernel_rfl))
    (case xf_NoLicence=>(first | k_is | kernel_rfl))
    (case xg_NoLicence=>(first | k_is | kernel_rfl))
    (case xh_NoLicence=>(first | k_is | kernel_rfl))
    (case n_TooMuch=>k_is)
    (case q_TooMuch=>(first | k_is | kernel_rfl))
    (case xa_TooMuch=>(first | k_is | kernel_rfl))
    (case xb_TooMuch=>(first | k_is | kernel_rfl))
    (case xc_TooMuch=>(first | k_is | kernel_rfl))
    (case xd_TooMuch=>(first | k_is | kernel_rfl))
    (case xe_TooMuch=>(first | k_is | kernel_rfl))
    (case xf_TooMuch=>(first | k_is | kernel_rfl))
    (case xg_TooMuch=>(first | k_is | kernel_rfl))
    (case xh_TooMuch=>(first | k_is | kernel_rfl))
    (case n_NotAlone=>k_is)
    (case q_NotAlone=>(first | k_is | kernel_rfl))
    (case xa_NotAlone=>(first | k_is | kernel_rfl))
    (case xb_NotAlone=>(first | k_is | kernel_rfl))
    (case xc_NotAlone=>(first | k_is | kernel_rfl))
    (case xd_NotAlone=>(first | k_is | kernel_rfl))
    (case xe_NotAlone=>(first | k_is | kernel_rfl))
    (case xf_NotAlone=>(first | k_is | kernel_rfl))
    (case xg_NotAlone=>(first | k_is | kernel_rfl))
    (case xh_NotAlone=>(first | k_is | kernel_rfl))
    (case n_Full=>k_is)
    (case q_Full=>(first | k_is | kernel_rfl))
    (case xa_Full=>(first | k_is | kernel_rfl))
    (case xb_Full=>(first | k_is | kernel_rfl))
    (case xc_Full=>(first | k_is | kernel_rfl))
    (case xd_Full=>(first | k_is | kernel_rfl))
    (case xe_Full=>(first | k_is | kernel_rfl))
    (case xf_Full=>(first | k_is | kernel_rfl))
    (case xg_Full=>(first | k_is | kernel_rfl))
    (case xh_Full=>(first | k_is | kernel_rfl))
    (case n_NoRiver=>k_is)
    (case q_NoRiver=>(first | k_is | kernel_rfl))
    (case xa_NoRiver=>(first | k_is | kernel_rfl))
    (case xb_NoRiver=>(first | k_is | kernel_rfl))
    (case xc_NoRiver=>(first | k_is | kernel_rfl))
    (case xd_NoRiver=>(first | k_is | kernel_rfl))
    (case xe_NoRiver=>(first | k_is | kernel_rfl))
    (case xf_NoRiver=>(first | k_is | kernel_rfl))
    (case xg_NoRiver=>(first | k_is | kernel_rfl))
    (case xh_NoRiver=>(first | k_is | kernel_rfl))
    (case m_NoNumber_SluiceError=>(first | k_is | kernel_rfl))
    (case m_NotYours_SluiceError=>(first | k_is | kernel_rfl))
    (case m_NoHolder_SluiceError=>(first | k_is | kernel_rfl))
    (case m_NoLicence_SluiceError=>(first | k_is | kernel_rfl))
    (case m_TooMuch_SluiceError=>(first | k_is | kernel_rfl))
    (case m_NotAlone_SluiceError=>(first | k_is | kernel_rfl))
    (case m_Full_SluiceError=>(first | k_is | kernel_rfl))
    (case m_NoNumber_NoNumber=>(first | k_is | kernel_rfl))
    (case xia_Roll=>(first | k_is | kernel_rfl))
    (case xib_Roll=>(first | k_is | kernel_rfl))
    (case xic_Roll=>(first | k_is | kernel_rfl))
    (case xid_Roll=>(first | k_is | kernel_rfl))
    (case xie_Roll=>(first | k_is | kernel_rfl))
