import PyProof.Rows.All
import Wide.All
import OpenK.AllK
import Wide.FinOn
import Lean
import PyProof.EqAt
import PyProof.EqKinds
import PyProof.TupleCall
import KE.KSortTup
import PySem.Challenge.RW_sluice_k59_replays_refused
set_option Elab.async false
set_option linter.all false
set_option maxRecDepth 100000
set_option maxHeartbeats 4000000
local macro_rules | `(tactic| omega) => `(tactic| first | lia | omega (splitDisjunctions := true))
namespace L2
open PySem
def inClass (s:Stmt) (j:Nat):Stmt:=match s with
  | .ClassDef _ _ _ body _ _ _ _ _ _ _=>body.getD j (.Pass ⟨0,0,0,0⟩)
  | _=>.Pass ⟨0,0,0,0⟩
def aC (s:Stmt):Arguments:=match s with
  | .FunctionDef _ a _ _ _ _ _ _ _ _=>a
  | _=>{ posonlyargs:=[],args:=[],vararg:=none,kwonlyargs:=[],kw_defaults:=[],kwarg:=none,defaults:=[] }
def aB (s:Stmt):List Stmt:=match s with
  | .FunctionDef _ _ b _ _ _ _ _ _ _=>b
  | _=>[]
def ak (s:Stmt):Scope:=match s with
  | .FunctionDef _ _ _ _ _ _ sc _ _ _=>sc
  | _=>{ kind:=.function,names:=[],isGenerator:=false,isCoroutine:=false }
end L2
namespace My
open PySem L2
noncomputable def top0 (i:Nat):Stmt:=PySem.Challenge.pw_sluice_k59_replays_refused.main.body.getD i (.Pass ⟨0,0,0,0⟩)
noncomputable def en (P:Params) (x:Str) (t:Tok) (v:Value):DictEntry:=⟨PyData.keyHash P x,.str x t,v⟩
noncomputable section
def tq (a:Array Value):Obj:={ cls:=.type "tuple",data:=.seq a }
def fc (a:Array Value):Obj:={ cls:=.type "code",data:=.fields a }
def cp (n:Nat):Value:=.str "/claim/cut.py" n
def pr0 (x:Str) (i:Nat):Obj:={ cls:=.none,data:=.func { name:=x,qualname:=x,params:=aC (top0 i),body:=.stmts (aB (top0 i)),scope:=ak (top0 i),globals:=0,closure:=[],defaults:=.none,kwdefaults:=.none } }
def Wk (P:Params):Obj:={ cls:=.type "dict",data:=Data.dict #[en P "__name__" 1 (.str "builtins" 160),en P "__doc__" 2 (.builtin "builtins.__doc__:str#opaque"),en P "__package__" 3 (.builtin "builtins.__package__:str#opaque"),en P "__loader__" 4 (.builtin "builtins.__loader__:shared#opaque"),en P "__spec__" 5 (.builtin "builtins.__spec__#opaque"),en P "__build_class__" 6 (.builtin "__build_class__"),en P "__import__" 7 (.builtin "__import__"),en P "abs" 8 (.builtin "abs"),en P "all" 9 (.builtin "all"),en P "any" 10 (.builtin "any"),en P "ascii" 11 (.builtin "ascii"),en P "bin" 12 (.builtin "bin"),en P "breakpoint" 13 (.builtin "breakpoint"),en P "callable" 14 (.builtin "callable"),en P "chr" 15 (.builtin "chr"),en P "compile" 16 (.builtin "compile"),en P "delattr" 17 (.builtin "delattr"),en P "dir" 18 (.builtin "dir"),en P "divmod" 19 (.builtin "divmod"),en P "eval" 20 (.builtin "eval"),en P "exec" 21 (.builtin "exec"),en P "format" 22 (.builtin "format"),en P "getattr" 23 (.builtin "getattr"),en P "globals" 24 (.builtin "globals"),en P "hasattr" 25 (.builtin "hasattr"),en P "hash" 26 (.builtin "hash"),en P "hex" 27 (.builtin "hex"),en P "id" 28 (.builtin "id"),en P "input" 29 (.builtin "input"),en P "isinstance" 30 (.builtin "isinstance"),en P "issubclass" 31 (.builtin "issubclass"),en P "iter" 32 (.builtin "iter"),en P "aiter" 33 (.builtin "aiter"),en P "len" 34 (.builtin "len"),en P "locals" 35 (.builtin "locals"),en P "max" 36 (.builtin "max"),en P "min" 37 (.builtin "min"),en P "next" 38 (.builtin "next"),en P "anext" 39 (.builtin "anext"),en P "oct" 40 (.builtin "oct"),en P "ord" 41 (.builtin "ord"),en P "pow" 42 (.builtin "pow"),en P "print" 43 (.builtin "print"),en P "repr" 44 (.builtin "repr"),en P "round" 45 (.builtin "round"),en P "setattr" 46 (.builtin "setattr"),en P "sorted" 47 (.builtin "sorted"),en P "sum" 48 (.builtin "sum"),en P "vars" 49 (.builtin "vars"),en P "None" 50 .none,en P "Ellipsis" 51 .ellipsis,en P "NotImplemented" 52 .notImplemented,en P "False" 53 (.bool false),en P "True" 54 (.bool true),en P "bool" 55 (.type "bool"),en P "memoryview" 56 (.type "memoryview"),en P "bytearray" 57 (.type "bytearray"),en P "bytes" 58 (.type "bytes"),en P "classmethod" 59 (.type "classmethod"),en P "complex" 60 (.type "complex"),en P "dict" 61 (.type "dict"),en P "enumerate" 62 (.type "enumerate"),en P "filter" 63 (.type "filter"),en P "float" 64 (.type "float"),en P "frozenset" 65 (.type "frozenset"),en P "property" 66 (.type "property"),en P "int" 67 (.type "int"),en P "list" 68 (.type "list"),en P "map" 69 (.type "map"),en P "object" 70 (.type "object"),en P "range" 71 (.type "range"),en P "reversed" 72 (.type "reversed"),en P "set" 73 (.type "set"),en P "slice" 74 (.type "slice"),en P "staticmethod" 75 (.type "staticmethod"),en P "str" 76 (.type "str"),en P "super" 77 (.type "super"),en P "tuple" 78 (.type "tuple"),en P "type" 79 (.type "type"),en P "zip" 80 (.type "zip"),en P "__debug__" 81 (.bool true),en P "BaseException" 82 (.type "BaseException"),en P "BaseExceptionGroup" 83 (.type "BaseExceptionGroup"),en P "Exception" 84 (.type "Exception"),en P "GeneratorExit" 85 (.type "GeneratorExit"),en P "KeyboardInterrupt" 86 (.type "KeyboardInterrupt"),en P "SystemExit" 87 (.type "SystemExit"),en P "ArithmeticError" 88 (.type "ArithmeticError"),en P "AssertionError" 89 (.type "AssertionError"),en P "AttributeError" 90 (.type "AttributeError"),en P "BufferError" 91 (.type "BufferError"),en P "EOFError" 92 (.type "EOFError"),en P "ImportError" 93 (.type "ImportError"),en P "LookupError" 94 (.type "LookupError"),en P "MemoryError" 95 (.type "MemoryError"),en P "NameError" 96 (.type "NameError"),en P "OSError" 97 (.type "OSError"),en P "ReferenceError" 98 (.type "ReferenceError"),en P "RuntimeError" 99 (.type "RuntimeError"),en P "StopAsyncIteration" 100 (.type "StopAsyncIteration"),en P "StopIteration" 101 (.type "StopIteration"),en P "SyntaxError" 102 (.type "SyntaxError"),en P "SystemError" 103 (.type "SystemError"),en P "TypeError" 104 (.type "TypeError"),en P "ValueError" 105 (.type "ValueError"),en P "Warning" 106 (.type "Warning"),en P "FloatingPointError" 107 (.type "FloatingPointError"),en P "OverflowError" 108 (.type "OverflowError"),en P "ZeroDivisionError" 109 (.type "ZeroDivisionError"),en P "BytesWarning" 110 (.type "BytesWarning"),en P "DeprecationWarning" 111 (.type "DeprecationWarning"),en P "EncodingWarning" 112 (.type "EncodingWarning"),en P "FutureWarning" 113 (.type "FutureWarning"),en P "ImportWarning" 114 (.type "ImportWarning"),en P "PendingDeprecationWarning" 115 (.type "PendingDeprecationWarning"),en P "ResourceWarning" 116 (.type "ResourceWarning"),en P "RuntimeWarning" 117 (.type "RuntimeWarning"),en P "SyntaxWarning" 118 (.type "SyntaxWarning"),en P "UnicodeWarning" 119 (.type "UnicodeWarning"),en P "UserWarning" 120 (.type "UserWarning"),en P "BlockingIOError" 121 (.type "BlockingIOError"),en P "ChildProcessError" 122 (.type "ChildProcessError"),en P "ConnectionError" 123 (.type "ConnectionError"),en P "FileExistsError" 124 (.type "FileExistsError"),en P "FileNotFoundError" 125 (.type "FileNotFoundError"),en P "InterruptedError" 126 (.type "InterruptedError"),en P "IsADirectoryError" 127 (.type "IsADirectoryError"),en P "NotADirectoryError" 128 (.type "NotADirectoryError"),en P "PermissionError" 129 (.type "PermissionError"),en P "ProcessLookupError" 130 (.type "ProcessLookupError"),en P "TimeoutError" 131 (.type "TimeoutError"),en P "IndentationError" 132 (.type "IndentationError"),en P "_IncompleteInputError" 133 (.type "_IncompleteInputError"),en P "IndexError" 134 (.type "IndexError"),en P "KeyError" 135 (.type "KeyError"),en P "ModuleNotFoundError" 136 (.type "ModuleNotFoundError"),en P "NotImplementedError" 137 (.type "NotImplementedError"),en P "PythonFinalizationError" 138 (.type "PythonFinalizationError"),en P "RecursionError" 139 (.type "RecursionError"),en P "UnboundLocalError" 140 (.type "UnboundLocalError"),en P "UnicodeError" 141 (.type "UnicodeError"),en P "BrokenPipeError" 142 (.type "BrokenPipeError"),en P "ConnectionAbortedError" 143 (.type "ConnectionAbortedError"),en P "ConnectionRefusedError" 144 (.type "ConnectionRefusedError"),en P "ConnectionResetError" 145 (.type "ConnectionResetError"),en P "TabError" 146 (.type "TabError"),en P "UnicodeDecodeError" 147 (.type "UnicodeDecodeError"),en P "UnicodeEncodeError" 148 (.type "UnicodeEncodeError"),en P "UnicodeTranslateError" 149 (.type "UnicodeTranslateError"),en P "ExceptionGroup" 150 (.type "ExceptionGroup"),en P "EnvironmentError" 151 (.type "OSError"),en P "IOError" 152 (.type "OSError"),en P "open" 153 (.builtin "open"),en P "quit" 154 (.builtin "builtins.quit#opaque"),en P "exit" 155 (.builtin "builtins.exit#opaque"),en P "copyright" 156 (.builtin "builtins.copyright#opaque"),en P "credits" 157 (.builtin "builtins.credits#opaque"),en P "license" 158 (.builtin "builtins.license#opaque"),en P "help" 159 (.builtin "builtins.help#opaque")] 159 }
def Wj (P:Params):Obj:={ cls:=.type "dict",data:=Data.dict #[en P "builtins" 162 (.ref 4),en P "__main__" 163 (.ref 5)] 2 }
def Vz (P:Params):Obj:={ cls:=.none,data:=Data.dict #[] }
def ho_4 (P:Params):Obj:={ cls:=.type "dict",data:=Data.dict #[en P "__name__" 165 (.str "__main__" 164),en P "__doc__" 166 .none,en P "__package__" 167 .none,en P "__loader__" 168 (.builtin "__main__.__loader__#opaque"),en P "__spec__" 169 .none,en P "__annotations__" 170 (.ref 6),en P "__builtins__" 171 (.ref 4),en P "__file__" 173 (cp 172),en P "__cached__" 174 .none] 9 }
def Wi (P:Params):Obj:={ cls:=.type "module",dict:=some 0 }
def Wh (P:Params):Obj:={ cls:=.type "module",dict:=some 3 }
def Wg (P:Params):Obj:={ cls:=.type "dict",data:=Data.dict #[] }
def Wf (P:Params):Obj:=(tq #[])
def Wd (P:Params):Obj:={ cls:=.none,data:=Data.fields #[] }
def S8 (P:Params):Obj:=(fc #[.str "<module>" 176,.str "<module>" 177,cp 178,.int 1 0,.int 0 0,.int 0 0,.int 0 0,.int 0 0,.ref 7,.bool false,.int 175 0,.ref 8,.none,.none,.none,.none,.int 179 0,.int 1 0,cp 180])
def Sy (P:Params):Obj:={ cls:=.type "frame",slots:=#[some (.ref 9),some (.ref 3),some (.ref 3),none,some (.str "__main__" 164),none,some (.ref 0)] }
def R4 (P:Params):Obj:={ cls:=.type "dict",data:=Data.dict #[en P "__name__" 165 (.str "law_sluice_k59_replays_refused" 643),en P "__doc__" 166 .none,en P "__package__" 167 .none,en P "__loader__" 168 (.builtin "__main__.__loader__#opaque"),en P "__spec__" 169 .none,en P "__annotations__" 170 (.ref 6),en P "__builtins__" 171 (.ref 4),en P "__file__" 173 (cp 172),en P "__cached__" 174 .none,en P "MOST_WATER" 190 (.int 1000000000000 189),en P "LONGEST_NAME" 192 (.int 8 191),en P "LETTERS" 194 (.str "abcdefghijklmnopqrstuvwxyz" 193),en P "is_water" 201 (.ref 21),en P "is_name" 207 (.ref 26),en P "SluiceError" 227 (.ref 36),en P "NoRiver" 243 (.ref 49),en P "NoLicence" 259 (.ref 61),en P "NoNumber" 275 (.ref 73),en P "NoHolder" 291 (.ref 85),en P "NotYours" 307 (.ref 97),en P "NotAlone" 323 (.ref 109),en P "TooMuch" 339 (.ref 121),en P "Full" 355 (.ref 133),en P "MOST_REACHES" 359 (.int 40 358),en P "MOUTH" 362 (.int (-1) 361),en P "comes_to_mouth" 372 (.ref 142),en P "is_river" 378 (.ref 147),en P "way_of" 387 (.ref 154),en P "LAST_DAY" 391 (.int 1000000 390),en P "is_licence" 403 (.ref 161),en P "day_filed" 410 (.ref 168),en P "most_of" 417 (.ref 175),en P "with_start" 425 (.ref 182),en P "with_most" 433 (.ref 189),en P "MOST_LICENCES" 437 (.int 60 436),en P "look_at_name" 444 (.ref 196),en P "Roll" 621 (.ref 329),en P "do_anew" 632 (.ref 340),en P "replayed" 642 (.ref 347),en P "_law_cell_at" 652 (.ref 354),en P "_law_draw" 661 (.ref 361),en P "_law_draws" 667 (.ref 366),en P "_law_river" 673 (.ref 371),en P "_law_spoilt" 683 (.ref 378),en P "_law_way" 692 (.ref 385),en P "_law_words" 698 (.ref 390),en P "_law_refused" 708 (.ref 397),en P "_law_no_roll" 717 (.ref 404),en P "_law_mates" 723 (.ref 409),en P "_law_file" 735 (.ref 416),en P "_law_deed" 741 (.ref 421),en P "_law_step" 754 (.ref 428),en P "_law_forged" 760 (.ref 433),en P "_law_full" 766 (.ref 438),en P "law" 789 (.ref 445)] 55 }
def VN (P:Params):Obj:=(tq #[])
def VL (P:Params):Obj:={ cls:=.none,data:=Data.fields #[.int 5 0,.int 0 0,.ref 20,.int 7 0,.int 0 0,.ref 25,.int 10 0,.int 0 0,.ref 32,.int 12 0,.int 0 0,.ref 45,.int 14 0,.int 0 0,.ref 57,.int 16 0,.int 0 0,.ref 69,.int 18 0,.int 0 0,.ref 81,.int 20 0,.int 0 0,.ref 93,.int 22 0,.int 0 0,.ref 105,.int 24 0,.int 0 0,.ref 117,.int 26 0,.int 0 0,.ref 129,.int 31 0,.int 0 0,.ref 141,.int 38 0,.int 0 0,.ref 146,.int 44 0,.int 0 0,.ref 153,.int 51 0,.int 0 0,.ref 160,.int 56 0,.int 0 0,.ref 167,.int 58 0,.int 0 0,.ref 174,.int 60 0,.int 0 0,.ref 181,.int 62 0,.int 0 0,.ref 188,.int 66 0,.int 0 0,.ref 195,.int 69 0,.int 0 0,.ref 202,.int 179 0,.int 0 0,.ref 339,.int 195 0,.int 0 0,.ref 346,.int 201 0,.int 0 0,.ref 353,.int 205 0,.int 0 0,.ref 360,.int 208 0,.int 0 0,.ref 365,.int 210 0,.int 0 0,.ref 370,.int 219 0,.int 0 0,.ref 377,.int 232 0,.int 0 0,.ref 384,.int 237 0,.int 0 0,.ref 389,.int 243 0,.int 0 0,.ref 396,.int 252 0,.int 0 0,.ref 403,.int 261 0,.int 0 0,.ref 408,.int 263 0,.int 0 0,.ref 415,.int 271 0,.int 0 0,.ref 420,.int 288 0,.int 0 0,.ref 427,.int 308 0,.int 0 0,.ref 432,.int 339 0,.int 0 0,.ref 437,.int 344 0,.int 0 0,.ref 444] }
def VJ (P:Params):Obj:=(fc #[.str "<module>" 182,.str "<module>" 183,cp 184,.int 1 0,.int 0 0,.int 0 0,.int 0 0,.int 0 0,.ref 11,.bool false,.int 181 0,.ref 12,.none,.none,.none,.none,.int 185 0,.int 1 0,cp 186])
def VH (P:Params):Obj:={ cls:=.type "frame",slots:=#[some (.ref 13),some (.ref 3),some (.ref 3),none,some (.str "__main__" 164),none,some (.ref 0)] }
def Rw (P:Params):Obj:=(tq #[])
def VG (P:Params):Obj:={ cls:=.none,data:=Data.fields #[] }
def Rn (P:Params):Obj:=(tq #[.str "amount" 198])
def Rb (P:Params):Obj:=(tq #[])
def VF (P:Params):Obj:=(pr0 "is_water" 4)
def Q0 (P:Params):Obj:=(fc #[.str "is_water" 195,.str "is_water" 196,cp 197,.int 5 0,.int 1 0,.int 0 0,.int 0 0,.int 3 0,.ref 15,.bool true,.int 181 0,.ref 16,.none,.ref 17,.ref 18,.ref 19,.int 199 0,.int 5 0,cp 200])
def QV (P:Params):Obj:=⟨.type "function",none,.func (PySem.W.fnOf "is_water" "is_water" (aC (top0 4)) (aB (top0 4)) (ak (top0 4)) .none .none .none (.str "sluice.bounds" 187) none (.ref 20) .none),#[]⟩
def QM (P:Params):Obj:=(tq #[])
def VD (P:Params):Obj:={ cls:=.none,data:=Data.fields #[] }
def VB (P:Params):Obj:=(pr0 "is_name" 5)
def Qz (P:Params):Obj:=(fc #[.str "is_name" 202,.str "is_name" 203,cp 204,.int 7 0,.int 1 0,.int 0 0,.int 0 0,.int 3 0,.ref 22,.bool true,.int 181 0,.ref 23,.none,.none,.none,.ref 24,.int 205 0,.int 7 0,cp 206])
def Qv (P:Params):Obj:=⟨.type "function",none,.func (PySem.W.fnOf "is_name" "is_name" (aC (top0 5)) (aB (top0 5)) (ak (top0 5)) .none .none .none (.str "sluice.bounds" 187) none (.ref 25) .none),#[]⟩
def Qq (P:Params):Obj:=(tq #[.type "ValueError"])
def Vy (P:Params):Obj:={ cls:=.type "builtin_function_or_method",data:=Data.fields #[.builtin "type.__prepare__",.type "type"] }
def Vx (P:Params):Obj:={ cls:=.type "dict",data:=Data.dict #[en P "__module__" 217 (.str "sluice.errors" 208),en P "__qualname__" 219 (.str "SluiceError" 218),en P "__firstlineno__" 221 (.int 10 220),en P "__static_attributes__" 222 (.ref 34)] 4 }
def Vw (P:Params):Obj:=(tq #[])
def Vv (P:Params):Obj:={ cls:=.none,data:=Data.fields #[] }
def Vu (P:Params):Obj:=(fc #[.str "SluiceError" 212,.str "SluiceError" 213,cp 214,.int 10 0,.int 0 0,.int 0 0,.int 0 0,.int 0 0,.ref 30,.bool false,.int 181 0,.ref 31,.none,.none,.none,.none,.int 215 0,.int 10 0,cp 216])
def Vt (P:Params):Obj:={ cls:=.type "frame",slots:=#[some (.ref 32),some (.ref 3),some (.ref 29),none,some (.str "sluice.errors" 208),none,some (.ref 0)] }
def PB (P:Params):Obj:=(tq #[])
def Pr (P:Params):Obj:={ cls:=.type "dict",data:=Data.dict #[en P "__module__" 217 (.str "sluice.errors" 208),en P "__firstlineno__" 221 (.int 10 220),en P "__static_attributes__" 222 (.ref 34),en P "__weakref__" 224 (.ref 37),en P "__doc__" 225 .none] 3 }
def Pk (P:Params):Obj:={ cls:=.type "type",data:=Data.cls { name:="SluiceError",bases:=[.type "ValueError"],mro:=[.ref 36,.type "ValueError",.type "Exception",.type "BaseException",.type "object"],ns:=35,qualname:="SluiceError",subclasses:=[.ref 49,.ref 61,.ref 73,.ref 85,.ref 97,.ref 109,.ref 121,.ref 133] },slots:=#[some (.ref 27),none,some (.str "SluiceError" 210),some (.str "SluiceError" 218),some (.builtin "ValueError.__new__"),some (.bool true)] }
def Pa (P:Params):Obj:={ cls:=.type "getset_descriptor",data:=Data.fields #[.str "__weakref__" 223,.ref 36,.builtin "ExceptionGroup.__weakref__",.none] }
def Vs (P:Params):Obj:={ cls:=.type "super",data:=Data.fields #[.ref 36,.ref 36,.ref 36] }
def Vr (P:Params):Obj:={ cls:=.type "builtin_function_or_method",data:=Data.fields #[.builtin "object.__init_subclass__",.ref 36] }
def Ot (P:Params):Obj:=(tq #[.ref 36])
def Vq (P:Params):Obj:={ cls:=.type "builtin_function_or_method",data:=Data.fields #[.builtin "type.__prepare__",.type "type"] }
def Vp (P:Params):Obj:={ cls:=.type "dict",data:=Data.dict #[en P "__module__" 235 (.str "sluice.errors" 208),en P "__qualname__" 237 (.str "NoRiver" 236),en P "__firstlineno__" 239 (.int 12 238),en P "__static_attributes__" 240 (.ref 47)] 4 }
def Vo (P:Params):Obj:=(tq #[])
def Vn (P:Params):Obj:={ cls:=.none,data:=Data.fields #[] }
def Vm (P:Params):Obj:=(fc #[.str "NoRiver" 230,.str "NoRiver" 231,cp 232,.int 12 0,.int 0 0,.int 0 0,.int 0 0,.int 0 0,.ref 43,.bool false,.int 181 0,.ref 44,.none,.none,.none,.none,.int 233 0,.int 12 0,cp 234])
def Vl (P:Params):Obj:={ cls:=.type "frame",slots:=#[some (.ref 45),some (.ref 3),some (.ref 42),none,some (.str "sluice.errors" 208),none,some (.ref 0)] }
def Oh (P:Params):Obj:=(tq #[])
def Og (P:Params):Obj:={ cls:=.type "dict",data:=Data.dict #[en P "__module__" 235 (.str "sluice.errors" 208),en P "__firstlineno__" 239 (.int 12 238),en P "__static_attributes__" 240 (.ref 47),en P "__doc__" 241 .none] 2 }
def Oe (P:Params):Obj:={ cls:=.type "type",data:=Data.cls { name:="NoRiver",bases:=[.ref 36],mro:=[.ref 49,.ref 36,.type "ValueError",.type "Exception",.type "BaseException",.type "object"],ns:=48,qualname:="NoRiver" },slots:=#[some (.ref 40),none,some (.str "NoRiver" 228),some (.str "NoRiver" 236),some (.builtin "ValueError.__new__"),some (.bool true)] }
def Vk (P:Params):Obj:={ cls:=.type "super",data:=Data.fields #[.ref 49,.ref 49,.ref 49] }
def Vj (P:Params):Obj:={ cls:=.type "builtin_function_or_method",data:=Data.fields #[.builtin "object.__init_subclass__",.ref 49] }
def Od (P:Params):Obj:=(tq #[.ref 36])
def Vi (P:Params):Obj:={ cls:=.type "builtin_function_or_method",data:=Data.fields #[.builtin "type.__prepare__",.type "type"] }
def Vh (P:Params):Obj:={ cls:=.type "dict",data:=Data.dict #[en P "__module__" 251 (.str "sluice.errors" 208),en P "__qualname__" 253 (.str "NoLicence" 252),en P "__firstlineno__" 255 (.int 14 254),en P "__static_attributes__" 256 (.ref 59)] 4 }
def Vg (P:Params):Obj:=(tq #[])
def Vf (P:Params):Obj:={ cls:=.none,data:=Data.fields #[] }
def Ve (P:Params):Obj:=(fc #[.str "NoLicence" 246,.str "NoLicence" 247,cp 248,.int 14 0,.int 0 0,.int 0 0,.int 0 0,.int 0 0,.ref 55,.bool false,.int 181 0,.ref 56,.none,.none,.none,.none,.int 249 0,.int 14 0,cp 250])
def Vd (P:Params):Obj:={ cls:=.type "frame",slots:=#[some (.ref 57),some (.ref 3),some (.ref 54),none,some (.str "sluice.errors" 208),none,some (.ref 0)] }
def Oc (P:Params):Obj:=(tq #[])
def Ob (P:Params):Obj:={ cls:=.type "dict",data:=Data.dict #[en P "__module__" 251 (.str "sluice.errors" 208),en P "__firstlineno__" 255 (.int 14 254),en P "__static_attributes__" 256 (.ref 59),en P "__doc__" 257 .none] 2 }
def Oa (P:Params):Obj:={ cls:=.type "type",data:=Data.cls { name:="NoLicence",bases:=[.ref 36],mro:=[.ref 61,.ref 36,.type "ValueError",.type "Exception",.type "BaseException",.type "object"],ns:=60,qualname:="NoLicence" },slots:=#[some (.ref 52),none,some (.str "NoLicence" 244),some (.str "NoLicence" 252),some (.builtin "ValueError.__new__"),some (.bool true)] }
def Vc (P:Params):Obj:={ cls:=.type "super",data:=Data.fields #[.ref 61,.ref 61,.ref 61] }
def Vb (P:Params):Obj:={ cls:=.type "builtin_function_or_method",data:=Data.fields #[.builtin "object.__init_subclass__",.ref 61] }
def N8 (P:Params):Obj:=(tq #[.ref 36])
def Va (P:Params):Obj:={ cls:=.type "builtin_function_or_method",data:=Data.fields #[.builtin "type.__prepare__",.type "type"] }
def U9 (P:Params):Obj:={ cls:=.type "dict",data:=Data.dict #[en P "__module__" 267 (.str "sluice.errors" 208),en P "__qualname__" 269 (.str "NoNumber" 268),en P "__firstlineno__" 271 (.int 16 270),en P "__static_attributes__" 272 (.ref 71)] 4 }
def U8 (P:Params):Obj:=(tq #[])
def U7 (P:Params):Obj:={ cls:=.none,data:=Data.fields #[] }
def U6 (P:Params):Obj:=(fc #[.str "NoNumber" 262,.str "NoNumber" 263,cp 264,.int 16 0,.int 0 0,.int 0 0,.int 0 0,.int 0 0,.ref 67,.bool false,.int 181 0,.ref 68,.none,.none,.none,.none,.int 265 0,.int 16 0,cp 266])
def U5 (P:Params):Obj:={ cls:=.type "frame",slots:=#[some (.ref 69),some (.ref 3),some (.ref 66),none,some (.str "sluice.errors" 208),none,some (.ref 0)] }
def N7 (P:Params):Obj:=(tq #[])
def N6 (P:Params):Obj:={ cls:=.type "dict",data:=Data.dict #[en P "__module__" 267 (.str "sluice.errors" 208),en P "__firstlineno__" 271 (.int 16 270),en P "__static_attributes__" 272 (.ref 71),en P "__doc__" 273 .none] 2 }
def N5 (P:Params):Obj:={ cls:=.type "type",data:=Data.cls { name:="NoNumber",bases:=[.ref 36],mro:=[.ref 73,.ref 36,.type "ValueError",.type "Exception",.type "BaseException",.type "object"],ns:=72,qualname:="NoNumber" },slots:=#[some (.ref 64),none,some (.str "NoNumber" 260),some (.str "NoNumber" 268),some (.builtin "ValueError.__new__"),some (.bool true)] }
def U4 (P:Params):Obj:={ cls:=.type "super",data:=Data.fields #[.ref 73,.ref 73,.ref 73] }
def U3 (P:Params):Obj:={ cls:=.type "builtin_function_or_method",data:=Data.fields #[.builtin "object.__init_subclass__",.ref 73] }
def NZ (P:Params):Obj:=(tq #[.ref 36])
def U0 (P:Params):Obj:={ cls:=.type "builtin_function_or_method",data:=Data.fields #[.builtin "type.__prepare__",.type "type"] }
def UW (P:Params):Obj:={ cls:=.type "dict",data:=Data.dict #[en P "__module__" 283 (.str "sluice.errors" 208),en P "__qualname__" 285 (.str "NoHolder" 284),en P "__firstlineno__" 287 (.int 18 286),en P "__static_attributes__" 288 (.ref 83)] 4 }
def UL (P:Params):Obj:=(tq #[])
def UJ (P:Params):Obj:={ cls:=.none,data:=Data.fields #[] }
def UG (P:Params):Obj:=(fc #[.str "NoHolder" 278,.str "NoHolder" 279,cp 280,.int 18 0,.int 0 0,.int 0 0,.int 0 0,.int 0 0,.ref 79,.bool false,.int 181 0,.ref 80,.none,.none,.none,.none,.int 281 0,.int 18 0,cp 282])
def Uz (P:Params):Obj:={ cls:=.type "frame",slots:=#[some (.ref 81),some (.ref 3),some (.ref 78),none,some (.str "sluice.errors" 208),none,some (.ref 0)] }
def NT (P:Params):Obj:=(tq #[])
def NQ (P:Params):Obj:={ cls:=.type "dict",data:=Data.dict #[en P "__module__" 283 (.str "sluice.errors" 208),en P "__firstlineno__" 287 (.int 18 286),en P "__static_attributes__" 288 (.ref 83),en P "__doc__" 289 .none] 2 }
def NP (P:Params):Obj:={ cls:=.type "type",data:=Data.cls { name:="NoHolder",bases:=[.ref 36],mro:=[.ref 85,.ref 36,.type "ValueError",.type "Exception",.type "BaseException",.type "object"],ns:=84,qualname:="NoHolder" },slots:=#[some (.ref 76),none,some (.str "NoHolder" 276),some (.str "NoHolder" 284),some (.builtin "ValueError.__new__"),some (.bool true)] }
def Uy (P:Params):Obj:={ cls:=.type "super",data:=Data.fields #[.ref 85,.ref 85,.ref 85] }
def Ux (P:Params):Obj:={ cls:=.type "builtin_function_or_method",data:=Data.fields #[.builtin "object.__init_subclass__",.ref 85] }
def NK (P:Params):Obj:=(tq #[.ref 36])
def Uw (P:Params):Obj:={ cls:=.type "builtin_function_or_method",data:=Data.fields #[.builtin "type.__prepare__",.type "type"] }
def Uv (P:Params):Obj:={ cls:=.type "dict",data:=Data.dict #[en P "__module__" 299 (.str "sluice.errors" 208),en P "__qualname__" 301 (.str "NotYours" 300),en P "__firstlineno__" 303 (.int 20 302),en P "__static_attributes__" 304 (.ref 95)] 4 }
def Uu (P:Params):Obj:=(tq #[])
def Ut (P:Params):Obj:={ cls:=.none,data:=Data.fields #[] }
def Us (P:Params):Obj:=(fc #[.str "NotYours" 294,.str "NotYours" 295,cp 296,.int 20 0,.int 0 0,.int 0 0,.int 0 0,.int 0 0,.ref 91,.bool false,.int 181 0,.ref 92,.none,.none,.none,.none,.int 297 0,.int 20 0,cp 298])
def Ur (P:Params):Obj:={ cls:=.type "frame",slots:=#[some (.ref 93),some (.ref 3),some (.ref 90),none,some (.str "sluice.errors" 208),none,some (.ref 0)] }
def Nz (P:Params):Obj:=(tq #[])
def Ny (P:Params):Obj:={ cls:=.type "dict",data:=Data.dict #[en P "__module__" 299 (.str "sluice.errors" 208),en P "__firstlineno__" 303 (.int 20 302),en P "__static_attributes__" 304 (.ref 95),en P "__doc__" 305 .none] 2 }
def Kg (P:Params):Obj:={ cls:=.type "type",data:=Data.cls { name:="NotYours",bases:=[.ref 36],mro:=[.ref 97,.ref 36,.type "ValueError",.type "Exception",.type "BaseException",.type "object"],ns:=96,qualname:="NotYours" },slots:=#[some (.ref 88),none,some (.str "NotYours" 292),some (.str "NotYours" 300),some (.builtin "ValueError.__new__"),some (.bool true)] }
def S7 (P:Params):Obj:={ cls:=.type "super",data:=Data.fields #[.ref 97,.ref 97,.ref 97] }
def S6 (P:Params):Obj:={ cls:=.type "builtin_function_or_method",data:=Data.fields #[.builtin "object.__init_subclass__",.ref 97] }
def Ke (P:Params):Obj:=(tq #[.ref 36])
def S5 (P:Params):Obj:={ cls:=.type "builtin_function_or_method",data:=Data.fields #[.builtin "type.__prepare__",.type "type"] }
def SX (P:Params):Obj:={ cls:=.type "dict",data:=Data.dict #[en P "__module__" 315 (.str "sluice.errors" 208),en P "__qualname__" 317 (.str "NotAlone" 316),en P "__firstlineno__" 319 (.int 22 318),en P "__static_attributes__" 320 (.ref 107)] 4 }
def SQ (P:Params):Obj:=(tq #[])
def SN (P:Params):Obj:={ cls:=.none,data:=Data.fields #[] }
def SM (P:Params):Obj:=(fc #[.str "NotAlone" 310,.str "NotAlone" 311,cp 312,.int 22 0,.int 0 0,.int 0 0,.int 0 0,.int 0 0,.ref 103,.bool false,.int 181 0,.ref 104,.none,.none,.none,.none,.int 313 0,.int 22 0,cp 314])
def SJ (P:Params):Obj:={ cls:=.type "frame",slots:=#[some (.ref 105),some (.ref 3),some (.ref 102),none,some (.str "sluice.errors" 208),none,some (.ref 0)] }
def Kd (P:Params):Obj:=(tq #[])
def Kc (P:Params):Obj:={ cls:=.type "dict",data:=Data.dict #[en P "__module__" 315 (.str "sluice.errors" 208),en P "__firstlineno__" 319 (.int 22 318),en P "__static_attributes__" 320 (.ref 107),en P "__doc__" 321 .none] 2 }
def Ka (P:Params):Obj:={ cls:=.type "type",data:=Data.cls { name:="NotAlone",bases:=[.ref 36],mro:=[.ref 109,.ref 36,.type "ValueError",.type "Exception",.type "BaseException",.type "object"],ns:=108,qualname:="NotAlone" },slots:=#[some (.ref 100),none,some (.str "NotAlone" 308),some (.str "NotAlone" 316),some (.builtin "ValueError.__new__"),some (.bool true)] }
def Sx (P:Params):Obj:={ cls:=.type "super",data:=Data.fields #[.ref 109,.ref 109,.ref 109] }
def Sw (P:Params):Obj:={ cls:=.type "builtin_function_or_method",data:=Data.fields #[.builtin "object.__init_subclass__",.ref 109] }
def J9 (P:Params):Obj:=(tq #[.ref 36])
def Sv (P:Params):Obj:={ cls:=.type "builtin_function_or_method",data:=Data.fields #[.builtin "type.__prepare__",.type "type"] }
def Ss (P:Params):Obj:={ cls:=.type "dict",data:=Data.dict #[en P "__module__" 331 (.str "sluice.errors" 208),en P "__qualname__" 333 (.str "TooMuch" 332),en P "__firstlineno__" 335 (.int 24 334),en P "__static_attributes__" 336 (.ref 119)] 4 }
def Sq (P:Params):Obj:=(tq #[])
def Sg (P:Params):Obj:={ cls:=.none,data:=Data.fields #[] }
def Sd (P:Params):Obj:=(fc #[.str "TooMuch" 326,.str "TooMuch" 327,cp 328,.int 24 0,.int 0 0,.int 0 0,.int 0 0,.int 0 0,.ref 115,.bool false,.int 181 0,.ref 116,.none,.none,.none,.none,.int 329 0,.int 24 0,cp 330])
def R9 (P:Params):Obj:={ cls:=.type "frame",slots:=#[some (.ref 117),some (.ref 3),some (.ref 114),none,some (.str "sluice.errors" 208),none,some (.ref 0)] }
def J8 (P:Params):Obj:=(tq #[])
def J7 (P:Params):Obj:={ cls:=.type "dict",data:=Data.dict #[en P "__module__" 331 (.str "sluice.errors" 208),en P "__firstlineno__" 335 (.int 24 334),en P "__static_attributes__" 336 (.ref 119),en P "__doc__" 337 .none] 2 }
def J6 (P:Params):Obj:={ cls:=.type "type",data:=Data.cls { name:="TooMuch",bases:=[.ref 36],mro:=[.ref 121,.ref 36,.type "ValueError",.type "Exception",.type "BaseException",.type "object"],ns:=120,qualname:="TooMuch" },slots:=#[some (.ref 112),none,some (.str "TooMuch" 324),some (.str "TooMuch" 332),some (.builtin "ValueError.__new__"),some (.bool true)] }
def R8 (P:Params):Obj:={ cls:=.type "super",data:=Data.fields #[.ref 121,.ref 121,.ref 121] }
def R7 (P:Params):Obj:={ cls:=.type "builtin_function_or_method",data:=Data.fields #[.builtin "object.__init_subclass__",.ref 121] }
def J5 (P:Params):Obj:=(tq #[.ref 36])
def R6 (P:Params):Obj:={ cls:=.type "builtin_function_or_method",data:=Data.fields #[.builtin "type.__prepare__",.type "type"] }
def R5 (P:Params):Obj:={ cls:=.type "dict",data:=Data.dict #[en P "__module__" 347 (.str "sluice.errors" 208),en P "__qualname__" 349 (.str "Full" 348),en P "__firstlineno__" 351 (.int 26 350),en P "__static_attributes__" 352 (.ref 131)] 4 }
def R3 (P:Params):Obj:=(tq #[])
def R0 (P:Params):Obj:={ cls:=.none,data:=Data.fields #[] }
def RZ (P:Params):Obj:=(fc #[.str "Full" 342,.str "Full" 343,cp 344,.int 26 0,.int 0 0,.int 0 0,.int 0 0,.int 0 0,.ref 127,.bool false,.int 181 0,.ref 128,.none,.none,.none,.none,.int 345 0,.int 26 0,cp 346])
def RW (P:Params):Obj:={ cls:=.type "frame",slots:=#[some (.ref 129),some (.ref 3),some (.ref 126),none,some (.str "sluice.errors" 208),none,some (.ref 0)] }
def J4 (P:Params):Obj:=(tq #[])
def J3 (P:Params):Obj:={ cls:=.type "dict",data:=Data.dict #[en P "__module__" 347 (.str "sluice.errors" 208),en P "__firstlineno__" 351 (.int 26 350),en P "__static_attributes__" 352 (.ref 131),en P "__doc__" 353 .none] 2 }
def J2 (P:Params):Obj:={ cls:=.type "type",data:=Data.cls { name:="Full",bases:=[.ref 36],mro:=[.ref 133,.ref 36,.type "ValueError",.type "Exception",.type "BaseException",.type "object"],ns:=132,qualname:="Full" },slots:=#[some (.ref 124),none,some (.str "Full" 340),some (.str "Full" 348),some (.builtin "ValueError.__new__"),some (.bool true)] }
def RV (P:Params):Obj:={ cls:=.type "super",data:=Data.fields #[.ref 133,.ref 133,.ref 133] }
def RT (P:Params):Obj:={ cls:=.type "builtin_function_or_method",data:=Data.fields #[.builtin "object.__init_subclass__",.ref 133] }
def J1 (P:Params):Obj:=(tq #[])
def RQ (P:Params):Obj:={ cls:=.none,data:=Data.fields #[] }
def J0 (P:Params):Obj:=(tq #[.str "below" 366,.str "start" 367,.str "reach" 368,.str "step" 369])
def JZ (P:Params):Obj:=(tq #[])
def RN (P:Params):Obj:=(pr0 "comes_to_mouth" 19)
def JX (P:Params):Obj:=(fc #[.str "comes_to_mouth" 363,.str "comes_to_mouth" 364,cp 365,.int 31 0,.int 2 0,.int 0 0,.int 0 0,.int 3 0,.ref 136,.bool true,.int 181 0,.ref 137,.none,.ref 138,.ref 139,.ref 140,.int 370 0,.int 31 0,cp 371])
def JW (P:Params):Obj:=⟨.type "function",none,.func (PySem.W.fnOf "comes_to_mouth" "comes_to_mouth" (aC (top0 19)) (aB (top0 19)) (ak (top0 19)) .none .none .none (.str "sluice.rivers" 356) none (.ref 141) .none),#[]⟩
def JV (P:Params):Obj:=(tq #[])
def RM (P:Params):Obj:={ cls:=.none,data:=Data.fields #[] }
def RL (P:Params):Obj:=(pr0 "is_river" 20)
def JT (P:Params):Obj:=(fc #[.str "is_river" 373,.str "is_river" 374,cp 375,.int 38 0,.int 1 0,.int 0 0,.int 0 0,.int 3 0,.ref 143,.bool true,.int 181 0,.ref 144,.none,.none,.none,.ref 145,.int 376 0,.int 38 0,cp 377])
def JR (P:Params):Obj:=⟨.type "function",none,.func (PySem.W.fnOf "is_river" "is_river" (aC (top0 20)) (aB (top0 20)) (ak (top0 20)) .none .none .none (.str "sluice.rivers" 356) none (.ref 146) .none),#[]⟩
def JQ (P:Params):Obj:=(tq #[])
def RK (P:Params):Obj:={ cls:=.none,data:=Data.fields #[] }
def JN (P:Params):Obj:=(tq #[.str "below" 382,.str "reach" 383,.str "way" 384])
def JM (P:Params):Obj:=(tq #[])
def RJ (P:Params):Obj:=(pr0 "way_of" 21)
def JL (P:Params):Obj:=(fc #[.str "way_of" 379,.str "way_of" 380,cp 381,.int 44 0,.int 2 0,.int 0 0,.int 0 0,.int 3 0,.ref 148,.bool true,.int 181 0,.ref 149,.none,.ref 150,.ref 151,.ref 152,.int 385 0,.int 44 0,cp 386])
def JK (P:Params):Obj:=⟨.type "function",none,.func (PySem.W.fnOf "way_of" "way_of" (aC (top0 21)) (aB (top0 21)) (ak (top0 21)) .none .none .none (.str "sluice.rivers" 356) none (.ref 153) .none),#[]⟩
def JH (P:Params):Obj:=(tq #[])
def RG (P:Params):Obj:={ cls:=.none,data:=Data.fields #[] }
def JG (P:Params):Obj:=(tq #[.str "below" 395,.str "one" 396,.str "day" 397,.str "start" 398,.str "back" 399,.str "most" 400])
def JF (P:Params):Obj:=(tq #[])
def RD (P:Params):Obj:=(pr0 "is_licence" 24)
def JD (P:Params):Obj:=(fc #[.str "is_licence" 392,.str "is_licence" 393,cp 394,.int 51 0,.int 2 0,.int 0 0,.int 0 0,.int 3 0,.ref 155,.bool true,.int 181 0,.ref 156,.none,.ref 157,.ref 158,.ref 159,.int 401 0,.int 51 0,cp 402])
def JC (P:Params):Obj:=⟨.type "function",none,.func (PySem.W.fnOf "is_licence" "is_licence" (aC (top0 24)) (aB (top0 24)) (ak (top0 24)) .none .none .none (.str "sluice.licences" 388) none (.ref 160) .none),#[]⟩
def JB (P:Params):Obj:=(tq #[])
def RB (P:Params):Obj:={ cls:=.none,data:=Data.fields #[] }
def Jz (P:Params):Obj:=(tq #[.str "one" 407])
def Jy (P:Params):Obj:=(tq #[])
def Rz (P:Params):Obj:=(pr0 "day_filed" 25)
def Jx (P:Params):Obj:=(fc #[.str "day_filed" 404,.str "day_filed" 405,cp 406,.int 56 0,.int 1 0,.int 0 0,.int 0 0,.int 3 0,.ref 162,.bool true,.int 181 0,.ref 163,.none,.ref 164,.ref 165,.ref 166,.int 408 0,.int 56 0,cp 409])
def Jw (P:Params):Obj:=⟨.type "function",none,.func (PySem.W.fnOf "day_filed" "day_filed" (aC (top0 25)) (aB (top0 25)) (ak (top0 25)) .none .none .none (.str "sluice.licences" 388) none (.ref 167) .none),#[]⟩
def Jv (P:Params):Obj:=(tq #[])
def Ry (P:Params):Obj:={ cls:=.none,data:=Data.fields #[] }
def Ju (P:Params):Obj:=(tq #[.str "one" 414])
def Jt (P:Params):Obj:=(tq #[])
def Rx (P:Params):Obj:=(pr0 "most_of" 26)
def Js (P:Params):Obj:=(fc #[.str "most_of" 411,.str "most_of" 412,cp 413,.int 58 0,.int 1 0,.int 0 0,.int 0 0,.int 3 0,.ref 169,.bool true,.int 181 0,.ref 170,.none,.ref 171,.ref 172,.ref 173,.int 415 0,.int 58 0,cp 416])
def Jr (P:Params):Obj:=⟨.type "function",none,.func (PySem.W.fnOf "most_of" "most_of" (aC (top0 26)) (aB (top0 26)) (ak (top0 26)) .none .none .none (.str "sluice.licences" 388) none (.ref 174) .none),#[]⟩
def Jq (P:Params):Obj:=(tq #[])
def Ru (P:Params):Obj:={ cls:=.none,data:=Data.fields #[] }
def Jp (P:Params):Obj:=(tq #[.str "one" 421,.str "start" 422])
def Jo (P:Params):Obj:=(tq #[])
def Rt (P:Params):Obj:=(pr0 "with_start" 27)
def Jm (P:Params):Obj:=(fc #[.str "with_start" 418,.str "with_start" 419,cp 420,.int 60 0,.int 2 0,.int 0 0,.int 0 0,.int 3 0,.ref 176,.bool true,.int 181 0,.ref 177,.none,.ref 178,.ref 179,.ref 180,.int 423 0,.int 60 0,cp 424])
def Jl (P:Params):Obj:=⟨.type "function",none,.func (PySem.W.fnOf "with_start" "with_start" (aC (top0 27)) (aB (top0 27)) (ak (top0 27)) .none .none .none (.str "sluice.licences" 388) none (.ref 181) .none),#[]⟩
def Jk (P:Params):Obj:=(tq #[])
def Rr (P:Params):Obj:={ cls:=.none,data:=Data.fields #[] }
def Jj (P:Params):Obj:=(tq #[.str "one" 429,.str "most" 430])
def Ji (P:Params):Obj:=(tq #[])
def Rq (P:Params):Obj:=(pr0 "with_most" 28)
def Jh (P:Params):Obj:=(fc #[.str "with_most" 426,.str "with_most" 427,cp 428,.int 62 0,.int 2 0,.int 0 0,.int 0 0,.int 3 0,.ref 183,.bool true,.int 181 0,.ref 184,.none,.ref 185,.ref 186,.ref 187,.int 431 0,.int 62 0,cp 432])
def Jg (P:Params):Obj:=⟨.type "function",none,.func (PySem.W.fnOf "with_most" "with_most" (aC (top0 28)) (aB (top0 28)) (ak (top0 28)) .none .none .none (.str "sluice.licences" 388) none (.ref 188) .none),#[]⟩
def Jf (P:Params):Obj:=(tq #[])
def Rp (P:Params):Obj:={ cls:=.none,data:=Data.fields #[] }
def Je (P:Params):Obj:=(tq #[.str "name" 441])
def Jd (P:Params):Obj:=(tq #[])
def Ro (P:Params):Obj:=(pr0 "look_at_name" 31)
def Jc (P:Params):Obj:=(fc #[.str "look_at_name" 438,.str "look_at_name" 439,cp 440,.int 66 0,.int 1 0,.int 0 0,.int 0 0,.int 3 0,.ref 190,.bool true,.int 181 0,.ref 191,.none,.ref 192,.ref 193,.ref 194,.int 442 0,.int 66 0,cp 443])
def Jb (P:Params):Obj:=⟨.type "function",none,.func (PySem.W.fnOf "look_at_name" "look_at_name" (aC (top0 31)) (aB (top0 31)) (ak (top0 31)) .none .none .none (.str "sluice.rolls" 434) none (.ref 195) .none),#[]⟩
def Rm (P:Params):Obj:=(tq #[])
def Rk (P:Params):Obj:={ cls:=.type "builtin_function_or_method",data:=Data.fields #[.builtin "type.__prepare__",.type "type"] }
def Rj (P:Params):Obj:={ cls:=.type "dict",data:=Data.dict #[en P "__module__" 452 (.str "sluice.rolls" 434),en P "__qualname__" 454 (.str "Roll" 453),en P "__firstlineno__" 456 (.int 69 455),en P "__init__" 464 (.ref 210),en P "today" 471 (.ref 217),en P "roll" 478 (.ref 224),en P "holders" 485 (.ref 231),en P "deeds" 492 (.ref 238),en P "turn" 499 (.ref 245),en P "file" 512 (.ref 253),en P "sell" 522 (.ref 260),en P "part" 534 (.ref 267),en P "drop" 543 (.ref 274),en P "move" 554 (.ref 281),en P "look_move" 563 (.ref 288),en P "lapse" 569 (.ref 293),en P "enter" 578 (.ref 300),en P "is_alone" 584 (.ref 305),en P "look_at_number" 592 (.ref 312),en P "look_at_holder" 601 (.ref 319),en P "look_at_room" 608 (.ref 326),en P "__static_attributes__" 614 (.ref 327)] 22 }
def Ri (P:Params):Obj:=(tq #[])
def Rh (P:Params):Obj:={ cls:=.none,data:=Data.fields #[.int 71 0,.int 4 0,.ref 209,.int 80 0,.int 4 0,.ref 216,.int 83 0,.int 4 0,.ref 223,.int 86 0,.int 4 0,.ref 230,.int 89 0,.int 4 0,.ref 237,.int 92 0,.int 4 0,.ref 244,.int 96 0,.int 4 0,.ref 252,.int 106 0,.int 4 0,.ref 259,.int 112 0,.int 4 0,.ref 266,.int 125 0,.int 4 0,.ref 273,.int 130 0,.int 4 0,.ref 280,.int 139 0,.int 4 0,.ref 287,.int 142 0,.int 4 0,.ref 292,.int 156 0,.int 4 0,.ref 299,.int 161 0,.int 4 0,.ref 304,.int 166 0,.int 4 0,.ref 311,.int 170 0,.int 4 0,.ref 318,.int 175 0,.int 4 0,.ref 325] }
def Rg (P:Params):Obj:=(fc #[.str "Roll" 447,.str "Roll" 448,cp 449,.int 69 0,.int 0 0,.int 0 0,.int 0 0,.int 0 0,.ref 200,.bool false,.int 181 0,.ref 201,.none,.none,.none,.none,.int 450 0,.int 69 0,cp 451])
def Rf (P:Params):Obj:={ cls:=.type "frame",slots:=#[some (.ref 202),some (.ref 3),some (.ref 199),none,some (.str "sluice.rolls" 434),none,some (.ref 0)] }
def Ja (P:Params):Obj:=(tq #[])
def Rc (P:Params):Obj:={ cls:=.none,data:=Data.fields #[] }
def IW (P:Params):Obj:=(tq #[.str "self" 460,.str "below" 461])
def IV (P:Params):Obj:=(tq #[])
def Ra (P:Params):Obj:={ cls:=.none,data:=.func { name:="__init__",qualname:="Roll.__init__",params:=aC (inClass (top0 32) 0),body:=.stmts (aB (inClass (top0 32) 0)),scope:=ak (inClass (top0 32) 0),globals:=0,closure:=[],defaults:=.none,kwdefaults:=.none } }
def IK (P:Params):Obj:=(fc #[.str "__init__" 457,.str "Roll.__init__" 458,cp 459,.int 71 0,.int 2 0,.int 0 0,.int 0 0,.int 3 0,.ref 204,.bool true,.int 181 0,.ref 205,.none,.ref 206,.ref 207,.ref 208,.int 462 0,.int 71 0,cp 463])
def Iz (P:Params):Obj:=⟨.type "function",none,.func (PySem.W.fnOf "__init__" "Roll.__init__" (aC (inClass (top0 32) 0)) (aB (inClass (top0 32) 0)) (ak (inClass (top0 32) 0)) .none .none .none (.str "sluice.rolls" 434) none (.ref 209) .none),#[]⟩
def Iw (P:Params):Obj:=(tq #[])
def Q9 (P:Params):Obj:={ cls:=.none,data:=Data.fields #[] }
def Iu (P:Params):Obj:=(tq #[.str "self" 468])
def Ir (P:Params):Obj:=(tq #[])
def Q8 (P:Params):Obj:={ cls:=.none,data:=.func { name:="today",qualname:="Roll.today",params:=aC (inClass (top0 32) 1),body:=.stmts (aB (inClass (top0 32) 1)),scope:=ak (inClass (top0 32) 1),globals:=0,closure:=[],defaults:=.none,kwdefaults:=.none } }
def Ip (P:Params):Obj:=(fc #[.str "today" 465,.str "Roll.today" 466,cp 467,.int 80 0,.int 1 0,.int 0 0,.int 0 0,.int 3 0,.ref 211,.bool true,.int 181 0,.ref 212,.none,.ref 213,.ref 214,.ref 215,.int 469 0,.int 80 0,cp 470])
def Io (P:Params):Obj:=⟨.type "function",none,.func (PySem.W.fnOf "today" "Roll.today" (aC (inClass (top0 32) 1)) (aB (inClass (top0 32) 1)) (ak (inClass (top0 32) 1)) .none .none .none (.str "sluice.rolls" 434) none (.ref 216) .none),#[]⟩
def Im (P:Params):Obj:=(tq #[])
def Q7 (P:Params):Obj:={ cls:=.none,data:=Data.fields #[] }
def Il (P:Params):Obj:=(tq #[.str "self" 475])
def Ik (P:Params):Obj:=(tq #[])
def Q6 (P:Params):Obj:={ cls:=.none,data:=.func { name:="roll",qualname:="Roll.roll",params:=aC (inClass (top0 32) 2),body:=.stmts (aB (inClass (top0 32) 2)),scope:=ak (inClass (top0 32) 2),globals:=0,closure:=[],defaults:=.none,kwdefaults:=.none } }
def Ij (P:Params):Obj:=(fc #[.str "roll" 472,.str "Roll.roll" 473,cp 474,.int 83 0,.int 1 0,.int 0 0,.int 0 0,.int 3 0,.ref 218,.bool true,.int 181 0,.ref 219,.none,.ref 220,.ref 221,.ref 222,.int 476 0,.int 83 0,cp 477])
def Ii (P:Params):Obj:=⟨.type "function",none,.func (PySem.W.fnOf "roll" "Roll.roll" (aC (inClass (top0 32) 2)) (aB (inClass (top0 32) 2)) (ak (inClass (top0 32) 2)) .none .none .none (.str "sluice.rolls" 434) none (.ref 223) .none),#[]⟩
def Ih (P:Params):Obj:=(tq #[])
def Q5 (P:Params):Obj:={ cls:=.none,data:=Data.fields #[] }
def Ig (P:Params):Obj:=(tq #[.str "self" 482])
def Ie (P:Params):Obj:=(tq #[])
def QZ (P:Params):Obj:={ cls:=.none,data:=.func { name:="holders",qualname:="Roll.holders",params:=aC (inClass (top0 32) 3),body:=.stmts (aB (inClass (top0 32) 3)),scope:=ak (inClass (top0 32) 3),globals:=0,closure:=[],defaults:=.none,kwdefaults:=.none } }
def Ib (P:Params):Obj:=(fc #[.str "holders" 479,.str "Roll.holders" 480,cp 481,.int 86 0,.int 1 0,.int 0 0,.int 0 0,.int 3 0,.ref 225,.bool true,.int 181 0,.ref 226,.none,.ref 227,.ref 228,.ref 229,.int 483 0,.int 86 0,cp 484])
def Ia (P:Params):Obj:=⟨.type "function",none,.func (PySem.W.fnOf "holders" "Roll.holders" (aC (inClass (top0 32) 3)) (aB (inClass (top0 32) 3)) (ak (inClass (top0 32) 3)) .none .none .none (.str "sluice.rolls" 434) none (.ref 230) .none),#[]⟩
def HY (P:Params):Obj:=(tq #[])
def QX (P:Params):Obj:={ cls:=.none,data:=Data.fields #[] }
def HX (P:Params):Obj:=(tq #[.str "self" 489])
def HW (P:Params):Obj:=(tq #[])
def QW (P:Params):Obj:={ cls:=.none,data:=.func { name:="deeds",qualname:="Roll.deeds",params:=aC (inClass (top0 32) 4),body:=.stmts (aB (inClass (top0 32) 4)),scope:=ak (inClass (top0 32) 4),globals:=0,closure:=[],defaults:=.none,kwdefaults:=.none } }
def HS (P:Params):Obj:=(fc #[.str "deeds" 486,.str "Roll.deeds" 487,cp 488,.int 89 0,.int 1 0,.int 0 0,.int 0 0,.int 3 0,.ref 232,.bool true,.int 181 0,.ref 233,.none,.ref 234,.ref 235,.ref 236,.int 490 0,.int 89 0,cp 491])
def HN (P:Params):Obj:=⟨.type "function",none,.func (PySem.W.fnOf "deeds" "Roll.deeds" (aC (inClass (top0 32) 4)) (aB (inClass (top0 32) 4)) (ak (inClass (top0 32) 4)) .none .none .none (.str "sluice.rolls" 434) none (.ref 237) .none),#[]⟩
def HJ (P:Params):Obj:=(tq #[])
def QT (P:Params):Obj:={ cls:=.none,data:=Data.fields #[] }
def HF (P:Params):Obj:=(tq #[.str "self" 496])
def HD (P:Params):Obj:=(tq #[])
def QS (P:Params):Obj:={ cls:=.none,data:=.func { name:="turn",qualname:="Roll.turn",params:=aC (inClass (top0 32) 5),body:=.stmts (aB (inClass (top0 32) 5)),scope:=ak (inClass (top0 32) 5),globals:=0,closure:=[],defaults:=.none,kwdefaults:=.none } }
def HB (P:Params):Obj:=(fc #[.str "turn" 493,.str "Roll.turn" 494,cp 495,.int 92 0,.int 1 0,.int 0 0,.int 0 0,.int 3 0,.ref 239,.bool true,.int 181 0,.ref 240,.none,.ref 241,.ref 242,.ref 243,.int 497 0,.int 92 0,cp 498])
def Hz (P:Params):Obj:=⟨.type "function",none,.func (PySem.W.fnOf "turn" "Roll.turn" (aC (inClass (top0 32) 5)) (aB (inClass (top0 32) 5)) (ak (inClass (top0 32) 5)) .none .none .none (.str "sluice.rolls" 434) none (.ref 244) .none),#[]⟩
def Hy (P:Params):Obj:=(tq #[.none])
def Hx (P:Params):Obj:=(tq #[])
def QL (P:Params):Obj:={ cls:=.none,data:=Data.fields #[] }
def Hw (P:Params):Obj:=(tq #[.str "self" 503,.str "holder" 504,.str "start" 505,.str "most" 506,.str "back" 507,.str "stop" 508,.str "one" 509])
def Hv (P:Params):Obj:=(tq #[])
def QK (P:Params):Obj:={ cls:=.none,data:=.func { name:="file",qualname:="Roll.file",params:=aC (inClass (top0 32) 6),body:=.stmts (aB (inClass (top0 32) 6)),scope:=ak (inClass (top0 32) 6),globals:=0,closure:=[],defaults:=.none,kwdefaults:=.none } }
def Hu (P:Params):Obj:=(fc #[.str "file" 500,.str "Roll.file" 501,cp 502,.int 96 0,.int 5 0,.int 0 0,.int 0 0,.int 3 0,.ref 247,.bool true,.int 181 0,.ref 248,.none,.ref 249,.ref 250,.ref 251,.int 510 0,.int 96 0,cp 511])
def Ht (P:Params):Obj:=⟨.type "function",none,.func (PySem.W.fnOf "file" "Roll.file" (aC (inClass (top0 32) 6)) (aB (inClass (top0 32) 6)) (ak (inClass (top0 32) 6)) (.ref 246) .none .none (.str "sluice.rolls" 434) none (.ref 252) .none),#[]⟩
def Hs (P:Params):Obj:=(tq #[])
def QJ (P:Params):Obj:={ cls:=.none,data:=Data.fields #[] }
def Hr (P:Params):Obj:=(tq #[.str "self" 516,.str "number" 517,.str "holder" 518,.str "to" 519])
def Hq (P:Params):Obj:=(tq #[])
def QH (P:Params):Obj:={ cls:=.none,data:=.func { name:="sell",qualname:="Roll.sell",params:=aC (inClass (top0 32) 7),body:=.stmts (aB (inClass (top0 32) 7)),scope:=ak (inClass (top0 32) 7),globals:=0,closure:=[],defaults:=.none,kwdefaults:=.none } }
def Ho (P:Params):Obj:=(fc #[.str "sell" 513,.str "Roll.sell" 514,cp 515,.int 106 0,.int 4 0,.int 0 0,.int 0 0,.int 3 0,.ref 254,.bool true,.int 181 0,.ref 255,.none,.ref 256,.ref 257,.ref 258,.int 520 0,.int 106 0,cp 521])
def Hl (P:Params):Obj:=⟨.type "function",none,.func (PySem.W.fnOf "sell" "Roll.sell" (aC (inClass (top0 32) 7)) (aB (inClass (top0 32) 7)) (ak (inClass (top0 32) 7)) .none .none .none (.str "sluice.rolls" 434) none (.ref 259) .none),#[]⟩
def Hj (P:Params):Obj:=(tq #[])
def QG (P:Params):Obj:={ cls:=.none,data:=Data.fields #[] }
def Hi (P:Params):Obj:=(tq #[.str "self" 526,.str "number" 527,.str "holder" 528,.str "most" 529,.str "to" 530,.str "one" 531])
def Hh (P:Params):Obj:=(tq #[])
def QF (P:Params):Obj:={ cls:=.none,data:=.func { name:="part",qualname:="Roll.part",params:=aC (inClass (top0 32) 8),body:=.stmts (aB (inClass (top0 32) 8)),scope:=ak (inClass (top0 32) 8),globals:=0,closure:=[],defaults:=.none,kwdefaults:=.none } }
def Hg (P:Params):Obj:=(fc #[.str "part" 523,.str "Roll.part" 524,cp 525,.int 112 0,.int 5 0,.int 0 0,.int 0 0,.int 3 0,.ref 261,.bool true,.int 181 0,.ref 262,.none,.ref 263,.ref 264,.ref 265,.int 532 0,.int 112 0,cp 533])
def G9 (P:Params):Obj:=⟨.type "function",none,.func (PySem.W.fnOf "part" "Roll.part" (aC (inClass (top0 32) 8)) (aB (inClass (top0 32) 8)) (ak (inClass (top0 32) 8)) .none .none .none (.str "sluice.rolls" 434) none (.ref 266) .none),#[]⟩
def G8 (P:Params):Obj:=(tq #[])
def QD (P:Params):Obj:={ cls:=.none,data:=Data.fields #[] }
def G7 (P:Params):Obj:=(tq #[.str "self" 538,.str "number" 539,.str "holder" 540])
def G6 (P:Params):Obj:=(tq #[])
def QC (P:Params):Obj:={ cls:=.none,data:=.func { name:="drop",qualname:="Roll.drop",params:=aC (inClass (top0 32) 9),body:=.stmts (aB (inClass (top0 32) 9)),scope:=ak (inClass (top0 32) 9),globals:=0,closure:=[],defaults:=.none,kwdefaults:=.none } }
def G5 (P:Params):Obj:=(fc #[.str "drop" 535,.str "Roll.drop" 536,cp 537,.int 125 0,.int 3 0,.int 0 0,.int 0 0,.int 3 0,.ref 268,.bool true,.int 181 0,.ref 269,.none,.ref 270,.ref 271,.ref 272,.int 541 0,.int 125 0,cp 542])
def G4 (P:Params):Obj:=⟨.type "function",none,.func (PySem.W.fnOf "drop" "Roll.drop" (aC (inClass (top0 32) 9)) (aB (inClass (top0 32) 9)) (ak (inClass (top0 32) 9)) .none .none .none (.str "sluice.rolls" 434) none (.ref 273) .none),#[]⟩
def G3 (P:Params):Obj:=(tq #[])
def QB (P:Params):Obj:={ cls:=.none,data:=Data.fields #[] }
def GZ (P:Params):Obj:=(tq #[.str "self" 547,.str "number" 548,.str "holder" 549,.str "start" 550,.str "one" 551])
def GX (P:Params):Obj:=(tq #[])
def Qy (P:Params):Obj:={ cls:=.none,data:=.func { name:="move",qualname:="Roll.move",params:=aC (inClass (top0 32) 10),body:=.stmts (aB (inClass (top0 32) 10)),scope:=ak (inClass (top0 32) 10),globals:=0,closure:=[],defaults:=.none,kwdefaults:=.none } }
def GR (P:Params):Obj:=(fc #[.str "move" 544,.str "Roll.move" 545,cp 546,.int 130 0,.int 4 0,.int 0 0,.int 0 0,.int 3 0,.ref 275,.bool true,.int 181 0,.ref 276,.none,.ref 277,.ref 278,.ref 279,.int 552 0,.int 130 0,cp 553])
def GQ (P:Params):Obj:=⟨.type "function",none,.func (PySem.W.fnOf "move" "Roll.move" (aC (inClass (top0 32) 10)) (aB (inClass (top0 32) 10)) (ak (inClass (top0 32) 10)) .none .none .none (.str "sluice.rolls" 434) none (.ref 280) .none),#[]⟩
def GP (P:Params):Obj:=(tq #[])
def Qx (P:Params):Obj:={ cls:=.none,data:=Data.fields #[] }
def GK (P:Params):Obj:=(tq #[.str "self" 558,.str "number" 559,.str "start" 560])
def GJ (P:Params):Obj:=(tq #[])
def Qw (P:Params):Obj:={ cls:=.none,data:=.func { name:="look_move",qualname:="Roll.look_move",params:=aC (inClass (top0 32) 11),body:=.stmts (aB (inClass (top0 32) 11)),scope:=ak (inClass (top0 32) 11),globals:=0,closure:=[],defaults:=.none,kwdefaults:=.none } }
def GF (P:Params):Obj:=(fc #[.str "look_move" 555,.str "Roll.look_move" 556,cp 557,.int 139 0,.int 3 0,.int 0 0,.int 0 0,.int 3 0,.ref 282,.bool true,.int 181 0,.ref 283,.none,.ref 284,.ref 285,.ref 286,.int 561 0,.int 139 0,cp 562])
def GD (P:Params):Obj:=⟨.type "function",none,.func (PySem.W.fnOf "look_move" "Roll.look_move" (aC (inClass (top0 32) 11)) (aB (inClass (top0 32) 11)) (ak (inClass (top0 32) 11)) .none .none .none (.str "sluice.rolls" 434) none (.ref 287) .none),#[]⟩
def GC (P:Params):Obj:=(tq #[])
def Qu (P:Params):Obj:={ cls:=.none,data:=Data.fields #[] }
def Qt (P:Params):Obj:={ cls:=.none,data:=.func { name:="lapse",qualname:="Roll.lapse",params:=aC (inClass (top0 32) 12),body:=.stmts (aB (inClass (top0 32) 12)),scope:=ak (inClass (top0 32) 12),globals:=0,closure:=[],defaults:=.none,kwdefaults:=.none } }
def Gz (P:Params):Obj:=(fc #[.str "lapse" 564,.str "Roll.lapse" 565,cp 566,.int 142 0,.int 2 0,.int 0 0,.int 0 0,.int 3 0,.ref 289,.bool true,.int 181 0,.ref 290,.none,.none,.none,.ref 291,.int 567 0,.int 142 0,cp 568])
def Gy (P:Params):Obj:=⟨.type "function",none,.func (PySem.W.fnOf "lapse" "Roll.lapse" (aC (inClass (top0 32) 12)) (aB (inClass (top0 32) 12)) (ak (inClass (top0 32) 12)) .none .none .none (.str "sluice.rolls" 434) none (.ref 292) .none),#[]⟩
def Gx (P:Params):Obj:=(tq #[])
def Qs (P:Params):Obj:={ cls:=.none,data:=Data.fields #[] }
def Gw (P:Params):Obj:=(tq #[.str "self" 573,.str "one" 574,.str "holder" 575])
def Gv (P:Params):Obj:=(tq #[])
def Qp (P:Params):Obj:={ cls:=.none,data:=.func { name:="enter",qualname:="Roll.enter",params:=aC (inClass (top0 32) 13),body:=.stmts (aB (inClass (top0 32) 13)),scope:=ak (inClass (top0 32) 13),globals:=0,closure:=[],defaults:=.none,kwdefaults:=.none } }
def Gu (P:Params):Obj:=(fc #[.str "enter" 570,.str "Roll.enter" 571,cp 572,.int 156 0,.int 3 0,.int 0 0,.int 0 0,.int 3 0,.ref 294,.bool true,.int 181 0,.ref 295,.none,.ref 296,.ref 297,.ref 298,.int 576 0,.int 156 0,cp 577])
def Gs (P:Params):Obj:=⟨.type "function",none,.func (PySem.W.fnOf "enter" "Roll.enter" (aC (inClass (top0 32) 13)) (aB (inClass (top0 32) 13)) (ak (inClass (top0 32) 13)) .none .none .none (.str "sluice.rolls" 434) none (.ref 299) .none),#[]⟩
def Gq (P:Params):Obj:=(tq #[])
def Qo (P:Params):Obj:={ cls:=.none,data:=Data.fields #[] }
def Qn (P:Params):Obj:={ cls:=.none,data:=.func { name:="is_alone",qualname:="Roll.is_alone",params:=aC (inClass (top0 32) 14),body:=.stmts (aB (inClass (top0 32) 14)),scope:=ak (inClass (top0 32) 14),globals:=0,closure:=[],defaults:=.none,kwdefaults:=.none } }
def Gp (P:Params):Obj:=(fc #[.str "is_alone" 579,.str "Roll.is_alone" 580,cp 581,.int 161 0,.int 2 0,.int 0 0,.int 0 0,.int 3 0,.ref 301,.bool true,.int 181 0,.ref 302,.none,.none,.none,.ref 303,.int 582 0,.int 161 0,cp 583])
def Gn (P:Params):Obj:=⟨.type "function",none,.func (PySem.W.fnOf "is_alone" "Roll.is_alone" (aC (inClass (top0 32) 14)) (aB (inClass (top0 32) 14)) (ak (inClass (top0 32) 14)) .none .none .none (.str "sluice.rolls" 434) none (.ref 304) .none),#[]⟩
def Gm (P:Params):Obj:=(tq #[])
def Qm (P:Params):Obj:={ cls:=.none,data:=Data.fields #[] }
def Gk (P:Params):Obj:=(tq #[.str "self" 588,.str "number" 589])
def Gj (P:Params):Obj:=(tq #[])
def Ql (P:Params):Obj:={ cls:=.none,data:=.func { name:="look_at_number",qualname:="Roll.look_at_number",params:=aC (inClass (top0 32) 15),body:=.stmts (aB (inClass (top0 32) 15)),scope:=ak (inClass (top0 32) 15),globals:=0,closure:=[],defaults:=.none,kwdefaults:=.none } }
def Gi (P:Params):Obj:=(fc #[.str "look_at_number" 585,.str "Roll.look_at_number" 586,cp 587,.int 166 0,.int 2 0,.int 0 0,.int 0 0,.int 3 0,.ref 306,.bool true,.int 181 0,.ref 307,.none,.ref 308,.ref 309,.ref 310,.int 590 0,.int 166 0,cp 591])
def Gh (P:Params):Obj:=⟨.type "function",none,.func (PySem.W.fnOf "look_at_number" "Roll.look_at_number" (aC (inClass (top0 32) 15)) (aB (inClass (top0 32) 15)) (ak (inClass (top0 32) 15)) .none .none .none (.str "sluice.rolls" 434) none (.ref 311) .none),#[]⟩
def Gg (P:Params):Obj:=(tq #[])
def Qk (P:Params):Obj:={ cls:=.none,data:=Data.fields #[] }
def Gf (P:Params):Obj:=(tq #[.str "self" 596,.str "number" 597,.str "holder" 598])
def Ge (P:Params):Obj:=(tq #[])
def Qj (P:Params):Obj:={ cls:=.none,data:=.func { name:="look_at_holder",qualname:="Roll.look_at_holder",params:=aC (inClass (top0 32) 16),body:=.stmts (aB (inClass (top0 32) 16)),scope:=ak (inClass (top0 32) 16),globals:=0,closure:=[],defaults:=.none,kwdefaults:=.none } }
def Gd (P:Params):Obj:=(fc #[.str "look_at_holder" 593,.str "Roll.look_at_holder" 594,cp 595,.int 170 0,.int 3 0,.int 0 0,.int 0 0,.int 3 0,.ref 313,.bool true,.int 181 0,.ref 314,.none,.ref 315,.ref 316,.ref 317,.int 599 0,.int 170 0,cp 600])
def Gb (P:Params):Obj:=⟨.type "function",none,.func (PySem.W.fnOf "look_at_holder" "Roll.look_at_holder" (aC (inClass (top0 32) 16)) (aB (inClass (top0 32) 16)) (ak (inClass (top0 32) 16)) .none .none .none (.str "sluice.rolls" 434) none (.ref 318) .none),#[]⟩
def Ga (P:Params):Obj:=(tq #[])
def Qi (P:Params):Obj:={ cls:=.none,data:=Data.fields #[] }
def FZ (P:Params):Obj:=(tq #[.str "self" 605])
def FW (P:Params):Obj:=(tq #[])
def Qh (P:Params):Obj:={ cls:=.none,data:=.func { name:="look_at_room",qualname:="Roll.look_at_room",params:=aC (inClass (top0 32) 17),body:=.stmts (aB (inClass (top0 32) 17)),scope:=ak (inClass (top0 32) 17),globals:=0,closure:=[],defaults:=.none,kwdefaults:=.none } }
def FT (P:Params):Obj:=(fc #[.str "look_at_room" 602,.str "Roll.look_at_room" 603,cp 604,.int 175 0,.int 1 0,.int 0 0,.int 0 0,.int 3 0,.ref 320,.bool true,.int 181 0,.ref 321,.none,.ref 322,.ref 323,.ref 324,.int 606 0,.int 175 0,cp 607])
def FQ (P:Params):Obj:=⟨.type "function",none,.func (PySem.W.fnOf "look_at_room" "Roll.look_at_room" (aC (inClass (top0 32) 17)) (aB (inClass (top0 32) 17)) (ak (inClass (top0 32) 17)) .none .none .none (.str "sluice.rolls" 434) none (.ref 325) .none),#[]⟩
def FP (P:Params):Obj:=(tq #[.str "below" 609,.str "day" 610,.str "done" 611,.str "licences" 612,.str "names" 613])
def FN (P:Params):Obj:={ cls:=.type "dict",data:=Data.dict #[en P "__module__" 452 (.str "sluice.rolls" 434),en P "__firstlineno__" 456 (.int 69 455),en P "__init__" 464 (.ref 210),en P "today" 471 (.ref 217),en P "roll" 478 (.ref 224),en P "holders" 485 (.ref 231),en P "deeds" 492 (.ref 238),en P "turn" 499 (.ref 245),en P "file" 512 (.ref 253),en P "sell" 522 (.ref 260),en P "part" 534 (.ref 267),en P "drop" 543 (.ref 274),en P "move" 554 (.ref 281),en P "look_move" 563 (.ref 288),en P "lapse" 569 (.ref 293),en P "enter" 578 (.ref 300),en P "is_alone" 584 (.ref 305),en P "look_at_number" 592 (.ref 312),en P "look_at_holder" 601 (.ref 319),en P "look_at_room" 608 (.ref 326),en P "__static_attributes__" 614 (.ref 327),en P "__dict__" 616 (.ref 330),en P "__weakref__" 618 (.ref 331),en P "__doc__" 619 .none] 4 }
def FJ (P:Params):Obj:={ cls:=.type "type",data:=Data.cls { name:="Roll",bases:=[.type "object"],mro:=[.ref 329,.type "object"],ns:=328,qualname:="Roll" },slots:=#[none,none,some (.str "Roll" 445),some (.str "Roll" 453),some (.builtin "object.__new__"),some (.bool true)] }
def Fz (P:Params):Obj:={ cls:=.type "getset_descriptor",data:=Data.fields #[.str "__dict__" 615,.ref 329,.builtin "function.__dict__",.builtin "function.__dict__#set"] }
def Fy (P:Params):Obj:={ cls:=.type "getset_descriptor",data:=Data.fields #[.str "__weakref__" 617,.ref 329,.builtin "ExceptionGroup.__weakref__",.none] }
def Qg (P:Params):Obj:={ cls:=.type "super",data:=Data.fields #[.ref 329,.ref 329,.ref 329] }
def Qf (P:Params):Obj:={ cls:=.type "builtin_function_or_method",data:=Data.fields #[.builtin "object.__init_subclass__",.ref 329] }
def Fx (P:Params):Obj:=(tq #[])
def Qe (P:Params):Obj:={ cls:=.none,data:=Data.fields #[] }
def Fw (P:Params):Obj:=(tq #[.str "roll" 627,.str "deed" 628,.str "kind" 629])
def Fv (P:Params):Obj:=(tq #[])
def Qd (P:Params):Obj:=(pr0 "do_anew" 34)
def Ft (P:Params):Obj:=(fc #[.str "do_anew" 624,.str "do_anew" 625,cp 626,.int 179 0,.int 2 0,.int 0 0,.int 0 0,.int 3 0,.ref 334,.bool true,.int 181 0,.ref 335,.none,.ref 336,.ref 337,.ref 338,.int 630 0,.int 179 0,cp 631])
def Fq (P:Params):Obj:=⟨.type "function",none,.func (PySem.W.fnOf "do_anew" "do_anew" (aC (top0 34)) (aB (top0 34)) (ak (top0 34)) .none .none .none (.str "sluice.deeds" 622) none (.ref 339) .none),#[]⟩
def Fp (P:Params):Obj:=(tq #[])
def Qc (P:Params):Obj:={ cls:=.none,data:=Data.fields #[] }
def Fo (P:Params):Obj:=(tq #[.str "below" 636,.str "deeds" 637,.str "roll" 638,.str "deed" 639])
def Fl (P:Params):Obj:=(tq #[])
def Qa (P:Params):Obj:=(pr0 "replayed" 35)
def Fj (P:Params):Obj:=(fc #[.str "replayed" 633,.str "replayed" 634,cp 635,.int 195 0,.int 2 0,.int 0 0,.int 0 0,.int 3 0,.ref 341,.bool true,.int 181 0,.ref 342,.none,.ref 343,.ref 344,.ref 345,.int 640 0,.int 195 0,cp 641])
def Fi (P:Params):Obj:=⟨.type "function",none,.func (PySem.W.fnOf "replayed" "replayed" (aC (top0 35)) (aB (top0 35)) (ak (top0 35)) .none .none .none (.str "sluice.deeds" 622) none (.ref 346) .none),#[]⟩
def Fg (P:Params):Obj:=(tq #[])
def P0 (P:Params):Obj:={ cls:=.none,data:=Data.fields #[] }
def Fe (P:Params):Obj:=(tq #[.str "script" 648,.str "k" 649])
def Fd (P:Params):Obj:=(tq #[])
def PX (P:Params):Obj:=(pr0 "_law_cell_at" 37)
def Fb (P:Params):Obj:=(fc #[.str "_law_cell_at" 645,.str "_law_cell_at" 646,cp 647,.int 201 0,.int 2 0,.int 0 0,.int 0 0,.int 3 0,.ref 348,.bool true,.int 181 0,.ref 349,.none,.ref 350,.ref 351,.ref 352,.int 650 0,.int 201 0,cp 651])
def EY (P:Params):Obj:=⟨.type "function",none,.func (PySem.W.fnOf "_law_cell_at" "_law_cell_at" (aC (top0 37)) (aB (top0 37)) (ak (top0 37)) .none .none .none (.str "law_sluice_k59_replays_refused" 643) none (.ref 353) .none),#[]⟩
def Ez (P:Params):Obj:=(tq #[])
def PN (P:Params):Obj:={ cls:=.none,data:=Data.fields #[] }
def Ey (P:Params):Obj:=(tq #[.str "cell" 656,.str "place" 657,.str "spot" 658])
def Ew (P:Params):Obj:=(tq #[])
def PL (P:Params):Obj:=(pr0 "_law_draw" 38)
def Eu (P:Params):Obj:=(fc #[.str "_law_draw" 653,.str "_law_draw" 654,cp 655,.int 205 0,.int 2 0,.int 0 0,.int 0 0,.int 3 0,.ref 355,.bool true,.int 181 0,.ref 356,.none,.ref 357,.ref 358,.ref 359,.int 659 0,.int 205 0,cp 660])
def Et (P:Params):Obj:=⟨.type "function",none,.func (PySem.W.fnOf "_law_draw" "_law_draw" (aC (top0 38)) (aB (top0 38)) (ak (top0 38)) .none .none .none (.str "law_sluice_k59_replays_refused" 643) none (.ref 360) .none),#[]⟩
def Es (P:Params):Obj:=(tq #[])
def PK (P:Params):Obj:={ cls:=.none,data:=Data.fields #[] }
def PJ (P:Params):Obj:=(pr0 "_law_draws" 39)
def Er (P:Params):Obj:=(fc #[.str "_law_draws" 662,.str "_law_draws" 663,cp 664,.int 208 0,.int 2 0,.int 0 0,.int 0 0,.int 3 0,.ref 362,.bool true,.int 181 0,.ref 363,.none,.none,.none,.ref 364,.int 665 0,.int 208 0,cp 666])
def Ep (P:Params):Obj:=⟨.type "function",none,.func (PySem.W.fnOf "_law_draws" "_law_draws" (aC (top0 39)) (aB (top0 39)) (ak (top0 39)) .none .none .none (.str "law_sluice_k59_replays_refused" 643) none (.ref 365) .none),#[]⟩
def Eo (P:Params):Obj:=(tq #[])
def Pz (P:Params):Obj:={ cls:=.none,data:=Data.fields #[] }
def Py (P:Params):Obj:=(pr0 "_law_river" 40)
def En (P:Params):Obj:=(fc #[.str "_law_river" 668,.str "_law_river" 669,cp 670,.int 210 0,.int 1 0,.int 0 0,.int 0 0,.int 3 0,.ref 367,.bool true,.int 181 0,.ref 368,.none,.none,.none,.ref 369,.int 671 0,.int 210 0,cp 672])
def Em (P:Params):Obj:=⟨.type "function",none,.func (PySem.W.fnOf "_law_river" "_law_river" (aC (top0 40)) (aB (top0 40)) (ak (top0 40)) .none .none .none (.str "law_sluice_k59_replays_refused" 643) none (.ref 370) .none),#[]⟩
def El (P:Params):Obj:=(tq #[])
def Px (P:Params):Obj:={ cls:=.none,data:=Data.fields #[] }
def Ek (P:Params):Obj:=(tq #[.str "below" 677,.str "cell" 678,.str "spot" 679,.str "found" 680])
def Ej (P:Params):Obj:=(tq #[])
def Pu (P:Params):Obj:=(pr0 "_law_spoilt" 41)
def Ei (P:Params):Obj:=(fc #[.str "_law_spoilt" 674,.str "_law_spoilt" 675,cp 676,.int 219 0,.int 2 0,.int 0 0,.int 0 0,.int 3 0,.ref 372,.bool true,.int 181 0,.ref 373,.none,.ref 374,.ref 375,.ref 376,.int 681 0,.int 219 0,cp 682])
def Eh (P:Params):Obj:=⟨.type "function",none,.func (PySem.W.fnOf "_law_spoilt" "_law_spoilt" (aC (top0 41)) (aB (top0 41)) (ak (top0 41)) .none .none .none (.str "law_sluice_k59_replays_refused" 643) none (.ref 377) .none),#[]⟩
def Ef (P:Params):Obj:=(tq #[])
def Pq (P:Params):Obj:={ cls:=.none,data:=Data.fields #[] }
def Ed (P:Params):Obj:=(tq #[.str "below" 687,.str "reach" 688,.str "found" 689])
def Eb (P:Params):Obj:=(tq #[])
def Pn (P:Params):Obj:=(pr0 "_law_way" 42)
def Ea (P:Params):Obj:=(fc #[.str "_law_way" 684,.str "_law_way" 685,cp 686,.int 232 0,.int 2 0,.int 0 0,.int 0 0,.int 3 0,.ref 379,.bool true,.int 181 0,.ref 380,.none,.ref 381,.ref 382,.ref 383,.int 690 0,.int 232 0,cp 691])
def DY (P:Params):Obj:=⟨.type "function",none,.func (PySem.W.fnOf "_law_way" "_law_way" (aC (top0 42)) (aB (top0 42)) (ak (top0 42)) .none .none .none (.str "law_sluice_k59_replays_refused" 643) none (.ref 384) .none),#[]⟩
def DX (P:Params):Obj:=(tq #[])
def Pj (P:Params):Obj:={ cls:=.none,data:=Data.fields #[] }
def Ph (P:Params):Obj:=(pr0 "_law_words" 43)
def DW (P:Params):Obj:=(fc #[.str "_law_words" 693,.str "_law_words" 694,cp 695,.int 237 0,.int 1 0,.int 0 0,.int 0 0,.int 3 0,.ref 386,.bool true,.int 181 0,.ref 387,.none,.none,.none,.ref 388,.int 696 0,.int 237 0,cp 697])
def DR (P:Params):Obj:=⟨.type "function",none,.func (PySem.W.fnOf "_law_words" "_law_words" (aC (top0 43)) (aB (top0 43)) (ak (top0 43)) .none .none .none (.str "law_sluice_k59_replays_refused" 643) none (.ref 389) .none),#[]⟩
def DQ (P:Params):Obj:=(tq #[])
def Pg (P:Params):Obj:={ cls:=.none,data:=Data.fields #[] }
def DP (P:Params):Obj:=(tq #[.str "below" 702,.str "deeds" 703,.str "caught" 704,.str "e" 705])
def DN (P:Params):Obj:=(tq #[])
def Pb (P:Params):Obj:=(pr0 "_law_refused" 44)
def DK (P:Params):Obj:=(fc #[.str "_law_refused" 699,.str "_law_refused" 700,cp 701,.int 243 0,.int 2 0,.int 0 0,.int 0 0,.int 3 0,.ref 391,.bool true,.int 181 0,.ref 392,.none,.ref 393,.ref 394,.ref 395,.int 706 0,.int 243 0,cp 707])
def DG (P:Params):Obj:=⟨.type "function",none,.func (PySem.W.fnOf "_law_refused" "_law_refused" (aC (top0 44)) (aB (top0 44)) (ak (top0 44)) .none .none .none (.str "law_sluice_k59_replays_refused" 643) none (.ref 396) .none),#[]⟩
def Dz (P:Params):Obj:=(tq #[])
def O9 (P:Params):Obj:={ cls:=.none,data:=Data.fields #[] }
def Dy (P:Params):Obj:=(tq #[.str "below" 712,.str "caught" 713,.str "e" 714])
def Dw (P:Params):Obj:=(tq #[])
def O8 (P:Params):Obj:=(pr0 "_law_no_roll" 45)
def Dv (P:Params):Obj:=(fc #[.str "_law_no_roll" 709,.str "_law_no_roll" 710,cp 711,.int 252 0,.int 1 0,.int 0 0,.int 0 0,.int 3 0,.ref 398,.bool true,.int 181 0,.ref 399,.none,.ref 400,.ref 401,.ref 402,.int 715 0,.int 252 0,cp 716])
def Du (P:Params):Obj:=⟨.type "function",none,.func (PySem.W.fnOf "_law_no_roll" "_law_no_roll" (aC (top0 45)) (aB (top0 45)) (ak (top0 45)) .none .none .none (.str "law_sluice_k59_replays_refused" 643) none (.ref 403) .none),#[]⟩
def Dt (P:Params):Obj:=(tq #[])
def O7 (P:Params):Obj:={ cls:=.none,data:=Data.fields #[] }
def O6 (P:Params):Obj:=(pr0 "_law_mates" 46)
def Ds (P:Params):Obj:=(fc #[.str "_law_mates" 718,.str "_law_mates" 719,cp 720,.int 261 0,.int 2 0,.int 0 0,.int 0 0,.int 3 0,.ref 405,.bool true,.int 181 0,.ref 406,.none,.none,.none,.ref 407,.int 721 0,.int 261 0,cp 722])
def Dr (P:Params):Obj:=⟨.type "function",none,.func (PySem.W.fnOf "_law_mates" "_law_mates" (aC (top0 46)) (aB (top0 46)) (ak (top0 46)) .none .none .none (.str "law_sluice_k59_replays_refused" 643) none (.ref 408) .none),#[]⟩
def Dq (P:Params):Obj:=(tq #[])
def O4 (P:Params):Obj:={ cls:=.none,data:=Data.fields #[] }
def Dp (P:Params):Obj:=(tq #[.str "xs" 727,.str "below" 728,.str "start" 729,.str "far" 730,.str "back" 731,.str "most" 732])
def Dn (P:Params):Obj:=(tq #[])
def OJ (P:Params):Obj:=(pr0 "_law_file" 47)
def Dl (P:Params):Obj:=(fc #[.str "_law_file" 724,.str "_law_file" 725,cp 726,.int 263 0,.int 2 0,.int 0 0,.int 0 0,.int 3 0,.ref 410,.bool true,.int 181 0,.ref 411,.none,.ref 412,.ref 413,.ref 414,.int 733 0,.int 263 0,cp 734])
def Dk (P:Params):Obj:=⟨.type "function",none,.func (PySem.W.fnOf "_law_file" "_law_file" (aC (top0 47)) (aB (top0 47)) (ak (top0 47)) .none .none .none (.str "law_sluice_k59_replays_refused" 643) none (.ref 415) .none),#[]⟩
def Dj (P:Params):Obj:=(tq #[])
def Oz (P:Params):Obj:={ cls:=.none,data:=Data.fields #[] }
def Ox (P:Params):Obj:=(pr0 "_law_deed" 48)
def Di (P:Params):Obj:=(fc #[.str "_law_deed" 736,.str "_law_deed" 737,cp 738,.int 271 0,.int 4 0,.int 0 0,.int 0 0,.int 3 0,.ref 417,.bool true,.int 181 0,.ref 418,.none,.none,.none,.ref 419,.int 739 0,.int 271 0,cp 740])
def Dh (P:Params):Obj:=⟨.type "function",none,.func (PySem.W.fnOf "_law_deed" "_law_deed" (aC (top0 48)) (aB (top0 48)) (ak (top0 48)) .none .none .none (.str "law_sluice_k59_replays_refused" 643) none (.ref 420) .none),#[]⟩
def Dg (P:Params):Obj:=(tq #[])
def Ov (P:Params):Obj:={ cls:=.none,data:=Data.fields #[] }
def Dd (P:Params):Obj:=(tq #[.str "deed" 745,.str "day" 746,.str "lines" 747,.str "owners" 748,.str "line" 749,.str "k" 750,.str "one" 751])
def Dc (P:Params):Obj:=(tq #[])
def Ou (P:Params):Obj:=(pr0 "_law_step" 49)
def CZ (P:Params):Obj:=(fc #[.str "_law_step" 742,.str "_law_step" 743,cp 744,.int 288 0,.int 4 0,.int 0 0,.int 0 0,.int 3 0,.ref 422,.bool true,.int 181 0,.ref 423,.none,.ref 424,.ref 425,.ref 426,.int 752 0,.int 288 0,cp 753])
def CV (P:Params):Obj:=⟨.type "function",none,.func (PySem.W.fnOf "_law_step" "_law_step" (aC (top0 49)) (aB (top0 49)) (ak (top0 49)) .none .none .none (.str "law_sluice_k59_replays_refused" 643) none (.ref 427) .none),#[]⟩
def CT (P:Params):Obj:=(tq #[])
def Oq (P:Params):Obj:={ cls:=.none,data:=Data.fields #[] }
def Oo (P:Params):Obj:=(pr0 "_law_forged" 50)
def CQ (P:Params):Obj:=(fc #[.str "_law_forged" 755,.str "_law_forged" 756,cp 757,.int 308 0,.int 4 0,.int 0 0,.int 0 0,.int 3 0,.ref 429,.bool true,.int 181 0,.ref 430,.none,.none,.none,.ref 431,.int 758 0,.int 308 0,cp 759])
def CP (P:Params):Obj:=⟨.type "function",none,.func (PySem.W.fnOf "_law_forged" "_law_forged" (aC (top0 50)) (aB (top0 50)) (ak (top0 50)) .none .none .none (.str "law_sluice_k59_replays_refused" 643) none (.ref 432) .none),#[]⟩
def CK (P:Params):Obj:=(tq #[])
def Om (P:Params):Obj:={ cls:=.none,data:=Data.fields #[] }
def Ol (P:Params):Obj:=(pr0 "_law_full" 51)
def CJ (P:Params):Obj:=(fc #[.str "_law_full" 761,.str "_law_full" 762,cp 763,.int 339 0,.int 2 0,.int 0 0,.int 0 0,.int 3 0,.ref 434,.bool true,.int 181 0,.ref 435,.none,.none,.none,.ref 436,.int 764 0,.int 339 0,cp 765])
def CG (P:Params):Obj:=⟨.type "function",none,.func (PySem.W.fnOf "_law_full" "_law_full" (aC (top0 51)) (aB (top0 51)) (ak (top0 51)) .none .none .none (.str "law_sluice_k59_replays_refused" 643) none (.ref 437) .none),#[]⟩
def Cz (P:Params):Obj:=(tq #[])
def Oj (P:Params):Obj:={ cls:=.none,data:=Data.fields #[] }
def Cy (P:Params):Obj:=(tq #[.str "script" 770,.str "below" 771,.str "cells" 772,.str "spot" 773,.str "deeds" 774,.str "day" 775,.str "lines" 776,.str "owners" 777,.str "forged" 778,.str "due" 779,.str "k" 780,.str "cell" 781,.str "handed" 782,.str "kept" 783,.str "river" 784,.str "one" 785,.str "spoilt" 786])
def Cw (P:Params):Obj:=(tq #[])
def Oi (P:Params):Obj:=(pr0 "law" 52)
def Cv (P:Params):Obj:=(fc #[.str "law" 767,.str "law" 768,cp 769,.int 344 0,.int 1 0,.int 0 0,.int 0 0,.int 3 0,.ref 439,.bool true,.int 181 0,.ref 440,.none,.ref 441,.ref 442,.ref 443,.int 787 0,.int 344 0,cp 788])
def Cu (P:Params):Obj:=⟨.type "function",none,.func (PySem.W.fnOf "law" "law" (aC (top0 52)) (aB (top0 52)) (ak (top0 52)) .none .none .none (.str "law_sluice_k59_replays_refused" 643) none (.ref 444) .none),#[]⟩
def H0:Params→Heap:=fun P=>{ objs:=⟨Wk P :: Wj P :: Vz P :: ho_4 P :: Wi P :: Wh P :: Wg P :: Wf P :: Wd P :: S8 P :: Sy P :: []⟩ }
def H1:Params→Heap:=fun P=>{ objs:=⟨Wk P :: Wj P :: Vz P :: R4 P :: Wi P :: Wh P :: Wg P :: Wf P :: Wd P :: S8 P :: Sy P :: VN P :: VL P :: VJ P :: VH P :: Rw P :: VG P :: Rn P :: Rb P :: VF P :: Q0 P :: QV P :: QM P :: VD P :: VB P :: Qz P :: Qv P :: Qq P :: Vy P :: Vx P :: Vw P :: Vv P :: Vu P :: Vt P :: PB P :: Pr P :: Pk P :: Pa P :: Vs P :: Vr P :: Ot P :: Vq P :: Vp P :: Vo P :: Vn P :: Vm P :: Vl P :: Oh P :: Og P :: Oe P :: Vk P :: Vj P :: Od P :: Vi P :: Vh P :: Vg P :: Vf P :: Ve P :: Vd P :: Oc P :: Ob P :: Oa P :: Vc P :: Vb P :: N8 P :: Va P :: U9 P :: U8 P :: U7 P :: U6 P :: U5 P :: N7 P :: N6 P :: N5 P :: U4 P :: U3 P :: NZ P :: U0 P :: UW P :: UL P :: UJ P :: UG P :: Uz P :: NT P :: NQ P :: NP P :: Uy P :: Ux P :: NK P :: Uw P :: Uv P :: Uu P :: Ut P :: Us P :: Ur P :: Nz P :: Ny P :: Kg P :: S7 P :: S6 P :: Ke P :: S5 P :: SX P :: SQ P :: SN P :: SM P :: SJ P :: Kd P :: Kc P :: Ka P :: Sx P :: Sw P :: J9 P :: Sv P :: Ss P :: Sq P :: Sg P :: Sd P :: R9 P :: J8 P :: J7 P :: J6 P :: R8 P :: R7 P :: J5 P :: R6 P :: R5 P :: R3 P :: R0 P :: RZ P :: RW P :: J4 P :: J3 P :: J2 P :: RV P :: RT P :: J1 P :: RQ P :: J0 P :: JZ P :: RN P :: JX P :: JW P :: JV P :: RM P :: RL P :: JT P :: JR P :: JQ P :: RK P :: JN P :: JM P :: RJ P :: JL P :: JK P :: JH P :: RG P :: JG P :: JF P :: RD P :: JD P :: JC P :: JB P :: RB P :: Jz P :: Jy P :: Rz P :: Jx P :: Jw P :: Jv P :: Ry P :: Ju P :: Jt P :: Rx P :: Js P :: Jr P :: Jq P :: Ru P :: Jp P :: Jo P :: Rt P :: Jm P :: Jl P :: Jk P :: Rr P :: Jj P :: Ji P :: Rq P :: Jh P :: Jg P :: Jf P :: Rp P :: Je P :: Jd P :: Ro P :: Jc P :: Jb P :: Rm P :: Rk P :: Rj P :: Ri P :: Rh P :: Rg P :: Rf P :: Ja P :: Rc P :: IW P :: IV P :: Ra P :: IK P :: Iz P :: Iw P :: Q9 P :: Iu P :: Ir P :: Q8 P :: Ip P :: Io P :: Im P :: Q7 P :: Il P :: Ik P :: Q6 P :: Ij P :: Ii P :: Ih P :: Q5 P :: Ig P :: Ie P :: QZ P :: Ib P :: Ia P :: HY P :: QX P :: HX P :: HW P :: QW P :: HS P :: HN P :: HJ P :: QT P :: HF P :: HD P :: QS P :: HB P :: Hz P :: Hy P :: Hx P :: QL P :: Hw P :: Hv P :: QK P :: Hu P :: Ht P :: Hs P :: QJ P :: Hr P :: Hq P :: QH P :: Ho P :: Hl P :: Hj P :: QG P :: Hi P :: Hh P :: QF P :: Hg P :: G9 P :: G8 P :: QD P :: G7 P :: G6 P :: QC P :: G5 P :: G4 P :: G3 P :: QB P :: GZ P :: GX P :: Qy P :: GR P :: GQ P :: GP P :: Qx P :: GK P :: GJ P :: Qw P :: GF P :: GD P :: GC P :: Qu P :: Qt P :: Gz P :: Gy P :: Gx P :: Qs P :: Gw P :: Gv P :: Qp P :: Gu P :: Gs P :: Gq P :: Qo P :: Qn P :: Gp P :: Gn P :: Gm P :: Qm P :: Gk P :: Gj P :: Ql P :: Gi P :: Gh P :: Gg P :: Qk P :: Gf P :: Ge P :: Qj P :: Gd P :: Gb P :: Ga P :: Qi P :: FZ P :: FW P :: Qh P :: FT P :: FQ P :: FP P :: FN P :: FJ P :: Fz P :: Fy P :: Qg P :: Qf P :: Fx P :: Qe P :: Fw P :: Fv P :: Qd P :: Ft P :: Fq P :: Fp P :: Qc P :: Fo P :: Fl P :: Qa P :: Fj P :: Fi P :: Fg P :: P0 P :: Fe P :: Fd P :: PX P :: Fb P :: EY P :: Ez P :: PN P :: Ey P :: Ew P :: PL P :: Eu P :: Et P :: Es P :: PK P :: PJ P :: Er P :: Ep P :: Eo P :: Pz P :: Py P :: En P :: Em P :: El P :: Px P :: Ek P :: Ej P :: Pu P :: Ei P :: Eh P :: Ef P :: Pq P :: Ed P :: Eb P :: Pn P :: Ea P :: DY P :: DX P :: Pj P :: Ph P :: DW P :: DR P :: DQ P :: Pg P :: DP P :: DN P :: Pb P :: DK P :: DG P :: Dz P :: O9 P :: Dy P :: Dw P :: O8 P :: Dv P :: Du P :: Dt P :: O7 P :: O6 P :: Ds P :: Dr P :: Dq P :: O4 P :: Dp P :: Dn P :: OJ P :: Dl P :: Dk P :: Dj P :: Oz P :: Ox P :: Di P :: Dh P :: Dg P :: Ov P :: Dd P :: Dc P :: Ou P :: CZ P :: CV P :: CT P :: Oq P :: Oo P :: CQ P :: CP P :: CK P :: Om P :: Ol P :: CJ P :: CG P :: Cz P :: Oj P :: Cy P :: Cw P :: Oi P :: Cv P :: Cu P :: []⟩ }
def Kf:Params→PySem.W.Frag:=fun P=>(nat_lit 2,Vz P) ::
 (nat_lit 3,R4 P) ::
 (nat_lit 15,Rw P) ::
 (nat_lit 17,Rn P) ::
 (nat_lit 18,Rb P) ::
 (nat_lit 20,Q0 P) ::
 (nat_lit 21,QV P) ::
 (nat_lit 22,QM P) ::
 (nat_lit 25,Qz P) ::
 (nat_lit 26,Qv P) ::
 (nat_lit 27,Qq P) ::
 (nat_lit 34,PB P) ::
 (nat_lit 35,Pr P) ::
 (nat_lit 36,Pk P) ::
 (nat_lit 37,Pa P) ::
 (nat_lit 40,Ot P) ::
 (nat_lit 47,Oh P) ::
 (nat_lit 48,Og P) ::
 (nat_lit 49,Oe P) ::
 (nat_lit 52,Od P) ::
 (nat_lit 59,Oc P) ::
 (nat_lit 60,Ob P) ::
 (nat_lit 61,Oa P) ::
 (nat_lit 64,N8 P) ::
 (nat_lit 71,N7 P) ::
 (nat_lit 72,N6 P) ::
 (nat_lit 73,N5 P) ::
 (nat_lit 76,NZ P) ::
 (nat_lit 83,NT P) ::
 (nat_lit 84,NQ P) ::
 (nat_lit 85,NP P) ::
 (nat_lit 88,NK P) ::
 (nat_lit 95,Nz P) ::
 (nat_lit 96,Ny P) ::
 (nat_lit 97,Kg P) ::
 (nat_lit 100,Ke P) ::
 (nat_lit 107,Kd P) ::
 (nat_lit 108,Kc P) ::
 (nat_lit 109,Ka P) ::
 (nat_lit 112,J9 P) ::
 (nat_lit 119,J8 P) ::
 (nat_lit 120,J7 P) ::
 (nat_lit 121,J6 P) ::
 (nat_lit 124,J5 P) ::
 (nat_lit 131,J4 P) ::
 (nat_lit 132,J3 P) ::
 (nat_lit 133,J2 P) ::
 (nat_lit 136,J1 P) ::
 (nat_lit 138,J0 P) ::
 (nat_lit 139,JZ P) ::
 (nat_lit 141,JX P) ::
 (nat_lit 142,JW P) ::
 (nat_lit 143,JV P) ::
 (nat_lit 146,JT P) ::
 (nat_lit 147,JR P) ::
 (nat_lit 148,JQ P) ::
 (nat_lit 150,JN P) ::
 (nat_lit 151,JM P) ::
 (nat_lit 153,JL P) ::
 (nat_lit 154,JK P) ::
 (nat_lit 155,JH P) ::
 (nat_lit 157,JG P) ::
 (nat_lit 158,JF P) ::
 (nat_lit 160,JD P) ::
 (nat_lit 161,JC P) ::
 (nat_lit 162,JB P) ::
 (nat_lit 164,Jz P) ::
 (nat_lit 165,Jy P) ::
 (nat_lit 167,Jx P) ::
 (nat_lit 168,Jw P) ::
 (nat_lit 169,Jv P) ::
 (nat_lit 171,Ju P) ::
 (nat_lit 172,Jt P) ::
 (nat_lit 174,Js P) ::
 (nat_lit 175,Jr P) ::
 (nat_lit 176,Jq P) ::
 (nat_lit 178,Jp P) ::
 (nat_lit 179,Jo P) ::
 (nat_lit 181,Jm P) ::
 (nat_lit 182,Jl P) ::
 (nat_lit 183,Jk P) ::
 (nat_lit 185,Jj P) ::
 (nat_lit 186,Ji P) ::
 (nat_lit 188,Jh P) ::
 (nat_lit 189,Jg P) ::
 (nat_lit 190,Jf P) ::
 (nat_lit 192,Je P) ::
 (nat_lit 193,Jd P) ::
 (nat_lit 195,Jc P) ::
 (nat_lit 196,Jb P) ::
 (nat_lit 204,Ja P) ::
 (nat_lit 206,IW P) ::
 (nat_lit 207,IV P) ::
 (nat_lit 209,IK P) ::
 (nat_lit 210,Iz P) ::
 (nat_lit 211,Iw P) ::
 (nat_lit 213,Iu P) ::
 (nat_lit 214,Ir P) ::
 (nat_lit 216,Ip P) ::
 (nat_lit 217,Io P) ::
 (nat_lit 218,Im P) ::
 (nat_lit 220,Il P) ::
 (nat_lit 221,Ik P) ::
 (nat_lit 223,Ij P) ::
 (nat_lit 224,Ii P) ::
 (nat_lit 225,Ih P) ::
 (nat_lit 227,Ig P) ::
 (nat_lit 228,Ie P) ::
 (nat_lit 230,Ib P) ::
 (nat_lit 231,Ia P) ::
 (nat_lit 232,HY P) ::
 (nat_lit 234,HX P) ::
 (nat_lit 235,HW P) ::
 (nat_lit 237,HS P) ::
 (nat_lit 238,HN P) ::
 (nat_lit 239,HJ P) ::
 (nat_lit 241,HF P) ::
 (nat_lit 242,HD P) ::
 (nat_lit 244,HB P) ::
 (nat_lit 245,Hz P) ::
 (nat_lit 246,Hy P) ::
 (nat_lit 247,Hx P) ::
 (nat_lit 249,Hw P) ::
 (nat_lit 250,Hv P) ::
 (nat_lit 252,Hu P) ::
 (nat_lit 253,Ht P) ::
 (nat_lit 254,Hs P) ::
 (nat_lit 256,Hr P) ::
 (nat_lit 257,Hq P) ::
 (nat_lit 259,Ho P) ::
 (nat_lit 260,Hl P) ::
 (nat_lit 261,Hj P) ::
 (nat_lit 263,Hi P) ::
 (nat_lit 264,Hh P) ::
 (nat_lit 266,Hg P) ::
 (nat_lit 267,G9 P) ::
 (nat_lit 268,G8 P) ::
 (nat_lit 270,G7 P) ::
 (nat_lit 271,G6 P) ::
 (nat_lit 273,G5 P) ::
 (nat_lit 274,G4 P) ::
 (nat_lit 275,G3 P) ::
 (nat_lit 277,GZ P) ::
 (nat_lit 278,GX P) ::
 (nat_lit 280,GR P) ::
 (nat_lit 281,GQ P) ::
 (nat_lit 282,GP P) ::
 (nat_lit 284,GK P) ::
 (nat_lit 285,GJ P) ::
 (nat_lit 287,GF P) ::
 (nat_lit 288,GD P) ::
 (nat_lit 289,GC P) ::
 (nat_lit 292,Gz P) ::
 (nat_lit 293,Gy P) ::
 (nat_lit 294,Gx P) ::
 (nat_lit 296,Gw P) ::
 (nat_lit 297,Gv P) ::
 (nat_lit 299,Gu P) ::
 (nat_lit 300,Gs P) ::
 (nat_lit 301,Gq P) ::
 (nat_lit 304,Gp P) ::
 (nat_lit 305,Gn P) ::
 (nat_lit 306,Gm P) ::
 (nat_lit 308,Gk P) ::
 (nat_lit 309,Gj P) ::
 (nat_lit 311,Gi P) ::
 (nat_lit 312,Gh P) ::
 (nat_lit 313,Gg P) ::
 (nat_lit 315,Gf P) ::
 (nat_lit 316,Ge P) ::
 (nat_lit 318,Gd P) ::
 (nat_lit 319,Gb P) ::
 (nat_lit 320,Ga P) ::
 (nat_lit 322,FZ P) ::
 (nat_lit 323,FW P) ::
 (nat_lit 325,FT P) ::
 (nat_lit 326,FQ P) ::
 (nat_lit 327,FP P) ::
 (nat_lit 328,FN P) ::
 (nat_lit 329,FJ P) ::
 (nat_lit 330,Fz P) ::
 (nat_lit 331,Fy P) ::
 (nat_lit 334,Fx P) ::
 (nat_lit 336,Fw P) ::
 (nat_lit 337,Fv P) ::
 (nat_lit 339,Ft P) ::
 (nat_lit 340,Fq P) ::
 (nat_lit 341,Fp P) ::
 (nat_lit 343,Fo P) ::
 (nat_lit 344,Fl P) ::
 (nat_lit 346,Fj P) ::
 (nat_lit 347,Fi P) ::
 (nat_lit 348,Fg P) ::
 (nat_lit 350,Fe P) ::
 (nat_lit 351,Fd P) ::
 (nat_lit 353,Fb P) ::
 (nat_lit 354,EY P) ::
 (nat_lit 355,Ez P) ::
 (nat_lit 357,Ey P) ::
 (nat_lit 358,Ew P) ::
 (nat_lit 360,Eu P) ::
 (nat_lit 361,Et P) ::
 (nat_lit 362,Es P) ::
 (nat_lit 365,Er P) ::
 (nat_lit 366,Ep P) ::
 (nat_lit 367,Eo P) ::
 (nat_lit 370,En P) ::
 (nat_lit 371,Em P) ::
 (nat_lit 372,El P) ::
 (nat_lit 374,Ek P) ::
 (nat_lit 375,Ej P) ::
 (nat_lit 377,Ei P) ::
 (nat_lit 378,Eh P) ::
 (nat_lit 379,Ef P) ::
 (nat_lit 381,Ed P) ::
 (nat_lit 382,Eb P) ::
 (nat_lit 384,Ea P) ::
 (nat_lit 385,DY P) ::
 (nat_lit 386,DX P) ::
 (nat_lit 389,DW P) ::
 (nat_lit 390,DR P) ::
 (nat_lit 391,DQ P) ::
 (nat_lit 393,DP P) ::
 (nat_lit 394,DN P) ::
 (nat_lit 396,DK P) ::
 (nat_lit 397,DG P) ::
 (nat_lit 398,Dz P) ::
 (nat_lit 400,Dy P) ::
 (nat_lit 401,Dw P) ::
 (nat_lit 403,Dv P) ::
 (nat_lit 404,Du P) ::
 (nat_lit 405,Dt P) ::
 (nat_lit 408,Ds P) ::
 (nat_lit 409,Dr P) ::
 (nat_lit 410,Dq P) ::
 (nat_lit 412,Dp P) ::
 (nat_lit 413,Dn P) ::
 (nat_lit 415,Dl P) ::
 (nat_lit 416,Dk P) ::
 (nat_lit 417,Dj P) ::
 (nat_lit 420,Di P) ::
 (nat_lit 421,Dh P) ::
 (nat_lit 422,Dg P) ::
 (nat_lit 424,Dd P) ::
 (nat_lit 425,Dc P) ::
 (nat_lit 427,CZ P) ::
 (nat_lit 428,CV P) ::
 (nat_lit 429,CT P) ::
 (nat_lit 432,CQ P) ::
 (nat_lit 433,CP P) ::
 (nat_lit 434,CK P) ::
 (nat_lit 437,CJ P) ::
 (nat_lit 438,CG P) ::
 (nat_lit 439,Cz P) ::
 (nat_lit 441,Cy P) ::
 (nat_lit 442,Cw P) ::
 (nat_lit 444,Cv P) ::
 (nat_lit 445,Cu P) :: []
def asK:List Addr:=[2,3,15,17,18,20,21,22,25,26,27,34,35,36,37,40,47,48,49,52,59,60,61,64,71,72,73,76,83,84,85,88,95,96,97,100,107,108,109,112,119,120,121,124,131,132,133,136,138,139,141,142,143,146,147,148,150,151,153,154,155,157,158,160,161,162,164,165,167,168,169,171,172,174,175,176,178,179,181,182,183,185,186,188,189,190,192,193,195,196,204,206,207,209,210,211,213,214,216,217,218,220,221,223,224,225,227,228,230,231,232,234,235,237,238,239,241,242,244,245,246,247,249,250,252,253,254,256,257,259,260,261,263,264,266,267,268,270,271,273,274,275,277,278,280,281,282,284,285,287,288,289,292,293,294,296,297,299,300,301,304,305,306,308,309,311,312,313,315,316,318,319,320,322,323,325,326,327,328,329,330,331,334,336,337,339,340,341,343,344,346,347,348,350,351,353,354,355,357,358,360,361,362,365,366,367,370,371,372,374,375,377,378,379,381,382,384,385,386,389,390,391,393,394,396,397,398,400,401,403,404,405,408,409,410,412,413,415,416,417,420,421,422,424,425,427,428,429,432,433,434,437,438,439,441,442,444,445]
theorem hkE:∀ P,asK=(Kf P).map (·.1):=fun _=>by kernel_rfl
def qv:Program:={ PySem.Challenge.pw_sluice_k59_replays_refused with main:={ PySem.Challenge.pw_sluice_k59_replays_refused.main with body:=[top0 52] } }
def vR:List Str:=("MOST_WATER":Str) :: ("LONGEST_NAME":Str) :: ("LETTERS":Str) :: ("is_water":Str) :: ("is_name":Str) :: ("SluiceError":Str) :: ("NoRiver":Str) :: ("NoLicence":Str) :: ("NoNumber":Str) :: ("NoHolder":Str) :: ("NotYours":Str) :: ("NotAlone":Str) :: ("TooMuch":Str) :: ("Full":Str) :: ("MOST_REACHES":Str) :: ("MOUTH":Str) :: ("comes_to_mouth":Str) :: ("is_river":Str) :: ("way_of":Str) :: ("LAST_DAY":Str) :: ("is_licence":Str) :: ("day_filed":Str) :: ("most_of":Str) :: ("with_start":Str) :: ("with_most":Str) :: ("MOST_LICENCES":Str) :: ("look_at_name":Str) :: ("Roll":Str) :: ("do_anew":Str) :: ("replayed":Str) :: ("_law_cell_at":Str) :: ("_law_draw":Str) :: ("_law_draws":Str) :: ("_law_river":Str) :: ("_law_spoilt":Str) :: ("_law_way":Str) :: ("_law_words":Str) :: ("_law_refused":Str) :: ("_law_no_roll":Str) :: ("_law_mates":Str) :: ("_law_file":Str) :: ("_law_deed":Str) :: ("_law_step":Str) :: ("_law_forged":Str) :: ("_law_full":Str) :: []
end
theorem hp1:∀ w:World,(PySem.W.fencedOpening PySem.treeTable PySem.Challenge.rw_sluice_k59_replays_refused.row.toRowW.prog w 7460).map (fun s=>(s.heap,s.gens,s.drawn,s.toks))=some (H0 w.params,#[],{},181):=by
  intro w;kernel_rfl
theorem hp2:∀ w:World,((H0 w.params).isNs mainGlobals && (#[]:Array GenState).size == 0,(H0 w.params).objs.size,(H0 w.params).nsMap mainGlobals "__annotations__")=(true,11,some (Value.ref 6)):=by
  intro w;kernel_rfl
theorem hp3:∀ (w:World) (os:OsState),PySem.W.topRun PySem.treeTable PySem.Challenge.rw_sluice_k59_replays_refused.row.toRowW.prog w 11 (some (Value.ref 6)) 7460 ⟨H0 w.params,#[],{},181,os⟩ (PySem.W.topStub PySem.Challenge.rw_sluice_k59_replays_refused.row.toRowW.prog)=some ⟨H1 w.params,#[],{},790,os⟩:=by
  intro w os;kernel_rfl
theorem hp4:∀ w:World,(fun os=>((PySem.W.staticsOk (importedModules PySem.Challenge.rw_sluice_k59_replays_refused.row.toRowW.prog.main.body) (H0 w.params) (H1 w.params) && PySem.W.namesBound PySem.Challenge.rw_sluice_k59_replays_refused.row.toRowW.prog (H1 w.params) && PySem.W.gensDone ⟨H1 w.params,#[],{},790,os⟩ && PySem.W.laidKept (H0 w.params) (H1 w.params)),PySem.W.openSeen qv vR (importedModules PySem.Challenge.rw_sluice_k59_replays_refused.row.toRowW.prog.main.body) (fun s=>PySem.W.xlAt My.qv [] s && PySem.W.recOk (PySem.W.RowW.records PySem.Challenge.rw_sluice_k59_replays_refused.row.toRowW) s) true ⟨H1 w.params,#[],{},790,os⟩,(PySem.W.Hook.obs (PySem.W.kHook My.Kf My.asK My.hkE)) ⟨H1 w.params,#[],{},790,os⟩))=fun _=>(true,PySem.W.openGood qv vR,(PySem.W.Hook.val (PySem.W.kHook My.Kf My.asK My.hkE)) w):=by
  intro w;kernel_rfl
theorem hlE:PySem.W.LeftO PySem.Challenge.rw_sluice_k59_replays_refused.row.toRowW.prog qv My.vR (fun s=>PySem.W.xlAt My.qv [] s && PySem.W.recOk (PySem.W.RowW.records PySem.Challenge.rw_sluice_k59_replays_refused.row.toRowW) s) (PySem.W.Hook.obs (PySem.W.kHook My.Kf My.asK My.hkE)) (PySem.W.Hook.val (PySem.W.kHook My.Kf My.asK My.hkE)) 7460:=PySem.W.LeftO.of_pieces hp1 hp2 hp3 (by decide) hp4
end My
namespace L2
open PySem PySem.Spec PyProof.Rows
abbrev Key:=Sum Int Str
def Nr:Key→Value→Bool
  | .inl k,v=>Value.isInt k v
  | .inr x,v=>Value.isStrOf x v
def keyH (w:World):Key→Int
  | .inl k=>hashInt k
  | .inr x=>hashStr w x
theorem eO:∀ {k:Key} {v:Value},Nr k v=true→(∃ i t,k=Sum.inl i∧v=Value.int i t)∨(∃ x t,k=Sum.inr x∧v=Value.str x t)
  | .inl i,v,h=>by
    obtain ⟨t,e⟩:=Value.isInt_shape (k:=i) (v:=v) h
    exact .inl ⟨i,t,rfl,e⟩
  | .inr x,v,h=>by
    obtain ⟨t,e⟩:=Value.isStrOf_shape (x:=x) (v:=v) h
    exact .inr ⟨x,t,rfl,e⟩
theorem Nq (a b:Int):decide ((Sum.inl a:Key)=Sum.inl b)=(a == b):=by
  by_cases e:a=b
  · subst e;simp
  · have h:¬ (Sum.inl a:Key)=Sum.inl b:=fun q=>e (Sum.inl.inj q)
    rw [decide_eq_false h]
    exact (beq_eq_false_iff_ne.mpr e).symm
theorem Nk (a b:Str):decide ((Sum.inr a:Key)=Sum.inr b)=decide (a=b):=by
  by_cases e:a=b
  · subst e;simp
  · have h:¬ (Sum.inr a:Key)=Sum.inr b:=fun q=>e (Sum.inr.inj q)
    rw [decide_eq_false h,decide_eq_false e]
theorem Np (a:Int) (b:Str):decide ((Sum.inl a:Key)=Sum.inr b)=false:=decide_eq_false (fun q=>nomatch q)
theorem Nm (a:Str) (b:Int):decide ((Sum.inr a:Key)=Sum.inl b)=false:=decide_eq_false (fun q=>nomatch q)
def yX (prog:Program) (w:World):PySem.KeyKind prog w Key where
  is:=Nr
  hash:=keyH w
  inj:=fun v a b ha hb=>by
    rcases eO ha with ⟨i,t,rfl,rfl⟩ | ⟨x,t,rfl,rfl⟩
    · rcases eO hb with ⟨j,u,rfl,e⟩ | ⟨y,u,rfl,e⟩
      · injection e with e1 _;rw [e1]
      · exact nomatch e
    · rcases eO hb with ⟨j,u,rfl,e⟩ | ⟨y,u,rfl,e⟩
      · exact nomatch e
      · injection e with e1 _;rw [e1]
  byValue:=fun k v h=>by
    rcases eO h with ⟨i,t,rfl,rfl⟩ | ⟨x,t,rfl,rfl⟩ <;> rfl
  pyHash:=fun hv h=>by
    rcases eO hv with ⟨i,t,rfl,rfl⟩ | ⟨x,t,rfl,rfl⟩
    · exact wpAny_pyHash_int h
    · exact wpAny_pyHash_str h
  eqBool:=fun hu hv h=>by
    rcases eO hu with ⟨i,t,rfl,rfl⟩ | ⟨x,t,rfl,rfl⟩
    · rcases eO hv with ⟨j,u,rfl,rfl⟩ | ⟨y,u,rfl,rfl⟩
      · rw [Nq] at h;exact wpAny_eqBool_int h
      · rw [Np] at h;exact SeqAt.EqAt.int_str i t y u _ _ _ _ h
    · rcases eO hv with ⟨j,u,rfl,rfl⟩ | ⟨y,u,rfl,rfl⟩
      · rw [Nm] at h;exact SeqAt.EqAt.str_int x t j u _ _ _ _ h
      · rw [Nk] at h;exact wpAny_eqBool_str h
  «strs»:=fun k x t v h=>by
    rcases eO h with ⟨i,u,rfl,e⟩ | ⟨y,u,rfl,e⟩
    · exact nomatch e
    · injection e with e1 _
      subst e1
      cases v <;> rfl
end L2
namespace L2
open PySem PySem.Spec PyProof.Rows
inductive V where
  | non | bl (b:Bool) | int (i:Int) | str (x:Str) | byt (b:Array UInt8) | flt (b:UInt64) | ref (a:Addr) | ty (n:String)
  deriving DecidableEq
def RelV:V→Value→Prop
  | .non,u=>u=Value.none
  | .bl b,u=>u=Value.bool b
  | .int i,u=>∃ t,u=Value.int i t
  | .str x,u=>∃ t,u=Value.str x t
  | .byt b,u=>∃ t,u=Value.bytes b t
  | .flt b,u=>∃ t,u=Value.float b t
  | .ref a,u=>u=Value.ref a
  | .ty n,u=>u=Value.type n
abbrev Vals:List V→List Value→Prop:=Paired RelV
theorem Vals.length {xs:List V} {us:List Value} (r:Vals xs us):xs.length=us.length:=Paired.length r
theorem Vals.get:∀ {xs:List V} {us:List Value} {i:Nat} {x:V},Vals xs us→xs[i]?=some x→∃ u,us[i]?=some u∧RelV x u
  | _,_,_,_,.nil,e=>by simp at e
  | _,_,0,_,.cons r _,e=>by simp at e;subst e;exact ⟨_,rfl,r⟩
  | _,_,i + 1,x,.cons _ t,e=>by
    obtain ⟨u,h1,h2⟩:=Vals.get (i:=i) (x:=x) t (by simpa using e)
    exact ⟨u,by simpa using h1,h2⟩
theorem Vals.set {x:V} {u:Value} (r:RelV x u):∀ {xs:List V} {us:List Value} (i:Nat),Vals xs us→Vals (xs.set i x) (us.set i u)
  | _,_,_,.nil=>.nil
  | _,_,0,.cons _ t=>.cons r t
  | _,_,i + 1,.cons q t=>.cons q (Vals.set r i t)
theorem Vals.append:∀ {xs ys:List V} {us ws:List Value},Vals xs us→Vals ys ws→Vals (xs++ys) (us++ws)
  | _,_,_,_,.nil,s=>s
  | _,_,_,_,.cons r t,s=>.cons r (Vals.append t s)
theorem Vals.take:∀ {xs:List V} {us:List Value} (n:Nat),Vals xs us→Vals (xs.take n) (us.take n)
  | _,_,0,_=>.nil
  | _,_,_ + 1,.nil=>.nil
  | _,_,n + 1,.cons r t=>.cons r (Vals.take n t)
theorem Vals.drop:∀ {xs:List V} {us:List Value} (n:Nat),Vals xs us→Vals (xs.drop n) (us.drop n)
  | _,_,0,r=>r
  | _,_,_ + 1,.nil=>.nil
  | _,_,n + 1,.cons _ t=>Vals.drop n t
def z6:Option V→Option Value→Prop
  | some v,some u=>RelV v u
  | none,none=>True
  | _,_=>False
def KV {κ:Type}:List (κ × V)→List (κ × Value)→Prop:=Paired fun (p:κ × V) (q:κ × Value)=>p.1=q.1∧RelV p.2 q.2
def kV:Key→V
  | .inl i=>.int i
  | .inr x=>.str x
inductive HO where
  /-- a list -/
  | lst (xs:List V)
  /-- a tuple (never changes) -/
  | tup (xs:List V)
  /-- a dict whose keys are ints and texts; one whose keys are tuples of ints and texts (the empty one is both) -/
  | dK (kvs:List (Key × V)) | dT (kvs:List (List Key × V))
  /-- a set of ints: its members, its size -/
  | set (S:Int→Bool) (n:Nat)
  /-- an instance of the class at C, its dict at dx, its attributes -/
  | ins (C dx:Addr) (fs:List (Str × V))
  /-- the dict of the instance at x -/
  | own (x:Addr)
  /-- the dict of an exception -/
  | xd (fs:List (Str × V))
  /-- a bound method, f of x -/
  | met (f x:Addr)
  /-- a range object lo, lo + 1, .. below hi -/
  | rng (lo hi:Int)
  /-- a thing that is known to the object (the script; a dict while a loop walks it): read, never written while it is so -/
  | frz (o:Obj) (u:HO)
  /-- a code object's table -/
  | tbl (ps:Array Value)
  /-- any other thing, by what is true of its one object (a def of one's own: SetO a S n := HO.ext fun h => ..) -/
  | ext (φ:Heap→Prop)
abbrev Hp:=Addr→Option HO
def upd (H:Hp) (a:Addr) (o:HO):Hp:=fun b=>if b=a then some o else H b
theorem cQ {H:Hp} {a:Addr} {o:HO}:upd H a o a=some o:=by unfold upd;rw [if_pos rfl]
theorem bB {H:Hp} {a b:Addr} {o:HO} (h:b≠a):upd H a o b=H b:=by unfold upd;rw [if_neg h]
theorem dI {H:Hp} {a b:Addr} {o:HO} (h:H a=some o) (h':H b=none):a≠b:=by
  intro e;subst e;rw [h] at h';cases h'
section
variable (P:Program) (w:World)
def jz (H:Hp) (h:Heap) (a:Addr):HO→Prop
  | .lst xs=>xs.length≤sizeLine∧∃ (its:List Value) (n:Nat),Vals xs its∧h.get? a=some { cls:=.type "list",data:=.seq its.toArray n }
  | .tup xs=>xs.length≤sizeLine∧∃ its:List Value,Vals xs its∧IsTup h a its.toArray
  | .dK kvs=>kvs.length≤sizeLine∧(a == sysModules)=false∧∃ vs,KV kvs vs∧h.DictOf (yX P w) a vs
  | .dT kvs=>kvs.length≤sizeLine∧(a == sysModules)=false∧∃ xs:List (List Key × Addr × Value),
      Paired (fun (p:List Key × V) (q:List Key × Addr × Value)=>p.1=q.1∧H q.2.1=some (.tup (p.1.map kV))∧RelV p.2 q.2.2) kvs xs ∧
      ∃ o es ep,h.get? a=some o∧o.ExactDict∧o.data=.dict es ep∧es.toList=xs.map (entryOfKey (tupleKind (yX P w)))∧(xs.map (·.1)).Nodup
  | .set S n=>h.SetOf (intKind P w) a S n
  | .ins C dx fs=>H dx=some (.own a)∧fs.length≤1000∧dx≠a∧h.get? a=some (PySem.W.instObj C dx) ∧
      ∃ mA,h.Ns1 dx mA∧(∀ f,z6 (fs.lookup f) (mA f))∧PySem.Within mA (fs.map (·.1))
  | .own _=>∃ o,h.get? a=some o
  | .xd fs=>∃ mA,h.Ns1 a mA∧∀ f,z6 (fs.lookup f) (mA f)
  | .rng lo hi=>∃ t u v,h.get? a=some { cls:=.type "range",data:=.fields #[.int lo t,.int hi u,.int 1 v] }
  | .frz o u=>h.get? a=some o∧jz H h a u
  | .tbl ps=>h.get? a=some { cls:=.none,data:=.fields ps }
  | .met f x=>h.get? a=some (PySem.W.methodObj (.ref f) (.ref x))
  | .ext φ=>φ h∧(∃ o,h.get? a=some o)∧∀ h1 h2:Heap,φ h1→(∀ o,h1.get? a=some o→h2.get? a=some o)→φ h2
def HOk (H:Hp) (h:Heap):Prop:=∀ a o,H a=some o→jz P w H h a o
end
section
variable {P:Program} {w:World} {H H':Hp} {h h':Heap} {a:Addr} {o:HO}
theorem jz.lt (x:jz P w H h a o):a<h.objs.size:=by
  cases o with
  | lst xs=>obtain ⟨_,_,_,_,e⟩:=x;exact Heap.lt_size e
  | tup xs=>obtain ⟨_,_,_,p⟩:=x;exact p.lt
  | dK kvs=>obtain ⟨_,_,_,_,o,_,_,e,_⟩:=x;exact Heap.lt_size e
  | dT kvs=>obtain ⟨_,_,_,_,o,_,_,e,_⟩:=x;exact Heap.lt_size e
  | set S n=>obtain ⟨o,_,_,_,e,_⟩:=x;exact Heap.lt_size e
  | ins C dx fs=>obtain ⟨_,_,_,e,_⟩:=x;exact Heap.lt_size e
  | own y=>obtain ⟨_,e⟩:=x;exact Heap.lt_size e
  | xd fs=>obtain ⟨_,⟨_,_,_,e,_⟩,_⟩:=x;exact Heap.lt_size e
  | rng lo hi=>obtain ⟨_,_,_,e⟩:=x;exact Heap.lt_size e
  | frz ob u=>obtain ⟨e,_⟩:=x;exact Heap.lt_size e
  | tbl ps=>exact Heap.lt_size (show h.get? a=some _ from x)
  | met f y=>exact Heap.lt_size (show h.get? a=some _ from x)
  | ext φ=>obtain ⟨_,⟨_,e⟩,_⟩:=x;exact Heap.lt_size e
theorem Paired.Wc {α β:Type} {F G:α→β→Prop}:∀ {l₁:List α} {l₂:List β},Paired F l₁ l₂→(∀ a b,F a b→G a b)→Paired G l₁ l₂
  | _,_,.nil,_=>.nil
  | _,_,.cons r t,f=>.cons (f _ _ r) (Paired.Wc t f)
theorem jz.stay (x:jz P w H h a o) (k:∀ b u,(b=a∨H b=some (.own a))→h.get? b=some u→h'.get? b=some u)
    (ho:∀ b,H b=some (.own a)→H' b=some (.own a)) (ht:∀ b xs,H b=some (.tup xs)→H' b=some (.tup xs)):jz P w H' h' a o:=by
  induction o with
  | lst xs=>obtain ⟨z,its,n,r,e⟩:=x;exact ⟨z,its,n,r,k _ _ (.inl rfl) e⟩
  | tup xs=>obtain ⟨z,its,r,ob,e,c⟩:=x;exact ⟨z,its,r,ob,k _ _ (.inl rfl) e,c⟩
  | dK kvs=>obtain ⟨z,y,vs,r,ob,es,ep,e,c⟩:=x;exact ⟨z,y,vs,r,ob,es,ep,k _ _ (.inl rfl) e,c⟩
  | dT kvs =>
    obtain ⟨z,y,xs,r,ob,es,ep,e,c⟩:=x
    exact ⟨z,y,xs,Paired.Wc r fun p q z=>⟨z.1,ht _ _ z.2.1,z.2.2⟩,ob,es,ep,k _ _ (.inl rfl) e,c⟩
  | set S n=>obtain ⟨ob,es,ep,t,e,c⟩:=x;exact ⟨ob,es,ep,t,k _ _ (.inl rfl) e,c⟩
  | ins C dx fs =>
    obtain ⟨d,z,ne,e,mA,⟨od,es,ep,e2,c⟩,r⟩:=x
    exact ⟨ho _ d,z,ne,k _ _ (.inl rfl) e,mA,⟨od,es,ep,k _ _ (.inr d) e2,c⟩,r⟩
  | own y=>obtain ⟨ob,e⟩:=x;exact ⟨ob,k _ _ (.inl rfl) e⟩
  | xd fs=>obtain ⟨mA,⟨od,es,ep,e,c⟩,r⟩:=x;exact ⟨mA,⟨od,es,ep,k _ _ (.inl rfl) e,c⟩,r⟩
  | rng lo hi=>obtain ⟨t,u,v,e⟩:=x;exact ⟨t,u,v,k _ _ (.inl rfl) e⟩
  | frz ob u ih=>obtain ⟨e,q⟩:=x;exact ⟨k _ _ (.inl rfl) e,ih q⟩
  | tbl ps =>
    have e:h.get? a=some { cls:=.none,data:=.fields ps }:=x
    show h'.get? a=some { cls:=.none,data:=.fields ps }
    exact k a _ (.inl rfl) e
  | met f y =>
    have e:h.get? a=some (PySem.W.methodObj (.ref f) (.ref y)):=x
    show h'.get? a=some (PySem.W.methodObj (.ref f) (.ref y))
    exact k a _ (.inl rfl) e
  | ext φ=>obtain ⟨p,⟨o,e⟩,st⟩:=x;exact ⟨st _ _ p fun o q=>k _ _ (.inl rfl) q,⟨o,k _ _ (.inl rfl) e⟩,st⟩
theorem HOk.lt (x:HOk P w H h) (e:H a=some o):a<h.objs.size:=(x a o e).lt
theorem HOk.fresh (x:HOk P w H h) (e:h.objs.size≤a):H a=none:=by
  cases q:H a with
  | none=>rfl
  | some u=>exact absurd (Nat.lt_of_lt_of_le (x.lt q) e) (Nat.lt_irrefl _)
theorem HOk.kept (x:HOk P w H h) (k:∀ b u,h.get? b=some u→h'.get? b=some u):HOk P w H h':=fun a o e =>
  (x a o e).stay (fun b u _ q=>k b u q) (fun _ q=>q) fun _ _ q=>q
theorem HOk.laid (x:HOk P w H h) (k:∀ b u,h.get? b=some u→h'.get? b=some u) (hp:h.objs.size≤a) (new:jz P w (upd H a o) h' a o):HOk P w (upd H a o) h':=fun b u e=>by
  have hn:=x.fresh hp
  by_cases hb:b=a
  · subst hb;rw [cQ] at e;cases e;exact new
  · rw [bB hb] at e
    exact (x b u e).stay (fun c v _ q=>k c v q) (fun c q=>by rw [bB (dI q hn)];exact q) fun c xs q=>by rw [bB (dI q hn)];exact q
end
def Rd (H:Hp) (a:Addr) (u:HO):Prop:=H a=some u∨∃ o,H a=some (.frz o u)
theorem Rd.ok {P:Program} {w:World} {H:Hp} {h:Heap} {a:Addr} {u:HO} (r:Rd H a u) (x:HOk P w H h):jz P w H h a u:=by
  rcases r with r | ⟨o,r⟩
  · exact x a u r
  · obtain ⟨_,q⟩:=x a _ r
    exact q
def Mut:Option HO→Prop
  | some (.lst _)=>True
  | some (.dK _)=>True
  | some (.dT _)=>True
  | some (.set _ _)=>True
  | some (.ins _ _ _)=>True
  | some (.ext _)=>True
  | _=>False
section
variable {P:Program} {w:World} {H:Hp} {h h':Heap} {x e:Addr} {o':HO}
theorem HOk.write (ok:HOk P w H h) (mu:Mut (H x)) (he:e=x∨H e=some (.own x)) (k:∀ b u,b≠e→h.get? b=some u→h'.get? b=some u) (heo:∃ u,h'.get? e=some u)
    (new:jz P w (upd H x o') h' x o'):HOk P w (upd H x o') h':=fun b u q=>by
  have nown:∀ c y,H c=some (.own y)→c≠x:=fun c y r z=>by subst z;rw [r] at mu;exact mu
  have ntup:∀ c xs,H c=some (.tup xs)→c≠x:=fun c xs r z=>by subst z;rw [r] at mu;exact mu
  by_cases hb:b=x
  · subst hb;rw [cQ] at q;cases q;exact new
  · rw [bB hb] at q
    by_cases hbe:b=e
    · have q':H b=some (.own x):=by
        rcases he with z | z
        · exact absurd (hbe.trans z) hb
        · rw [hbe];exact z
      rw [q] at q';cases q'
      obtain ⟨v,hv⟩:=heo
      exact ⟨v,by rw [hbe];exact hv⟩
    · refine (ok b u q).stay (fun c v hc r=>k c v ?_ r) (fun c r=>by rw [bB (nown c b r)];exact r) fun c xs r=>by rw [bB (ntup c xs r)];exact r
      rcases hc with rfl | hc
      · exact hbe
      · rintro rfl
        rcases he with z | z
        · exact nown c b hc z
        · rw [hc] at z;cases z;exact hb rfl
end
structure Un (fs ex:List Addr) (H H':Hp) (h h':Heap):Prop where
  keep:∀ b o,h.get? b=some o→H b=none→b ∉ fs→b ∉ ex→h'.get? b=some o
  slot:∀ b o,h.get? b=some o→H b=none→b∈fs→b ∉ ex→∃ sl,h'.get? b=some { o with slots:=sl }
  free:∀ b o,h.get? b=some o→H b=none→b ∉ ex→H' b=none
  there:∀ b o,h.get? b=some o→b ∉ ex→∃ o',h'.get? b=some o'
  tups:∀ b xs,H b=some (.tup xs)→H' b=some (.tup xs)
  frzs:∀ b o u,H b=some (.frz o u)→H' b=some (.frz o u)
  tbls:∀ b ps,H b=some (.tbl ps)→∃ more,H' b=some (.tbl (ps++more))
section
variable {fs fs' ex ex':List Addr} {H H1 H2:Hp} {h h1 h2 h':Heap} {a x e:Addr} {o:HO}
theorem Un.any (u:Un fs ex H H1 h h1) {b:Addr} {ob:Obj} (q:h.get? b=some ob) (n:H b=none) (hx:b ∉ ex):∃ sl,h1.get? b=some { ob with slots:=sl }:=by
  by_cases hb:b∈fs
  · exact u.slot b ob q n hb hx
  · exact ⟨ob.slots,u.keep b ob q n hb hx⟩
theorem Un.kept (k:∀ b u,h.get? b=some u→h'.get? b=some u):Un fs ex H H h h' :=
  ⟨fun b ob q _ _ _=>k b ob q,fun b ob q _ _ _=>⟨ob.slots,k b ob q⟩,fun _ _ _ n _=>n,fun b ob q _=>⟨ob,k b ob q⟩,fun _ _ q=>q,fun _ _ _ q=>q,fun _ ps q=>⟨#[],by rw [q];simp⟩⟩
theorem Un.refl:Un fs ex H H h h:=Un.kept fun _ _ q=>q
theorem Un.laid (k:∀ b u,h.get? b=some u→h'.get? b=some u) (hp:h.objs.size≤a) (hn:H a=none):Un fs ex H (upd H a o) h h' where
  keep:=fun b u q _ _ _=>k b u q
  slot:=fun b u q _ _ _=>⟨u.slots,k b u q⟩
  free:=fun b u q n _=>by rw [bB (Nat.ne_of_lt (Nat.lt_of_lt_of_le (Heap.lt_size q) hp))];exact n
  there:=fun b u q _=>⟨u,k b u q⟩
  tups:=fun b xs q=>by rw [bB (dI q hn)];exact q
  frzs:=fun b u xs q=>by rw [bB (dI q hn)];exact q
  tbls:=fun b ps q=>⟨#[],by rw [bB (dI q hn),q];simp⟩
theorem Un.write (mu:Mut (H x)) (he:e=x∨H e=some (.own x)) (k:∀ b u,b≠e→h.get? b=some u→h'.get? b=some u) (heo:∃ u,h'.get? e=some u):Un fs ex H (upd H x o) h h':=by
  have hx:∀ b,H b=none→b≠x:=fun b n z=>by subst z;rw [n] at mu;exact mu
  have hb:∀ b,H b=none→b≠e:=fun b n z=>by
    subst z
    rcases he with r | r
    · exact hx b n r
    · rw [n] at r;cases r
  have hm:∀ b u,H b=some u→¬ Mut (some u)→b≠x:=fun b u q nm z=>by subst z;rw [q] at mu;exact nm mu
  refine ⟨fun b u q n _ _=>k b u (hb b n) q,fun b u q n _ _=>⟨u.slots,k b u (hb b n) q⟩,fun b u q n _=>by rw [bB (hx b n)];exact n,fun b u q _=>?_,
    fun b xs q=>by rw [bB (hm b _ q fun z=>z)];exact q,fun b u xs q=>by rw [bB (hm b _ q fun z=>z)];exact q,fun b ps q=>⟨#[],by rw [bB (hm b _ q fun z=>z),q];simp⟩⟩
  by_cases hbe:b=e
  · subst hbe;exact heo
  · exact ⟨u,k b u hbe q⟩
end
def trk (h:Heap) (H:Hp):List Addr:=(List.range h.objs.size).filter fun a=>(H a).isSome
def Bm (h:Heap) (H:Hp):Heap:=PySem.W.hideAll h (trk h H)
theorem zm (h:Heap) (H:Hp):(Bm h H).objs.size=h.objs.size:=PySem.W.hideAll_size _ _
theorem Bl {h:Heap} {H:Hp} {b:Addr} {o:Obj} (e:h.get? b=some o) (n:H b=none):(Bm h H).get? b=some o :=
  PySem.W.hideAll_get _ e fun hm=>by
    have q:(H b).isSome=true:=(List.mem_filter.mp hm).2
    rw [n] at q;simp at q
theorem Ld {h:Heap} {H:Hp} {b:Addr} {o:Obj} (e:(Bm h H).get? b=some o):h.get? b=some o∧H b=none:=by
  have e':h.get? b=some o:=PySem.W.of_hideAll (trk h H) e
  refine ⟨e',?_⟩
  cases q:H b with
  | none=>rfl
  | some x =>
    have hm:b∈trk h H:=List.mem_filter.mpr ⟨List.mem_range.mpr (Heap.lt_size e'),by simp [q]⟩
    have z:(Bm h H).get? b=none:=PySem.W.hideAll_none (trk h H) hm
    rw [z] at e;cases e
end L2
namespace L2
open PySem PySem.Spec PyProof.Rows
structure Mod (K:PySem.W.Frag) (mg:Str→Option Value) (base:Heap):Prop where
  kin:K.In base
  glob:base.Ns mainGlobals mg
  blt:∃ mb,base.Ns builtinsNs mb∧∀ x:Str,x≠"__name__"→mb x=bootBuiltins x
  nolimit:base.NoLimit
structure Cx where
  prog:Program
  w:World
  K:PySem.W.Frag
  mg:Str→Option Value
  base:Heap
  A:Around
  N:List Str
  s₀:Shared
  H₀:Hp
  env:Env
  outer:List Env
  stack:List Env
  ex:List Addr
  fn:Str→Bool
  calm:Bool
  pn:List (Addr × Obj)
  xe:Value→Shared→Prop
def frs (l:List Env):List Addr:=l.filterMap (·.frame)
abbrev Cx.fs (X:Cx):List Addr:=frs X.outer
def Vis (sc:Scope) (x:Str):Prop:=sc.names.lookup x=some .local∨sc.names.lookup x=some .cell∨sc.names.lookup x=some .free
def Loc (sc:Scope) (x:Str):Prop:=sc.names.lookup x=some .local∨sc.names.lookup x=some .cell
def Look (env:Env) (h:Heap) (m:Str→Option Value) (x:Str) (u:Value):Prop :=
  (env.kindOf x=some .local∧m x=some u)∨((env.kindOf x=some .cell∨env.kindOf x=some .free)∧∃ c,env.cells.lookup x=some c∧h.IsCell c (some u))
structure Cx.Ok (X:Cx):Prop where
  mod:Mod X.K X.mg X.base
  kind:X.env.scope.kind=.function
  glob:X.env.globals=mainGlobals
  blt:X.env.builtins=builtinsNs
  above:X.s₀.heap.objs.size≤X.env.locals
  inj:∀ x y c,X.env.cells.lookup x=some c→X.env.cells.lookup y=some c→x=y
  has:∀ x,(X.env.kindOf x=some .cell∨X.env.kindOf x=some .free)→∃ c,X.env.cells.lookup x=some c
  cab:∀ x c,X.fn x=true→X.env.cells.lookup x=some c→X.s₀.heap.objs.size≤c
  hd:X.calm=true→X.A.handled=none
  frames:X.A.frames=some X.stack
  stk:X.stack=X.outer∨(X.stack=X.env :: X.outer∧X.env.frame=some X.env.locals)
  exf:∀ b∈X.ex,b≠X.env.locals∧∀ x c,X.env.cells.lookup x=some c→c≠b
  bs:∀ b o,X.base.get? b=some o→X.s₀.heap.get? b=some o∧X.H₀ b=none
  bsz:X.base.objs.size≤X.s₀.heap.objs.size
  noex:∀ b o,X.base.get? b=some o→b ∉ X.ex
  exfs:∀ b∈X.ex,b ∉ X.fs
  vW:X.s₀.heap.FunFrames X.base X.outer
  frf:∀ b∈X.fs,X.H₀ b=none
structure Inv (X:Cx) (pins:List (Addr × Obj)) (σ:List (Option V)) (H:Hp) (s:Shared):Prop where
  ok:X.Ok
  os:s.os=X.s₀.os
  bare:AllBare s.gens
  base:Un X.fs X.ex X.H₀ H X.s₀.heap s.heap
  loc:∃ m,s.heap.Ns X.env.locals m∧∀ (i:Nat) (x:Str) (v:V),X.N[i]?=some x→σ[i]?=some (some v)→Vis X.env.scope x→∃ u,RelV v u∧Look X.env s.heap m x u
  cell:∀ x c,X.env.cells.lookup x=some c→∃ v,s.heap.IsCell c v
  free:H X.env.locals=none
  freeC:∀ x c,X.env.cells.lookup x=some c→H c=none
  pin:∀ p∈X.pn++pins,s.heap.get? p.1=some p.2∧H p.1=none∧p.1≠X.env.locals∧p.1 ∉ X.fs∧∀ v,p.2.data≠.cell v
  hok:HOk X.prog X.w H s.heap
  len:σ.length=X.N.length
section
variable {X:Cx} {pins:List (Addr × Obj)} {σ:List (Option V)} {H H':Hp} {s:Shared} {h':Heap}
theorem Cx.Ok.nofr (ok:X.Ok) {b:Addr} {o:Obj} (e:X.base.get? b=some o):b ∉ X.fs:=fun hb=>by
  have:=(ok.vW.mem hb).1
  rw [e] at this;cases this
theorem Inv.bs (I:Inv X pins σ H s):∀ b o,X.base.get? b=some o→s.heap.get? b=some o∧H b=none:=fun b o e =>
  ⟨I.base.keep b o (I.ok.bs b o e).1 (I.ok.bs b o e).2 (I.ok.nofr e) (I.ok.noex b o e),I.base.free b o (I.ok.bs b o e).1 (I.ok.bs b o e).2 (I.ok.noex b o e)⟩
theorem Inv.bk (I:Inv X pins σ H s):∀ b o,X.base.get? b=some o→s.heap.get? b=some o:=fun b o e=>(I.bs b o e).1
theorem Inv.mod (I:Inv X pins σ H s):Mod X.K X.mg X.base:=I.ok.mod
theorem Inv.kIn (I:Inv X pins σ H s):X.K.In s.heap:=I.ok.mod.kin.keeps I.bk
theorem Inv.lt (I:Inv X pins σ H s):X.env.locals<s.heap.objs.size:=let ⟨_,hn,_⟩:=I.loc;hn.lt
theorem Inv.sz (I:Inv X pins σ H s):X.s₀.heap.objs.size≤s.heap.objs.size:=Nat.le_trans I.ok.above (Nat.le_of_lt I.lt)
theorem Inv.nofs (I:Inv X pins σ H s) {a:Addr} (h:s.heap.objs.size≤a):a ∉ X.fs:=fun hb=>by
  obtain ⟨_,o,ho,_⟩:=I.ok.vW.mem hb
  exact absurd (Nat.lt_of_lt_of_le (Heap.lt_size ho) (Nat.le_trans I.sz h)) (Nat.lt_irrefl _)
theorem Inv.cne (I:Inv X pins σ H s):∀ x c,X.env.cells.lookup x=some c→c≠X.env.locals:=fun x c e z=>by
  obtain ⟨v,o,ho,hd⟩:=I.cell x c e
  obtain ⟨m,⟨o',es,ep,ho',hd',_⟩,_⟩:=I.loc
  rw [z,ho'] at ho;cases ho;rw [hd'] at hd;cases hd
theorem Inv.vW (I:Inv X pins σ H s):s.heap.FunFrames X.base X.outer:=by
  have all:∀ (l:List Env),(∀ b∈frs l,b∈X.fs)→X.s₀.heap.FunFrames X.base l→s.heap.FunFrames X.base l:=by
    intro l
    induction l with
    | nil=>intro _ _;trivial
    | cons env r ih =>
      intro hs hl
      obtain ⟨hk,⟨L,o,hf,hn,ho,hd⟩,hr⟩:=hl
      have hL:L∈X.fs:=hs L (by unfold frs;rw [List.filterMap_cons,hf];exact List.mem_cons_self)
      obtain ⟨sl,e⟩:=I.base.slot L o ho (I.ok.frf L hL) hL fun z=>I.ok.exfs L z hL
      exact ⟨hk,⟨L,_,hf,hn,e,hd⟩,ih (fun b hb=>hs b (by unfold frs;rw [List.filterMap_cons,hf];exact List.mem_cons_of_mem _ hb)) hr⟩
  exact all X.outer (fun _ hb=>hb) I.ok.vW
theorem Inv.stack (I:Inv X pins σ H s):s.heap.FunFrames X.base X.stack:=by
  rcases I.ok.stk with e | ⟨e,hf⟩
  · rw [e];exact I.vW
  · rw [e]
    obtain ⟨m,hn,_⟩:=I.loc
    refine .cons (by rw [I.ok.kind];decide) hf hn ?_ I.vW
    exact Heap.get?_none_of_le (Nat.le_trans I.ok.bsz I.ok.above)
theorem Inv.xO (I:Inv X pins σ H s):∀ b∈frs X.stack,b∈X.env.locals :: X.fs:=fun b hb=>by
  rcases I.ok.stk with e | ⟨e,hf⟩
  · rw [e] at hb;exact List.mem_cons_of_mem _ hb
  · rw [e] at hb
    unfold frs at hb
    rw [List.filterMap_cons,hf] at hb
    exact hb
theorem Inv.ur (I:Inv X pins σ H s):∀ b∈frs X.stack,H b=none:=fun b hb=>by
  rcases List.mem_cons.mp (I.xO b hb) with e | hb
  · rw [e];exact I.free
  · obtain ⟨_,o,ho,_⟩:=I.ok.vW.mem hb
    exact I.base.free b o ho (I.ok.frf b hb) fun z=>I.ok.exfs b z hb
theorem Inv.step {g':Array GenState} {t':Nat} {d':Drawn} {ch:List Addr} (I:Inv X pins σ H s)
    (hch:∀ b∈ch,(b∈X.ex∨X.s₀.heap.objs.size≤b)∧b≠X.env.locals∧(∀ x c,X.env.cells.lookup x=some c→c≠b)∧∀ p∈X.pn++pins,p.1≠b)
    (keep:∀ b o,b≠X.env.locals→b ∉ X.fs→b ∉ ch→s.heap.get? b=some o→H b=none→h'.get? b=some o)
    (slot:∀ b o,b≠X.env.locals→b∈X.fs→b ∉ ch→s.heap.get? b=some o→H b=none→∃ sl,h'.get? b=some { o with slots:=sl }) (free:∀ b o,b ∉ ch→s.heap.get? b=some o→H b=none→H' b=none)
    (there:∀ b o,b ∉ ch→s.heap.get? b=some o→∃ o',h'.get? b=some o')
    (tups:∀ b xs,H b=some (.tup xs)→H' b=some (.tup xs)) (frzs:∀ b o u,H b=some (.frz o u)→H' b=some (.frz o u)) (tbls:∀ b ps,H b=some (.tbl ps)→∃ more,H' b=some (.tbl (ps++more)))
    (ns:∀ m,s.heap.Ns X.env.locals m→h'.Ns X.env.locals m) (hok:HOk X.prog X.w H' h') (hg:AllBare g') :
    Inv X pins σ H' { s with heap:=h',gens:=g',drawn:=d',toks:=t' }:=by
  have neL:∀ b o,X.s₀.heap.get? b=some o→b≠X.env.locals:=fun b o e=>Nat.ne_of_lt (Nat.lt_of_lt_of_le (Heap.lt_size e) I.ok.above)
  have neC:∀ b o,X.s₀.heap.get? b=some o→b ∉ X.ex→b ∉ ch:=fun b o e hx hb=>by
    rcases (hch b hb).1 with z | z
    · exact hx z
    · exact absurd (Nat.lt_of_lt_of_le (Heap.lt_size e) z) (Nat.lt_irrefl _)
  have cellK:∀ x c,X.env.cells.lookup x=some c→∀ v,s.heap.IsCell c v→h'.IsCell c v:=fun x c e v ⟨o,ho,hd⟩=>by
    have nch:c ∉ ch:=fun z=>(hch c z).2.2.1 x c e rfl
    by_cases hc:c∈X.fs
    · obtain ⟨sl,q⟩:=slot c o (I.cne x c e) hc nch ho (I.freeC x c e)
      exact ⟨_,q,hd⟩
    · exact ⟨o,keep c o (I.cne x c e) hc nch ho (I.freeC x c e),hd⟩
  refine ⟨I.ok,I.os,hg,⟨fun b o e n hb hx=>?_,fun b o e n hb hx=>?_,fun b o e n hx=>?_,fun b o e hx=>?_,fun b xs e=>tups b xs (I.base.tups b xs e),fun b o xs e=>frzs b o xs (I.base.frzs b o xs e),fun b ps e=>?_⟩,?_,fun x c e=>?_,?_,fun x c e=>?_,fun p hp=>?_,hok,I.len⟩
  · exact keep b o (neL b o e) hb (neC b o e hx) (I.base.keep b o e n hb hx) (I.base.free b o e n hx)
  · obtain ⟨sl,e1⟩:=I.base.slot b o e n hb hx
    obtain ⟨sl',e2⟩:=slot b _ (neL b o e) hb (neC b o e hx) e1 (I.base.free b o e n hx)
    exact ⟨sl',e2⟩
  · obtain ⟨o',e1⟩:=I.base.there b o e hx
    exact free b o' (neC b o e hx) e1 (I.base.free b o e n hx)
  · obtain ⟨o',e1⟩:=I.base.there b o e hx
    exact there b o' (neC b o e hx) e1
  · obtain ⟨m1,e1⟩:=I.base.tbls b ps e
    obtain ⟨m2,e2⟩:=tbls b _ e1
    exact ⟨m1++m2,by rw [e2,Array.append_assoc]⟩
  · obtain ⟨m,hn,hl⟩:=I.loc
    refine ⟨m,ns m hn,fun i x v e1 e2 e3=>?_⟩
    obtain ⟨u,r,l⟩:=hl i x v e1 e2 e3
    refine ⟨u,r,?_⟩
    rcases l with l | ⟨k,c,e,z⟩
    · exact .inl l
    · exact .inr ⟨k,c,e,cellK x c e _ z⟩
  · obtain ⟨v,z⟩:=I.cell x c e
    exact ⟨v,cellK x c e v z⟩
  · obtain ⟨m,⟨o,_,_,ho,_⟩,_⟩:=I.loc
    exact free _ o (fun z=>(hch _ z).2.1 rfl) ho I.free
  · obtain ⟨v,o,ho,hd⟩:=I.cell x c e
    exact free c o (fun z=>(hch c z).2.2.1 x c e rfl) ho (I.freeC x c e)
  · obtain ⟨e,n,ne,nf,d⟩:=I.pin p hp
    have nch:p.1 ∉ ch:=fun z=>(hch p.1 z).2.2.2 p hp rfl
    exact ⟨keep p.1 p.2 ne nf nch e n,free p.1 p.2 nch e n,ne,nf,d⟩
theorem Inv.un {t':Nat} (I:Inv X pins σ H s) (u:Un X.fs [] H H' s.heap h') (hok:HOk X.prog X.w H' h'):Inv X pins σ H' { s with heap:=h',toks:=t' }:=by
  obtain ⟨m,⟨o,es,ep,ho,r⟩,_⟩:=id I.loc
  obtain ⟨sl,hL⟩:=u.any ho I.free (by simp)
  exact I.step (g':=s.gens) (d':=s.drawn) (ch:=[]) (fun _ z=>nomatch z) (fun b o _ hb _ e n=>u.keep b o e n hb (by simp)) (fun b o _ hb _ e n=>u.slot b o e n hb (by simp)) (fun b o _ e n=>u.free b o e n (by simp)) (fun b o _ e=>u.there b o e (by simp)) u.tups u.frzs u.tbls (fun m' hm=>by
    obtain ⟨o',es',ep',ho',r'⟩:=hm
    rw [ho] at ho';cases ho'
    exact ⟨_,es',ep',hL,r'⟩) hok I.bare
theorem Inv.call {g':Array GenState} {t':Nat} {d':Drawn} {ch:List Addr} (I:Inv X pins σ H s) (u:Un (frs X.stack) ch H H' s.heap h') (hok:HOk X.prog X.w H' h') (hg:AllBare g')
    (hch:∀ b∈ch,(b∈X.ex∨X.s₀.heap.objs.size≤b)∧b≠X.env.locals∧(∀ x c,X.env.cells.lookup x=some c→c≠b)∧∀ p∈X.pn++pins,p.1≠b) :
    Inv X pins σ H' { s with heap:=h',gens:=g',drawn:=d',toks:=t' }:=by
  obtain ⟨m,⟨o,es,ep,ho,r⟩,_⟩:=id I.loc
  obtain ⟨sl,hL⟩:=u.any ho I.free fun z=>(hch _ z).2.1 rfl
  exact I.step (ch:=ch) hch (fun b o hL hb hc e n=>u.keep b o e n (fun z=>(List.mem_cons.mp (I.xO b z)).elim hL hb) hc) (fun b o _ _ hc e n=>u.any e n hc) (fun b o hc e n=>u.free b o e n hc) (fun b o hc e=>u.there b o e hc) u.tups u.frzs u.tbls (fun m' hm=>by
    obtain ⟨o',es',ep',ho',r'⟩:=hm
    rw [ho] at ho';cases ho'
    exact ⟨_,es',ep',hL,r'⟩) hok hg
theorem Inv.turned {t':Nat} {it:Addr} (I:Inv X pins σ H s) (k:∀ b o,b≠it→s.heap.get? b=some o→h'.get? b=some o) (hn:H it=none) (hL:it≠X.env.locals)
    (h1:it∈X.ex∨X.s₀.heap.objs.size≤it) (h2:∀ x c,X.env.cells.lookup x=some c→c≠it) (h3:∀ p∈X.pn++pins,p.1≠it):Inv X pins σ H { s with heap:=h',toks:=t' }:=by
  have nit:∀ b u,H b=some u→b≠it:=fun b u e z=>by rw [z,hn] at e;cases e
  refine I.step (g':=s.gens) (d':=s.drawn) (ch:=[it]) (fun b hb=>?_) (fun b o _ _ hc e _=>k b o (fun z=>hc (by simp [z])) e) (fun b o _ _ hc e _=>⟨o.slots,k b o (fun z=>hc (by simp [z])) e⟩) (fun _ _ _ _ n=>n)
    (fun b o hc e=>⟨o,k b o (fun z=>hc (by simp [z])) e⟩) (fun _ _ e=>e) (fun _ _ _ e=>e) (fun b ps e=>⟨#[],by rw [e];simp⟩) (fun m hm=>?_) (fun b u e=>?_) I.bare
  · have e:b=it:=by simpa using hb
    subst e
    exact ⟨h1,hL,h2,h3⟩
  · obtain ⟨o,es,ep,ho,r⟩:=hm
    exact ⟨o,es,ep,k _ o (Ne.symm hL) ho,r⟩
  · refine (I.hok b u e).stay (fun c v hc q=>k c v ?_ q) (fun _ q=>q) fun _ _ q=>q
    rcases hc with z | z
    · rw [z];exact nit b u e
    · exact nit c _ z
theorem Inv.tok (I:Inv X pins σ H s) (t:Nat):Inv X pins σ H { s with toks:=t }:=I.un (h':=s.heap) (t':=t) Un.refl I.hok
theorem Inv.kept {t':Nat} (I:Inv X pins σ H s) (k:∀ b u,s.heap.get? b=some u→h'.get? b=some u):Inv X pins σ H { s with heap:=h',toks:=t' }:=I.un (Un.kept k) (I.hok.kept k)
theorem Inv.laid {a:Addr} {o:HO} {t':Nat} (I:Inv X pins σ H s) (k:∀ b u,s.heap.get? b=some u→h'.get? b=some u) (hp:s.heap.objs.size≤a) (new:jz X.prog X.w (upd H a o) h' a o) :
    Inv X pins σ (upd H a o) { s with heap:=h',toks:=t' }:=I.un (Un.laid k hp (I.hok.fresh hp)) (I.hok.laid k hp new)
theorem Inv.write {x e:Addr} {o:HO} {t':Nat} (I:Inv X pins σ H s) (mu:Mut (H x)) (he:e=x∨H e=some (.own x)) (k:∀ b u,b≠e→s.heap.get? b=some u→h'.get? b=some u) (heo:∃ u,h'.get? e=some u)
    (new:jz X.prog X.w (upd H x o) h' x o):Inv X pins σ (upd H x o) { s with heap:=h',toks:=t' }:=I.un (Un.write mu he k heo) (I.hok.write mu he k heo new)
theorem Inv.yG {pins':List (Addr × Obj)} (I:Inv X pins σ H s) (h:∀ p∈pins',s.heap.get? p.1=some p.2∧H p.1=none∧p.1≠X.env.locals∧p.1 ∉ X.fs∧∀ v,p.2.data≠.cell v):Inv X pins' σ H s :=
  ⟨I.ok,I.os,I.bare,I.base,I.loc,I.cell,I.free,I.freeC,fun p hp=>(List.mem_append.mp hp).elim (fun z=>I.pin p (List.mem_append_left _ z)) (h p),I.hok,I.len⟩
theorem vP {N:List Str} (hN:N.Nodup) {i j:Nat} {x:Str} (a:N[i]?=some x) (b:N[j]?=some x):i=j:=by
  obtain ⟨h1,e1⟩:=List.getElem?_eq_some_iff.mp a
  obtain ⟨h2,e2⟩:=List.getElem?_eq_some_iff.mp b
  exact (List.getElem_inj hN).mp (e1.trans e2.symm)
theorem rN {M:Model} {A:Around} {E:Value→Shared→Prop} {i:Nat} {x:Str} {v:V} {u:Value} {Q:Unit→Shared→Prop} (I:Inv X pins σ H s) (hN:X.N.Nodup) (hi:X.N[i]?=some x) (hx:Loc X.env.scope x) (r:RelV v u)
    (h:∀ s',Inv X pins (σ.set i (some v)) H s'→(∃ a,Heap.SameBut a s.heap s'.heap∧(a=X.env.locals∨X.env.cells.lookup x=some a))→Q () s') (hf:X.fn x=true∨X.env.scope.names.lookup x=some .local:=by first | exact .inl rfl | exact .inr rfl | assumption):wpAny M A (storeName X.env x u) Q E s:=by
  obtain ⟨m,hn,hl⟩:=id I.loc
  have hcls:(X.env.scope.kind == .class || (X.env.scope.kind == .module && X.env.locals != X.env.globals))=false:=by rw [I.ok.kind];rfl
  have hiσ:i<σ.length:=by rw [I.len];exact (List.getElem?_eq_some_iff.mp hi).1
  have cne:=I.cne
  have tracked:∀ {a:Addr} {h':Heap},(∃ o,s.heap.get? a=some o∧H a=none)→Heap.SameBut a s.heap h'→HOk X.prog X.w H h':=fun {a h'} ha hs b ob e=>by
    obtain ⟨_,_,hfree⟩:=ha
    refine (I.hok b ob e).stay (fun c w' hc q=>(hs.2 c ?_).trans q) (fun _ q=>q) fun _ _ q=>q
    rintro rfl
    rcases hc with rfl | hc
    · rw [hfree] at e;cases e
    · rw [hfree] at hc;cases hc
  rcases hx with hk | hk
  · refine wpAny_storeName_local hk hn (fun h' hn' hs=>?_) hcls
    obtain ⟨oL,_,_,hoL,_⟩:=id hn
    refine h _ ⟨I.ok,I.os,I.bare,⟨fun b o e n hb hx=>?_,fun b o e n hb hx=>?_,I.base.free,fun b o e hx=>?_,I.base.tups,I.base.frzs,I.base.tbls⟩,⟨_,hn',fun j y v' e1 e2 e3=>?_⟩,fun y c e=>?_,I.free,I.freeC,fun p hp=>?_,tracked ⟨oL,hoL,I.free⟩ hs,by simpa using I.len⟩ ⟨_,hs,.inl rfl⟩
    · exact (hs.2 b (Nat.ne_of_lt (Nat.lt_of_lt_of_le (Heap.lt_size e) I.ok.above))).trans (I.base.keep b o e n hb hx)
    · obtain ⟨sl,e1⟩:=I.base.slot b o e n hb hx
      exact ⟨sl,(hs.2 b (Nat.ne_of_lt (Nat.lt_of_lt_of_le (Heap.lt_size e) I.ok.above))).trans e1⟩
    · obtain ⟨o',e1⟩:=I.base.there b o e hx
      exact ⟨o',(hs.2 b (Nat.ne_of_lt (Nat.lt_of_lt_of_le (Heap.lt_size e) I.ok.above))).trans e1⟩
    · by_cases hj:j=i
      · subst hj
        rw [hi] at e1;cases e1
        rw [List.getElem?_set_self hiσ] at e2
        cases e2
        exact ⟨u,r,.inl ⟨hk,by simp⟩⟩
      · rw [List.getElem?_set_ne (Ne.symm hj)] at e2
        obtain ⟨u',r',q⟩:=hl j y v' e1 e2 e3
        refine ⟨u',r',?_⟩
        rcases q with ⟨k,e⟩ | ⟨k,c,e,z⟩
        · refine .inl ⟨k,?_⟩
          have:y≠x:=fun e=>hj (vP hN e1 (e ▸ hi))
          simp [this,e]
        · exact .inr ⟨k,c,e,z.sameBut hs (cne y c e)⟩
    · obtain ⟨w',z⟩:=I.cell y c e
      exact ⟨w',z.sameBut hs (cne y c e)⟩
    · obtain ⟨e,n,ne,nf,d⟩:=I.pin p hp
      exact ⟨(hs.2 p.1 ne).trans e,n,ne,nf,d⟩
  · have hfn:X.fn x=true:=by
      rcases hf with z | z
      · exact z
      · rw [z] at hk;cases hk
    obtain ⟨c,hc⟩:=I.ok.has x (.inl hk)
    obtain ⟨w',z⟩:=I.cell x c hc
    refine wpAny_storeName_cell I.ok.kind hk hc z (fun h' hc' hs=>?_)
    obtain ⟨oc,hoc,hocd⟩:=id z
    refine h { s with heap:=h' } ⟨I.ok,I.os,I.bare,⟨fun b o e n hb hx=>?_,fun b o e n hb hx=>?_,I.base.free,fun b o e hx=>?_,I.base.tups,I.base.frzs,I.base.tbls⟩,⟨m,hn.sameBut hs (Ne.symm (cne x c hc)),fun j y v' e1 e2 e3=>?_⟩,fun y c' e=>?_,I.free,I.freeC,fun p hp=>?_,tracked ⟨oc,hoc,I.freeC x c hc⟩ hs,by simpa using I.len⟩ ⟨c,hs,.inr hc⟩
    · exact (hs.2 b (Nat.ne_of_lt (Nat.lt_of_lt_of_le (Heap.lt_size e) (I.ok.cab x c hfn hc)))).trans (I.base.keep b o e n hb hx)
    · obtain ⟨sl,e1⟩:=I.base.slot b o e n hb hx
      exact ⟨sl,(hs.2 b (Nat.ne_of_lt (Nat.lt_of_lt_of_le (Heap.lt_size e) (I.ok.cab x c hfn hc)))).trans e1⟩
    · obtain ⟨o',e1⟩:=I.base.there b o e hx
      exact ⟨o',(hs.2 b (Nat.ne_of_lt (Nat.lt_of_lt_of_le (Heap.lt_size e) (I.ok.cab x c hfn hc)))).trans e1⟩
    · by_cases hj:j=i
      · subst hj
        rw [hi] at e1;cases e1
        rw [List.getElem?_set_self hiσ] at e2
        cases e2
        exact ⟨u,r,.inr ⟨.inl hk,c,hc,hc'⟩⟩
      · rw [List.getElem?_set_ne (Ne.symm hj)] at e2
        obtain ⟨u',r',q⟩:=hl j y v' e1 e2 e3
        refine ⟨u',r',?_⟩
        rcases q with q | ⟨k,c',e,z'⟩
        · exact .inl q
        · refine .inr ⟨k,c',e,z'.sameBut hs ?_⟩
          rintro rfl
          exact hj (vP hN e1 (I.ok.inj _ _ _ e hc ▸ hi))
    · by_cases hcc:c'=c
      · subst hcc;exact ⟨_,hc'⟩
      · obtain ⟨w2,z2⟩:=I.cell y c' e
        exact ⟨w2,z2.sameBut hs hcc⟩
    · obtain ⟨e,n,ne,nf,d⟩:=I.pin p hp
      refine ⟨(hs.2 p.1 ?_).trans e,n,ne,nf,d⟩
      intro q
      rw [q,hoc] at e
      have q':oc=p.2:=Option.some.inj e
      exact d w' (by rw [← q'];exact hocd)
theorem qt {M:Model} {A:Around} {E:Value→Shared→Prop} {i:Nat} {x:Str} {v:V} {u:Value} {Q:Unit→Shared→Prop} (I:Inv X pins σ H s) (hN:X.N.Nodup) (hi:X.N[i]?=some x) (hx:Loc X.env.scope x) (r:RelV v u)
    (h:∀ s',Inv X pins (σ.set i (some v)) H s'→Q () s') (hf:X.fn x=true∨X.env.scope.names.lookup x=some .local:=by first | exact .inl rfl | exact .inr rfl | assumption):wpAny M A (storeName X.env x u) Q E s :=
  rN I hN hi hx r (fun s' I' _=>h s' I') hf
theorem Inv.call' {s':Shared} {ch:List Addr} (I:Inv X pins σ H s) (ho:s'.os=s.os) (u:Un (frs X.stack) ch H H' s.heap s'.heap) (hok:HOk X.prog X.w H' s'.heap) (hg:AllBare s'.gens)
    (hch:∀ b∈ch,(b∈X.ex∨X.s₀.heap.objs.size≤b)∧b≠X.env.locals∧(∀ x c,X.env.cells.lookup x=some c→c≠b)∧∀ p∈X.pn++pins,p.1≠b):Inv X pins σ H' s':=by
  obtain ⟨h',g',d',t',o'⟩:=s'
  have e:o'=s.os:=ho
  subst e
  exact I.call (g':=g') (t':=t') (d':=d') u hok hg hch
end
abbrev XK:=Value→Option Addr→Hp→Prop
abbrev St:=List (Option V)
abbrev VK:=V→Hp→Prop
abbrev TE:=St→Hp→VK→Prop
abbrev TT:=St→Hp→(Bool→Hp→Prop)→Prop
abbrev TA:=St→Hp→(List V→Hp→Prop)→Prop
structure Ends where
  nx:St→Hp→Prop
  rt:VK
  bk:St→Hp→Prop:=fun _ _=>False
  ct:St→Hp→Prop:=fun _ _=>False
abbrev TS:=Ends→St→Hp→Prop
def EP (X:Cx) (pins:List (Addr × Obj)) (σ:St) (Q:VK) (u:Value) (s':Shared):Prop:=∃ v H',Inv X pins σ H' s'∧RelV v u∧Q v H'
def TP (X:Cx) (pins:List (Addr × Obj)) (σ:St) (Q:Bool→Hp→Prop) (b:Bool) (s':Shared):Prop:=∃ H',Inv X pins σ H' s'∧Q b H'
def AP (X:Cx) (pins:List (Addr × Obj)) (σ:St) (Q:List V→Hp→Prop) (us:List Value) (s':Shared):Prop:=∃ vs H',Inv X pins σ H' s'∧Vals vs us∧Q vs H'
def SP (X:Cx) (pins:List (Addr × Obj)) (D:Ends) (f:Flow) (s':Shared):Prop :=
  match f with
  | .next=>∃ σ' H',Inv X pins σ' H' s'∧D.nx σ' H'
  | .brk=>∃ σ' H',Inv X pins σ' H' s'∧D.bk σ' H'
  | .cont=>∃ σ' H',Inv X pins σ' H' s'∧D.ct σ' H'
  | .ret u=>∃ v σ' H',Inv X pins σ' H' s'∧RelV v u∧D.rt v H'
def PE (X:Cx) (e:Expr) (t:TE):Prop :=
  ∀ (pins:List (Addr × Obj)) (s:Shared) (σ:St) (H:Hp) (Q:VK),Inv X pins σ H s→t σ H Q→wpAny (model X.prog X.w) X.A (eval e X.env) (EP X pins σ Q) X.xe s
def PT (X:Cx) (e:Expr) (t:TT):Prop :=
  ∀ (pins:List (Addr × Obj)) (s:Shared) (σ:St) (H:Hp) (Q:Bool→Hp→Prop),Inv X pins σ H s→t σ H Q→wpAny (model X.prog X.w) X.A (isTrue e X.env (eval e X.env)) (TP X pins σ Q) X.xe s
def PW (X:Cx) (e:Expr) (t:TT):Prop :=
  ∀ (whole:Sem Value) (pins:List (Addr × Obj)) (s:Shared) (σ:St) (H:Hp) (Q:Bool→Hp→Prop),Inv X pins σ H s→t σ H Q→wpAny (model X.prog X.w) X.A (isTrue e X.env whole) (TP X pins σ Q) X.xe s
theorem PW.pt {X:Cx} {e:Expr} {t:TT} (h:PW X e t):PT X e t:=h _
def PA (X:Cx) (es:List Expr) (t:TA):Prop :=
  ∀ (pos:Pos) (pins:List (Addr × Obj)) (s:Shared) (σ:St) (H:Hp) (Q:List V→Hp→Prop),Inv X pins σ H s→t σ H Q→wpAny (model X.prog X.w) X.A (spliced (backTo pos (starEach es X.env))) (AP X pins σ Q) X.xe s
def PS (X:Cx) (st:Stmt) (t:TS):Prop :=
  ∀ (pins:List (Addr × Obj)) (s:Shared) (σ:St) (H:Hp) (D:Ends),Inv X pins σ H s→t D σ H→wpAny (model X.prog X.w) X.A (exec st X.env) (SP X pins D) X.xe s
def PSs (X:Cx) (st:List Stmt) (t:TS):Prop :=
  ∀ (pins:List (Addr × Obj)) (s:Shared) (σ:St) (H:Hp) (D:Ends),Inv X pins σ H s→t D σ H→wpAny (model X.prog X.w) X.A (execs st X.env) (SP X pins D) X.xe s
theorem thn {α:Type} {t:Sem α} {Q Q':α→Shared→Prop} {M:Model} {A:Around} {E:Value→Shared→Prop} {s:Shared} (h:wpAny M A t Q E s) (hQ:∀ a s,Q a s→Q' a s):wpAny M A t Q' E s:=wpAny_mono h hQ fun _ _ x=>x
end L2
namespace L2
open PySem PySem.Spec PyProof.Rows
section
variable {X:Cx}
def Tp (i:Nat):TE:=fun σ H Q=>∃ v,σ[i]?=some (some v)∧Q v H
def tC (v:V):TE:=fun _ H Q=>Q v H
theorem MN {i:Nat} {x:Str} {pos:Pos} (hN:X.N[i]?=some x) (hv:Vis X.env.scope x) (hd:(x == ("__debug__":Str))=false:=by decide) (hcd:(x == ("__classdict__":Str))=false:=by decide):PE X (.Name x pos) (Tp i):=by
  intro pins s σ H Q I h
  obtain ⟨v,e,h⟩:=h
  obtain ⟨m,hn,hl⟩:=I.loc
  obtain ⟨u,r,l⟩:=hl i x v hN e hv
  have fin:EP X pins σ Q u s:=⟨v,H,I,r,h⟩
  rcases l with ⟨hk,hm⟩ | ⟨hk,c,hc,hcell⟩
  · exact wpAny_Name (wpAny_loadName_local I.ok.kind hk hn hm fin) hd
  · rcases hk with hk | hk
    · exact wpAny_Name (wpAny_loadName_cell I.ok.kind hk hc hcell fin) hd
    · exact wpAny_Name (wpAny_loadName_free I.ok.kind hk hc hcell fin hcd) hd
theorem aq {i j pos}:PE X (.Constant (.int i) j pos) (tC (.int i)):=fun _ _ _ H _ I h=>wpAny_Constant_int ⟨.int i,H,I.tok _,⟨_,rfl⟩,h⟩
theorem pJ {b j pos}:PE X (.Constant (.bool b) j pos) (tC (.bl b)):=fun _ _ _ H _ I h=>Constant_bool ⟨.bl b,H,I,rfl,h⟩
theorem pZ {j pos}:PE X (.Constant .none j pos) (tC .non):=fun _ _ _ H _ I h=>Constant_none ⟨.non,H,I,rfl,h⟩
theorem aF {x j pos}:PE X (.Constant (.str x) j pos) (tC (.str x)):=fun _ _ _ H _ I h=>Calls.Constant_str ⟨.str x,H,I.tok _,⟨_,rfl⟩,h⟩
def Gl (X:Cx) (x:Str):Prop:=X.env.kindOf x=some .globalImplicit
theorem lY {E:Value→Shared→Prop} {pins:List (Addr × Obj)} {s:Shared} {σ:St} {H:Hp} {x:Str} {u:Value} {pos:Pos} {Q:Value→Shared→Prop} (I:Inv X pins σ H s) (hg:Gl X x) (hm:X.mg x=some u) (h:Q u s)
    (hd:(x == ("__debug__":Str))=false:=by decide):wpAny (model X.prog X.w) X.A (eval (.Name x pos) X.env) Q E s :=
  Calls.Name_function_global I.ok.kind hg (Calls.loadGlobal_global (by rw [I.ok.glob];exact I.mod.glob.keeps I.bk) hm h) hd
theorem oU {E:Value→Shared→Prop} {pins:List (Addr × Obj)} {s:Shared} {σ:St} {H:Hp} {x:Str} {u:Value} {pos:Pos} {Q:Value→Shared→Prop} (I:Inv X pins σ H s) (hg:Gl X x) (hm:X.mg x=none) (hv:bootBuiltins x=some u) (h:Q u s)
    (hn:x≠"__name__":=by decide) (hd:(x == ("__debug__":Str))=false:=by decide):wpAny (model X.prog X.w) X.A (eval (.Name x pos) X.env) Q E s:=by
  obtain ⟨mb,h1,h2⟩:=I.mod.blt
  exact Calls.Name_function_global I.ok.kind hg (Calls.loadGlobal_builtin (by rw [I.ok.glob];exact I.mod.glob.keeps I.bk) hm (by rw [I.ok.blt];exact h1.keeps I.bk) ((h2 x hn).trans hv) h) hd
theorem iV {x:Str} {v:V} {u:Value} {pos:Pos} (hg:Gl X x) (hm:X.mg x=some u) (r:RelV v u) (hd:(x == ("__debug__":Str))=false:=by decide):PE X (.Name x pos) (tC v) :=
  fun _ _ _ H _ I h=>lY I hg hm ⟨v,H,I,r,h⟩ hd
theorem KZ {x:Str} {v:V} {u:Value} {pos:Pos} (hg:Gl X x) (hm:X.mg x=none) (hv:bootBuiltins x=some u) (r:RelV v u) (hn:x≠"__name__":=by decide) (hd:(x == ("__debug__":Str))=false:=by decide):PE X (.Name x pos) (tC v) :=
  fun _ _ _ H _ I h=>oU I hg hm hv ⟨v,H,I,r,h⟩ hn hd
def t2I (ta tb:TE) (k:Int→Int→Hp→Prop):St→Hp→Prop:=fun σ H=>ta σ H fun x H1=>tb σ H1 fun y H2=>∃ i j,x=.int i∧y=.int j∧k i j H2
variable {a b:Expr} {ta tb:TE} {pos:Pos}
def Ma (p:Int→Int→Bool) (ta tb:TE):TE:=fun σ H Q=>t2I ta tb (fun i j H2=>Q (.bl (p i j)) H2) σ H
abbrev tLt:TE→TE→TE:=Ma fun i j=>decide (i<j)
abbrev tLe:TE→TE→TE:=Ma fun i j=>decide (i≤j)
abbrev tGt:TE→TE→TE:=Ma fun i j=>decide (j<i)
abbrev tGe:TE→TE→TE:=Ma fun i j=>decide (j≤i)
abbrev tEqI:TE→TE→TE:=Ma fun i j=>decide (i=j)
abbrev tNeI:TE→TE→TE:=Ma fun i j=>!decide (i=j)
def tB (t:TE):TT:=fun σ H Q=>t σ H fun x H1=>∃ c,x=.bl c∧Q c H1
theorem kW {e:Expr} {t:TE} (h:PE X e t) (he:∀ whole,isTrue e X.env whole=(do let v ← whole;standAt e.pos;holding [v] (truthy v)):=by intro _;rfl):PT X e (tB t):=by
  intro pins s σ H Q I hw
  refine isTrue_plain (thn (h pins s σ H _ I hw) fun v s1 ⟨x,H1,I1,r1,q1⟩=>?_) (he _)
  obtain ⟨d,rfl,q⟩:=q1
  cases r1
  exact wpAny_truthy_bool ⟨H1,I1,q⟩
variable {tA tB':TT} {rest:List Expr}
def tAnd (t u:TT):TT:=fun σ H Q=>t σ H fun c H1=>if c=true then u σ H1 Q else Q false H1
def tOr (t u:TT):TT:=fun σ H Q=>t σ H fun c H1=>if c=true then Q true H1 else u σ H1 Q
def tNot (t:TT):TT:=fun σ H Q=>t σ H fun c H1=>Q (!c) H1
theorem pw_and1 (ha:PT X a tA):PW X (.BoolOp .And [a] pos) tA:=by
  intro wh pins s σ H Q I h
  refine isTrue_and (thn (ha pins s σ H Q I h) fun c s1 e=>?_)
  cases c with
  | true=>exact isTrue_and_nil e
  | false=>exact e
theorem pw_or1 (ha:PT X a tA):PW X (.BoolOp .Or [a] pos) tA:=by
  intro wh pins s σ H Q I h
  refine isTrue_or (thn (ha pins s σ H Q I h) fun c s1 e=>?_)
  cases c with
  | false=>exact isTrue_or_nil e
  | true=>exact e
theorem pw_and (ha:PT X a tA) (hb:PW X (.BoolOp .And (b :: rest) pos) tB'):PW X (.BoolOp .And (a :: b :: rest) pos) (tAnd tA tB'):=by
  intro wh pins s σ H Q I h
  refine isTrue_and (thn (ha pins s σ H _ I h) fun c s1 ⟨H1,I1,q1⟩=>?_)
  cases c with
  | true=>exact hb wh pins s1 σ H1 Q I1 q1
  | false=>exact ⟨H1,I1,q1⟩
theorem pw_or (ha:PT X a tA) (hb:PW X (.BoolOp .Or (b :: rest) pos) tB'):PW X (.BoolOp .Or (a :: b :: rest) pos) (tOr tA tB'):=by
  intro wh pins s σ H Q I h
  refine isTrue_or (thn (ha pins s σ H _ I h) fun c s1 ⟨H1,I1,q1⟩=>?_)
  cases c with
  | true=>exact ⟨H1,I1,q1⟩
  | false=>exact hb wh pins s1 σ H1 Q I1 q1
theorem jP (ha:PT X a tA):PT X (.UnaryOp .Not a pos) (tNot tA):=by
  intro pins s σ H Q I h
  exact isTrue_not (ha pins s σ H (fun c H1=>Q (!c) H1) I h)
def T9 (ta tb:TE):TE:=fun σ H Q=>ta σ H fun x H1=>∃ c,x=.bl c∧if c=true then tb σ H1 Q else Q (.bl false) H1
def tOrV (ta tb:TE):TE:=fun σ H Q=>ta σ H fun x H1=>∃ c,x=.bl c∧if c=true then Q (.bl true) H1 else tb σ H1 Q
def T3 (ta:TE):TE:=fun σ H Q=>ta σ H fun x H1=>∃ c,x=.bl c∧Q (.bl (!c)) H1
theorem yI {op} {t:TE} (h:PE X a t):PE X (.BoolOp op [a] pos) t:=fun pins s σ H Q I hw=>BoolOp_one (h pins s σ H Q I hw)
theorem Ck (ha:PE X a ta) (hb:PE X (.BoolOp .And (b :: rest) pos) tb):PE X (.BoolOp .And (a :: b :: rest) pos) (T9 ta tb):=by
  intro pins s σ H Q I h
  refine BoolOp_and (thn (ha pins s σ H _ I h) fun v s1 ⟨x,H1,I1,r1,q1⟩=>?_)
  obtain ⟨c,rfl,q1⟩:=q1
  cases r1
  refine wpAny_truthy_bool ?_
  cases c with
  | true=>exact hb pins s1 σ H1 Q I1 q1
  | false=>exact ⟨.bl false,H1,I1,rfl,q1⟩
theorem Ud (ha:PE X a ta) (hb:PE X (.BoolOp .Or (b :: rest) pos) tb):PE X (.BoolOp .Or (a :: b :: rest) pos) (tOrV ta tb):=by
  intro pins s σ H Q I h
  refine BoolOp_or (thn (ha pins s σ H _ I h) fun v s1 ⟨x,H1,I1,r1,q1⟩=>?_)
  obtain ⟨c,rfl,q1⟩:=q1
  cases r1
  refine wpAny_truthy_bool ?_
  cases c with
  | false=>exact hb pins s1 σ H1 Q I1 q1
  | true=>exact ⟨.bl true,H1,I1,rfl,q1⟩
theorem MP (ha:PE X a ta):PE X (.UnaryOp .Not a pos) (T3 ta):=by
  intro pins s σ H Q I h
  refine UnaryOp_ (thn (ha pins s σ H _ I h) fun v s1 ⟨x,H1,I1,r1,q1⟩=>?_)
  obtain ⟨c,rfl,q1⟩:=q1
  cases r1
  exact not_of (wpAny_truthy_bool ⟨.bl (!c),H1,I1,rfl,q1⟩)
def tIf (t:TT) (ta tb:TE):TE:=fun σ H Q=>t σ H fun c H1=>if c=true then ta σ H1 Q else tb σ H1 Q
theorem Ag {c:Expr} (hc:PT X c tA) (ha:PE X a ta) (hb:PE X b tb):PE X (.IfExp c a b pos) (tIf tA ta tb):=by
  intro pins s σ H Q I h
  refine wpAny_IfExp (thn (hc pins s σ H _ I h) fun d s1 ⟨H1,I1,q1⟩=>?_)
  cases d with
  | true=>exact ha pins s1 σ H1 Q I1 q1
  | false=>exact hb pins s1 σ H1 Q I1 q1
end
end L2
namespace L2
open PySem PySem.Spec PyProof.Rows
def SqL (K:PySem.W.Frag) (H:Hp) (a:Addr) (xs:List V):Prop :=
  Rd H a (.lst xs) ∨
    ∃ (o:Obj) (its:Array Value) (n:Nat),K.lookup a=some o∧o.cls=.type "list"∧o.dict=none∧o.data=.seq its n∧its.size≤sizeLine∧Vals xs its.toList
def SqT (K:PySem.W.Frag) (H:Hp) (a:Addr) (xs:List V):Prop :=
  Rd H a (.tup xs) ∨
    ∃ (o:Obj) (its:Array Value) (n:Nat),K.lookup a=some o∧o.cls=.type "tuple"∧o.data=.seq its n∧its.size≤sizeLine∧Vals xs its.toList
def absV:Value→Option V
  | .none=>some .non
  | .bool b=>some (.bl b)
  | .int i _=>some (.int i)
  | .str x _=>some (.str x)
  | .bytes b _=>some (.byt b)
  | .float b _=>some (.flt b)
  | .ref a=>some (.ref a)
  | .type n=>some (.ty n)
  | _=>none
theorem RelV.abs {x:V} {u:Value} (r:RelV x u):absV u=some x:=by
  cases x with
  | non=>cases r;rfl
  | bl _=>cases r;rfl
  | int _=>obtain ⟨t,rfl⟩:=r;rfl
  | str _=>obtain ⟨t,rfl⟩:=r;rfl
  | byt _=>obtain ⟨t,rfl⟩:=r;rfl
  | flt _=>obtain ⟨t,rfl⟩:=r;rfl
  | ref _=>cases r;rfl
  | ty _=>cases r;rfl
theorem RelV.inj {x y:V} {u:Value} (r:RelV x u) (q:RelV y u):x=y:=Option.some.inj (r.abs.symm.trans q.abs)
theorem Vals.inj:∀ {xs ys:List V} {us:List Value},Vals xs us→Vals ys us→xs=ys
  | _,_,_,.nil,.nil=>rfl
  | _,_,_,.cons r t,.cons r' t'=>by rw [r.inj r',Vals.inj t t']
section
variable {X:Cx} {pins:List (Addr × Obj)} {σ:St} {H:Hp} {s:Shared} {a:Addr} {xs ys:List V}
theorem SqL.of {K:PySem.W.Frag} (h:H a=some (.lst xs)):SqL K H a xs:=.inl (.inl h)
theorem SqT.of {K:PySem.W.Frag} (h:H a=some (.tup xs)):SqT K H a xs:=.inl (.inl h)
theorem Inv.list (I:Inv X pins σ H s) (h:SqL X.K H a xs):∃ its:List Value,Vals xs its∧PlainL s.heap a its.toArray∧xs.length≤sizeLine:=by
  rcases h with h | ⟨o,its,n,hk,hc,hd,hs,hz,r⟩
  · obtain ⟨z,its,n,r,e⟩:=h.ok I.hok
    exact ⟨its,r,⟨_,n,e,rfl,rfl,rfl⟩,z⟩
  · refine ⟨its.toList,r,⟨o,n,I.kIn a o hk,hc,hd,by simpa using hs⟩,?_⟩
    have e:=r.length
    simp only [Array.length_toList] at e
    omega
theorem Inv.tuple (I:Inv X pins σ H s) (h:SqT X.K H a xs):∃ its:List Value,Vals xs its∧IsTup s.heap a its.toArray∧xs.length≤sizeLine:=by
  rcases h with h | ⟨o,its,n,hk,hc,hs,hz,r⟩
  · obtain ⟨z,its,r,p⟩:=h.ok I.hok
    exact ⟨its,r,p,z⟩
  · refine ⟨its.toList,r,⟨o,I.kIn a o hk,hc,n,by simpa using hs⟩,?_⟩
    have e:=r.length
    simp only [Array.length_toList] at e
    omega
theorem Inv.Bg (I:Inv X pins σ H s) (h:SqL X.K H a xs) (h':SqL X.K H a ys):xs=ys:=by
  obtain ⟨its,r,⟨o,n,e,_,_,d⟩,_⟩:=I.list h
  obtain ⟨its',r',⟨o',n',e',_,_,d'⟩,_⟩:=I.list h'
  rw [e] at e';cases e'
  rw [d] at d'
  injection d' with d1 _
  have:its=its':=by simpa using congrArg Array.toList d1
  subst this
  exact r.inj r'
theorem Inv.xJ (I:Inv X pins σ H s) (h:SqT X.K H a xs) (h':SqT X.K H a ys):xs=ys:=by
  obtain ⟨its,r,⟨o,e,_,n,d⟩,_⟩:=I.tuple h
  obtain ⟨its',r',⟨o',e',_,n',d'⟩,_⟩:=I.tuple h'
  rw [e] at e';cases e'
  rw [d] at d'
  injection d' with d1 _
  have:its=its':=by simpa using congrArg Array.toList d1
  subst this
  exact r.inj r'
end
abbrev Cx.wish (X:Cx) (E:Value→Shared→Prop):Cx:={ X with xe:=E }
abbrev Cx.nox (X:Cx):Cx:=X.wish fun _ _=>False
theorem Cx.Ok.wish {X:Cx} (ok:X.Ok) (E:Value→Shared→Prop):(X.wish E).Ok :=
  ⟨ok.mod,ok.kind,ok.glob,ok.blt,ok.above,ok.inj,ok.has,ok.cab,ok.hd,ok.frames,ok.stk,ok.exf,ok.bs,ok.bsz,ok.noex,ok.exfs,ok.vW,ok.frf⟩
theorem Cx.Ok.lH {X:Cx} {E:Value→Shared→Prop} (ok:(X.wish E).Ok):X.Ok :=
  ⟨ok.mod,ok.kind,ok.glob,ok.blt,ok.above,ok.inj,ok.has,ok.cab,ok.hd,ok.frames,ok.stk,ok.exf,ok.bs,ok.bsz,ok.noex,ok.exfs,ok.vW,ok.frf⟩
section
variable {X:Cx} {pins:List (Addr × Obj)} {σ:St} {H:Hp} {s:Shared} {E:Value→Shared→Prop}
theorem Inv.wish (I:Inv X pins σ H s) (E:Value→Shared→Prop):Inv (X.wish E) pins σ H s:=⟨I.ok.wish E,I.os,I.bare,I.base,I.loc,I.cell,I.free,I.freeC,I.pin,I.hok,I.len⟩
theorem Inv.lH (I:Inv (X.wish E) pins σ H s):Inv X pins σ H s:=⟨I.ok.lH,I.os,I.bare,I.base,I.loc,I.cell,I.free,I.freeC,I.pin,I.hok,I.len⟩
theorem SP.lH {D:Ends} {f:Flow} {s':Shared} (h:SP (X.wish E) pins D f s'):SP X pins D f s':=by
  cases f with
  | next=>obtain ⟨σ',H',I,q⟩:=h;exact ⟨σ',H',I.lH,q⟩
  | brk=>obtain ⟨σ',H',I,q⟩:=h;exact ⟨σ',H',I.lH,q⟩
  | cont=>obtain ⟨σ',H',I,q⟩:=h;exact ⟨σ',H',I.lH,q⟩
  | ret u=>obtain ⟨v,σ',H',I,r,q⟩:=h;exact ⟨v,σ',H',I.lH,r,q⟩
theorem PSs.nox {st:List Stmt} {t:TS} (h:PSs X.nox st t):PSs X st t:=fun pins s σ H D I hw =>
  wpAny_mono (h pins s σ H D (I.wish _) hw) (fun _ _ q=>q.lH) fun _ _ z=>False.elim z
end
section
variable {X:Cx} {st:Stmt} {rest:List Stmt} {t u:TS} {e:Expr} {te:TE} {pos:Pos}
def T4:TS:=fun D σ H=>D.nx σ H
def tSeq (t u:TS):TS:=fun D σ H=>t { D with nx:=u D } σ H
theorem aV:PSs X [] T4:=fun _ _ σ H _ I h=>wpAny_execs_nil ⟨σ,H,I,h⟩
theorem au (h1:PS X st t) (h2:PSs X rest u):PSs X (st :: rest) (tSeq t u):=by
  intro pins s σ H D I h
  refine wpAny_execs_cons (thn (h1 pins s σ H { D with nx:=u D } I h) fun f s1 q=>?_)
  cases f with
  | next =>
    obtain ⟨σ',H',I',q⟩:=q
    exact h2 pins s1 σ' H' D I' q
  | ret v=>exact q
  | brk=>exact q
  | cont=>exact q
theorem aA (h1:PS X st t):PSs X [st] t:=by
  intro pins s σ H D I h
  refine wpAny_execs_cons (thn (h1 pins s σ H D I h) fun f s1 q=>?_)
  cases f with
  | next=>exact wpAny_execs_nil q
  | ret v=>exact q
  | brk=>exact q
  | cont=>exact q
theorem Inv.quiet {pins:List (Addr × Obj)} {σ:St} {H:Hp} {s:Shared} (I:Inv X pins σ H s):interactive X.env=false:=by simp [interactive,I.ok.kind]
def T6 (te:TE):TS:=fun D σ H=>te σ H fun _ H1=>D.nx σ H1
theorem bG (he:PE X e te) (hs:swapsWith e none pos.line X.env=pure false:=by rfl):PS X (.Expr e pos) (T6 te):=by
  intro pins s σ H D I h
  exact wpAny_Expr_any (thn (he pins s σ H _ I h) fun v s1 ⟨x,H1,I1,r1,q1⟩=>⟨σ,H1,I1,q1⟩) I.quiet hs
def tRet (te:TE):TS:=fun D σ H=>te σ H D.rt
theorem bf (he:PE X e te):PS X (.Return (some e) pos) (tRet te):=by
  intro pins s σ H D I h
  exact wpAny_Return_some (thn (he pins s σ H _ I h) fun v s1 ⟨x,H1,I1,r1,q1⟩=>⟨x,σ,H1,I1,r1,q1⟩)
def tIfS (c:TT) (t u:TS):TS:=fun D σ H=>c σ H fun b H1=>if b=true then t D σ H1 else u D σ H1
theorem bT {c:Expr} {a b:List Stmt} {tc:TT} (hc:PT X c tc) (ha:PSs X a t) (hb:PSs X b u):PS X (.If c a b pos) (tIfS tc t u):=by
  intro pins s σ H D I h
  refine wpAny_If (thn (hc pins s σ H _ I h) fun d s1 ⟨H1,I1,q1⟩=>?_)
  cases d with
  | true=>exact ha pins s1 σ H1 D I1 q1
  | false=>exact hb pins s1 σ H1 D I1 q1
end
abbrev TG:=V→St→Hp→(St→Hp→Prop)→Prop
abbrev TGs:=List V→St→Hp→(St→Hp→Prop)→Prop
def PG (X:Cx) (target:Expr) (t:TG):Prop :=
  ∀ (pins:List (Addr × Obj)) (s:Shared) (σ:St) (H:Hp) (v:V) (u:Value) (Q:St→Hp→Prop),Inv X pins σ H s→RelV v u→t v σ H Q →
    wpAny (model X.prog X.w) X.A (assign target X.env u) (fun _ s'=>∃ σ' H',Inv X pins σ' H' s'∧Q σ' H') X.xe s
def PGs (X:Cx) (ts:List Expr) (t:TGs):Prop :=
  ∀ (pins:List (Addr × Obj)) (s:Shared) (σ:St) (H:Hp) (vs:List V) (us:List Value) (Q:St→Hp→Prop),Inv X pins σ H s→Vals vs us→t vs σ H Q →
    wpAny (model X.prog X.w) X.A (assignInOrder ((assignEach ts X.env).map (·.2)) us) (fun _ s'=>∃ σ' H',Inv X pins σ' H' s'∧Q σ' H') X.xe s
abbrev V1:=V→V→V→Hp→(Hp→Prop)→Prop
def Wr (X:Cx) (t:V1):Prop :=
  ∀ (pins:List (Addr × Obj)) (s:Shared) (σ:St) (H:Hp) (o i v:V) (ov iv u:Value) (Q:Hp→Prop),Inv X pins σ H s→RelV o ov→RelV i iv→RelV v u→t o i v H Q →
    wpAny (model X.prog X.w) X.A (setItem ov iv u) (fun _ s'=>∃ H',Inv X pins σ H' s'∧Q H') X.xe s
abbrev TIp:=V→V→Hp→VK→Prop
section
variable {X:Cx} {pos:Pos}
def Bq (i:Nat):TG:=fun v σ H Q=>Q (σ.set i (some v)) H
theorem bI {i:Nat} {x:Str} (hN:X.N.Nodup) (hi:X.N[i]?=some x) (hx:Loc X.env.scope x) (hf:X.fn x=true∨X.env.scope.names.lookup x=some .local:=by first | exact .inl rfl | exact .inr rfl | assumption):PG X (.Name x pos) (Bq i):=by
  intro pins s σ H v u Q I r h
  exact wpAny_assign_Name (qt I hN hi hx r (fun s' I'=>⟨_,H,I',h⟩) hf)
def gNil:TGs:=fun vs σ H Q=>vs=[]∧Q σ H
def VP (t:TG) (u:TGs):TGs:=fun vs σ H Q=>∃ v r,vs=v :: r∧t v σ H fun σ' H'=>u r σ' H' Q
theorem jj:PGs X [] gNil:=by
  intro pins s σ H vs us Q I r h
  obtain ⟨e,h⟩:=h
  subst e
  cases r
  exact assignInOrder_nil ⟨σ,H,I,h⟩
theorem bW {e:Expr} {es:List Expr} {t:TG} {u:TGs} (h1:PG X e t) (h2:PGs X es u)
    (hs:(assignEach (e :: es) X.env).map (·.2)=assign e X.env :: (assignEach es X.env).map (·.2):=by rfl):PGs X (e :: es) (VP t u):=by
  intro pins s σ H vs us Q I r h
  obtain ⟨v,vr,e1,h⟩:=h
  subst e1
  cases r with
  | cons r rr =>
    rw [hs]
    refine assignInOrder_cons (thn (h1 pins s σ H _ _ _ I r h) fun _ s1 ⟨σ1,H1,I1,q1⟩=>?_)
    exact h2 pins s1 σ1 H1 _ _ Q I1 rr q1
def Wm (K:PySem.W.Frag) (n:Nat) (t:TGs):TG:=fun v σ H Q=>∃ a xs,v=.ref a∧SqT K H a xs∧xs.length=n∧t xs σ H Q
theorem ni {es:List Expr} {k:Nat} {t:TGs} {n:Nat} (hc:X.calm=true) (h:PGs X es t)
    (hn:(assignEach es X.env).length=n:=by rfl) (hst:(assignEach es X.env).findIdx? (·.1)=none:=by rfl):PG X (.Tuple es k pos) (Wm X.K n t):=by
  intro pins s σ H v u Q I r hw
  obtain ⟨a,xs,e1,hq,hl,hw⟩:=hw
  subst e1
  cases r
  obtain ⟨its,rv,ht,hz⟩:=I.tuple hq
  refine assign_Tuple_tuple (I.ok.hd hc) ht (by simp [hn,← hl,rv.length]) hst fun h' hx=>?_
  have I1:Inv X pins σ H { s with heap:=h' }:=I.kept (t':=s.toks) fun b o e=>hx b o (Nat.ne_of_lt (Heap.lt_size e)) e
  exact h pins _ σ H xs _ Q I1 (by simpa using rv) hw
def gSub (to ti:TE) (t:V1):TG:=fun v σ H Q=>to σ H fun o H1=>ti σ H1 fun i H2=>t o i v H2 fun H3=>Q σ H3
theorem iW {o i:Expr} {to ti:TE} {t:V1} (ho:PE X o to) (hi:PE X i ti) (hs:Wr X t)
    (ha:∀ v,assign (.Subscript o i pos) X.env v=(do
      let ov ← holding [v] (eval o X.env)
      let iv ← holding [v,ov] (eval i X.env)
      standAt pos
      holding [v,ov,iv] (setItem ov iv v)
      release [v,ov,iv] []):=by intro _;rfl):PG X (.Subscript o i pos) (gSub to ti t):=by
  intro pins s σ H v u Q I r h
  rw [ha]
  refine wpAny_bind (wpAny_holding (thn (ho pins s σ H _ I h) fun ov s1 ⟨x,H1,I1,r1,q1⟩=>?_))
  refine wpAny_bind (wpAny_holding (thn (hi pins s1 σ H1 _ I1 q1) fun iv s2 ⟨y,H2,I2,r2,q2⟩=>?_))
  refine wpAny_bind (wpAny_standAt (wpAny_bind (wpAny_holding (thn (hs pins s2 σ H2 x y v ov iv u _ I2 r1 r2 r q2) fun _ s3 ⟨H3,I3,q3⟩=>?_))))
  exact wpAny_release ⟨σ,H3,I3,q3⟩
def T8 (te:TE) (g:TG):TS:=fun D σ H=>te σ H fun x H1=>g x σ H1 D.nx
theorem gY {tg e:Expr} {te:TE} {g:TG} (he:PE X e te) (hg:PG X tg g) (hs:swapsWithSole [tg] e pos.line X.env=pure false:=by rfl) (hw:swappedStores [tg] e X.env=pure none:=by rfl)
    (h1:(assignEach [tg] X.env).map (·.2)=[assign tg X.env]:=by rfl):PS X (.Assign [tg] e pos) (T8 te g):=by
  intro pins s σ H D I h
  refine wpAny_Assign_stores (thn (he pins s σ H _ I h) fun v s1 ⟨x,H1,I1,r1,q1⟩=>?_) hs hw
  rw [h1]
  exact thn (hg pins s1 σ H1 x v _ I1 r1 q1) fun _ s2 q=>q
theorem bw {i:Nat} {x:Str} {e:Expr} {te:TE} {pos':Pos} (hN:X.N.Nodup) (hi:X.N[i]?=some x) (hx:Loc X.env.scope x) (he:PE X e te) (hs:swapsWith e (some (.Name x pos')) pos.line X.env=pure false:=by rfl) (hf:X.fn x=true∨X.env.scope.names.lookup x=some .local:=by first | exact .inl rfl | exact .inr rfl | assumption) :
    PS X (.Assign [.Name x pos'] e pos) (T8 te (Bq i)):=by
  intro pins s σ H D I h
  refine wpAny_Assign_Name (thn (he pins s σ H _ I h) fun v s1 ⟨y,H1,I1,r1,q1⟩=>?_) hs
  exact qt I1 hN hi hx r1 (fun s2 I2=>⟨_,H1,I2,q1⟩) hf
end
section
variable {X:Cx} {pos:Pos}
def Mp (c:TT) (tb:TS):TS:=fun D σ H=>∃ W:Nat→St→Hp→Prop,(∃ m,W m σ H)∧∀ m σ H,W m σ H →
  c σ H fun b H1=>if b=true then ∃ N:St→Hp→Prop,(∀ σ' H',N σ' H'→∃ m',m'<m∧W m' σ' H')∧tb { D with nx:=N,ct:=N,bk:=D.nx } σ H1 else D.nx σ H1
theorem vN {c:Expr} {body:List Stmt} {tc:TT} {tb:TS} (hp:PassesOwn (model X.prog X.w) X.A X.env X.xe) (hc:PT X c tc) (hb:PSs X body tb):PS X (.While c body [] pos) (Mp tc tb):=by
  intro pins s σ H D I h
  obtain ⟨W,⟨m0,w0⟩,turn⟩:=h
  refine wpAny_While (codeAny_whileLoop (fun n s'=>∃ σ' H',Inv X pins σ' H' s'∧W n σ' H') ?_ m0 ⟨σ,H,I,w0⟩)
  rintro n s1 ⟨σ1,H1,I1,w1⟩
  refine wpAny_passesOwn hp (thn (hc pins s1 σ1 H1 _ I1 (turn n σ1 H1 w1)) fun b s2 ⟨H2,I2,q2⟩=>?_)
  cases b with
  | true =>
    obtain ⟨N,hN,q2⟩:=q2
    rw [if_pos rfl]
    refine wpAny_passesOwn hp (thn (hb pins s2 σ1 H2 _ I2 q2) fun f s3 q3=>?_)
    cases f with
    | next =>
      obtain ⟨σ3,H3,I3,n3⟩:=q3
      obtain ⟨m',hm,w3⟩:=hN σ3 H3 n3
      exact ⟨m',hm,σ3,H3,I3,w3⟩
    | cont =>
      obtain ⟨σ3,H3,I3,n3⟩:=q3
      obtain ⟨m',hm,w3⟩:=hN σ3 H3 n3
      exact ⟨m',hm,σ3,H3,I3,w3⟩
    | brk=>exact q3
    | ret v=>exact q3
  | false =>
    rw [if_neg Bool.false_ne_true]
    exact wpAny_execs_nil ⟨σ1,H2,I2,q2⟩
end
structure It where
  go:Nat→Hp→Prop
  yld:Nat→Hp→V→Hp→Prop
  stop:Nat→Hp→Prop
def BW (X:Cx) (pins:List (Addr × Obj)) (H:Hp) (b:Addr):Prop :=
  H b=none∧b≠X.env.locals∧b ∉ X.fs∧(b∈X.ex∨X.s₀.heap.objs.size≤b)∧(∀ x c,X.env.cells.lookup x=some c→c≠b)∧∀ p∈X.pn++pins,p.1≠b
theorem Inv.Kh {X:Cx} {pins:List (Addr × Obj)} {σ:St} {H H':Hp} {s:Shared} {b:Addr} (I:Inv X pins σ H s) (hb:s.heap.objs.size≤b) (hn:H' b=none):BW X pins H' b:=by
  refine ⟨hn,Nat.ne_of_gt (Nat.lt_of_lt_of_le I.lt hb),I.nofs hb,.inr (Nat.le_trans I.sz hb),fun x c e z=>?_,fun p hp z=>?_⟩
  · obtain ⟨v,q⟩:=I.cell x c e
    exact absurd (Nat.lt_of_lt_of_le q.lt (by rw [z];exact hb)) (Nat.lt_irrefl _)
  · exact absurd (Nat.lt_of_lt_of_le (Heap.lt_size (I.pin p hp).1) (by rw [z];exact hb)) (Nat.lt_irrefl _)
structure Turn (P:Program) (w:World) (K:PySem.W.Frag) (tg:Expr) (J:It) (fp:List Addr) (it:Addr) (tn:Nat→Heap→Prop):Prop where
  mem:it∈fp
  obj:∀ i h,tn i h→∀ b∈fp,∃ o,h.get? b=some o∧∀ v,o.data≠.cell v
  keep:∀ i h h',tn i h→(∀ b∈fp,∀ o,h.get? b=some o→h'.get? b=some o)→tn i h'
  item:∀ (X:Cx),X.prog=P→X.w=w→X.K=K→X.calm=true→∀ (i:Nat) (pins:List (Addr × Obj)) (s:Shared) (σ:St) (H:Hp) (E:Value→Shared→Prop),Inv X pins σ H s→(∀ b∈fp,BW X pins H b)→tn i s.heap→J.go i H →
    wpAny (model P w) X.A (pyNext (.ref it)) (fun r s1=>∃ u,r=some u ∧
      wpAny (model P w) X.A (letOwnedTupleGo tg (.ref it) u) (fun _ s2=>∃ x H',Inv X pins σ H' s2∧RelV x u∧J.yld i H x H'∧tn (i + 1) s2.heap∧∀ b∈fp,H' b=none) E s1) E s
  done:∀ (X:Cx),X.prog=P→X.w=w→X.K=K→X.calm=true→∀ (i:Nat) (pins:List (Addr × Obj)) (s:Shared) (σ:St) (H:Hp) (E:Value→Shared→Prop),Inv X pins σ H s→(∀ b∈fp,BW X pins H b)→tn i s.heap→J.stop i H →
    wpAny (model P w) X.A (pyNext (.ref it)) (fun r s1=>r=none∧Inv X pins σ H s1) E s
  self:∀ (A:Around) (i:Nat) (s:Shared) (Q:Value→Shared→Prop) (E:Value→Shared→Prop),tn i s.heap→Q (.ref it) s→wpAny (model P w) A (pyIter (.ref it)) Q E s
abbrev TI:=St→Hp→(It→Hp→Prop)→Prop
def PIE (X:Cx) (pins:List (Addr × Obj)) (σ:St) (tg:Expr) (R:It→Hp→Prop) (itv:Value) (s2:Shared):Prop :=
  ∃ (it:Addr) (fp:List Addr) (tn:Nat→Heap→Prop) (J:It) (H':Hp),itv=.ref it∧Inv X pins σ H' s2∧Turn X.prog X.w X.K tg J fp it tn∧tn 0 s2.heap∧(∀ b∈fp,BW X pins H' b)∧R J H'
def PI (X:Cx) (tg iter:Expr) (wi:TI):Prop :=
  ∀ (pins:List (Addr × Obj)) (s:Shared) (σ:St) (H:Hp) (R:It→Hp→Prop),Inv X pins σ H s→wi σ H R →
    wpAny (model X.prog X.w) X.A (eval iter X.env) (fun v s1=>wpAny (model X.prog X.w) X.A (pyIter v) (PIE X pins σ tg R) X.xe s1) X.xe s
theorem Bo {M:Model} {A:Around} {E:Value→Shared→Prop} {s:Shared} {tg:Expr} {it:Addr} {u:Value} {o:Obj} {n:String} {vs:Array Value} {Q:Unit→Shared→Prop} (ho:s.heap.get? it=some o) (hc:o.cls=.type n) (hd:o.data=.fields vs)
    (hn:["enumerate","zip","dict_itemiterator","dict_reverseitemiterator","odict_iterator","itertools.zip_longest","itertools.pairwise"].contains n=false) (hQ:Q () s):wpAny M A (letOwnedTupleGo tg (.ref it) u) Q E s:=by
  unfold letOwnedTupleGo
  cases tg <;> first
    | exact wpAny_pure hQ
    | (cases u <;> first
        | exact wpAny_pure hQ
        | (refine wpAny_bind (wpAny_load ho ?_)
           rw [hc,hd]
           show wpAny M A (if (["enumerate","zip","dict_itemiterator","dict_reverseitemiterator","odict_iterator","itertools.zip_longest","itertools.pairwise"].contains n && vs[0]? == some (rawInt _))=true then _ else _) Q E s
           rw [if_neg (by intro h;rw [hn,Bool.false_and] at h;cases h)]
           exact wpAny_pure hQ))
def Itl (K:PySem.W.Frag) (a:Addr):It :=
  ⟨fun i H=>∃ xs x,SqL K H a xs∧xs[i]?=some x,fun i H x H'=>H'=H∧∀ xs,SqL K H a xs→xs[i]?=some x,fun i H=>∃ xs,SqL K H a xs∧xs.length≤i⟩
def Itt (K:PySem.W.Frag) (a:Addr):It :=
  ⟨fun i H=>∃ xs x,SqT K H a xs∧xs[i]?=some x,fun i H x H'=>H'=H∧∀ xs,SqT K H a xs→xs[i]?=some x,fun i H=>∃ xs,SqT K H a xs∧xs.length≤i⟩
def Itr (lo:Int) (n:Nat):It:=⟨fun i _=>i<n,fun i H x H'=>H'=H∧x=.int (lo + i),fun i _=>n≤i⟩
theorem xG {P:Program} {w:World} {K:PySem.W.Frag} {tg:Expr} (a it:Addr):Turn P w K tg (Itl K a) [it] it (fun i h=>h.IsListIter it a i) where
  mem:=by simp
  obj:=fun i h st b hb=>by
    have e:b=it:=by simpa using hb
    subst e
    obtain ⟨o,e,c,d⟩:=st
    exact ⟨o,e,fun v z=>by rw [d] at z;cases z⟩
  keep:=fun i h h' st k=>st.at fun o e=>k it (by simp) o e
  item:=by
    intro X hP hw hK hc i pins s σ H E I hf st hg
    subst hP hw hK
    obtain ⟨xs,x,hq,hx⟩:=hg
    obtain ⟨its,rv,p,hz⟩:=I.list hq
    obtain ⟨u,hu,ru⟩:=rv.get hx
    obtain ⟨f0,f1,f2,f3,f4,f5⟩:=hf it (by simp)
    refine wpAny_pyNext_list_item st p.isList (x:=u) (by simpa using hu) fun h' st' sb=>?_
    have I1:Inv X pins σ H { s with heap:=h' }:=I.turned (t':=s.toks) (fun b o hb e=>(sb.2 b hb).trans e) f0 f1 f3 f4 f5
    obtain ⟨o,e,c,d⟩:=id st'
    exact ⟨u,rfl,Bo (s:={ s with heap:=h' }) e c d (by decide) ⟨x,H,I1,ru,⟨rfl,fun ys hy=>by rw [I.Bg hy hq];exact hx⟩,st',fun b hb=>(hf b hb).1⟩⟩
  done:=by
    intro X hP hw hK hc i pins s σ H E I hf st hg
    subst hP hw hK
    obtain ⟨xs,hq,hx⟩:=hg
    obtain ⟨its,rv,p,hz⟩:=I.list hq
    obtain ⟨f0,f1,f2,f3,f4,f5⟩:=hf it (by simp)
    have hl:=rv.length
    exact wpAny_pyNext_list_end (I.ok.hd hc) st p.isList (by simp;omega) fun h' eb=>⟨rfl,I.turned (t':=s.toks) (fun b o hb e=>eb b o hb e) f0 f1 f3 f4 f5⟩
  self:=fun _ _ _ _ _ st h=>wpAny_pyIter_listiter st h
theorem wA {P:Program} {w:World} {K:PySem.W.Frag} {tg:Expr} (a it:Addr):Turn P w K tg (Itt K a) [it] it (fun i h=>h.IsTupleIter it a i) where
  mem:=by simp
  obj:=fun i h st b hb=>by
    have e:b=it:=by simpa using hb
    subst e
    obtain ⟨o,e,c,d⟩:=st
    exact ⟨o,e,fun v z=>by rw [d] at z;cases z⟩
  keep:=fun i h h' st k=>st.at fun o e=>k it (by simp) o e
  item:=by
    intro X hP hw hK hc i pins s σ H E I hf st hg
    subst hP hw hK
    obtain ⟨xs,x,hq,hx⟩:=hg
    obtain ⟨its,rv,p,hz⟩:=I.tuple hq
    obtain ⟨u,hu,ru⟩:=rv.get hx
    obtain ⟨f0,f1,f2,f3,f4,f5⟩:=hf it (by simp)
    refine wpAny_pyNext_tuple_item st (show s.heap.IsTuple a its.toArray from p) (x:=u) (by simpa using hu) fun h' st' sb=>?_
    have I1:Inv X pins σ H { s with heap:=h' }:=I.turned (t':=s.toks) (fun b o hb e=>(sb.2 b hb).trans e) f0 f1 f3 f4 f5
    obtain ⟨o,e,c,d⟩:=id st'
    exact ⟨u,rfl,Bo (s:={ s with heap:=h' }) e c d (by decide) ⟨x,H,I1,ru,⟨rfl,fun ys hy=>by rw [I.xJ hy hq];exact hx⟩,st',fun b hb=>(hf b hb).1⟩⟩
  done:=by
    intro X hP hw hK hc i pins s σ H E I hf st hg
    subst hP hw hK
    obtain ⟨xs,hq,hx⟩:=hg
    obtain ⟨its,rv,p,hz⟩:=I.tuple hq
    obtain ⟨f0,f1,f2,f3,f4,f5⟩:=hf it (by simp)
    have hl:=rv.length
    exact wpAny_pyNext_tuple_end (I.ok.hd hc) st (show s.heap.IsTuple a its.toArray from p) (by simp;omega) fun h' eb=>⟨rfl,I.turned (t':=s.toks) (fun b o hb e=>eb b o hb e) f0 f1 f3 f4 f5⟩
  self:=fun _ _ _ _ _ st h=>wpAny_pyIter_tupleiter st h
theorem wB {P:Program} {w:World} {K:PySem.W.Frag} {tg:Expr} (it:Addr) (lo:Int) (n:Nat):Turn P w K tg (Itr lo n) [it] it (fun i h=>IsRangeIter h it (lo + (i:Nat) * 1) ((n:Int) - (i:Nat)) 1) where
  mem:=by simp
  obj:=fun i h st b hb=>by
    have e:b=it:=by simpa using hb
    subst e
    exact ⟨_,st,fun v z=>by
      have z':Data.fields _=Data.cell v:=z
      cases z'⟩
  keep:=fun i h h' st k=>k it (by simp) _ st
  item:=by
    intro X hP hw hK hc i pins s σ H E I hf st hg
    subst hP hw hK
    obtain ⟨f0,f1,f2,f3,f4,f5⟩:=hf it (by simp)
    have W:=Walks.range (prog:=X.prog) (w:=X.w) (I.ok.hd hc) it lo 1 n
    refine W.item i s _ _ hg st fun v h' tk hv st' kk=>?_
    obtain ⟨t,rfl⟩:=hv
    have I1:Inv X pins σ H { s with heap:=h',toks:=tk }:=I.turned (fun b o hb e=>kk b o (by simpa using hb) e) f0 f1 f3 f4 f5
    refine ⟨_,rfl,Bo (s:={ s with heap:=h',toks:=tk }) (n:="range_iterator") st' rfl rfl (by decide) ⟨.int (lo + i),H,I1,⟨t,?_⟩,⟨rfl,rfl⟩,st',fun b hb=>(hf b hb).1⟩⟩
    rw [Int.mul_one]
  done:=by
    intro X hP hw hK hc i pins s σ H E I hf st hg
    subst hP hw hK
    obtain ⟨f0,f1,f2,f3,f4,f5⟩:=hf it (by simp)
    exact wpAny_pyNext_range_end (I.ok.hd hc) st (by have:n≤i:=hg;omega) fun h' eb=>⟨rfl,I.turned (t':=s.toks) (fun b o hb e=>eb b o hb e) f0 f1 f3 f4 f5⟩
  self:=fun _ _ _ _ _ st h=>wpAny_pyIter_rangeiter st h
end L2
namespace L2
open PySem PySem.Spec PyProof.Rows
section
variable {X:Cx} {tg:Expr}
def Uo (K:PySem.W.Frag) (tl:TE):TI:=fun σ H R=>tl σ H fun x H1=>∃ a,x=.ref a∧(∃ xs,SqL K H1 a xs)∧R (Itl K a) H1
def iTup (K:PySem.W.Frag) (tl:TE):TI:=fun σ H R=>tl σ H fun x H1=>∃ a,x=.ref a∧(∃ xs,SqT K H1 a xs)∧R (Itt K a) H1
theorem qM {l:Expr} {tl:TE} (hl:PE X l tl):PI X tg l (Uo X.K tl):=by
  intro pins s σ H R I h
  refine thn (hl pins s σ H _ I h) fun v s1 ⟨x,H1,I1,r1,q1⟩=>?_
  obtain ⟨a,e,⟨xs,hq⟩,q⟩:=q1
  subst e
  cases r1
  obtain ⟨its,rv,p,hz⟩:=I1.list hq
  refine wpAny_pyIter_list p.isList ?_
  refine ⟨s1.heap.objs.size,[s1.heap.objs.size],_,_,H1,rfl,I1.kept (t':=s1.toks) fun b o e=>Heap.get?_push_of_some _ e,xG a _,⟨_,Heap.get?_push_size _ rfl,rfl,rfl⟩,fun b hb=>?_,q⟩
  have e:b=s1.heap.objs.size:=by simpa using hb
  subst e
  exact I1.Kh (Nat.le_refl _) (I1.hok.fresh (Nat.le_refl _))
theorem MJ {l:Expr} {tl:TE} (hl:PE X l tl):PI X tg l (iTup X.K tl):=by
  intro pins s σ H R I h
  refine thn (hl pins s σ H _ I h) fun v s1 ⟨x,H1,I1,r1,q1⟩=>?_
  obtain ⟨a,e,⟨xs,hq⟩,q⟩:=q1
  subst e
  cases r1
  obtain ⟨its,rv,p,hz⟩:=I1.tuple hq
  refine wpAny_pyIter_tuple (show s1.heap.IsTuple a its.toArray from p) ?_
  refine ⟨s1.heap.objs.size,[s1.heap.objs.size],_,_,H1,rfl,I1.kept (t':=s1.toks) fun b o e=>Heap.get?_push_of_some _ e,wA a _,⟨_,Heap.get?_push_size _ rfl,rfl,rfl⟩,fun b hb=>?_,q⟩
  have e:b=s1.heap.objs.size:=by simpa using hb
  subst e
  exact I1.Kh (Nat.le_refl _) (I1.hok.fresh (Nat.le_refl _))
theorem vM {pins:List (Addr × Obj)} {σ:St} {H:Hp} {s:Shared} {R:It→Hp→Prop} {E:Value→Shared→Prop} {lo hi:Int} {t u v:Tok} {tk:Nat} (I:Inv X pins σ H s) (h1:-(2 ^ 62)≤lo) (h2:lo<2 ^ 62) (h3:-(2 ^ 62)≤hi) (h4:hi<2 ^ 62)
    (q:R (Itr lo (hi - lo).toNat) H):wpAny (model X.prog X.w) X.A (pyIter (.ref s.heap.objs.size)) (PIE X pins σ tg R) E { s with heap:=s.heap.push { cls:=.type "range",data:=.fields #[.int lo t,.int hi u,.int 1 v] },toks:=tk }:=by
  refine wpAny_pyIter_range (IsRange.new ..) (small_one h1 h2 h3 h4) ?_
  have I1:Inv X pins σ H { s with heap:=s.heap.push { cls:=.type "range",data:=.fields #[.int lo t,.int hi u,.int 1 v] },toks:=tk }:=I.kept fun b o e=>Heap.get?_push_of_some _ e
  refine ⟨(s.heap.push { cls:=.type "range",data:=.fields #[.int lo t,.int hi u,.int 1 v] }).objs.size,[(s.heap.push { cls:=.type "range",data:=.fields #[.int lo t,.int hi u,.int 1 v] }).objs.size],_,_,H,rfl,
    I1.kept (t':=tk) fun b o e=>Heap.get?_push_of_some _ e,wB _ lo (hi - lo).toNat,?_,fun b hb=>?_,q⟩
  · have e1:lo + ((0:Nat):Int) * 1=lo:=by simp
    have e2:(((hi - lo).toNat:Nat):Int) - ((0:Nat):Int)=Builtin.Range.rangeSize lo hi 1:=by rw [rangeSize_one];split <;> omega
    show IsRangeIter _ _ (lo + ((0:Nat):Int) * 1) ((((hi - lo).toNat:Nat):Int) - ((0:Nat):Int)) 1
    rw [e1,e2]
    exact Heap.get?_push_size _ rfl
  · have e:b=(s.heap.push { cls:=.type "range",data:=.fields #[.int lo t,.int hi u,.int 1 v] }).objs.size:=by simpa using hb
    subst e
    exact I1.Kh (Nat.le_refl _) (I1.hok.fresh (Nat.le_refl _))
def Um (ta:TA):TI:=fun σ H R=>ta σ H fun vs H1=>∃ j:Int,vs=[.int j]∧-(2 ^ 62)≤j∧j<2 ^ 62∧R (Itr 0 j.toNat) H1
def Ul (ta:TA):TI:=fun σ H R=>ta σ H fun vs H1=>∃ i j:Int,vs=[.int i,.int j]∧(-(2 ^ 62)≤i∧i<2 ^ 62∧-(2 ^ 62)≤j∧j<2 ^ 62)∧R (Itr i (j - i).toNat) H1
theorem jR {a:Expr} {ta:TA} {p pos:Pos} (hg:Gl X "range") (hm:X.mg "range"=none) (ha:PA X [a] ta) (hs:starEach [a] X.env=[(false,eval a X.env)]:=by rfl):PI X tg (.Call (.Name "range" p) [a] [] pos) (Um ta):=by
  intro pins s σ H R I h
  refine Call_ (oU I hg hm boot_range (PyProof.Rows.callWith_type1 (thn (ha pos pins s σ H _ I h) fun us s1 ⟨vs,H1,I1,r1,q1⟩=>?_) hs rfl))
  obtain ⟨j,e,q1,q2,q⟩:=q1
  subst e
  cases r1 with
  | cons r rr =>
    cases rr
    obtain ⟨t,rfl⟩:=r
    exact call_range_1 (vM I1 (by omega) (by omega) q1 q2 (by simpa using q))
theorem yH {a b:Expr} {ta:TA} {p pos:Pos} (hg:Gl X "range") (hm:X.mg "range"=none) (ha:PA X [a,b] ta) (hs:starEach [a,b] X.env=[(false,eval a X.env),(false,eval b X.env)]:=by rfl) (hs2:starEach [b] X.env=[(false,eval b X.env)]:=by rfl) :
    PI X tg (.Call (.Name "range" p) [a,b] [] pos) (Ul ta):=by
  intro pins s σ H R I h
  refine Call_ (oU I hg hm boot_range (PyProof.Rows.callWith_type1 (thn (ha pos pins s σ H _ I h) fun us s1 ⟨vs,H1,I1,r1,q1⟩=>?_) (by rw [hs,hs2]) (by rw [hs2];rfl)))
  obtain ⟨i,j,e,⟨q1,q2,q3,q4⟩,q⟩:=q1
  subst e
  cases r1 with
  | cons r rr =>
    cases rr with
    | cons r' rr =>
      cases rr
      obtain ⟨t,rfl⟩:=r
      obtain ⟨t',rfl⟩:=r'
      exact call_range_2 (vM I1 q1 q2 q3 q4 q)
def tFor (wi:TI) (g:TG) (tb:TS):TS:=fun D σ H=>wi σ H fun J H1=>∃ W:Nat→Nat→St→Hp→Prop,(∃ m,W 0 m σ H1)∧∀ i m σ H,W i m σ H →
  (J.stop i H∧D.nx σ H)∨(J.go i H∧∃ N:St→Hp→Prop,(∀ σ' H',N σ' H'→∃ m',m'<m∧W (i + 1) m' σ' H')∧∀ x H',J.yld i H x H'→g x σ H' fun σ2 H2=>tb { D with nx:=N,ct:=N,bk:=D.nx } σ2 H2)
def sU (fp:List Addr) (h:Heap):List (Addr × Obj):=fp.filterMap fun b=>(h.get? b).map fun o=>(b,o)
theorem lD {fp:List Addr} {h:Heap} {b:Addr} {o:Obj} (hb:b∈fp) (e:h.get? b=some o):(b,o)∈sU fp h:=List.mem_filterMap.mpr ⟨b,hb,by rw [e];rfl⟩
theorem yV {fp:List Addr} {h:Heap} {p:Addr × Obj} (hp:p∈sU fp h):p.1∈fp∧h.get? p.1=some p.2:=by
  obtain ⟨b,hb,e⟩:=List.mem_filterMap.mp hp
  cases q:h.get? b with
  | none=>rw [q] at e;cases e
  | some o =>
    rw [q] at e
    have e':(b,o)=p:=Option.some.inj e
    subst e'
    exact ⟨hb,q⟩
theorem Inv.pinned {pins:List (Addr × Obj)} {σ:St} {H:Hp} {s:Shared} {fp:List Addr} (I:Inv X pins σ H s) (hf:∀ b∈fp,BW X pins H b) (ho:∀ b∈fp,∃ o,s.heap.get? b=some o∧∀ v,o.data≠.cell v):Inv X (pins++sU fp s.heap) σ H s :=
  I.yG fun p hp=>(List.mem_append.mp hp).elim (fun z=>I.pin p (List.mem_append_right _ z)) fun z=>by
    obtain ⟨hb,e⟩:=yV z
    obtain ⟨f0,f1,f2,_⟩:=hf p.1 hb
    obtain ⟨o,e',d⟩:=ho p.1 hb
    rw [e] at e';cases e'
    exact ⟨e,f0,f1,f2,d⟩
theorem Inv.nQ {pins pl:List (Addr × Obj)} {σ:St} {H:Hp} {s:Shared} (I:Inv X (pins++pl) σ H s):Inv X pins σ H s:=I.yG fun p hp=>I.pin p (List.mem_append_right _ (List.mem_append_left _ hp))
theorem oJ {iter:Expr} {body:List Stmt} {wi:TI} {g:TG} {tb:TS} {pos:Pos} (hp:PassesOwn (model X.prog X.w) X.A X.env X.xe) (hc:X.calm=true) (hi:PI X tg iter wi) (hg:PG X tg g) (hb:PSs X body tb)
    (hs:∀ x,foldedSetIterable iter X.env x=pure x:=by intro _;rfl):PS X (.For tg iter body [] pos) (tFor wi g tb):=by
  intro pins s σ H D I h
  refine wpAny_For (thn (hi pins s σ H _ I h) fun v s1 h1=>thn h1 fun itv s2 h2=>?_) hs
  obtain ⟨it,fp,tn,J,H2,e,I2,T,st2,f2,W,⟨m0,w0⟩,turn⟩:=h2
  subst e
  have stat:∀ {H':Hp},(∀ b∈fp,H' b=none)→∀ b∈fp,BW X pins H' b:=fun hn b hb=>⟨hn b hb,(f2 b hb).2⟩
  refine codeAny_forLoop_any (fun n s'=>∃ i σ' H',Inv X pins σ' H' s'∧tn i s'.heap∧(∀ b∈fp,H' b=none)∧W i n σ' H') ?_ m0 ⟨0,σ,H2,I2,st2,fun b hb=>(f2 b hb).1,w0⟩
  rintro n s3 ⟨i,σ3,H3,I3,st3,fr3,w3⟩
  rcases turn i n σ3 H3 w3 with ⟨stop,qn⟩ | ⟨go,N,hN,step⟩
  · refine wpAny_passesOwn hp (thn (T.done X rfl rfl rfl hc i pins s3 σ3 H3 X.xe I3 (stat fr3) st3 stop) fun r s4 ⟨hr,I4⟩=>?_)
    subst hr
    exact wpAny_execs_nil ⟨σ3,H3,I4,qn⟩
  · refine wpAny_passesOwn hp (thn (T.item X rfl rfl rfl hc i pins s3 σ3 H3 X.xe I3 (stat fr3) st3 go) fun r s4 ⟨u,hr,h4⟩=>?_)
    subst hr
    refine wpAny_passesOwn hp (thn h4 fun _ s5 ⟨x,H5,I5,r5,y5,st5,fr5⟩=>?_)
    have I5':=I5.pinned (stat fr5) (T.obj _ _ st5)
    refine wpAny_passesOwn hp (thn (hg _ s5 σ3 H5 x u _ I5' r5 (step x H5 y5)) fun _ s6 ⟨σ6,H6,I6,q6⟩=>?_)
    refine wpAny_passesOwn hp (thn (hb _ s6 σ6 H6 _ I6 q6) fun f s7 q7=>?_)
    have again:∀ {σ7:St} {H7:Hp},Inv X (pins++sU fp s5.heap) σ7 H7 s7→N σ7 H7→∃ m,m<n∧∃ i σ' H',Inv X pins σ' H' s7∧tn i s7.heap∧(∀ b∈fp,H' b=none)∧W i m σ' H':=fun {σ7 H7} I7 n7=>by
      obtain ⟨m',hm,w7⟩:=hN σ7 H7 n7
      refine ⟨m',hm,i + 1,σ7,H7,I7.nQ,T.keep _ _ _ st5 fun b hb o e=>(I7.pin (b,o) (List.mem_append_right _ (List.mem_append_right _ (lD hb e)))).1,fun b hb=>?_,w7⟩
      obtain ⟨o,e,d⟩:=T.obj _ _ st5 b hb
      exact (I7.pin (b,o) (List.mem_append_right _ (List.mem_append_right _ (lD hb e)))).2.1
    cases f with
    | next=>obtain ⟨σ7,H7,I7,n7⟩:=q7;exact again I7 n7
    | cont=>obtain ⟨σ7,H7,I7,n7⟩:=q7;exact again I7 n7
    | brk=>obtain ⟨σ7,H7,I7,q7⟩:=q7;exact ⟨σ7,H7,I7.nQ,q7⟩
    | ret v=>obtain ⟨x7,σ7,H7,I7,r7,q7⟩:=q7;exact ⟨x7,σ7,H7,I7.nQ,r7,q7⟩
end
theorem Br {K:PySem.W.Frag} {a:Addr} {xs:List V} {g:TG} {tb:TS} {D:Ends} {σ:St} {H:Hp} (Pv:Nat→St→Hp→Prop) (h0:Pv 0 σ H) (hl:∀ i σ H,i≤xs.length→Pv i σ H→SqL K H a xs)
    (hs:∀ i x σ H,xs[i]?=some x→Pv i σ H→g x σ H fun σ2 H2=>tb { D with nx:=Pv (i + 1),ct:=Pv (i + 1),bk:=D.nx } σ2 H2) (hd:∀ σ H,Pv xs.length σ H→D.nx σ H) :
    ∃ W:Nat→Nat→St→Hp→Prop,(∃ m,W 0 m σ H)∧∀ i m σ H,W i m σ H →
      ((Itl K a).stop i H∧D.nx σ H)∨((Itl K a).go i H∧∃ N:St→Hp→Prop,(∀ σ' H',N σ' H'→∃ m',m'<m∧W (i + 1) m' σ' H')∧∀ x H',(Itl K a).yld i H x H'→g x σ H' fun σ2 H2=>tb { D with nx:=N,ct:=N,bk:=D.nx } σ2 H2):=by
  refine ⟨fun i m σ H=>m=xs.length - i∧i≤xs.length∧Pv i σ H,⟨xs.length,by simp,Nat.zero_le _,h0⟩,?_⟩
  rintro i m σ H ⟨rfl,hi,p⟩
  have q:=hl i σ H hi p
  by_cases hlt:i<xs.length
  · refine .inr ⟨⟨xs,xs[i],q,by simp [hlt]⟩,Pv (i + 1),fun σ' H' p'=>⟨xs.length - (i + 1),by omega,rfl,hlt,p'⟩,fun x H' y=>?_⟩
    obtain ⟨e,y⟩:=y
    subst e
    exact hs i x σ _ (y xs q) p
  · have e:i=xs.length:=by omega
    subst e
    exact .inl ⟨⟨xs,q,Nat.le_refl _⟩,hd σ H p⟩
theorem tH {lo:Int} {n:Nat} {g:TG} {tb:TS} {D:Ends} {σ:St} {H:Hp} (Pv:Nat→St→Hp→Prop) (h0:Pv 0 σ H)
    (hs:∀ i σ H,i<n→Pv i σ H→g (.int (lo + i)) σ H fun σ2 H2=>tb { D with nx:=Pv (i + 1),ct:=Pv (i + 1),bk:=D.nx } σ2 H2) (hd:∀ σ H,Pv n σ H→D.nx σ H) :
    ∃ W:Nat→Nat→St→Hp→Prop,(∃ m,W 0 m σ H)∧∀ i m σ H,W i m σ H →
      ((Itr lo n).stop i H∧D.nx σ H)∨((Itr lo n).go i H∧∃ N:St→Hp→Prop,(∀ σ' H',N σ' H'→∃ m',m'<m∧W (i + 1) m' σ' H')∧∀ x H',(Itr lo n).yld i H x H'→g x σ H' fun σ2 H2=>tb { D with nx:=N,ct:=N,bk:=D.nx } σ2 H2):=by
  refine ⟨fun i m σ H=>m=n - i∧i≤n∧Pv i σ H,⟨n,by simp,Nat.zero_le _,h0⟩,?_⟩
  rintro i m σ H ⟨rfl,hi,p⟩
  by_cases hlt:i<n
  · refine .inr ⟨hlt,Pv (i + 1),fun σ' H' p'=>⟨n - (i + 1),by omega,rfl,hlt,p'⟩,fun x H' y=>?_⟩
    obtain ⟨e,y⟩:=y
    subst e y
    exact hs i σ _ hlt p
  · have e:i=n:=by omega
    subst e
    exact .inl ⟨Nat.le_refl _,hd σ H p⟩
end L2
namespace L2
open PySem PySem.Spec PyProof.Rows
abbrev R2:=V→V→Hp→VK→Prop
def OpR (X:Cx) (f:Value→Value→Sem Value) (r:R2):Prop :=
  ∀ (pins:List (Addr × Obj)) (s:Shared) (σ:St) (H:Hp) (x y:V) (v u:Value) (Q:VK),Inv X pins σ H s→RelV x v→RelV y u→r x y H Q →
    wpAny (model X.prog X.w) X.A (f v u) (EP X pins σ Q) X.xe s
def UnR (X:Cx) (f:Value→Sem Value) (r:V→Hp→VK→Prop):Prop :=
  ∀ (pins:List (Addr × Obj)) (s:Shared) (σ:St) (H:Hp) (x:V) (v:Value) (Q:VK),Inv X pins σ H s→RelV x v→r x H Q →
    wpAny (model X.prog X.w) X.A (f v) (EP X pins σ Q) X.xe s
def nP (X:Cx) (f:Value) (r:List V→Hp→VK→Prop):Prop :=
  ∀ (pins:List (Addr × Obj)) (s:Shared) (σ:St) (H:Hp) (xs:List V) (us:List Value) (Q:VK),Inv X pins σ H s→Vals xs us→r xs H Q →
    wpAny (model X.prog X.w) X.A (call f us) (EP X pins σ Q) X.xe s
def tOp (r:R2) (ta tb:TE):TE:=fun σ H Q=>ta σ H fun x H1=>tb σ H1 fun y H2=>r x y H2 Q
def tUn (r:V→Hp→VK→Prop) (ta:TE):TE:=fun σ H Q=>ta σ H fun x H1=>r x H1 Q
def rI (C:Int→Int→Prop) (g:Int→Int→V):R2:=fun x y H Q=>∃ i j,x=.int i∧y=.int j∧C i j∧Q (g i j) H
def rI0 (g:Int→Int→V):R2:=fun x y H Q=>∃ i j,x=.int i∧y=.int j∧Q (g i j) H
def rU (g:Int→V):V→Hp→VK→Prop:=fun x H Q=>∃ i,x=.int i∧Q (g i) H
section
variable {X:Cx} {a b c:Expr} {ta tb tc:TE} {pos:Pos}
theorem Tt (ha:PE X a ta) (hb:PE X b tb) {pins:List (Addr × Obj)} {s:Shared} {σ:St} {H:Hp} {R:V→V→Hp→Prop} (I:Inv X pins σ H s)
    (h:ta σ H fun x H1=>tb σ H1 fun y H2=>R x y H2) {Q:Value→Shared→Prop} {f:Value→Value→Sem Value}
    (hf:∀ v u s2 x y H2,Inv X pins σ H2 s2→RelV x v→RelV y u→R x y H2→wpAny (model X.prog X.w) X.A (f v u) Q X.xe s2) :
    wpAny (model X.prog X.w) X.A (eval a X.env) (fun v s₁=>wpAny (model X.prog X.w) X.A (eval b X.env) (fun u s₂=>wpAny (model X.prog X.w) X.A (f v u) Q X.xe s₂) X.xe s₁) X.xe s:=by
  refine thn (ha pins s σ H _ I h) fun v s1 ⟨x,H1,I1,r1,q1⟩=>?_
  refine thn (hb pins s1 σ H1 _ I1 q1) fun u s2 ⟨y,H2,I2,r2,q2⟩=>?_
  exact hf v u s2 x y H2 I2 r1 r2 q2
theorem aY {op:Operator} {r:R2} (ho:OpR X (binaryOp op) r) (ha:PE X a ta) (hb:PE X b tb):PE X (.BinOp a op b pos) (tOp r ta tb):=by
  intro pins s σ H Q I h
  exact wpAny_BinOp (Tt ha hb I h fun v u s2 x y H2 I2 rx ry q=>ho pins s2 σ H2 x y v u Q I2 rx ry q)
theorem jc {op:UnaryOp} {r:V→Hp→VK→Prop} (ho:UnR X (unaryOp op) r) (ha:PE X a ta):PE X (.UnaryOp op a pos) (tUn r ta):=by
  intro pins s σ H Q I h
  exact UnaryOp_ (thn (ha pins s σ H _ I h) fun v s1 ⟨x,H1,I1,r1,q1⟩=>ho pins s1 σ H1 x v Q I1 r1 q1)
theorem opI {f:Value→Value→Sem Value} {C:Int→Int→Prop} {g:Int→Int→Int}
    (rule:∀ (i j:Int) (t u:Tok) (s:Shared) (Q:Value→Shared→Prop) (E:Value→Shared→Prop),C i j→Q (.int (g i j) s.toks) { s with toks:=s.toks + 1 }→wpAny (model X.prog X.w) X.A (f (.int i t) (.int j u)) Q E s) :
    OpR X f (rI C fun i j=>.int (g i j)):=by
  intro pins s σ H x y v u Q I rx ry h
  obtain ⟨i,j,rfl,rfl,hc,q⟩:=h
  obtain ⟨t,rfl⟩:=rx
  obtain ⟨t',rfl⟩:=ry
  exact rule i j t t' s _ _ hc ⟨.int (g i j),H,I.tok _,⟨_,rfl⟩,q⟩
theorem Wb {f:Value→Value→Sem Value} {g:Int→Int→Int}
    (rule:∀ (i j:Int) (t u:Tok) (s:Shared) (Q:Value→Shared→Prop) (E:Value→Shared→Prop),Q (.int (g i j) s.toks) { s with toks:=s.toks + 1 }→wpAny (model X.prog X.w) X.A (f (.int i t) (.int j u)) Q E s) :
    OpR X f (rI0 fun i j=>.int (g i j)):=by
  intro pins s σ H x y v u Q I rx ry h
  obtain ⟨i,j,rfl,rfl,q⟩:=h
  obtain ⟨t,rfl⟩:=rx
  obtain ⟨t',rfl⟩:=ry
  exact rule i j t t' s _ _ ⟨.int (g i j),H,I.tok _,⟨_,rfl⟩,q⟩
theorem Tq {f:Value→Value→Sem Value} {g:Int→Int→Bool}
    (rule:∀ (i j:Int) (t u:Tok) (s:Shared) (Q:Value→Shared→Prop) (E:Value→Shared→Prop),Q (.bool (g i j)) s→wpAny (model X.prog X.w) X.A (f (.int i t) (.int j u)) Q E s) :
    OpR X f (rI0 fun i j=>.bl (g i j)):=by
  intro pins s σ H x y v u Q I rx ry h
  obtain ⟨i,j,rfl,rfl,q⟩:=h
  obtain ⟨t,rfl⟩:=rx
  obtain ⟨t',rfl⟩:=ry
  exact rule i j t t' s _ _ ⟨.bl (g i j),H,I,rfl,q⟩
def Wt (i j:Int):Prop:=0<j∧j<1073741824
def CPow (i j:Int):Prop:=0≤j∧j≤1000000∧i.natAbs<2 ^ 64
def V3 (i j:Int):Prop:=(-(2 ^ 64)<i∧i<2 ^ 64)∨(-(2 ^ 64)<j∧j<2 ^ 64)
theorem V3.ok {i j:Int} (h:V3 i j):IntMulOk i j:=by
  rcases h with ⟨h1,h2⟩ | ⟨h1,h2⟩
  · exact .of_left (intBits_le_64 h1 h2)
  · exact .of_right (intBits_le_64 h1 h2)
theorem iY:OpR X (binaryOp .Add) (rI0 fun i j=>.int (i + j)):=Wb fun _ _ _ _ _ _ _ q=>add_int q
theorem oK:OpR X (binaryOp .Sub) (rI0 fun i j=>.int (i - j)):=Wb fun _ _ _ _ _ _ _ q=>sub_int q
theorem nu:OpR X (binaryOp .Mult) (rI V3 fun i j=>.int (i * j)):=opI fun _ _ _ _ _ _ _ hc q=>mul_int q hc.ok
theorem jl:OpR X (binaryOp .FloorDiv) (rI Wt fun i j=>.int (i / j)):=opI fun i j _ _ _ _ _ hc q=>by
  have h1:(0:Int)<j:=hc.1
  have h2:j<1073741824:=hc.2
  exact floordiv_int (by omega) (by rw [Int.fdiv_eq_ediv_of_nonneg i (by omega)];exact q) (.inl (PyProof.noPylong_small (by omega)))
theorem bN:OpR X (binaryOp .Mod) (rI (fun _ j=>0<j) fun i j=>.int (i % j)):=opI fun i j _ _ _ _ _ hc q=>by
  have h1:(0:Int)<j:=hc
  exact mod_int' (by omega) (by rw [Int.fmod_eq_emod_of_nonneg i (by omega)];exact q)
theorem sV:OpR X (binaryOp .Pow) (rI CPow fun i j=>.int (i ^ j.toNat)):=opI fun _ _ _ _ _ _ _ hc q=>pow_int_small hc.1 hc.2.1 hc.2.2 q
theorem unI {f:Value→Sem Value} {g:Int→Int}
    (rule:∀ (i:Int) (t:Tok) (s:Shared) (Q:Value→Shared→Prop) (E:Value→Shared→Prop),Q (.int (g i) s.toks) { s with toks:=s.toks + 1 }→wpAny (model X.prog X.w) X.A (f (.int i t)) Q E s) :
    UnR X f (rU fun i=>.int (g i)):=by
  intro pins s σ H x v Q I rx h
  obtain ⟨i,rfl,q⟩:=h
  obtain ⟨t,rfl⟩:=rx
  exact rule i t s _ _ ⟨.int (g i),H,I.tok _,⟨_,rfl⟩,q⟩
theorem fB:UnR X (unaryOp .USub) (rU fun i=>.int (-i)):=unI fun _ _ _ _ _ q=>neg_int q
end
def V6:V→V→Bool
  | .non,.non=>true | .non,.int _=>true | .int _,.non=>true | .non,.bl _=>true | .bl _,.non=>true | .non,.str _=>true | .str _,.non=>true
  | .int _,.int _=>true | .bl _,.bl _=>true | .str _,.str _=>true | .byt _,.byt _=>true
  | .int _,.str _=>true | .str _,.int _=>true | .bl _,.str _=>true | .str _,.bl _=>true
  | _,_=>false
def rEq:R2:=fun x y H Q=>V6 x y=true∧Q (.bl (decide (x=y))) H
def rNe:R2:=fun x y H Q=>V6 x y=true∧Q (.bl (!decide (x=y))) H
theorem zE {i j:Int}:decide (V.int i=V.int j)=(i == j):=by
  rw [Bool.eq_iff_iff]
  simp
theorem Km {i j:Bool}:decide (V.bl i=V.bl j)=(i == j):=by
  rw [Bool.eq_iff_iff]
  simp
theorem zB {i j:Str}:decide (V.str i=V.str j)=(i == j):=by
  rw [Bool.eq_iff_iff]
  simp
theorem zF {i j:Array UInt8}:decide (V.byt i=V.byt j)=(i.toList == j.toList):=by
  rw [Bool.eq_iff_iff]
  cases i
  cases j
  simp
section
variable {X:Cx} {a b c:Expr} {ta tb tc:TE} {pos:Pos}
theorem dB {pins:List (Addr × Obj)} {σ:St} {H:Hp} {s:Shared} {Q:VK} {k k':Bool} (I:Inv X pins σ H s) (q:Q (.bl k) H) (e:k=k'):EP X pins σ Q (.bool k') s:=by
  subst e
  exact ⟨.bl k,H,I,rfl,q⟩
theorem dY:OpR X (compareOp .Eq) rEq:=by
  intro pins s σ H x y v u Q I rx ry h
  obtain ⟨hs,q⟩:=h
  cases x with
  | non =>
    cases rx
    cases y with
    | non=>cases ry;exact PySem.EqNone.eq_none_none (dB I q (by simp))
    | bl j=>cases ry;exact PySem.EqNone.eq_none_bool (dB I q (by simp))
    | int j=>obtain ⟨t',rfl⟩:=ry;exact PySem.EqNone.eq_none_int (dB I q (by simp))
    | str j=>obtain ⟨t',rfl⟩:=ry;exact PySem.EqNone.eq_none_str (dB I q (by simp))
    | _=>exact absurd (show false=true from hs) Bool.false_ne_true
  | bl i =>
    cases rx
    cases y with
    | non=>cases ry;exact PySem.EqNone.eq_bool_none (dB I q (by simp))
    | bl j=>cases ry;exact eq_bool (dB I q Km)
    | str j=>obtain ⟨t',rfl⟩:=ry;exact PySem.EqMixed.eq_bool_str (dB I q (by simp))
    | _=>exact absurd (show false=true from hs) Bool.false_ne_true
  | int i =>
    obtain ⟨t,rfl⟩:=rx
    cases y with
    | non=>cases ry;exact PySem.EqNone.eq_int_none (dB I q (by simp))
    | int j=>obtain ⟨t',rfl⟩:=ry;exact eq_int (dB I q zE)
    | str j=>obtain ⟨t',rfl⟩:=ry;exact PySem.EqMixed.eq_int_str (dB I q (by simp))
    | _=>exact absurd (show false=true from hs) Bool.false_ne_true
  | str i =>
    obtain ⟨t,rfl⟩:=rx
    cases y with
    | non=>cases ry;exact PySem.EqNone.eq_str_none (dB I q (by simp))
    | bl j=>cases ry;exact PySem.EqMixed.eq_str_bool (dB I q (by simp))
    | int j=>obtain ⟨t',rfl⟩:=ry;exact PySem.EqMixed.eq_str_int (dB I q (by simp))
    | str j=>obtain ⟨t',rfl⟩:=ry;exact eq_str (dB I q zB)
    | _=>exact absurd (show false=true from hs) Bool.false_ne_true
  | byt i =>
    obtain ⟨t,rfl⟩:=rx
    cases y with
    | byt j=>obtain ⟨t',rfl⟩:=ry;exact PySem.W.eq_bytes (dB I q zF)
    | _=>exact absurd (show false=true from hs) Bool.false_ne_true
  | _=>cases y <;> exact absurd (show false=true from hs) Bool.false_ne_true
theorem sW:OpR X (compareOp .NotEq) rNe:=by
  intro pins s σ H x y v u Q I rx ry h
  obtain ⟨hs,q⟩:=h
  cases x with
  | non =>
    cases rx
    cases y with
    | non=>cases ry;exact PySem.EqNone.ne_none_none (dB I q (by simp))
    | bl j=>cases ry;exact PySem.EqNone.ne_none_bool (dB I q (by simp))
    | int j=>obtain ⟨t',rfl⟩:=ry;exact PySem.EqNone.ne_none_int (dB I q (by simp))
    | str j=>obtain ⟨t',rfl⟩:=ry;exact PySem.EqNone.ne_none_str (dB I q (by simp))
    | _=>exact absurd (show false=true from hs) Bool.false_ne_true
  | bl i =>
    cases rx
    cases y with
    | non=>cases ry;exact PySem.EqNone.ne_bool_none (dB I q (by simp))
    | bl j=>cases ry;exact ne_bool (dB I q (congrArg not Km))
    | str j=>obtain ⟨t',rfl⟩:=ry;exact PySem.EqMixed.ne_bool_str (dB I q (by simp))
    | _=>exact absurd (show false=true from hs) Bool.false_ne_true
  | int i =>
    obtain ⟨t,rfl⟩:=rx
    cases y with
    | non=>cases ry;exact PySem.EqNone.ne_int_none (dB I q (by simp))
    | int j=>obtain ⟨t',rfl⟩:=ry;exact ne_int (dB I q (congrArg not zE))
    | str j=>obtain ⟨t',rfl⟩:=ry;exact PySem.EqMixed.ne_int_str (dB I q (by simp))
    | _=>exact absurd (show false=true from hs) Bool.false_ne_true
  | str i =>
    obtain ⟨t,rfl⟩:=rx
    cases y with
    | non=>cases ry;exact PySem.EqNone.ne_str_none (dB I q (by simp))
    | bl j=>cases ry;exact PySem.EqMixed.ne_str_bool (dB I q (by simp))
    | int j=>obtain ⟨t',rfl⟩:=ry;exact PySem.EqMixed.ne_str_int (dB I q (by simp))
    | str j=>obtain ⟨t',rfl⟩:=ry;exact ne_str (dB I q (congrArg not zB))
    | _=>exact absurd (show false=true from hs) Bool.false_ne_true
  | byt i =>
    obtain ⟨t,rfl⟩:=rx
    cases y with
    | byt j=>obtain ⟨t',rfl⟩:=ry;exact PySem.W.ne_bytes (dB I q (congrArg not zF))
    | _=>exact absurd (show false=true from hs) Bool.false_ne_true
  | _=>cases y <;> exact absurd (show false=true from hs) Bool.false_ne_true
theorem qQ:OpR X (compareOp .Lt) (rI0 fun i j=>.bl (decide (i<j))):=Tq fun _ _ _ _ _ _ _ q=>lt_int q
theorem nG:OpR X (compareOp .LtE) (rI0 fun i j=>.bl (decide (i≤j))):=Tq fun _ _ _ _ _ _ _ q=>le_int q
theorem Ai:OpR X (compareOp .Gt) (rI0 fun i j=>.bl (decide (j<i))):=Tq fun _ _ _ _ _ _ _ q=>gt_int q
theorem Ue:OpR X (compareOp .GtE) (rI0 fun i j=>.bl (decide (j≤i))):=Tq fun _ _ _ _ _ _ _ q=>ge_int q
theorem yL:OpR X (compareOp .In) (fun x y H Q=>∃ i j,x=.str i∧y=.str j∧Q (.bl (!(Builtin.Str.occurrences j i 0 j.length 1).isEmpty)) H):=by
  intro pins s σ H x y v u Q I rx ry h
  obtain ⟨i,j,rfl,rfl,q⟩:=h
  obtain ⟨t,rfl⟩:=rx
  obtain ⟨t',rfl⟩:=ry
  exact in_str (dB I q rfl)
theorem yK:OpR X (compareOp .Is) (fun x y H Q=>y=.non∧Q (.bl (decide (x=.non))) H):=by
  intro pins s σ H x y v u Q I rx ry h
  obtain ⟨rfl,q⟩:=h
  cases ry
  refine is_none_gen (dB I q ?_)
  cases x <;> first
    | (cases rx;rfl)
    | (obtain ⟨t,rfl⟩:=rx;rfl)
theorem aN (b:Expr) {op:CmpOp} (h:op≠.In:=by decide) (h2:op≠.NotIn:=by decide):behindInMarks op b=false:=by
  have e1:(op == CmpOp.In)=false:=by cases op <;> first | rfl | exact absurd rfl h
  have e2:(op == CmpOp.NotIn)=false:=by cases op <;> first | rfl | exact absurd rfl h2
  cases b <;> simp [behindInMarks,e1,e2]
theorem j7 {op:CmpOp} {r:R2} (ho:OpR X (compareOp op) r) (ha:PE X a ta) (hb:PE X b tb) (hm:behindInMarks op b=false):PE X (.Compare a [op] [b] pos) (tOp r ta tb):=by
  intro pins s σ H Q I h
  exact wpAny_Compare1 (Tt ha hb I h fun v u s2 x y H2 I2 rx ry q=>ho pins s2 σ H2 x y v u Q I2 rx ry q) hm
def Kv (t:TE):TT:=fun σ H Q=>t σ H fun x H'=>∃ k,x=.bl k∧Q k H'
theorem aK {op:CmpOp} {r:R2} (ho:OpR X (compareOp op) r) (ha:PE X a ta) (hb:PE X b tb) (hm:behindInMarks op b=false):PT X (.Compare a [op] [b] pos) (Kv (tOp r ta tb)):=by
  intro pins s σ H Q I h
  refine wpAny_isTrue_Compare1 (thn (ha pins s σ H _ I h) fun v s1 ⟨x,H1,I1,r1,q1⟩=>thn (hb pins s1 σ H1 _ I1 q1) fun u s2 ⟨y,H2,I2,r2,q2⟩ =>
    thn (ho pins s2 σ H2 x y v u _ I2 r1 r2 q2) fun c s3 ⟨z,H3,I3,r3,k,e,q3⟩=>?_) hm
  subst e
  cases r3
  exact wpAny_truthy_bool ⟨H3,I3,q3⟩
def BX (r r':R2) (ta tb tc:TE):TE:=fun σ H Q=>ta σ H fun x H1=>tb σ H1 fun y H2=>r x y H2 fun z H3=>∃ k,z=.bl k ∧
  (if k=true then tc σ H3 fun w' H4=>r' y w' H4 Q else Q (.bl false) H3)
theorem qP {op op':CmpOp} {r r':R2} (ho:OpR X (compareOp op) r) (ho':OpR X (compareOp op') r') (ha:PE X a ta) (hb:PE X b tb) (hc:PE X c tc)
    (hm:lastMarks [op,op'] [b,c]=false:=by with_unfolding_all rfl):PE X (.Compare a [op,op'] [b,c] pos) (BX r r' ta tb tc):=by
  intro pins s σ H Q I h
  refine Compare_chain (thn (ha pins s σ H _ I h) fun v s1 ⟨x,H1,I1,r1,q1⟩=>chain_link (thn (hb pins s1 σ H1 _ I1 q1) fun u s2 ⟨y,H2,I2,r2,q2⟩ =>
    thn (ho pins s2 σ H2 x y v u _ I2 r1 r2 q2) fun d s3 ⟨z,H3,I3,r3,k,e,q3⟩=>?_)) hm
  subst e
  cases r3
  refine wpAny_truthy_bool ?_
  cases k with
  | false=>exact ite_ff ⟨.bl false,H3,I3,rfl,q3⟩
  | true=>exact ite_tt (chain_last (thn (hc pins s3 σ H3 _ I3 q3) fun w' s4 ⟨z',H4,I4,r4,q4⟩=>ho' pins s4 σ H4 y z' u w' Q I4 r2 r4 q4))
theorem mG {op op':CmpOp} {r r':R2} (ho:OpR X (compareOp op) r) (ho':OpR X (compareOp op') r') (ha:PE X a ta) (hb:PE X b tb) (hc:PE X c tc)
    (hm:lastMarks [op,op'] [b,c]=false:=by with_unfolding_all rfl):PT X (.Compare a [op,op'] [b,c] pos) (Kv (BX r r' ta tb tc)):=by
  intro pins s σ H Q I h
  refine isTrue_chain (thn (ha pins s σ H _ I h) fun v s1 ⟨x,H1,I1,r1,q1⟩=>test_link (thn (hb pins s1 σ H1 _ I1 q1) fun u s2 ⟨y,H2,I2,r2,q2⟩ =>
    thn (ho pins s2 σ H2 x y v u _ I2 r1 r2 q2) fun d s3 ⟨z,H3,I3,r3,k,e,q3⟩=>?_)) hm
  subst e
  cases r3
  refine wpAny_truthy_bool ?_
  cases k with
  | false =>
    obtain ⟨k',e',q'⟩:=q3
    cases e'
    exact ite_ff ⟨H3,I3,q'⟩
  | true =>
    refine ite_tt (test_last (thn (hc pins s3 σ H3 _ I3 q3) fun w' s4 ⟨z',H4,I4,r4,q4⟩=>thn (ho' pins s4 σ H4 y z' u w' _ I4 r2 r4 q4) fun d' s5 ⟨z2,H5,I5,r5,k2,e2,q5⟩=>?_))
    subst e2
    cases r5
    exact wpAny_truthy_bool ⟨H5,I5,q5⟩
theorem tu:(sizeLine:Nat)<2 ^ 63:=by rw [sizeLine_eq];decide
theorem wN:OpR X (binaryOp .Add) (fun x y H Q=>∃ i j,x=.str i∧y=.str j∧i.length + j.length≤sizeLine∧Q (.str (i++j)) H):=by
  intro pins s σ H x y v u Q I rx ry h
  obtain ⟨i,j,rfl,rfl,hz,q⟩:=h
  obtain ⟨t,rfl⟩:=rx
  obtain ⟨t',rfl⟩:=ry
  exact add_str (fun t' tk=>⟨.str (i++j),H,I.tok _,⟨_,rfl⟩,q⟩) hz
def BP (b:Expr):Prop:=∀ o i,subscripted b false o i=operate [o,i] (getItem o i)
theorem uF (ha:PE X a ta) (hb:PE X b tb) (hs:BP b) :
    PE X (.Subscript a b pos) (tOp (fun x y H Q=>∃ z i c,x=.str z∧y=.int i∧0≤i∧i<2 ^ 63∧i<z.length∧z.cps[i.toNat]?=some c∧Q (.str ⟨#[c]⟩) H) ta tb):=by
  intro pins s σ H Q I h
  refine Subscript_ (Tt ha hb I h fun v u s2 x y H2 I2 rx ry q=>?_)
  obtain ⟨z,i,c,rfl,rfl,h0,h63,h1,hc,q⟩:=q
  obtain ⟨t,rfl⟩:=rx
  obtain ⟨t',rfl⟩:=ry
  have e:seqIndex? i z.length=some i.toNat:=PySem.StrLaws.seqIndex_nonneg h0 h1
  exact tail_any (typeIs_str s2 z t) slot_str_getitem.lookup (getItem_str (c:=c) (by
    have e1:decide (i < -(2 ^ 63:Int))=false:=decide_eq_false (by omega)
    have e2:decide (i ≥ 2 ^ 63)=false:=decide_eq_false (by omega)
    rw [e1,e2] <;> rfl) (by rw [e];exact hc) ⟨.str ⟨#[c]⟩,H2,I2.tok _,⟨_,rfl⟩,q⟩) (hs _ _)
theorem vals1 {x:V} {us:List Value} (r:Vals [x] us):∃ u,us=[u]∧RelV x u:=by
  cases r with
  | cons r1 r2=>cases r2;exact ⟨_,rfl,r1⟩
theorem vals2 {x y:V} {us:List Value} (r:Vals [x,y] us):∃ u w',us=[u,w']∧RelV x u∧RelV y w':=by
  cases r with
  | cons r1 r2 =>
    cases r2 with
    | cons r3 r4=>cases r4;exact ⟨_,_,rfl,r1,r3⟩
theorem zQ (hc:X.calm=true):nP X (.builtin "max") (fun xs H Q=>∃ i j,xs=[.int i,.int j]∧Q (.int (if j > i then j else i)) H):=by
  intro pins s σ H xs us Q I r h
  obtain ⟨i,j,rfl,q⟩:=h
  obtain ⟨u,w',rfl,⟨t,rfl⟩,⟨t',rfl⟩⟩:=vals2 r
  refine max_two_ints (I.ok.hd hc) fun h' tk k=>⟨_,H,I.kept k,?_,q⟩
  by_cases hj:j > i
  · rw [if_pos hj,if_pos hj];exact ⟨_,rfl⟩
  · rw [if_neg hj,if_neg hj];exact ⟨_,rfl⟩
theorem zP (hc:X.calm=true):nP X (.builtin "min") (fun xs H Q=>∃ i j,xs=[.int i,.int j]∧Q (.int (if j<i then j else i)) H):=by
  intro pins s σ H xs us Q I r h
  obtain ⟨i,j,rfl,q⟩:=h
  obtain ⟨u,w',rfl,⟨t,rfl⟩,⟨t',rfl⟩⟩:=vals2 r
  refine min_two_ints (I.ok.hd hc) fun h' tk k=>⟨_,H,I.kept k,?_,q⟩
  by_cases hj:j<i
  · rw [if_pos hj,if_pos hj];exact ⟨_,rfl⟩
  · rw [if_neg hj,if_neg hj];exact ⟨_,rfl⟩
theorem pD:nP X (.type "int") (fun xs H Q=>(∃ i,xs=[.int i]∧Q (.int i) H)∨∃ k,xs=[.bl k]∧Q (.int (if k then 1 else 0)) H):=by
  intro pins s σ H xs us Q I r h
  rcases h with ⟨i,rfl,q⟩ | ⟨k,rfl,q⟩
  · obtain ⟨u,rfl,t,rfl⟩:=vals1 r
    exact call_int_int ⟨.int i,H,I,⟨_,rfl⟩,q⟩
  · obtain ⟨u,rfl,r1⟩:=vals1 r
    cases r1
    exact call_int_bool ⟨.int (if k then 1 else 0),H,I.tok _,⟨_,rfl⟩,q⟩
end
end L2
namespace L2
open PySem PySem.Spec PyProof.Rows
structure LK (h:Heap) (x dx C:Addr) (mA:Str→Option Value):Prop where
  obj:h.get? x=some (PySem.W.instObj C dx)
  ns:h.Ns1 dx mA
  ne:dx≠x
theorem yZ {h:Heap} {dx:Addr} {mA:Str→Option Value} (n:h.Ns1 dx mA):∃ od,h.get? dx=some od∧∀ name,PySem.W.lookIn name od=some (mA name):=by
  obtain ⟨o,es,ep,ho,hd,hk,_,hm⟩:=n
  refine ⟨o,ho,fun name=>?_⟩
  have e:=hm name
  unfold nsFind findBy at e
  rw [← Array.find?_toList] at e
  unfold PySem.W.lookIn
  rw [hd]
  dsimp only
  split
  · rename_i y q
    rw [q] at e
    exact congrArg some e
  · rename_i q
    rw [q] at e
    have a:es.toList.any (·.refKey)=false:=by
      rw [List.any_eq_false]
      intro y hy
      obtain ⟨z,t,hkey⟩:=hk y (Array.mem_toList_iff.mp hy)
      simp [DictEntry.refKey,hkey]
    have a':¬ es.toList.any (·.refKey)=true:=by rw [a];exact Bool.false_ne_true
    rw [if_neg a']
    exact congrArg some e
theorem LK.look {h:Heap} {x dx C:Addr} {mA:Str→Option Value} (I:LK h x dx C mA):∃ od,PySem.W.InstAt h x (PySem.W.instObj C dx) C (some od)∧∀ name,PySem.W.lookIn name od=some (mA name) :=
  let ⟨od,ho,hl⟩:=yZ I.ns
  ⟨od,⟨I.obj,rfl,rfl,ho⟩,hl⟩
section
variable {prog:Program} {w:World} {A:Around} {E:Value→Shared→Prop} {s:Shared} {K:PySem.W.Frag} {x dx C f:Addr} {mA:Str→Option Value} {name:Str} {v:Value}
theorem get_map {expr:Bool} {Q:Value→Shared→Prop} (X:K.In s.heap) (I:LK s.heap x dx C mA) (hg:PySem.W.plainGet K C name=true) (hh:PySem.W.hasDictIn K C=true)
    (ha:PySem.W.findIn K (.ref C) name=some none) (hv:mA name=some v) (hv':PySem.W.handedIn v=true) (h:Q v { s with toks:=s.toks + 1 }) :
    wpAny (model prog w) A (getAttr (.ref x) name expr) Q E s:=by
  obtain ⟨od,J,hl⟩:=I.look
  exact PySem.W.get_value X J (PySem.W.plainGet_of hg).1 (PySem.W.findObj_own hh ha rfl (by rw [hl,hv])) hv' h
theorem Bp {pl:Sem Bool} {Q:Value × List Value→Shared→Prop} (X:K.In s.heap) (I:LK s.heap x dx C mA) (hg:PySem.W.plainGet K C name=true)
    (hf:PySem.W.findIn K (.ref C) name=some (some (.ref f))) (ht:PySem.W.isFn K (.ref f)=true) (hv:mA name=none) (h:Q (.ref f,[.ref x]) s) :
    wpAny (model prog w) A (getMethod (.ref x) name pl) Q E s:=by
  obtain ⟨od,J,hl⟩:=I.look
  exact PySem.W.method_fn X J (PySem.W.plainGet_of hg).1 (PySem.W.plainGet_of hg).2 hf (beq_iff_eq.mp ht) (by show (PySem.W.lookIn name od).map (·.isSome)=some false;rw [hl,hv];rfl) h
theorem KJ {ns:List Str} {Q:Unit→Shared→Prop} (X:K.In s.heap) (I:LK s.heap x dx C mA)
    (hs:PySem.W.findIn K (.ref C) "__setattr__"=some (some (.builtin "object.__setattr__"))) (hp:PySem.W.plainOver K C=true) (ht:PySem.W.takerIn K C name=some none) (hh:PySem.W.hasDictIn K C=true)
    (hw:PySem.Within mA ns) (hsz:ns.length≤sizeLine)
    (h:∀ h',LK h' x dx C (fun y=>if y=name then some v else mA y)→Heap.SameBut dx s.heap h'→Q () { s with heap:=h',toks:=s.toks + 2 }) :
    wpAny (model prog w) A (setAttr (.ref x) name v) Q E s:=by
  obtain ⟨od,J,hl⟩:=I.look
  refine PySem.W.set_plain X J hs (PySem.W.osa_open (s:={ s with toks:=s.toks + 1 }) (r:=none) X J hp ht fun b=>?_)
  obtain ⟨cd,hc,hd'⟩:=PySem.W.any_some hh
  have hx:s.heap.get? x=some ⟨.ref C,some dx,.plain,#[]⟩:=I.obj
  refine wpAny_bind (wpAny_pure (wpAny_bind (wpAny_bind (wpAny_loadPart hx (wpAny_bind (PySem.W.Looks.here (s:={ s with toks:=s.toks + 1 }) (PySem.W.looks_clsIn X hc) ?_))))))
  rw [hd']
  refine wpAny_pure (a:=some dx) (wpAny_bind (wpAny_pure (wpAny_bind ?_)))
  refine wpAny_nsSet1 (s:={ s with toks:=s.toks + 1 }) I.ns fun h' hn2 hs2=>?_
  obtain ⟨oD,esD,epD,hoD,hdD,hcD⟩:=hn2.count (PySem.Within.cons name v hw)
  refine wpAny_bind (wpAny_lookBehind hoD (by rw [hdD];exact pastItsLine_dict (Nat.le_trans hcD (by rw [List.length_cons];omega))) ?_)
  exact wpAny_pure (h _ ⟨(hs2.2 _ (Ne.symm I.ne)).trans I.obj,hn2,I.ne⟩ hs2)
theorem vQ {R:Result→Shared→Prop} {vs:List Value} {kw:List (Str × Value)} (X:K.In s.heap) (hm:PySem.W.makesIn K C=true)
    (hi:PySem.W.findIn K (.ref C) "__init__"=some (some (.ref f))) (hf:PySem.W.typeIn K (.ref f)=some (.type "function"))
    (h:codeAny (model prog w) (A.under (.builtin "type.__call__" ⟨.ref C :: vs,kw⟩)) (.call (.ref f) ⟨.ref (s.heap.objs.size + 1) :: vs,kw⟩) (PySem.W.InitBack (s.heap.objs.size + 1) R)
      { s with heap:=(s.heap.push PySem.W.emptyDict).push (PySem.W.instObj C s.heap.objs.size) }) :
    codeAny (model prog w) A (.call (.ref C) ⟨vs,kw⟩) R s:=by
  obtain ⟨hh,g,d,t,os⟩:=s
  exact PySem.W.make_core (PySem.W.makes_of X hm) (PySem.W.looks_findIn X hi) (fun self=>PySem.W.bind_fn X self hf) (.inl rfl) h
end
def rG (f:Str) (v:V):List (Str × V)→List (Str × V)
  | []=>[(f,v)]
  | (g,x) :: r=>if g=f then (g,v) :: r else (g,x) :: rG f v r
theorem oO (f g:Str) (v:V):∀ fs:List (Str × V),(rG f v fs).lookup g=if g=f then some v else fs.lookup g
  | []=>by
    show List.lookup g [(f,v)]=_
    by_cases h:g=f
    · have hb:(g == f)=true:=beq_iff_eq.mpr h
      simp only [List.lookup,hb,if_pos h]
    · have hb:(g == f)=false:=beq_eq_false_iff_ne.mpr h
      simp only [List.lookup,hb,if_neg h]
  | (k,x) :: r=>by
    have ih:=oO f g v r
    rw [show rG f v ((k,x) :: r)=(if k=f then (k,v) :: r else (k,x) :: rG f v r) from rfl]
    by_cases hk:k=f
    · rw [if_pos hk]
      by_cases h:g=k
      · have hb:(g == k)=true:=beq_iff_eq.mpr h
        simp only [List.lookup,hb,if_pos (h.trans hk)]
      · have hb:(g == k)=false:=beq_eq_false_iff_ne.mpr h
        simp only [List.lookup,hb,if_neg (fun e:g=f=>h (e.trans hk.symm))]
    · rw [if_neg hk]
      by_cases h:g=k
      · have hb:(g == k)=true:=beq_iff_eq.mpr h
        simp only [List.lookup,hb,if_neg (fun e:g=f=>hk (h.symm.trans e))]
      · have hb:(g == k)=false:=beq_eq_false_iff_ne.mpr h
        simp only [List.lookup,hb]
        exact ih
theorem oY (f:Str) (v:V):∀ fs:List (Str × V),f∈(rG f v fs).map (·.1)∧∀ g,g∈fs.map (·.1)→g∈(rG f v fs).map (·.1)
  | []=>⟨by simp [rG],fun g h=>by simp at h⟩
  | (k,x) :: r=>by
    obtain ⟨i1,i2⟩:=oY f v r
    rw [show rG f v ((k,x) :: r)=(if k=f then (k,v) :: r else (k,x) :: rG f v r) from rfl]
    by_cases hk:k=f
    · rw [if_pos hk]
      subst hk
      exact ⟨by simp,fun g h=>by simpa using h⟩
    · rw [if_neg hk]
      refine ⟨?_,fun g h=>?_⟩
      · rw [List.map_cons]
        exact List.mem_cons_of_mem _ i1
      · rw [List.map_cons] at h ⊢
        rcases List.mem_cons.mp h with e | e
        · exact List.mem_cons.mpr (.inl e)
        · exact List.mem_cons_of_mem _ (i2 g e)
theorem oR (f:Str) (v:V):∀ fs:List (Str × V),(rG f v fs).length≤fs.length + 1
  | []=>by simp [rG]
  | (k,x) :: r=>by
    have ih:=oR f v r
    rw [show rG f v ((k,x) :: r)=(if k=f then (k,v) :: r else (k,x) :: rG f v r) from rfl]
    by_cases hk:k=f
    · rw [if_pos hk,List.length_cons,List.length_cons];omega
    · rw [if_neg hk,List.length_cons,List.length_cons];omega
theorem z6.some_of {v:V} {o:Option Value} (r:z6 (some v) o):∃ u,o=some u∧RelV v u:=by
  cases o with
  | none=>exact (show False from r).elim
  | some u=>exact ⟨u,rfl,r⟩
theorem z6.none_of {o:Option Value} (r:z6 none o):o=none:=by
  cases o with
  | none=>rfl
  | some u=>exact (show False from r).elim
theorem zp {v:V} {u:Value} (r:RelV v u):PySem.W.handedIn u=true:=by
  cases v with
  | non=>cases (show u=Value.none from r);rfl
  | bl b=>cases (show u=Value.bool b from r);rfl
  | int i=>obtain ⟨t,e⟩:=(show ∃ t,u=Value.int i t from r);cases e;rfl
  | str x=>obtain ⟨t,e⟩:=(show ∃ t,u=Value.str x t from r);cases e;rfl
  | byt b=>obtain ⟨t,e⟩:=(show ∃ t,u=Value.bytes b t from r);cases e;rfl
  | flt b=>obtain ⟨t,e⟩:=(show ∃ t,u=Value.float b t from r);cases e;rfl
  | ref a=>cases (show u=Value.ref a from r);rfl
  | ty n=>cases (show u=Value.type n from r);rfl
section
variable {P:Program} {w:World} {H H':Hp} {h h':Heap} {a C dx:Addr} {fs fs':List (Str × V)}
theorem uN (hok:HOk P w H h) (e:H a=some (.ins C dx fs)):∃ mA,LK h a dx C mA∧(∀ f,z6 (fs.lookup f) (mA f))∧PySem.Within mA (fs.map (·.1))∧fs.length≤1000∧H dx=some (.own a):=by
  obtain ⟨d,z,ne,ob,mA,n,r,q⟩:=(show jz P w H h a (.ins C dx fs) from hok a _ e)
  exact ⟨mA,⟨ob,n,ne⟩,r,q,z,d⟩
end
structure Cls (K:PySem.W.Frag) (C:Addr):Prop where
  pg:PySem.W.plainGet K C Str.empty=true
  hd:PySem.W.hasDictIn K C=true
  po:PySem.W.plainOver K C=true
  sa:PySem.W.findIn K (.ref C) "__setattr__"=some (some (.builtin "object.__setattr__"))
theorem Cls.get {K:PySem.W.Frag} {C:Addr} (c:Cls K C) (f:Str):PySem.W.plainGet K C f=true:=c.pg
def jV (K:PySem.W.Frag) (C:Addr) (f:Str):Prop:=PySem.W.findIn K (.ref C) f=some none
theorem jV.taker {K:PySem.W.Frag} {C:Addr} {f:Str} (n:jV K C f):PySem.W.takerIn K C f=some none:=by
  unfold PySem.W.takerIn
  rw [show PySem.W.findIn K (.ref C) f=some none from n]
  rfl
structure Meth (K:PySem.W.Frag) (C:Addr) (m:Str) (f:Addr):Prop where
  at_:PySem.W.findIn K (.ref C) m=some (some (.ref f))
  fn:PySem.W.isFn K (.ref f)=true
  kp:PySem.W.keepIn K (.ref f)=true
section
variable {X:Cx} {pins:List (Addr × Obj)} {σ:St} {H:Hp} {s:Shared} {a C dx:Addr} {fs:List (Str × V)} {f:Str} {v:V} {A:Around} {E:Value→Shared→Prop}
theorem qe {b:Bool} {Q:Value→Shared→Prop} (I:Inv X pins σ H s) (e:H a=some (.ins C dx fs)) (c:Cls X.K C) (n:jV X.K C f) (l:fs.lookup f=some v)
    (h:∀ u s',Inv X pins σ H s'→RelV v u→Q u s'):wpAny (model X.prog X.w) A (getAttr (.ref a) f b) Q E s:=by
  obtain ⟨mA,O,r,_,_,_⟩:=uN I.hok e
  obtain ⟨u,hu,ru⟩:=z6.some_of (v:=v) (o:=mA f) (by rw [← l];exact r f)
  exact get_map I.kIn O (c.get f) c.hd n hu (zp ru) (h u _ (I.tok _) ru)
theorem qd {m:Str} {g:Addr} {pl:Sem Bool} {Q:Value × List Value→Shared→Prop} (I:Inv X pins σ H s) (e:H a=some (.ins C dx fs)) (c:Cls X.K C) (k:Meth X.K C m g) (l:fs.lookup m=none)
    (h:Q (.ref g,[.ref a]) s):wpAny (model X.prog X.w) A (getMethod (.ref a) m pl) Q E s:=by
  obtain ⟨mA,O,r,_,_,_⟩:=uN I.hok e
  have hn:mA m=none:=z6.none_of (by rw [← l];exact r m)
  exact Bp I.kIn O (c.get m) k.at_ k.fn hn h
theorem pW {y:V} {u:Value} {Q:Unit→Shared→Prop} (I:Inv X pins σ H s) (e:H a=some (.ins C dx fs)) (c:Cls X.K C) (n:jV X.K C f) (hl:fs.length<1000) (ry:RelV y u)
    (h:∀ s',Inv X pins σ (upd H a (.ins C dx (rG f y fs))) s'→Q () s'):wpAny (model X.prog X.w) A (setAttr (.ref a) f u) Q E s:=by
  obtain ⟨mA,O,r,wi,_,ho⟩:=uN I.hok e
  have hz:(fs.map (·.1)).length≤sizeLine:=by rw [List.length_map,sizeLine_eq];omega
  refine KJ I.kIn O c.sa c.po n.taker c.hd wi hz fun h' O' sb=>h _ ?_
  have hd:∃ o,h'.get? dx=some o:=let ⟨o,_,_,e',_⟩:=O'.ns;⟨o,e'⟩
  refine I.write (x:=a) (e:=dx) (by rw [e];exact True.intro) (.inr ho) (fun b q hb z=>(sb.2 b hb).trans z) hd ?_
  refine ⟨by rw [bB O.ne];exact ho,?_,O.ne,O'.obj,_,O'.ns,fun g=>?_,fun g hg=>?_⟩
  · have:=oR f y fs;omega
  · show z6 ((rG f y fs).lookup g) (if g=f then some u else mA g)
    rw [oO]
    by_cases q:g=f
    · rw [if_pos q,if_pos q];exact ry
    · rw [if_neg q,if_neg q];exact r g
  · by_cases q:g=f
    · rw [q];exact (oY f y fs).1
    · refine (oY f y fs).2 g (wi g fun z=>hg ?_)
      show (if g=f then some u else mA g)=none
      rw [if_neg q];exact z
theorem Inv.made (I:Inv X pins σ H s):Inv X pins σ (upd (upd H s.heap.objs.size (.own (s.heap.objs.size + 1))) (s.heap.objs.size + 1) (.ins C s.heap.objs.size []))
    { s with heap:=(s.heap.push PySem.W.emptyDict).push (PySem.W.instObj C s.heap.objs.size) }:=by
  have e1:(s.heap.push PySem.W.emptyDict).get? s.heap.objs.size=some PySem.W.emptyDict:=Heap.get?_push_size s.heap rfl
  have e2:((s.heap.push PySem.W.emptyDict).push (PySem.W.instObj C s.heap.objs.size)).get? (s.heap.objs.size + 1)=some (PySem.W.instObj C s.heap.objs.size):=by
    have:=Heap.get?_push_size (s.heap.push PySem.W.emptyDict) (o:=PySem.W.instObj C s.heap.objs.size) rfl
    rwa [Heap.size_push] at this
  have e3:(s.heap.push PySem.W.emptyDict).Ns s.heap.objs.size (fun _=>none):=⟨PySem.W.emptyDict,#[],_,e1,rfl,(fun e he=>absurd he (by simp)),fun _=>rfl⟩
  have I1:=I.laid (a:=s.heap.objs.size) (o:=.own (s.heap.objs.size + 1)) (h':=s.heap.push PySem.W.emptyDict) (t':=s.toks) (fun b u q=>Heap.get?_push_of_some _ q) (Nat.le_refl _) ⟨_,e1⟩
  refine I1.laid (a:=s.heap.objs.size + 1) (o:=.ins C s.heap.objs.size []) (t':=s.toks) (fun b u q=>Heap.get?_push_of_some _ q) (Nat.le_of_eq (Heap.size_push _ _)) ?_
  have ne:s.heap.objs.size≠s.heap.objs.size + 1:=Nat.ne_of_lt (Nat.lt_succ_self _)
  refine ⟨by rw [bB ne,cQ],Nat.zero_le _,ne,e2,fun _=>none,(Heap.Ns1.of_empty e3).at fun o q=>Heap.get?_push_of_some _ q,fun _=>True.intro,fun y hy=>absurd rfl hy⟩
theorem Ly {prog:Program} {w:World} {env:Env} {e:Expr} {f:Str} {pos:Pos} {s:Shared} {Q:Value→Shared→Prop} (hb:attributeBase e f env (eval e env)=eval e env)
    (h:wpAny (model prog w) A (eval e env) (fun o s₁=>wpAny (model prog w) A (getAttr o f true) Q E s₁) E s):wpAny (model prog w) A (eval (.Attribute e f pos) env) Q E s :=
  Attribute_any_ h (by rw [arm_eval_Attribute,hb])
end
def tFld (K:PySem.W.Frag) (ta:TE) (f:Str):TE:=fun σ H Q=>ta σ H fun x H1=>∃ a C dx fs v,x=.ref a∧H1 a=some (.ins C dx fs)∧Cls K C∧jV K C f∧fs.lookup f=some v∧Q v H1
def sFld (K:PySem.W.Frag) (ta tv:TE) (f:Str):TS:=fun D σ H=>tv σ H fun y H1=>ta σ H1 fun x H2=>∃ a C dx fs,x=.ref a∧H2 a=some (.ins C dx fs)∧Cls K C∧jV K C f∧fs.length<1000 ∧
  D.nx σ (upd H2 a (.ins C dx (rG f y fs)))
def Ws (X:Cx) (op:Operator) (rd:V→V→Hp→VK→Prop):Prop :=
  ∀ (pins:List (Addr × Obj)) (s:Shared) (σ:St) (H:Hp) (x y:V) (u v:Value) (Q:VK),Inv X pins σ H s→RelV x u→RelV y v→rd x y H Q→wpAny (model X.prog X.w) X.A (inplaceOp op u v) (EP X pins σ Q) X.xe s
def KN (K:PySem.W.Frag) (ta tv:TE) (rd:V→V→Hp→VK→Prop) (f:Str):TS:=fun D σ H=>ta σ H fun x H1=>∃ a C dx fs v,x=.ref a∧H1 a=some (.ins C dx fs)∧Cls K C∧jV K C f∧fs.lookup f=some v ∧
  tv σ H1 fun y H2=>rd v y H2 fun z H3=>∃ dx' fs',H3 a=some (.ins C dx' fs')∧fs'.length<1000∧D.nx σ (upd H3 a (.ins C dx' (rG f z fs')))
section
variable {X:Cx} {o e value:Expr} {f:Str} {pos pos' tpos:Pos} {ta tv:TE}
theorem cC (he:PE X e ta) (hb:attributeBase e f X.env (eval e X.env)=eval e X.env):PE X (.Attribute e f pos) (tFld X.K ta f):=by
  intro pins s σ H Q I h
  refine Ly hb (thn (he pins s σ H _ I h) fun u s1 ⟨x,H1,I1,rx,a,C,dx,fs,v,ex,ea,c,n,l,q⟩=>?_)
  subst ex
  obtain rfl:u=Value.ref a:=rx
  exact qe I1 ea c n l fun u' s2 I2 ru=>⟨v,H1,I2,ru,q⟩
theorem sS (ha:PE X o ta) (hv:PE X value tv) (hs:swapsWith value (some (.Attribute o f pos')) pos.line X.env=pure false):PS X (.Assign [.Attribute o f pos'] value pos) (sFld X.K ta tv f):=by
  intro pins s σ H D I h
  refine plainObj_wpAny_Assign_Attribute (thn (hv pins s σ H _ I h) fun u s1 ⟨y,H1,I1,ry,q⟩=>thn (ha pins s1 σ H1 _ I1 q) fun ov s2 ⟨x,H2,I2,rx,a,C,dx,fs,ex,ea,c,n,l,q2⟩=>?_) hs
  subst ex
  obtain rfl:ov=Value.ref a:=rx
  exact pW I2 ea c n l ry fun s3 I3=>⟨σ,_,I3,q2⟩
theorem yD {op:Operator} {rd:V→V→Hp→VK→Prop} (ha:PE X o ta) (hv:PE X value tv) (hop:Ws X op rd):PS X (.AugAssign (.Attribute o f tpos) op value pos) (KN X.K ta tv rd f):=by
  intro pins s σ H D I h
  refine wpAny_AugAssign_AttributeAny (thn (ha pins s σ H _ I h) fun ov s1 ⟨x,H1,I1,rx,a,C,dx,fs,v,ex,ea,c,n,l,q⟩=>?_)
  subst ex
  obtain rfl:ov=Value.ref a:=rx
  refine qe I1 ea c n l fun u s2 I2 ru=>thn (hv pins s2 σ H1 _ I2 q) fun w3 s3 ⟨y,H2,I3,ry,q3⟩=>thn (hop pins s3 σ H2 v y u w3 _ I3 ru ry q3) fun w4 s4 ⟨z,H3,I4,rz,dx',fs',ea',l',q4⟩=>?_
  exact pW I4 ea' c n l' rz fun s5 I5=>⟨σ,_,I5,q4⟩
def rAdd:V→V→Hp→VK→Prop:=fun x y H Q=>∃ i j,x=.int i∧y=.int j∧Q (.int (i + j)) H
theorem Nv:Ws X .Add rAdd:=by
  rintro pins s σ H x y u v Q I rx ry ⟨i,j,rfl,rfl,q⟩
  obtain ⟨t,rfl⟩:=(show ∃ t,u=Value.int i t from rx)
  obtain ⟨t',rfl⟩:=(show ∃ t',v=Value.int j t' from ry)
  exact PyProof.Rows.iadd_int ⟨.int (i + j),H,I.tok _,⟨_,rfl⟩,q⟩
end
end L2
namespace L2
open PySem PySem.Spec PyProof.Rows
structure mQ (k:Nat) (A:Around):Prop where
  hd:A.handled=none
  dp:A.depth + 3 * k + 5<recursionLimit
  un:A.units + 16 * k + 200<cLine
theorem mQ.mono {j k:Nat} {A:Around} (r:mQ k A) (h:j≤k):mQ j A:=⟨r.hd,by have:=r.dp;omega,by have:=r.un;omega⟩
theorem mQ.deeper {k:Nat} {A:Around} (r:mQ (k + 1) A) (env:Env):mQ k (A.deeper env) :=
  ⟨r.hd,by have:=r.dp;show A.depth + 1 + 3 * k + 5<_;omega,by have:=r.un;show A.units + 3 + 16 * k + 200<_;omega⟩
theorem wU {A:Around} {C:Addr} {us:List Value} {kw:List (Str × Value)}:(A.under (.builtin "type.__call__" ⟨.ref C :: us,kw⟩)).depth=A.depth + 1:=by
  first | rfl | simp [Around.under,Code.weight,Code.isCreation,Code.isGuard,Code.isCaller,Code.frames,Code.isFrame,guardIds]
theorem wR {A:Around} {C:Addr} {us:List Value} {kw:List (Str × Value)}:(A.under (.builtin "type.__call__" ⟨.ref C :: us,kw⟩)).units=A.units + 1:=by
  first | rfl | simp [Around.under,Code.cUnits,Code.frames,Code.isFrame]
theorem mQ.make {k:Nat} {A:Around} (r:mQ (k + 1) A) (C:Addr) (us:List Value) (kw:List (Str × Value)):mQ k (A.under (.builtin "type.__call__" ⟨.ref C :: us,kw⟩)) :=
  ⟨r.hd,by have:=r.dp;rw [wU];omega,by have:=r.un;rw [wR];omega⟩
theorem mQ.depth {k:Nat} {A:Around} (r:mQ k A):A.depth<recursionLimit:=by have:=r.dp;omega
theorem mQ.units {k:Nat} {A:Around} (r:mQ k A):A.units + 64<cLine:=by have:=r.un;omega
def V5:TA:=fun _ H Q=>Q [] H
def Ms (ta:TE) (tr:TA):TA:=fun σ H Q=>ta σ H fun x H1=>tr σ H1 fun xs H2=>Q (x :: xs) H2
section
variable {X:Cx} {e:Expr} {es:List Expr} {te:TE} {t:TA} {pos:Pos}
theorem ao:PA X [] V5:=fun _ _ _ _ H Q I h=>Calls.spliced_nil ⟨[],H,I,.nil,h⟩
theorem aj (ha:PE X e te) (hr:PA X es t) (hs:starEach (e :: es) X.env=(false,eval e X.env) :: starEach es X.env:=by rfl):PA X (e :: es) (Ms te t):=by
  intro pos pins s σ H Q I h
  rw [hs]
  show wpAny _ _ (spliced ((false,eval e X.env) :: backTo pos (starEach es X.env))) _ _ s
  refine Calls.spliced_cons (thn (ha pins s σ H _ I h) fun u s1 ⟨x,H1,I1,r1,q1⟩=>?_)
  exact thn (hr pos pins s1 σ H1 _ I1 q1) fun us s2 ⟨xs,H2,I2,r2,q2⟩=>⟨x :: xs,H2,I2,.cons r1 r2,q2⟩
def tTup (t:TA):TE:=fun σ H Q=>t σ H fun xs H1=>xs.length≤sizeLine∧∀ p,H1 p=none→Q (.ref p) (upd H1 p (.tup xs))
def tLst (t:TA):TE:=fun σ H Q=>t σ H fun xs H1=>xs.length≤sizeLine∧∀ p,H1 p=none→Q (.ref p) (upd H1 p (.lst xs))
theorem bA {x1} (h:PA X es t):PE X (.Tuple es x1 pos) (tTup t):=by
  intro pins s σ H Q I hq
  refine wpAny_Tuple_spliced (thn (h pos pins s σ H _ I hq) fun us s1 ⟨xs,H1,I1,r,z,q⟩=>⟨by rw [← r.length];exact z,?_⟩)
  have hf:H1 s1.heap.objs.size=none:=I1.hok.fresh (Nat.le_refl _)
  refine ⟨.ref s1.heap.objs.size,upd H1 s1.heap.objs.size (.tup xs),I1.laid (t':=s1.toks) (fun b u e=>Heap.get?_push_of_some _ e) (Nat.le_refl _) ?_,rfl,q _ hf⟩
  exact ⟨z,us,r,⟨_,Heap.get?_push_size _ rfl,rfl,_,rfl⟩⟩
theorem bK (h:PA X es t):PE X (.List es pos) (tLst t):=by
  intro pins s σ H Q I hq
  refine wpAny_List_spliced (thn (h pos pins s σ H _ I hq) fun us s1 ⟨xs,H1,I1,r,z,q⟩=>⟨by rw [← r.length];exact z,?_⟩)
  have hf:H1 s1.heap.objs.size=none:=I1.hok.fresh (Nat.le_refl _)
  refine ⟨.ref s1.heap.objs.size,upd H1 s1.heap.objs.size (.lst xs),I1.laid (t':=s1.toks) (fun b u e=>Heap.get?_push_of_some _ e) (Nat.le_refl _) ?_,rfl,q _ hf⟩
  exact ⟨z,us,0,r,Heap.get?_push_size _ rfl⟩
end
abbrev Sp:=List V→Hp→VK→XK→Prop
abbrev CXT:=List Env→Hp→Shared→XK→Value→Shared→Prop
structure LQ (P:Program) (w:World) (K:PySem.W.Frag) (mg:Str→Option Value) (base:Heap) (A:Around) (outer:List Env) (s:Shared) (H:Hp):Prop where
  frames:A.frames=some outer
  mod:Mod K mg base
  bs:∀ b o,base.get? b=some o→s.heap.get? b=some o∧H b=none
  bsz:base.objs.size≤s.heap.objs.size
  vW:s.heap.FunFrames base outer
  frf:∀ b∈frs outer,H b=none
  hok:HOk P w H s.heap
  bare:AllBare s.gens
def CE (outer:List Env) (P:Program) (w:World) (H:Hp) (s:Shared) (Q:VK) (u:Value) (s':Shared):Prop :=
  ∃ v H',s'.os=s.os∧AllBare s'.gens∧Un (frs outer) [] H H' s.heap s'.heap∧HOk P w H' s'.heap∧RelV v u∧Q v H'
def CR (CX:CXT) (outer:List Env) (P:Program) (w:World) (H:Hp) (s:Shared) (Q:VK) (E:XK) (r:Result) (s':Shared):Prop :=
  match r with
  | .ok (.ret u)=>CE outer P w H s Q u s'
  | .ok _=>False
  | .error e=>CX outer H s E e s'
structure bQ (P:Program) (w:World) (K:PySem.W.Frag) (mg:Str→Option Value) (base:Heap) (CX:CXT) (k:Nat) (f:Addr) (fd:FuncData) (ps:List Str) (sp:Sp):Prop where
  len:∀ vs H Q E,sp vs H Q E→vs.length=ps.length
  run:∀ (A:Around) (outer:List Env) (s:Shared) (H:Hp) (args:Args) (us:List Value) (vs:List V) (Q:VK) (E:XK),mQ k A→LQ P w K mg base A outer s H→BindsTo s fd args (ps.zip us)→Vals vs us→sp vs H Q E →
    codeAny (model P w) A (.call (.ref f) args) (CR CX outer P w H s Q E) s
theorem LQ.make {P:Program} {w:World} {K:PySem.W.Frag} {mg:Str→Option Value} {base:Heap} {A:Around} {outer:List Env} {s:Shared} {H:Hp} (e:LQ P w K mg base A outer s H) (C:Addr) (us:List Value) (kw:List (Str × Value)) :
    LQ P w K mg base (A.under (.builtin "type.__call__" ⟨.ref C :: us,kw⟩)) outer s H:=⟨by first | exact e.frames | (simpa [Around.under,Code.envs,Code.isFrame,pushEnvs] using e.frames),e.mod,e.bs,e.bsz,e.vW,e.frf,e.hok,e.bare⟩
section
variable {X:Cx} {pins:List (Addr × Obj)} {σ:St} {H:Hp} {s s':Shared}
theorem Inv.env0 (I:Inv X pins σ H s):LQ X.prog X.w X.K X.mg X.base X.A X.stack s H :=
  ⟨I.ok.frames,I.ok.mod,I.bs,Nat.le_trans I.ok.bsz I.sz,I.stack,I.ur,I.hok,I.bare⟩
theorem Inv.after {Q:VK} {u:Value} (I:Inv X pins σ H s) (h:CE X.stack X.prog X.w H s Q u s'):EP X pins σ Q u s':=by
  obtain ⟨v,H',os,bare,un,hok,r,q⟩:=h
  obtain ⟨hh,g,d,t,os'⟩:=s'
  obtain rfl:os'=s.os:=os
  exact ⟨v,H',I.call (h':=hh) (g':=g) (d':=d) (t':=t) (ch:=[]) un hok bare (fun b z=>absurd z (by simp)),r,q⟩
end
def T7 (sp:Sp) (dvs:List V) (E:XK) (t:TA):TE:=fun σ H Q=>t σ H fun vs H1=>sp (vs++dvs) H1 Q E
def Mr (C:Addr) (m:Str) (sp:Sp) (dvs:List V) (E:XK) (ta:TE) (t:TA):TE:=fun σ H Q=>ta σ H fun x H1=>∃ a dx fs,x=.ref a∧H1 a=some (.ins C dx fs)∧fs.lookup m=none ∧
  t σ H1 fun vs H2=>sp (x :: (vs++dvs)) H2 Q E
def T5 (C:Addr) (sp:Sp) (dvs:List V) (E:XK) (t:TA):TE:=fun σ H Q=>t σ H fun vs H1=>∀ x dx,H1 x=none→H1 dx=none→dx≠x →
  sp (.ref x :: (vs++dvs)) (upd (upd H1 dx (.own x)) x (.ins C dx [])) (fun v H2=>v=.non∧Q (.ref x) H2) E
def Binds (K:PySem.W.Frag) (fd:FuncData) (ps:List Str) (ds:List Value):Prop :=
  ∀ (s:Shared) (us:List Value),K.In s.heap→(us++ds).length=ps.length→BindsTo s fd ⟨us,[]⟩ (ps.zip (us++ds))
theorem Binds.all {K:PySem.W.Frag} {fd:FuncData} {ps:List Str} (h:∀ us:List Value,us.length=ps.length→bindArgs fd ⟨us,[]⟩=pure (ps.zip us)):Binds K fd ps []:=fun s us _ hl=>by
  rw [List.append_nil] at hl ⊢
  exact .of_eq (h us hl)
def Passes (CX:CXT) (X:Cx) (E:XK):Prop:=∀ (pins:List (Addr × Obj)) (σ:St) (H:Hp) (s:Shared) (e:Value) (s':Shared),Inv X pins σ H s→CX X.stack H s E e s'→X.xe e s'
section
variable {X:Cx} {CX:CXT} {k:Nat} {f C:Addr} {fd:FuncData} {ps:List Str} {sp:Sp} {dvs:List V} {ds:List Value} {E:XK} {x m:Str} {p pos apos:Pos} {e o:Expr} {es:List Expr} {ta:TE} {t:TA}
theorem yu {pins:List (Addr × Obj)} {σ:St} {H:Hp} {s:Shared} {Q:VK} {us:List Value} {vs:List V} (F:bQ X.prog X.w X.K X.mg X.base CX k f fd ps sp) (hr:mQ k X.A) (hb:Binds X.K fd ps ds) (hd:Vals dvs ds) (hx:Passes CX X E)
    (I:Inv X pins σ H s) (r:Vals vs us) (h:sp (vs++dvs) H Q E):wpAny (model X.prog X.w) X.A (call (.ref f) us) (EP X pins σ Q) X.xe s:=by
  have r2:Vals (vs++dvs) (us++ds):=r.append hd
  have hl:(us++ds).length=ps.length:=by rw [← r2.length];exact F.len _ _ _ _ h
  refine wpAny_call (codeAny_mono (F.run X.A X.stack s H ⟨us,[]⟩ (us++ds) (vs++dvs) Q E hr I.env0 (hb s us I.kIn hl) r2 h) fun r s' hq=>?_)
  cases r with
  | error e=>exact hx pins σ H s e s' I hq
  | ok fl =>
    cases fl with
    | ret u=>exact I.after hq
    | next=>exact False.elim hq
    | brk=>exact False.elim hq
    | cont=>exact False.elim hq
theorem aO (F:bQ X.prog X.w X.K X.mg X.base CX k f fd ps sp) (hr:mQ k X.A) (hg:Gl X x) (hm:X.mg x=some (.ref f)) (hk:PySem.W.keepIn X.K (.ref f)=true) (hb:Binds X.K fd ps ds) (hd:Vals dvs ds) (hx:Passes CX X E)
    (ha:PA X (e :: es) t) (hdb:(x == ("__debug__":Str))=false:=by decide) (he:starEach (e :: es) X.env=(false,eval e X.env) :: starEach es X.env:=by rfl) (hpl:(backTo pos (starEach es X.env)).any (·.1)=false:=by rfl) :
    PE X (.Call (.Name x p) (e :: es) [] pos) (T7 sp dvs E t):=by
  intro pins s σ H Q I h
  refine wpAny_Call_Name_kw (lY I hg hm ?_ hdb)
  refine PySem.W.callWith_K (h₀:=X.base) I.ok.mod.kin hk (thn (ha pos pins s σ H _ I h) fun us s1 ⟨vs,H1,I1,r,q⟩=>⟨I1.kIn,?_⟩) he hpl
  exact yu F hr hb hd hx I1 r q
theorem gB {pl:Sem Bool} (he:PE X o ta) (c:Cls X.K C) (hm:Meth X.K C m f) (F:bQ X.prog X.w X.K X.mg X.base CX k f fd ps sp) (hr:mQ k X.A) (hb:Binds X.K fd ps ds) (hd:Vals dvs ds) (hx:Passes CX X E) (ha:PA X (e :: es) t)
    (hst:starEach (e :: es) X.env=(false,eval e X.env) :: starEach es X.env:=by rfl) (hpl:(backTo pos (starEach es X.env)).any (·.1)=false:=by rfl)
    (ht:eval (.Call (.Attribute o m apos) (e :: es) [] pos) X.env=(do
      let ov ← eval o X.env
      standAt apos.atName
      let (f,first) ← holding [ov] (getMethod ov m pl)
      callWith pos f first (backTo pos (starEach (e :: es) X.env)) (backToKw pos (keywordEach [] X.env))):=by rfl) :
    PE X (.Call (.Attribute o m apos) (e :: es) [] pos) (Mr C m sp dvs E ta t):=by
  intro pins s σ H Q I h
  refine PySem.W.methodCall_KW (pl:=pl) (thn (he pins s σ H _ I h) fun u s1 ⟨x,H1,I1,rx,a,dx,fs,ex,ea,l,q⟩=>?_) ht
  subst ex
  obtain rfl:u=Value.ref a:=rx
  refine qd I1 ea c hm l ?_
  refine PySem.W.callWith_K (first:=[.ref a]) (h₀:=X.base) I.ok.mod.kin hm.kp (thn (ha pos pins s1 σ H1 _ I1 q) fun us s2 ⟨vs,H2,I2,r,q2⟩=>⟨I2.kIn,?_⟩) hst hpl
  exact yu (us:=.ref a :: us) (vs:=.ref a :: vs) F hr hb hd hx I2 (.cons rfl r) q2
theorem jF {pl:Sem Bool} (he:PE X o ta) (c:Cls X.K C) (hm:Meth X.K C m f) (F:bQ X.prog X.w X.K X.mg X.base CX k f fd ps sp) (hr:mQ k X.A) (hb:Binds X.K fd ps ds) (hd:Vals dvs ds) (hx:Passes CX X E)
    (ht:eval (.Call (.Attribute o m apos) [] [] pos) X.env=(do
      let ov ← eval o X.env
      standAt apos.atName
      let (f,first) ← holding [ov] (getMethod ov m pl)
      callWith pos f first (backTo pos (starEach [] X.env)) (backToKw pos (keywordEach [] X.env))):=by rfl) :
    PE X (.Call (.Attribute o m apos) [] [] pos) (Mr C m sp dvs E ta V5):=by
  intro pins s σ H Q I h
  refine PySem.W.methodCall_KW (pl:=pl) (thn (he pins s σ H _ I h) fun u s1 ⟨x,H1,I1,rx,a,dx,fs,ex,ea,l,q⟩=>?_) ht
  subst ex
  obtain rfl:u=Value.ref a:=rx
  refine qd I1 ea c hm l ?_
  exact PySem.W.callWith_K0 (first:=[.ref a]) I1.kIn hm.kp (yu (us:=[.ref a]) (vs:=[.ref a]) F hr hb hd hx I1 (.cons rfl .nil) q)
structure Mk (K:PySem.W.Frag) (C f:Addr):Prop where
  makes:PySem.W.makesIn K C=true
  init:PySem.W.findIn K (.ref C) "__init__"=some (some (.ref f))
  fn:PySem.W.isFn K (.ref f)=true
  kp:PySem.W.keepIn K (.ref C)=true
theorem Ad {pins:List (Addr × Obj)} {σ:St} {H:Hp} {s:Shared} {Q:VK} {us:List Value} {vs:List V} (M:Mk X.K C f) (F:bQ X.prog X.w X.K X.mg X.base CX k f fd ps sp) (hr:mQ (k + 1) X.A) (hb:Binds X.K fd ps ds) (hd:Vals dvs ds)
    (hx:Passes CX X E) (I:Inv X pins σ H s) (r:Vals vs us)
    (h:∀ x dx,H x=none→H dx=none→dx≠x→sp (.ref x :: (vs++dvs)) (upd (upd H dx (.own x)) x (.ins C dx [])) (fun v H2=>v=.non∧Q (.ref x) H2) E) :
    wpAny (model X.prog X.w) X.A (call (.ref C) us) (EP X pins σ Q) X.xe s:=by
  have hq:=h (s.heap.objs.size + 1) s.heap.objs.size (I.hok.fresh (Nat.le_succ _)) (I.hok.fresh (Nat.le_refl _)) (Nat.ne_of_lt (Nat.lt_succ_self _))
  have I2:=Inv.made (C:=C) I
  have r2:Vals (V.ref (s.heap.objs.size + 1) :: (vs++dvs)) (Value.ref (s.heap.objs.size + 1) :: (us++ds)):=.cons rfl (r.append hd)
  have hl:(Value.ref (s.heap.objs.size + 1) :: us++ds).length=ps.length:=by
    have e:=r2.length
    rw [F.len _ _ _ _ hq] at e
    exact e.symm
  refine wpAny_call (vQ (f:=f) I.kIn M.makes M.init (beq_iff_eq.mp M.fn) (codeAny_mono (F.run _ X.stack _ _ ⟨Value.ref (s.heap.objs.size + 1) :: us,[]⟩ (Value.ref (s.heap.objs.size + 1) :: (us++ds)) _ _ E (hr.make C us [])
    (I2.env0.make C us []) (hb _ (Value.ref (s.heap.objs.size + 1) :: us) I2.kIn hl) r2 hq) fun r s' hq'=>?_))
  cases r with
  | error e=>exact hx pins σ _ _ e s' I2 hq'
  | ok fl =>
    cases fl with
    | ret u =>
      obtain ⟨v,H',I3,rv,ev,q3⟩:=I2.after hq'
      subst ev
      exact ⟨rv,⟨V.ref (s.heap.objs.size + 1),H',I3,rfl,q3⟩⟩
    | next=>exact False.elim hq'
    | brk=>exact False.elim hq'
    | cont=>exact False.elim hq'
theorem KY (M:Mk X.K C f) (F:bQ X.prog X.w X.K X.mg X.base CX k f fd ps sp) (hr:mQ (k + 1) X.A) (hg:Gl X x) (hm:X.mg x=some (.ref C)) (hb:Binds X.K fd ps ds) (hd:Vals dvs ds) (hx:Passes CX X E)
    (ha:PA X (e :: es) t) (hdb:(x == ("__debug__":Str))=false:=by decide) (he:starEach (e :: es) X.env=(false,eval e X.env) :: starEach es X.env:=by rfl) (hpl:(backTo pos (starEach es X.env)).any (·.1)=false:=by rfl) :
    PE X (.Call (.Name x p) (e :: es) [] pos) (T5 C sp dvs E t):=by
  intro pins s σ H Q I h
  refine wpAny_Call_Name_kw (lY I hg hm ?_ hdb)
  refine PySem.W.callWith_K (h₀:=X.base) I.ok.mod.kin M.kp (thn (ha pos pins s σ H _ I h) fun us s1 ⟨vs,H1,I1,r,q⟩=>⟨I1.kIn,?_⟩) he hpl
  exact Ad M F hr hb hd hx I1 r q
end
structure aW (N P:List Str) (sc:Scope):Prop where
  kind:sc.kind=.function
  co:sc.isCoroutine=false
  gen:sc.isGenerator=false
  nd:N.Nodup
  pre:N.take P.length=P
  par:∀ x∈P,sc.names.lookup x=some .local∨sc.names.lookup x=some .cell
  nofree:∀ y∈sc.names,y.2≠.free
theorem tV {kindOf:Str→Option NameKind} {x:Str}:∀ {binds:List (Str × Value)} {m:Str→Option Value},(∀ v,(x,v) ∉ binds)→bindL kindOf binds m x=m x
  | [],_,_=>rfl
  | (n,v) :: r,m,h=>by
    unfold bindL
    rw [tV fun w hw=>h w (List.mem_cons_of_mem _ hw)]
    split
    · have:x≠n:=by rintro rfl;exact h v List.mem_cons_self
      simp [this]
    · rfl
theorem tZ {kindOf:Str→Option NameKind} {x:Str}:∀ {binds:List (Str × Value)} {m:Str→Option Value},(∀ v,(x,v) ∉ binds)→bindC kindOf binds m x=m x
  | [],_,_=>rfl
  | (n,v) :: r,m,h=>by
    unfold bindC
    rw [tZ fun w hw=>h w (List.mem_cons_of_mem _ hw)]
    split
    · rfl
    · have:x≠n:=by rintro rfl;exact h v List.mem_cons_self
      simp [this]
theorem tX {kindOf:Str→Option NameKind} {x:Str} {v:Value}:∀ {P:List Str} {vs:List Value} {i:Nat} {m:Str→Option Value},P.Nodup→P[i]?=some x→vs[i]?=some v→kindOf x=some .local →
    bindL kindOf (P.zip vs) m x=some v
  | [],_,_,_,_,h,_,_=>by simp at h
  | _ :: _,[],_,_,_,_,h,_=>by simp at h
  | p :: P,w :: vs,0,m,nd,h1,h2,hk=>by
    simp at h1 h2;subst h1;subst h2
    show bindL kindOf ((p,w) :: P.zip vs) m p=_
    unfold bindL
    rw [tV fun v hv=>(List.nodup_cons.mp nd).1 (List.of_mem_zip hv).1,if_pos hk]
    simp
  | p :: P,w :: vs,i + 1,m,nd,h1,h2,hk=>by
    show bindL kindOf ((p,w) :: P.zip vs) m x=_
    unfold bindL
    exact tX (i:=i) (List.nodup_cons.mp nd).2 (by simpa using h1) (by simpa using h2) hk
theorem uc {kindOf:Str→Option NameKind} {x:Str} {v:Value}:∀ {P:List Str} {vs:List Value} {i:Nat} {m:Str→Option Value},P.Nodup→P[i]?=some x→vs[i]?=some v→kindOf x≠some .local →
    bindC kindOf (P.zip vs) m x=some v
  | [],_,_,_,_,h,_,_=>by simp at h
  | _ :: _,[],_,_,_,_,h,_=>by simp at h
  | p :: P,w :: vs,0,m,nd,h1,h2,hk=>by
    simp at h1 h2;subst h1;subst h2
    show bindC kindOf ((p,w) :: P.zip vs) m p=_
    unfold bindC
    rw [tZ fun v hv=>(List.nodup_cons.mp nd).1 (List.of_mem_zip hv).1,if_neg hk]
    simp
  | p :: P,w :: vs,i + 1,m,nd,h1,h2,hk=>by
    show bindC kindOf ((p,w) :: P.zip vs) m x=_
    unfold bindC
    exact uc (i:=i) (List.nodup_cons.mp nd).2 (by simpa using h1) (by simpa using h2) hk
def start (N:List Str) (vs:List V):St:=vs.map some++List.replicate (N.length - vs.length) none
def zZ (CX:CXT) (P:Program) (w:World) (K:PySem.W.Frag) (mg:Str→Option Value) (base:Heap) (N:List Str) (qual:Str) (scope:Scope) (f:Addr) (cd:Value) (A:Around) (outer:List Env) (s:Shared) (H:Hp) (E:XK):Cx where
  prog:=P
  w:=w
  K:=K
  mg:=mg
  base:=base
  A:=A.deeper (envOfC qual scope s.heap.objs.size f cd)
  N:=N
  s₀:=s
  H₀:=H
  env:=envOfC qual scope s.heap.objs.size f cd
  outer:=outer
  stack:=envOfC qual scope s.heap.objs.size f cd :: outer
  ex:=[]
  calm:=true
  fn:=fun _=>true
  pn:=[]
  xe:=fun e s'=>wpAny (model P w) (A.deeper (envOfC qual scope s.heap.objs.size f cd)) (leaving (envOfC qual scope s.heap.objs.size f cd) e) (fun _ s''=>CX outer H s E e s'') (fun e' s''=>CX outer H s E e' s'') s'
theorem wj {sc:Scope} {n:Nat} {x:Str} (h:sc.names.lookup x=some .cell):∃ c,(cellsFrom n sc.names []).lookup x=some c:=by
  have q:=PySem.W.cellsFrom_some sc.names n [] (.inl h)
  exact Option.isSome_iff_exists.mp q
theorem zj {CX:CXT} {P:Program} {w:World} {K:PySem.W.Frag} {mg:Str→Option Value} {base:Heap} {N ps:List Str} {qual:Str} {scope:Scope} {f:Addr} {cd:Value} {A:Around} {outer:List Env} {s s1:Shared} {H:Hp} {E:XK} {us:List Value} {vs:List V}
    (S:aW N ps scope) (hd:A.handled=none) (e0:LQ P w K mg base A outer s H) (hl:vs.length=ps.length) (r:Vals vs us)
    (x:InCallC s s.heap.objs.size (bindL (envOfC qual scope s.heap.objs.size f cd).kindOf (ps.zip us) fun _=>none) (cellsFrom (s.heap.objs.size + 1) scope.names []) (bindC (envOfC qual scope s.heap.objs.size f cd).kindOf (ps.zip us) fun _=>none) s1) :
    Inv (zZ CX P w K mg base N qual scope f cd A outer s H E) [] (start N vs) H s1:=by
  have hpl:ps.length≤N.length:=by have:=congrArg List.length S.pre;rw [List.length_take] at this;omega
  obtain ⟨h1,tk,rfl,hk⟩:=x.done
  have noA:∀ b:Addr,b ∉ (zZ CX P w K mg base N qual scope f cd A outer s H E).ex:=fun b z=>absurd (show b∈([]:List Addr) from z) (by simp)
  refine ⟨⟨e0.mod,S.kind,rfl,rfl,Nat.le_refl _,fun y z c h1 h2=>?_,fun y hy=>?_,fun y c _ h=>?_,fun _=>hd,Around.frames_deeper e0.frames,.inr ⟨rfl,rfl⟩,fun b z=>absurd z (noA b),e0.bs,e0.bsz,fun b _ _=>noA b,fun b z=>absurd z (noA b),e0.vW,e0.frf⟩,
    rfl,e0.bare,Un.kept hk,⟨_,x.toInCall.ns,fun i y v h1 h2 h3=>?_⟩,fun y c h=>⟨_,x.cell y c h⟩,e0.hok.fresh (Nat.le_refl _),fun y c h=>?_,fun p hp=>absurd (show p∈([]:List (Addr × Obj)) from hp) (by simp),e0.hok.kept hk,?_⟩
  · exact name_of_addr x.apart (PySem.mem_of_lookup h1) (PySem.mem_of_lookup h2)
  · have hy:scope.names.lookup y=some .cell∨scope.names.lookup y=some .free:=hy
    rcases hy with hy | hy
    · exact wj hy
    · exact absurd rfl (S.nofree _ (PySem.mem_of_lookup hy))
  · exact Nat.le_of_lt (x.above y c (PySem.mem_of_lookup h))
  · have hi:i<vs.length:=by
      unfold start at h2
      by_cases hi:i<vs.length
      · exact hi
      · rw [List.getElem?_append_right (by simpa using hi)] at h2
        rw [List.getElem?_replicate] at h2
        split at h2 <;> cases h2
    have ha:vs[i]?=some v:=by
      unfold start at h2
      rw [List.getElem?_append_left (by simpa using hi),List.getElem?_map] at h2
      cases e:vs[i]? with
      | none=>rw [e] at h2;cases h2
      | some a=>rw [e] at h2;cases h2;rfl
    obtain ⟨u,hu,rv⟩:=r.get ha
    have hp:ps[i]?=some y:=by
      rw [← S.pre,List.getElem?_take_of_lt (by omega)];exact h1
    have ndP:ps.Nodup:=by rw [← S.pre];exact S.nd.sublist (List.take_sublist _ _)
    refine ⟨u,rv,?_⟩
    rcases S.par y (List.mem_of_getElem? hp) with k | k
    · exact .inl ⟨k,tX ndP hp hu k⟩
    · obtain ⟨c,e⟩:=wj (n:=s.heap.objs.size + 1) k
      refine .inr ⟨.inl k,c,e,?_⟩
      have q:=x.cell y c e
      rw [uc ndP hp hu (by show scope.names.lookup y≠_;rw [k];decide)] at q
      exact q
  · exact e0.hok.fresh (Nat.le_of_lt (x.above y c (PySem.mem_of_lookup h)))
  · unfold start
    show _=N.length
    rw [List.length_append,List.length_map,List.length_replicate]
    omega
theorem Ln {CX:CXT} {P:Program} {w:World} {K:PySem.W.Frag} {mg:Str→Option Value} {base:Heap} {k:Nat} {f:Addr} {name qual:Str} {params:Arguments} {body:List Stmt} {scope:Scope} {dV kV doc pm cdv ct oc:Value} {an od:Option Addr}
    {osl:Array (Option Value)} {N ps:List Str} {sp:Sp} (lk:K.lookup f=some ⟨oc,od,.func (PySem.W.fnOf name qual params body scope dV kV doc pm an cdv ct),osl⟩) (hcd:PySem.W.codeIn K cdv qual=true) (S:aW N ps scope)
    (len:∀ vs H Q E,sp vs H Q E→vs.length=ps.length)
    (hbody:∀ (A:Around) (outer:List Env) (s:Shared) (H:Hp) (vs:List V) (Q:VK) (E:XK),mQ k (A.deeper (envOfC qual scope s.heap.objs.size f cdv))→sp vs H Q E →
      ∃ t,PSs (zZ CX P w K mg base N qual scope f cdv A outer s H E) body t∧t { nx:=fun _ H'=>Q .non H',rt:=Q } (start N vs) H) :
    bQ P w K mg base CX (k + 1) f (PySem.W.fnOf name qual params body scope dV kV doc pm an cdv ct) ps sp:=by
  refine ⟨len,fun A outer s H args us vs Q E hr e0 hb r hsp=>?_⟩
  have hl:=len _ _ _ _ hsp
  have KX:K.In s.heap:=e0.mod.kin.keeps fun b o e=>(e0.bs b o e).1
  have lim:s.heap.NoLimit:=e0.mod.nolimit.keeps fun b o e=>(e0.bs b o e).1
  have hkind:∀ y∈ps.zip us,scope.names.lookup y.1=some .local∨(scope.names.lookup y.1=some .cell∧((cellsFrom (s.heap.objs.size + 1) scope.names []).lookup y.1).isSome=true):=fun ⟨n,v⟩ hy=>by
    rcases S.par n (List.of_mem_zip hy).1 with q | q
    · exact .inl q
    · exact .inr ⟨q,PySem.W.cellsFrom_some _ _ _ (.inl q)⟩
  refine codeAny_call_function hr.depth (KX _ _ lk) rfl S.co S.gen rfl (PySem.W.codeRec_of KX hcd) (hb _ _ _ _ ?_)
  refine wpAny_newFunctionEnv_cells S.kind hkind fun env he s1 x=>?_
  subst he
  refine ⟨lim.keeps x.toInCall.keep,codeAny_func ?_⟩
  obtain ⟨t,ht,hq⟩:=hbody A outer s H vs Q E (hr.deeper _) hsp
  have I:Inv (zZ CX P w K mg base N qual scope f cdv A outer s H E) [] (start N vs) H s1:=zj S hr.hd e0 hl r x
  refine wpAny_mono (ht [] s1 (start N vs) H _ I hq) (fun fl s' hs=>?_) fun e s' hs=>hs
  have fin:∀ {σ':St} {H':Hp} {v:V} {u:Value},Inv (zZ CX P w K mg base N qual scope f cdv A outer s H E) [] σ' H' s'→RelV v u→Q v H'→CE outer P w H s Q u s' :=
    fun {σ' H' v u} J rv q=>⟨v,H',J.os,J.bare,J.base,J.hok,rv,q⟩
  cases fl with
  | ret u =>
    obtain ⟨v,σ',H',J,rv,q⟩:=hs
    exact fin J rv q
  | next =>
    obtain ⟨σ',H',J,q⟩:=hs
    exact fin (v:=V.non) (u:=Value.none) J rfl q
  | brk =>
    obtain ⟨_,_,_,q⟩:=hs
    exact False.elim q
  | cont =>
    obtain ⟨_,_,_,q⟩:=hs
    exact False.elim q
end L2
namespace L2
open PySem PySem.Spec PyProof.Rows
section
variable {X:Cx} {x:Str} {p pos:Pos} {e:Expr} {es:List Expr} {t:TA} {id T:String} {r:List V→Hp→VK→Prop}
def tCB (r:List V→Hp→VK→Prop) (t:TA):TE:=fun σ H Q=>t σ H fun vs H1=>r vs H1 Q
theorem aP (hc:nP X (.builtin id) r) (hg:Gl X x) (hm:X.mg x=none) (hv:bootBuiltins x=some (.builtin id)) (ha:PA X (e :: es) t) (hn:x≠"__name__":=by decide) (hdb:(x == ("__debug__":Str))=false:=by decide)
    (he:starEach (e :: es) X.env=(false,eval e X.env) :: starEach es X.env:=by rfl) (hpl:(backTo pos (starEach es X.env)).any (·.1)=false:=by rfl):PE X (.Call (.Name x p) (e :: es) [] pos) (tCB r t):=by
  intro pins s σ H Q I h
  refine wpAny_Call_Name_kw (oU I hg hm hv ?_ hn hdb)
  exact PyProof.Rows.callWith_builtin1 (thn (ha pos pins s σ H _ I h) fun us s1 ⟨vs,H1,I1,r1,q1⟩=>hc pins s1 σ H1 vs us Q I1 r1 q1) he hpl
theorem cJ (hc:nP X (.type T) r) (hg:Gl X x) (hm:X.mg x=none) (hv:bootBuiltins x=some (.type T)) (ha:PA X (e :: es) t) (hn:x≠"__name__":=by decide) (hdb:(x == ("__debug__":Str))=false:=by decide)
    (he:starEach (e :: es) X.env=(false,eval e X.env) :: starEach es X.env:=by rfl) (hpl:(backTo pos (starEach es X.env)).any (·.1)=false:=by rfl):PE X (.Call (.Name x p) (e :: es) [] pos) (tCB r t):=by
  intro pins s σ H Q I h
  refine wpAny_Call_Name_kw (oU I hg hm hv ?_ hn hdb)
  exact PyProof.Rows.callWith_type1 (thn (ha pos pins s σ H _ I h) fun us s1 ⟨vs,H1,I1,r1,q1⟩=>hc pins s1 σ H1 vs us Q I1 r1 q1) he hpl
end
end L2
namespace HT
open PySem PyProof.Rows
section
open PySem.SeqAt
open PySem.AutoSeq1 (wpAny_loadPart')
open PySem.MeetsSeq PySem.MeetsSeq2 PySem.MeetsSeq3
end
section
variable {prog:Program} {w:World} {A:Around} {E:Value→Shared→Prop} {s:Shared}
theorem Lw {t b:Addr} {vs ws:List Value} {Q:Value→Shared→Prop} (ht:IsTup s.heap t vs.toArray) (hb:IsTup s.heap b ws.toArray) (hv:vs≠[])
    (h1:ws=[]→Q (.ref t) s) (h2:ws≠[]→Q (.ref s.heap.objs.size) { s with heap:=s.heap.push { cls:=.type "tuple",data:=.seq (vs++ws).toArray } })
    (hsz:vs.length + ws.length≤sizeLine):wpAny (model prog w) A (binaryOp .Add (.ref t) (.ref b)) Q E s:=by
  obtain ⟨⟨cls,dd,data,sl⟩,ho,hc,n,hd⟩:=id ht
  obtain ⟨⟨cls2,dd2,data2,sl2⟩,ho2,hc2,n2,hd2⟩:=id hb
  simp only at hc hd hc2 hd2
  subst hc hd hc2 hd2
  have e:vs.toArray++ws.toArray=(vs++ws).toArray:=by simp
  by_cases hw:ws=[]
  · exact concat_meets ⟨_,ho,rfl⟩ ⟨_,ho2,rfl⟩ noFill_tuple_add seq_tuple_add PySem.F.slot_tuple_add PySem.F.entry_tuple_add (PySem.F.args_tuple_add_2 _ _)
      (tuple_addW1 t b vs.toArray ws.toArray n n2 dd dd2 sl sl2 (by simpa using hv) (by simp [hw])) ⟨ho,ho2,h1 hw⟩
  · refine concat_meets ⟨_,ho,rfl⟩ ⟨_,ho2,rfl⟩ noFill_tuple_add seq_tuple_add PySem.F.slot_tuple_add PySem.F.entry_tuple_add (PySem.F.args_tuple_add_2 _ _)
      (tuple_addW2 t b vs.toArray ws.toArray n n2 dd dd2 sl sl2 (by simpa using hv) (by simpa using hw) (by rw [List.size_toArray,List.size_toArray];exact hsz)) ⟨ho,ho2,?_⟩
    rw [e]
    exact h2 hw
def sIx (n d:Nat):Option Int→Nat
  | none=>d
  | some v=>if v<0 then (v + (n:Int)).toNat else min v.toNat n
theorem vL (n d:Nat):sIx n d none=d:=rfl
theorem oH (n d k:Nat):sIx n d (some (k:Int))=min k n:=by
  show (if (k:Int)<0 then ((k:Int) + (n:Int)).toNat else min (k:Int).toNat n)=min k n
  rw [if_neg (by omega),Int.toNat_natCast]
theorem Mw (n d:Nat) (hd:d≤n) (o:Option Int):sIx n d o≤n:=by
  cases o with
  | none=>exact hd
  | some v =>
    show (if v<0 then (v + (n:Int)).toNat else min v.toNat n)≤n
    by_cases hv:v<0
    · rw [if_pos hv];omega
    · rw [if_neg hv];exact Nat.min_le_right _ _
theorem zM (v:Int) (n d:Nat):(if v<0 then max (v + (n:Int)) 0 else min v (n:Int))=((sIx n d (some v):Nat):Int):=by
  show (if v<0 then max (v + (n:Int)) 0 else min v (n:Int))=(((if v<0 then (v + (n:Int)).toNat else min v.toNat n):Nat):Int)
  by_cases hv:v<0
  · simp only [if_pos hv];omega
  · simp only [if_neg hv];omega
theorem wZ (lo hi:Option Int) (n:Nat):Builtin.Slice.sliceAdjust lo hi 1 (n:Int)=(((sIx n 0 lo:Nat):Int),((sIx n n hi:Nat):Int)):=by
  have h1:¬ ((1:Int)<0):=by omega
  unfold Builtin.Slice.sliceAdjust
  simp only [h1,if_false]
  refine Prod.ext ?_ ?_
  · cases lo with
    | none=>rfl
    | some v=>exact zM v n 0
  · cases hi with
    | none=>rfl
    | some v=>exact zM v n n
theorem wM (i j:Nat):Builtin.Slice.slicePlaces (i:Int) (j:Int) 1=j - i:=by
  unfold Builtin.Slice.slicePlaces
  have h1:(1:Int) > 0:=by omega
  simp only [h1,if_true,Int.ediv_one]
  split <;> omega
theorem pU {v:Value} {o:Option Int} {Q:Option Int→Shared→Prop} (p:IsPart v o) (h:Q o s):wpAny (model prog w) A (Builtin.Slice.slicePartIndex v) Q E s:=by
  cases p with
  | none=>exact slicePart_none h
  | int i t=>exact slicePart_int h
theorem nC {sl:Addr} {vl vu:Value} {lo hi:Option Int} {n:Nat} {Q:Int × Int × Nat→Shared→Prop} (hs:s.heap.IsSliceOf sl vl vu .none) (pl:IsPart vl lo) (pu:IsPart vu hi)
    (h:Q (((sIx n 0 lo:Nat):Int),1,sIx n n hi - sIx n 0 lo) s):wpAny (model prog w) A (Builtin.Slice.sliceApplied (.ref sl) (pure (n:Int))) Q E s:=by
  obtain ⟨os,hos,hcs,hds⟩:=id hs
  unfold Builtin.Slice.sliceApplied Builtin.Slice.sliceFields
  refine wpAny_bind (wpAny_bind (wpAny_field hos hds (x:=vl) rfl (wpAny_bind (wpAny_field hos hds (x:=vu) rfl (wpAny_bind (wpAny_field hos hds (x:=.none) rfl (wpAny_pure ?_)))))))
  refine wpAny_bind (slicePart_none ?_)
  show wpAny _ _ (if ((1:Int) == 0)=true then _ else _) _ _ s
  rw [if_neg (by decide)]
  refine wpAny_bind (pU pl (wpAny_bind (pU pu (wpAny_bind (wpAny_pure ?_)))))
  show wpAny _ _ (match Builtin.Slice.sliceAdjust lo hi 1 (n:Int) with | (lo,hi)=>pure (lo,(1:Int),Builtin.Slice.slicePlaces lo hi 1)) _ _ s
  rw [wZ lo hi n]
  show wpAny _ _ (pure (((sIx n 0 lo:Nat):Int),(1:Int),Builtin.Slice.slicePlaces ((sIx n 0 lo:Nat):Int) ((sIx n n hi:Nat):Int) 1)) _ _ s
  rw [wM]
  exact wpAny_pure h
theorem Ae (xs:Array Value) (i k:Nat):((List.range k).filterMap fun (m:Nat)=>xs[((i:Int) + (m:Int) * 1).toNat]?).toArray=((xs.toList.drop i).take k).toArray:=by
  have e:(fun (m:Nat)=>xs[((i:Int) + (m:Int) * 1).toNat]?)=fun m=>xs[i + m]?:=by
    funext m
    have:((i:Int) + (m:Int) * 1).toNat=i + m:=by omega
    rw [this]
  rw [e]
  have:=pick_run xs i k
  rw [List.filterMap_map] at this
  have e2:((fun x=>xs[x]?) ∘ fun x=>i + x)=fun m=>xs[i + m]?:=rfl
  rw [e2] at this
  rw [this]
theorem mX {t sl:Addr} {items:Array Value} {vl vu:Value} {lo hi:Option Int} {Q:Value→Shared→Prop} (ht:IsTup s.heap t items) (hs:s.heap.IsSliceOf sl vl vu .none) (pl:IsPart vl lo) (pu:IsPart vu hi)
    (hw:¬ (sIx items.size 0 lo=0∧sIx items.size items.size hi=items.size))
    (h:Q (.ref s.heap.objs.size) { s with heap:=s.heap.push { cls:=.type "tuple",data:=.seq ((items.toList.drop (sIx items.size 0 lo)).take (sIx items.size items.size hi - sIx items.size 0 lo)).toArray } })
    (hsz:items.size≤sizeLine):wpAny (model prog w) A (getItem (.ref t) (.ref sl)) Q E s:=by
  have htake:sizeOk (.seq ((items.toList.drop (sIx items.size 0 lo)).take (sIx items.size items.size hi - sIx items.size 0 lo)).toArray):=by
    show ((items.toList.drop (sIx items.size 0 lo)).take (sIx items.size items.size hi - sIx items.size 0 lo)).toArray.size≤sizeLine
    rw [List.size_toArray,List.length_take,List.length_drop,Array.length_toList]
    omega
  have hj:sIx items.size items.size hi≤items.size:=Mw _ _ (Nat.le_refl _) hi
  obtain ⟨os,hos,hcs,hds⟩:=id hs
  have hTs:s.TypeIs (.ref sl) "slice":=⟨os,hos,hcs⟩
  unfold getItem
  try with_reducible refine wpAny_holding ?_
  first | refine wpAny_bind (wpAny_pure ?_) | skip
  refine wpAny_bind (wpAny_sequenceKey ht.typeIs (by decide) ?_)
  refine wpAny_bind (wpAny_callSpecial?_slot (name:=Str.ofString "__getitem__") ht.typeIs PyProof.Rows.slot_tuple_getitem
    (wpAny_call_entry PyProof.Rows.slot_tuple_getitem ht.typeIs entry_tuple_getitem ?_ (args_tuple_getitem _ _)))
  show wpAny _ _ (Builtin.Tuple.tupleItemsOf (.ref t) >>= _) _ _ s
  refine wpAny_bind (tupleItemsOf_ ht ?_)
  refine wpAny_bind (wpAny_typeOf hTs ?_)
  rw [if_pos (by decide)]
  refine wpAny_bind (nC hs pl pu ?_)
  have hno:¬ ((((sIx items.size 0 lo:Nat):Int) == 0 && (1:Int) == 1 && (sIx items.size items.size hi - sIx items.size 0 lo) == items.size)=true):=by
    intro q
    rw [Bool.and_eq_true,Bool.and_eq_true] at q
    have q1:((sIx items.size 0 lo:Nat):Int)=0:=eq_of_beq q.1.1
    have q2:sIx items.size items.size hi - sIx items.size 0 lo=items.size:=eq_of_beq q.2
    exact hw ⟨by omega,by omega⟩
  show wpAny _ _ (if (((sIx items.size 0 lo:Nat):Int) == 0 && (1:Int) == 1 && (sIx items.size items.size hi - sIx items.size 0 lo) == items.size)=true then _ else _) _ _ s
  rw [if_neg hno,Ae]
  first
    | exact wpAny_bind (m:=Builtin.Tuple.tupleExact _) (wpAny_newObj_type (wpAny_pure ⟨_,rfl,wpAny_pure h⟩) htake)
    | exact wpAny_bind (m:=Builtin.Tuple.tupleExact _) (wpAny_newObj_type (wpAny_bind (wpAny_pure (wpAny_pure ⟨_,rfl,wpAny_pure h⟩))) htake)
    | exact wpAny_bind (wpAny_bind (m:=Builtin.Tuple.tupleExact _) (wpAny_newObj_type (wpAny_pure (wpAny_pure ⟨_,rfl,wpAny_pure h⟩)) htake))
    | exact wpAny_bind (wpAny_bind (m:=Builtin.Tuple.tupleExact _) (wpAny_newObj_type (wpAny_pure ⟨_,rfl,wpAny_pure h⟩) htake))
end
end HT
namespace L2
open PySem PySem.Spec PyProof.Rows
abbrev TO:=St→Hp→(Option Int→Hp→Prop)→Prop
def PO (X:Cx) (e:Option Expr) (t:TO):Prop :=
  ∀ (pins:List (Addr × Obj)) (s:Shared) (σ:St) (H:Hp) (Q:Option Int→Hp→Prop),Inv X pins σ H s→t σ H Q →
    wpAny (model X.prog X.w) X.A (evalPart e X.env) (fun u s'=>∃ o H',Inv X pins σ H' s'∧IsPart u o∧Q o H') X.xe s
def Kw:TO:=fun _ H Q=>Q none H
def TY (t:TE):TO:=fun σ H Q=>t σ H fun x H1=>∃ i,x=.int i∧Q (some i) H1
section
variable {X:Cx} {e:Expr} {te:TE} {lo hi:Option Expr} {tl th:TO} {pos p2:Pos}
theorem lV:PO X none Kw:=by
  intro pins s σ H Q I h
  rw [evalPart_none]
  exact wpAny_pure ⟨none,H,I,.none,h⟩
theorem j5 (h:PE X e te):PO X (some e) (TY te):=by
  intro pins s σ H Q I hw
  rw [evalPart_some]
  refine thn (h pins s σ H _ I hw) fun u s1 ⟨x,H1,I1,r1,q1⟩=>?_
  obtain ⟨i,rfl,q⟩:=q1
  obtain ⟨t,rfl⟩:=r1
  exact ⟨some i,H1,I1,.int i t,q⟩
def SlR (X:Cx) (r:V→Option Int→Option Int→Hp→VK→Prop):Prop :=
  ∀ (pins:List (Addr × Obj)) (s:Shared) (σ:St) (H:Hp) (x:V) (v vl vu:Value) (lo hi:Option Int) (sl:Addr) (Q:VK),Inv X pins σ H s→RelV x v→s.heap.IsSliceOf sl vl vu .none→IsPart vl lo→IsPart vu hi→r x lo hi H Q →
    ∃ T id,typeLookup (.type T) "__getitem__"=pure (some (.builtin id))∧s.TypeIs v T∧wpAny (model X.prog X.w) X.A (getItem v (.ref sl)) (EP X pins σ Q) X.xe s
def tSl (r:V→Option Int→Option Int→Hp→VK→Prop) (te:TE) (tl th:TO):TE:=fun σ H Q=>te σ H fun x H1=>tl σ H1 fun l H2=>th σ H2 fun u H3=>r x l u H3 Q
theorem jE {r:V→Option Int→Option Int→Hp→VK→Prop} (hr:SlR X r) (he:PE X e te) (hl:PO X lo tl) (hu:PO X hi th):PE X (.Subscript e (.Slice lo hi none p2) pos) (tSl r te tl th):=by
  intro pins s σ H Q I h
  refine Subscript_ (thn (he pins s σ H _ I h) fun v s1 ⟨x,H1,I1,r1,q1⟩=>?_)
  refine wpAny_Slice (thn (hl pins s1 σ H1 _ I1 q1) fun vl s2 ⟨l,H2,I2,pl,q2⟩=>thn (hu pins s2 σ H2 _ I2 q2) fun vu s3 ⟨u,H3,I3,pu,q3⟩=>?_)
  rw [evalPart_none]
  refine wpAny_pure ?_
  have I4:Inv X pins σ H3 { s3 with heap:=s3.heap.push { cls:=.type "slice",data:=.fields #[vl,vu,.none] } }:=I3.kept (t':=s3.toks) fun b ob q=>Heap.get?_push_of_some _ q
  obtain ⟨T,id,hT,ht,hg⟩:=hr pins { s3 with heap:=s3.heap.push { cls:=.type "slice",data:=.fields #[vl,vu,.none] } } σ H3 x v vl vu l u s3.heap.objs.size Q I4 r1 (Heap.IsSliceOf.new ..) pl pu q3
  show wpAny (model X.prog X.w) X.A (subscriptTail e (.Slice lo hi none p2) v (.ref s3.heap.objs.size)) (EP X pins σ Q) X.xe { s3 with heap:=s3.heap.push { cls:=.type "slice",data:=.fields #[vl,vu,.none] } }
  exact tail_any (ops:=[.ref s3.heap.objs.size,v]) ht hT hg (by with_unfolding_all rfl)
def pH (xs:List V) (lo hi:Option Int):List V:=(xs.drop (HT.sIx xs.length 0 lo)).take (HT.sIx xs.length xs.length hi - HT.sIx xs.length 0 lo)
theorem pB (xs:List V) (lo hi:Option Int):(pH xs lo hi).length≤xs.length:=by
  unfold pH
  rw [List.length_take,List.length_drop]
  omega
def rSlT (K:PySem.W.Frag):V→Option Int→Option Int→Hp→VK→Prop:=fun x lo hi H Q=>∃ a xs,x=.ref a∧SqT K H a xs ∧
  ¬ (HT.sIx xs.length 0 lo=0∧HT.sIx xs.length xs.length hi=xs.length)∧∀ p,H p=none→Q (.ref p) (upd H p (.tup (pH xs lo hi)))
theorem Mu:SlR X (rSlT X.K):=by
  intro pins s σ H x v vl vu lo hi sl Q I rx hs pl pu h
  obtain ⟨a,xs,rfl,hx,hw,q⟩:=h
  cases rx
  obtain ⟨its,r,ht,hz⟩:=I.tuple hx
  have hlen:its.toArray.size=xs.length:=by rw [List.size_toArray];exact r.length.symm
  refine ⟨"tuple",_,PyProof.Rows.slot_tuple_getitem.lookup,ht.typeIs,?_⟩
  refine HT.mX ht hs pl pu (by rw [hlen];exact hw) ?_ (by rw [hlen];exact hz)
  rw [hlen]
  refine ⟨.ref s.heap.objs.size,_,I.laid (t':=s.toks) (o:=.tup (pH xs lo hi)) (fun b ob q=>Heap.get?_push_of_some _ q) (Nat.le_refl _) ?_,rfl,q _ (I.hok.fresh (Nat.le_refl _))⟩
  exact ⟨Nat.le_trans (pB xs lo hi) hz,_,(r.drop (HT.sIx xs.length 0 lo)).take (HT.sIx xs.length xs.length hi - HT.sIx xs.length 0 lo),IsTup.new _ _⟩
def Uc (K:PySem.W.Frag):R2:=fun x y H Q=>∃ a b xs ys,x=.ref a∧y=.ref b∧SqT K H a xs∧SqT K H b ys∧xs≠[]∧xs.length + ys.length≤sizeLine ∧
  (ys=[]→Q (.ref a) H)∧(ys≠[]→∀ p,H p=none→Q (.ref p) (upd H p (.tup (xs++ys))))
theorem Vals.qT {xs:List V} {us:List Value} (r:Vals xs us):us=[]↔xs=[]:=by
  cases r with
  | nil=>simp
  | cons _ _=>simp
theorem K1:OpR X (binaryOp .Add) (Uc X.K):=by
  intro pins s σ H x y v u Q I rx ry h
  obtain ⟨a,b,xs,ys,rfl,rfl,ha,hb,hx,hz,q1,q2⟩:=h
  cases rx
  cases ry
  obtain ⟨its,r1,p1,_⟩:=I.tuple ha
  obtain ⟨its2,r2,p2,_⟩:=I.tuple hb
  refine HT.Lw p1 p2 (fun z=>hx (r1.qT.mp z)) (fun z=>⟨.ref a,H,I,rfl,q1 (r2.qT.mp z)⟩) (fun z=>?_) (by rw [← r1.length,← r2.length];exact hz)
  refine ⟨.ref s.heap.objs.size,_,I.laid (t':=s.toks) (o:=.tup (xs++ys)) (fun b ob q=>Heap.get?_push_of_some _ q) (Nat.le_refl _) ?_,rfl,q2 (fun w=>z (r2.qT.mpr w)) _ (I.hok.fresh (Nat.le_refl _))⟩
  exact ⟨by rw [List.length_append];exact hz,_,r1.append r2,IsTup.new _ _⟩
end
end L2
namespace L2
open PySem PySem.Spec PyProof.Rows
def ixN (n:Nat) (i:Int):Option Nat:=if 0≤i then (if i<n then some i.toNat else none) else if -(n:Int)≤i then some (i + n).toNat else none
def atI {α:Type} (xs:List α) (i:Int):Option α:=(ixN xs.length i).bind fun j=>xs[j]?
theorem zf {n:Nat} {i:Int} {j:Nat} (h:ixN n i=some j):seqIndex? i n=some j∧j<n∧-(n:Int)≤i∧i<n:=by
  unfold ixN at h
  by_cases h0:0≤i
  · rw [if_pos h0] at h
    by_cases h1:i<n
    · rw [if_pos h1] at h
      have e:i.toNat=j:=Option.some.inj h
      exact ⟨by rw [seqIndex_of h0 h1,e],by omega,by omega,h1⟩
    · rw [if_neg h1] at h;cases h
  · rw [if_neg h0] at h
    by_cases h1:-(n:Int)≤i
    · rw [if_pos h1] at h
      have e:(i + n).toNat=j:=Option.some.inj h
      exact ⟨by rw [seqIndex_neg (by omega) h1,e],by omega,h1,by omega⟩
    · rw [if_neg h1] at h;cases h
theorem zR {α:Type} {xs:List α} {i:Int} {v:α} (h:atI xs i=some v):∃ j,seqIndex? i xs.length=some j∧xs[j]?=some v∧j<xs.length∧-(xs.length:Int)≤i∧i<xs.length:=by
  unfold atI at h
  cases e:ixN xs.length i with
  | none=>rw [e] at h;cases h
  | some j =>
    rw [e] at h
    obtain ⟨h1,h2,h3,h4⟩:=zf e
    exact ⟨j,h1,h,h2,h3,h4⟩
theorem dW {α:Type} {xs:List α} {j:Nat} {v:α} (h:xs[j]?=some v):atI xs (j:Int)=some v:=by
  have hj:j<xs.length:=(List.getElem?_eq_some_iff.mp h).1
  have e:ixN xs.length (j:Int)=some j:=by
    unfold ixN
    rw [if_pos (by omega),if_pos (by omega)];simp
  unfold atI;rw [e];exact h
theorem BL {α:Type} (xs:List α) (v:α):atI (xs++[v]) (-1)=some v:=by
  have hl:(xs++[v]).length=xs.length + 1:=by simp
  have e:ixN (xs++[v]).length (-1)=some xs.length:=by
    unfold ixN
    rw [hl,if_neg (by decide),if_pos (by omega)]
    congr 1
    omega
  unfold atI
  rw [e]
  show (xs++[v])[xs.length]?=some v
  simp
def LC (b:Expr):Prop:=∀ o i,subscripted b false o i=operate [o,i] (getItem o i)
def IxR (X:Cx) (r:R2):Prop :=
  ∀ (value slice:Expr) (pins:List (Addr × Obj)) (s:Shared) (σ:St) (H:Hp) (x y:V) (v u:Value) (Q:VK),Inv X pins σ H s→RelV x v→RelV y u→r x y H Q →
    subscripted slice false v u=operate [v,u] (getItem v u)→wpAny (model X.prog X.w) X.A (subscriptTail value slice v u) (EP X pins σ Q) X.xe s
def MtR (X:Cx) (id:String) (r:V→List V→Hp→VK→Prop):Prop :=
  ∀ (pins:List (Addr × Obj)) (s:Shared) (σ:St) (H:Hp) (x:V) (xs:List V) (v:Value) (us:List Value) (Q:VK),Inv X pins σ H s→RelV x v→Vals xs us→r x xs H Q →
    wpAny (model X.prog X.w) X.A (call (.builtin id) (v :: us)) (EP X pins σ Q) X.xe s
section
variable {X:Cx} {a b:Expr} {ta tb:TE} {pos:Pos}
theorem aH {r:R2} (hr:IxR X r) (ha:PE X a ta) (hb:PE X b tb) (hs:LC b):PE X (.Subscript a b pos) (tOp r ta tb):=by
  intro pins s σ H Q I h
  exact Subscript_ (Tt ha hb I h fun v u s2 x y H2 I2 rx ry q=>hr a b pins s2 σ H2 x y v u Q I2 rx ry q (hs _ _))
def V8 (K:PySem.W.Frag):R2:=fun x y H Q=>∃ p xs i v,x=.ref p∧y=.int i∧SqL K H p xs∧atI xs i=some v∧Q v H
def V7 (K:PySem.W.Frag):R2:=fun x y H Q=>∃ p xs i v,x=.ref p∧y=.int i∧SqT K H p xs∧atI xs i=some v∧Q v H
theorem aJ:IxR X (V8 X.K):=by
  intro value slice pins s σ H x y v u Q I rx ry h hs
  obtain ⟨p,xs,i,z,rfl,rfl,hq,he,q⟩:=h
  cases rx
  obtain ⟨t,rfl⟩:=ry
  obtain ⟨its,r,pl,hz⟩:=I.list hq
  obtain ⟨j,h1,h2,h3,h4,h5⟩:=zR he
  obtain ⟨w,ew,rw'⟩:=r.get h2
  have hl:=r.length
  have hn:=tu
  have fin:EP X pins σ Q w s:=⟨z,H,I,rw',q⟩
  by_cases h0:0≤i
  · have hj:i.toNat=j:=by
      rw [seqIndex_of h0 h5] at h1
      exact Option.some.inj h1
    exact item_listR pl.isList h0 (by omega) (by rw [hj];simpa using ew) fin hs
  · have hj:(i + (its.toArray.size:Int)).toNat=j:=by
      rw [seqIndex_neg (by omega) h4] at h1
      rw [List.size_toArray,← hl]
      exact Option.some.inj h1
    exact subscriptTail_builtinR (x:=w) pl.isList.typeIs slot_list_getitem.lookup
      (wpAny_getItem_list_neg (Q:=fun r s'=>r=w∧EP X pins σ Q r s') pl.isList (by omega) (by rw [List.size_toArray] <;> omega) (by omega) (by rw [hj];simpa using ew) ⟨rfl,fin⟩) hs
theorem aQ:IxR X (V7 X.K):=by
  intro value slice pins s σ H x y v u Q I rx ry h hs
  obtain ⟨p,xs,i,z,rfl,rfl,hq,he,q⟩:=h
  cases rx
  obtain ⟨t,rfl⟩:=ry
  obtain ⟨its,r,pl,hz⟩:=I.tuple hq
  obtain ⟨j,h1,h2,h3,h4,h5⟩:=zR he
  obtain ⟨w,ew,rw'⟩:=r.get h2
  have hl:=r.length
  have hn:=tu
  have fin:EP X pins σ Q w s:=⟨z,H,I,rw',q⟩
  exact subscriptTail_builtinR (x:=w) pl.typeIs slot_tuple_getitem.lookup
    (getItem_tuple (j:=j) (Q:=fun r s'=>r=w∧EP X pins σ Q r s') pl (by omega) (by omega) (by rw [List.size_toArray,← hl];exact h1) (by simpa using ew) ⟨rfl,fin⟩) hs
theorem wQ (its:List Value) (n j:Nat) (u:Value):Obj.mapSeq (·.setIfInBounds j u) { cls:=.type "list",data:=.seq its.toArray n }={ cls:=.type "list",data:=.seq (its.set j u).toArray n }:=by
  simp [Obj.mapSeq]
theorem Inv.lst {pins:List (Addr × Obj)} {σ:St} {H:Hp} {s:Shared} {p:Addr} {xs:List V} (I:Inv X pins σ H s) (h:H p=some (.lst xs)) :
    ∃ (its:List Value) (n:Nat),Vals xs its∧s.heap.get? p=some { cls:=.type "list",data:=.seq its.toArray n }∧xs.length≤sizeLine:=by
  obtain ⟨z,its,n,r,e⟩:=I.hok p _ h
  exact ⟨its,n,r,e,z⟩
theorem Inv.Nj {pins:List (Addr × Obj)} {σ:St} {H:Hp} {s:Shared} {p:Addr} {xs ys:List V} {its its':List Value} {n n':Nat} {f:Obj→Obj} (I:Inv X pins σ H s) (h:H p=some (.lst xs))
    (ho:s.heap.get? p=some { cls:=.type "list",data:=.seq its.toArray n }) (hf:f { cls:=.type "list",data:=.seq its.toArray n }={ cls:=.type "list",data:=.seq its'.toArray n' }) (r:Vals ys its') (hz:ys.length≤sizeLine) (t:Nat) :
    Inv X pins σ (upd H p (.lst ys)) { s with heap:=s.heap.update p f,toks:=t }:=by
  have e:(s.heap.update p f).get? p=some { cls:=.type "list",data:=.seq its'.toArray n' }:=by
    rw [Heap.get?_update_self f ho (by rw [hf] <;> rfl),hf]
  refine I.write (x:=p) (e:=p) (by rw [h];trivial) (.inl rfl) (fun b u hb q=>(Heap.get?_update_other _ _ (Ne.symm hb)).trans q) ⟨_,e⟩ ?_
  exact ⟨hz,its',n',r,e⟩
def Mx:V→V→V→Hp→(Hp→Prop)→Prop:=fun o i v H Q=>∃ p xs k j,o=.ref p∧i=.int k∧H p=some (.lst xs)∧ixN xs.length k=some j∧Q (upd H p (.lst (xs.set j v)))
theorem set_list:Wr X Mx:=by
  intro pins s σ H o i v ov iv u Q I ro ri rv h
  obtain ⟨p,xs,k,j,rfl,rfl,hp,hj,q⟩:=h
  cases ro
  obtain ⟨t,rfl⟩:=ri
  obtain ⟨its,n,r,ho,hz⟩:=I.lst hp
  obtain ⟨h1,h2,h3,h4⟩:=zf hj
  have hl:=r.length
  have hn:=tu
  have I':Inv X pins σ (upd H p (.lst (xs.set j v))) { s with heap:=s.heap.update p (Obj.mapSeq (·.setIfInBounds j u)) } :=
    I.Nj hp ho (wQ its n j u) (r.set rv j) (by rw [List.length_set];exact hz) s.toks
  by_cases h0:0≤k
  · have hk:k.toNat=j:=by
      rw [seqIndex_of h0 h4] at h1
      exact Option.some.inj h1
    exact PySem.W.ki_setAt ho h0 (by omega) (by rw [List.size_toArray,← hl];exact h4) (by rw [hk];exact ⟨_,I',q⟩)
  · have hk:(k + (its.toArray.size:Int)).toNat=j:=by
      rw [seqIndex_neg (by omega) h3] at h1
      rw [List.size_toArray,← hl]
      exact Option.some.inj h1
    exact PySem.W.ki_setBack ho (by omega) (by rw [List.size_toArray,← hl];exact h3) (by omega) (by rw [hk];exact ⟨_,I',q⟩)
theorem rR (lo hi:Option Int) (n:Nat):(sliceBounds lo hi none n).1=((HT.sIx n 0 lo:Nat):Int)∧(sliceBounds lo hi none n).2.1=((HT.sIx n n hi:Nat):Int)∧(sliceBounds lo hi none n).2.2=1:=by
  refine ⟨?_,?_,rfl⟩
  · cases lo with
    | none=>simp [sliceBounds,HT.sIx]
    | some i =>
      simp only [sliceBounds,HT.sIx,Option.getD_none,show (1:Int) > 0 by decide,if_true]
      by_cases h:i<0
      · simp only [h,if_true] <;> omega
      · simp only [h,if_false] <;> omega
  · cases hi with
    | none=>simp [sliceBounds,HT.sIx]
    | some i =>
      simp only [sliceBounds,HT.sIx,Option.getD_none,show (1:Int) > 0 by decide,if_true]
      by_cases h:i<0
      · simp only [h,if_true] <;> omega
      · simp only [h,if_false] <;> omega
theorem qD (its:List Value) (lo hi:Option Int):slicePick its.toArray lo hi none=((its.drop (HT.sIx its.length 0 lo)).take (HT.sIx its.length its.length hi - HT.sIx its.length 0 lo)).toArray:=by
  obtain ⟨h1,h2,h3⟩:=rR lo hi its.toArray.size
  unfold slicePick
  rw [h1,h2,h3]
  simp only [sliceRange_one,pick_run,List.size_toArray] <;> rfl
def rSlL (K:PySem.W.Frag):V→Option Int→Option Int→Hp→VK→Prop:=fun x lo hi H Q=>∃ a xs,x=.ref a∧SqL K H a xs∧∀ p,H p=none→Q (.ref p) (upd H p (.lst (pH xs lo hi)))
theorem lR:SlR X (rSlL X.K):=by
  intro pins s σ H x v vl vu lo hi sl Q I rx hs pl pu h
  obtain ⟨a,xs,rfl,hx,q⟩:=h
  cases rx
  obtain ⟨its,r,ht,hz⟩:=I.list hx
  have hlen:=r.length
  refine ⟨"list",_,slot_list_getitem.lookup,ht.isList.typeIs,?_⟩
  refine wpAny_getItem_list_slice ht.isList hs pl pu .none (by simp) ?_ (by rw [List.size_toArray] <;> omega)
  rw [qD,← hlen]
  refine ⟨.ref s.heap.objs.size,_,I.laid (t':=s.toks) (o:=.lst (pH xs lo hi)) (fun b ob q=>Heap.get?_push_of_some _ q) (Nat.le_refl _) ?_,rfl,q _ (I.hok.fresh (Nat.le_refl _))⟩
  exact ⟨Nat.le_trans (pB xs lo hi) hz,_,0,(r.drop (HT.sIx xs.length 0 lo)).take (HT.sIx xs.length xs.length hi - HT.sIx xs.length 0 lo),Heap.get?_push_size _ rfl⟩
def rC:V→Bool
  | .non=>true
  | .bl _=>true
  | .int _=>true
  | .str _=>true
  | _=>false
def eqV:V→V→Bool
  | .non,.non=>true
  | .bl a,.bl b=>a == b
  | .bl a,.int b=>(if a then 1 else 0) == b
  | .int a,.bl b=>a == (if b then 1 else 0)
  | .int a,.int b=>a == b
  | .str a,.str b=>a == b
  | _,_=>false
theorem Tc {A:Around} {s:Shared} {y x:V} {u v:Value} (ry:RelV y u) (rx:RelV x v) (fy:rC y=true) (fx:rC x=true):SeqAt.EqAt A s u v (eqV y x):=by
  cases y with
  | non =>
    cases ry
    cases x with
    | non=>cases rx;exact SeqAt.EqAt.same _
    | bl b=>cases rx;exact SeqAt.EqAt.none_bool b
    | int b=>obtain ⟨t,rfl⟩:=rx;exact SeqAt.EqAt.none_int b t
    | str b=>obtain ⟨t,rfl⟩:=rx;exact SeqAt.EqAt.none_str b t
    | _=>exact absurd (show false=true from fx) Bool.false_ne_true
  | bl a =>
    cases ry
    cases x with
    | non=>cases rx;exact SeqAt.EqAt.bool_none a
    | bl b=>cases rx;exact SeqAt.EqAt.bool_bool a b
    | int b=>obtain ⟨t,rfl⟩:=rx;exact SeqAt.EqAt.bool_int a b t
    | str b=>obtain ⟨t,rfl⟩:=rx;exact SeqAt.EqAt.bool_str a b t
    | _=>exact absurd (show false=true from fx) Bool.false_ne_true
  | int a =>
    obtain ⟨t',rfl⟩:=ry
    cases x with
    | non=>cases rx;exact SeqAt.EqAt.int_none a t'
    | bl b=>cases rx;exact SeqAt.EqAt.int_bool a t' b
    | int b=>obtain ⟨t,rfl⟩:=rx;exact SeqAt.EqAt.int_int a t' b t
    | str b=>obtain ⟨t,rfl⟩:=rx;exact SeqAt.EqAt.int_str a t' b t
    | _=>exact absurd (show false=true from fx) Bool.false_ne_true
  | str a =>
    obtain ⟨t',rfl⟩:=ry
    cases x with
    | non=>cases rx;exact SeqAt.EqAt.str_none a t'
    | bl b=>cases rx;exact SeqAt.EqAt.str_bool a t' b
    | int b=>obtain ⟨t,rfl⟩:=rx;exact SeqAt.EqAt.str_int a t' b t
    | str b=>obtain ⟨t,rfl⟩:=rx;exact SeqAt.EqAt.str_str a t' b t
    | _=>exact absurd (show false=true from fx) Bool.false_ne_true
  | _=>exact absurd (show false=true from fy) Bool.false_ne_true
def eqU (x:V) (u:Value):Bool:=match u with
  | .none=>eqV .non x
  | .bool b=>eqV (.bl b) x
  | .int i _=>eqV (.int i) x
  | .str z _=>eqV (.str z) x
  | _=>false
theorem Kl {x y:V} {u:Value} (r:RelV y u) (f:rC y=true):eqU x u=eqV y x:=by
  cases y with
  | non=>cases r;rfl
  | bl b=>cases r;rfl
  | int i=>obtain ⟨t,rfl⟩:=r;rfl
  | str z=>obtain ⟨t,rfl⟩:=r;rfl
  | _=>exact absurd (show false=true from f) Bool.false_ne_true
theorem uV {x:V}:∀ {xs:List V} {us:List Value},Vals xs us→xs.all rC=true→us.any (eqU x)=xs.any fun y=>eqV y x
  | _,_,.nil,_=>rfl
  | y :: xs,u :: us,.cons r t,f=>by
    rw [List.all_cons,Bool.and_eq_true] at f
    rw [List.any_cons,List.any_cons,Kl r f.1,uV t f.2]
theorem qW {A:Around} {s:Shared} {x:V} {v:Value} (rx:RelV x v) (fx:rC x=true):∀ {xs:List V} {us:List Value},Vals xs us→xs.all rC=true→∀ u∈us,SeqAt.EqAt A s u v (eqU x u)
  | _,_,.nil,_=>fun u hu=>by cases hu
  | y :: xs,u :: us,.cons r t,f=>fun u' hu=>by
    rw [List.all_cons,Bool.and_eq_true] at f
    rcases List.mem_cons.mp hu with rfl | hu
    · rw [Kl r f.1];exact Tc r rx f.1 fx
    · exact qW rx fx t f.2 u' hu
def inV (x:V) (xs:List V):Bool:=xs.any fun y=>eqV y x
def rIn (K:PySem.W.Frag) (neg:Bool):R2:=fun x y H Q=>∃ p xs,y=.ref p∧(SqL K H p xs∨SqT K H p xs)∧rC x=true∧xs.all rC=true∧Q (.bl (if neg then !inV x xs else inV x xs)) H
theorem sX:OpR X (compareOp .In) (rIn X.K false):=by
  intro pins s σ H x y v u Q I rx ry h
  obtain ⟨p,xs,rfl,hq,fx,fs,q⟩:=h
  cases ry
  rcases hq with hq | hq
  · obtain ⟨its,r,pl,hz⟩:=I.list hq
    refine SeqAt.in_listAt (eqU x) pl.isList (fun w hw=>qW rx fx r fs w (by simpa using hw)) ⟨.bl _,H,I,rfl,?_⟩
    rw [show its.toArray.any (eqU x)=its.any (eqU x) by simp,uV r fs]
    exact q
  · obtain ⟨its,r,pl,hz⟩:=I.tuple hq
    refine SeqAt.in_tupleAt (eqU x) pl (fun w hw=>qW rx fx r fs w (by simpa using hw)) ⟨.bl _,H,I,rfl,?_⟩
    rw [show its.toArray.any (eqU x)=its.any (eqU x) by simp,uV r fs]
    exact q
theorem aM:nP X (.builtin "len") (fun xs H Q=>∃ p ys,xs=[.ref p]∧(SqL X.K H p ys∨SqT X.K H p ys)∧Q (.int ys.length) H):=by
  intro pins s σ H xs us Q I r h
  obtain ⟨p,ys,rfl,hq,q⟩:=h
  obtain ⟨u,rfl,rx⟩:=vals1 r
  cases rx
  have hn:=tu
  rcases hq with hq | hq
  · obtain ⟨its,r',pl,hz⟩:=I.list hq
    have hlen:=r'.length
    exact Calls.call_len_list pl.isList (by simp only [List.size_toArray] <;> omega) ⟨.int ys.length,H,I.tok _,⟨s.toks + 1,by rw [List.size_toArray,hlen]⟩,q⟩
  · obtain ⟨its,r',pl,hz⟩:=I.tuple hq
    have hlen:=r'.length
    exact len_tuple pl (by simp only [List.size_toArray] <;> omega) ⟨.int ys.length,H,I.tok _,⟨s.toks + 1,by rw [List.size_toArray,hlen]⟩,q⟩
theorem tU:nP X (.builtin "len") (fun xs H Q=>∃ z,xs=[.str z]∧z.length≤sizeLine∧Q (.int z.length) H):=by
  intro pins s σ H xs us Q I r h
  obtain ⟨z,rfl,hz,q⟩:=h
  obtain ⟨u,rfl,t,rfl⟩:=vals1 r
  have hn:=tu
  exact len_str (by omega) ⟨.int z.length,H,I.tok _,⟨_,rfl⟩,q⟩
theorem dD:nP X (.type "list") (fun xs H Q=>∃ p ys,xs=[.ref p]∧(SqL X.K H p ys∨SqT X.K H p ys)∧∀ l,H l=none→Q (.ref l) (upd H l (.lst ys))):=by
  intro pins s σ H xs us Q I r h
  obtain ⟨p,ys,rfl,hq,q⟩:=h
  obtain ⟨u,rfl,rx⟩:=vals1 r
  cases rx
  have fin:∀ (its:List Value),Vals ys its→ys.length≤sizeLine→∀ (h':Heap) (c':Nat),(∀ b o',s.heap.get? b=some o'→h'.get? b=some o') →
      h'.get? s.heap.objs.size=some { cls:=.type "list",dict:=none,data:=.seq its.toArray c',slots:=#[] }→EP X pins σ Q (.ref s.heap.objs.size) { s with heap:=h' }:=fun its r' hz h' c' kp e =>
    ⟨.ref s.heap.objs.size,_,I.laid (t':=s.toks) kp (Nat.le_refl _) (show jz X.prog X.w _ h' _ (.lst ys) from ⟨hz,its,c',r',e⟩),rfl,q _ (I.hok.fresh (Nat.le_refl _))⟩
  rcases hq with hq | hq
  · obtain ⟨its,r',pl,hz⟩:=I.list hq
    have hlen:=r'.length
    obtain ⟨o,ho,hc,n,hd⟩:=pl.isList
    exact call_list_seq p (.inl rfl) ho hc hd (fun h' c' kp e=>fin its r' hz h' c' kp e) (by simp only [List.size_toArray] <;> omega)
  · obtain ⟨its,r',pl,hz⟩:=I.tuple hq
    have hlen:=r'.length
    obtain ⟨o,ho,hc,n,hd⟩:=pl
    exact call_list_seq p (.inr rfl) ho hc hd (fun h' c' kp e=>fin its r' hz h' c' kp e) (by simp only [List.size_toArray] <;> omega)
theorem jd:nP X (.type "tuple") (fun xs H Q=>∃ p ys,xs=[.ref p]∧((SqL X.K H p ys∧∀ l,H l=none→Q (.ref l) (upd H l (.tup ys)))∨(SqT X.K H p ys∧Q (.ref p) H))):=by
  intro pins s σ H xs us Q I r h
  obtain ⟨p,ys,rfl,h⟩:=h
  obtain ⟨u,rfl,rx⟩:=vals1 r
  cases rx
  rcases h with ⟨hq,q⟩ | ⟨hq,q⟩
  · obtain ⟨its,r',pl,hz⟩:=I.list hq
    have hlen:=r'.length
    refine call_tuple_list pl.isList (fun h' kp=>?_) (by simp only [List.size_toArray] <;> omega)
    have I1:Inv X pins σ H { s with heap:=h' }:=I.kept (t':=s.toks) kp
    have I2:Inv X pins σ (upd H h'.objs.size (.tup ys)) { s with heap:=h'.push { cls:=.type "tuple",data:=.seq its.toArray } } :=
      I1.laid (t':=s.toks) (fun b o e=>Heap.get?_push_of_some _ e) (Nat.le_refl _) (show jz X.prog X.w _ _ _ (.tup ys) from ⟨hz,its,r',IsTup.new _ _⟩)
    exact ⟨.ref h'.objs.size,_,I2,rfl,q _ (I1.hok.fresh (Nat.le_refl _))⟩
  · obtain ⟨its,r',pl,hz⟩:=I.tuple hq
    exact call_tuple_same pl ⟨.ref p,H,I,rfl,q⟩
def tyV (K:PySem.W.Frag) (T:String) (x:V) (H:Hp):Prop:=match x with
  | .str _=>T="str"
  | .int _=>T="int"
  | .ref p=>(T="list"∧∃ xs,SqL K H p xs)∨(T="tuple"∧∃ o,K.lookup p=some o∧o.cls=.type "tuple"∧o.dict=none) ∨
      (T="dict"∧((∃ kvs,H p=some (.dK kvs))∨∃ kvs,H p=some (.dT kvs)))∨(T="set"∧∃ S n,H p=some (.set S n))
  | _=>False
theorem Ml {pins:List (Addr × Obj)} {σ:St} {H:Hp} {s:Shared} {T:String} {x:V} {v:Value} (I:Inv X pins σ H s) (r:RelV x v) (ty:tyV X.K T x H) :
    s.TypeIs v T∧∀ a,v=.ref a→∃ ob,s.heap.get? a=some ob∧ob.dict=none:=by
  cases x with
  | str z =>
    obtain ⟨t,rfl⟩:=r
    cases (show T="str" from ty)
    exact ⟨typeIs_str s z t,fun _ e=>nomatch e⟩
  | int i =>
    obtain ⟨t,rfl⟩:=r
    cases (show T="int" from ty)
    exact ⟨typeIs_int s i t,fun _ e=>nomatch e⟩
  | ref p =>
    cases r
    rcases ty with ⟨rfl,xs,hq⟩ | ⟨rfl,o,hk,hc,hd⟩ | ⟨rfl,hk⟩ | ⟨rfl,S,n,hk⟩
    · obtain ⟨its,_,pl,_⟩:=I.list hq
      refine ⟨pl.isList.typeIs,fun a e=>?_⟩
      cases e
      obtain ⟨o,n,e,c,hd,_⟩:=pl
      exact ⟨o,e,hd⟩
    · refine ⟨⟨o,I.kIn p o hk,hc⟩,fun a e=>?_⟩
      cases e
      exact ⟨o,I.kIn _ o hk,hd⟩
    · have z:∃ o,s.heap.get? p=some o∧o.ExactDict:=by
        rcases hk with ⟨kvs,hk⟩ | ⟨kvs,hk⟩
        · obtain ⟨_,_,_,_,o,_,_,e,ex,_⟩:=I.hok p _ hk
          exact ⟨o,e,ex⟩
        · obtain ⟨_,_,_,_,o,_,_,e,ex,_⟩:=I.hok p _ hk
          exact ⟨o,e,ex⟩
      obtain ⟨o,e,ex⟩:=z
      refine ⟨⟨o,e,ex.1⟩,fun a e2=>?_⟩
      cases e2
      exact ⟨o,e,ex.2.1⟩
    · obtain ⟨o,_,_,_,e,ex,_⟩:=I.hok p _ hk
      refine ⟨⟨o,e,ex.1⟩,fun a e2=>?_⟩
      cases e2
      exact ⟨o,e,ex.2.1⟩
  | _=>exact False.elim ty
def tBM (K:PySem.W.Frag) (T:String) (r:V→List V→Hp→VK→Prop) (to:TE) (t:TA):TE:=fun σ H Q=>to σ H fun x H1=>tyV K T x H1∧t σ H1 fun xs H2=>r x xs H2 Q
variable {o e:Expr} {es:List Expr} {to:TE} {t:TA} {name:Str} {apos cpos:Pos} {T id:String} {r:V→List V→Hp→VK→Prop}
theorem j8 (pa:PlainAttrs T) (slot:Slot T name id) (hty:typeOf (.builtin id)=pure (.type "method_descriptor")) (hm:MtR X id r) (ho:PE X o to) (ha:PA X (e :: es) t)
    (hbase:attributeBase o name X.env (eval o X.env)=eval o X.env:=by rfl)
    (hfew:((backTo cpos (starEach (e :: es) X.env)).all (fun x=>!x.1) && (backToKw cpos (keywordEach [] X.env)).all (fun x=>x.1.isSome)
      && decide ((e :: es).length + ([]:List Keyword).length + (if ([]:List Keyword).isEmpty then 0 else 1)<30))=true:=by rfl)
    (hline:(apos.endLine == cpos.line)=true:=by rfl) (hs:starEach (e :: es) X.env=(false,eval e X.env) :: starEach es X.env:=by rfl) (hplain:(backTo cpos (starEach es X.env)).any (·.1)=false:=by rfl) :
    PE X (.Call (.Attribute o name apos) (e :: es) [] cpos) (tBM X.K T r to t):=by
  intro pins s σ H Q I h
  refine wpAny_Call_method_late hbase hfew hline rfl (thn (ho pins s σ H _ I h) fun v s1 ⟨x,H1,I1,r1,ty,q1⟩=>?_)
  obtain ⟨h1,h2⟩:=Ml I1 r1 ty
  refine ⟨T,id,pa,slot,hty,h1,h2,?_⟩
  have hA:=ha cpos pins s1 σ H1 _ I1 q1
  rw [hs] at hA ⊢
  refine Calls.callWith_builtin (by show (false || (backTo cpos (starEach es X.env)).any (·.1))=false;rw [hplain] <;> rfl) (Calls.evalArgs_plain ?_)
  exact thn hA fun us s2 ⟨vs,H2,I2,r2,q2⟩=>hm pins s2 σ H2 x vs v us Q I2 r1 r2 q2
end
end L2
namespace L2
open PySem PySem.Spec PyProof.Rows
def MtM (X:Cx) (id:String) (r:V→List V→Hp→VK→Prop):Prop :=
  ∀ (pins:List (Addr × Obj)) (s:Shared) (σ:St) (H:Hp) (x:V) (xs:List V) (v:Value) (us:List Value) (Q:VK),Inv X pins σ H s→RelV x v→Vals xs us→r x xs H Q →
    wpAny (model X.prog X.w) X.A (call (.builtin id) (v :: us)) (EP X pins σ Q) X.xe s
theorem Vals.one:∀ {x:V} {us:List Value},Vals [x] us→∃ u,us=[u]∧RelV x u
  | _,_,.cons r .nil=>⟨_,rfl,r⟩
section
variable {X:Cx} {pins:List (Addr × Obj)} {σ:St} {H:Hp} {s:Shared} {l b:Addr} {xs ys zs:List V}
theorem Inv.lset {its its':List Value} {n:Nat} {f:Array Value→Array Value} {t':Nat} (I:Inv X pins σ H s) (hH:H l=some (.lst xs))
    (e:s.heap.get? l=some { cls:=.type "list",data:=.seq its.toArray n }) (hf:f its.toArray=its'.toArray) (hv:Vals ys its') (hz:ys.length≤sizeLine) :
    Inv X pins σ (upd H l (.lst ys)) { s with heap:=s.heap.update l (Obj.mapSeq f),toks:=t' }:=by
  have q:=PySem.IsL.update e f
  rw [hf] at q
  refine I.write (x:=l) (e:=l) (by rw [hH];exact trivial) (.inl rfl) (fun b' u hb hu=>(Heap.get?_update_other s.heap (Obj.mapSeq f) (Ne.symm hb)).trans hu) ⟨_,q⟩ ?_
  exact ⟨hz,its',_,hv,q⟩
theorem Inv.lnew {its:List Value} {t':Nat} (I:Inv X pins σ H s) (hv:Vals ys its) (hz:ys.length≤sizeLine) :
    Inv X pins σ (upd H s.heap.objs.size (.lst ys)) { s with heap:=s.heap.push { cls:=.type "list",data:=.seq its.toArray },toks:=t' } :=
  I.laid (fun _ _ q=>Heap.get?_push_of_some _ q) (Nat.le_refl _) ⟨hz,its,0,hv,Heap.get?_push_size _ rfl⟩
theorem Inv.fresh (I:Inv X pins σ H s):H s.heap.objs.size=none:=I.hok.fresh (Nat.le_refl _)
theorem Inv.Uj (I:Inv X pins σ H s) (hH:H l=some (.lst xs)):xs.length≤sizeLine∧∃ (its:List Value) (n:Nat),Vals xs its∧xs.length=its.length∧s.heap.get? l=some { cls:=.type "list",data:=.seq its.toArray n }:=by
  obtain ⟨z,its,n,r,e⟩:=I.hok l _ hH
  exact ⟨z,its,n,r,r.length,e⟩
end
section
variable {X:Cx}
def KR:V→List V→Hp→VK→Prop:=fun x vs H Q=>∃ l xs y,x=.ref l∧vs=[y]∧H l=some (.lst xs)∧xs.length<sizeLine∧Q .non (upd H l (.lst (xs++[y])))
theorem bV:MtM X "list.append" KR:=by
  intro pins s σ H x vs v us Q I rx rv h
  obtain ⟨l,xs,y,rfl,rfl,hH,hz,q⟩:=h
  cases rx
  obtain ⟨u,rfl,ru⟩:=rv.one
  obtain ⟨z,its,n,r,hl,e⟩:=I.Uj hH
  refine call_meets F.slot_list_append ⟨_,e,rfl⟩ F.entry_list_append (F.args_list_append_2 _ _) (PySem.list_append l its.toArray n u (by rw [List.size_toArray];omega)) ⟨e,?_⟩
  refine ⟨.non,_,I.lset (its':=its++[u]) hH e (by simp) (r.append (.cons ru .nil)) ?_,rfl,q⟩
  rw [List.length_append,List.length_singleton]
  omega
def rCat:R2:=fun x y H Q=>∃ l b xs zs,x=.ref l∧y=.ref b∧H l=some (.lst xs)∧H b=some (.lst zs)∧xs.length + zs.length≤sizeLine∧∀ p,H p=none→Q (.ref p) (upd H p (.lst (xs++zs)))
theorem oM:OpR X (binaryOp .Add) rCat:=by
  intro pins s σ H x y v u Q I rx ry h
  obtain ⟨l,b,xs,zs,rfl,rfl,hH,hB,hz,q⟩:=h
  cases rx
  cases ry
  obtain ⟨z,its,n,r,hl,e⟩:=I.Uj hH
  obtain ⟨z2,its2,n2,r2,hl2,e2⟩:=I.Uj hB
  refine PySem.P.add_list e e2 ?_ (by rw [List.size_toArray,List.size_toArray];omega)
  have ea:its.toArray++its2.toArray=(its++its2).toArray:=by simp
  rw [ea]
  exact ⟨.ref _,_,I.lnew (t':=s.toks) (r.append r2) (by rw [List.length_append];omega),rfl,q _ I.fresh⟩
end
end L2
namespace Att
open PySem PySem.W PySem.Calls PyProof.Rows
theorem o7 {P:Params} {h:Heap}:∀ (ns:List Int) (vs:List Value),WellAll P h vs (ns.map WData.int)→IntsAre vs ns:=by
  intro ns
  induction ns with
  | nil =>
    intro vs w
    rw [List.map_nil] at w
    cases w
    exact .nil
  | cons n ns ih =>
    intro vs w
    rw [List.map_cons] at w
    cases w with
    | cons a b =>
      cases a
      exact .cons _ _ (ih _ b)
theorem yt {l:OpenLaw} {n:Nat} (hn:l.most=some n) {P:Params} {h:Heap} {args:List WData} {vals:List Value}
    (hpre:l.row.toRowW.claim.pre args=true) (hwl:WellAll P h vals args) :
    ∃ a vs ns,vals=[Value.ref a]∧args=[WData.list (ns.map WData.int)]∧h.get? a=some { cls:=.type "list",data:=.seq vs.toArray }∧IntsAre vs ns∧ns.length≤n:=by
  have hsh:WShape.hasAll [] args [.list .int]=true:=(pre_splitW hpre).1
  have hc:l.pre.holds [] { args:=args }=true:=(pre_splitW hpre).2
  obtain ⟨d,r,rfl,h1,h2⟩:=hasAllW_cons hsh
  obtain rfl:=hasAllW_nil h2
  obtain ⟨xs,rfl,h3⟩:=hasW_list h1
  obtain ⟨ns,rfl⟩:=items_int h3
  have hlen:ns.length≤n:=by
    unfold OpenLaw.pre at hc
    have h4:(WTm.not (.lt (.lit (.int (n:Int))) (.len (.arg 0)))).holds [] { args:=[.list (ns.map .int)] }=true:=by
      have h4:=(holds_andW hc).1
      rw [hn] at h4
      exact h4
    have h5:=condW_of h4 (w_not (w_lt w_lit (w_len_list (w_arg rfl))))
    rw [List.length_map] at h5
    refine Nat.le_of_not_lt fun q=>?_
    have q':(n:Int)<((ns.length:Nat):Int):=by omega
    first
      | (rw [decide_eq_true q'] at h5;exact absurd h5 (by decide))
      | (simp at h5;omega)
  cases hwl with
  | cons w1 w2 =>
    cases w2
    cases w1 with
    | list ho hall=>exact ⟨_,_,ns,rfl,rfl,ho,o7 ns _ hall,hlen⟩
theorem yE (l:OpenLaw) (args:List WData):l.row.toRowW.claim.post args (.bool true) args=true :=
  postW_of (r:=l.row.toRowW) (X:=(true == true))
    (show WShape.has [] (.bool true) .bool=true by first | rfl | decide | simp [WShape.has,WShape.arms,WShape.armsAll])
    (show (WTm.eq .res (.lit (.bool true))).value [] { args:=args,res:=some (.bool true),after:=args }=some (.bool (true == true)) from w_eq_bool (w_res rfl) w_lit) rfl
theorem uR {l:OpenLaw} {n:Nat} {q:Program} {loose:List Str} {XP:(Str→Option Value)→Heap→Prop} {YP:World→Heap→Prop} {d:DefRec}
    (hn:l.most=some n) (hdf:d.params.defaults=[])
    (call:∀ (w:World) (s₀ s₁:Shared) (mg mb:Str→Option Value) (fa:Addr) (o:Obj) (pm cd doc:Value) (a:Addr) (vs:List Value) (ns:List Int),
      Ground q loose [] XP w s₀ mg mb s₁.heap→YP w s₁.heap →
      s₁.heap.get? fa=some o→o.data=.func (docDef d.name d.params d.body d.scope pm cd doc)→s₁.heap.CodeRec cd d.name→mg d.name=some (.ref fa) →
      s₁.heap.get? a=some { cls:=.type "list",data:=.seq vs.toArray }→IntsAre vs ns→ns.length≤n→s₁.gens=#[] →
      codeAny (model l.prog w) callerA (.call (.ref fa) ⟨[.ref a],[]⟩) (fun r s'=>r=.ok (.ret (.bool true))∧OldK s₁.heap s'.heap∧s'.os=s₁.os∧AllBare s'.gens) s₁) :
    WalkO q loose XP YP l.row.toRowW d [] (fun f vs=>PySem.call f vs):=by
  intro w s₀ s₁ mg mb G Y fa o pm cd doc dV kV ho hd hcd hD hmg hg args vals as hpre hlay hrd hwl hlo
  obtain rfl:dV=.none:=Dflts.none hD hdf
  obtain rfl:kV=.none:=Dflts.noKw hD
  obtain ⟨a,vs,ns,rfl,rfl,hobj,hints,hlen⟩:=yt hn hpre hwl
  refine enter_call (codeAny_mono (call w s₀ s₁ mg mb fa o pm cd doc a vs ns G Y ho (fd_plain hd) hcd hmg hobj hints hlen hg) fun r s' hq=>?_)
  obtain ⟨rfl,h2,h3,h4⟩:=hq
  exact ⟨.inl ⟨.bool true,.bool true,[],rfl,fun _=>rfl,.bool true,yE l _,fun _=>⟨List.Pairwise.nil,fun _ hm=>(nomatch hm)⟩⟩,h2,h3,h4⟩
end Att
namespace L2
open PySem PySem.Spec PyProof.Rows
theorem rJ:∀ {vs:List Value} {ns:List Int},IntsAre vs ns→Vals (ns.map V.int) vs
  | _,_,.nil=>.nil
  | _,_,.cons n t h=>.cons ⟨t,rfl⟩ (rJ h)
def Only (H:Hp):Prop:=∀ b,H b=none∨∃ o xs,H b=some (.frz o (.lst xs))
theorem Bh {P:Program} {w:World} {K:PySem.W.Frag} {mg mb:Str→Option Value} {CX:CXT} {k:Nat} {fa a:Addr} {fd:FuncData} {x:Str} {sp:Sp} {s₁:Shared} {vs:List Value} {ns:List Int}
    (KX:K.In s₁.heap) (hns:s₁.heap.Ns mainGlobals mg) (hb:s₁.heap.Ns builtinsNs mb) (hbb:∀ x:Str,x≠"__name__"→mb x=bootBuiltins x) (hlim:s₁.heap.NoLimit) (hg:s₁.gens=#[])
    (ha:s₁.heap.get? a=some { cls:=.type "list",data:=.seq vs.toArray }) (hi:IntsAre vs ns) (hl:ns.length≤sizeLine) (hr:mQ k callerA)
    (F:∀ base:Heap,K.In base→base.Ns mainGlobals mg→bQ P w K mg base CX k fa fd [x] sp) (hbind:∀ (s:Shared) (u:Value),BindsTo s fd ⟨[u],[]⟩ [(x,u)])
    (hsp:∀ H:Hp,Only H→SqL K H a (ns.map V.int)→sp [.ref a] H (fun v _=>v=.bl true) fun _ _ _=>False)
    (hCX:∀ H e s',CX [] H s₁ (fun _ _ _=>False) e s'→False) :
    codeAny (model P w) callerA (.call (.ref fa) ⟨[.ref a],[]⟩) (fun r s'=>r=.ok (.ret (.bool true))∧OldK s₁.heap s'.heap∧s'.os=s₁.os∧AllBare s'.gens) s₁:=by
  have rv:=rJ hi
  have lenV:=hi.length
  have core:∀ H:Hp,Only H→SqL K H a (ns.map V.int)→HOk P w H s₁.heap→(∀ b,H b≠none→b=a)→(H a≠none→K.lookup a=none) →
      codeAny (model P w) callerA (.call (.ref fa) ⟨[.ref a],[]⟩) (fun r s'=>r=.ok (.ret (.bool true))∧OldK s₁.heap s'.heap∧s'.os=s₁.os∧AllBare s'.gens) s₁:=by
    intro H hO hS hok hA hK
    have base_of:∀ {b:Addr} {o:Obj},s₁.heap.get? b=some o→H b=none→(Bm s₁.heap H).get? b=some o:=fun e n=>Bl e n
    have noA:∀ {b:Addr} {o:Obj} {es:Array DictEntry} {ep:Nat},s₁.heap.get? b=some o→o.data=.dict es ep→H b=none:=fun {b o es ep} e d=>by
      cases q:H b with
      | none=>rfl
      | some u =>
        have e':b=a:=hA b (by rw [q];simp)
        subst e'
        rw [ha] at e;cases e
        have d':Data.seq vs.toArray _=Data.dict es ep:=d
        cases d'
    have nsK:∀ {b:Addr} {m:Str→Option Value},s₁.heap.Ns b m→(Bm s₁.heap H).Ns b m:=fun {b m} ⟨o,es,ep,e,d,r⟩=>⟨o,es,ep,base_of e (noA e d),d,r⟩
    have hKb:K.In (Bm s₁.heap H):=fun b o e=>base_of (KX b o e) (by
      cases q:H b with
      | none=>rfl
      | some u =>
        have e':b=a:=hA b (by rw [q];simp)
        subst e'
        rw [hK (by rw [q];simp)] at e;cases e)
    have hM:Mod K mg (Bm s₁.heap H):=⟨hKb,nsK hns,⟨mb,nsK hb,hbb⟩,let ⟨mc,h1,h2⟩:=hlim;⟨mc,nsK h1,h2⟩⟩
    have e0:LQ P w K mg (Bm s₁.heap H) callerA [] s₁ H:=⟨rfl,hM,fun b o e=>Ld e,Nat.le_of_eq (zm _ _),trivial,fun b hb=>absurd (show b∈([]:List Addr) from hb) (by simp),hok,.of_eq hg⟩
    refine codeAny_mono ((F _ hKb (nsK hns)).run callerA [] s₁ H ⟨[.ref a],[]⟩ [.ref a] [.ref a] _ _ hr e0 (hbind s₁ (.ref a)) (.cons rfl .nil) (hsp H hO hS)) fun r s' h=>?_
    cases r with
    | error e=>exact (hCX H e s' h).elim
    | ok fl =>
      cases fl with
      | next=>exact False.elim h
      | brk=>exact False.elim h
      | cont=>exact False.elim h
      | ret u =>
        obtain ⟨v,H',os,bare,un,hok',r',q⟩:=h
        have q':v=.bl true:=q
        subst q'
        obtain rfl:u=Value.bool true:=r'
        refine ⟨rfl,OldK.of_keep fun b o e=>?_,os,bare⟩
        cases q:H b with
        | none=>exact un.keep b o e q (by intro z;exact absurd (show b∈([]:List Addr) from z) (by simp)) (by simp)
        | some u =>
          rcases hO b with z | ⟨ob,xs,z⟩
          · rw [q] at z;cases z
          · have z2:=un.frzs b ob _ z
            obtain ⟨e1,_⟩:=hok b _ z
            obtain ⟨e2,_⟩:=hok' b _ z2
            rw [e] at e1;cases e1
            exact e2
  cases hk:K.lookup a with
  | some o =>
    have e:=KX a o hk
    rw [ha] at e
    cases e
    refine core (fun _=>none) (fun _=>.inl rfl) (.inr ⟨_,vs.toArray,_,hk,rfl,rfl,rfl,by rw [List.size_toArray,lenV];exact hl,by simpa using rv⟩) (fun b u z=>by have z':(none:Option HO)=some u:=z;cases z') (fun b z=>absurd rfl z) fun z=>absurd rfl z
  | none =>
    refine core (fun b=>if b=a then some (.frz { cls:=.type "list",data:=.seq vs.toArray } (.lst (ns.map V.int))) else none) (fun b=>?_) (.inl (.inr ⟨{ cls:=.type "list",data:=.seq vs.toArray },if_pos rfl⟩)) (fun b u z=>?_) (fun b z=>?_) fun _=>hk
    · by_cases hb:b=a
      · exact .inr ⟨_,_,if_pos hb⟩
      · exact .inl (if_neg hb)
    · by_cases hb:b=a
      · have z':=(if_pos hb).symm.trans z
        cases z'
        subst hb
        exact ⟨ha,by rw [List.length_map];exact hl,vs,_,rv,ha⟩
      · have z':=(if_neg hb).symm.trans z
        cases z'
    · by_cases hb:b=a
      · exact hb
      · exact absurd (if_neg hb) z
end L2
namespace L2
open PySem PySem.Spec PyProof.Rows
abbrev KOf {K:PySem.W.Frag} {h:Heap} (_:K.In h):PySem.W.Frag:=K
theorem Ks {l:PySem.W.OpenLaw} {n k:Nat} {q:Program} {loose:List Str} {XP:(Str→Option Value)→Heap→Prop} {YP:World→Heap→Prop} {d:DefRec} {K:Params→PySem.W.Frag} {CX:World→CXT} {sp:World→Sp} {x:Str}
    (hn:l.most=some n) (hn2:n≤sizeLine) (hdf:d.params.defaults=[]) (hr:mQ k callerA)
    (hY:∀ (w:World) (h:Heap),YP w h→(K w.params).In h)
    (F:∀ (w:World) (mg:Str→Option Value) (fa:Addr) (h:Heap),(K w.params).In h→h.Ns mainGlobals mg→mg d.name=some (.ref fa) →
      ∃ fd:FuncData,(∀ (s:Shared) (u:Value),BindsTo s fd ⟨[u],[]⟩ [(x,u)]) ∧
        ∀ base:Heap,(K w.params).In base→base.Ns mainGlobals mg→bQ l.prog w (K w.params) mg base (CX w) k fa fd [x] (sp w))
    (hsp:∀ (w:World) (H:Hp) (a:Addr) (ns:List Int),ns.length≤n→Only H→SqL (K w.params) H a (ns.map V.int)→sp w [.ref a] H (fun v _=>v=.bl true) fun _ _ _=>False)
    (hCX:∀ (w:World) (H:Hp) (s:Shared) (e:Value) (s':Shared),CX w [] H s (fun _ _ _=>False) e s'→False) :
    PySem.W.WalkO q loose XP YP l.row.toRowW d [] (fun f vs=>PySem.call f vs):=by
  refine Att.uR hn hdf fun w s₀ s₁ mg mb fa o pm cd doc a vs ns G Y ho hd hcd hmg hobj hints hlen hg=>?_
  have KX:=hY w _ Y
  obtain ⟨fd,hb,hF⟩:=F w mg fa _ KX G.T.g hmg
  exact Bh KX G.T.g G.T.b G.T.builtins G.T.nolimit hg hobj hints (Nat.le_trans hlen hn2) hr hF hb (fun H hO hS=>hsp w H a ns hlen hO hS) fun H e s'=>hCX w H s₁ e s'
end L2
namespace L2
open PySem PySem.Spec PyProof.Rows
abbrev CX0:CXT:=fun _ _ _ _ _ _=>False
abbrev E0:XK:=fun _ _ _=>False
theorem bU {X:Cx}:Passes CX0 X E0:=fun _ _ _ _ _ _ _ h=>h.elim
structure Fun (K:PySem.W.Frag) (x qual:Str) (st:Stmt) (f:Addr) (fd:FuncData):Prop where
  ex:∃ (oc:Value) (od:Option Addr) (kV doc pm:Value) (an:Option Addr) (cdv ct:Value) (osl:Array (Option Value)),
    fd=PySem.W.fnOf x qual (aC st) (aB st) (ak st) .none kV doc pm an cdv ct∧K.lookup f=some ⟨oc,od,.func fd,osl⟩∧PySem.W.codeIn K cdv qual=true
  kp:PySem.W.keepIn K (.ref f)=true
variable {P:Program} {w:World} {K:PySem.W.Frag} {mg:Str→Option Value} {base:Heap} {T:eF}
theorem Fun.ok {x qual:Str} {st:Stmt} {f:Addr} {fd:FuncData} {N ps:List Str} {k:Nat} {sp:Sp} (F:Fun K x qual st f fd) (S:aW N ps (ak st)) (len:∀ vs H Q E,sp vs H Q E→vs.length=ps.length)
    (hbody:∀ (cdv:Value) (A:Around) (outer:List Env) (s:Shared) (H:Hp) (vs:List V) (Q:VK) (E:XK),mQ k (A.deeper (envOfC qual (ak st) s.heap.objs.size f cdv))→sp vs H Q E →
      ∃ t,PSs (zZ CX0 P w K mg base N qual (ak st) f cdv A outer s H E).nox (aB st) t∧t { nx:=fun _ H'=>Q .non H',rt:=Q } (start N vs) H):bQ P w K mg base CX0 (k + 1) f fd ps sp:=by
  obtain ⟨oc,od,kV,doc,pm,an,cdv,ct,osl,rfl,lk,hcd⟩:=F.ex
  refine Ln lk hcd S len fun A outer s H vs Q E hr hsp=>?_
  obtain ⟨t,h,q⟩:=hbody cdv A outer s H vs Q E hr hsp
  exact ⟨t,h.nox,q⟩
theorem Fun.binds {x qual:Str} {st:Stmt} {f:Addr} {fd:FuncData} {ps:List Str} (F:Fun K x qual st f fd)
    (h:∀ (kV doc pm:Value) (an:Option Addr) (cdv ct:Value) (us:List Value),us.length=ps.length→bindArgs (PySem.W.fnOf x qual (aC st) (aB st) (ak st) .none kV doc pm an cdv ct) ⟨us,[]⟩=pure (ps.zip us)):Binds K fd ps []:=by
  obtain ⟨oc,od,kV,doc,pm,an,cdv,ct,osl,rfl,lk,hcd⟩:=F.ex
  exact .all (h kV doc pm an cdv ct)
theorem bO {x qual:Str} {st:Stmt} {f:Addr} {oc:Value} {od an:Option Addr} {osl:Array (Option Value)} {kV doc pm cdv ct:Value} (l:K.lookup f=some ⟨oc,od,.func (PySem.W.fnOf x qual (aC st) (aB st) (ak st) .none kV doc pm an cdv ct),osl⟩)
    (c:PySem.W.codeIn K cdv qual=true) (k:PySem.W.keepIn K (.ref f)=true):Fun K x qual st f (PySem.W.fnOf x qual (aC st) (aB st) (ak st) .none kV doc pm an cdv ct):=⟨⟨oc,od,kV,doc,pm,an,cdv,ct,osl,rfl,l,c⟩,k⟩
section
variable {X:Cx}
theorem pv (i:Nat) {x:Str} {pos:Pos} (hN:X.N[i]?=some x:=by rfl) (hv:Vis X.env.scope x:=by first | exact Or.inl rfl | exact Or.inr (Or.inl rfl) | exact Or.inr (Or.inr rfl)) (hd:(x == ("__debug__":Str))=false:=by decide)
    (hcd:(x == ("__classdict__":Str))=false:=by decide):PE X (.Name x pos) (Tp i):=MN hN hv hd hcd
end
theorem mW {A B:Prop} (h:B):if false=true then A else B:=by
  rw [if_neg Bool.false_ne_true]
  exact h
theorem lM {A B:Prop} (h:A):if true=true then A else B:=by
  rw [if_pos rfl]
  exact h
theorem Tr {c A B:Prop} [Decidable c] (h1:c→A) (h2:¬ c→B):if c then A else B:=by
  by_cases h:c
  · rw [if_pos h]
    exact h1 h
  · rw [if_neg h]
    exact h2 h
theorem Nt {c A B:Prop} [Decidable c] (hc:c) (h:B):if (!decide c)=true then A else B:=by
  rw [decide_eq_true hc]
  exact mW h
def Same (H H':Hp):Prop:=∀ b o,H b=some o→H' b=some o
theorem Same.refl (H:Hp):Same H H:=fun _ _ h=>h
theorem Same.free {H H':Hp} (e:Same H H') {l:Addr} (h:H' l=Option.none):H l=Option.none:=by
  cases q:H l with
  | none=>rfl
  | some o =>
    rw [e l o q] at h
    cases h
theorem Same.seq {K:PySem.W.Frag} {H H':Hp} {a:Addr} {xs:List V} (e:Same H H') (h:SqL K H a xs):SqL K H' a xs:=by
  rcases h with (h | ⟨o,h⟩) | h
  · exact .inl (.inl (e _ _ h))
  · exact .inl (.inr ⟨o,e _ _ h⟩)
  · exact .inr h
end L2
namespace L2
open PySem PySem.Spec PyProof.Rows
def clo (cells:List (Str × Addr)):List (Str × NameKind)→List (Str × Addr)→List (Str × Addr)
  | [],cs=>cs
  | (n,k) :: r,cs=>clo cells r (if k == .free then (n,(cells.lookup n).getD 0) :: cs else cs)
theorem zL {env:Env}:∀ (names:List (Str × NameKind)) (cs:List (Str × Addr)),(∀ y∈names,y.2=.free→∃ c,env.cells.lookup y.1=some c) →
    (forIn names cs fun (x:Str × NameKind) (r:List (Str × Addr))=>(do
      let cs:=r
      match x with
      | (name,kind) =>
        if kind == .free then do
          let c ← cellOf env name
          let cs:=(name,c) :: cs
          pure (ForInStep.yield cs)
        else pure (ForInStep.yield cs):Sem (ForInStep (List (Str × Addr)))))=pure (clo env.cells names cs)
  | [],cs,_=>rfl
  | (n,k) :: r,cs,h=>by
    rw [List.forIn_cons]
    by_cases hk:k=.free
    · subst hk
      obtain ⟨c,hc⟩:=h (n,.free) List.mem_cons_self rfl
      have e:cellOf env n=pure c:=by unfold cellOf;rw [hc]
      simp only [beq_self_eq_true,if_true,e,pure_bind]
      rw [zL r _ fun y hy=>h y (List.mem_cons_of_mem _ hy)]
      simp [clo,hc]
    · have hb:(k == NameKind.free)=false:=by simpa using hk
      simp only [hb,Bool.false_eq_true,if_false,pure_bind]
      rw [zL r _ fun y hy=>h y (List.mem_cons_of_mem _ hy)]
      simp [clo,hb]
theorem pL {env:Env} {scope:Scope} (h:∀ y∈scope.names,y.2=.free→∃ c,env.cells.lookup y.1=some c):closureFor scope env=pure (clo env.cells scope.names []):=by
  unfold closureFor
  have e:=zL (env:=env) scope.names [] h
  first
    | (rw [← e];rfl)
    | (simp only [bind_pure];exact e)
    | exact e
theorem zK {cells:List (Str × Addr)}:∀ (names:List (Str × NameKind)) (cs:List (Str × Addr)) (p:Str × Addr),p∈clo cells names cs→p∈cs∨p.2=(cells.lookup p.1).getD 0
  | [],_,_,h=>.inl h
  | (n,k) :: r,cs,p,h=>by
    rcases zK r _ p h with h' | h'
    · by_cases hk:(k == NameKind.free)=true
      · rw [if_pos hk] at h'
        rcases List.mem_cons.mp h' with e | e
        · subst e;exact .inr rfl
        · exact .inl e
      · rw [if_neg hk] at h';exact .inl h'
    · exact .inr h'
theorem v9 {cells:List (Str × Addr)}:∀ (names:List (Str × NameKind)) (cs:List (Str × Addr)) (x:Str),(cs.lookup x).isSome=true→((clo cells names cs).lookup x).isSome=true
  | [],_,_,h=>h
  | (n,k) :: r,cs,x,h=>by
    refine v9 r _ x ?_
    by_cases hk:(k == NameKind.free)=true
    · rw [if_pos hk]
      rw [List.lookup_cons]
      cases x == n with
      | true=>rfl
      | false=>exact h
    · rw [if_neg hk];exact h
theorem uP {cells:List (Str × Addr)}:∀ (names:List (Str × NameKind)) (cs:List (Str × Addr)) (x:Str),(x,NameKind.free)∈names→((clo cells names cs).lookup x).isSome=true
  | [],_,_,h=>nomatch h
  | (n,k) :: r,cs,x,h=>by
    show ((clo cells r _).lookup x).isSome=true
    rcases List.mem_cons.mp h with e | e
    · have e1:x=n:=congrArg Prod.fst e
      have e2:NameKind.free=k:=congrArg Prod.snd e
      subst e1
      subst e2
      refine v9 r _ x ?_
      rw [if_pos (by decide),List.lookup_cons]
      simp
    · exact uP r _ x e
theorem Ls {cells:List (Str × Addr)} {names:List (Str × NameKind)} {x:Str} {c:Addr} (h:(clo cells names []).lookup x=some c):c=(cells.lookup x).getD 0:=by
  rcases zK names [] _ (PySem.mem_of_lookup h) with z | z
  · exact nomatch z
  · exact z
theorem wg {cells:List (Str × Addr)}:∀ {names:List (Str × NameKind)} (cs:List (Str × Addr)) {p:Str × Addr},p∈clo cells names cs→p∈cs∨(p.1,NameKind.free)∈names
  | [],_,_,h=>.inl h
  | (n,k) :: r,cs,p,h=>by
    rcases wg (names:=r) _ h with h' | h'
    · by_cases hk:(k == NameKind.free)=true
      · rw [if_pos hk] at h'
        rcases List.mem_cons.mp h' with e | e
        · subst e
          have:k=.free:=by simpa using hk
          subst this
          exact .inr List.mem_cons_self
        · exact .inl e
      · rw [if_neg hk] at h';exact .inl h'
    · exact .inr (List.mem_cons_of_mem _ h')
def lN (X:Cx) (scope:Scope) (N:List Str) (s:Shared) (H:Hp) (ex:List Addr):Cx :=
  { X with N:=N,s₀:=s,H₀:=H,env:=compEnvC scope (clo X.env.cells scope.names []) s.heap.objs.size X.env,outer:=X.stack,stack:=X.stack,ex:=ex,fn:=fun x=>((clo X.env.cells scope.names []).lookup x).isNone,pn:=[],xe:=fun _ _=>False }
def freeOk (sc scope:Scope):Bool:=scope.names.all fun y=>(y.2 != .free) || (sc.names.lookup y.1 == some .cell) || (sc.names.lookup y.1 == some .free)
def Ah (scope:Scope):Bool:=(scope.kind == .function) && (scope.names.all fun y=>y.2 != .cell) && (scope.names.all fun y=>y.2 != .local || scope.names.lookup y.1 == some .local)
def BJ (scope:Scope) (N N':List Str) (cap:List (Option Nat)):Bool:=(cap.length == N'.length) && (N'.zip cap).all fun p=>match p.2 with
  | none=>true
  | some j=>N[j]? == some p.1 && scope.names.lookup p.1 == some .free
def zN (cap:List (Option Nat)) (σ:St):St:=cap.map fun o=>o.bind fun j=>(σ[j]?).bind id
theorem lX {f:Str × NameKind→Str × NameKind} (hf:∀ y,(f y).1=y.1) (x:Str):∀ names:List (Str × NameKind),(names.map f).lookup x=(names.lookup x).map fun k=>(f (x,k)).2
  | []=>rfl
  | (n,k) :: r=>by
    have ih:=lX hf x r
    have e1:(f (n,k)).1=n:=hf (n,k)
    have e2:f (n,k)=(n,(f (n,k)).2):=Prod.ext e1 rfl
    rw [List.map_cons,e2,List.lookup_cons,List.lookup_cons]
    cases hx:x == n with
    | true =>
      have:x=n:=by simpa using hx
      subst this
      rfl
    | false=>exact ih
def rlb (env:Env):Str × NameKind→Str × NameKind:=fun (n,k)=>if (k == NameKind.free && env.scope.kind == .function && env.kindOf n == some .cell) then (n,NameKind.cell) else (n,k)
theorem yC (env:Env) (y:Str × NameKind):(rlb env y).1=y.1:=by
  obtain ⟨n,k⟩:=y
  unfold rlb
  dsimp only
  split <;> rfl
theorem yx (env:Env) (n:Str) (k:NameKind):(rlb env (n,k)).2=k∨((rlb env (n,k)).2=.cell∧k=.free):=by
  unfold rlb
  dsimp only
  split
  · rename_i h
    rw [Bool.and_eq_true,Bool.and_eq_true] at h
    exact .inr ⟨rfl,by simpa using h.1.1⟩
  · exact .inl rfl
theorem mF (scope:Scope) (env:Env):(relabel scope env).names=scope.names.map (rlb env):=rfl
theorem sI {scope:Scope} {env:Env} {x:Str} (h:scope.names.lookup x=some .free):(relabel scope env).names.lookup x=some .cell∨(relabel scope env).names.lookup x=some .free:=by
  rw [mF,lX (yC env),h]
  rcases yx env x .free with e | ⟨e,_⟩
  · exact .inr (congrArg some e)
  · exact .inl (congrArg some e)
theorem m9 {scope:Scope} {env:Env} {x:Str} {k':NameKind} (hk:k'=.cell∨k'=.free) (hn:∀ y∈scope.names,y.2≠.cell) (h:(relabel scope env).names.lookup x=some k'):(x,NameKind.free)∈scope.names:=by
  rw [mF,lX (yC env)] at h
  cases e:scope.names.lookup x with
  | none=>rw [e] at h;cases h
  | some k =>
    rw [e] at h
    have h':(rlb env (x,k)).2=k':=Option.some.inj h
    have hm:=PySem.mem_of_lookup e
    rcases yx env x k with z | ⟨_,z⟩
    · rw [z] at h'
      subst h'
      rcases hk with z2 | z2
      · exact absurd z2 (hn _ hm)
      · rw [z2] at hm;exact hm
    · rw [z] at hm;exact hm
def PTs (X:Cx) (ifs:List Expr) (t:TT):Prop :=
  ∀ (pins:List (Addr × Obj)) (s:Shared) (σ:St) (H:Hp) (Q:Bool→Hp→Prop),Inv X pins σ H s→t σ H Q →
    wpAny (model X.prog X.w) X.A (forIn ifs true fun c r=>if r=true then do let ok ← isTrue c X.env (eval c X.env);pure (ForInStep.yield ok) else pure (ForInStep.yield r)) (TP X pins σ Q) X.xe s
def TQ:TT:=fun _ H Q=>Q true H
theorem zX {i:Nat} {x:V} {τ:St} {H:Hp} {A B:St→Hp→Prop} (h:A (τ.set i (some x)) H):Bq i x τ H fun τ4 H4=>TQ τ4 H4 fun b H5=>if b=true then A τ4 H5 else B τ4 H5:=by
  show if true=true then A (τ.set i (some x)) H else B (τ.set i (some x)) H
  rw [if_pos rfl];exact h
theorem ji {X:Cx}:PTs X [] TQ:=fun _ _ _ H _ I h=>wpAny_tests_nil ⟨H,I,h⟩
theorem uE {X:Cx} {c:Expr} {t:TT} (h:PT X c t):PTs X [c] t:=fun pins s σ H Q I hq=>wpAny_tests_one (h pins s σ H Q I hq)
def pQ (J:It) (acc:Addr) (g:TG) (tc:TT) (te:TE) (τ:St) (H1:Hp) (Q:Hp→Prop):Prop :=
  ∃ W:Nat→Nat→St→Hp→Prop,(∃ m,W 0 m τ (upd H1 acc (.lst [])))∧∀ i m τ H2,W i m τ H2→(J.stop i H2∧Q H2)∨(J.go i H2∧∃ N:St→Hp→Prop,(∀ τ' H',N τ' H'→∃ m',m'<m∧W (i + 1) m' τ' H')∧∀ x H3,J.yld i H2 x H3→g x τ H3 fun τ4 H4 =>
    tc τ4 H4 fun b H5=>if b=true then te τ4 H5 fun y H6=>∃ ys,H6 acc=some (.lst ys)∧ys.length<sizeLine∧N τ4 (upd H6 acc (.lst (ys++[y]))) else N τ4 H5)
theorem jU {lo:Int} {n:Nat} {acc:Addr} {g:TG} {tc:TT} {te:TE} {τ:St} {H1:Hp} {Q:Hp→Prop} (Pv:Nat→St→Hp→Prop) (h0:Pv 0 τ (upd H1 acc (.lst [])))
    (hs:∀ i τ H,i<n→Pv i τ H→g (.int (lo + i)) τ H fun τ4 H4=>tc τ4 H4 fun b H5=>if b=true then te τ4 H5 fun y H6=>∃ ys,H6 acc=some (.lst ys)∧ys.length<sizeLine∧Pv (i + 1) τ4 (upd H6 acc (.lst (ys++[y]))) else Pv (i + 1) τ4 H5)
    (hd:∀ τ H,Pv n τ H→Q H):pQ (Itr lo n) acc g tc te τ H1 Q:=by
  refine ⟨fun i m τ H=>m=n - i∧i≤n∧Pv i τ H,⟨n,by simp,Nat.zero_le _,h0⟩,?_⟩
  rintro i m τ H ⟨rfl,hi,p⟩
  by_cases hlt:i<n
  · refine .inr ⟨hlt,Pv (i + 1),fun τ' H' p'=>⟨n - (i + 1),by omega,rfl,hlt,p'⟩,fun x H' y=>?_⟩
    obtain ⟨e,y⟩:=y
    subst e y
    exact hs i τ _ hlt p
  · have e:i=n:=by omega
    subst e
    exact .inl ⟨Nat.le_refl _,hd τ H p⟩
theorem pC {K:PySem.W.Frag} {a:Addr} {xs:List V} {acc:Addr} {g:TG} {tc:TT} {te:TE} {τ:St} {H1:Hp} {Q:Hp→Prop} (Pv:Nat→St→Hp→Prop) (h0:Pv 0 τ (upd H1 acc (.lst []))) (hl:∀ i τ H,i≤xs.length→Pv i τ H→SqL K H a xs)
    (hs:∀ i x τ H,xs[i]?=some x→Pv i τ H→g x τ H fun τ4 H4=>tc τ4 H4 fun b H5=>if b=true then te τ4 H5 fun y H6=>∃ ys,H6 acc=some (.lst ys)∧ys.length<sizeLine∧Pv (i + 1) τ4 (upd H6 acc (.lst (ys++[y]))) else Pv (i + 1) τ4 H5)
    (hd:∀ τ H,Pv xs.length τ H→Q H):pQ (Itl K a) acc g tc te τ H1 Q:=by
  refine ⟨fun i m τ H=>m=xs.length - i∧i≤xs.length∧Pv i τ H,⟨xs.length,by simp,Nat.zero_le _,h0⟩,?_⟩
  rintro i m τ H ⟨rfl,hi,p⟩
  have q:=hl i τ H hi p
  by_cases hlt:i<xs.length
  · refine .inr ⟨⟨xs,xs[i],q,by simp [hlt]⟩,Pv (i + 1),fun τ' H' p'=>⟨xs.length - (i + 1),by omega,rfl,hlt,p'⟩,fun x H' y=>?_⟩
    obtain ⟨e,y⟩:=y
    subst e
    exact hs i x τ _ (y xs q) p
  · have e:i=xs.length:=by omega
    subst e
    exact .inl ⟨⟨xs,q,Nat.le_refl _⟩,hd τ H p⟩
def Ky (wi:TI) (cap:List (Option Nat)) (g:TG) (tc:TT) (te:TE):TE:=fun σ H Q=>wi σ H fun J H1=>∀ acc,H1 acc=none→pQ J acc g tc te (zN cap σ) H1 (fun H2=>Q (.ref acc) H2)
abbrev Tf (ifs:List Expr) (env:Env):Sem Bool:=forIn ifs true fun c r=>if r=true then do let ok ← isTrue c env (eval c env);pure (ForInStep.yield ok) else pure (ForInStep.yield r)
abbrev wpQ {α:Type} (prog:Program) (w:World) (A:Around) (m:Sem α) (Q:α→Shared→Prop) (s:Shared):Prop:=wpAny (model prog w) A m Q (fun _ _=>False) s
theorem zJ {prog:Program} {w:World} {A:Around} {R:Result→Shared→Prop} {s:Shared} {elt target iter:Expr} {ifs:List Expr} {scope:Scope} {pos:Pos} {it acc:Value} {env:Env} (I:Nat→Shared→Prop)
    (turn:∀ k s0,I k s0→wpQ prog w A (pyNext it) (fun r s1=>(r=none∧R (.ok .next) s1)∨∃ v,r=some v ∧
      wpQ prog w A (letOwnedTupleGo target it v) (fun _ s2=>wpQ prog w A (assign target env v) (fun _ s3=>wpQ prog w A (Tf ifs env) (fun ok s4 =>
        (ok=false∧∃ m,m<k∧I m s4)∨(ok=true∧wpQ prog w A (eval elt env) (fun x s5=>wpQ prog w A (call (.builtin "list.append") [acc,x]) (fun _ s6=>∃ m,m<k∧I m s6) s5) s4)) s3) s2) s1) s0)
    (k:Nat) (h:I k s):codeAny (model prog w) A (.compLoop (.ListComp elt [⟨target,iter,ifs,0⟩] scope pos) 0 it acc env) R s:=by
  have quiet:∀ (e:Value) (s':Shared),False→notedBy (model prog w) A env (fun e s'=>R (.error e) s') e s':=fun _ _ z=>z.elim
  apply codeAny_loop rfl I _ k h
  intro k s0 start
  apply wpAny_noted
  rw [compTurn_list]
  apply wpAny_bind
  apply wpAny_standAt
  apply wpAny_bind
  apply wpAny_mono (turn k s0 start) _ quiet
  rintro r s1 (⟨rfl,stop⟩ | ⟨v,rfl,rest⟩)
  · exact wpAny_pure stop
  apply wpAny_bind
  apply wpAny_mono rest _ quiet
  intro _ s2 h2
  apply wpAny_bind
  apply wpAny_mono h2 _ quiet
  intro _ s3 h3
  apply wpAny_bind
  apply wpAny_mono h3 _ quiet
  rintro ok s4 (⟨rfl,skip⟩ | ⟨rfl,add⟩)
  · exact wpAny_pure ⟨rfl,skip⟩
  apply wpAny_bind
  apply wpAny_bind
  apply wpAny_mono add _ quiet
  intro x s5 h5
  apply wpAny_bind
  apply wpAny_mono h5 _ quiet
  intro _ s6 h6
  exact wpAny_pure (wpAny_pure ⟨rfl,h6⟩)
section
variable {X:Cx} {tg iter elt:Expr} {ifs:List Expr} {scope:Scope} {pos:Pos} {wi:TI} {N':List Str} {cap:List (Option Nat)} {g:TG} {tc:TT} {te:TE}
theorem qj {use:Option (Value→Sem Unit)} {R:Value→Shared→Prop} (sc:Scope) (hsc:X.env.scope=sc) (N₀:List Str) (hN₀:X.N=N₀) (f1:freeOk sc scope=true) (f2:Ah scope=true) (f3:BJ scope N₀ N' cap=true) (hcalm:X.calm=true)
    (hi:PI X tg iter wi)
    (hg:∀ (s:Shared) (H:Hp) (ex:List Addr),PG (lN X scope N' s H ex) tg g)
    (hc:∀ (s:Shared) (H:Hp) (ex:List Addr),PTs (lN X scope N' s H ex) ifs tc)
    (he:∀ (s:Shared) (H:Hp) (ex:List Addr),PE (lN X scope N' s H ex) elt te)
    (hs:∀ x,foldedSetIterable iter X.env x=pure x)
    {pins:List (Addr × Obj)} {s:Shared} {σ:St} {H:Hp} {Q:V→Hp→Prop} (I:Inv X pins σ H s) (h:Ky wi cap g tc te σ H Q)
    (fin:∀ (acc C:Addr) (s':Shared) (H':Hp) (m:Str→Option Value),Inv X pins σ H' s'→s'.heap.Ns C m→H' C=none→C≠X.env.locals→X.s₀.heap.objs.size≤C→(∀ x c,X.env.cells.lookup x=some c→c≠C)→(∀ p∈X.pn++pins,p.1≠C)→Q (.ref acc) H' →
      compPost (model X.prog X.w) X.A X.xe use R (.ref acc) C (.ok .next) s') :
    wpAny (model X.prog X.w) X.A (comprehension (.ListComp elt [⟨tg,iter,ifs,0⟩] scope pos) scope X.env (firstIterPos [⟨tg,iter,ifs,0⟩] pos) (newList []) false (firstIter [⟨tg,iter,ifs,0⟩] X.env) use) R X.xe s:=by
  have ok:=I.ok
  have fr:∀ y∈scope.names,y.2=.free→X.env.kindOf y.1=some .cell∨X.env.kindOf y.1=some .free:=fun y hy e=>by
    have q:=List.all_eq_true.mp f1 y hy
    rw [e] at q
    have q':((sc.names.lookup y.1 == some NameKind.cell) || (sc.names.lookup y.1 == some NameKind.free))=true:=by simpa using q
    rw [Bool.or_eq_true] at q'
    unfold Env.kindOf
    rw [hsc]
    rcases q' with z | z
    · exact .inl (by simpa using z)
    · exact .inr (by simpa using z)
  obtain ⟨⟨k1,k2⟩,k3⟩:((scope.kind == .function)=true∧(scope.names.all fun y=>y.2 != .cell)=true)∧(scope.names.all fun y=>y.2 != .local || scope.names.lookup y.1 == some .local)=true:=by
    unfold Ah at f2
    rw [Bool.and_eq_true,Bool.and_eq_true] at f2
    exact f2
  have hkind:scope.kind=.function:=by simpa using k1
  have hcell:∀ y∈scope.names,y.2≠.cell:=fun y hy=>by
    have q:=List.all_eq_true.mp k2 y hy
    simpa using q
  have hnames:∀ y∈scope.names,y.2=.local→scope.names.lookup y.1=some .local:=fun y hy e=>by
    have q:=List.all_eq_true.mp k3 y hy
    rw [e] at q
    simpa using q
  have hclos:closureFor scope X.env=pure (clo X.env.cells scope.names []):=pL fun y hy e=>ok.has y.1 (fr y hy e)
  have clX:∀ x c,(clo X.env.cells scope.names []).lookup x=some c→X.env.cells.lookup x=some c:=fun x c e=>by
    have e1:=Ls e
    have hx:(x,NameKind.free)∈scope.names:=by
      rcases wg [] (PySem.mem_of_lookup e) with z | z
      · exact nomatch z
      · exact z
    obtain ⟨c',e2⟩:=ok.has x (fr (x,.free) hx rfl)
    rw [e2] at e1 ⊢
    rw [e1];rfl
  refine wpAny_comprehension_free (use:=use) rfl hs hclos hkind hnames ?_
  show wpAny (model X.prog X.w) X.A (eval iter X.env) _ X.xe s
  refine thn (hi pins s σ H _ I h) fun v s1 h1=>thn h1 fun itv s2 h2=>?_
  obtain ⟨it,fp,tn,J,H2,e,I2,T,st2,f2',h3⟩:=h2
  subst e
  refine wpAny_newObj_type ?_
  have fresh2:H2 s2.heap.objs.size=none:=I2.hok.fresh (Nat.le_refl _)
  have I3:Inv X pins σ (upd H2 s2.heap.objs.size (.lst [])) { s2 with heap:=s2.heap.push { cls:=.type "list",data:=.seq ([]:List Value).toArray } } :=
    I2.laid (t':=s2.toks) (fun b o e=>Heap.get?_push_of_some _ e) (Nat.le_refl _) ⟨Nat.zero_le _,[],0,.nil,Heap.get?_push_size _ rfl⟩
  have st3:tn 0 (s2.heap.push { cls:=.type "list",data:=.seq ([]:List Value).toArray }):=T.keep _ _ _ st2 fun b _ o e=>Heap.get?_push_of_some _ e
  have fpne:∀ b∈fp,b≠s2.heap.objs.size:=fun b hb z=>by
    obtain ⟨o,eo,_⟩:=T.obj 0 _ st2 b hb
    exact absurd (Heap.lt_size eo) (by rw [z];exact Nat.lt_irrefl _)
  have fp3:∀ b∈fp,BW X pins (upd H2 s2.heap.objs.size (.lst [])) b:=fun b hb=>by
    obtain ⟨a0,a1⟩:=f2' b hb
    exact ⟨by rw [bB (fpne b hb)];exact a0,a1⟩
  obtain ⟨W,⟨m0,w0⟩,turn⟩:=h3 s2.heap.objs.size fresh2
  generalize hacc:s2.heap.objs.size=acc at I3 fp3 w0 turn fpne ⊢
  generalize hs3:({ s2 with heap:=s2.heap.push { cls:=.type "list",data:=.seq ([]:List Value).toArray } }:Shared)=s3 at I3 ⊢
  have st3:tn 0 s3.heap:=by rw [← hs3];exact st3
  have accTr:(upd H2 acc (.lst [])) acc=some (.lst []):=cQ
  refine wpAny_newFunctionEnv hcell (by intro y hy;cases hy) (fun h4 hns hsb=>?_) hkind
  have hCf:s3.heap.get? s3.heap.objs.size=none:=Heap.get?_none_of_le (Nat.le_refl _)
  have kp4:∀ b o,s3.heap.get? b=some o→h4.get? b=some o:=fun b o e=>hsb.extBut b o (Nat.ne_of_lt (Heap.lt_size e)) (Heap.get?_push_of_some _ e)
  let Y:Cx:=lN X scope N' s3 (upd H2 acc (.lst [])) fp
  have envY:Y.env=compEnvC scope (clo X.env.cells scope.names []) s3.heap.objs.size X.env:=rfl
  have okY:Y.Ok:=by
    refine ⟨ok.mod,?_,ok.glob,ok.blt,Nat.le_refl _,?_,?_,?_,ok.hd,ok.frames,.inl rfl,?_,?_,?_,?_,?_,?_,?_⟩
    · show (relabel scope X.env).kind=.function
      exact hkind
    · exact fun x y c h1 h2=>ok.inj x y c (clX x c h1) (clX y c h2)
    · intro x hx
      have hx':(relabel scope X.env).names.lookup x=some .cell∨(relabel scope X.env).names.lookup x=some .free:=hx
      have hm:(x,NameKind.free)∈scope.names:=by
        rcases hx' with z | z
        · exact m9 (.inl rfl) hcell z
        · exact m9 (.inr rfl) hcell z
      exact Option.isSome_iff_exists.mp (uP scope.names [] x hm)
    · intro x c hx h1
      have hx':((clo X.env.cells scope.names []).lookup x).isNone=true:=hx
      have h1':(clo X.env.cells scope.names []).lookup x=some c:=h1
      rw [h1'] at hx';cases hx'
    · intro b hb
      obtain ⟨q0,q1,q2,q3,q4,q5⟩:=fp3 b hb
      refine ⟨?_,fun x c h1=>q4 x c (clX x c h1)⟩
      obtain ⟨o,eo,_⟩:=T.obj 0 _ st3 b hb
      exact Nat.ne_of_lt (Heap.lt_size eo)
    · exact fun b o e=>I3.bs b o e
    · exact Nat.le_trans ok.bsz I3.sz
    · intro b o e hb
      obtain ⟨q0,q1,q2,q3,q4,q5⟩:=fp3 b hb
      rcases q3 with z | z
      · exact ok.noex b o e z
      · exact absurd (Nat.lt_of_lt_of_le (Heap.lt_size e) (Nat.le_trans ok.bsz z)) (Nat.lt_irrefl _)
    · intro b hb hf
      obtain ⟨q0,q1,q2,q3,q4,q5⟩:=fp3 b hb
      rcases List.mem_cons.mp (I3.xO b hf) with z | z
      · exact q1 z
      · exact q2 z
    · exact I3.stack
    · exact I3.ur
  have capl:cap.length=N'.length∧∀ p∈N'.zip cap,(match p.2 with | none=>true | some j=>N₀[j]? == some p.1 && scope.names.lookup p.1 == some .free)=true:=by
    unfold BJ at f3
    rw [Bool.and_eq_true] at f3
    exact ⟨by simpa using f3.1,fun p hp=>List.all_eq_true.mp f3.2 p hp⟩
  have IY:Inv Y [] (zN cap σ) (upd H2 acc (.lst [])) { s3 with heap:=h4,toks:=s3.toks + ([]:List (Str × Value)).length }:=by
    refine ⟨okY,rfl,I3.bare,Un.kept kp4,⟨_,hns,?_⟩,?_,?_,?_,fun p hp=>absurd (show p∈([]:List (Addr × Obj)) from hp) (by simp),I3.hok.kept kp4,?_⟩
    · intro i x v e1 e2 e3
      have e1':N'[i]?=some x:=e1
      unfold zN at e2
      rw [List.getElem?_map] at e2
      cases ec:cap[i]? with
      | none=>rw [ec] at e2;cases e2
      | some o =>
        rw [ec] at e2
        cases o with
        | none=>cases e2
        | some j =>
          have e2':(σ[j]?).bind id=some v:=by simpa using e2
          have hz:(x,some j)∈N'.zip cap:=by
            refine List.mem_of_getElem? (i:=i) ?_
            rw [List.getElem?_zip_eq_some]
            exact ⟨e1',ec⟩
          have q:=capl.2 _ hz
          have q':(N₀[j]? == some x)=true∧(scope.names.lookup x == some NameKind.free)=true:=by simpa [Bool.and_eq_true] using q
          have q1:X.N[j]?=some x:=by rw [hN₀];simpa using q'.1
          have q2:scope.names.lookup x=some .free:=by simpa using q'.2
          have eσ:σ[j]?=some (some v):=by
            cases z:σ[j]? with
            | none=>rw [z] at e2';cases e2'
            | some y =>
              rw [z] at e2'
              have:y=some v:=e2'
              rw [this]
          have hk:=fr (x,.free) (PySem.mem_of_lookup q2) rfl
          obtain ⟨m,hn,hl⟩:=I3.loc
          have vis:Vis X.env.scope x:=by
            rcases hk with z | z
            · exact .inr (.inl z)
            · exact .inr (.inr z)
          obtain ⟨u,r,l⟩:=hl j x v q1 eσ vis
          refine ⟨u,r,.inr ⟨?_,?_⟩⟩
          · rcases sI (scope:=scope) (env:=X.env) q2 with z | z
            · exact .inl z
            · exact .inr z
          · rcases l with ⟨kl,_⟩ | ⟨_,c,ecx,hcx⟩
            · rcases hk with z | z
              · have z':X.env.kindOf x=some .cell:=z
                rw [kl] at z';cases z'
              · have z':X.env.kindOf x=some .free:=z
                rw [kl] at z';cases z'
            · have hh:=uP (cells:=X.env.cells) scope.names [] x (PySem.mem_of_lookup q2)
              obtain ⟨c',ec'⟩:=Option.isSome_iff_exists.mp hh
              have ec2:=clX x c' ec'
              rw [ecx] at ec2
              cases ec2
              exact ⟨c,ec',hcx.keeps kp4⟩
    · intro x c e
      obtain ⟨v,z⟩:=I3.cell x c (clX x c e)
      exact ⟨v,z.keeps kp4⟩
    · exact I3.hok.fresh (Nat.le_refl _)
    · exact fun x c e=>I3.freeC x c (clX x c e)
    · show (zN cap σ).length=N'.length
      unfold zN
      rw [List.length_map];exact capl.1
  have fpY:∀ {H':Hp},(∀ b∈fp,H' b=none)→∀ b∈fp,BW Y [] H' b:=fun {H'} hn b hb=>by
    obtain ⟨q0,q1,q2,q3,q4,q5⟩:=fp3 b hb
    refine ⟨hn b hb,(okY.exf b hb).1,okY.exfs b hb,.inl hb,(okY.exf b hb).2,fun p hp=>absurd (show p∈([]:List (Addr × Obj)) from hp) (by simp)⟩
  have st4:tn 0 h4:=T.keep _ _ _ st3 fun b _ o e=>kp4 b o e
  have back:∀ {τ:St} {H':Hp} {s':Shared},Inv Y [] τ H' s'→Q (.ref acc) H'→compPost (model X.prog X.w) X.A X.xe use R (.ref acc) s3.heap.objs.size (.ok .next) s':=fun {τ H' s'} J q=>by
    have un:Un (frs X.stack) fp (upd H2 acc (.lst [])) H' s3.heap s'.heap:=J.base
    have IX:Inv X pins σ H' s':=I3.call' (J.os) un J.hok J.bare fun b hb=>by
      obtain ⟨q0,q1,q2,q3,q4,q5⟩:=fp3 b hb
      exact ⟨q3,q1,q4,q5⟩
    obtain ⟨m,hn,_⟩:=J.loc
    refine fin acc s3.heap.objs.size s' H' m IX hn J.free (Nat.ne_of_gt I3.lt) I3.sz (fun x c e z=>?_) (fun p hp z=>?_) q
    · obtain ⟨v,q⟩:=I3.cell x c e
      exact absurd q.lt (by rw [z];exact Nat.lt_irrefl _)
    · exact absurd (Heap.lt_size (I3.pin p hp).1) (by rw [z];exact Nat.lt_irrefl _)
  have loop:∀ s5:Shared,s5={ s3 with heap:=h4,toks:=s3.toks + ([]:List (Str × Value)).length } →
      codeAny (model X.prog X.w) X.A (.compLoop (.ListComp elt [⟨tg,iter,ifs,0⟩] scope pos) 0 (.ref it) (.ref acc) Y.env) (compPost (model X.prog X.w) X.A X.xe use R (.ref acc) s3.heap.objs.size) s5:=by
    rintro s5 rfl
    refine zJ (fun n s'=>∃ i τ H',Inv Y [] τ H' s'∧tn i s'.heap∧(∀ b∈fp,H' b=none)∧W i n τ H') ?_ m0 ⟨0,_,_,IY,st4,fun b hb=>(fp3 b hb).1,w0⟩
    rintro n s6 ⟨i,τ,H6,I6,st6,fr6,w6⟩
    rcases turn i n τ H6 w6 with ⟨stop,q⟩ | ⟨go,N,hN,step⟩
    · refine wpAny_mono (T.done Y rfl rfl rfl hcalm i [] s6 τ H6 (fun _ _=>False) I6 (fpY fr6) st6 stop) (fun r s7 ⟨hr,I7⟩=>?_) fun _ _ z=>z.elim
      exact .inl ⟨hr,back I7 q⟩
    · refine wpAny_mono (T.item Y rfl rfl rfl hcalm i [] s6 τ H6 (fun _ _=>False) I6 (fpY fr6) st6 go) (fun r s6b ⟨u,hr,h7⟩=>?_) fun _ _ z=>z.elim
      refine .inr ⟨u,hr,?_⟩
      refine wpAny_mono h7 (fun _ s7 ⟨x,H7,I7,r7,y7,st7,fr7⟩=>?_) fun _ _ z=>z.elim
      have I7':=I7.pinned (fpY fr7) (T.obj _ _ st7)
      have again:∀ {τ8:St} {H8:Hp} {s8:Shared},Inv Y ([]++sU fp s7.heap) τ8 H8 s8→N τ8 H8→∃ m,m<n∧∃ i τ H',Inv Y [] τ H' s8∧tn i s8.heap∧(∀ b∈fp,H' b=none)∧W i m τ H':=fun {τ8 H8 s8} I8 n8=>by
        obtain ⟨m',hm,w8⟩:=hN τ8 H8 n8
        refine ⟨m',hm,i + 1,τ8,H8,I8.nQ,T.keep _ _ _ st7 fun b hb o e=>(I8.pin (b,o) (List.mem_append_right _ (List.mem_append_right _ (lD hb e)))).1,fun b hb=>?_,w8⟩
        obtain ⟨o,e,d⟩:=T.obj _ _ st7 b hb
        exact (I8.pin (b,o) (List.mem_append_right _ (List.mem_append_right _ (lD hb e)))).2.1
      refine wpAny_mono (hg s3 (upd H2 acc (.lst [])) fp _ s7 τ H7 x u _ I7' r7 (step x H7 y7)) (fun _ s8 ⟨τ8,H8,I8,q8⟩=>?_) fun _ _ z=>z.elim
      refine wpAny_mono (hc s3 (upd H2 acc (.lst [])) fp _ s8 τ8 H8 _ I8 q8) (fun b s9 ⟨H9,I9,q9⟩=>?_) fun _ _ z=>z.elim
      cases b with
      | false =>
        rw [if_neg Bool.false_ne_true] at q9
        exact .inl ⟨rfl,again I9 q9⟩
      | true =>
        rw [if_pos rfl] at q9
        refine .inr ⟨rfl,?_⟩
        refine wpAny_mono (he s3 (upd H2 acc (.lst [])) fp _ s9 τ8 H9 _ I9 q9) (fun y s10 ⟨yv,H10,I10,r10,ys,hl,hz,q10⟩=>?_) fun _ _ z=>z.elim
        refine wpAny_mono (bV (X:=Y) _ s10 τ8 H10 (.ref acc) [yv] (.ref acc) [y] (fun v H'=>N τ8 H') I10 rfl (.cons r10 .nil) ⟨acc,ys,yv,rfl,rfl,hl,hz,q10⟩) (fun v s11 ⟨vv,H11,I11,r11,q11⟩=>?_) fun _ _ z=>z.elim
        exact again I11 q11
  exact codeAny_compStart_list (loop _ rfl) (T.self _ _ _ _ _ st4 (loop _ rfl))
theorem j6 (sc:Scope) (hsc:X.env.scope=sc) (N₀:List Str) (hN₀:X.N=N₀) (N':List Str) (cap:List (Option Nat)) (f1:freeOk sc scope=true) (f2:Ah scope=true) (f3:BJ scope N₀ N' cap=true) (hcalm:X.calm=true)
    (hi:PI X tg iter wi)
    (hg:∀ (s:Shared) (H:Hp) (ex:List Addr),PG (lN X scope N' s H ex) tg g)
    (hc:∀ (s:Shared) (H:Hp) (ex:List Addr),PTs (lN X scope N' s H ex) ifs tc)
    (he:∀ (s:Shared) (H:Hp) (ex:List Addr),PE (lN X scope N' s H ex) elt te)
    (hs:∀ x,foldedSetIterable iter X.env x=pure x:=by intro _;rfl) :
    PE X (.ListComp elt [⟨tg,iter,ifs,0⟩] scope pos) (Ky wi cap g tc te):=by
  intro pins s σ H Q I h
  rw [eval_ListComp]
  refine qj (use:=none) sc hsc N₀ hN₀ f1 f2 f3 hcalm hi hg hc he hs I h ?_
  intro acc C s' H' m IX hn hC h1 h2 h3 h4 q
  refine ⟨m,hn,fun h'' hs''=>?_⟩
  exact ⟨.ref acc,H',IX.turned (t':=s'.toks) (fun b o hb e=>(hs''.2 b hb).trans e) hC h1 (.inr h2) h3 h4,rfl,q⟩
theorem jQ {i:Nat} {x:Str} {pos' spos:Pos} (sc:Scope) (hsc:X.env.scope=sc) (N₀:List Str) (hN₀:X.N=N₀) (N':List Str) (cap:List (Option Nat)) (f1:freeOk sc scope=true) (f2:Ah scope=true) (f3:BJ scope N₀ N' cap=true) (hcalm:X.calm=true)
    (hnd:X.N.Nodup) (hix:X.N[i]?=some x) (hx:X.env.scope.names.lookup x=some .local)
    (hi:PI X tg iter wi)
    (hg:∀ (s:Shared) (H:Hp) (ex:List Addr),PG (lN X scope N' s H ex) tg g)
    (hc:∀ (s:Shared) (H:Hp) (ex:List Addr),PTs (lN X scope N' s H ex) ifs tc)
    (he:∀ (s:Shared) (H:Hp) (ex:List Addr),PE (lN X scope N' s H ex) elt te)
    (hsw:swapsWith (.ListComp elt [⟨tg,iter,ifs,0⟩] scope pos) (some (.Name x pos')) spos.line X.env=pure true)
    (hs:∀ x,foldedSetIterable iter X.env x=pure x:=by intro _;rfl) :
    PS X (.Assign [.Name x pos'] (.ListComp elt [⟨tg,iter,ifs,0⟩] scope pos) spos) (T8 (Ky wi cap g tc te) (Bq i)):=by
  intro pins s σ H D I h
  rw [exec_Assign_Name_used _ _ _ _ hsw]
  refine wpAny_bind (wpAny_standAt (wpAny_bind ?_))
  show wpAny _ X.A (do let _ ← comprehension (.ListComp elt [⟨tg,iter,ifs,0⟩] scope pos) scope X.env _ (newList []) false (firstIter [⟨tg,iter,ifs,0⟩] X.env) (some (assign (.Name x pos') X.env))) _ _ s
  refine wpAny_bind (wpAny_mono (qj (use:=some (assign (.Name x pos') X.env)) (R:=fun _ s'=>SP X pins D .next s') sc hsc N₀ hN₀ f1 f2 f3 hcalm hi hg hc he hs I h ?_) (fun _ s' hq=>wpAny_pure (wpAny_pure hq)) fun _ _ e=>e)
  intro acc C s' H' m IX hn hC h1 h2 h3 h4 q
  show wpAny _ X.A (assign (.Name x pos') X.env (.ref acc)) _ _ _
  refine wpAny_assign_Name (rN (v:=.ref acc) IX hnd hix (.inl hx) rfl (fun s2 I2 hsb=>?_) (.inr hx))
  obtain ⟨a,sb,ha⟩:=hsb
  have hCa:C≠a:=by
    rcases ha with z | z
    · rw [z];exact h1
    · exact fun w=>h3 x a z w.symm
  refine ⟨m,hn.sameBut sb hCa,fun h'' hs''=>?_⟩
  exact ⟨_,H',I2.turned (t':=s2.toks) (fun b o hb e=>(hs''.2 b hb).trans e) hC h1 (.inr h2) h3 h4,q⟩
end
end L2
namespace L2
open PySem PySem.Spec PyProof.Rows
section
variable {X:Cx}
def V9 (K:PySem.W.Frag) (neg:Bool):R2:=fun x y H Q=>∃ (a b:Addr) (ns ms:List Int),x=.ref a∧y=.ref b∧SqL K H a (ns.map V.int)∧SqL K H b (ms.map V.int)∧Q (.bl (if neg then !decide (ns=ms) else decide (ns=ms))) H
theorem wL:∀ (bs:List Bool),((List.range bs.length).all fun i=>(bs[i]?).getD true)=bs.all id:=by
  intro bs
  rw [Bool.eq_iff_iff]
  simp only [List.all_eq_true,List.mem_range,id_eq]
  constructor
  · intro h b hb
    obtain ⟨i,hi,e⟩:=List.getElem_of_mem hb
    have:=h i hi
    rw [List.getElem?_eq_getElem hi,e] at this
    exact this
  · intro h i hi
    rw [List.getElem?_eq_getElem hi]
    exact h _ (List.getElem_mem hi)
theorem mL (hc:X.calm=true):nP X (.builtin "all") (fun xs H Q=>∃ (p:Addr) (bs:List Bool),xs=[.ref p]∧SqL X.K H p (bs.map V.bl)∧Q (.bl (bs.all id)) H):=by
  intro pins s σ H xs us Q I r h
  obtain ⟨p,bs,rfl,hq,q⟩:=h
  obtain ⟨u,rfl,ru⟩:=vals1 r
  cases ru
  obtain ⟨its,r1,p1,hz⟩:=I.list hq
  have hl:=p1.isList
  have hlt:p<s.heap.objs.size:=p1.lt
  have hlen:=r1.length
  rw [List.length_map] at hlen
  refine call_all_walk (wpAny_pyIter_list hl ?_)
  refine ⟨s.heap.objs.size,[s.heap.objs.size,p],[s.heap.objs.size],its.toArray.size,_,_,fun i=>(bs[i]?).getD true,rfl,Walks.list (A:=X.A.in1) (I.ok.hd hc) _ p (Nat.ne_of_lt hlt) its.toArray,
    ⟨⟨_,Heap.get?_push_size _ rfl,rfl,rfl⟩,hl.push _⟩,fun i v s' Q' E' hP hQ=>?_,fun h' tk hk=>?_⟩
  · have hP':its[i]?=some v:=by simpa using hP
    have hi:i<bs.length:=by
      have:=(List.getElem?_eq_some_iff.mp hP').1
      omega
    obtain ⟨u,eu,ru⟩:=r1.get (x:=.bl bs[i]) (by rw [List.getElem?_map,List.getElem?_eq_getElem hi];rfl)
    rw [hP'] at eu
    cases eu
    cases ru
    dsimp only at hQ
    rw [List.getElem?_eq_getElem hi] at hQ
    exact wpAny_truthy_bool hQ
  · have e:((List.range its.toArray.size).all fun i=>(bs[i]?).getD true)=bs.all id:=by
      rw [List.size_toArray,← hlen];exact wL bs
    rw [e]
    refine ⟨.bl _,H,I.kept fun b o eo=>hk b o (fun hm=>?_) (Heap.get?_push_of_some _ eo),rfl,q⟩
    rw [List.mem_singleton.mp hm] at eo
    exact Nat.lt_irrefl _ (Heap.lt_size eo)
end
end L2
namespace L2
open PySem PySem.Spec PyProof.Rows
section
variable {X:Cx} {st:Stmt} {rest:List Stmt} {t u:TS}
def TV (t u:TS):TS:=fun D σ H=>∃ M:St→Hp→Prop,t { D with nx:=M } σ H∧∀ σ' H',M σ' H'→u D σ' H'
theorem iI (h1:PS X st t) (h2:PSs X rest u):PSs X (st :: rest) (TV t u):=by
  intro pins s σ H D I h
  obtain ⟨M,ha,hb⟩:=h
  refine wpAny_execs_cons (thn (h1 pins s σ H { D with nx:=M } I ha) fun f s1 q=>?_)
  cases f with
  | next =>
    obtain ⟨σ',H',I',q⟩:=q
    exact h2 pins s1 σ' H' D I' (hb σ' H' q)
  | ret v=>exact q
  | brk=>exact q
  | cont=>exact q
end
end L2
namespace L2
open PySem PySem.Spec PyProof.Rows
def Wo (H:Hp) (P:List V→Prop) (Q:VK):Prop:=∀ (l:Addr) (H':Hp) (xs:List V),Same H H'→H l=none→H' l=some (.lst xs)→P xs→Q (.ref l) H'
structure Df (K:PySem.W.Frag) (mg:Str→Option Value) (x:Str) (st:Stmt) (ps:List Str) (a:Addr) (fd:FuncData):Prop where
  F:Fun K x x st a fd
  b:Binds K fd ps []
  m:mg x=some (.ref a)
theorem Same.upd {H H':Hp} {l:Addr} {o:HO} (s:Same H H') (h:H l=none):Same H (L2.upd H' l o):=fun b u e=>by
  rw [bB (dI e h)];exact s b u e
theorem ints_get {ns:List Int} {i:Nat} {y:V} (h:(ns.map V.int)[i]?=some y):∃ z,ns[i]?=some z∧y=V.int z:=by
  rw [List.getElem?_map] at h
  cases e:ns[i]? with
  | none=>rw [e] at h;cases h
  | some z=>rw [e] at h;exact ⟨z,rfl,(Option.some.inj h).symm⟩
theorem bJ {ns:List Int} {i:Nat} {z:Int} (h:ns[i]?=some z):atI (ns.map V.int) (i:Int)=some (V.int z):=dW (by rw [List.getElem?_map,h];rfl)
theorem mH {ns:List Int} {i:Int} {z:Int} (h0:0≤i) (h:ns[i.toNat]?=some z):atI (ns.map V.int) i=some (V.int z):=by
  obtain ⟨k,rfl⟩:=Int.eq_ofNat_of_zero_le h0
  exact bJ (by simpa using h)
theorem gC {n j:Nat} (h:j<n):ixN n (j:Int)=some j:=by
  unfold ixN
  rw [if_pos (by omega),if_pos (by omega)];simp
theorem gP {n:Nat} (h:n≤100000):n≤sizeLine:=Nat.le_trans h (by decide)
theorem aX {n:Nat} (h:n≤100000):n<sizeLine:=Nat.lt_of_le_of_lt h (by decide)
structure Blt (mg:Str→Option Value):Prop where
  len:mg "len"=none
  range:mg "range"=none
  list:mg "list"=none
  isinstance:mg "isinstance"=none
  bool:mg "bool"=none
  int:mg "int"=none
  all:mg "all"=none
  min:mg "min"=none
  max:mg "max"=none
  sum:mg "sum"=none
  sorted:mg "sorted"=none
  zip:mg "zip"=none
  tuple:mg "tuple"=none
  str:mg "str"=none
  any:mg "any"=none
  enumerate:mg "enumerate"=none
  reversed:mg "reversed"=none
  abs:mg "abs"=none
  ValueError:mg "ValueError"=none
  set:mg "set"=none
structure Mth (mg:Str→Option Value):Prop where
  MOUTH:∃ t,mg "MOUTH"=some (.int (-1) t)
section
variable {X:Cx} {K:PySem.W.Frag}
theorem lE (h:X.K=K):IxR X (V8 K):=h ▸ aJ
theorem oZ (h:X.K=K):IxR X (V7 K):=h ▸ aQ
theorem mK (h:X.K=K):nP X (.builtin "len") (fun xs H Q=>∃ p ys,xs=[.ref p]∧(SqL K H p ys∨SqT K H p ys)∧Q (.int ys.length) H):=h ▸ aM
end
end L2
namespace L2
open PySem PySem.W PyProof.Rows
section
variable {N:Nat} {κ:Nat→Int} {R:Shared→Prop} {cmp:Nat→Nat→(Bool→Shared→Prop)→Shared→Prop}
def Cmp (N:Nat) (κ:Nat→Int) (R:Shared→Prop) (cmp:Nat→Nat→(Bool→Shared→Prop)→Shared→Prop):Prop :=
  ∀ i j C s,i<N→j<N→R s→(∀ s',R s'→C (decide (κ i<κ j)) s')→cmp i j C s
def Inj (N:Nat) (κ:Nat→Int):Prop:=∀ i j,i<N→j<N→i≠j→κ i≠κ j
variable (hc:Cmp N κ R cmp) (hI:Inj N κ)
include hc hI
end
end L2
namespace L2
open PySem PySem.Spec PyProof.Rows
section
variable {X:Cx} {pins:List (Addr × Obj)} {σ:St} {H:Hp} {s:Shared} {a:Addr} {o:HO}
theorem Inv.adopt (I:Inv X pins σ H s) (hn:H a=none) (hL:a≠X.env.locals) (h0:X.s₀.heap.objs.size≤a) (hc:∀ x c,X.env.cells.lookup x=some c→c≠a) (hp:∀ p∈X.pn++pins,p.1≠a)
    (new:jz X.prog X.w (upd H a o) s.heap a o):Inv X pins σ (upd H a o) s:=by
  have ne:∀ b u,H b=some u→b≠a:=fun b u e=>dI e hn
  refine ⟨I.ok,I.os,I.bare,⟨I.base.keep,I.base.slot,fun b ob e n hx=>?_,I.base.there,fun b xs e=>?_,fun b ob xs e=>?_,fun b ps e=>?_⟩,I.loc,I.cell,?_,fun x c e=>?_,fun p hq=>?_,fun b u e=>?_,I.len⟩
  · rw [bB (Nat.ne_of_lt (Nat.lt_of_lt_of_le (Heap.lt_size e) h0))];exact I.base.free b ob e n hx
  · have:=I.base.tups b xs e;rw [bB (ne b _ this)];exact this
  · have:=I.base.frzs b ob xs e;rw [bB (ne b _ this)];exact this
  · obtain ⟨m,e1⟩:=I.base.tbls b ps e;exact ⟨m,by rw [bB (ne b _ e1)];exact e1⟩
  · rw [bB hL.symm];exact I.free
  · rw [bB (hc x c e)];exact I.freeC x c e
  · obtain ⟨e1,n,r⟩:=I.pin p hq;exact ⟨e1,by rw [bB (hp p hq)];exact n,r⟩
  · by_cases hb:b=a
    · subst hb;rw [cQ] at e;cases e;exact new
    · rw [bB hb] at e
      exact (I.hok b u e).stay (fun _ _ _ q=>q) (fun c q=>by rw [bB (ne c _ q)];exact q) fun c xs q=>by rw [bB (ne c _ q)];exact q
end
end L2
namespace L2
open PySem PySem.W PySem.Spec PyProof.Rows
end L2
namespace L2
open PySem PySem.W PySem.Spec PyProof.Rows
end L2
namespace L2
open PySem PySem.W PySem.Spec PyProof.Rows
end L2
namespace L2
open PySem PySem.W PySem.Spec PyProof.Rows
end L2
namespace L2
open PySem PySem.W PySem.Spec PyProof.Rows
section
variable {X:Cx} {pins:List (Addr × Obj)} {σ:St} {H:Hp} {s:Shared}
def TabOk (P:Addr) (pos:Pos) (qual:Str) (H:Hp):Prop:=H P=some (.tbl #[])∨∃ c':Addr,H P=some (.tbl #[rawInt pos.line,rawInt pos.col,.ref c'])∧H c'=some (.ext fun h=>h.CodeRec (.ref c') qual)
end
end L2
namespace L2
open PySem PySem.W PySem.Spec PyProof.Rows
end L2
namespace L2
open PySem PySem.W PySem.Spec PyProof.Rows
end L2
namespace L2
open PySem PySem.Spec PyProof.Rows
mutual
inductive Den (K:PySem.W.Frag) (H:Hp):V→PyData→Prop
  | non:Den K H .non .none
  | bl (b:Bool):Den K H (.bl b) (.bool b)
  | int (i:Int):Den K H (.int i) (.int i)
  | str (x:Str):Den K H (.str x) (.str x)
  | list {a:Addr} {xs:List V} {ds:List PyData}:SqL K H a xs→cR K H xs ds→Den K H (.ref a) (.list ds)
  | tuple {a:Addr} {xs:List V} {ds:List PyData}:SqT K H a xs→cR K H xs ds→Den K H (.ref a) (.tuple ds)
inductive cR (K:PySem.W.Frag) (H:Hp):List V→List PyData→Prop
  | nil:cR K H [] []
  | cons {v:V} {vs:List V} {d:PyData} {ds:List PyData}:Den K H v d→cR K H vs ds→cR K H (v :: vs) (d :: ds)
end
theorem cR.length {K:PySem.W.Frag} {H:Hp}:∀ {vs:List V} {ds:List PyData},cR K H vs ds→vs.length=ds.length
  | _,_,.nil=>rfl
  | _,_,.cons _ hs=>by rw [List.length_cons,List.length_cons,cR.length hs]
theorem cR.append {K:PySem.W.Frag} {H:Hp}:∀ {vs ws:List V} {ds es:List PyData},cR K H vs ds→cR K H ws es→cR K H (vs++ws) (ds++es)
  | _,_,_,_,.nil,h=>h
  | _,_,_,_,.cons h hs,h'=>.cons h (cR.append hs h')
theorem cR.get {K:PySem.W.Frag} {H:Hp}:∀ {vs:List V} {ds:List PyData} {i:Nat} {d:PyData},cR K H vs ds→ds[i]?=some d→∃ v,vs[i]?=some v∧Den K H v d
  | _,_,_,_,.nil,e=>by simp at e
  | _,_,0,_,.cons h _,e=>by simp at e;subst e;exact ⟨_,rfl,h⟩
  | _,_,i + 1,d,.cons _ hs,e=>by
    obtain ⟨v,h1,h2⟩:=cR.get (i:=i) (d:=d) hs (by simpa using e)
    exact ⟨v,by simpa using h1,h2⟩
theorem cR.get' {K:PySem.W.Frag} {H:Hp}:∀ {vs:List V} {ds:List PyData} {i:Nat} {v:V},cR K H vs ds→vs[i]?=some v→∃ d,ds[i]?=some d∧Den K H v d
  | _,_,_,_,.nil,e=>by simp at e
  | _,_,0,_,.cons h _,e=>by simp at e;subst e;exact ⟨_,rfl,h⟩
  | _,_,i + 1,v,.cons _ hs,e=>by
    obtain ⟨d,h1,h2⟩:=cR.get' (i:=i) (v:=v) hs (by simpa using e)
    exact ⟨d,by simpa using h1,h2⟩
theorem cR.set {K:PySem.W.Frag} {H:Hp} {v:V} {d:PyData} (h:Den K H v d):∀ {vs:List V} {ds:List PyData} (i:Nat),cR K H vs ds→cR K H (vs.set i v) (ds.set i d)
  | _,_,_,.nil=>.nil
  | _,_,0,.cons _ hs=>.cons h hs
  | _,_,i + 1,.cons q hs=>.cons q (cR.set h i hs)
theorem cR.ints {K:PySem.W.Frag} {H:Hp}:∀ (ns:List Int),cR K H (ns.map V.int) (ns.map PyData.int)
  | []=>.nil
  | n :: ns=>.cons (.int n) (cR.ints ns)
def zH (ns:List Int):PyData:=.list (ns.map PyData.int)
theorem Den.ints {K:PySem.W.Frag} {H:Hp} {a:Addr} {ns:List Int} (h:SqL K H a (ns.map V.int)):Den K H (.ref a) (zH ns):=.list h (cR.ints ns)
theorem cR.int_inv {K:PySem.W.Frag} {H:Hp}:∀ {vs:List V} {ns:List Int},cR K H vs (ns.map PyData.int)→vs=ns.map V.int
  | _,[],.nil=>rfl
  | _,n :: ns,.cons h hs=>by
    cases h
    rw [cR.int_inv hs];rfl
theorem Den.int_inv {K:PySem.W.Frag} {H:Hp} {v:V} {i:Int} (h:Den K H v (.int i)):v=.int i:=by cases h;rfl
section
variable {X:Cx} {pins:List (Addr × Obj)} {σ:St} {H:Hp} {s:Shared}
mutual
theorem Den.reads (I:Inv X pins σ H s):∀ {v:V} {d:PyData} {u:Value},Den X.K H v d→RelV v u→∃ as,Reads s.heap u d as
  | _,_,_,.non,r=>by cases r;exact ⟨_,.none⟩
  | _,_,_,.bl b,r=>by cases r;exact ⟨_,.bool b⟩
  | _,_,_,.int i,r=>by obtain ⟨t,rfl⟩:=r;exact ⟨_,.int i t⟩
  | _,_,_,.str x,r=>by obtain ⟨t,rfl⟩:=r;exact ⟨_,.str x t⟩
  | _,_,_,.list h hs,r=>by
    cases r
    obtain ⟨its,r1,⟨o,n,e,c,_,d⟩,_⟩:=I.list h
    obtain ⟨as,q⟩:=cR.reads I hs r1
    exact ⟨_,.list e c d (by simpa using q)⟩
  | _,_,_,.tuple h hs,r=>by
    cases r
    obtain ⟨its,r1,⟨o,e,c,n,d⟩,_⟩:=I.tuple h
    obtain ⟨as,q⟩:=cR.reads I hs r1
    exact ⟨_,.tuple e c d (by simpa using q)⟩
theorem cR.reads (I:Inv X pins σ H s):∀ {vs:List V} {ds:List PyData} {us:List Value},cR X.K H vs ds→Vals vs us→∃ as,ReadsAll s.heap us ds as
  | _,_,_,.nil,r=>by cases r;exact ⟨_,.nil⟩
  | _,_,_,.cons h hs,r=>by
    cases r with
    | cons r1 r2 =>
      obtain ⟨as,q⟩:=Den.reads I h r1
      obtain ⟨bs,q'⟩:=cR.reads I hs r2
      exact ⟨_,.cons q q'⟩
end
def Wa (K:PySem.W.Frag) (neg:Bool):R2:=fun x y H Q=>∃ d e,Den K H x d∧Den K H y e∧SeqAt.shaped d=true∧SeqAt.shaped e=true∧Q (.bl (if neg then !PyData.eqv d e else PyData.eqv d e)) H
theorem p7 (hu:X.A.units + 64<cLine):OpR X (compareOp .Eq) (Wa X.K false):=by
  intro pins s σ H x y v u Q I rx ry h
  obtain ⟨d,e,hd,he,sd,se,q⟩:=h
  obtain ⟨as,ra⟩:=hd.reads I rx
  obtain ⟨bs,rb⟩:=he.reads I ry
  exact SeqAt.compareEq_shaped ra rb sd se hu ⟨.bl _,H,I,rfl,q⟩
theorem nq (hu:X.A.units + 64<cLine):OpR X (compareOp .NotEq) (Wa X.K true):=by
  intro pins s σ H x y v u Q I rx ry h
  obtain ⟨d,e,hd,he,sd,se,q⟩:=h
  obtain ⟨as,ra⟩:=hd.reads I rx
  obtain ⟨bs,rb⟩:=he.reads I ry
  exact SeqAt.compareNe_shaped ra rb sd se hu ⟨.bl _,H,I,rfl,q⟩
end
def Sh (n:Nat) (d:PyData):Prop:=d.canLay0=true∧d.depth≤n
theorem zO:∀ {ds:List PyData},(∀ d∈ds,d.canLay0=true)→PyData.canLayAll0 ds=true
  | [],_=>rfl
  | d :: ds,h=>by rw [PyData.canLayAll0,h d List.mem_cons_self,zO fun x hx=>h x (List.mem_cons_of_mem _ hx)];rfl
theorem zA {n:Nat}:∀ {ds:List PyData},(∀ d∈ds,d.depth≤n)→PyData.depthAll ds≤n
  | [],_=>by simp [PyData.depthAll]
  | d :: ds,h=>by
    have h1:=h d List.mem_cons_self
    have h2:=zA fun x hx=>h x (List.mem_cons_of_mem _ hx)
    simp only [PyData.depthAll]
    omega
theorem Sh.int (n:Nat) (i:Int):Sh n (.int i):=⟨rfl,by simp [PyData.depth]⟩
theorem Sh.list {n:Nat} {ds:List PyData} (h:∀ d∈ds,Sh n d):Sh (n + 1) (.list ds):=⟨by rw [PyData.canLay0];exact zO fun d hd=>(h d hd).1,by
  have:=zA fun d hd=>(h d hd).2
  simp only [PyData.depth];omega⟩
theorem Sh.tuple {n:Nat} {ds:List PyData} (h:∀ d∈ds,Sh n d):Sh (n + 1) (.tuple ds):=⟨by rw [PyData.canLay0];exact zO fun d hd=>(h d hd).1,by
  have:=zA fun d hd=>(h d hd).2
  simp only [PyData.depth];omega⟩
theorem Sh.ints (n:Nat) (ns:List Int):Sh (n + 1) (zH ns):=.list fun d hd=>by
  obtain ⟨i,_,rfl⟩:=List.mem_map.mp hd
  exact .int n i
theorem Sh.ok {n:Nat} {d:PyData} (h:Sh n d) (hn:n≤64):SeqAt.shaped d=true:=by
  unfold SeqAt.shaped
  rw [h.1,decide_eq_true (by have:=h.2;omega)];rfl
theorem iC {n:Nat} {d:PyData} (h:Sh n d):PyData.eqv d d=true:=SeqAt.eqv_refl d h.1
abbrev eF:=List (Addr × Pos × Str)
def TabsOk (T:eF) (H:Hp):Prop:=∀ t∈T,TabOk t.1 t.2.1 t.2.2 H
structure aR (T:eF) (H H':Hp):Prop where
  t0:TabsOk T H
  t1:TabsOk T H'
  keep:∀ b o,H b=some o→(∀ ps,o≠.tbl ps)→H' b=some o
  tb:∀ b ps,H b=some (.tbl ps)→∃ ps',H' b=some (.tbl ps')
theorem TabsOk.nil (H:Hp):TabsOk [] H:=fun t ht=>nomatch ht
theorem TabsOk.mono {T:eF} {H H':Hp} (t:TabsOk T H) (s:Same H H'):TabsOk T H':=fun q hq=>by
  rcases t q hq with e | ⟨c,e1,e2⟩
  · exact .inl (s _ _ e)
  · exact .inr ⟨c,s _ _ e1,s _ _ e2⟩
theorem aR.refl {T:eF} {H:Hp} (t:TabsOk T H):aR T H H:=⟨t,t,fun _ _ h _=>h,fun _ ps h=>⟨ps,h⟩⟩
theorem aR.of {T:eF} {H H':Hp} (t:TabsOk T H) (s:Same H H'):aR T H H':=⟨t,t.mono s,fun b o h _=>s b o h,fun b ps h=>⟨ps,s _ _ h⟩⟩
theorem aR.trans {T:eF} {H H1 H2:Hp} (a:aR T H H1) (b:aR T H1 H2):aR T H H2:=⟨a.t0,b.t1,fun c o h n=>b.keep c o (a.keep c o h n) n,fun c ps h=>by
  obtain ⟨ps',e⟩:=a.tb c ps h
  exact b.tb c ps' e⟩
theorem aR.free {T:eF} {H H':Hp} (a:aR T H H') {l:Addr} (h:H' l=none):H l=none:=by
  cases q:H l with
  | none=>rfl
  | some o =>
    have key:(∃ ps,o=.tbl ps)∨∀ ps,o≠.tbl ps:=by
      cases o with
      | tbl ps=>exact .inl ⟨ps,rfl⟩
      | _=>exact .inr fun _ z=>by cases z
    rcases key with ⟨ps,rfl⟩ | n
    · obtain ⟨ps',e⟩:=a.tb l ps q
      rw [h] at e;cases e
    · have:=a.keep l o q n
      rw [h] at this;cases this
theorem aR.seq {T:eF} {K:PySem.W.Frag} {H H':Hp} {a:Addr} {xs:List V} (e:aR T H H') (h:SqL K H a xs):SqL K H' a xs:=by
  rcases h with (h | ⟨o,h⟩) | h
  · exact .inl (.inl (e.keep _ _ h fun _ z=>by cases z))
  · exact .inl (.inr ⟨o,e.keep _ _ h fun _ z=>by cases z⟩)
  · exact .inr h
theorem aR.wH {T:eF} {K:PySem.W.Frag} {H H':Hp} {a:Addr} {xs:List V} (e:aR T H H') (h:SqT K H a xs):SqT K H' a xs:=by
  rcases h with (h | ⟨o,h⟩) | h
  · exact .inl (.inl (e.keep _ _ h fun _ z=>by cases z))
  · exact .inl (.inr ⟨o,e.keep _ _ h fun _ z=>by cases z⟩)
  · exact .inr h
mutual
theorem Den.uL {T:eF} {K:PySem.W.Frag} {H H':Hp} (e:aR T H H'):∀ {v:V} {d:PyData},Den K H v d→Den K H' v d
  | _,_,.non=>.non
  | _,_,.bl b=>.bl b
  | _,_,.int i=>.int i
  | _,_,.str x=>.str x
  | _,_,.list h hs=>.list (e.seq h) (cR.uL e hs)
  | _,_,.tuple h hs=>.tuple (e.wH h) (cR.uL e hs)
theorem cR.uL {T:eF} {K:PySem.W.Frag} {H H':Hp} (e:aR T H H'):∀ {vs:List V} {ds:List PyData},cR K H vs ds→cR K H' vs ds
  | _,_,.nil=>.nil
  | _,_,.cons h hs=>.cons (Den.uL e h) (cR.uL e hs)
end
def uW (T:eF) (H:Hp) (P:List V→Prop) (Q:VK):Prop:=∀ (l:Addr) (H':Hp) (xs:List V),aR T H H'→H l=none→H' l=some (.lst xs)→P xs→Q (.ref l) H'
def kh:HO→Bool
  | .tbl _=>false
  | .ext _=>false
  | _=>true
structure Ow (T:eF) (H0 H:Hp) (L:List (Addr × HO)):Prop where
  same:aR T H0 H
  new:∀ p∈L,H0 p.1=none
  at_:∀ p∈L,H p.1=some p.2
  pl:∀ p∈L,kh p.2=true
  nd:(L.map (·.1)).Nodup
section
variable {T:eF} {H0 H1 H H':Hp} {L L':List (Addr × HO)} {a l:Addr} {o o':HO} {xs:List V}
theorem Ow.refl (t:TabsOk T H):Ow T H H []:=⟨aR.refl t,(fun p hp=>nomatch hp),(fun p hp=>nomatch hp),(fun p hp=>nomatch hp),List.nodup_nil⟩
theorem Ow.Ua (H:Hp):Ow [] H H []:=Ow.refl (TabsOk.nil H)
theorem Ow.get (O:Ow T H0 H L) (k:Nat) (h:L[k]?=some (a,o):=by rfl):H a=some o:=O.at_ _ (List.mem_of_getElem? h)
theorem Ow.fr (O:Ow T H0 H L) (k:Nat) (h:L[k]?=some (a,o):=by rfl):H0 a=none:=O.new _ (List.mem_of_getElem? h)
theorem Ow.sq {K:PySem.W.Frag} (O:Ow T H0 H L) (k:Nat) (h:L[k]?=some (a,.lst xs):=by rfl):SqL K H a xs:=SqL.of (O.get k h)
theorem Ow.sqT {K:PySem.W.Frag} (O:Ow T H0 H L) (k:Nat) (h:L[k]?=some (a,.tup xs):=by rfl):SqT K H a xs:=SqT.of (O.get k h)
theorem TabOk.upd {P:Addr} {pos:Pos} {q:Str} (t:TabOk P pos q H) (h:H a=none∨∃ o,H a=some o∧kh o=true):TabOk P pos q (L2.upd H a o'):=by
  have ne:∀ b u,H b=some u→kh u=false→b≠a:=fun b u e p z=>by
    subst z
    rcases h with h | ⟨o,h,ho⟩
    · rw [h] at e;cases e
    · rw [h] at e;cases e;rw [ho] at p;cases p
  rcases t with e | ⟨c,e1,e2⟩
  · exact .inl (by rw [bB (ne _ _ e rfl)];exact e)
  · exact .inr ⟨c,by rw [bB (ne _ _ e1 rfl)];exact e1,by rw [bB (ne _ _ e2 rfl)];exact e2⟩
theorem aR.upd (s:aR T H0 H) (h:H0 a=none) (h':H a=none∨∃ o,H a=some o∧kh o=true):aR T H0 (L2.upd H a o') :=
  ⟨s.t0,fun t ht=>(s.t1 t ht).upd h',fun b u e n=>by rw [bB (dI e h)];exact s.keep b u e n,fun b ps e=>by rw [bB (dI e h)];exact s.tb b ps e⟩
theorem Ow.mk' (O:Ow T H0 H L) (h:H a=none) (ho:kh o=true):Ow T H0 (upd H a o) ((a,o) :: L):=by
  have ne:∀ p∈L,p.1≠a:=fun p hp=>dI (O.at_ p hp) h
  have n0:H0 a=none:=O.same.free h
  refine ⟨O.same.upd n0 (.inl h),fun p hp=>?_,fun p hp=>?_,fun p hp=>?_,?_⟩
  · rcases List.mem_cons.mp hp with e | e
    · rw [e];exact n0
    · exact O.new p e
  · rcases List.mem_cons.mp hp with e | e
    · rw [e];exact cQ
    · rw [bB (ne p e)];exact O.at_ p e
  · rcases List.mem_cons.mp hp with e | e
    · rw [e];exact ho
    · exact O.pl p e
  · rw [List.map_cons,List.nodup_cons]
    refine ⟨fun hm=>?_,O.nd⟩
    obtain ⟨p,hp,e⟩:=List.mem_map.mp hm
    exact ne p hp e
theorem yr:∀ {L:List (Addr × HO)} {k:Nat} {a:Addr} {o o':HO},L[k]?=some (a,o)→(L.set k (a,o')).map (·.1)=L.map (·.1)
  | [],_,_,_,_,h=>by simp at h
  | p :: L,0,a,o,o',h=>by
    have:p=(a,o):=by simpa using h
    rw [this];rfl
  | p :: L,k + 1,a,o,o',h=>by
    rw [List.set_cons_succ,List.map_cons,List.map_cons,yr (L:=L) (k:=k) (o:=o) (by simpa using h)]
theorem Ow.Mf (O:Ow T H0 H L) (k:Nat) (h:L[k]?=some (a,o)) (ho:kh o'=true):Ow T H0 (upd H a o') (L.set k (a,o')):=by
  have hm0:=List.mem_of_getElem? h
  have n0:H0 a=none:=O.new _ hm0
  have hk:k<L.length:=(List.getElem?_eq_some_iff.mp h).1
  refine ⟨O.same.upd n0 (.inr ⟨o,O.at_ _ hm0,O.pl _ hm0⟩),fun p hp=>?_,fun p hp=>?_,fun p hp=>?_,by rw [yr h];exact O.nd⟩
  · rcases List.mem_or_eq_of_mem_set hp with e | e
    · exact O.new p e
    · rw [e];exact n0
  · obtain ⟨j,hj,e⟩:=List.getElem_of_mem hp
    by_cases hjk:j=k
    · subst hjk
      rw [List.getElem_set_self] at e
      rw [← e];exact cQ
    · rw [List.getElem_set_ne (Ne.symm hjk)] at e
      have hj':j<L.length:=by rw [List.length_set] at hj;exact hj
      have hm:p∈L:=by rw [← e];exact List.getElem_mem hj'
      rw [bB]
      · exact O.at_ p hm
      · intro z
        have e1:(L.map (·.1))[j]?=some p.1:=by rw [List.getElem?_map,List.getElem?_eq_getElem hj',e];rfl
        have e2:(L.map (·.1))[k]?=some a:=by rw [List.getElem?_map,h];rfl
        rw [z] at e1
        obtain ⟨a1,a2⟩:=List.getElem?_eq_some_iff.mp e1
        obtain ⟨b1,b2⟩:=List.getElem?_eq_some_iff.mp e2
        exact hjk ((List.getElem_inj O.nd).mp (a2.trans b2.symm))
  · rcases List.mem_or_eq_of_mem_set hp with e | e
    · exact O.pl p e
    · rw [e];exact ho
theorem yF {o:HO} (h:kh o=true):∀ ps,o≠.tbl ps:=fun ps z=>by rw [z] at h;cases h
theorem Ow.lZ (O:Ow T H0 H L) (s:aR T H H'):Ow T H0 H' L:=⟨O.same.trans s,O.new,fun p hp=>s.keep _ _ (O.at_ p hp) (yF (O.pl p hp)),O.pl,O.nd⟩
theorem Ow.Nh (O:Ow T H0 H L) (s:aR T H H') (n:H l=none) (h:H' l=some o) (ho:kh o=true):Ow T H0 H' ((l,o) :: L):=by
  have O2:=O.lZ s
  refine ⟨O2.same,fun p hp=>?_,fun p hp=>?_,fun p hp=>?_,?_⟩
  · rcases List.mem_cons.mp hp with e | e
    · rw [e];exact O.same.free n
    · exact O.new p e
  · rcases List.mem_cons.mp hp with e | e
    · rw [e];exact h
    · exact O2.at_ p e
  · rcases List.mem_cons.mp hp with e | e
    · rw [e];exact ho
    · exact O.pl p e
  · rw [List.map_cons,List.nodup_cons]
    refine ⟨fun hm=>?_,O.nd⟩
    obtain ⟨p,hp,e⟩:=List.mem_map.mp hm
    exact dI (O.at_ p hp) n e
theorem Ow.more (O:Ow T H0 H L) (s:Same H H') (n:H l=none) (h:H' l=some o) (ho:kh o=true):Ow T H0 H' ((l,o) :: L):=O.Nh (aR.of O.same.t1 s) n h ho
theorem Ow.sub (O:Ow T H0 H L) (h:L'.Sublist L):Ow T H0 H L':=⟨O.same,fun p hp=>O.new p (h.subset hp),fun p hp=>O.at_ p (h.subset hp),fun p hp=>O.pl p (h.subset hp),O.nd.sublist (h.map _)⟩
theorem Ow.perm (O:Ow T H0 H L) (h:L'.Perm L):Ow T H0 H L':=⟨O.same,fun p hp=>O.new p (h.mem_iff.mp hp),fun p hp=>O.at_ p (h.mem_iff.mp hp),fun p hp=>O.pl p (h.mem_iff.mp hp),(h.map _).nodup_iff.mpr O.nd⟩
theorem Ow.tail {p:Addr × HO} (O:Ow T H0 H (p :: L)):Ow T H0 H L:=O.sub (List.sublist_cons_self _ _)
theorem Ow.two {p q:Addr × HO} (O:Ow T H0 H (p :: q :: L)):Ow T H0 H (p :: L):=O.sub ((List.sublist_cons_self _ _).cons₂ _)
theorem Ow.reb (O:Ow T H0 H L):∃ H1,Ow T H1 H L∧aR T H0 H1∧∀ b o,H b=some o→(∀ p∈L,p.1≠b)→H1 b=some o:=by
  have keep:∀ b u,H b=some u→(∀ p∈L,p.1≠b)→(fun b=>if b∈L.map (·.1) then none else H b:Hp) b=some u:=fun b u e h=>by
    show (if b∈L.map (·.1) then none else H b)=some u
    rw [if_neg fun hm=>?_];· exact e
    obtain ⟨p,hp,z⟩:=List.mem_map.mp hm
    exact h p hp z
  have back:∀ b u,(fun b=>if b∈L.map (·.1) then none else H b:Hp) b=some u→H b=some u:=fun b u e=>by
    dsimp only at e
    split at e
    · cases e
    · exact e
  have npl:∀ b u,H b=some u→kh u=false→∀ p∈L,p.1≠b:=fun b u e h p hp z=>by
    have:=O.at_ p hp
    rw [z,e] at this
    have e':u=p.2:=Option.some.inj this
    rw [e',O.pl p hp] at h;cases h
  have tk:TabsOk T (fun b=>if b∈L.map (·.1) then none else H b):=fun t ht=>by
    rcases O.same.t1 t ht with e | ⟨c,e1,e2⟩
    · exact .inl (keep _ _ e (npl _ _ e rfl))
    · exact .inr ⟨c,keep _ _ e1 (npl _ _ e1 rfl),keep _ _ e2 (npl _ _ e2 rfl)⟩
  refine ⟨fun b=>if b∈L.map (·.1) then none else H b,⟨⟨tk,O.same.t1,fun b u e _=>back b u e,fun b ps e=>⟨ps,back _ _ e⟩⟩,fun p hp=>?_,O.at_,O.pl,O.nd⟩,⟨O.same.t0,tk,fun b u e n=>?_,fun b ps e=>?_⟩,keep⟩
  · exact if_pos (List.mem_map.mpr ⟨p,hp,rfl⟩)
  · refine keep b u (O.same.keep b u e n) fun p hp z=>?_
    rw [← z,O.new p hp] at e;cases e
  · obtain ⟨ps',e'⟩:=O.same.tb b ps e
    exact ⟨ps',keep _ _ e' (npl _ _ e' rfl)⟩
theorem jk {i:Int} {j:Nat} {v:V} {Q:Hp→Prop} (O:Ow T H0 H L) (k:Nat) (h:L[k]?=some (l,.lst xs)) (hi:ixN xs.length i=some j) (q:∀ H',Ow T H0 H' (L.set k (l,.lst (xs.set j v)))→Q H'):Mx (.ref l) (.int i) v H Q :=
  ⟨l,xs,i,j,rfl,rfl,O.get k h,hi,q _ (O.Mf k h rfl)⟩
theorem Ow.ret {P:List V→Prop} {Q:VK} (O:Ow T H0 H L) (k:Nat) (h:L[k]?=some (l,.lst xs)) (q:uW T H0 P Q) (p:P xs):Q (.ref l) H:=q l H xs O.same (O.fr k h) (O.get k h) p
theorem Ow.got {P:List V→Prop} {Q:VK} (O:Ow T H0 H L) (k:∀ l H' xs,Ow T H0 H' ((l,.lst xs) :: L)→P xs→Q (.ref l) H'):Wo H P Q:=fun l H' xs s n h p=>k l H' xs (O.more s n h rfl) p
theorem Ow.zY {P:List V→Prop} {Q:VK} (O:Ow T H0 H L) (k:∀ l H' xs,Ow T H0 H' ((l,.lst xs) :: L)→P xs→Q (.ref l) H'):uW T H P Q:=fun l H' xs s n h p=>k l H' xs (O.Nh s n h rfl) p
end
end L2
namespace L2
open PySem PySem.W PySem.Spec PyProof.Rows
theorem szl {n:Nat} (h:Nat.ble n 100000=true:=by rfl):n≤sizeLine:=gP (Nat.le_of_ble_eq_true h)
theorem Lf (p:Int) (ns:List Int):inV (.int p) (ns.map V.int)=decide (p∈ns):=by
  unfold inV
  rw [List.any_map,Bool.eq_iff_iff]
  simp only [List.any_eq_true,decide_eq_true_eq]
  constructor
  · rintro ⟨x,hx,e⟩
    have e':(x == p)=true:=e
    have:x=p:=by simpa using e'
    rw [← this];exact hx
  · intro h
    exact ⟨p,h,show (p == p)=true by simp⟩
theorem zu (ns:List Int):(ns.map V.int).all rC=true:=by
  rw [List.all_map,List.all_eq_true];intro _ _;rfl
section
variable {X:Cx}
theorem pA:∀ ns ms:List Int,PyData.eqvAll (ns.map PyData.int) (ms.map PyData.int)=decide (ns=ms)
  | [],[]=>by simp [PyData.eqvAll]
  | [],_ :: _=>by simp [PyData.eqvAll]
  | _ :: _,[]=>by simp [PyData.eqvAll]
  | n :: ns,m :: ms=>by
    rw [List.map_cons,List.map_cons,PyData.eqvAll,pA ns ms]
    have e:PyData.eqv (.int n) (.int m)=decide (n=m):=by
      rw [PyData.eqv];rfl
    rw [e,Bool.eq_iff_iff]
    simp
theorem vY (ns ms:List Int):PyData.eqv (zH ns) (zH ms)=decide (ns=ms):=by
  unfold zH
  rw [PyData.eqv];exact pA ns ms
theorem Cm (hu:X.A.units + 64<cLine):OpR X (compareOp .Eq) (V9 X.K false):=by
  intro pins s σ H x y v u Q I rx ry h
  obtain ⟨a,b,ns,ms,rfl,rfl,ha,hb,q⟩:=h
  refine p7 hu pins s σ H _ _ v u Q I rx ry ⟨_,_,Den.ints ha,Den.ints hb,(Sh.ints 0 ns).ok (by decide),(Sh.ints 0 ms).ok (by decide),?_⟩
  rw [vY];exact q
theorem yJ (hu:X.A.units + 64<cLine):OpR X (compareOp .NotEq) (V9 X.K true):=by
  intro pins s σ H x y v u Q I rx ry h
  obtain ⟨a,b,ns,ms,rfl,rfl,ha,hb,q⟩:=h
  refine nq hu pins s σ H _ _ v u Q I rx ry ⟨_,_,Den.ints ha,Den.ints hb,(Sh.ints 0 ns).ok (by decide),(Sh.ints 0 ms).ok (by decide),?_⟩
  rw [vY];exact q
end
section
variable {T:eF} {H0 H:Hp} {L:List (Addr × HO)} {l:Addr} {xs:List V}
theorem Ow.mkE {a:Addr} {o:HO} {H':Hp} (O:Ow T H0 H L) (h:H a=none) (e:upd H a o=H') (ho:kh o=true):Ow T H0 H' ((a,o) :: L):=e ▸ O.mk' h ho
theorem Ow.nU {a:Addr} {o o':HO} {H':Hp} (O:Ow T H0 H L) (k:Nat) (h:L[k]?=some (a,o)) (e:upd H a o'=H') (ho:kh o'=true):Ow T H0 H' (L.set k (a,o')):=e ▸ O.Mf k h ho
end
def dMv (m:Int × Int × Int):PyData:=.tuple [.int m.1,.int m.2.1,.int m.2.2]
def dMvs (ms:List (Int × Int × Int)):PyData:=.list (ms.map dMv)
theorem Sh.mv (n:Nat) (m:Int × Int × Int):Sh (n + 1) (dMv m):=.tuple fun d hd=>by
  simp at hd
  rcases hd with e | e | e <;> (rw [e];exact .int _ _)
theorem Sh.mvs (n:Nat) (ms:List (Int × Int × Int)):Sh (n + 2) (dMvs ms):=.list fun d hd=>by
  obtain ⟨m,_,rfl⟩:=List.mem_map.mp hd
  exact .mv n m
end L2
namespace L2
open PySem PySem.W PySem.Spec PySem.Calls PyProof.Rows PySem.Builtin PySem.Builtin.ObjectAttr PySem.Builtin.Getset_descriptor
section
variable {prog:Program} {w:World} {A:Around} {E:Value→Shared→Prop} {K:Frag} {e D:Addr} {hh:Heap} {g:Array GenState} {d:Drawn} {t:Nat} {os:OsState}
structure Ko (K:Frag) (D:Addr):Prop where
  ga:findIn K (.ref D) "__getattribute__"=some (some (.builtin "BaseException.__getattribute__"))
  gt:findIn K (.ref D) "__getattr__"=some none
  at_:findIn K (.ref D) "__class__"=some (some (.builtin "object.__class__"))
  sp:specialIn K (.builtin "object.__class__") "__get__"=some (some (.builtin "getset_descriptor.__get__"))
  tk:takesIn K (.builtin "object.__class__")=some true
  mo:mroIn K D (.type "object")=some true
  mb:mroIn K D (.type "BaseException")=some true
  cl:(clsIn K D).isSome=true
theorem Kr {M:Model} (X:K.In hh) (C:Ko K D):Looks M hh (Builtin.ObjectAttr.find (.ref e) (.ref D) "__class__") (.bind (.builtin "getset_descriptor.__get__") (.builtin "object.__class__")):=by
  have L3:Looks M hh (Builtin.ObjectAttr.dataDescriptor? (some (.builtin "object.__class__")) (some (.builtin "getset_descriptor.__get__"))) (some (.builtin "getset_descriptor.__get__",.builtin "object.__class__")):=(looks_takesIn X C.tk).andThen .now
  exact (looks_findIn X C.at_).andThen ((looks_specialIn X C.sp).andThen (L3.andThen (Looks.tag .now)))
theorem Mi {R:Result→Shared→Prop} {tp:Value} (LT:Looks (model prog w) hh (typeOf (.ref e)) (.ref D)) (X:K.In hh) (C:Ko K D) (q:R (.ok (.ret (.ref D))) ⟨hh,g,d,t,os⟩) :
    codeAny (model prog w) A (.call (.builtin "getset_descriptor.__get__") ⟨[.builtin "object.__class__",.ref e,tp],[]⟩) R ⟨hh,g,d,t,os⟩:=by
  have LS:=looks_mroIn (M:=model prog w) X C.mo
  clear C X
  refine codeAny_call_builtin KF.slot_gs.plain KF.entry_gs (KF.slot_gs.check _ _ _ _ _ _ _ _ KF.type_class (KF.args_gs _ _ (tp)) ?_)
  unfold Builtin.«getset_descriptor.__get__» descrGet;rw [dga_obj];refine wpAny_bind (wpAny_pure ?_)
  unfold descrGetter descrCheckInstance descrNameAndClass isInstance;simp only [KF.owner_class];repeat lk
  refine ⟨Code.quiet_builtin _ (by decide +kernel),codeAny_builtin KF.entry_class ?_⟩;unfold Builtin.«object.__class__» shownTypeOf;(repeat lk);exact q
theorem z7 {tk:Tok} {Q:Fin→Shared→Prop} (LT:Looks (model prog w) hh (typeOf (.ref e)) (.ref D)) (X:K.In hh) (C:Ko K D) (h:Q (.done (.ret (.ref D))) ⟨hh,g,d,t,os⟩) :
    wpAny (model prog w) A (Builtin.«object.__getattribute__» ⟨[.ref e,.str "__class__" tk],[]⟩) Q E ⟨hh,g,d,t,os⟩:=by
  unfold Builtin.«object.__getattribute__»
  refine wpAny_bind (m:=slotArgs "__getattribute__" 1 _) (wpAny_pure ?_)
  refine wpAny_bind (m:=Builtin.ObjectAttr.attrName _) (wpAny_pure ?_)
  refine wpAny_bind (LT.at (wpAny_bind ((Kr X C).at ?_)))
  unfold Builtin.ObjectAttr.bindTo
  exact wpAny_bind (wpAny_holding (wpAny_call (Mi LT X C (wpAny_pure h))))
theorem z8 {Q:Option Value→Shared→Prop} (LT:Looks (model prog w) hh (typeOf (.ref e)) (.ref D)) (X:K.In hh) (C:Ko K D) (h:Q (some (.ref D)) ⟨hh,g,d,t + 1,os⟩) :
    wpAny (model prog w) A (getAttr? (.ref e) "__class__") Q E ⟨hh,g,d,t,os⟩:=by
  have L1:=looks_findIn (M:=model prog w) X C.ga
  have L2:=looks_findIn (M:=model prog w) X C.gt
  have LI:Looks (model prog w) hh (isInstance (.ref e) (.type "BaseException")) true:=LT.andThen (looks_mroIn X C.mb)
  have f3:=PySem.F.attr_ValueError.ga.bind (.ref e)
  have hx2:(Value.builtin "BaseException.__getattribute__" == Value.builtin "object.__getattribute__")=false:=by decide +kernel
  unfold getAttr? getAttrBy? getAttrBy
  refine wpAny_bind (wpAny_mkText (wpAny_bind (wpAny_attempt (wpAny_holding (wpAny_bind (LT.at (wpAny_bind (L1.at ?_))))))))
  dsimp only
  rw [if_neg (by rw [hx2];simp)]
  unfold getAttrByItsOwn hookBefore callGetattribute
  refine wpAny_bind ?_
  rw [if_pos (show onTheHeap (Value.ref D)=true from rfl)]
  refine L2.at ?_
  refine wpAny_bind (wpAny_attempt (wpAny_holding ?_))
  rw [if_neg (by simp)]
  unfold boundAndCalled
  rw [f3]
  refine wpAny_bind (wpAny_pure ?_)
  refine wpAny_call (codeAny_call_builtin PySem.F.attr_ValueError.ga.plain PySem.F.entry_bexc_ga ?_)
  have kd:builtinKind "BaseException.__getattribute__"=some .slot:=by decide +kernel
  have spl:splitId "BaseException.__getattribute__"=some ("BaseException","__getattribute__"):=by decide +kernel
  have ha:=PySem.F.args_bexc_ga (.ref e) (.str "__class__" t)
  simp only [checkBuiltinCall,kd,spl]
  refine wpAny_bind (LI.at ?_)
  rw [if_neg (by simp)]
  refine wpAny_of_eq (a:=()) ha ?_
  refine z7 (t:=t + 1) LT X C ?_
  show wpAny (model prog w) A (handedOut (.ref D)) _ _ _
  exact wpAny_pure (wpAny_pure h)
def XAt (e D:Addr) (h:Heap):Prop:=∃ o,h.get? e=some o∧o.cls=.ref D
theorem xu {M:Model} {h:Heap} (x:XAt e D h):Looks M h (typeOf (.ref e)) (.ref D):=by
  obtain ⟨o,h1,h2⟩:=x
  rw [← h2]
  exact (Looks.ld h1).andThen .now
theorem Bj (C:Ko K D):KitX K (.ref e) (.ref D) (XAt e D) where
  ty:=fun _ _ _ p=>xu p
  it:=fun M h X _=>by
    have c:=C.cl
    unfold clsIn at c
    split at c
    · rename_i ho
      intro _ _ _ _ k q
      unfold isType loadHead
      exact wpAny_bind (wpAny_loadPart (k _ _ (X _ _ ho)) (wpAny_pure q))
    · cases c
  ne:=fun h tp dd its n sl X htp=>by
    have c:=C.cl
    refine Bool.eq_false_iff.mpr fun q=>?_
    cases Value.ref.inj (beq_iff_eq.mp q)
    unfold clsIn at c
    split at c
    · rename_i ho
      cases (X _ _ ho).symm.trans htp
    · cases c
  ca:=fun {_ _ _ _ _ s} X p k=>by
    obtain ⟨h0,g0,d0,t0,o0⟩:=s
    exact z8 (xu p) X C k
end
end L2
namespace L2
open PySem PySem.W PySem.Spec PySem.Calls PyProof.Rows
theorem jz.obj {P:Program} {w:World} {H:Hp} {h:Heap} {a:Addr} {o:HO} (x:jz P w H h a o):∃ ob,h.get? a=some ob:=by
  cases o with
  | lst xs=>obtain ⟨_,_,_,_,e⟩:=x;exact ⟨_,e⟩
  | tup xs=>obtain ⟨_,_,_,o,e,_⟩:=x;exact ⟨_,e⟩
  | dK kvs=>obtain ⟨_,_,_,_,o,_,_,e,_⟩:=x;exact ⟨_,e⟩
  | dT kvs=>obtain ⟨_,_,_,_,o,_,_,e,_⟩:=x;exact ⟨_,e⟩
  | set S n=>obtain ⟨o,_,_,_,e,_⟩:=x;exact ⟨_,e⟩
  | ins C dx fs=>obtain ⟨_,_,_,e,_⟩:=x;exact ⟨_,e⟩
  | own y=>exact x
  | xd fs=>obtain ⟨_,⟨_,_,_,e,_⟩,_⟩:=x;exact ⟨_,e⟩
  | rng lo hi=>obtain ⟨_,_,_,e⟩:=x;exact ⟨_,e⟩
  | frz ob u=>obtain ⟨e,_⟩:=x;exact ⟨_,e⟩
  | tbl ps=>exact ⟨_,x⟩
  | met f y=>exact ⟨_,x⟩
  | ext φ=>obtain ⟨_,e,_⟩:=x;exact e
structure Fly (P:Program) (w:World) (B:Heap) (fs:List Addr) (H:Hp) (h0:Heap) (H':Hp) (h:Heap):Prop where
  un:Un fs [] H H' h0 h
  hok:HOk P w H' h
  old:∀ b o,h0.get? b=some o→b ∉ fs→∃ o',B.get? b=some o'∧(H b=none→o'=o)
  trk:∀ b u,H' b=some u→∃ o,h.get? b=some o∧B.get? b=some o
section
variable {P:Program} {w:World} {B h0 h h2:Heap} {fs:List Addr} {H H':Hp}
theorem Fly.on (x:Fly P w B fs H h0 H' h) (sb:B.StaysIn h2) (sm:∀ b∈fs,∀ o,h.get? b=some o→∃ sl,h2.get? b=some { o with slots:=sl }):Fly P w B fs H h0 H' h2:=by
  have kp:∀ b o,h0.get? b=some o→H b=none→b ∉ fs→h2.get? b=some o:=fun b o q n hb=>by
    obtain ⟨o',e,k⟩:=x.old b o q hb
    rw [← k n];exact sb b o' e
  have sl:∀ b o,h0.get? b=some o→H b=none→b∈fs→∃ s,h2.get? b=some { o with slots:=s }:=fun b o q n hb=>by
    obtain ⟨s1,e1⟩:=x.un.slot b o q n hb (by simp)
    obtain ⟨s2,e2⟩:=sm b hb _ e1
    exact ⟨s2,e2⟩
  refine ⟨⟨fun b o q n hb _=>kp b o q n hb,fun b o q n hb _=>sl b o q n hb,x.un.free,fun b o q _=>?_,x.un.tups,x.un.frzs,x.un.tbls⟩,fun a u e=>?_,x.old,fun b u e=>?_⟩
  · by_cases hb:b∈fs
    · obtain ⟨o1,e1⟩:=x.un.there b o q (by simp)
      obtain ⟨s2,e2⟩:=sm b hb _ e1
      exact ⟨_,e2⟩
    · obtain ⟨o',e,_⟩:=x.old b o q hb
      exact ⟨o',sb b o' e⟩
  · refine (x.hok a u e).stay (fun b v hb q=>?_) (fun _ q=>q) fun _ _ q=>q
    have tr:∃ u',H' b=some u':=by
      rcases hb with z | z
      · exact ⟨u,by rw [z];exact e⟩
      · exact ⟨_,z⟩
    obtain ⟨u',e'⟩:=tr
    obtain ⟨o,e1,e2⟩:=x.trk b u' e'
    rw [q] at e1;cases e1
    exact sb b v e2
  · obtain ⟨o,e1,e2⟩:=x.trk b u e
    exact ⟨o,sb b o e2,e2⟩
end
def CXE (P:Program) (w:World):CXT:=fun outer H s E e s'=>∃ (ea t C:Addr) (B:Heap) (H':Hp),e=.ref ea∧s'.os=s.os∧AllBare s'.gens∧Fly P w B (frs outer) H s.heap H' s'.heap∧Heap.FlyingW B outer ea (.ref C) (.ref t) s'.heap ∧
  s.heap.get? ea=none∧H' ea=none∧E (.ref C) (some ea) H'
theorem rA {env:Env} {l:List Env} {L:Addr} (hf:env.frame=some L):frs (env :: l)=L :: frs l:=by unfold frs;rw [List.filterMap_cons,hf]
theorem Nu {l:List Env}:∀ env∈l,∀ b,env.frame=some b→b∈frs l:=fun env he b hb=>List.mem_filterMap.mpr ⟨env,he,hb⟩
theorem kJ {B h:Heap} {l:List Env} {h2:Heap} (f:h.FunFrames B l) (sm:h.UpToSlots h2):∀ b∈frs l,∀ o,h.get? b=some o→∃ sl,h2.get? b=some { o with slots:=sl }:=fun b hb o e=>by
  obtain ⟨_,o',e',d⟩:=f.mem hb
  rw [e] at e';cases e'
  exact sm b o e d
section
variable {X:Cx} {pins:List (Addr × Obj)} {σ:St} {H:Hp} {s:Shared} {E:XK}
structure Body (X:Cx):Prop where
  st:X.stack=X.env :: X.outer
  fr:X.env.frame=some X.env.locals
  ex:X.ex=[]
theorem Inv.uK (I:Inv X pins σ H s) (hB:Body X) {b:Addr} {o:Obj} (e:X.s₀.heap.get? b=some o) (hb:b ∉ frs X.outer):b ∉ frs X.stack:=by
  rw [hB.st,rA hB.fr]
  intro hm
  rcases List.mem_cons.mp hm with z | z
  · exact absurd (Heap.lt_size e) (by rw [z];exact Nat.not_lt.mpr I.ok.above)
  · exact hb z
theorem sJ {e C:Addr} {args:List Value} {h':Heap} {F:Value→Shared→Prop} (hB:Body X) (I:Inv X pins σ H s) (hm:Heap.MadeExcOf s.heap h' e (.ref C) args) (hE:H e=none→E (.ref C) (some e) H) :
    wpAny (model X.prog X.w) X.A (leaving X.env (.ref e)) (fun _ s''=>CXE X.prog X.w X.outer X.H₀ X.s₀ E (.ref e) s'') F { s with heap:=h' }:=by
  have hfr:X.A.frames=some (X.env :: X.outer):=by rw [← hB.st];exact I.ok.frames
  have stk:=I.stack
  have hl:s.heap.FunFrames (hideAll s.heap (frs X.stack)) (X.env :: X.outer):=by
    have:=funFrames_hide stk Nu
    rw [hB.st] at this ⊢;exact this
  have hne:∀ b o,s.heap.get? b=some o→b ∉ frs X.stack→(hideAll s.heap (frs X.stack)).get? b=some o:=fun b o q n=>hideAll_get _ q n
  have htr:∀ b u,H b=some u→∃ o,s.heap.get? b=some o∧(hideAll s.heap (frs X.stack)).get? b=some o:=fun b u q=>by
    obtain ⟨o,eo⟩:=(I.hok b u q).obj
    exact ⟨o,eo,hne b o eo fun z=>by rw [I.ur b z] at q;cases q⟩
  have hnx:∀ b:Addr,b ∉ X.ex:=fun b=>by rw [hB.ex];simp
  refine wpAny_leaves_madeW (base:=hideAll s.heap (frs X.stack)) (h:=s.heap) hfr hB.fr (fun b o q=>of_hideAll _ q) hl hm fun h2 t fl _ _ sm=>?_
  have F0:Fly X.prog X.w (hideAll s.heap (frs X.stack)) (frs X.outer) X.H₀ X.s₀.heap H s.heap:=by
    refine ⟨?_,I.hok,fun b o q n=>?_,htr⟩
    · have u:=I.base
      rw [hB.ex] at u
      exact u
    · obtain ⟨o',e'⟩:=I.base.there b o q (hnx b)
      refine ⟨o',hne b o' e' (I.uK hB q n),fun z=>?_⟩
      have:=I.base.keep b o q z n (hnx b)
      rw [e'] at this;exact Option.some.inj this
  have F1:=F0.on (h2:=h2) fl.1 fun b hb o q=>by
    have hb':b∈frs X.stack:=by rw [hB.st,rA hB.fr];exact List.mem_cons_of_mem _ hb
    obtain ⟨_,o',e',d⟩:=stk.mem hb'
    rw [q] at e';cases e'
    exact sm b o (hm.keeps b o q) d
  have he0:H e=none:=by
    cases q:H e with
    | none=>rfl
    | some u =>
      obtain ⟨o,eo⟩:=(I.hok e u q).obj
      rw [hm.new] at eo;cases eo
  refine ⟨e,t,C,_,H,rfl,I.os,I.bare,F1,fl,?_,he0,hE he0⟩
  · cases q:X.s₀.heap.get? e with
    | none=>rfl
    | some o =>
      obtain ⟨o',e'⟩:=I.base.there e o q (hnx e)
      rw [hm.new] at e';cases e'
theorem uQ {e:Value} {s':Shared} {F:Value→Shared→Prop} (hB:Body X) (I:Inv X pins σ H s) (h:CXE X.prog X.w X.stack H s E e s') :
    wpAny (model X.prog X.w) X.A (leaving X.env e) (fun _ s''=>CXE X.prog X.w X.outer X.H₀ X.s₀ E e s'') F s':=by
  obtain ⟨ea,t,C,B,H',rfl,os,bare,fl,fy,new,nh,hE⟩:=h
  have hfr:X.A.frames=some (X.env :: X.outer):=by rw [← hB.st];exact I.ok.frames
  have hnx:∀ b:Addr,b ∉ X.ex:=fun b=>by rw [hB.ex];simp
  rw [hB.st] at fy
  refine wpAny_leaves_onW hfr hB.fr fy fun h2 fy2 sm=>?_
  have sub:∀ b,b∈frs X.outer→b∈frs X.stack:=fun b hb=>by rw [hB.st,rA hB.fr];exact List.mem_cons_of_mem _ hb
  have F0:Fly X.prog X.w B (frs X.outer) X.H₀ X.s₀.heap H' s'.heap:=by
    refine ⟨⟨fun b o q n hb _=>?_,fun b o q n hb _=>?_,fun b o q n _=>?_,fun b o q _=>?_,fun b xs q=>fl.un.tups b xs (I.base.tups b xs q),fun b o u q=>fl.un.frzs b o u (I.base.frzs b o u q),fun b ps q=>?_⟩,fl.hok,fun b o q n=>?_,fl.trk⟩
    · have e1:=I.base.keep b o q n hb (hnx b)
      exact fl.un.keep b o e1 (I.base.free b o q n (hnx b)) (I.uK hB q hb) (by simp)
    · obtain ⟨s1,e1⟩:=I.base.slot b o q n hb (hnx b)
      obtain ⟨s2,e2⟩:=fl.un.slot b _ e1 (I.base.free b o q n (hnx b)) (sub b hb) (by simp)
      exact ⟨s2,e2⟩
    · obtain ⟨o',e'⟩:=I.base.there b o q (hnx b)
      exact fl.un.free b o' e' (I.base.free b o q n (hnx b)) (by simp)
    · obtain ⟨o',e'⟩:=I.base.there b o q (hnx b)
      exact fl.un.there b o' e' (by simp)
    · obtain ⟨m1,e1⟩:=I.base.tbls b ps q
      obtain ⟨m2,e2⟩:=fl.un.tbls b _ e1
      exact ⟨m1++m2,by rw [e2,Array.append_assoc]⟩
    · obtain ⟨o',e'⟩:=I.base.there b o q (hnx b)
      obtain ⟨o2,e2,k⟩:=fl.old b o' e' (I.uK hB q n)
      refine ⟨o2,e2,fun z=>?_⟩
      rw [k (I.base.free b o q z (hnx b))]
      have:=I.base.keep b o q z n (hnx b)
      rw [e'] at this;exact Option.some.inj this
  have F1:=F0.on (h2:=h2) fy2.1 fun b hb o q=>by
    obtain ⟨_,o',e',d⟩:=fy.2.2.1.mem (by rw [hB.st] at sub;exact sub b hb)
    rw [q] at e';cases e'
    exact sm b o q d
  refine ⟨ea,t,C,B,H',rfl,os.trans I.os,bare,F1,fy2,?_,nh,hE⟩
  cases q:X.s₀.heap.get? ea with
  | none=>rfl
  | some o =>
    obtain ⟨o',e'⟩:=I.base.there ea o q (hnx ea)
    rw [new] at e';cases e'
end
section
variable {P:Program} {w:World} {K:PySem.W.Frag} {mg:Str→Option Value} {base:Heap} {N:List Str} {qual:Str} {scope:Scope} {f:Addr} {cd:Value} {A:Around} {outer:List Env} {s:Shared} {H:Hp} {E:XK}
theorem gZ {CX:CXT}:Body (zZ CX P w K mg base N qual scope f cd A outer s H E):=⟨rfl,rfl,rfl⟩
theorem kI:Passes (CXE P w) (zZ (CXE P w) P w K mg base N qual scope f cd A outer s H E) E:=fun _ _ _ _ _ _ I h=>uQ gZ I h
theorem Fun.okX {x:Str} {st:Stmt} {fd:FuncData} {ps:List Str} {k:Nat} {sp:Sp} (F:Fun K x qual st f fd) (S:aW N ps (ak st)) (len:∀ vs H Q E,sp vs H Q E→vs.length=ps.length)
    (hbody:∀ (cdv:Value) (A:Around) (outer:List Env) (s:Shared) (H:Hp) (vs:List V) (Q:VK) (E:XK),mQ k (A.deeper (envOfC qual (ak st) s.heap.objs.size f cdv))→sp vs H Q E →
      ∃ t,PSs (zZ (CXE P w) P w K mg base N qual (ak st) f cdv A outer s H E) (aB st) t∧t { nx:=fun _ H'=>Q .non H',rt:=Q } (start N vs) H):bQ P w K mg base (CXE P w) (k + 1) f fd ps sp:=by
  obtain ⟨oc,od,kV,doc,pm,an,cdv,ct,osl,rfl,lk,hcd⟩:=F.ex
  exact Ln lk hcd S len fun A outer s H vs Q E hr hsp=>hbody cdv A outer s H vs Q E hr hsp
end
end L2
namespace L2
open PySem PySem.W PySem.Spec PySem.Calls PyProof.Rows
abbrev wX:List Value:=[.type "ValueError",.type "Exception",.type "BaseException",.type "object"]
theorem Lp {K:Frag} {h:Heap} {C:Addr} (X:K.In h) (q:excIn K C wX "ValueError.__new__"=true) :
    ∃ bm N nm qn bs hdct sn sub ab col dd k0 k1 k2 k3 k5 mN,h.get? C=some (excClassObj nm qn C N bs bm hdct sn sub ab col dd k0 k1 k2 k3 k5 "ValueError.__new__")∧h.Ns N mN∧mN "__init__"=none∧OwnTail h wX bm:=by
  unfold excIn at q
  split at q
  · rename_i d1 c1 s1 look
    split at q
    · rename_i C1 bm1 a0 a1 a2 a3 n1 a5 m1 l1
      simp only [Bool.and_eq_true,beq_iff_eq,Bool.not_eq_true'] at q
      obtain ⟨⟨⟨⟨⟨e1,e2⟩,e3⟩,e4⟩,e5⟩,e6⟩:=q
      subst e1 e2
      obtain ⟨nm,bs,mro,ns,qn,hd,sn,sub,ab,col,del⟩:=c1
      dsimp only at m1 e3 e5 e6
      subst m1 e3
      have es:s1=#[a0,a1,a2,a3,some (.builtin "ValueError.__new__"),a5]:=by cases s1;simp only at l1;rw [l1]
      subst es
      exact ⟨bm1,ns,nm,qn,bs,hd,sn,sub,ab,col,d1,a0,a1,a2,a3,a5,_,X _ _ look,Heap.Ns.of_isNs (isNs_of_in X e5),nsMap_none_of_in X e5 e6,tail_of_in X e4⟩
    · cases q
  · cases q
def Mq (E:XK) (C:Addr) (ta:TA):TS:=fun _ σ H=>ta σ H fun vs H1=>vs.length≤sizeLine∧∀ e,H1 e=none→E (.ref C) (some e) H1
section
variable {X:Cx} {E:XK} {x:Str} {C:Addr} {np cpos pos:Pos} {e0:Expr} {ta:TA}
theorem fZ (hB:Body X) (hc:X.calm=true) (hx:∀ e s',wpAny (model X.prog X.w) X.A (leaving X.env e) (fun _ s''=>CXE X.prog X.w X.outer X.H₀ X.s₀ E e s'') (fun e s''=>CXE X.prog X.w X.outer X.H₀ X.s₀ E e s'') s'→X.xe e s')
    (hg:Gl X x) (hm:X.mg x=some (.ref C)) (hq:excIn X.K C wX "ValueError.__new__"=true) (ha:PA X [e0] ta) (he:starEach [e0] X.env=[(false,eval e0 X.env)]:=by rfl) (hd:(x == ("__debug__":Str))=false:=by decide) :
    PS X (.Raise (some (.Call (.Name x np) [e0] [] cpos)) none pos) (Mq E C ta):=by
  intro pins s σ H D I h
  obtain ⟨bm,Nn,nm,qn,bs,hdct,sn,sub,ab,col,dd,k0,k1,k2,k3,k5,mN,hC,hN,hni,TL⟩:=Lp I.ok.mod.kin hq
  refine wpAny_Raise_call_subU (C:=C) (nm:=nm) (q:=qn) (N:=Nn) (bs:=bs) (bm:=bm) (hdct:=hdct) (sn:=sn) (sub:=sub) (ab:=ab) (col:=col) (dd:=dd) (k0:=k0) (k1:=k1) (k2:=k2) (k3:=k3) (k5:=k5) (mN:=mN) (newId:="ValueError.__new__")
    PySem.F.excBase_ValueError PySem.F.excBase_ValueError.hasB PySem.F.excBase_ValueError (TL.hasType PySem.F.excBase_ValueError.hasBase) (I.ok.hd hc) (by rw [he];rfl) hni ?_
  refine lY I hg hm ⟨rfl,?_⟩ hd
  have a:=ha cpos pins s σ H _ I h
  rw [he] at a ⊢
  refine Calls.evalArgs_plain (wpAny_mono a (fun us s1 ⟨vs,H1,I1,r1,hz,q1⟩=>?_) fun _ _ z=>z)
  exact ⟨rfl,by show us.length≤_;rw [← r1.length];exact hz,I1.bk _ _ hC,hN.keeps I1.bk,TL.keeps I1.bk,fun h' e mk=>hx _ _ (sJ hB I1 mk (q1 e))⟩
end
end L2
namespace L2
open PySem PySem.W PySem.Spec PySem.Calls PyProof.Rows
def XS (X:Cx) (pins:List (Addr × Obj)) (Ex:St→XK) (ev:Value) (s':Shared):Prop:=∃ σ H s,Inv X pins σ H s∧CXE X.prog X.w X.stack H s (Ex σ) ev s'
def PEx (X:Cx) (e:Expr) (t:St→Hp→VK→XK→Prop):Prop :=
  ∀ (pins:List (Addr × Obj)) (s:Shared) (σ:St) (H:Hp) (Q:VK) (Ex:St→XK),Inv X pins σ H s→t σ H Q (Ex σ)→wpAny (model X.prog X.w) X.A (eval e X.env) (EP X pins σ Q) (XS X pins Ex) s
abbrev TX:=Ends→(St→XK)→St→Hp→Prop
def PSx (X:Cx) (st:Stmt) (t:TX):Prop :=
  ∀ (pins:List (Addr × Obj)) (s:Shared) (σ:St) (H:Hp) (D:Ends) (Ex:St→XK),Inv X pins σ H s→t D Ex σ H→wpAny (model X.prog X.w) X.A (exec st X.env) (SP X pins D) (XS X pins Ex) s
def Wq (X:Cx) (sts:List Stmt) (t:TX):Prop :=
  ∀ (pins:List (Addr × Obj)) (s:Shared) (σ:St) (H:Hp) (D:Ends) (Ex:St→XK),Inv X pins σ H s→t D Ex σ H→wpAny (model X.prog X.w) X.A (execs sts X.env) (SP X pins D) (XS X pins Ex) s
section
variable {X:Cx} {k:Nat} {f:Addr} {fd:FuncData} {ps:List Str} {sp:Sp} {dvs:List V} {ds:List Value} {x:Str} {p pos:Pos} {e:Expr} {es:List Expr} {t:TA}
def TF (sp:Sp) (dvs:List V) (t:TA):St→Hp→VK→XK→Prop:=fun σ H Q Ex=>t σ H fun vs H1=>sp (vs++dvs) H1 Q Ex
theorem Kq (F:bQ X.prog X.w X.K X.mg X.base (CXE X.prog X.w) k f fd ps sp) (hr:mQ k X.A) (hg:Gl X x) (hm:X.mg x=some (.ref f)) (hk:PySem.W.keepIn X.K (.ref f)=true) (hb:Binds X.K fd ps ds) (hd:Vals dvs ds)
    (ha:PA X.nox (e :: es) t) (hdb:(x == ("__debug__":Str))=false:=by decide) (he:starEach (e :: es) X.env=(false,eval e X.env) :: starEach es X.env:=by rfl) (hpl:(backTo pos (starEach es X.env)).any (·.1)=false:=by rfl) :
    PEx X (.Call (.Name x p) (e :: es) [] pos) (TF sp dvs t):=by
  intro pins s σ H Q Ex I h
  refine wpAny_Call_Name_kw (lY I hg hm ?_ hdb)
  refine PySem.W.callWith_K (h₀:=X.base) I.ok.mod.kin hk (wpAny_mono (ha pos pins s σ H _ (I.wish _) h) (fun us s1 ⟨vs,H1,I1,r,q⟩=>?_) fun _ _ z=>z.elim) he hpl
  have I1:=I1.lH
  refine ⟨I1.kIn,?_⟩
  have r2:Vals (vs++dvs) (us++ds):=r.append hd
  have hl:(us++ds).length=ps.length:=by rw [← r2.length];exact F.len _ _ _ _ q
  refine wpAny_call (codeAny_mono (F.run X.A X.stack s1 H1 ⟨us,[]⟩ (us++ds) (vs++dvs) Q (Ex σ) hr I1.env0 (hb s1 us I1.kIn hl) r2 q) fun rr s' hq=>?_)
  cases rr with
  | error ev=>exact ⟨σ,H1,s1,I1,hq⟩
  | ok fl =>
    cases fl with
    | ret u=>exact I1.after hq
    | next=>exact False.elim hq
    | brk=>exact False.elim hq
    | cont=>exact False.elim hq
theorem xr {te:St→Hp→VK→XK→Prop} {pos:Pos} (he:PEx X e te) (hs:swapsWith e none pos.line X.env=pure false:=by rfl):PSx X (.Expr e pos) (fun D Ex σ H=>te σ H (fun _ H1=>D.nx σ H1) (Ex σ)):=by
  intro pins s σ H D Ex I h
  exact wpAny_Expr_any (wpAny_mono (he pins s σ H _ Ex I h) (fun v s1 ⟨x,H1,I1,r1,q1⟩=>⟨σ,H1,I1,q1⟩) fun _ _ z=>z) I.quiet hs
theorem xq {st:Stmt} {tx:TX} (h:PSx X st tx):Wq X [st] tx:=by
  intro pins s σ H D Ex I hq
  refine wpAny_execs_cons (wpAny_mono (h pins s σ H D Ex I hq) (fun fl s1 q=>?_) fun _ _ z=>z)
  cases fl with
  | next=>exact wpAny_execs_nil q
  | ret v=>exact q
  | brk=>exact q
  | cont=>exact q
end
section
variable {X:Cx} {pins:List (Addr × Obj)} {σ:St} {H:Hp} {s:Shared}
def wD (X:Cx) (e:Addr):Cx:={ X with A:=X.A.mark (some (.ref e)),calm:=false,xe:=fun _ _=>False }
theorem Inv.sup (I:Inv X pins σ H s) (e:Addr):Inv (wD X e) pins σ H s :=
  ⟨⟨I.ok.mod,I.ok.kind,I.ok.glob,I.ok.blt,I.ok.above,I.ok.inj,I.ok.has,I.ok.cab,fun z=>(by cases z),I.ok.frames,I.ok.stk,I.ok.exf,I.ok.bs,I.ok.bsz,I.ok.noex,I.ok.exfs,I.ok.vW,I.ok.frf⟩,I.os,I.bare,I.base,I.loc,I.cell,I.free,I.freeC,I.pin,I.hok,I.len⟩
theorem Inv.TJ {e:Addr} (hc:X.calm=true→X.A.handled=none) (I:Inv (wD X e) pins σ H s):Inv X pins σ H s :=
  ⟨⟨I.ok.mod,I.ok.kind,I.ok.glob,I.ok.blt,I.ok.above,I.ok.inj,I.ok.has,I.ok.cab,hc,I.ok.frames,I.ok.stk,I.ok.exf,I.ok.bs,I.ok.bsz,I.ok.noex,I.ok.exfs,I.ok.vW,I.ok.frf⟩,I.os,I.bare,I.base,I.loc,I.cell,I.free,I.freeC,I.pin,I.hok,I.len⟩
theorem Inv.Ti {a:Addr} {o:HO} (I:Inv X pins σ H s) (hn:H a=none) (hL:a≠X.env.locals) (h0:X.s₀.heap.get? a=none) (hc:∀ x c,X.env.cells.lookup x=some c→c≠a) (hp:∀ p∈X.pn++pins,p.1≠a)
    (new:jz X.prog X.w (upd H a o) s.heap a o):Inv X pins σ (upd H a o) s:=by
  have ne:∀ b u,H b=some u→b≠a:=fun b u e=>dI e hn
  refine ⟨I.ok,I.os,I.bare,⟨I.base.keep,I.base.slot,fun b ob e n hx=>?_,I.base.there,fun b xs e=>?_,fun b ob xs e=>?_,fun b ps e=>?_⟩,I.loc,I.cell,?_,fun x c e=>?_,fun p hq=>?_,fun b u e=>?_,I.len⟩
  · rw [bB fun z=>by rw [z,h0] at e;cases e];exact I.base.free b ob e n hx
  · have:=I.base.tups b xs e;rw [bB (ne b _ this)];exact this
  · have:=I.base.frzs b ob xs e;rw [bB (ne b _ this)];exact this
  · obtain ⟨m,e1⟩:=I.base.tbls b ps e;exact ⟨m,by rw [bB (ne b _ e1)];exact e1⟩
  · rw [bB hL.symm];exact I.free
  · rw [bB (hc x c e)];exact I.freeC x c e
  · obtain ⟨e1,n,r⟩:=I.pin p hq;exact ⟨e1,by rw [bB (hp p hq)];exact n,r⟩
  · by_cases hb:b=a
    · subst hb;rw [cQ] at e;cases e;exact new
    · rw [bB hb] at e
      exact (I.hok b u e).stay (fun _ _ _ q=>q) (fun c q=>by rw [bB (ne c _ q)];exact q) fun c xs q=>by rw [bB (ne c _ q)];exact q
theorem Inv.Mj {i:Nat} {n:Str} {h':Heap} {v:Option Value} {m:Str→Option Value} {t':Nat} (I:Inv X pins σ H s) (hN:X.N.Nodup) (hi:X.N[i]?=some n) (hs:Heap.SameBut X.env.locals s.heap h') (hm:s.heap.Ns X.env.locals m)
    (hl:∀ (j:Nat) (x:Str) (w:V),X.N[j]?=some x→σ[j]?=some (some w)→Vis X.env.scope x→∃ u,RelV w u∧Look X.env s.heap m x u) (hn:h'.Ns X.env.locals (fun x=>if x=n then v else m x)):Inv X pins (σ.set i none) H { s with heap:=h',toks:=t' }:=by
  have kp:∀ b o,b≠X.env.locals→s.heap.get? b=some o→h'.get? b=some o:=fun b o hb e=>(hs.2 b hb).trans e
  have old:∀ b o,X.s₀.heap.get? b=some o→b≠X.env.locals:=fun b o e=>Nat.ne_of_lt (Nat.lt_of_lt_of_le (Heap.lt_size e) I.ok.above)
  refine ⟨I.ok,I.os,I.bare,⟨fun b o e n hb hx=>kp b o (old b o e) (I.base.keep b o e n hb hx),fun b o e n hb hx=>?_,I.base.free,fun b o e hx=>?_,I.base.tups,I.base.frzs,I.base.tbls⟩,⟨_,hn,fun j x w e1 e2 e3=>?_⟩,fun x c e=>?_,I.free,I.freeC,fun p hp=>?_,fun b u e=>?_,by rw [List.length_set];exact I.len⟩
  · obtain ⟨sl,e1⟩:=I.base.slot b o e n hb hx
    exact ⟨sl,kp b _ (old b o e) e1⟩
  · obtain ⟨o',e1⟩:=I.base.there b o e hx
    exact ⟨o',kp b _ (old b o e) e1⟩
  · by_cases hj:j=i
    · subst hj
      have hj':j<σ.length:=by
        have:=(List.getElem?_eq_some_iff.mp e2).1
        rw [List.length_set] at this;exact this
      rw [List.getElem?_set_self hj'] at e2;cases e2
    · rw [List.getElem?_set_ne (Ne.symm hj)] at e2
      have hx:x≠n:=fun z=>by
        subst z
        obtain ⟨a1,a2⟩:=List.getElem?_eq_some_iff.mp e1
        obtain ⟨b1,b2⟩:=List.getElem?_eq_some_iff.mp hi
        exact hj ((List.getElem_inj hN).mp (a2.trans b2.symm))
      obtain ⟨u,r,l⟩:=hl j x w e1 e2 e3
      refine ⟨u,r,?_⟩
      rcases l with ⟨k,z⟩ | ⟨k,c,ec,z⟩
      · exact .inl ⟨k,by dsimp only;rw [if_neg hx];exact z⟩
      · refine .inr ⟨k,c,ec,?_⟩
        obtain ⟨o,ho,hd⟩:=z
        exact ⟨o,kp c o (I.cne x c ec) ho,hd⟩
  · obtain ⟨w,o,ho,hd⟩:=I.cell x c e
    exact ⟨w,o,kp c o (I.cne x c e) ho,hd⟩
  · obtain ⟨e1,n1,l1,r⟩:=I.pin p hp
    exact ⟨kp _ _ l1 e1,n1,l1,r⟩
  · refine (I.hok b u e).stay (fun c w hc q=>kp c w (fun z=>?_) q) (fun _ q=>q) fun _ _ q=>q
    rcases hc with y | y
    · rw [← y,z,I.free] at e;cases e
    · rw [z,I.free] at y;cases y
end
end L2
namespace L2
open PySem PySem.W PySem.Spec PySem.Calls PyProof.Rows
def Tw (K:PySem.W.Frag) (Bc:Value) (i:Nat) (th:TS) (D:Ends):St→XK:=fun σ cls oe H=>∃ C e,cls=.ref C∧oe=some e∧exmOne K (.ref C) Bc=some true ∧
  th { nx:=fun σ' H'=>D.nx (σ'.set i none) H',rt:=D.rt,bk:=fun σ' H'=>D.bk (σ'.set i none) H',ct:=fun σ' H'=>D.ct (σ'.set i none) H' } (σ.set i (some (.ref e))) (upd H e (.ext (XAt e C)))
def tTry (K:PySem.W.Frag) (Bc:Value) (i:Nat) (tb:TX) (th:TS):TS:=fun D σ H=>tb D (Tw K Bc i th D) σ H
section
variable {X:Cx} {body suite:List Stmt} {b0:Stmt} {x n:Str} {Ba:Addr} {i:Nat} {tb:TX} {th:TS} {np hpos pos:Pos}
theorem Ci (hB:Body X) (hc:X.calm=true) (hb:Wq X body tb) (hg:Gl X x) (hm:X.mg x=some (.ref Ba)) (hN:X.N.Nodup) (hi:X.N[i]?=some n) (hlo:X.env.scope.names.lookup n=some .local)
    (hs:∀ e:Addr,PSs (wD X e) (b0 :: suite) th) (hd:(x == ("__debug__":Str))=false:=by decide) :
    PS X (.Try body [.ExceptHandler (some (.Name x np)) (some n) (b0 :: suite) hpos] [] [] pos) (tTry X.K (.ref Ba) i tb th):=by
  intro pins s σ H D I h
  refine wpAny_Try_except (wpAny_mono (hb pins s σ H D _ I h) (fun fl s1 q=>?_) fun ev s1 q=>?_)
  · cases fl with
    | next=>exact wpAny_execs_nil q
    | ret v=>exact q
    | brk=>exact q
    | cont=>exact q
  obtain ⟨σ1,H1,s0,I1,ea,t,C,B,H',rfl,os,bare,fl,fy,new,nh,C',e',ec,ee,hx,ht⟩:=q
  cases ec
  cases ee
  have hfr:X.A.frames=some (X.env :: X.outer):=by rw [← hB.st];exact I1.ok.frames
  have fy0:Heap.FlyingW B (X.env :: X.outer) ea (.ref C) (.ref t) s1.heap:=by rw [← hB.st];exact fy
  refine wpAny_looks_onW hfr hB.fr fy0 fun h4 hd4 sm4=>?_
  have fl4:=fl.on (h2:=h4) hd4.1 (kJ fy.2.2.1 sm4)
  refine wpAny_landsW hd4 fun h5 fy5 sm5=>?_
  have fl5:=fl4.on (h2:=h5) fy5.1 (by rw [hB.st];exact kJ hd4.2.2.1 sm5)
  have I5:Inv X pins σ1 H' { s1 with heap:=h5 }:=I1.call' (s':={ s1 with heap:=h5 }) (ch:=[]) os fl5.un fl5.hok bare (fun b z=>nomatch z)
  have hxe:XAt ea C h5:=by obtain ⟨ob,h1,h2⟩:=fy5.there;exact ⟨ob,h1,h2⟩
  refine wpAny_handleBy_cons (codeAny_handlers_test ?_) (by intro q;cases q)
  refine lY (X:=wD X ea) (I5.sup ea) hg hm ?_ hd
  refine (exm_one (K:=X.K) I5.kIn (xu hxe) hx).at ?_
  show codeAny _ _ _ _ _
  refine codeAny_handlers_suite_as ?_
  refine lands_againW fy5 fun h6 fy6 sm6=>?_
  have fl6:=fl5.on (h2:=h6) fy6.1 (by rw [hB.st];exact kJ fy5.2.2.1 sm6)
  have I6:Inv X pins σ1 H' { s1 with heap:=h6 }:=I1.call' (s':={ s1 with heap:=h6 }) (ch:=[]) os fl6.un fl6.hok bare (fun b z=>nomatch z)
  have hxe6:XAt ea C h6:=by obtain ⟨ob,h1,h2⟩:=fy6.there;exact ⟨ob,h1,h2⟩
  have newS:X.s₀.heap.get? ea=none:=by
    cases q:X.s₀.heap.get? ea with
    | none=>rfl
    | some o =>
      obtain ⟨o',e'⟩:=I1.base.there ea o q (by rw [hB.ex];simp)
      rw [new] at e';cases e'
  have I7:Inv X pins σ1 (upd H' ea (.ext (XAt ea C))) { s1 with heap:=h6 }:=by
    refine I6.Ti nh (fun z=>?_) newS (fun y c e z=>?_) (fun p hp z=>?_) ⟨hxe6,(by obtain ⟨o,h1,_⟩:=hxe6;exact ⟨o,h1⟩),fun g1 g2 p k=>?_⟩
    · obtain ⟨m,⟨o,_,_,ho,_⟩,_⟩:=I1.loc
      rw [← z,new] at ho;cases ho
    · obtain ⟨v,o,ho,_⟩:=I1.cell y c e
      rw [z,new] at ho;cases ho
    · have ho:=(I1.pin p hp).1
      rw [z,new] at ho;cases ho
    · obtain ⟨o,h1,h2⟩:=p
      exact ⟨o,k o h1,h2⟩
  refine qt (X:=wD X ea) (I7.sup ea) hN hi (.inl hlo) (v:=.ref ea) rfl (fun s8 I8=>?_) (.inr hlo)
  refine wpAny_mono (hs ea pins s8 _ _ _ I8 ht) (fun f s9 q=>?_) fun _ _ z=>z.elim
  have out:∀ {σ9:St} {H9:Hp} (J:Inv (wD X ea) pins σ9 H9 s9) (Z:Shared→Prop),(∀ s10,Inv X pins (σ9.set i none) H9 s10→Z s10)→wpAny (model X.prog X.w) X.A (do bindName X.env n .none;unbindBehindTheSuite X.env n hpos) (fun _ s10=>Z s10) X.xe s9:=fun {σ9 H9} J Z k=>by
    have J':Inv X pins σ9 H9 s9:=J.TJ fun hc=>I1.ok.hd hc
    obtain ⟨m,hn,hl⟩:=id J'.loc
    exact wpAny_nameGoes_keeps hlo hn (by rw [J'.ok.kind];rfl) fun h' v hn' hsb=>k _ (J'.Mj hN hi hsb hn hl hn')
  cases f with
  | next=>obtain ⟨σ9,H9,J,q⟩:=q;exact out J _ fun s10 J10=>⟨_,H9,J10,q⟩
  | brk=>obtain ⟨σ9,H9,J,q⟩:=q;exact out J _ fun s10 J10=>⟨_,H9,J10,q⟩
  | cont=>obtain ⟨σ9,H9,J,q⟩:=q;exact out J _ fun s10 J10=>⟨_,H9,J10,q⟩
  | ret u=>obtain ⟨v,σ9,H9,J,r,q⟩:=q;exact out J _ fun s10 J10=>⟨v,_,H9,J10,r,q⟩
def ClsV (c:V) (t:Value):Prop:=(∃ T,c=.ty T∧t=.type T)∨∃ a,c=.ref a∧t=.ref a
theorem dR:nP X (.builtin "isinstance") (fun xs H Q=>∃ (e D:Addr) (c:V) (t:Value) (b:Bool),xs=[.ref e,c]∧H e=some (.ext (XAt e D))∧Ko X.K D∧ClsV c t∧PySem.W.kitOne X.K (.ref D) t=some b∧Q (.bl b) H):=by
  intro pins s σ H xs us Q I r h
  obtain ⟨e,D,c,t,b,rfl,he,hD,hc,hk,q⟩:=h
  obtain ⟨u,v,rfl,ru,rv⟩:=vals2 r
  cases ru
  have ev:v=t:=by
    rcases hc with ⟨T,rfl,rfl⟩ | ⟨a,rfl,rfl⟩
    · exact rv
    · exact rv
  subst ev
  obtain ⟨hx,_,_⟩:=(show jz X.prog X.w H s.heap e (.ext (XAt e D)) from I.hok e _ he)
  exact PySem.W.kia_one (Bj hD) I.kIn hx hk (fun z=>nomatch z) fun tk=>⟨.bl b,H,I.tok tk,rfl,q⟩
end
theorem Lx:bootBuiltins "ValueError"=some (.type "ValueError"):=by kernel_rfl
theorem M4 {X:Cx}:Passes (CXE X.prog X.w) X E0:=fun _ _ _ _ _ _ _ h=>by
  obtain ⟨_,_,_,_,_,_,_,_,_,_,_,_,hE⟩:=h
  exact hE.elim
theorem nj {X:Cx} {x:Str} {C:Addr} {pos:Pos} (hg:Gl X x) (hm:X.mg x=some (.ref C)) (hd:(x == ("__debug__":Str))=false:=by decide):PE X (.Name x pos) (tC (.ref C)):=iV (v:=.ref C) hg hm rfl hd
structure lO (K:PySem.W.Frag) (mg:Str→Option Value) (x:Str) (C:Addr):Prop where
  m:mg x=some (.ref C)
  q:excIn K C wX "ValueError.__new__"=true
  x:Ko K C
end L2
namespace L2
open PySem PySem.Spec PyProof.Rows
section
variable {X:Cx}
theorem Inv.qm {pins:List (Addr × Obj)} {σ:St} {H:Hp} {s:Shared} {h':Heap} {t':Nat} {ch:List Addr} (I:Inv X pins σ H s) (k:∀ b o,b ∉ ch→s.heap.get? b=some o→h'.get? b=some o) (f:∀ b∈ch,BW X pins H b):Inv X pins σ H { s with heap:=h',toks:=t' }:=by
  have nit:∀ b u,H b=some u→b ∉ ch:=fun b u e z=>by rw [(f b z).1] at e;cases e
  refine I.step (g':=s.gens) (d':=s.drawn) (ch:=ch) (fun b hb=>?_) (fun b o _ _ hc e _=>k b o hc e) (fun b o _ _ hc e _=>⟨o.slots,k b o hc e⟩) (fun _ _ _ _ n=>n)
    (fun b o hc e=>⟨o,k b o hc e⟩) (fun _ _ e=>e) (fun _ _ _ e=>e) (fun b ps e=>⟨#[],by rw [e];simp⟩) (fun m hm=>?_) (fun b u e=>?_) I.bare
  · obtain ⟨f0,f1,f2,f3,f4,f5⟩:=f b hb
    exact ⟨f3,f1,f4,f5⟩
  · obtain ⟨o,es,ep,ho,r⟩:=hm
    exact ⟨o,es,ep,k _ o (fun z=>(f _ z).2.1 rfl) ho,r⟩
  · refine (I.hok b u e).stay (fun c v hc q=>k c v ?_ q) (fun _ q=>q) fun _ _ q=>q
    rcases hc with z | z
    · rw [z];exact nit b u e
    · exact nit c _ z
end
end L2
namespace L2
open PySem PySem.Spec PyProof.Rows
section
variable {X:Cx}
def Ite (K:PySem.W.Frag) (l:Addr) (xs:List V):It :=
  ⟨fun i H=>SqL K H l xs∧i<xs.length,fun i H x H'=>∃ T a,x=.ref T∧H T=none∧xs[i]?=some a∧H'=upd H T (.tup [.int (i:Int),a]),fun i H=>SqL K H l xs∧xs.length≤i⟩
def Tj (e it l:Addr) (i:Nat) (h:Heap):Prop:=(∃ old,IsEnum h e it i old)∧h.IsListIter it l i
theorem xH {P:Program} {w:World} {K:PySem.W.Frag} {elts:List Expr} {kk:Nat} {tpos:Pos} {e it l:Addr} {xs:List V} (hei:e≠it) :
    Turn P w K (.Tuple elts kk tpos) (Ite K l xs) [e,it] e (Tj e it l) where
  mem:=by simp
  obj:=fun i h st b hb=>by
    obtain ⟨⟨old,he⟩,⟨o1,e1,c1,d1⟩⟩:=st
    simp at hb
    rcases hb with rfl | rfl
    · exact ⟨_,he,fun v z=>by cases (show Data.fields _=Data.cell v from z)⟩
    · exact ⟨o1,e1,fun v z=>by rw [d1] at z;cases z⟩
  keep:=fun i h h' st k=>by
    obtain ⟨⟨old,he⟩,h1⟩:=st
    exact ⟨⟨old,k e (by simp) _ he⟩,h1.at fun o x=>k it (by simp) o x⟩
  item:=by
    intro X hP hw hK hc i pins s σ H E I hf st hg
    subst hP hw hK
    obtain ⟨⟨old,he⟩,h1⟩:=st
    obtain ⟨hq1,hi1⟩:=hg
    obtain ⟨its1,rv1,pl1,hz1⟩:=I.list hq1
    obtain ⟨u1,hu1,ru1⟩:=rv1.get (List.getElem?_eq_getElem hi1)
    refine wpAny_pyNext_enum_item he h1 pl1.isList (x:=u1) (by simpa using hu1) hei fun h' a1 a2 a3 a4 hk=>?_
    have lt:∀ {c o},s.heap.get? c=some o→s.heap.objs.size≠c:=fun e=>Nat.ne_of_gt (Heap.lt_size e)
    refine ⟨.ref s.heap.objs.size,rfl,wpAny_letOwnedTupleGo_enum (s:={ s with heap:=h',toks:=s.toks + 1 }) a1 fun h'' hz' hs'=>?_⟩
    have Tz:s.heap.objs.size≠e:=lt he
    have I1:Inv X pins σ H { s with heap:=h'',toks:=s.toks + 1 }:=I.qm (ch:=[e,it])
      (fun b o hb x=>hs'.extBut b o (fun z=>hb (by simp [z])) (hk b o (fun z=>hb (by simp [z])) (fun z=>hb (by simp [z])) x)) fun b hb=>hf b hb
    obtain ⟨F0,F1,F2,F3,F4,F5⟩:=I.Kh (H':=H) (Nat.le_refl _) (I.hok.fresh (Nat.le_refl _))
    have hT:IsTup h'' s.heap.objs.size #[.int (i:Int) s.toks,u1]:=⟨_,hs'.extBut _ _ Tz a3,rfl,_,rfl⟩
    have I2:Inv X pins σ (upd H s.heap.objs.size (.tup [.int (i:Int),xs[i]])) { s with heap:=h'',toks:=s.toks + 1 }:=I1.adopt F0 F1 I.sz F4 F5 (show jz X.prog X.w _ h'' _ (.tup [.int (i:Int),xs[i]]) from ⟨by rw [sizeLine_eq];simp,[.int (i:Int) s.toks,u1],.cons ⟨_,rfl⟩ (.cons ru1 .nil),hT⟩)
    refine ⟨.ref s.heap.objs.size,_,I2,rfl,⟨_,_,rfl,F0,List.getElem?_eq_getElem hi1,rfl⟩,?_,fun b hb=>?_⟩
    · exact ⟨⟨_,by simpa using hz'⟩,a2.extBut hs'.extBut hei.symm⟩
    · rw [bB]
      · exact (hf b hb).1
      · simp at hb
        obtain ⟨o1,e1,_⟩:=h1
        rcases hb with rfl | rfl
        · exact (lt he).symm
        · exact (lt e1).symm
  done:=by
    intro X hP hw hK hc i pins s σ H E I hf st hg
    subst hP hw hK
    obtain ⟨⟨old,he⟩,h1⟩:=st
    obtain ⟨hq1,hend⟩:=hg
    obtain ⟨its1,rv1,pl1,hz1⟩:=I.list hq1
    have e1:=rv1.length
    exact wpAny_pyNext_enum_end (I.ok.hd hc) he h1 pl1.isList (by simp;omega) fun h' hk=>⟨rfl,I.qm (t':=s.toks) (ch:=[e,it])
      (fun b o hb x=>hk b o (fun z=>hb (by simp [z])) x) fun b hb=>hf b hb⟩
  self:=fun _ _ _ _ _ st h=>by
    obtain ⟨⟨old,he⟩,_⟩:=st
    exact wpAny_pyIter_enum he h
def Uq (K:PySem.W.Frag) (ta:TA):TI:=fun σ H R=>ta σ H fun vs H1=>∃ l xs,vs=[.ref l]∧SqL K H1 l xs∧R (Ite K l xs) H1
theorem lW {elts:List Expr} {kk:Nat} {tpos:Pos} {a:Expr} {ta:TA} {p pos:Pos} (hg:Gl X "enumerate") (hm:X.mg "enumerate"=none) (ha:PA X [a] ta) (hs:starEach [a] X.env=[(false,eval a X.env)]:=by rfl) :
    PI X (.Tuple elts kk tpos) (.Call (.Name "enumerate" p) [a] [] pos) (Uq X.K ta):=by
  intro pins s σ H R I h
  refine Call_ (oU I hg hm boot_enumerate (PyProof.Rows.callWith_type1 (thn (ha pos pins s σ H _ I h) fun us s1 ⟨vs,H1,I1,r1,q1⟩=>?_) hs rfl))
  obtain ⟨l1,xs,e,hq1,q⟩:=q1
  subst e
  obtain ⟨u,rfl,ru⟩:=vals1 r1
  cases ru
  obtain ⟨its1,rv1,pl1,hz1⟩:=I1.list hq1
  refine call_enumerate_list pl1.isList fun h' a1 a2 a3 hk=>?_
  refine wpAny_pyIter_enum a1 ?_
  refine ⟨_,_,_,_,H1,rfl,I1.kept (t':=s1.toks) hk,xH (l:=l1) (xs:=xs) (it:=s1.heap.objs.size) (Nat.succ_ne_self _),⟨⟨_,a1⟩,a2⟩,fun b hb=>?_,q⟩
  have hb':s1.heap.objs.size≤b:=by
    simp at hb
    rcases hb with rfl | rfl <;> simp
  exact I1.Kh hb' (I1.hok.fresh hb')
theorem rB {K:PySem.W.Frag} {l:Addr} {xs:List V} {g:TG} {tb:TS} {D:Ends} {σ:St} {H:Hp} (Pv:Nat→St→Hp→Prop) (h0:Pv 0 σ H) (hl:∀ i σ H,i≤xs.length→Pv i σ H→SqL K H l xs)
    (hs:∀ i a T σ H,xs[i]?=some a→Pv i σ H→H T=none→g (.ref T) σ (upd H T (.tup [.int (i:Int),a])) fun σ2 H2=>tb { D with nx:=Pv (i + 1),ct:=Pv (i + 1),bk:=D.nx } σ2 H2) (hd:∀ σ H,Pv xs.length σ H→D.nx σ H) :
    ∃ W:Nat→Nat→St→Hp→Prop,(∃ m,W 0 m σ H)∧∀ i m σ H,W i m σ H →
      ((Ite K l xs).stop i H∧D.nx σ H)∨((Ite K l xs).go i H∧∃ N:St→Hp→Prop,(∀ σ' H',N σ' H'→∃ m',m'<m∧W (i + 1) m' σ' H')∧∀ x H',(Ite K l xs).yld i H x H'→g x σ H' fun σ2 H2=>tb { D with nx:=N,ct:=N,bk:=D.nx } σ2 H2):=by
  refine ⟨fun i m σ H=>m=xs.length - i∧i≤xs.length∧Pv i σ H,⟨xs.length,by simp,Nat.zero_le _,h0⟩,?_⟩
  rintro i m σ H ⟨rfl,hi,p⟩
  have q1:=hl i σ H hi p
  by_cases hlt:i<xs.length
  · refine .inr ⟨⟨q1,hlt⟩,Pv (i + 1),fun σ' H' p'=>⟨xs.length - (i + 1),by omega,rfl,hlt,p'⟩,fun x H' y=>?_⟩
    obtain ⟨T,a,rfl,hT,ha,rfl⟩:=y
    exact hs i a T σ _ ha p hT
  · have e:i=xs.length:=by omega
    subst e
    exact .inl ⟨⟨q1,Nat.le_refl _⟩,hd σ H p⟩
theorem mJ {K:PySem.W.Frag} {a:Addr} {xs:List V} {acc:Addr} {g:TG} {tc:TT} {te:TE} {τ:St} {H1:Hp} {Q:Hp→Prop} (Pv:Nat→St→Hp→Prop) (h0:Pv 0 τ (upd H1 acc (.lst []))) (hl:∀ i τ H,i≤xs.length→Pv i τ H→SqL K H a xs)
    (hs:∀ i x T τ H,xs[i]?=some x→Pv i τ H→H T=none→g (.ref T) τ (upd H T (.tup [.int (i:Int),x])) fun τ4 H4=>tc τ4 H4 fun b H5=>if b=true then te τ4 H5 fun y H6=>∃ ys,H6 acc=some (.lst ys)∧ys.length<sizeLine∧Pv (i + 1) τ4 (upd H6 acc (.lst (ys++[y]))) else Pv (i + 1) τ4 H5)
    (hd:∀ τ H,Pv xs.length τ H→Q H):pQ (Ite K a xs) acc g tc te τ H1 Q:=by
  refine ⟨fun i m τ H=>m=xs.length - i∧i≤xs.length∧Pv i τ H,⟨xs.length,by simp,Nat.zero_le _,h0⟩,?_⟩
  rintro i m τ H ⟨rfl,hi,p⟩
  have q:=hl i τ H hi p
  by_cases hlt:i<xs.length
  · refine .inr ⟨⟨q,hlt⟩,Pv (i + 1),fun τ' H' p'=>⟨xs.length - (i + 1),by omega,rfl,hlt,p'⟩,fun x H' y=>?_⟩
    obtain ⟨T,b,rfl,hT,hb,rfl⟩:=y
    exact hs i b T τ _ hb p hT
  · have e:i=xs.length:=by omega
    subst e
    exact .inl ⟨⟨q,Nat.le_refl _⟩,hd τ H p⟩
end
end L2
namespace L2
open PySem PySem.Spec PyProof.Rows
structure Iv (P:Prop):Prop where
  t:True
  p:P
theorem ifT {c:Bool} {A B:Prop} (h:c=true) (a:A):if c=true then A else B:=by rw [if_pos h];exact a
theorem ifF {c:Bool} {A B:Prop} (h:c=false) (b:B):if c=true then A else B:=by rw [if_neg (by rw [h];exact Bool.false_ne_true)];exact b
theorem ifB {c:Bool} {A B:Prop} (h1:c=true→A) (h2:c=false→B):if c=true then A else B:=by
  cases c with
  | true=>exact ifT rfl (h1 rfl)
  | false=>exact ifF rfl (h2 rfl)
theorem Lq (x y:Int):decide (V.int x=V.int y)=decide (x=y):=by
  by_cases h:x=y
  · simp [h]
  · have:¬ V.int x=V.int y:=fun e=>h (by cases e;rfl)
    simp [h,this]
theorem o8 {ns:List Int} {k:Nat} (h:k<ns.length):ns[k]?=some (ns.getD k 0):=by
  rw [List.getD_eq_getElem?_getD,List.getElem?_eq_getElem h];rfl
theorem Uk {n:Nat} {i:Int} (h0:0≤i) (h1:i<(n:Int)):ixN n i=some i.toNat:=by
  unfold ixN;rw [if_pos h0,if_pos h1]
theorem Den.mo {T:eF} {K:PySem.W.Frag} {H H':Hp} {v:V} {d:PyData} (h:Den K H v d) (e:aR T H H'):Den K H' v d:=Den.uL e h
theorem cR.mo {T:eF} {K:PySem.W.Frag} {H H':Hp} {vs:List V} {ds:List PyData} (h:cR K H vs ds) (e:aR T H H'):cR K H' vs ds:=cR.uL e h
theorem SqL.mo {T:eF} {K:PySem.W.Frag} {H H':Hp} {a:Addr} {xs:List V} (h:SqL K H a xs) (e:aR T H H'):SqL K H' a xs:=e.seq h
theorem SqT.mo {T:eF} {K:PySem.W.Frag} {H H':Hp} {a:Addr} {xs:List V} (h:SqT K H a xs) (e:aR T H H'):SqT K H' a xs:=e.wH h
section
variable {T:eF} {H0 H1 H H':Hp} {L L':List (Addr × HO)} {a l p:Addr} {o o':HO} {xs:List V} {K:PySem.W.Frag}
theorem Ow.frz (O:Ow T H0 H ((p,o) :: L)):∃ Hn,Ow T Hn H L∧aR T H0 Hn∧Hn p=some o:=by
  obtain ⟨Hn,On,sn,kn⟩:=O.tail.reb
  refine ⟨Hn,On,sn,kn p o (O.get 0) fun q hq z=>?_⟩
  have nd:=O.nd
  rw [List.map_cons,List.nodup_cons] at nd
  exact nd.1 (List.mem_map.mpr ⟨q,hq,z⟩)
theorem Ow.join (O:Ow T H0 H L) (O':Ow T H H' L'):Ow T H0 H' (L'++L):=by
  have keep:∀ q∈L,H' q.1=some q.2:=fun q hq=>(O.lZ O'.same).at_ q hq
  refine ⟨O.same.trans O'.same,fun q hq=>?_,fun q hq=>?_,fun q hq=>?_,?_⟩
  · rcases List.mem_append.mp hq with h | h
    · exact O.same.free (O'.new q h)
    · exact O.new q h
  · rcases List.mem_append.mp hq with h | h
    · exact O'.at_ q h
    · exact keep q h
  · rcases List.mem_append.mp hq with h | h
    · exact O'.pl q h
    · exact O.pl q h
  · rw [List.map_append,List.nodup_append]
    refine ⟨O'.nd,O.nd,fun x hx y hy z=>?_⟩
    obtain ⟨q,hq,rfl⟩:=List.mem_map.mp hx
    obtain ⟨r,hr,rfl⟩:=List.mem_map.mp hy
    have:=O'.new q hq
    rw [z,O.at_ r hr] at this
    cases this
end
def dTup (ns:List Int):PyData:=.tuple (ns.map PyData.int)
section
variable {K:PySem.W.Frag} {H:Hp} {v:V} {a:Addr} {ns:List Int} {rs:List (List Int)}
theorem Den.tup (h:SqT K H a (ns.map V.int)):Den K H (.ref a) (dTup ns):=.tuple h (cR.ints ns)
theorem Den.Ku (h:Den K H v (dTup ns)):∃ a,v=.ref a∧SqT K H a (ns.map V.int):=by
  cases h with
  | tuple h hs=>exact ⟨_,rfl,by rw [← cR.int_inv hs];exact h⟩
theorem Den.iD {ds:List PyData} (h:Den K H v (.tuple ds)):∃ a xs,v=.ref a∧SqT K H a xs∧cR K H xs ds:=by
  cases h with
  | tuple h hs=>exact ⟨_,_,rfl,h,hs⟩
theorem Sh.tup (n:Nat) (ns:List Int):Sh (n + 1) (dTup ns):=.tuple fun d hd=>by
  obtain ⟨i,_,rfl⟩:=List.mem_map.mp hd
  exact .int n i
end
end L2
namespace L2
open PySem PySem.Spec PyProof.Rows
section
variable {A B:Prop}
theorem ifD {p:Prop} [Decidable p] (h1:p→A) (h2:¬ p→B):if decide p=true then A else B:=ifB (fun h=>h1 (of_decide_eq_true h)) fun h=>h2 (of_decide_eq_false h)
theorem ifI {x y:Int} (h1:x=y→A) (h2:¬ x=y→B):if decide (V.int x=V.int y)=true then A else B:=by rw [Lq];exact ifD h1 h2
theorem ifN {c:Bool} (h:if c=true then B else A):if (!c)=true then A else B:=by cases c <;> simpa using h
end
structure Lic where
  day:Int
  start:Int
  back:Int
  most:Int
def pK (l:Lic):PyData:=dTup [l.day,l.start,l.back,l.most]
def V0 (ls:List Lic):PyData:=.list (ls.map pK)
abbrev m5 (l:Lic):List V:=[.int l.day,.int l.start,.int l.back,.int l.most]
section
variable {K:PySem.W.Frag} {H:Hp} {v:V} {a:Addr} {ls:List Lic} {l:Lic} {xs:List V} {k:Nat}
theorem Den.lic (h:SqT K H a (m5 l)):Den K H (.ref a) (pK l):=Den.tup (ns:=[l.day,l.start,l.back,l.most]) h
theorem Den.zc (h:Den K H v (pK l)):∃ a,v=.ref a∧SqT K H a (m5 l):=h.Ku
theorem cR.jG (h:cR K H xs (ls.map pK)) (hk:ls[k]?=some l):∃ a,xs[k]?=some (.ref a)∧SqT K H a (m5 l):=by
  obtain ⟨v,h1,h2⟩:=h.get (i:=k) (d:=pK l) (by rw [List.getElem?_map,hk];rfl)
  obtain ⟨a,rfl,hT⟩:=h2.zc
  exact ⟨a,h1,hT⟩
theorem cR.qX (h:cR K H xs (ls.map pK)) (hx:xs[k]?=some v):∃ a l,v=.ref a∧ls[k]?=some l∧SqT K H a (m5 l):=by
  obtain ⟨d,h1,h2⟩:=h.get' hx
  rw [List.getElem?_map] at h1
  cases e:ls[k]? with
  | none=>rw [e] at h1;cases h1
  | some l =>
    rw [e] at h1
    cases h1
    obtain ⟨a,rfl,hT⟩:=h2.zc
    exact ⟨a,l,rfl,rfl,hT⟩
theorem Sh.lic (n:Nat) (l:Lic):Sh (n + 1) (pK l):=Sh.tup n _
theorem Sh.roll (n:Nat) (ls:List Lic):Sh (n + 2) (V0 ls):=.list fun d hd=>by
  obtain ⟨i,_,rfl⟩:=List.mem_map.mp hd
  exact .lic n i
end
theorem Lr (xs:List V) (i j:Nat):pH xs (some (i:Int)) (some (j:Int))=(xs.drop i).take (j - i):=by
  unfold pH
  rw [HT.oH,HT.oH]
  refine List.ext_getElem? fun k=>?_
  simp only [List.getElem?_take,List.getElem?_drop]
  by_cases h1:k<j - i
  · rw [if_pos h1]
    by_cases h2:i + k<xs.length
    · rw [if_pos (by omega),show min i xs.length=i by omega]
    · rw [List.getElem?_eq_none (l:=xs) (i:=i + k) (by omega)]
      split
      · exact List.getElem?_eq_none (by omega)
      · rfl
  · rw [if_neg h1]
    split
    · rename_i h3
      omega
    · rfl
theorem Te (ns:List Int) (i j:Nat):pH (ns.map V.int) (some (i:Int)) (some (j:Int))=((ns.drop i).take (j - i)).map V.int:=by
  rw [Lr,List.map_take,List.map_drop]
theorem v8 (ns:List Int) (i:Nat):pH (ns.map V.int) (some (i:Int)) none=(ns.drop i).map V.int:=by
  unfold pH
  rw [HT.oH,List.length_map,show HT.sIx ns.length ns.length none=ns.length from rfl,List.map_drop]
  by_cases h:i≤ns.length
  · rw [Nat.min_eq_left h,List.take_of_length_le (by rw [List.length_drop,List.length_map];omega)]
  · rw [Nat.min_eq_right (by omega),List.drop_of_length_le (l:=ns.map V.int) (i:=i) (by rw [List.length_map];omega),Nat.sub_self,List.take_zero]
end L2
namespace L2
open PySem PySem.Spec PyProof.Rows
end L2
namespace L2
open PySem PySem.Spec PyProof.Rows
theorem qO {X:Cx} {K:PySem.W.Frag} {pos:Pos} {es:List Expr} {k:Nat} {t:TGs} {n:Nat} (hK:X.K=K) (hc:X.calm=true) (h:PGs X es t) (hn:(assignEach es X.env).length=n:=by rfl) (hst:(assignEach es X.env).findIdx? (·.1)=none:=by rfl):PG X (.Tuple es k pos) (Wm K n t):=hK ▸ ni hc h hn hst
end L2
namespace L2
open PySem PySem.Spec PyProof.Rows
theorem V4 {τ:St} {H:Hp} {A B:Hp→Prop} (h:A H):TQ τ H fun b H5=>if b=true then A H5 else B H5:=by
  show if true=true then A H else B H
  rw [if_pos rfl];exact h
theorem Le (xs:List V) (v:V):atI (xs++[v]) (-1)=some v:=by
  unfold atI ixN
  rw [if_neg (by omega),if_pos (by simp;omega)]
  have e:(-1 + ((xs++[v]).length:Int)).toNat=xs.length:=by simp;omega
  rw [e]
  show (xs++[v])[xs.length]?=some v
  simp
end L2
namespace L2
open PySem PySem.Spec PyProof.Rows
theorem qg {α:Type}:∀ {L:List α} {k:Nat} {p:α},L[k]?=some p→(p :: L.eraseIdx k).Perm L
  | [],_,_,h=>by simp at h
  | a :: L,0,p,h=>by
    have e:a=p:=by simpa using h
    subst e;exact List.Perm.refl _
  | a :: L,k + 1,p,h=>by
    have h':L[k]?=some p:=by simpa using h
    rw [List.eraseIdx_cons_succ]
    exact (List.Perm.swap a p _).trans ((qg h').cons a)
section
variable {T:eF} {H0 H:Hp} {L:List (Addr × HO)} {p:Addr} {o:HO}
theorem Ow.pull (O:Ow T H0 H L) (k:Nat) (h:L[k]?=some (p,o):=by rfl):Ow T H0 H ((p,o) :: L.eraseIdx k):=O.perm (qg h)
theorem Ow.Lk (O:Ow T H0 H L) (k:Nat) (h:L[k]?=some (p,o):=by rfl):∃ Hn,Ow T Hn H (L.eraseIdx k)∧aR T H0 Hn∧Hn p=some o:=(O.pull k h).frz
end
end L2
namespace L2
open PySem PySem.Spec PyProof.Rows
end L2
namespace L2
open PySem PySem.Spec PyProof.Rows
end L2
namespace L2
open PySem PySem.W PySem.Spec PyProof.Rows
end L2
namespace L2
open PySem PySem.Spec PyProof.Rows
abbrev KT (H:Hp):List (List Key × V)→List (List Key × Addr × Value)→Prop:=Paired fun p q=>p.1=q.1∧H q.2.1=some (.tup (p.1.map kV))∧RelV p.2 q.2.2
abbrev VV:List (V × V)→List (Value × Value)→Prop:=Paired fun p q=>RelV p.1 q.1∧RelV p.2 q.2
end L2
namespace L2
open PySem PySem.W PySem.Spec PyProof.Rows
end L2
namespace L2
open PySem PySem.W PySem.Spec PyProof.Rows
section
variable {X:Cx}
abbrev oLic (l:Lic):HO:=.tup (m5 l)
abbrev oInts (w:List Int):HO:=.lst (w.map V.int)
theorem Bw {K:PySem.W.Frag} {a:Addr} {xs:List V} {acc:Addr} {g:TG} {tc:TT} {te:TE} {τ:St} {H1:Hp} {Q:Hp→Prop} (Pv:Nat→St→Hp→Prop) (h0:Pv 0 τ (upd H1 acc (.lst []))) (hl:∀ i τ H,i≤xs.length→Pv i τ H→SqT K H a xs)
    (hs:∀ i x τ H,xs[i]?=some x→Pv i τ H→g x τ H fun τ4 H4=>tc τ4 H4 fun b H5=>if b=true then te τ4 H5 fun y H6=>∃ ys,H6 acc=some (.lst ys)∧ys.length<sizeLine∧Pv (i + 1) τ4 (upd H6 acc (.lst (ys++[y]))) else Pv (i + 1) τ4 H5)
    (hd:∀ τ H,Pv xs.length τ H→Q H):pQ (Itt K a) acc g tc te τ H1 Q:=by
  refine ⟨fun i m τ H=>m=xs.length - i∧i≤xs.length∧Pv i τ H,⟨xs.length,by simp,Nat.zero_le _,h0⟩,?_⟩
  rintro i m τ H ⟨rfl,hi,p⟩
  have q:=hl i τ H hi p
  by_cases hlt:i<xs.length
  · refine .inr ⟨⟨xs,xs[i],q,by simp [hlt]⟩,Pv (i + 1),fun τ' H' p'=>⟨xs.length - (i + 1),by omega,rfl,hlt,p'⟩,fun x H' y=>?_⟩
    obtain ⟨e,y⟩:=y
    subst e
    exact hs i x τ _ (y xs q) p
  · have e:i=xs.length:=by omega
    subst e
    exact .inl ⟨⟨xs,q,Nat.le_refl _⟩,hd τ H p⟩
end
end L2
namespace L2
open PySem PySem.W PySem.Spec PyProof.Rows
end L2
namespace L2
open PySem PySem.W PySem.Spec PyProof.Rows
end L2
namespace HT
open PySem PyProof.Rows
end HT
namespace L2
open PySem PySem.W PySem.Spec PyProof.Rows
end L2
namespace L2
open PySem PySem.Spec PyProof.Rows
def Its (x:Str):It:=⟨fun i _=>i<x.cps.size,fun i H y H'=>H'=H∧∃ c,x.cps[i]?=some c∧y=.str ⟨#[c]⟩,fun i _=>x.cps.size≤i⟩
theorem z9 {P:Program} {w:World} {K:PySem.W.Frag} {tg:Expr} (it:Addr) (x:Str) (t:Tok):Turn P w K tg (Its x) [it] it (fun i h=>h.IsStrIter it "str_ascii_iterator" x t i) where
  mem:=by simp
  obj:=fun i h st b hb=>by
    have e:b=it:=by simpa using hb
    subst e
    obtain ⟨o,e,c,d⟩:=st
    exact ⟨o,e,fun v z=>by rw [d] at z;cases z⟩
  keep:=fun i h h' st k=>let ⟨o,e,r⟩:=st;⟨o,k it (by simp) o e,r⟩
  item:=by
    intro X hP hw hK hc i pins s σ H E I hf st hg
    subst hP hw hK
    obtain ⟨f0,f1,f2,f3,f4,f5⟩:=hf it (by simp)
    have hg:i<x.cps.size:=hg
    have hx:x.cps[i]?=some x.cps[i]:=by simp [hg]
    refine wpAny_pyNext_ascii_item st hx fun h' st' sb=>?_
    have I1:Inv X pins σ H { s with heap:=h',toks:=s.toks + 1 }:=I.turned (fun b o hb e=>(sb.2 b hb).trans e) f0 f1 f3 f4 f5
    obtain ⟨o,e,c,d⟩:=id st'
    exact ⟨_,rfl,Bo (s:={ s with heap:=h',toks:=s.toks + 1 }) e c d (by decide) ⟨.str ⟨#[x.cps[i]]⟩,H,I1,⟨_,rfl⟩,⟨rfl,_,hx,rfl⟩,st',fun b hb=>(hf b hb).1⟩⟩
  done:=by
    intro X hP hw hK hc i pins s σ H E I hf st hg
    subst hP hw hK
    obtain ⟨f0,f1,f2,f3,f4,f5⟩:=hf it (by simp)
    have hg:x.cps.size≤i:=hg
    exact wpAny_pyNext_ascii_end (I.ok.hd hc) st (by simp [hg]) fun h' eb=>⟨rfl,I.turned (t':=s.toks) (fun b o hb e=>eb b o hb e) f0 f1 f3 f4 f5⟩
  self:=fun _ _ _ _ _ st h=>wpAny_pyIter_striter_ascii st h
section
variable {X:Cx} {tg:Expr}
def iStr (tl:TE):TI:=fun σ H R=>tl σ H fun v H1=>∃ x,v=.str x∧x.cps.all (·<128)=true∧R (Its x) H1
theorem MK {l:Expr} {tl:TE} (hl:PE X l tl):PI X tg l (iStr tl):=by
  intro pins s σ H R I h
  refine thn (hl pins s σ H _ I h) fun v s1 ⟨x,H1,I1,r1,q1⟩=>?_
  obtain ⟨z,e,ha,q⟩:=q1
  subst e
  obtain ⟨t,rfl⟩:=r1
  refine wpAny_pyIter_ascii ha ?_
  refine ⟨s1.heap.objs.size,[s1.heap.objs.size],_,_,H1,rfl,I1.kept (t':=s1.toks) fun b o e=>Heap.get?_push_of_some _ e,z9 _ z t,⟨_,Heap.get?_push_size _ rfl,rfl,rfl⟩,fun b hb=>?_,q⟩
  have e:b=s1.heap.objs.size:=by simpa using hb
  subst e
  exact I1.Kh (Nat.le_refl _) (I1.hok.fresh (Nat.le_refl _))
theorem Bx {x:Str} {acc:Addr} {g:TG} {tc:TT} {te:TE} {τ:St} {H1:Hp} {Q:Hp→Prop} (Pv:Nat→St→Hp→Prop) (h0:Pv 0 τ (upd H1 acc (.lst [])))
    (hs:∀ i c τ H,x.cps[i]?=some c→Pv i τ H→g (.str ⟨#[c]⟩) τ H fun τ4 H4=>tc τ4 H4 fun b H5=>if b=true then te τ4 H5 fun y H6=>∃ ys,H6 acc=some (.lst ys)∧ys.length<sizeLine∧Pv (i + 1) τ4 (upd H6 acc (.lst (ys++[y]))) else Pv (i + 1) τ4 H5)
    (hd:∀ τ H,Pv x.cps.size τ H→Q H):pQ (Its x) acc g tc te τ H1 Q:=by
  refine ⟨fun i m τ H=>m=x.cps.size - i∧i≤x.cps.size∧Pv i τ H,⟨x.cps.size,by simp,Nat.zero_le _,h0⟩,?_⟩
  rintro i m τ H ⟨rfl,hi,p⟩
  by_cases hlt:i<x.cps.size
  · refine .inr ⟨hlt,Pv (i + 1),fun τ' H' p'=>⟨x.cps.size - (i + 1),by omega,rfl,hlt,p'⟩,fun y H' e=>?_⟩
    obtain ⟨e,c,hc,ey⟩:=e
    subst e ey
    exact hs i c τ _ hc p
  · have e:i=x.cps.size:=by omega
    subst e
    exact .inl ⟨Nat.le_refl _,hd τ H p⟩
structure Dm (K:PySem.W.Frag) (C:Addr) (x qual:Str) (st:Stmt) (ps:List Str) (a:Addr) (fd:FuncData):Prop where
  F:Fun K x qual st a fd
  b:Binds K fd ps []
  m:Meth K C x a
structure Mg (K:PySem.W.Frag) (x qual:Str) (st:Stmt) (dv:List Value) (f:Addr) (fd:FuncData):Prop where
  ex:∃ (oc:Value) (od:Option Addr) (T:Addr) (o:Obj) (n:Nat) (kV doc pm:Value) (an:Option Addr) (cdv ct:Value) (osl:Array (Option Value)),
    fd=PySem.W.fnOf x qual (aC st) (aB st) (ak st) (.ref T) kV doc pm an cdv ct∧K.lookup f=some ⟨oc,od,.func fd,osl⟩∧PySem.W.codeIn K cdv qual=true∧K.lookup T=some o∧o.data=.seq dv.toArray n
  kp:PySem.W.keepIn K (.ref f)=true
section
variable {P:Program} {w:World} {K:PySem.W.Frag} {mg:Str→Option Value} {base:Heap} {x qual:Str} {st:Stmt} {dv:List Value} {f:Addr} {fd:FuncData} {N ps:List Str} {k:Nat} {sp:Sp}
theorem Mg.okX (F:Mg K x qual st dv f fd) (S:aW N ps (ak st)) (len:∀ vs H Q E,sp vs H Q E→vs.length=ps.length)
    (hbody:∀ (cdv:Value) (A:Around) (outer:List Env) (s:Shared) (H:Hp) (vs:List V) (Q:VK) (E:XK),mQ k (A.deeper (envOfC qual (ak st) s.heap.objs.size f cdv))→sp vs H Q E →
      ∃ t,PSs (zZ (CXE P w) P w K mg base N qual (ak st) f cdv A outer s H E) (aB st) t∧t { nx:=fun _ H'=>Q .non H',rt:=Q } (start N vs) H):bQ P w K mg base (CXE P w) (k + 1) f fd ps sp:=by
  obtain ⟨oc,od,T,o,n,kV,doc,pm,an,cdv,ct,osl,rfl,lk,hcd,_⟩:=F.ex
  exact Ln lk hcd S len fun A outer s H vs Q E hr hsp=>hbody cdv A outer s H vs Q E hr hsp
theorem Mg.binds {ds:List Value} (F:Mg K x qual st dv f fd)
    (h:∀ (T:Addr) (kV doc pm:Value) (an:Option Addr) (cdv ct:Value) (us:List Value),(us++ds).length=ps.length→∃ k:Option (Array Value)→Sem (List (Str × Value)),
      bindArgs (PySem.W.fnOf x qual (aC st) (aB st) (ak st) (.ref T) kV doc pm an cdv ct) ⟨us,[]⟩=(seqItems? (.ref T) >>= k)∧k (some dv.toArray)=pure (ps.zip (us++ds))):Binds K fd ps ds:=by
  obtain ⟨oc,od,T,o,n,kV,doc,pm,an,cdv,ct,osl,rfl,lk,hcd,lt,hs⟩:=F.ex
  intro s us X hl
  obtain ⟨k,h1,h2⟩:=h T kV doc pm an cdv ct us hl
  exact BindsTo.of_defaults rfl (X _ _ lt) hs h1 h2
end
structure DmD (K:PySem.W.Frag) (C:Addr) (x qual:Str) (st:Stmt) (ps:List Str) (a:Addr) (fd:FuncData):Prop where
  F:Mg K x qual st [.none] a fd
  b0:Binds K fd ps []
  b1:Binds K fd ps [.none]
  m:Meth K C x a
structure Cl (K:PySem.W.Frag) (mg:Str→Option Value) (x:Str) (C f:Addr) (fs:List Str):Prop where
  c:Cls K C
  k:Mk K C f
  m:mg x=some (.ref C)
  n:∀ y∈fs,jV K C y
end
section
variable {T:eF} {H0 H:Hp} {L R B:List (Addr × HO)} {a b:Addr} {o o':HO} {x y:Addr × HO}
theorem Ow.ne (O:Ow T H0 H L) (i j:Nat) (hi:L[i]?=some (a,o):=by rfl) (hj:L[j]?=some (b,o'):=by rfl) (hij:i≠j:=by decide):a≠b:=by
  intro e
  subst e
  have h1:(L.map (·.1))[i]?=some a:=by rw [List.getElem?_map,hi];rfl
  have h2:(L.map (·.1))[j]?=some a:=by rw [List.getElem?_map,hj];rfl
  exact hij ((List.getElem?_inj (List.getElem?_eq_some_iff.mp h1).1 O.nd).mp (h1.trans h2.symm))
theorem Ow.mid (O:Ow T H0 H (x :: (R++B))):Ow T H0 H (R++x :: B):=O.perm List.perm_middle
end
end L2
namespace L2
open PySem PySem.Spec PyProof.Rows
open AutoSeq1 (wpAny_loadPart')
section
variable {prog:Program} {w:World} {A:Around} {E:Value→Shared→Prop} {s:Shared} {it l:Addr} {i:Nat} {items:Array Value}
theorem xK {x:Value} {Q:Value→Shared→Prop} (st:s.heap.IsTupleIter it l i) (ht:s.heap.IsTuple l items) (hx:items[i]?=some x)
    (q:∀ h',h'.IsTupleIter it l (i + 1)→Heap.SameBut it s.heap h'→Q x { s with heap:=h' }):wpAny (model prog w) A (Builtin.SmallTypes.nextOf (.ref it)) Q E s:=by
  obtain ⟨o,eo,oc,od⟩:=id st;obtain ⟨u,eu,-,m,um⟩:=ht
  unfold Builtin.SmallTypes.nextOf
  refine wpAny_bind (wpAny_callSpecial?_slot (name:=Str.ofString "__next__") st.typeIs F.slot_tuple_iterator_next (wpAny_call_entry F.slot_tuple_iterator_next st.typeIs F.entry_tuple_iterator_next ?_ (F.args_tuple_iterator_next_1 _)))
  (show wpAny _ _ (field (.ref it) 0 >>= _) _ _ s);refine wpAny_bind (wpAny_field eo od (x:=.ref l) rfl ?_)
  (show wpAny _ _ (if (Value.ref l == Value.none)=true then _ else _) _ _ s);rw [if_neg (show ¬ ((Value.ref l == Value.none)=true) from Bool.false_ne_true)]
  (show wpAny _ _ (field (.ref it) 1 >>= _) _ _ s);refine wpAny_bind (wpAny_field eo od (x:=.int i 0) rfl ?_)
  (show wpAny _ _ (seqItems? (.ref l) >>= _) _ _ s);refine wpAny_bind (wpAny_seqItems eu um ?_)
  simp only [Int.toNat_natCast,hx]
  refine wpAny_bind (wpAny_setField eo od (by simp) (wpAny_pure ⟨x,rfl,wpAny_pure (q _ ⟨_,Heap.get?_update_self _ eo (Obj.isFreed_of_fields (Obj.data_mapFields od _)),(Obj.cls_mapFields ..).trans oc,?_⟩ (Heap.SameBut.update ..))⟩))
  rw [Obj.data_mapFields od];simp [rawInt]
theorem xM {Q:Value→Shared→Prop} (hh:A.handled=none) (st:s.heap.IsTupleIter it l i) (ht:s.heap.IsTuple l items) (hx:items[i]?=none)
    (q:∀ h' e,Heap.ExtBut it s.heap h'→(∃ o,h'.get? e=some o∧o.cls=.type "StopIteration")→E (.ref e) { s with heap:=h' }):wpAny (model prog w) A (Builtin.SmallTypes.nextOf (.ref it)) Q E s:=by
  obtain ⟨o,eo,oc,od⟩:=id st;obtain ⟨u,eu,-,m,um⟩:=ht
  unfold Builtin.SmallTypes.nextOf
  refine wpAny_bind (wpAny_callSpecial?_slot (name:=Str.ofString "__next__") st.typeIs F.slot_tuple_iterator_next (wpAny_call_entry F.slot_tuple_iterator_next st.typeIs F.entry_tuple_iterator_next ?_ (F.args_tuple_iterator_next_1 _)))
  (show wpAny _ _ (field (.ref it) 0 >>= _) _ _ s);refine wpAny_bind (wpAny_field eo od (x:=.ref l) rfl ?_)
  (show wpAny _ _ (if (Value.ref l == Value.none)=true then _ else _) _ _ s);rw [if_neg (show ¬ ((Value.ref l == Value.none)=true) from Bool.false_ne_true)]
  (show wpAny _ _ (field (.ref it) 1 >>= _) _ _ s);refine wpAny_bind (wpAny_field eo od (x:=.int i 0) rfl ?_)
  (show wpAny _ _ (seqItems? (.ref l) >>= _) _ _ s);refine wpAny_bind (wpAny_seqItems eu um ?_)
  simp only [Int.toNat_natCast,hx]
  refine wpAny_bind (wpAny_rule (wpAny_bind (wpAny_setField eo od (by simp) ?_)));(show wpAny _ _ (newExc (.type "StopIteration") [] >>= _) _ _ _);refine wpAny_bind ?_
  simp only [newExc,newTuple]
  refine wpAny_bind (wpAny_newObj_type (wpAny_bind (m:=firstArgMember _ _) (wpAny_of_eq (a:=Value.none) (by first | rfl | (simp only [firstArgMember];rfl)) (wpAny_newObj_type ?_ (by size_fits)))) (by size_fits))
  simp only [raiseNew]
  refine wpAny_bind (wpAny_handled ?_);(first | rw [show A.in1.handled=none from hh] | rw [hh])
  refine wpAny_bind (wpAny_pure (wpAny_throw (q _ _ (((Heap.SameBut.update ..).extBut.push _).push _) ⟨_,Heap.get?_push_size _ rfl,rfl⟩)))
theorem rM (hh:A.handled=none) (hne:l≠it):Draws prog w A it [it,l] items.size (fun i v=>items[i]?=some v) (fun i h=>h.IsTupleIter it l i∧h.IsTuple l items) :=
  ⟨fun _ _ ⟨⟨o,ho,_⟩,_⟩=>⟨o,ho⟩,fun _ _ _ st hk=>⟨st.1.at fun o e=>hk it (by simp) o e,st.2.at fun o e=>hk l (by simp) o e⟩,
    fun i s Q E hi st q=>xK st.1 st.2 (x:=items[i]) (by simp [hi]) fun h' st' sb=>q _ h' s.toks (by simp [hi]) ⟨st',st.2.extBut sb.extBut hne⟩ sb,
    fun s Q E st q=>xM hh st.1 st.2 (by simp) q⟩
theorem uM (l:Addr) (items:Array Value) (n:Nat) (dct:Option Addr) (sl:Array (Option Value)) :
    Meets (Builtin.«enumerate.__new__» ⟨[.type "enumerate",.ref l],[]⟩) (fun _ R s=>s.heap.get? l=some ⟨.type "tuple",dct,.seq items n,sl⟩ ∧
      R (.ok (.ret (.ref (s.heap.push { cls:=.type "tuple_iterator",data:=.fields #[.ref l,.int 0 0] }).objs.size)))
        { s with heap:=(s.heap.push { cls:=.type "tuple_iterator",data:=.fields #[.ref l,.int 0 0] }).push { cls:=.type "enumerate",data:=.fields #[.none,.bool false,.ref s.heap.objs.size,rawInt 0,.none,.none] } }) :=
  .of_wp fun prog w A R s h=>by
    obtain ⟨hp,g,d,tk,os⟩:=s;obtain ⟨hl,h⟩:=h
    have hs2:=sub_enumerate
    have hT:Heap.IsTuple (Shared.heap ⟨hp,g,d,tk,os⟩) l items:=⟨_,hl,rfl,n,rfl⟩
    wp_walk using wpAny_loadPart' hl
    refine wpAny_stack_any fun st=>wpAny_pure ?_
    split
    · rename_i c _ _ _ _ _
      cases (c == Value.type "enumerate") <;> (wp_walk using wpAny_loadPart' hl,wpAny_pyIter_tuple hT;exact ⟨_,rfl,h⟩)
    · wp_walk using wpAny_loadPart' hl,wpAny_pyIter_tuple hT;exact ⟨_,rfl,h⟩
end
def Iet (K:PySem.W.Frag) (l:Addr) (xs:List V):It :=
  ⟨fun i H=>SqT K H l xs∧i<xs.length,fun i H x H'=>∃ T a,x=.ref T∧H T=none∧xs[i]?=some a∧H'=upd H T (.tup [.int (i:Int),a]),fun i H=>SqT K H l xs∧i=xs.length⟩
def LR (e it l:Addr) (i:Nat) (h:Heap):Prop:=(∃ old,IsEnum h e it i old)∧h.IsTupleIter it l i
theorem nZ {h:Heap} {a b:Addr} {o:Obj} {n:String} {items:Array Value} (ha:h.get? a=some o) (hc:o.cls=.type n) (hn:n≠"tuple") (hb:h.IsTuple b items):a≠b:=by
  intro e
  subst e
  obtain ⟨o',e',c',_⟩:=hb
  rw [ha] at e';cases e'
  rw [hc] at c'
  exact hn (Value.type.inj c')
theorem wC {P:Program} {w:World} {K:PySem.W.Frag} {elts:List Expr} {kk:Nat} {tpos:Pos} {e it l:Addr} {xs:List V} (hei:e≠it) :
    Turn P w K (.Tuple elts kk tpos) (Iet K l xs) [e,it] e (LR e it l):=by
  refine ⟨by simp,fun i h st b hb=>?_,fun i h h' st k=>?_,?_,?_,fun _ _ _ _ _ st h=>?_⟩
  · obtain ⟨⟨old,he⟩,⟨o1,e1,c1,d1⟩⟩:=st
    simp at hb
    rcases hb with rfl | rfl
    · exact ⟨_,he,fun v z=>by cases (show Data.fields _=Data.cell v from z)⟩
    · exact ⟨o1,e1,fun v z=>by rw [d1] at z;cases z⟩
  · obtain ⟨⟨old,he⟩,h1⟩:=st
    exact ⟨⟨old,k e (by simp) _ he⟩,h1.at fun o x=>k it (by simp) o x⟩
  · intro X hP hw hK hc i pins s σ H E I hf st hg
    subst hP hw hK
    obtain ⟨⟨old,he⟩,h1⟩:=st
    obtain ⟨hq,hi⟩:=hg
    obtain ⟨its,rv,pt,hz⟩:=I.tuple hq
    have pt:s.heap.IsTuple l its.toArray:=pt
    have el:=rv.length
    have n1:it≠l:=by obtain ⟨o1,e1,c1,_⟩:=id h1;exact nZ e1 c1 (by decide) pt
    have n2:e≠l:=nZ (n:="enumerate") he rfl (by decide) pt
    refine wpAny_pyNext_enum_itemD (rM (items:=its.toArray) (I.ok.hd hc) n1.symm) he ⟨h1,pt⟩ (by simp;omega) hei (by simp [hei,n2]) fun u h' tk hu a1 a2 a3 a4 hk=>?_
    obtain ⟨v,hv,ru⟩:∃ v,xs[i]?=some v∧RelV v u:=by
      obtain ⟨u',hu',ru'⟩:=rv.get (List.getElem?_eq_getElem hi)
      have:u'=u:=by
        have hu:its[i]?=some u:=by simpa using hu
        rw [hu'] at hu;exact Option.some.inj hu
      exact ⟨_,List.getElem?_eq_getElem hi,this ▸ ru'⟩
    have lt:∀ {c o},s.heap.get? c=some o→s.heap.objs.size≠c:=fun e=>Nat.ne_of_gt (Heap.lt_size e)
    refine ⟨.ref s.heap.objs.size,rfl,wpAny_letOwnedTupleGo_enum (s:={ s with heap:=h',toks:=tk + 1 }) a1 fun h'' hz' hs'=>?_⟩
    have Tz:s.heap.objs.size≠e:=lt he
    have I1:Inv X pins σ H { s with heap:=h'',toks:=tk + 1 }:=I.qm (ch:=[e,it])
      (fun b o hb x=>hs'.extBut b o (fun z=>hb (by simp [z])) (hk b o (fun z=>hb (by simp [z])) (fun z=>hb (by simp [z])) x)) fun b hb=>hf b hb
    obtain ⟨F0,F1,F2,F3,F4,F5⟩:=I.Kh (H':=H) (Nat.le_refl _) (I.hok.fresh (Nat.le_refl _))
    have hT:h''.IsTuple s.heap.objs.size #[.int (i:Int) tk,u]:=⟨_,hs'.extBut _ _ Tz a3,rfl,_,rfl⟩
    have I2:Inv X pins σ (upd H s.heap.objs.size (.tup [.int (i:Int),v])) { s with heap:=h'',toks:=tk + 1 }:=I1.adopt F0 F1 I.sz F4 F5 (show jz X.prog X.w _ h'' _ (.tup [.int (i:Int),v]) from ⟨by rw [sizeLine_eq];simp,[.int (i:Int) tk,u],.cons ⟨_,rfl⟩ (.cons ru .nil),hT⟩)
    refine ⟨.ref s.heap.objs.size,_,I2,rfl,⟨_,_,rfl,F0,hv,rfl⟩,⟨⟨_,by simpa using hz'⟩,a2.1.extBut hs'.extBut hei.symm⟩,fun b hb=>?_⟩
    rw [bB]
    · exact (hf b hb).1
    · simp at hb
      obtain ⟨o1,e1,_⟩:=h1
      rcases hb with rfl | rfl
      · exact (lt he).symm
      · exact (lt e1).symm
  · intro X hP hw hK hc i pins s σ H E I hf st hg
    subst hP hw hK
    obtain ⟨⟨old,he⟩,h1⟩:=st
    obtain ⟨hq,hend⟩:=hg
    obtain ⟨its,rv,pt,hz⟩:=I.tuple hq
    have pt:s.heap.IsTuple l its.toArray:=pt
    have el:=rv.length
    have n1:it≠l:=by obtain ⟨o1,e1,c1,_⟩:=id h1;exact nZ e1 c1 (by decide) pt
    have hi:i=its.toArray.size:=by simp;omega
    refine wpAny_pyNext_enum_endD (rM (items:=its.toArray) (I.ok.hd hc) n1.symm) he ⟨hi ▸ h1,pt⟩ fun h' hk=>⟨rfl,I.qm (t':=s.toks) (ch:=[e,it]) (fun b o hb x=>hk b o (fun z=>hb (by simp [z])) x) fun b hb=>hf b hb⟩
  · obtain ⟨⟨old,he⟩,_⟩:=st
    exact wpAny_pyIter_enum he h
theorem wW {prog:Program} {w:World} {A:Around} {E:Value→Shared→Prop} {s:Shared} {l:Addr} {items:Array Value} {Q:Value→Shared→Prop} (hL:s.heap.IsTuple l items)
    (h:∀ h',IsEnum h' (s.heap.objs.size + 1) s.heap.objs.size 0 .none→h'.IsTupleIter s.heap.objs.size l 0→(∀ b o,s.heap.get? b=some o→h'.get? b=some o)→Q (.ref (s.heap.objs.size + 1)) { s with heap:=h' }) :
    wpAny (model prog w) A (call (.type "enumerate") [.ref l]) Q E s:=by
  obtain ⟨⟨c,dct,dt,sl⟩,hl,hc,n,hd⟩:=hL
  obtain rfl:c=.type "tuple":=hc
  obtain rfl:dt=.seq items n:=hd
  have z:(s.heap.push { cls:=.type "tuple_iterator",data:=.fields #[.ref l,.int 0 0] }).objs.size=s.heap.objs.size + 1:=Heap.size_push ..
  refine callType_new F.called_enumerate (by decide) (F.typeCall_enumerate_1 _) (F.newCall_enumerate_1 _) (fun obj=>F.args_object_init_2 obj _) F.entry_enumerate_new (uM l items n dct sl) ⟨hl,?_⟩
  show _∧_
  rw [z]
  have he:=Heap.get?_push_size (s.heap.push { cls:=.type "tuple_iterator",data:=.fields #[.ref l,.int 0 0] }) (o:={ cls:=.type "enumerate",data:=.fields #[.none,.bool false,.ref s.heap.objs.size,rawInt 0,.none,.none] }) rfl
  rw [z] at he
  exact ⟨⟨_,he,rfl⟩,h _ he ⟨_,Heap.get?_push_of_some _ (Heap.get?_push_size _ rfl),rfl,rfl⟩ fun b o x=>Heap.get?_push_of_some _ (Heap.get?_push_of_some _ x)⟩
section
variable {X:Cx}
def Nx (K:PySem.W.Frag) (ta:TA):TI:=fun σ H R=>ta σ H fun vs H1=>∃ l xs,vs=[.ref l]∧SqT K H1 l xs∧R (Iet K l xs) H1
theorem Af {elts:List Expr} {kk:Nat} {tpos:Pos} {a:Expr} {ta:TA} {p pos:Pos} (hg:Gl X "enumerate") (hm:X.mg "enumerate"=none) (ha:PA X [a] ta) (hs:starEach [a] X.env=[(false,eval a X.env)]:=by rfl) :
    PI X (.Tuple elts kk tpos) (.Call (.Name "enumerate" p) [a] [] pos) (Nx X.K ta):=by
  intro pins s σ H R I h
  refine Call_ (oU I hg hm boot_enumerate (PyProof.Rows.callWith_type1 (thn (ha pos pins s σ H _ I h) fun us s1 ⟨vs,H1,I1,r1,q1⟩=>?_) hs rfl))
  obtain ⟨l1,xs,e,hq1,q⟩:=q1
  subst e
  obtain ⟨u,rfl,ru⟩:=vals1 r1
  cases ru
  obtain ⟨its1,rv1,pl1,hz1⟩:=I1.tuple hq1
  refine wW (show s1.heap.IsTuple l1 its1.toArray from pl1) fun h' a1 a2 hk=>?_
  refine wpAny_pyIter_enum a1 ⟨_,_,_,_,H1,rfl,I1.kept (t':=s1.toks) hk,wC (l:=l1) (xs:=xs) (it:=s1.heap.objs.size) (Nat.succ_ne_self _),⟨⟨_,a1⟩,a2⟩,fun b hb=>?_,q⟩
  have hb':s1.heap.objs.size≤b:=by
    simp at hb
    rcases hb with rfl | rfl <;> simp
  exact I1.Kh hb' (I1.hok.fresh hb')
theorem zq {K:PySem.W.Frag} {l:Addr} {xs:List V} {g:TG} {tb:TS} {D:Ends} {σ:St} {H:Hp} (Pv:Nat→St→Hp→Prop) (h0:Pv 0 σ H) (hl:∀ i σ H,i≤xs.length→Pv i σ H→SqT K H l xs)
    (hs:∀ i a T σ H,xs[i]?=some a→Pv i σ H→H T=none→g (.ref T) σ (upd H T (.tup [.int (i:Int),a])) fun σ2 H2=>tb { D with nx:=Pv (i + 1),ct:=Pv (i + 1),bk:=D.nx } σ2 H2) (hd:∀ σ H,Pv xs.length σ H→D.nx σ H) :
    ∃ W:Nat→Nat→St→Hp→Prop,(∃ m,W 0 m σ H)∧∀ i m σ H,W i m σ H →
      ((Iet K l xs).stop i H∧D.nx σ H)∨((Iet K l xs).go i H∧∃ N:St→Hp→Prop,(∀ σ' H',N σ' H'→∃ m',m'<m∧W (i + 1) m' σ' H')∧∀ x H',(Iet K l xs).yld i H x H'→g x σ H' fun σ2 H2=>tb { D with nx:=N,ct:=N,bk:=D.nx } σ2 H2):=by
  refine ⟨fun i m σ H=>m=xs.length - i∧i≤xs.length∧Pv i σ H,⟨xs.length,by simp,Nat.zero_le _,h0⟩,?_⟩
  rintro i m σ H ⟨rfl,hi,p⟩
  have q1:=hl i σ H hi p
  rcases Nat.lt_or_ge i xs.length with hlt | hge
  · refine .inr ⟨⟨q1,hlt⟩,Pv (i + 1),fun σ' H' p'=>⟨xs.length - (i + 1),by omega,rfl,hlt,p'⟩,fun x H' y=>?_⟩
    obtain ⟨T,a,rfl,hT,ha,rfl⟩:=y
    exact hs i a T σ _ ha p hT
  · have e:i=xs.length:=by omega
    subst e
    exact .inl ⟨⟨q1,rfl⟩,hd σ H p⟩
end
end L2
namespace L2
open PySem PySem.W PySem.Spec PyProof.Rows
theorem cR.strs {K:PySem.W.Frag} {H:Hp}:∀ xs:List Str,cR K H (xs.map V.str) (xs.map PyData.str)
  | []=>.nil
  | x :: xs=>.cons (.str x) (cR.strs xs)
end L2
namespace L2
open PySem PySem.Spec PyProof.Rows
section
variable {X:Cx} {k:Nat} {f C:Addr} {fd:FuncData} {ps:List Str} {sp:Sp} {dvs:List V} {ds:List Value} {x:Str} {p pos:Pos} {e:Expr} {es:List Expr} {t:TA}
def Tv (C:Addr) (sp:Sp) (dvs:List V) (t:TA):St→Hp→VK→XK→Prop:=fun σ H Q Ex=>t σ H fun vs H1=>∀ x dx,H1 x=none→H1 dx=none→dx≠x→sp (.ref x :: (vs++dvs)) (upd (upd H1 dx (.own x)) x (.ins C dx [])) (fun v H2=>v=.non∧Q (.ref x) H2) Ex
theorem Kp (M:Mk X.K C f) (F:bQ X.prog X.w X.K X.mg X.base (CXE X.prog X.w) k f fd ps sp) (hr:mQ (k + 1) X.A) (hg:Gl X x) (hm:X.mg x=some (.ref C)) (hb:Binds X.K fd ps ds) (hd:Vals dvs ds)
    (ha:PA X.nox (e :: es) t) (hdb:(x == ("__debug__":Str))=false:=by decide) (he:starEach (e :: es) X.env=(false,eval e X.env) :: starEach es X.env:=by rfl) (hpl:(backTo pos (starEach es X.env)).any (·.1)=false:=by rfl) :
    PEx X (.Call (.Name x p) (e :: es) [] pos) (Tv C sp dvs t):=by
  intro pins s σ H Q Ex I h
  refine wpAny_Call_Name_kw (lY I hg hm ?_ hdb)
  refine PySem.W.callWith_K (h₀:=X.base) I.ok.mod.kin M.kp (wpAny_mono (ha pos pins s σ H _ (I.wish _) h) (fun us s1 ⟨vs,H1,I1,r,q⟩=>?_) fun _ _ z=>z.elim) he hpl
  have I1:=I1.lH
  refine ⟨I1.kIn,?_⟩
  have hq:=q (s1.heap.objs.size + 1) s1.heap.objs.size (I1.hok.fresh (Nat.le_succ _)) (I1.hok.fresh (Nat.le_refl _)) (Nat.ne_of_lt (Nat.lt_succ_self _))
  have I2:=Inv.made (C:=C) I1
  have r2:Vals (V.ref (s1.heap.objs.size + 1) :: (vs++dvs)) (Value.ref (s1.heap.objs.size + 1) :: (us++ds)):=.cons rfl (r.append hd)
  have hl:(Value.ref (s1.heap.objs.size + 1) :: us++ds).length=ps.length:=by
    have e:=r2.length
    rw [F.len _ _ _ _ hq] at e
    exact e.symm
  refine wpAny_call (vQ (f:=f) I1.kIn M.makes M.init (beq_iff_eq.mp M.fn) (codeAny_mono (F.run _ X.stack _ _ ⟨Value.ref (s1.heap.objs.size + 1) :: us,[]⟩ (Value.ref (s1.heap.objs.size + 1) :: (us++ds)) _ _ (Ex σ) (hr.make C us [])
    (I2.env0.make C us []) (hb _ (Value.ref (s1.heap.objs.size + 1) :: us) I2.kIn hl) r2 hq) fun r s' hq'=>?_))
  cases r with
  | error ev=>exact ⟨σ,_,_,I2,hq'⟩
  | ok fl =>
    cases fl with
    | ret u =>
      obtain ⟨v,H',I3,rv,ev,q3⟩:=I2.after hq'
      subst ev
      exact ⟨rv,⟨V.ref (s1.heap.objs.size + 1),H',I3,rfl,q3⟩⟩
    | next=>exact False.elim hq'
    | brk=>exact False.elim hq'
    | cont=>exact False.elim hq'
end
end L2
namespace L2
open PySem PySem.Spec PyProof.Rows
section
variable {X:Cx}
def Ub (K:PySem.W.Frag):R2:=fun x y H Q=>∃ a b xs ys,x=.ref a∧y=.ref b∧SqT K H a xs∧SqT K H b ys∧ys≠[]∧xs.length + ys.length≤sizeLine ∧
  (xs=[]→Q (.ref b) H)∧(xs≠[]→∀ p,H p=none→Q (.ref p) (upd H p (.tup (xs++ys))))
theorem yM:OpR X (binaryOp .Add) (Ub X.K):=by
  intro pins s σ H x y v u Q I rx ry h
  by_cases hx:∃ a b xs ys,x=.ref a∧y=.ref b∧SqT X.K H a xs∧SqT X.K H b ys∧xs=[]∧Q (.ref b) H
  · obtain ⟨a,b,xs,ys,rfl,rfl,ha,hb,rfl,q⟩:=hx
    cases rx
    cases ry
    obtain ⟨its,r1,p1,_⟩:=I.tuple ha
    obtain ⟨its2,r2,p2,_⟩:=I.tuple hb
    obtain ⟨⟨cls,dd,data,sl⟩,ho,hc,n,hd⟩:=id p1
    obtain ⟨⟨cls2,dd2,data2,sl2⟩,ho2,hc2,n2,hd2⟩:=id p2
    simp only at hc hd hc2 hd2
    subst hc hd hc2 hd2
    have e:its=[]:=r1.qT.mpr rfl
    exact concat_meets ⟨_,ho,rfl⟩ ⟨_,ho2,rfl⟩ noFill_tuple_add seq_tuple_add PySem.F.slot_tuple_add PySem.F.entry_tuple_add (PySem.F.args_tuple_add_2 _ _)
      (tuple_addW0 a b its.toArray its2.toArray n n2 dd dd2 sl sl2 (by simp [e])) ⟨ho,ho2,⟨.ref b,H,I,rfl,q⟩⟩
  · obtain ⟨a,b,xs,ys,rfl,rfl,ha,hb,hy,hz,q1,q2⟩:=h
    have hn:xs≠[]:=fun z=>hx ⟨a,b,xs,ys,rfl,rfl,ha,hb,z,q1 z⟩
    exact K1 pins s σ H _ _ v u Q I rx ry ⟨a,b,xs,ys,rfl,rfl,ha,hb,hn,hz,fun z=>(hy z).elim,fun _=>q2 hn⟩
end
end L2
namespace L2
open PySem PySem.Spec PyProof.Rows
section
variable {X:Cx} {e:Expr} {es:List Expr} {te:TE} {t:TA}
def Cj:Expr→Bool
  | .Starred ..=>false
  | _=>true
theorem wF (e:Expr) (h:Cj e=true) (es:List Expr) (env:Env):starEach (e :: es) env=(false,eval e env) :: starEach es env:=by
  cases e <;> first | rfl | cases h
theorem aD (ha:PE X e te) (hr:PA X es t) (h:Cj e=true:=by rfl):PA X (e :: es) (Ms te t):=aj ha hr (wF e h es X.env)
end
end L2
namespace Rv
def mq (r:List Int):Prop:=∃ rk:Nat→Nat,(∀ i,i<r.length→rk i<r.length) ∧
  ∀ (i:Nat) (x:Int),r[i]?=some x→x=-1∨(0≤x∧x<r.length∧rk x.toNat<rk i)
def nxt (r:List Int) (p:Int):Int:=r.getD p.toNat (-1)
theorem jK {r:List Int} {p:Int} (h0:0≤p) (h1:p<r.length):r[p.toNat]?=some (nxt r p):=by
  have h:p.toNat<r.length:=by omega
  unfold nxt
  rw [List.getD_eq_getElem?_getD,List.getElem?_eq_getElem h];rfl
theorem mq.step {r:List Int} (h:mq r) {p:Int} (h0:0≤p) (h1:p<r.length):nxt r p=-1∨(0≤nxt r p∧nxt r p<r.length):=by
  obtain ⟨rk,_,h3⟩:=h
  rcases h3 _ _ (jK h0 h1) with e | ⟨a,b,_⟩
  · exact .inl e
  · exact .inr ⟨a,b⟩
def nY (r:List Int):Nat→Int→List Int
  | 0,_=>[]
  | f + 1,p=>if p=-1 then [] else p :: nY r f (nxt r p)
def walk (r:List Int) (p:Int):List Int:=nY r (r.length + 1) p
theorem mC (r:List Int) (f:Nat):nY r f (-1)=[]:=by
  cases f with
  | zero=>rfl
  | succ f=>unfold nY;rw [if_pos rfl]
theorem ql (r:List Int):walk r (-1)=[]:=mC r _
theorem mZ {r:List Int} {rk:Nat→Nat} (h:∀ (i:Nat) (x:Int),r[i]?=some x→x=-1∨(0≤x∧x<r.length∧rk x.toNat<rk i)) :
    ∀ (f g:Nat) (p:Int),0≤p→p<r.length→rk p.toNat<f→rk p.toNat<g→nY r f p=nY r g p
  | 0,_,_,_,_,hf,_=>by omega
  | _ + 1,0,_,_,_,_,hg=>by omega
  | f + 1,g + 1,p,h0,h1,hf,hg=>by
    unfold nY
    rw [if_neg (by omega),if_neg (by omega)]
    rcases h _ _ (jK h0 h1) with e | ⟨a,b,c⟩
    · rw [e,mC,mC]
    · rw [mZ h f g _ a b (by omega) (by omega)]
theorem jg {r:List Int} (h:mq r) {p:Int} (h0:0≤p) (h1:p<r.length):walk r p=p :: walk r (nxt r p):=by
  obtain ⟨rk,h2,h3⟩:=h
  show nY r (r.length + 1) p=_
  unfold nY
  rw [if_neg (by omega)]
  rcases h3 _ _ (jK h0 h1) with e | ⟨a,b,c⟩
  · rw [e,mC,ql]
  · have:=h2 p.toNat (by omega)
    unfold walk
    rw [mZ h3 r.length (r.length + 1) _ a b (by omega) (by omega)]
theorem rH (r:List Int):∀ (f:Nat) (p:Int),(nY r f p).length≤f
  | 0,_=>Nat.le_refl _
  | f + 1,p=>by
    unfold nY
    split
    · exact Nat.zero_le _
    · exact Nat.succ_le_succ (rH r f _)
theorem vp (r:List Int) (p:Int):(walk r p).length≤r.length + 1:=rH r _ _
noncomputable def mea (r:List Int) (p:Int):Nat:=(walk r p).length
theorem Cp {r:List Int} (h:mq r) {p:Int} (h0:0≤p) (h1:p<r.length):mea r (nxt r p)<mea r p:=by
  unfold mea;rw [jg h h0 h1];exact Nat.lt_succ_self _
def stp (r:List Int) (p:Int):Int:=if p=-1 then -1 else nxt r p
def lJ (r:List Int):Nat→Int→Int
  | 0,p=>p
  | f + 1,p=>lJ r f (stp r p)
theorem vq (r:List Int):∀ f,lJ r f (-1)=-1
  | 0=>rfl
  | f + 1=>by
    show lJ r f (stp r (-1))=-1
    unfold stp
    rw [if_pos rfl];exact vq r f
theorem lC (r:List Int):∀ (f:Nat) (p:Int),lJ r (f + 1) p=stp r (lJ r f p)
  | 0,_=>rfl
  | f + 1,p=>by
    show lJ r (f + 1) (stp r p)=stp r (lJ r f (stp r p))
    exact lC r f (stp r p)
theorem vA (r:List Int) (p:Int) {f:Nat} (h:lJ r f p=-1):∀ g,lJ r (f + g) p=-1
  | 0=>h
  | g + 1=>by
    rw [show f + (g + 1)=(f + g) + 1 from rfl,lC,vA r p h g]
    unfold stp;rw [if_pos rfl]
def inB (r:List Int):Prop:=∀ x∈r,-1≤x∧x<(r.length:Int)
instance (r:List Int):Decidable (inB r):=inferInstanceAs (Decidable (∀ x∈r,-1≤x∧x<(r.length:Int)))
theorem Lg {r:List Int} (h:inB r) {p:Int} (h0:0≤p) (h1:p<r.length):-1≤nxt r p∧nxt r p<r.length:=h _ (List.mem_of_getElem? (jK h0 h1))
theorem vV {r:List Int} (h:inB r) {p:Int} (h0:0≤p) (h1:p<r.length):∀ f,-1≤lJ r f p∧lJ r f p<(r.length:Int)
  | 0=>⟨by show -1≤p;omega,h1⟩
  | f + 1=>by
    rw [lC]
    obtain ⟨a,b⟩:=vV h h0 h1 f
    unfold stp
    by_cases e:lJ r f p=-1
    · rw [if_pos e];omega
    · rw [if_neg e];exact Lg h (by omega) b
def isR (r:List Int):Bool:=decide (1≤r.length∧r.length≤40) && decide (inB r) && decide (∀ i,i<r.length→lJ r r.length (i:Int)=-1)
end Rv
namespace Rv
end Rv
namespace Rv
abbrev Mv:=Int × Int × Int
end Rv
namespace Rv
end Rv
namespace Rv
end Rv
namespace Rv
end Rv
namespace Rv
end Rv
namespace Rv
end Rv
namespace Tn
end Tn
namespace Tn
end Tn
namespace Tn
end Tn
namespace Tn
end Tn
namespace Tn
end Tn
namespace Tn
end Tn
namespace Tn
end Tn
namespace Tn
end Tn
namespace Tn
end Tn
namespace Tn
theorem jh {α:Type} {gs:List α} {i:Nat} {k:α} (h:gs[i]?=some k):gs.take (i + 1)=gs.take i++[k]:=by
  rw [List.take_add_one,h];rfl
end Tn
namespace Tn
end Tn
namespace Tn
end Tn
namespace Tn
end Tn
namespace Tn
end Tn
namespace Rv
end Rv
namespace Rv
def spot (n x s:Int) (k:Nat):Int:=(x + s * (k:Int)) % n
theorem vZ {n a b:Int} (hn:0<n) (h:a % n=b % n) (h1:a - b<n) (h2:b - a<n):a=b:=by
  have ea:=Int.emod_add_mul_ediv a n
  have eb:=Int.emod_add_mul_ediv b n
  have e:a - b=n * (a / n - b / n):=by rw [Int.mul_sub];omega
  generalize a / n - b / n=q at e
  by_cases h0:q=0
  · rw [h0,Int.mul_zero] at e;omega
  · by_cases hp:1≤q
    · have:=Int.mul_le_mul_of_nonneg_left hp (Int.le_of_lt hn)
      rw [Int.mul_one] at this;omega
    · have:q≤-1:=by omega
      have:=Int.mul_le_mul_of_nonneg_left this (Int.le_of_lt hn)
      rw [Int.mul_neg,Int.mul_one] at this;omega
theorem Ab {n x s:Int} (hn:0<n) (hs:s=1∨s=n - 1) {j k:Nat} (hj:(j:Int)<n) (hk:(k:Int)<n) (h:spot n x s j=spot n x s k):j=k:=by
  unfold spot at h
  rcases hs with rfl | rfl
  · rw [Int.one_mul,Int.one_mul] at h
    have:=vZ hn h (by omega) (by omega)
    omega
  · have e:∀ m:Nat,(x + (n - 1) * (m:Int)) % n=(x - (m:Int)) % n:=fun m=>by
      have:x + (n - 1) * (m:Int)=(x - (m:Int)) + n * (m:Int):=by rw [Int.sub_mul];omega
      rw [this,Int.add_mul_emod_self_left]
    rw [e j,e k] at h
    have:=vZ hn h (by omega) (by omega)
    omega
theorem xR {n x s:Int} (hn:0<n) (k:Nat):0≤spot n x s k:=Int.emod_nonneg _ (by omega)
theorem xT {n x s:Int} (hn:0<n) (k:Nat):spot n x s k<n:=Int.emod_lt_of_pos _ hn
def spots (n x s:Int) (m:Nat):List Int:=(List.range m).map (spot n x s)
theorem xQ (n x s:Int) (m:Nat):(spots n x s m).length=m:=by simp [spots]
theorem wG (n x s:Int) (m:Nat):spots n x s (m + 1)=spots n x s m++[spot n x s m]:=by
  unfold spots;rw [List.range_succ,List.map_append];rfl
theorem vC {n x s:Int} {m k:Nat} (h:k<m):(spots n x s m)[k]?=some (spot n x s k):=by
  unfold spots;rw [List.getElem?_map,List.getElem?_range h];rfl
structure Lnk (n:Nat) (sp:Nat→Int) (k:Nat) (b:List Int):Prop where
  len:b.length=n
  at_:∀ (i:Nat) (x:Int),b[i]?=some x→x=-1∨∃ j m,j<m∧m<k∧m<n∧sp m=(i:Int)∧x=sp j
theorem Lnk.start (n:Nat) (sp:Nat→Int):Lnk n sp 1 (List.replicate n (-1)) :=
  ⟨by simp,fun i x h=>.inl (by
    rw [List.getElem?_replicate] at h
    split at h
    · exact (Option.some.inj h).symm
    · cases h)⟩
theorem Lnk.skip {n:Nat} {sp:Nat→Int} {k:Nat} {b:List Int} (h:Lnk n sp k b):Lnk n sp (k + 1) b :=
  ⟨h.len,fun i x hx=>(h.at_ i x hx).imp id fun ⟨j,m,h1,h2,h3⟩=>⟨j,m,h1,by omega,h3⟩⟩
theorem Lnk.turn {n:Nat} {sp:Nat→Int} {k j:Nat} {b:List Int} (h:Lnk n sp k b) (hk:k<n) (hj:j<k) (h0:0≤sp k):Lnk n sp (k + 1) (b.set (sp k).toNat (sp j)):=by
  refine ⟨by rw [List.length_set];exact h.len,fun i x hx=>?_⟩
  rw [List.getElem?_set] at hx
  split at hx
  · rename_i e
    split at hx
    · exact .inr ⟨j,k,hj,by omega,hk,by omega,(Option.some.inj hx).symm⟩
    · cases hx
  · exact h.skip.at_ i x hx
theorem Lnk.ig {n:Nat} {sp:Nat→Int} {k:Nat} {b:List Int} (h:Lnk n sp k b) (h0:∀ k,0≤sp k) (h1:∀ k,sp k<n) (inj:∀ j k,j<n→k<n→sp j=sp k→j=k) (hn:0<n):mq b:=by
  classical
  let rk:Nat→Nat:=fun i=>if h:∃ k,k<n∧sp k=(i:Int) then h.choose else 0
  have rk_at:∀ k,k<n→rk (sp k).toNat=k:=fun k hk=>by
    have hex:∃ m,m<n∧sp m=((sp k).toNat:Int):=⟨k,hk,by have:=h0 k;omega⟩
    show (if h:∃ m,m<n∧sp m=((sp k).toNat:Int) then h.choose else 0)=k
    rw [dif_pos hex]
    obtain ⟨a1,a2⟩:=hex.choose_spec
    exact inj _ _ a1 hk (by have:=h0 k;omega)
  refine ⟨rk,fun i _=>?_,fun i x hx=>?_⟩
  · rw [h.len]
    show (if h:∃ k,k<n∧sp k=(i:Int) then h.choose else 0)<n
    split
    · rename_i hex;exact hex.choose_spec.1
    · exact hn
  · rcases h.at_ i x hx with e | ⟨j,m,hjm,_,hm,e,rfl⟩
    · exact .inl e
    · refine .inr ⟨h0 j,by rw [h.len];exact h1 j,?_⟩
      have ei:i=(sp m).toNat:=by have:=h0 m;omega
      rw [ei,rk_at m hm,rk_at j (by omega)]
      exact hjm
end Rv
namespace Tn
end Tn
namespace Rv
end Rv
namespace Tn
end Tn
namespace Tn
end Tn
namespace Rv
end Rv
namespace Tn
end Tn
namespace Rv
end Rv
namespace Tn
end Tn
namespace Rv
end Rv
namespace My
open PySem L2
local macro_rules | `(tactic| walk_at "new") => `(tactic| (generalize hE : upd _ _ _ = Hn; have On := Ow.mkE (by assumption) (by assumption) hE rfl; clear hE; revert On; revert Hn))
local macro_rules | `(tactic| walk_at "put") => `(tactic| (generalize hE : upd _ _ _ = Hn; (first | have On := Ow.nU (by assumption) 0 rfl hE rfl | have On := Ow.nU (by assumption) 1 rfl hE rfl | have On := Ow.nU (by assumption) 2 rfl hE rfl | have On := Ow.nU (by assumption) 3 rfl hE rfl | have On := Ow.nU (by assumption) 4 rfl hE rfl | have On := Ow.nU (by assumption) 5 rfl hE rfl); clear hE; (try simp only [List.set_cons_zero, List.set_cons_succ] at On); revert On; revert Hn))
set_option hygiene false
local macro_rules | `(tactic| walk_at "get") => `(tactic| first | assumption | exact O.get 0 | exact O.get 1 | exact O.get 2 | exact O.get 3 | exact O.get 4 | exact O.get 5 | exact O.get 6 | exact O.get 7 | exact O.get 8 | exact O.get 9 | exact O.get 10 | exact O.get 11 | exact O.get 12 | fail)
local macro_rules | `(tactic| walk_at "sq") => `(tactic| first | assumption | exact O.sq 0 | exact O.sq 1 | exact O.sq 2 | exact O.sq 3 | exact O.sq 4 | exact O.sq 5 | exact O.sq 6 | exact O.sq 7 | exact O.sq 8 | exact O.sq 9 | exact O.sq 10 | exact O.sq 11 | exact O.sq 12 | exact SqL.mo (by assumption) O.same | exact SqL.mo (by assumption) (s0.trans O.same) | fail)
local macro_rules | `(tactic| walk_at "sqT") => `(tactic| first | assumption | exact O.sqT 0 | exact O.sqT 1 | exact O.sqT 2 | exact O.sqT 3 | exact O.sqT 4 | exact O.sqT 5 | exact O.sqT 6 | exact O.sqT 7 | exact SqT.mo (by assumption) O.same | exact SqT.mo (by assumption) (s0.trans O.same) | fail)
local macro_rules | `(tactic| walk_at "at") => `(tactic| first | rfl | exact bJ (by assumption) | exact dW (by assumption) | exact ints_atZ (by omega) (by omega) | exact Le _ _ | exact ints_last (by omega) | exact ints_atZ (ns := [_, _]) (by omega) (by simp only [List.length_cons, List.length_nil]; omega) | exact ints_atZ (ns := [_, _, _]) (by omega) (by simp only [List.length_cons, List.length_nil]; omega) | exact ints_atZ (ns := [_, _, _, _]) (by omega) (by simp only [List.length_cons, List.length_nil]; omega) | exact ints_atZ (ns := [_, _, _, _, _]) (by omega) (by simp only [List.length_cons, List.length_nil]; omega) | exact ints_atZ (ns := [_, _, _, _, _, _]) (by omega) (by simp only [List.length_cons, List.length_nil]; omega) | exact ints_atZ (ns := [_, _, _, _, _, _, _]) (by omega) (by simp only [List.length_cons, List.length_nil]; omega) | exact ints_atZ (ns := [_, _, _, _, _, _, _, _]) (by omega) (by simp only [List.length_cons, List.length_nil]; omega) | fail)
local macro_rules | `(tactic| walk_at "c") => `(tactic| first | omega | (simp only [List.length_map]; omega) | exact szl | (show (0 : Int) < _; decide) | (show (0 : Int) < _; omega) | exact ⟨by decide, by decide⟩ | exact .inl ⟨by decide, by decide⟩ | exact .inr ⟨by decide, by decide⟩ | exact ⟨by decide, by decide, by decide⟩ | exact .inl ⟨by omega, by omega⟩ | exact .inr ⟨by omega, by omega⟩ | exact ⟨by omega, by omega⟩ | (split <;> omega) | fail)
local macro_rules | `(tactic| walk_at "ty") => `(tactic| first | exact .int _ | exact .bl _ | exact .lst (by walk_at "get") | exact .tup (by walk_at "get") | exact .non | fail)
local macro_rules | `(tactic| walk_at "kit") => `(tactic| first | exact kit_ii K | exact kit_ib K | exact kit_ll K | exact kit_bb K | exact kit_bi K | exact kit_tt K | fail)
local macro_rules | `(tactic| walk_at "sz") => `(tactic| exact aX (by (try simp only [List.length_map, List.length_append, List.length_cons, List.length_nil]); omega))
local macro_rules | `(tactic| walk_at "s") => `(tactic| first | refine V4 ?_ | refine ⟨_, rfl, ?_⟩ | refine ⟨_, _, rfl, rfl, ?_⟩ | refine And.intro rfl ?_ | refine And.intro (by walk_at "c") ?_ | refine ⟨_, _, _, _, rfl, rfl, (show SqL _ _ _ _ by walk_at "sq"), (show atI _ _ = some _ by walk_at "at"), ?_⟩ | refine ⟨_, _, _, _, rfl, rfl, (show SqT _ _ _ _ by walk_at "sqT"), (show atI _ _ = some _ by walk_at "at"), ?_⟩ | refine ⟨_, _, rfl, .inl (show SqL _ _ _ _ by walk_at "sq"), ?_⟩ | refine ⟨_, _, rfl, .inr (show SqT _ _ _ _ by walk_at "sqT"), ?_⟩ | refine ⟨_, _, rfl, (show SqL _ _ _ _ by walk_at "sq"), ?_⟩ | refine And.intro ⟨_, (show SqL _ _ _ _ by walk_at "sq")⟩ ?_ | refine And.intro (.inl ⟨rfl, _, (show SqL _ _ _ _ by walk_at "sq")⟩) ?_ | refine ⟨_, _, _, _, rfl, (show TyOf _ _ _ _ by walk_at "ty"), (show PySem.W.kitOne _ _ _ = some _ by walk_at "kit"), ?_⟩ | refine ⟨_, _, rfl, ?_⟩ | fail)
local macro_rules | `(tactic| walk_at "w") => `(tactic| repeat walk_at "s")
local macro_rules | `(tactic| walk_at "if") => `(tactic| first | refine lM ?_ | refine mW ?_ | refine ifN ?_ | refine ifI (fun hc => ?_) (fun hc => ?_) | refine ifD (fun hc => ?_) (fun hc => ?_) | refine ifB (fun hc => ?_) (fun hc => ?_) | fail)
local macro_rules | `(tactic| walk_at "go") => `(tactic| repeat' (first | walk_at "if" | walk_at "s" | fail))
local macro_rules | `(tactic| walk_at "nw") => `(tactic| (generalize hE : upd _ _ _ = Hn; replace O := Ow.mkE O (by assumption) hE rfl; clear hE))
local macro_rules | `(tactic| walk_at "pt") => `(tactic| (generalize hE : upd _ _ _ = Hn; (first | replace O := Ow.nU O 0 rfl hE rfl | replace O := Ow.nU O 1 rfl hE rfl | replace O := Ow.nU O 2 rfl hE rfl | replace O := Ow.nU O 3 rfl hE rfl | replace O := Ow.nU O 4 rfl hE rfl | replace O := Ow.nU O 5 rfl hE rfl | replace O := Ow.nU O 6 rfl hE rfl | replace O := Ow.nU O 7 rfl hE rfl); clear hE; (try simp only [List.set_cons_zero, List.set_cons_succ] at O)))
local macro_rules | `(tactic| walk_at "app") => `(tactic| (refine ⟨_, _, _, rfl, rfl, (by walk_at "get"), (by walk_at "sz"), ?_⟩; walk_at "pt"))
local macro_rules | `(tactic| walk_at "elt") => `(tactic| (refine ⟨_, (by walk_at "get"), (by walk_at "sz"), ?_⟩; walk_at "pt"))
local macro_rules | `(tactic| walk_at "frz") => `(tactic| (obtain ⟨Hn, On, sn, en⟩ := O.frz; clear O; have O := On; clear On; (try replace s0 := s0.mo sn); (try replace d0 := d0.mo sn); (try replace d1 := d1.mo sn); (try replace d2 := d2.mo sn); (try replace d3 := d3.mo sn); (try replace d4 := d4.mo sn); (try replace d5 := d5.mo sn); (try replace d6 := d6.mo sn); (try replace d7 := d7.mo sn)))
local macro_rules | `(tactic| walk_at "mo") => `(tactic| ((try simp only [List.eraseIdx_cons_zero, List.eraseIdx_cons_succ] at O); (try replace s0 := s0.mo sn); (try replace d0 := d0.mo sn); (try replace d1 := d1.mo sn); (try replace d2 := d2.mo sn); (try replace d3 := d3.mo sn); (try replace d4 := d4.mo sn); (try replace d5 := d5.mo sn); (try replace d6 := d6.mo sn); (try replace d7 := d7.mo sn)))
local macro_rules | `(tactic| walk_at "er") => `(tactic| simp only [List.eraseIdx_cons_zero, List.eraseIdx_cons_succ] at O)
local macro_rules | `(tactic| walk_at "jn") => `(tactic| simp only [List.cons_append, List.nil_append] at O)
def top (i:Nat):Stmt:=PySem.Challenge.pw_sluice_k59_replays_refused.main.body.getD i (.Pass ⟨0,0,0,0⟩)
abbrev jD:Stmt:=top 21
theorem rW:aW ["below","reach","way"] ["below","reach"] (ak jD):=⟨rfl,rfl,rfl,by decide +kernel,rfl,by decide +kernel,by decide +kernel⟩
def vD (K:PySem.W.Frag):Sp:=fun vs H Q _=>∃ (a:Addr) (r:List Int) (p:Int),vs=[.ref a,.int p]∧SqL K H a (r.map V.int)∧Rv.mq r∧0≤p∧p<r.length∧r.length≤900 ∧
  Wo H (fun xs=>xs=(Rv.walk r p).map V.int) Q
theorem rE (pre:List Int) (z:Int):atI ((pre++[z]).map V.int) (-1)=some (V.int z):=by
  rw [List.map_append];exact BL _ _
theorem M6 {f:Addr} {fd:FuncData} (D:Df K mg "way_of" jD ["below","reach"] f fd) (C:Mth mg):bQ P w K mg base CX0 1 f fd ["below","reach"] (vD K):=by
  obtain ⟨tM,hMOUTH⟩:=C.MOUTH
  refine D.F.ok rW (fun vs H Q E h=>?_) (fun cdv A outer s H vs Q E hr h=>?_)
  · obtain ⟨a,r,p,rfl,_⟩:=h;rfl
  · obtain ⟨a,r,p,rfl,hS,hR,p0,p1,hn,q⟩:=h
    refine ⟨_,(au (bw (i:=2) rW.nd rfl (Or.inl rfl) (bK (aj (pv 1) ao)))
      (au (vN PassesOwn.never (aK sW (aH aJ (pv 0) (aH aJ (pv 2) (jc fB aq) (fun _ _=>rfl)) (fun _ _=>rfl)) (iV (v:=.int (-1)) rfl hMOUTH ⟨_,rfl⟩) (aN _))
        (aA (bG (j8 PySem.F.plainAttrs_list PySem.F.slot_list_append PySem.F.type_list_append bV (pv 2) (aj (aH aJ (pv 0) (aH aJ (pv 2) (jc fB aq) (fun _ _=>rfl)) (fun _ _=>rfl)) ao)))))
      (aA (bf (pv 2))))),?_⟩
    refine ⟨_,rfl,(by show 1≤sizeLine;decide),fun lw hlw=>?_⟩
    refine ⟨fun m σ H'=>∃ (pre:List Int) (z:Int),σ=[some (.ref a),some (.int p),some (.ref lw)]∧Same H H'∧H' lw=some (.lst ((pre++[z]).map V.int))∧0≤z∧z<r.length∧pre++Rv.walk r z=Rv.walk r p∧m=Rv.mea r z,
      ⟨_,[],p,rfl,(Same.refl H).upd hlw,cQ,p0,p1,rfl,rfl⟩,?_⟩
    rintro m σ H2 ⟨pre,z,rfl,s2,h2,z0,z1,e,rfl⟩
    have g:=Rv.jK z0 z1
    have hlen:pre.length + (Rv.walk r z).length≤r.length + 1:=by
      have:=Rv.vp r p
      rw [← e,List.length_append] at this;exact this
    refine ⟨_,rfl,_,rfl,_,rfl,lw,_,_,_,rfl,rfl,SqL.of h2,rE pre z,a,_,_,_,rfl,rfl,s2.seq hS,mH z0 g,rfl,_,rfl,?_⟩
    rcases hR.step z0 z1 with hm | ⟨n0,n1⟩
    · rw [hm]
      refine Nt rfl ?_
      refine ⟨_,rfl,q lw H2 _ s2 hlw h2 ?_⟩
      have ew:Rv.walk r z=[z]:=by rw [Rv.jg hR z0 z1,hm,Rv.ql]
      rw [← e,ew]
    · have hd:(!decide (V.int (Rv.nxt r z)=V.int (-1)))=true:=by
        have:¬ Rv.nxt r z=-1:=by omega
        simp [this]
      rw [hd]
      refine lM ?_
      refine ⟨fun σ' H'=>∃ m',m'<Rv.mea r z∧∃ (pre:List Int) (z:Int),σ'=[some (.ref a),some (.int p),some (.ref lw)]∧Same H H'∧H' lw=some (.lst ((pre++[z]).map V.int))∧0≤z∧z<r.length∧pre++Rv.walk r z=Rv.walk r p∧m'=Rv.mea r z,fun _ _ x=>x,?_⟩
      refine ⟨_,rfl,.inl ⟨rfl,_,SqL.of h2⟩,_,rfl,_,rfl,_,rfl,lw,_,_,_,rfl,rfl,SqL.of h2,rE pre z,a,_,_,_,rfl,rfl,s2.seq hS,mH z0 g,lw,_,_,rfl,rfl,h2,aX ?_,?_⟩
      · rw [List.length_map,List.length_append]
        have:1≤(Rv.walk r z).length:=by rw [Rv.jg hR z0 z1];exact Nat.succ_le_succ (Nat.zero_le _)
        show pre.length + 1≤_
        omega
      · refine ⟨_,Rv.Cp hR z0 z1,pre++[z],Rv.nxt r z,rfl,s2.upd hlw,?_,n0,n1,?_,rfl⟩
        · rw [cQ,List.map_append (l₁:=pre++[z])];rfl
        · rw [List.append_assoc]
          show pre++(z :: Rv.walk r (Rv.nxt r z))=_
          rw [← Rv.jg hR z0 z1];exact e
abbrev cA:Stmt:=top 19
theorem fX:aW ["below","start","reach","step"] ["below","start"] (ak cA):=⟨rfl,rfl,rfl,by decide +kernel,rfl,by decide +kernel,by decide +kernel⟩
def vJ (K:PySem.W.Frag):Sp:=fun vs H Q _=>∃ (a:Addr) (r:List Int) (i:Nat),vs=[.ref a,.int (i:Int)]∧SqL K H a (r.map V.int)∧Rv.inB r∧i<r.length∧r.length≤900∧Q (.bl (decide (Rv.lJ r r.length (i:Int)=-1))) H
structure Cst (mg:Str→Option Value):Prop where
  MOUTH:∃ t,mg "MOUTH"=some (.int (-1) t)
  MOST_REACHES:∃ t,mg "MOST_REACHES"=some (.int 40 t)
theorem Aq {f:Addr} {fd:FuncData} (D:Df K mg "comes_to_mouth" cA ["below","start"] f fd) (B:Blt mg) (C:Cst mg):bQ P w K mg base CX0 1 f fd ["below","start"] (vJ K):=by
  obtain ⟨tM,hMOUTH⟩:=C.MOUTH
  refine D.F.ok fX (fun vs H Q E h=>?_) (fun cdv A outer s H vs Q E hr h=>?_)
  · obtain ⟨a,r,i,rfl,_⟩:=h;rfl
  · obtain ⟨a,r,i,rfl,hS,hB,hi,hn,q⟩:=h
    refine ⟨_,(au (bw (i:=2) fX.nd rfl (Or.inl rfl) (pv 1))
      (au (oJ PassesOwn.never rfl (jR rfl B.range (aj (aP aM rfl B.len PySem.boot_len (aj (pv 0) ao)) ao)) (bI (i:=3) fX.nd rfl (Or.inl rfl))
        (au (bw (i:=2) fX.nd rfl (Or.inl rfl) (aH aJ (pv 0) (pv 2) (fun _ _=>rfl)))
        (aA (bT (aK dY (pv 2) (iV (v:=.int (-1)) rfl hMOUTH ⟨_,rfl⟩) (aN _))
          (aA (bf pJ))
          aV))))
      (aA (bf pJ)))),?_⟩
    refine ⟨_,rfl,_,rfl,a,_,rfl,.inl hS,_,rfl,by rw [List.length_map];omega,by rw [List.length_map];omega,?_⟩
    rw [List.length_map,Int.toNat_natCast]
    refine tH (n:=r.length) (fun j σ H2=>∃ (v:Option V),σ=[some (.ref a),some (.int (i:Int)),some (.int (Rv.lJ r j (i:Int))),v]∧H=H2∧(j=0∨Rv.lJ r j (i:Int)≠-1)) ⟨none,rfl,rfl,.inl rfl⟩ ?_ ?_
    · rintro j σ H2 hj ⟨v,rfl,rfl,hne⟩
      obtain ⟨b0,b1⟩:=Rv.vV hB (p:=(i:Int)) (by omega) (by omega) j
      have hne':Rv.lJ r j (i:Int)≠-1:=by
        rcases hne with e | e
        · subst e
          show (i:Int)≠-1
          omega
        · exact e
      have g:=Rv.jK (r:=r) (p:=Rv.lJ r j (i:Int)) (by omega) b1
      have es:Rv.nxt r (Rv.lJ r j (i:Int))=Rv.lJ r (j + 1) (i:Int):=by
        rw [Rv.lC];unfold Rv.stp;rw [if_neg hne']
      rw [es] at g
      refine ⟨_,rfl,_,rfl,a,_,_,_,rfl,rfl,hS,mH (by omega) g,_,rfl,rfl,_,rfl,?_⟩
      refine Tr (fun h=>?_) (fun h=>?_)
      · have e:Rv.lJ r (j + 1) (i:Int)=-1:=by
          have:=of_decide_eq_true h
          exact V.int.inj this
        have e2:Rv.lJ r r.length (i:Int)=-1:=by
          have:=Rv.vA r (i:Int) e (r.length - (j + 1))
          rw [show j + 1 + (r.length - (j + 1))=r.length by omega] at this
          exact this
        rw [decide_eq_true e2] at q
        exact q
      · refine ⟨_,rfl,rfl,.inr fun e=>h (decide_eq_true (by rw [e]))⟩
    · rintro σ H2 ⟨v,rfl,rfl,hne⟩
      have e:¬ Rv.lJ r r.length (i:Int)=-1:=by
        rcases hne with e | e
        · omega
        · exact e
      rw [decide_eq_false e] at q
      exact q
abbrev fj:Stmt:=top 20
theorem uD:aW ["below"] ["below"] (ak fj):=⟨rfl,rfl,rfl,by decide +kernel,rfl,by decide +kernel,by decide +kernel⟩
def Ce (K:PySem.W.Frag):Sp:=fun vs H Q _=>∃ (a:Addr) (r:List Int),vs=[.ref a]∧SqL K H a (r.map V.int)∧r.length≤900∧∀ H',Same H H'→Q (.bl (Rv.isR r)) H'
theorem wu {α:Type} {p:α→Bool} {l:List α}:(l.map p).all id=l.all p:=by
  rw [List.all_map];rfl
theorem Lh (r:List Int):(r.all fun x=>decide (-1≤x) && decide (x<(r.length:Int)))=decide (Rv.inB r):=by
  rw [Bool.eq_iff_iff]
  simp only [List.all_eq_true,Bool.and_eq_true,decide_eq_true_eq]
  exact Iff.rfl
theorem Nb {f fC:Addr} {fd fdC:FuncData} (D:Df K mg "is_river" fj ["below"] f fd) (B:Blt mg) (C:Cst mg) (dJ:Df K mg "comes_to_mouth" cA ["below","start"] fC fdC)
    (nJ:bQ P w K mg base CX0 1 fC fdC ["below","start"] (vJ K)):bQ P w K mg base CX0 2 f fd ["below"] (Ce K):=by
  obtain ⟨tM,hMOUTH⟩:=C.MOUTH
  obtain ⟨tR,hMOST_REACHES⟩:=C.MOST_REACHES
  refine D.F.ok uD (fun vs H Q E h=>?_) (fun cdv A outer s H vs Q E hr h=>?_)
  · obtain ⟨a,r,rfl,_⟩:=h;rfl
  · obtain ⟨a,r,rfl,hS,hn,q⟩:=h
    refine ⟨_,(au (bT (jP (mG nG nG aq (aP aM rfl B.len PySem.boot_len (aj (pv 0) ao)) (iV (v:=.int (40)) rfl hMOST_REACHES ⟨_,rfl⟩)))
        (aA (bf pJ))
        aV)
      (au (bT (jP (kW (aP (mL rfl) rfl B.all PyProof.Rows.boot_all (aj (j6 (ak fj) rfl ["below"] rfl ["reach","below"] [none,some 0] (by decide +kernel) (by decide +kernel) (by decide +kernel) rfl (qM (pv 0)) (fun _ _ _=>(bI (i:=0) (show (["reach","below"]:List Str).Nodup by decide +kernel) rfl (Or.inl rfl))) (fun _ _ _=>ji) (fun _ _ _=>(qP nG qQ (iV (v:=.int (-1)) rfl hMOUTH ⟨_,rfl⟩) (pv 0) (aP (mK (K:=K) rfl) rfl B.len PySem.boot_len (aj (pv 1) ao))))) ao))))
        (aA (bf pJ))
        aV)
      (aA (bf (aP (mL rfl) rfl B.all PyProof.Rows.boot_all (aj (j6 (ak fj) rfl ["below"] rfl ["start","below"] [none,some 0] (by decide +kernel) (by decide +kernel) (by decide +kernel) rfl (jR rfl B.range (aj (aP aM rfl B.len PySem.boot_len (aj (pv 0) ao)) ao)) (fun _ _ _=>(bI (i:=0) (show (["start","below"]:List Str).Nodup by decide +kernel) rfl (Or.inl rfl))) (fun _ _ _=>ji) (fun _ _ _=>(aO nJ (hr.mono (by decide)) rfl dJ.m dJ.F.kp dJ.b .nil bU (aj (pv 1) (aj (pv 0) ao))))) ao)))))),?_⟩
    refine ⟨_,rfl,a,_,rfl,.inl hS,_,_,rfl,rfl,_,rfl,?_⟩
    rw [List.length_map]
    have no1:¬ (1≤r.length∧r.length≤40)→Q (.bl false) H:=fun h=>by
      have e:Rv.isR r=false:=by unfold Rv.isR;rw [decide_eq_false h];rfl
      have:=q H (Same.refl H)
      rw [e] at this
      exact this
    refine Tr (fun h1=>⟨_,_,rfl,rfl,_,rfl,?_⟩) (fun h1=>⟨_,rfl,?_⟩)
    case refine_2=>exact lM (no1 fun z=>h1 (decide_eq_true (by omega)))
    have g1:=of_decide_eq_true h1
    by_cases h2:r.length≤40
    case neg =>
      rw [decide_eq_false (by omega)]
      exact lM (no1 fun z=>h2 z.2)
    rw [decide_eq_true (by omega)]
    refine mW ?_
    refine ⟨_,rfl,a,rfl,⟨_,hS⟩,fun acc hacc=>?_⟩
    refine pC (K:=K) (a:=a) (xs:=r.map V.int) (fun i τ H2=>∃ v,τ=[v,some (.ref a)]∧Same H H2∧H2 acc=some (.lst (((r.take i).map fun x=>decide (-1≤x) && decide (x<(r.length:Int))).map V.bl)))
      ⟨none,rfl,(Same.refl H).upd hacc,by rw [cQ];rfl⟩ (fun i τ H2 _ ⟨_,_,s2,_⟩=>s2.seq hS) ?_ ?_
    · rintro i y τ H2 hi ⟨v,rfl,s2,h2'⟩
      obtain ⟨z,hz,rfl⟩:=ints_get hi
      have hil:i<r.length:=(List.getElem?_eq_some_iff.mp hz).1
      have e:∀ b:Bool,b=(decide (-1≤z) && decide (z<(r.length:Int)))→((r.take i).map fun x=>decide (-1≤x) && decide (x<(r.length:Int))).map V.bl++[V.bl b]=((r.take (i + 1)).map fun x=>decide (-1≤x) && decide (x<(r.length:Int))).map V.bl:=fun b hb=>by
        rw [List.take_add_one,hz,List.map_append,List.map_append,hb];rfl
      have hsz:(((r.take i).map fun x=>decide (-1≤x) && decide (x<(r.length:Int))).map V.bl).length<sizeLine:=aX (by rw [List.length_map,List.length_map,List.length_take];omega)
      refine zX ?_
      refine ⟨_,rfl,_,_,rfl,rfl,_,rfl,?_⟩
      refine Tr (fun h3=>?_) (fun h3=>?_)
      · refine ⟨_,rfl,a,_,rfl,.inl (s2.seq hS),_,_,rfl,rfl,_,h2',hsz,_,rfl,s2.upd hacc,?_⟩
        rw [cQ,e _ (by rw [h3,List.length_map];rfl)]
      · refine ⟨_,h2',hsz,_,rfl,s2.upd hacc,?_⟩
        have h3':decide (-1≤z)=false:=by simpa using h3
        rw [cQ,e false (by rw [h3'];rfl)]
    · rintro τ H2 ⟨v,rfl,s2,h2'⟩
      rw [List.length_map,List.take_length] at h2'
      refine ⟨acc,_,rfl,SqL.of h2',_,rfl,?_⟩
      rw [wu,Lh]
      by_cases hB:Rv.inB r
      case neg =>
        rw [decide_eq_false hB]
        refine lM ?_
        have e:Rv.isR r=false:=by unfold Rv.isR;rw [decide_eq_false hB,Bool.and_false];rfl
        have:=q H2 s2
        rw [e] at this
        exact this
      rw [decide_eq_true hB]
      refine mW ?_
      refine ⟨_,rfl,a,_,rfl,.inl (s2.seq hS),_,rfl,by rw [List.length_map];omega,by rw [List.length_map];omega,fun ac2 hac2=>?_⟩
      rw [List.length_map,Int.toNat_natCast]
      have nac2:H ac2=none:=s2.free hac2
      refine jU (fun i τ H3=>∃ v,τ=[v,some (.ref a)]∧Same H H3∧H3 ac2=some (.lst (((List.range i).map fun (j:Nat)=>decide (Rv.lJ r r.length (j:Int)=-1)).map V.bl))) ⟨none,rfl,s2.upd nac2,by rw [cQ];rfl⟩ ?_ ?_
      · rintro i τ H3 hi ⟨v,rfl,s3,h3⟩
        rw [show (0:Int) + (i:Int)=(i:Int) by omega]
        refine zX ?_
        refine ⟨_,rfl,_,rfl,a,r,i,rfl,s3.seq hS,hB,hi,hn,?_⟩
        refine ⟨_,h3,aX (by rw [List.length_map,List.length_map,List.length_range];omega),_,rfl,s3.upd nac2,?_⟩
        rw [cQ,List.range_succ,List.map_append,List.map_append];rfl
      · rintro τ H3 ⟨v,rfl,s3,h3⟩
        refine ⟨ac2,_,rfl,SqL.of h3,?_⟩
        have e:(((List.range r.length).map fun (j:Nat)=>decide (Rv.lJ r r.length (j:Int)=-1)).all id)=Rv.isR r:=by
          unfold Rv.isR
          rw [wu,decide_eq_true (show 1≤r.length∧r.length≤40 from ⟨by omega,h2⟩),decide_eq_true hB,Bool.true_and,Bool.true_and,Bool.eq_iff_iff]
          simp only [List.all_eq_true,List.mem_range,decide_eq_true_eq]
        rw [e]
        exact q H3 s3
abbrev eZ:Stmt:=top 4
theorem uz:aW ["amount"] ["amount"] (ak eZ):=⟨rfl,rfl,rfl,by decide +kernel,rfl,by decide +kernel,by decide +kernel⟩
def nT:Sp:=fun vs H Q _=>∃ (z:Int),vs=[.int z]∧∀ b:Bool,(b=true↔(0≤z∧z≤1000000000000))→Q (.bl b) H
theorem Ak {f:Addr} {fd:FuncData} (D:Df K mg "is_water" eZ ["amount"] f fd) (CW:∃ t,mg "MOST_WATER"=some (.int 1000000000000 t)):bQ P w K mg base CX0 1 f fd ["amount"] nT:=by
  obtain ⟨tW,hMOST_WATER⟩:=CW
  refine D.F.ok uz (fun vs H Q E h=>?_) (fun cdv A outer s H vs Q E hr h=>?_)
  · obtain ⟨_,rfl,_⟩:=h;rfl
  · obtain ⟨z,rfl,q⟩:=h
    refine ⟨_,(aA (bf (qP nG nG aq (pv 0) (iV (v:=.int (1000000000000)) rfl hMOST_WATER ⟨_,rfl⟩)))),?_⟩
    walk_at "go"
    all_goals refine q _ ?_
    all_goals simp only [decide_eq_true_eq,Bool.false_eq_true,true_iff,false_iff]
    all_goals omega
abbrev dM:Stmt:=top 24
theorem gQ:aW ["below","one","day","start","back","most"] ["below","one"] (ak dM):=⟨rfl,rfl,rfl,by decide +kernel,rfl,by decide +kernel,by decide +kernel⟩
def jA (r:List Int) (l:Lic):Prop:=(0≤l.day∧l.day≤1000000∧0≤l.start∧l.start<r.length∧0≤l.most∧l.most≤1000000000000)∧(l.back=-1∨l.back∈(Rv.walk r l.start).drop 1)
def qz (K:PySem.W.Frag) (T:eF):Sp:=fun vs H Q _=>∃ (a t:Addr) (r:List Int) (l:Lic),vs=[.ref a,.ref t]∧SqL K H a (r.map V.int)∧Rv.mq r∧r.length≤900∧SqT K H t (m5 l)∧TabsOk T H∧∀ (b:Bool) (H':Hp),aR T H H'→(b=true↔jA r l)→Q (.bl b) H'
theorem Ao {f f1 f2:Addr} {fd fd1 fd2:FuncData} (D:Df K mg "is_licence" dM ["below","one"] f fd) (B:Blt mg) (C:Mth mg) (CD:∃ t,mg "LAST_DAY"=some (.int 1000000 t))
    (cu:Df K mg "is_water" eZ ["amount"] f1 fd1) (jX:bQ P w K mg base CX0 1 f1 fd1 ["amount"] nT)
    (lF:Df K mg "way_of" jD ["below","reach"] f2 fd2) (BR:bQ P w K mg base CX0 1 f2 fd2 ["below","reach"] (vD K)):bQ P w K mg base CX0 2 f fd ["below","one"] (qz K T):=by
  obtain ⟨tM,hMOUTH⟩:=C.MOUTH
  obtain ⟨tD,hLAST_DAY⟩:=CD
  refine D.F.ok gQ (fun vs H Q E h=>?_) (fun cdv A outer s H vs Q E hr h=>?_)
  · obtain ⟨_,_,_,_,rfl,_⟩:=h;rfl
  · obtain ⟨a,t,r,l,rfl,hA,hR,hn,hT,tk,q⟩:=h
    have hml:((r.map V.int).length:Int)=(r.length:Int):=by rw [List.length_map]
    have O:=Ow.refl tk
    have s0:=O.same
    have no:¬ (0≤l.day∧l.day≤1000000∧0≤l.start∧l.start<r.length∧0≤l.most∧l.most≤1000000000000)→Q (.bl false) H:=fun h=>q _ _ O.same ⟨(fun e=>by cases e),fun z=>absurd z.1 h⟩
    refine ⟨_,(au (gY (pv 1) (ni rfl (bW (bI (i:=2) gQ.nd rfl (Or.inl rfl)) (bW (bI (i:=3) gQ.nd rfl (Or.inl rfl)) (bW (bI (i:=4) gQ.nd rfl (Or.inl rfl)) (bW (bI (i:=5) gQ.nd rfl (Or.inl rfl)) jj))))))
      (au (bT (jP (PW.pt (pw_and (mG nG nG aq (pv 2) (iV (v:=.int (1000000)) rfl hLAST_DAY ⟨_,rfl⟩)) (pw_and (mG nG qQ aq (pv 3) (aP aM rfl B.len PySem.boot_len (aj (pv 0) ao))) (pw_and1 (kW (aO jX (hr.mono (by decide)) rfl cu.m cu.F.kp cu.b .nil bU (aj (pv 5) ao))))))))
        (aA (bf pJ))
        aV)
      (aA (bf (Ud (j7 dY (pv 4) (iV (v:=.int (-1)) rfl hMOUTH ⟨_,rfl⟩) (aN _)) (yI (j7 sX (pv 4) (jE lR (aO BR (hr.mono (by decide)) rfl lF.m lF.F.kp lF.b .nil bU (aj (pv 0) (aj (pv 3) ao))) (j5 aq) lV) (by rfl)))))))),?_⟩
    refine ⟨_,rfl,t,_,rfl,hT,rfl,_,_,rfl,_,_,rfl,_,_,rfl,_,_,rfl,rfl,?_⟩
    walk_at "go"
    all_goals first | (refine no ?_;omega) | skip
    intro b hb
    walk_at "go"
    · have hm:=hb.mp (by assumption)
      have num:0≤l.day∧l.day≤1000000∧0≤l.start∧l.start<r.length∧0≤l.most∧l.most≤1000000000000:=by omega
      exact q _ _ O.same ⟨fun _=>⟨num,.inl (by omega)⟩,fun _=>rfl⟩
    · have hm:=hb.mp (by assumption)
      have num:0≤l.day∧l.day≤1000000∧0≤l.start∧l.start<r.length∧0≤l.most∧l.most≤1000000000000:=by omega
      refine ⟨a,r,l.start,rfl,hA,hR,by omega,by omega,hn,O.got fun lw H2 xs O e=>?_⟩
      subst e
      refine ⟨1,rfl,lw,_,rfl,O.sq 0,fun l1 h1=>?_⟩
      walk_at "nw"
      rw [show pH ((Rv.walk r l.start).map V.int) (some 1) none=((Rv.walk r l.start).drop 1).map V.int from v8 _ 1] at O
      refine ⟨l1,_,rfl,.inl (O.sq 0),rfl,zu _,?_⟩
      rw [if_neg Bool.false_ne_true,Lf]
      refine q _ _ O.same ?_
      rw [decide_eq_true_iff]
      exact ⟨fun h=>⟨num,.inr h⟩,fun h=>h.2.resolve_left (by omega)⟩
    · refine no fun z=>?_
      have:=hb.mpr ⟨z.2.2.2.2.1,z.2.2.2.2.2⟩
      simp_all
abbrev dj:Stmt:=top 37
theorem oF:aW ["script","k"] ["script","k"] (ak dj):=⟨rfl,rfl,rfl,by decide +kernel,rfl,by decide +kernel,by decide +kernel⟩
def yp (K:PySem.W.Frag):Sp:=fun vs H Q _=>∃ (a:Addr) (ns:List Int) (k:Nat),vs=[.ref a,.int (k:Int)]∧SqL K H a (ns.map V.int)∧Q (.int (ns.getD k 0)) H
theorem La {f:Addr} {fd:FuncData} (D:Df K mg "_law_cell_at" dj ["script","k"] f fd) (B:Blt mg):bQ P w K mg base CX0 1 f fd ["script","k"] (yp K):=by
  refine D.F.ok oF (fun vs H Q E h=>?_) (fun cdv A outer s H vs Q E hr h=>?_)
  · obtain ⟨a,ns,k,rfl,_⟩:=h;rfl
  · obtain ⟨a,ns,k,rfl,hS,q⟩:=h
    refine ⟨_,(au (bT (aK qQ (pv 1) (aP aM rfl B.len PySem.boot_len (aj (pv 0) ao)) (aN _))
        (aA (bf (aH aJ (pv 0) (pv 1) (fun _ _=>rfl))))
        aV)
      (aA (bf aq))),?_⟩
    refine ⟨_,rfl,_,rfl,a,_,rfl,.inl hS,_,_,rfl,rfl,_,rfl,?_⟩
    refine Tr (fun h=>?_) (fun h=>?_)
    · have hk:k<ns.length:=by
        have:=of_decide_eq_true h
        rw [List.length_map] at this;omega
      have e:ns[k]?=some (ns.getD k 0):=by rw [List.getD_eq_getElem?_getD,List.getElem?_eq_getElem hk];rfl
      exact ⟨_,rfl,_,rfl,a,_,_,_,rfl,rfl,hS,bJ e,q⟩
    · have hk:¬ k<ns.length:=fun z=>h (decide_eq_true (by rw [List.length_map];omega))
      have e:ns.getD k 0=0:=by rw [List.getD_eq_getElem?_getD,List.getElem?_eq_none (by omega)];rfl
      rw [e] at q
      exact q
def iJ (x:Str):Prop:=1≤x.cps.size∧x.cps.size≤8∧∀ c∈x.cps.toList,97≤c∧c≤122
def Asc (x:Str):Prop:=x.cps.all (·<128)=true∧x.cps.size≤1000
theorem wV:∀ c:Nat,c<128→(!(Builtin.Str.occurrences ("abcdefghijklmnopqrstuvwxyz":Str) ⟨#[c]⟩ 0 ("abcdefghijklmnopqrstuvwxyz":Str).length 1).isEmpty)=decide (97≤c∧c≤122):=by
  have h:∀ k:Fin 128,(!(Builtin.Str.occurrences ("abcdefghijklmnopqrstuvwxyz":Str) ⟨#[k.val]⟩ 0 ("abcdefghijklmnopqrstuvwxyz":Str).length 1).isEmpty)=decide (97≤k.val∧k.val≤122):=by decide +kernel
  exact fun c hc=>h ⟨c,hc⟩
abbrev gW:Stmt:=top 5
theorem wJ:aW ["text"] ["text"] (ak gW):=⟨rfl,rfl,rfl,by decide +kernel,rfl,by decide +kernel,by decide +kernel⟩
def rP (T:eF):Sp:=fun vs H Q _=>∃ (x:Str),vs=[.str x]∧Asc x∧TabsOk T H∧∀ (b:Bool) H',(b=true↔iJ x)→aR T H H'→Q (.bl b) H'
structure CN (mg:Str→Option Value):Prop where
  LONGEST_NAME:∃ t,mg "LONGEST_NAME"=some (.int 8 t)
  LETTERS:∃ t,mg "LETTERS"=some (.str "abcdefghijklmnopqrstuvwxyz" t)
theorem yN {f:Addr} {fd:FuncData} (D:Df K mg "is_name" gW ["text"] f fd) (B:Blt mg) (CN:CN mg):bQ P w K mg base CX0 1 f fd ["text"] (rP T):=by
  obtain ⟨tM,hLONGEST_NAME⟩:=CN.LONGEST_NAME
  obtain ⟨tL,hLETTERS⟩:=CN.LETTERS
  refine D.F.ok wJ (fun vs H Q E h=>?_) (fun cdv A outer s H vs Q E hr h=>?_)
  · obtain ⟨_,rfl,_⟩:=h;rfl
  · obtain ⟨x,rfl,⟨ha,hx⟩,tk,q⟩:=h
    have hu:=hr.units
    have O:=Ow.refl tk
    refine ⟨_,(aA (bf (Ck (qP nG nG aq (aP tU rfl B.len PySem.boot_len (aj (pv 0) ao)) (iV (v:=.int (8)) rfl hLONGEST_NAME ⟨_,rfl⟩)) (yI (aP (mL rfl) rfl B.all PyProof.Rows.boot_all (aj (j6 (ak gW) rfl ["text"] rfl ["sign"] [none] (by decide +kernel) (by decide +kernel) (by decide +kernel) rfl (MK (pv 0)) (fun _ _ _=>(bI (i:=0) (show (["sign"]:List Str).Nodup by decide +kernel) rfl (Or.inl rfl))) (fun _ _ _=>ji) (fun _ _ _=>(j7 yL (pv 0) (iV (v:=.str "abcdefghijklmnopqrstuvwxyz") rfl hLETTERS ⟨_,rfl⟩) (by rfl)))) ao)))))),?_⟩
    have hl:x.length=x.cps.size:=rfl
    refine ⟨_,rfl,x,rfl,(by rw [hl,sizeLine_eq];omega),_,_,rfl,rfl,?_⟩
    refine ⟨_,rfl,?_⟩
    refine ifD (fun h1=>?_) (fun h1=>?_)
    rotate_left
    · exact ⟨_,rfl,mW (q _ _ ⟨(fun z=>nomatch z),fun z=>absurd z.1 (by omega)⟩ O.same)⟩
    refine ⟨_,_,rfl,rfl,_,rfl,?_⟩
    refine ifD (fun h2=>?_) (fun h2=>?_)
    rotate_left
    · exact q _ _ ⟨(fun z=>nomatch z),fun z=>absurd z.2.1 (by omega)⟩ O.same
    refine ⟨_,rfl,x,rfl,ha,fun lw hlw=>?_⟩
    refine Bx (fun i τ H'=>Iv (∃ (v0:Option V) (bs:List Bool),τ=[v0]∧bs.length=i∧(bs.all id=true↔∀ c∈x.cps.toList.take i,97≤c∧c≤122)∧Ow T H H' [(lw,.lst (bs.map V.bl))])) ⟨trivial,none,[],rfl,rfl,⟨(fun _ c hc=>nomatch hc),fun _=>rfl⟩,O.mk' hlw rfl⟩ ?_ ?_
    · rintro i c τ H4 hc ⟨-,v0,bs,rfl,hbl,hb,O⟩
      have hi:i<x.cps.size:=by
        rcases Nat.lt_or_ge i x.cps.size with h | h
        · exact h
        · rw [Array.getElem?_eq_none h] at hc;cases hc
      have hm:x.cps.toList[i]?=some c:=by rw [Array.getElem?_toList];exact hc
      have hc128:c<128:=by
        have:=Array.all_eq_true.mp ha i hi
        rw [Array.getElem?_eq_getElem hi] at hc
        cases hc;exact of_decide_eq_true this
      refine zX ?_
      refine ⟨_,rfl,_,_,rfl,rfl,?_⟩
      rw [wV c hc128]
      refine ⟨_,O.get 0,aX (by rw [List.length_map];omega),?_⟩
      walk_at "pt"
      refine ⟨trivial,_,bs++[decide (97≤c∧c≤122)],rfl,by rw [List.length_append,hbl];rfl,?_,?_⟩
      · rw [Tn.jh hm,List.all_append,Bool.and_eq_true,hb]
        constructor
        · rintro ⟨z1,z2⟩ y hy
          rcases List.mem_append.mp hy with h | h
          · exact z1 y h
          · rw [List.mem_singleton.mp h];simpa using z2
        · intro z
          exact ⟨fun y hy=>z y (List.mem_append_left _ hy),by simpa using z c (List.mem_append_right _ (List.mem_singleton.mpr rfl))⟩
      · rw [List.map_append];exact O
    rintro τ H4 ⟨-,v0,bs,rfl,hbl,hb,O⟩
    refine ⟨lw,_,rfl,O.sq 0,?_⟩
    rw [show x.cps.size=x.cps.toList.length by simp,List.take_length] at hb
    exact q _ _ ⟨fun z=>⟨by omega,by omega,hb.mp z⟩,fun z=>hb.mpr z.2.2⟩ O.same
abbrev bY:Stmt:=top 31
theorem oA:aW ["name"] ["name"] (ak bY):=⟨rfl,rfl,rfl,by decide +kernel,rfl,by decide +kernel,by decide +kernel⟩
def j4 (T:eF) (cH:Addr):Sp:=fun vs H Q E=>∃ (x:Str),vs=[.str x]∧Asc x∧TabsOk T H∧(iJ x→∀ H',aR T H H'→Q .non H')∧(¬ iJ x→∀ (e:Addr) (H':Hp),aR T H H'→H' e=none→E (.ref cH) (some e) H')
theorem uG {f f1 cH:Addr} {fd fd1:FuncData} (D:Df K mg "look_at_name" bY ["name"] f fd) (X_NoHolder:lO K mg "NoHolder" cH)
    (jY:Df K mg "is_name" gW ["text"] f1 fd1) (zV:bQ P w K mg base CX0 1 f1 fd1 ["text"] (rP T)):bQ P w K mg base (CXE P w) 2 f fd ["name"] (j4 T cH):=by
  refine D.F.okX oA (fun vs H Q E h=>?_) (fun cdv A outer s H vs Q E hr h=>?_)
  · obtain ⟨_,rfl,_⟩:=h;rfl
  · obtain ⟨x,rfl,ax,tk,q,qx⟩:=h
    refine ⟨_,(aA (bT (jP (kW (aO zV (hr.mono (by decide)) rfl jY.m jY.F.kp jY.b .nil bU (aj (pv 0) ao))))
        (aA (fZ gZ rfl (fun _ _ z=>z) rfl X_NoHolder.m X_NoHolder.q (aj aF ao)))
        aV)),?_⟩
    refine ⟨_,rfl,x,rfl,ax,tk,fun b H1 hb s1=>?_⟩
    cases b with
    | true=>exact ⟨_,rfl,mW (q (hb.mp rfl) _ s1)⟩
    | false=>exact ⟨_,rfl,lM ⟨szl,fun e he=>qx (fun z=>nomatch hb.mpr z) e _ s1 he⟩⟩
structure Rs where
  p:Addr
  dx:Addr
  lb:Addr
  ll:Addr
  ln:Addr
  lo:Addr
abbrev yw:List Str:=["below","day","licences","names","done"]
abbrev Cr (C:Addr) (A:Rs) (ex:List (Str × V)) (day:Int):HO:=.ins C A.dx (("below",.ref A.lb) :: ("day",.int day) :: ("licences",.ref A.ll) :: ("names",.ref A.ln) :: ("done",.ref A.lo) :: ex)
abbrev RX (C:Addr) (A:Rs) (ex:List (Str × V)) (r:List Int) (day:Int) (us:List V) (ns:List Str) (ds:List V):List (Addr × HO) :=
  [(A.p,Cr C A ex day),(A.dx,.own A.p),(A.lb,.lst (r.map V.int)),(A.ll,.lst us),(A.ln,.lst (ns.map V.str)),(A.lo,.lst ds)]
structure RC (K:PySem.W.Frag) (C:Addr):Prop where
  c:Cls K C
  nB:jV K C "below"
  nD:jV K C "day"
  nL:jV K C "licences"
  nN:jV K C "names"
  nO:jV K C "done"
theorem KQ {K:PySem.W.Frag} {mg:Str→Option Value} {C f0:Addr} (R:Cl K mg "Roll" C f0 yw):RC K C :=
  ⟨R.c,R.n _ (.head _),R.n _ (.tail _ (.head _)),R.n _ (.tail _ (.tail _ (.head _))),R.n _ (.tail _ (.tail _ (.tail _ (.head _)))),R.n _ (.tail _ (.tail _ (.tail _ (.tail _ (.head _)))))⟩
theorem Mz (A:Rs) (ex:List (Str × V)) (day:Int) (z:V):rG "day" z (("below",.ref A.lb) :: ("day",.int day) :: ("licences",.ref A.ll) :: ("names",.ref A.ln) :: ("done",.ref A.lo) :: ex)=((("below",.ref A.lb) :: ("day",z) :: ("licences",.ref A.ll) :: ("names",.ref A.ln) :: ("done",.ref A.lo) :: ex):List (Str × V)):=rfl
inductive jL
  | turn
  | file (x:Str) (s m b:Int)
  | sell (n:Int) (y z:Str)
  | part (n:Int) (y:Str) (m:Int) (z:Str)
  | drop (n:Int) (y:Str)
  | move (n:Int) (y:Str) (s:Int)
  | lapse (xs:List Int)
def jy:jL→PyData
  | .turn=>.tuple [.str "turn"]
  | .file x s m b=>.tuple [.str "file",.str x,.int s,.int m,.int b]
  | .sell n y z=>.tuple [.str "sell",.int n,.str y,.str z]
  | .part n y m z=>.tuple [.str "part",.int n,.str y,.int m,.str z]
  | .drop n y=>.tuple [.str "drop",.int n,.str y]
  | .move n y s=>.tuple [.str "move",.int n,.str y,.int s]
  | .lapse xs=>.tuple [.str "lapse",.tuple (xs.map PyData.int)]
structure RS where
  day:Int
  ls:List Lic
  ns:List Str
  ds:List jL
inductive EK
  | number | yours | holder | licence | much | alone | full | ig
structure Ec where
  number:Addr
  yours:Addr
  holder:Addr
  licence:Addr
  much:Addr
  alone:Addr
  full:Addr
  ig:Addr
def Ec.at_ (c:Ec):EK→Addr
  | .number=>c.number | .yours=>c.yours | .holder=>c.holder | .licence=>c.licence | .much=>c.much | .alone=>c.alone | .full=>c.full | .ig=>c.ig
def wm (l:Lic) (m:Int):Lic:=⟨l.day,l.start,l.back,m⟩
def wst (l:Lic) (s:Int):Lic:=⟨l.day,s,l.back,l.most⟩
def dZ (ls:List Lic) (d:Int):Nat→List Int
  | 0=>[]
  | i + 1=>dZ ls d i++(match ls[i]? with | some l=>if l.day=d∧0<l.most then [(i:Int)] else [] | none=>[])
def jT (ls:List Lic) (xs:List Int):List Lic:=List.zipWith (fun l x=>wm l (min l.most x)) ls xs
def RS.at_ (S:RS) (n:Int):Lic:=S.ls.getD n.toNat ⟨0,0,0,0⟩
open Classical in
noncomputable def RS.nH (S:RS) (n:Int) (y:Str) (k:Except EK RS):Except EK RS :=
  if ¬ (0≤n∧n<S.ls.length) then .error .number else if S.ns[n.toNat]?≠some y then .error .yours else k
open Classical in
noncomputable def step (r:List Int) (S:RS):jL→Except EK RS
  | .turn=>.ok ⟨S.day + 1,S.ls,S.ns,S.ds++[.turn]⟩
  | .file x s m b=>if ¬ iJ x then .error .holder else if m=0∨¬ jA r ⟨S.day,s,b,m⟩ then .error .licence else if 60≤S.ls.length then .error .full else
      .ok ⟨S.day,S.ls++[⟨S.day,s,b,m⟩],S.ns++[x],S.ds++[.file x s m b]⟩
  | .sell n y z=>S.nH n y (if ¬ iJ z then .error .holder else .ok ⟨S.day,S.ls,S.ns.set n.toNat z,S.ds++[.sell n y z]⟩)
  | .part n y m z=>S.nH n y (if ¬ iJ z then .error .holder else if ¬ (1≤m∧m<(S.at_ n).most) then .error .much else if dZ S.ls (S.at_ n).day S.ls.length≠[n] then .error .alone else if 60≤S.ls.length then .error .full else
      .ok ⟨S.day,S.ls.set n.toNat (wm (S.at_ n) ((S.at_ n).most - m))++[wm (S.at_ n) m],S.ns++[z],S.ds++[.part n y m z]⟩)
  | .drop n y=>S.nH n y (.ok ⟨S.day,S.ls.set n.toNat (wm (S.at_ n) 0),S.ns,S.ds++[.drop n y]⟩)
  | .move n y s=>S.nH n y (if ¬ jA r (wst (S.at_ n) s) then .error .licence else .ok ⟨S.day,S.ls.set n.toNat (wst (S.at_ n) s),S.ns,S.ds++[.move n y s]⟩)
  | .lapse xs=>if xs.length≠S.ls.length then .error .number else if ¬ ∀ x∈xs,0≤x∧x≤1000000000000 then .error .much else
      .ok ⟨S.day,jT S.ls xs,S.ns,S.ds++[.lapse xs]⟩
def RA (K:PySem.W.Frag) (T:eF) (C:Addr) (A:Rs) (ex:List (Str × V)) (r:List Int) (H0 H:Hp) (B:List (Addr × HO)) (S:RS):Prop :=
  ∃ us vs,Ow T H0 H (RX C A ex r S.day us S.ns vs++B)∧cR K H0 us (S.ls.map pK)∧cR K H0 vs (S.ds.map jy)
structure Mh (ex:List (Str × V)):Prop where
  num:ex.lookup ("look_at_number":Str)=none
  hol:ex.lookup ("look_at_holder":Str)=none
  room:ex.lookup ("look_at_room":Str)=none
  ent:ex.lookup ("enter":Str)=none
  al:ex.lookup ("is_alone":Str)=none
  lmv:ex.lookup ("look_move":Str)=none
  lp:ex.lookup ("lapse":Str)=none
  tn:ex.lookup ("turn":Str)=none
  rl:ex.lookup ("roll":Str)=none
  hs:ex.lookup ("holders":Str)=none
  de:ex.lookup ("deeds":Str)=none
  td:ex.lookup ("today":Str)=none
  fi:ex.lookup ("file":Str)=none
  se:ex.lookup ("sell":Str)=none
  pa:ex.lookup ("part":Str)=none
  dr:ex.lookup ("drop":Str)=none
  mv:ex.lookup ("move":Str)=none
theorem Mh.nil:Mh []:=⟨rfl,rfl,rfl,rfl,rfl,rfl,rfl,rfl,rfl,rfl,rfl,rfl,rfl,rfl,rfl,rfl,rfl⟩
structure RP (r:List Int) (ex:List (Str × V)) (S:RS):Prop where
  rv:Rv.mq r
  r40:r.length≤40
  nn:S.ns.length=S.ls.length
  l60:S.ls.length≤60
  dl:S.ds.length≤9000
  e9:ex.length≤100
  ex:Mh ex
def After (K:PySem.W.Frag) (T:eF) (C:Addr) (c:Ec) (A:Rs) (ex:List (Str × V)) (r:List Int) (H0 H:Hp) (B:List (Addr × HO)) (S:RS) (d:jL) (v:V) (Q:VK) (E:XK):Prop :=
  (∀ S',step r S d=.ok S'→∀ Hb H',aR T H0 Hb→RA K T C A ex r Hb H' B S'→Q v H')∧(∀ k,step r S d=.error k→∀ (e:Addr) (H':Hp),aR T H H'→H' e=none→E (.ref (c.at_ k)) (some e) H')
def lQ (K:PySem.W.Frag) (C:Addr) (y:Str):Sp:=fun vs H Q _=>∃ (p dx l:Addr) (fs:List (Str × V)) (us:List V),vs=[.ref p]∧H p=some (.ins C dx fs)∧fs.lookup y=some (.ref l)∧SqL K H l us∧∀ l',H l'=none→Q (.ref l') (upd H l' (.lst us))
abbrev eN:Stmt:=inClass (top 32) 2
theorem sy:aW ["self"] ["self"] (ak eN):=⟨rfl,rfl,rfl,by decide +kernel,rfl,by decide +kernel,by decide +kernel⟩
section
variable {P:Program} {w:World} {K:PySem.W.Frag} {mg:Str→Option Value} {base:Heap} {C:Addr}
theorem Ax {f:Addr} {fd:FuncData} (D:Dm K C "roll" "Roll.roll" eN ["self"] f fd) (B:Blt mg) (R:RC K C):bQ P w K mg base CX0 1 f fd ["self"] (lQ K C "licences"):=by
  refine D.F.ok sy (fun vs H Q E h=>?_) (fun cdv A outer s H vs Q E hr h=>?_)
  · obtain ⟨_,_,_,_,_,rfl,_⟩:=h;rfl
  · obtain ⟨p,dx,l,fs,us,rfl,hp,hf,hl,q⟩:=h
    refine ⟨_,(aA (bf (cJ dD rfl B.list PyProof.Rows.boot_list (aj (cC (pv 0) rfl) ao)))),?_⟩
    exact ⟨_,rfl,p,C,dx,fs,.ref l,rfl,hp,R.c,R.nL,hf,l,us,rfl,.inl hl,q⟩
end
abbrev dw:Stmt:=inClass (top 32) 3
theorem oG:aW ["self"] ["self"] (ak dw):=⟨rfl,rfl,rfl,by decide +kernel,rfl,by decide +kernel,by decide +kernel⟩
section
variable {P:Program} {w:World} {K:PySem.W.Frag} {mg:Str→Option Value} {base:Heap} {C:Addr}
theorem uJ {f:Addr} {fd:FuncData} (D:Dm K C "holders" "Roll.holders" dw ["self"] f fd) (B:Blt mg) (R:RC K C):bQ P w K mg base CX0 1 f fd ["self"] (lQ K C "names"):=by
  refine D.F.ok oG (fun vs H Q E h=>?_) (fun cdv A outer s H vs Q E hr h=>?_)
  · obtain ⟨_,_,_,_,_,rfl,_⟩:=h;rfl
  · obtain ⟨p,dx,l,fs,us,rfl,hp,hf,hl,q⟩:=h
    refine ⟨_,(aA (bf (cJ dD rfl B.list PyProof.Rows.boot_list (aj (cC (pv 0) rfl) ao)))),?_⟩
    exact ⟨_,rfl,p,C,dx,fs,.ref l,rfl,hp,R.c,R.nN,hf,l,us,rfl,.inl hl,q⟩
end
abbrev eE:Stmt:=inClass (top 32) 4
theorem qL:aW ["self"] ["self"] (ak eE):=⟨rfl,rfl,rfl,by decide +kernel,rfl,by decide +kernel,by decide +kernel⟩
section
variable {P:Program} {w:World} {K:PySem.W.Frag} {mg:Str→Option Value} {base:Heap} {C:Addr}
theorem yS {f:Addr} {fd:FuncData} (D:Dm K C "deeds" "Roll.deeds" eE ["self"] f fd) (B:Blt mg) (R:RC K C):bQ P w K mg base CX0 1 f fd ["self"] (lQ K C "done"):=by
  refine D.F.ok qL (fun vs H Q E h=>?_) (fun cdv A outer s H vs Q E hr h=>?_)
  · obtain ⟨_,_,_,_,_,rfl,_⟩:=h;rfl
  · obtain ⟨p,dx,l,fs,us,rfl,hp,hf,hl,q⟩:=h
    refine ⟨_,(aA (bf (cJ dD rfl B.list PyProof.Rows.boot_list (aj (cC (pv 0) rfl) ao)))),?_⟩
    exact ⟨_,rfl,p,C,dx,fs,.ref l,rfl,hp,R.c,R.nO,hf,l,us,rfl,.inl hl,q⟩
end
abbrev d9:Stmt:=inClass (top 32) 1
theorem qJ:aW ["self"] ["self"] (ak d9):=⟨rfl,rfl,rfl,by decide +kernel,rfl,by decide +kernel,by decide +kernel⟩
def vG (C:Addr):Sp:=fun vs H Q _=>∃ (A:Rs) (ex:List (Str × V)) (day:Int),vs=[.ref A.p]∧H A.p=some (Cr C A ex day)∧Q (.int day) H
section
variable {P:Program} {w:World} {K:PySem.W.Frag} {mg:Str→Option Value} {base:Heap} {C:Addr}
theorem yP {f:Addr} {fd:FuncData} (D:Dm K C "today" "Roll.today" d9 ["self"] f fd) (R:RC K C):bQ P w K mg base CX0 1 f fd ["self"] (vG C):=by
  refine D.F.ok qJ (fun vs H Q E h=>?_) (fun cdv A outer s H vs Q E hr h=>?_)
  · obtain ⟨_,_,_,rfl,_⟩:=h;rfl
  · obtain ⟨A,ex,day,rfl,hp,q⟩:=h
    refine ⟨_,(aA (bf (cC (pv 0) rfl))),?_⟩
    exact ⟨_,rfl,A.p,C,A.dx,_,.int day,rfl,hp,R.c,R.nD,rfl,q⟩
end
abbrev fL:Stmt:=inClass (top 32) 5
theorem rZ:aW ["self"] ["self"] (ak fL):=⟨rfl,rfl,rfl,by decide +kernel,rfl,by decide +kernel,by decide +kernel⟩
def xV (K:PySem.W.Frag) (T:eF) (C:Addr) (c:Ec):Sp:=fun vs H Q E=>∃ (A:Rs) (ex:List (Str × V)) (H0:Hp) (B:List (Addr × HO)) (r:List Int) (S:RS),vs=[.ref A.p]∧RA K T C A ex r H0 H B S∧RP r ex S∧After K T C c A ex r H0 H B S .turn .non Q E
section
variable {P:Program} {w:World} {K:PySem.W.Frag} {mg:Str→Option Value} {base:Heap} {T:eF} {C:Addr} {c:Ec}
theorem Ar {f:Addr} {fd:FuncData} (D:Dm K C "turn" "Roll.turn" fL ["self"] f fd) (R:RC K C):bQ P w K mg base CX0 1 f fd ["self"] (xV K T C c):=by
  refine D.F.ok rZ (fun vs H Q E h=>?_) (fun cdv A outer s H vs Q E hr h=>?_)
  · obtain ⟨_,_,_,_,_,_,rfl,_⟩:=h;rfl
  · obtain ⟨A,ex,H0,L,r,S,rfl,⟨us,vs,O,d0,d1⟩,hp,q,-⟩:=h
    have hvl:vs.length=S.ds.length:=by rw [d1.length,List.length_map]
    have hdl:=hp.dl
    have hel:=hp.e9
    refine ⟨_,(au (yD (pv 0) aq Nv)
      (aA (bG (j8 PySem.F.plainAttrs_list PySem.F.slot_list_append PySem.F.type_list_append bV (cC (pv 0) rfl) (aj (bA (aj aF ao)) ao))))),?_⟩
    simp only [List.cons_append,List.nil_append] at O
    refine ⟨_,rfl,A.p,C,A.dx,_,_,rfl,O.get 0,R.c,R.nD,rfl,_,_,rfl,rfl,A.dx,_,O.get 0,(by simp only [List.length_cons];omega),?_⟩
    rw [Mz]
    walk_at "pt"
    refine ⟨_,rfl,A.p,C,A.dx,_,.ref A.lo,rfl,O.get 0,R.c,R.nO,rfl,.inl ⟨rfl,_,O.sq 5⟩,szl,fun t ht=>?_⟩
    walk_at "nw"
    refine ⟨A.lo,_,_,rfl,rfl,O.get 6,aX (by omega),?_⟩
    walk_at "pt"
    obtain ⟨Hb,O,sb,e1⟩:=O.frz
    refine q _ rfl Hb _ sb ⟨us,vs++[V.ref t],O,d0.mo sb,?_⟩
    rw [List.map_append]
    exact (d1.mo sb).append (.cons (.tuple (SqT.of e1) (.cons (.str _) .nil)) .nil)
end
abbrev dO:Stmt:=inClass (top 32) 13
theorem qK:aW ["self","one","holder"] ["self","one","holder"] (ak dO):=⟨rfl,rfl,rfl,by decide +kernel,rfl,by decide +kernel,by decide +kernel⟩
def qC (C:Addr):Sp:=fun vs H Q _=>∃ (A:Rs) (ex:List (Str × V)) (day:Int) (us:List V) (ns:List V) (v x:V),vs=[.ref A.p,v,x]∧H A.p=some (Cr C A ex day)∧H A.ll=some (.lst us)∧H A.ln=some (.lst ns)∧us.length≤900∧ns.length≤900∧A.p≠A.ll∧A.p≠A.ln∧A.ln≠A.ll ∧
  Q (.int us.length) (upd (upd H A.ll (.lst (us++[v]))) A.ln (.lst (ns++[x])))
section
variable {P:Program} {w:World} {K:PySem.W.Frag} {mg:Str→Option Value} {base:Heap} {T:eF} {C:Addr}
theorem yR {f:Addr} {fd:FuncData} (D:Dm K C "enter" "Roll.enter" dO ["self","one","holder"] f fd) (B:Blt mg) (R:RC K C):bQ P w K mg base CX0 1 f fd ["self","one","holder"] (qC C):=by
  refine D.F.ok qK (fun vs H Q E h=>?_) (fun cdv A outer s H vs Q E hr h=>?_)
  · obtain ⟨_,_,_,_,_,_,_,rfl,_⟩:=h;rfl
  · obtain ⟨A,ex,day,us,ns,v,x,rfl,hp,hl,hn,ul,nl,n1,n2,n3,q⟩:=h
    refine ⟨_,(au (bG (j8 PySem.F.plainAttrs_list PySem.F.slot_list_append PySem.F.type_list_append bV (cC (pv 0) rfl) (aj (pv 1) ao)))
      (au (bG (j8 PySem.F.plainAttrs_list PySem.F.slot_list_append PySem.F.type_list_append bV (cC (pv 0) rfl) (aj (pv 2) ao)))
      (aA (bf (aY oK (aP aM rfl B.len PySem.boot_len (aj (cC (pv 0) rfl) ao)) aq))))),?_⟩
    refine ⟨_,rfl,A.p,C,A.dx,_,.ref A.ll,rfl,hp,R.c,R.nL,rfl,.inl ⟨rfl,_,SqL.of hl⟩,_,rfl,A.ll,_,_,rfl,rfl,hl,aX (by omega),?_⟩
    have hp:=(bB (H:=H) (o:=.lst (us++[v])) n1).trans hp
    have hn:=(bB (H:=H) (o:=.lst (us++[v])) n3).trans hn
    have hl:upd H A.ll (.lst (us++[v])) A.ll=some (.lst (us++[v])):=cQ
    refine ⟨_,rfl,A.p,C,A.dx,_,.ref A.ln,rfl,hp,R.c,R.nN,rfl,.inl ⟨rfl,_,SqL.of hn⟩,_,rfl,A.ln,_,_,rfl,rfl,hn,aX (by omega),?_⟩
    have hp:=(bB (o:=.lst (ns++[x])) n2).trans hp
    have hl:=(bB (o:=.lst (ns++[x])) n3.symm).trans hl
    refine ⟨_,rfl,A.p,C,A.dx,_,.ref A.ll,rfl,hp,R.c,R.nL,rfl,A.ll,_,rfl,.inl (SqL.of hl),_,_,rfl,rfl,?_⟩
    dsimp only
    rw [show (((us++[v]).length:Nat):Int) - 1=(us.length:Int) by rw [List.length_append];simp]
    exact q
end
abbrev bF:Stmt:=inClass (top 32) 17
theorem lG:aW ["self"] ["self"] (ak bF):=⟨rfl,rfl,rfl,by decide +kernel,rfl,by decide +kernel,by decide +kernel⟩
def uw (K:PySem.W.Frag) (T:eF) (C cF:Addr):Sp:=fun vs H Q E=>∃ (A:Rs) (ex:List (Str × V)) (day:Int) (us:List V),vs=[.ref A.p]∧H A.p=some (Cr C A ex day)∧SqL K H A.ll us∧TabsOk T H∧(us.length<60→Q .non H)∧(60≤us.length→∀ (e:Addr) (H':Hp),aR T H H'→H' e=none→E (.ref cF) (some e) H')
section
variable {P:Program} {w:World} {K:PySem.W.Frag} {mg:Str→Option Value} {base:Heap} {T:eF} {C:Addr}
theorem Aw {f cF:Addr} {fd:FuncData} (D:Dm K C "look_at_room" "Roll.look_at_room" bF ["self"] f fd) (B:Blt mg) (R:RC K C) (X_Full:lO K mg "Full" cF) (CL:∃ t,mg "MOST_LICENCES"=some (.int 60 t)):bQ P w K mg base (CXE P w) 1 f fd ["self"] (uw K T C cF):=by
  obtain ⟨tL,hMOST_LICENCES⟩:=CL
  refine D.F.okX lG (fun vs H Q E h=>?_) (fun cdv A outer s H vs Q E hr h=>?_)
  · obtain ⟨_,_,_,_,rfl,_⟩:=h;rfl
  · obtain ⟨A,ex,day,us,rfl,hp,hl,tk,q,qx⟩:=h
    refine ⟨_,(aA (bT (aK Ue (aP aM rfl B.len PySem.boot_len (aj (cC (pv 0) rfl) ao)) (iV (v:=.int (60)) rfl hMOST_LICENCES ⟨_,rfl⟩) (aN _))
        (aA (fZ gZ rfl (fun _ _ z=>z) rfl X_Full.m X_Full.q (aj aF ao)))
        aV)),?_⟩
    refine ⟨_,rfl,A.p,C,A.dx,_,.ref A.ll,rfl,hp,R.c,R.nL,rfl,A.ll,_,rfl,.inl hl,_,_,rfl,rfl,_,rfl,ifD (fun h=>?_) (fun h=>?_)⟩
    · have h:(60:Int)≤(us.length:Int):=h
      exact ⟨szl,fun e he=>qx (by omega) e H (aR.refl tk) he⟩
    · have h:¬ (60:Int)≤(us.length:Int):=h
      exact q (by omega)
end
abbrev bC:Stmt:=inClass (top 32) 15
theorem kj:aW ["self","number"] ["self","number"] (ak bC):=⟨rfl,rfl,rfl,by decide +kernel,rfl,by decide +kernel,by decide +kernel⟩
def pR (K:PySem.W.Frag) (T:eF) (C cN:Addr):Sp:=fun vs H Q E=>∃ (A:Rs) (ex:List (Str × V)) (day:Int) (us:List V) (n:Int),vs=[.ref A.p,.int n]∧H A.p=some (Cr C A ex day)∧SqL K H A.ll us∧TabsOk T H∧(0≤n→n<us.length→Q .non H)∧(¬ (0≤n∧n<us.length)→∀ (e:Addr) (H':Hp),aR T H H'→H' e=none→E (.ref cN) (some e) H')
section
variable {P:Program} {w:World} {K:PySem.W.Frag} {mg:Str→Option Value} {base:Heap} {T:eF} {C:Addr}
theorem uH {f cN:Addr} {fd:FuncData} (D:Dm K C "look_at_number" "Roll.look_at_number" bC ["self","number"] f fd) (B:Blt mg) (R:RC K C) (X_NoNumber:lO K mg "NoNumber" cN):bQ P w K mg base (CXE P w) 1 f fd ["self","number"] (pR K T C cN):=by
  refine D.F.okX kj (fun vs H Q E h=>?_) (fun cdv A outer s H vs Q E hr h=>?_)
  · obtain ⟨_,_,_,_,_,rfl,_⟩:=h;rfl
  · obtain ⟨A,ex,day,us,n,rfl,hp,hl,tk,q,qx⟩:=h
    refine ⟨_,(aA (bT (jP (mG nG qQ aq (pv 1) (aP aM rfl B.len PySem.boot_len (aj (cC (pv 0) rfl) ao))))
        (aA (fZ gZ rfl (fun _ _ z=>z) rfl X_NoNumber.m X_NoNumber.q (aj aF ao)))
        aV)),?_⟩
    refine ⟨_,rfl,_,_,rfl,rfl,_,rfl,ifD (fun h1=>?_) (fun h1=>?_)⟩
    rotate_left
    · refine ⟨_,rfl,lM ⟨szl,fun e he=>qx (fun z=>h1 z.1) e H (aR.refl tk) he⟩⟩
    refine ⟨_,rfl,A.p,C,A.dx,_,.ref A.ll,rfl,hp,R.c,R.nL,rfl,A.ll,_,rfl,.inl hl,_,_,rfl,rfl,_,rfl,ifN (ifD (fun h2=>?_) (fun h2=>?_))⟩
    · exact q h1 h2
    · exact ⟨szl,fun e he=>qx (fun z=>h2 z.2) e H (aR.refl tk) he⟩
end
abbrev aU:Stmt:=inClass (top 32) 16
theorem kE:aW ["self","number","holder"] ["self","number","holder"] (ak aU):=⟨rfl,rfl,rfl,by decide +kernel,rfl,by decide +kernel,by decide +kernel⟩
def jO (K:PySem.W.Frag) (T:eF) (C cN cY:Addr):Sp:=fun vs H Q E=>∃ (A:Rs) (ex:List (Str × V)) (day:Int) (us:List V) (ns:List Str) (n:Int) (y:Str),vs=[.ref A.p,.int n,.str y]∧H A.p=some (Cr C A ex day)∧SqL K H A.ll us∧SqL K H A.ln (ns.map V.str)∧us.length=ns.length∧Mh ex∧TabsOk T H ∧
  (0≤n→n<ns.length→ns[n.toNat]?=some y→Q .non H)∧(¬ (0≤n∧n<ns.length)→∀ (e:Addr) (H':Hp),aR T H H'→H' e=none→E (.ref cN) (some e) H') ∧
  (0≤n→n<ns.length→ns[n.toNat]?≠some y→∀ (e:Addr) (H':Hp),aR T H H'→H' e=none→E (.ref cY) (some e) H')
section
variable {P:Program} {w:World} {K:PySem.W.Frag} {mg:Str→Option Value} {base:Heap} {T:eF} {C:Addr}
theorem uI {f f1 cN cY:Addr} {fd fd1:FuncData} (D:Dm K C "look_at_holder" "Roll.look_at_holder" aU ["self","number","holder"] f fd) (B:Blt mg) (R_Roll:RC K C) (X_NotYours:lO K mg "NotYours" cY)
    (cP:Dm K C "look_at_number" "Roll.look_at_number" bC ["self","number"] f1 fd1) (lA:bQ P w K mg base (CXE P w) 1 f1 fd1 ["self","number"] (pR K T C cN)) :
    bQ P w K mg base (CXE P w) 2 f fd ["self","number","holder"] (jO K T C cN cY):=by
  have R:=R_Roll
  refine D.F.okX kE (fun vs H Q E h=>?_) (fun cdv A outer s H vs Q E hr h=>?_)
  · obtain ⟨_,_,_,_,_,_,_,rfl,_⟩:=h;rfl
  · obtain ⟨A,ex,day,us,ns,n,y,rfl,hp,hl,hn,hul,hex,tk,q,qN,qY⟩:=h
    refine ⟨_,(au (bG (gB (pv 0) R_Roll.c cP.m lA (hr.mono (by decide)) cP.b .nil kI (aj (pv 1) ao)))
      (aA (bT (aK sW (aH aJ (cC (pv 0) rfl) (pv 1) (fun _ _=>rfl)) (pv 2) (aN _))
        (aA (fZ gZ rfl (fun _ _ z=>z) rfl X_NotYours.m X_NotYours.q (aj aF ao)))
        aV))),?_⟩
    refine ⟨_,rfl,A.p,A.dx,_,rfl,hp,hex.num,_,rfl,A,ex,day,us,n,rfl,hp,hl,tk,fun h0 h1=>?_,fun h=>qN (fun z=>h (by omega))⟩
    obtain ⟨k,rfl⟩:=Int.eq_ofNat_of_zero_le h0
    obtain ⟨x,hx⟩:∃ x,ns[k]?=some x:=⟨_,List.getElem?_eq_getElem (by omega)⟩
    refine ⟨_,rfl,A.p,C,A.dx,_,.ref A.ln,rfl,hp,R.c,R.nN,rfl,_,rfl,A.ln,_,_,_,rfl,rfl,hn,dW (show (ns.map V.str)[k]?=some (.str x) by rw [List.getElem?_map,hx];rfl),_,rfl,rfl,_,rfl,ifN (ifD (fun h=>?_) (fun h=>?_))⟩
    · exact q h0 (by omega) (by rw [Int.toNat_natCast,hx,V.str.inj h])
    · refine ⟨szl,fun e he=>?_⟩
      exact qY h0 (by omega) (fun z=>h (by rw [Int.toNat_natCast,hx] at z;rw [Option.some.inj z])) e H (aR.refl tk) he
end
abbrev fG:Stmt:=top 25
theorem rY:aW ["one"] ["one"] (ak fG):=⟨rfl,rfl,rfl,by decide +kernel,rfl,by decide +kernel,by decide +kernel⟩
def Cg (K:PySem.W.Frag):Sp:=fun vs H Q _=>∃ (a:Addr) (l:Lic),vs=[.ref a]∧SqT K H a (m5 l)∧Q (.int l.day) H
theorem Ng {f:Addr} {fd:FuncData} (D:Df K mg "day_filed" fG ["one"] f fd):bQ P w K mg base CX0 1 f fd ["one"] (Cg K):=by
  refine D.F.ok rY (fun vs H Q E h=>?_) (fun cdv A outer s H vs Q E hr h=>?_)
  · obtain ⟨_,_,rfl,_⟩:=h;rfl
  · obtain ⟨a,l,rfl,hT,q⟩:=h
    exact ⟨_,(aA (bf (aH aQ (pv 0) aq (fun _ _=>rfl)))),_,rfl,a,_,0,_,rfl,rfl,hT,rfl,q⟩
abbrev fD:Stmt:=top 26
theorem wI:aW ["one"] ["one"] (ak fD):=⟨rfl,rfl,rfl,by decide +kernel,rfl,by decide +kernel,by decide +kernel⟩
def oh (K:PySem.W.Frag):Sp:=fun vs H Q _=>∃ (a:Addr) (l:Lic),vs=[.ref a]∧SqT K H a (m5 l)∧Q (.int l.most) H
theorem K6 {f:Addr} {fd:FuncData} (D:Df K mg "most_of" fD ["one"] f fd):bQ P w K mg base CX0 1 f fd ["one"] (oh K):=by
  refine D.F.ok wI (fun vs H Q E h=>?_) (fun cdv A outer s H vs Q E hr h=>?_)
  · obtain ⟨_,_,rfl,_⟩:=h;rfl
  · obtain ⟨a,l,rfl,hT,q⟩:=h
    exact ⟨_,(aA (bf (aH aQ (pv 0) aq (fun _ _=>rfl)))),_,rfl,a,_,3,_,rfl,rfl,hT,rfl,q⟩
abbrev dG:Stmt:=top 28
theorem rT:aW ["one","most"] ["one","most"] (ak dG):=⟨rfl,rfl,rfl,by decide +kernel,rfl,by decide +kernel,by decide +kernel⟩
def xU (K:PySem.W.Frag):Sp:=fun vs H Q _=>∃ (a:Addr) (l:Lic) (m:Int),vs=[.ref a,.int m]∧SqT K H a (m5 l)∧∀ t,H t=none→Q (.ref t) (upd H t (.tup (m5 (wm l m))))
theorem Ug {f:Addr} {fd:FuncData} (D:Df K mg "with_most" dG ["one","most"] f fd):bQ P w K mg base CX0 1 f fd ["one","most"] (xU K):=by
  refine D.F.ok rT (fun vs H Q E h=>?_) (fun cdv A outer s H vs Q E hr h=>?_)
  · obtain ⟨_,_,_,rfl,_⟩:=h;rfl
  · obtain ⟨a,l,m,rfl,hT,q⟩:=h
    refine ⟨_,(aA (bf (bA (aj (aH aQ (pv 0) aq (fun _ _=>rfl)) (aj (aH aQ (pv 0) aq (fun _ _=>rfl)) (aj (aH aQ (pv 0) aq (fun _ _=>rfl)) (aj (pv 1) ao))))))),?_⟩
    exact ⟨_,rfl,a,_,0,_,rfl,rfl,hT,rfl,_,rfl,a,_,1,_,rfl,rfl,hT,rfl,_,rfl,a,_,2,_,rfl,rfl,hT,rfl,_,rfl,szl,q⟩
abbrev d8:Stmt:=top 27
theorem qG:aW ["one","start"] ["one","start"] (ak d8):=⟨rfl,rfl,rfl,by decide +kernel,rfl,by decide +kernel,by decide +kernel⟩
def BZ (K:PySem.W.Frag):Sp:=fun vs H Q _=>∃ (a:Addr) (l:Lic) (m:Int),vs=[.ref a,.int m]∧SqT K H a (m5 l)∧∀ t,H t=none→Q (.ref t) (upd H t (.tup (m5 (wst l m))))
theorem M5 {f:Addr} {fd:FuncData} (D:Df K mg "with_start" d8 ["one","start"] f fd):bQ P w K mg base CX0 1 f fd ["one","start"] (BZ K):=by
  refine D.F.ok qG (fun vs H Q E h=>?_) (fun cdv A outer s H vs Q E hr h=>?_)
  · obtain ⟨_,_,_,rfl,_⟩:=h;rfl
  · obtain ⟨a,l,m,rfl,hT,q⟩:=h
    refine ⟨_,(aA (bf (bA (aj (aH aQ (pv 0) aq (fun _ _=>rfl)) (aj (pv 1) (aj (aH aQ (pv 0) aq (fun _ _=>rfl)) (aj (aH aQ (pv 0) aq (fun _ _=>rfl)) ao))))))),?_⟩
    exact ⟨_,rfl,a,_,0,_,rfl,rfl,hT,rfl,_,rfl,_,rfl,a,_,2,_,rfl,rfl,hT,rfl,_,rfl,a,_,3,_,rfl,rfl,hT,rfl,szl,q⟩
theorem pP (ls:List Lic) (d:Int):∀ i,(dZ ls d i).length≤i
  | 0=>Nat.le_refl _
  | i + 1=>by
    have:=pP ls d i
    unfold dZ
    rw [List.length_append]
    split
    · split <;> simp <;> omega
    · simp;omega
abbrev bZ:Stmt:=inClass (top 32) 14
theorem iU:aW ["self","number","day","taking"] ["self","number"] (ak bZ):=⟨rfl,rfl,rfl,by decide +kernel,rfl,by decide +kernel,by decide +kernel⟩
def vK (K:PySem.W.Frag) (T:eF) (C:Addr):Sp:=fun vs H Q _=>∃ (A:Rs) (ex:List (Str × V)) (day:Int) (us:List V) (ls:List Lic) (n:Nat) (l:Lic),vs=[.ref A.p,.int (n:Int)]∧H A.p=some (Cr C A ex day)∧SqL K H A.ll us∧cR K H us (ls.map pK)∧ls[n]?=some l∧ls.length≤64∧TabsOk T H ∧
  ∀ H',aR T H H'→Q (.bl (decide (dZ ls l.day ls.length=[(n:Int)]))) H'
section
variable {P:Program} {w:World} {K:PySem.W.Frag} {mg:Str→Option Value} {base:Heap} {T:eF} {C:Addr}
theorem yU {f f1 f2:Addr} {fd fd1 fd2:FuncData} (D:Dm K C "is_alone" "Roll.is_alone" bZ ["self","number"] f fd) (B:Blt mg) (R:RC K C)
    (eU:Df K mg "day_filed" fG ["one"] f1 fd1) (pF:bQ P w K mg base CX0 1 f1 fd1 ["one"] (Cg K))
    (bL:Df K mg "most_of" fD ["one"] f2 fd2) (iK:bQ P w K mg base CX0 1 f2 fd2 ["one"] (oh K)):bQ P w K mg base CX0 2 f fd ["self","number"] (vK K T C):=by
  refine D.F.ok iU (fun vs H Q E h=>?_) (fun cdv A outer s H vs Q E hr h=>?_)
  · obtain ⟨_,_,_,_,_,_,_,rfl,_⟩:=h;rfl
  · obtain ⟨A,ex,day,us,ls,n,l,rfl,hp,hl,d0,hn,l64,tk,q⟩:=h
    have hu:=hr.units
    have O:=Ow.refl tk
    have hul:us.length=ls.length:=by rw [d0.length,List.length_map]
    obtain ⟨al,hal,hT⟩:=d0.jG hn
    refine ⟨_,(au (bw (i:=2) iU.nd rfl (Or.inr rfl) (aO pF (hr.mono (by decide)) rfl eU.m eU.F.kp eU.b .nil bU (aj (aH aJ (cC (pv 0) rfl) (pv 1) (fun _ _=>rfl)) ao)))
      (au (jQ (i:=3) (ak bZ) rfl ["self","number","day","taking"] rfl ["other","one","day"] [none,none,some 2] (by decide +kernel) (by decide +kernel) (by decide +kernel) rfl iU.nd rfl rfl (lW rfl B.enumerate (aj (cC (pv 0) rfl) ao)) (fun _ _ _=>(qO (K:=K) (n:=2) rfl rfl (bW (bI (i:=0) (show (["other","one","day"]:List Str).Nodup by decide +kernel) rfl (Or.inl rfl)) (bW (bI (i:=1) (show (["other","one","day"]:List Str).Nodup by decide +kernel) rfl (Or.inl rfl)) jj)))) (fun _ _ _=>(uE (PW.pt (pw_and (aK dY (aO pF (hr.mono (by decide)) rfl eU.m eU.F.kp eU.b .nil bU (aj (pv 1) ao)) (pv 2) (aN _)) (pw_and1 (aK Ai (aO iK (hr.mono (by decide)) rfl bL.m bL.F.kp bL.b .nil bU (aj (pv 1) ao)) aq (aN _))))))) (fun _ _ _=>(pv 0)) rfl)
      (aA (bf (j7 (Cm hu) (pv 3) (bK (aj (pv 1) ao)) (aN _)))))),?_⟩
    refine ⟨_,rfl,A.p,C,A.dx,_,.ref A.ll,rfl,hp,R.c,R.nL,rfl,_,rfl,A.ll,_,_,_,rfl,rfl,hl,dW hal,al,l,rfl,hT,?_⟩
    refine ⟨_,rfl,A.p,C,A.dx,_,.ref A.ll,rfl,hp,R.c,R.nL,rfl,A.ll,_,rfl,hl,fun lw hlw=>?_⟩
    refine mJ (K:=K) (xs:=us) (fun i τ H'=>Iv (∃ (v0 v1:Option V),τ=[v0,v1,some (.int l.day)]∧Ow T H H' [(lw,.lst ((dZ ls l.day i).map V.int))]))
      ⟨trivial,none,none,rfl,O.mk' hlw rfl⟩ (fun i τ H' _ ⟨_,_,_,_,O⟩=>hl.mo O.same) ?_ ?_
    · rintro i y T0 τ H5 hy ⟨-,v0,v1,rfl,O⟩ hT0
      obtain ⟨al,l2,rfl,hl2,hT2⟩:=d0.qX hy
      have hi:=(List.getElem?_eq_some_iff.mp hl2).1
      have ht:=pP ls l.day i
      walk_at "nw"
      refine ⟨T0,_,rfl,O.sqT 0,rfl,_,_,rfl,_,_,rfl,rfl,?_⟩
      have O:=O.tail
      have hT3:=hT2.mo O.same
      refine ⟨_,rfl,al,l2,rfl,hT3,_,rfl,rfl,_,rfl,ifI (fun hd=>?_) (fun hd=>?_)⟩
      · refine ⟨_,rfl,al,l2,rfl,hT3,_,_,rfl,rfl,_,rfl,ifD (fun hm=>?_) (fun hm=>?_)⟩
        · refine ⟨_,rfl,_,O.get 0,aX (by rw [List.length_map];omega),?_⟩
          walk_at "pt"
          refine ⟨trivial,_,_,rfl,?_⟩
          unfold dZ
          rw [hl2]
          simp only [if_pos (And.intro hd hm)]
          rw [List.map_append];exact O
        · refine ⟨trivial,_,_,rfl,?_⟩
          unfold dZ
          rw [hl2]
          simp only [if_neg (fun z:l2.day=l.day∧0<l2.most=>hm z.2),List.append_nil]
          exact O
      · refine ⟨trivial,_,_,rfl,?_⟩
        unfold dZ
        rw [hl2]
        simp only [if_neg (fun z:l2.day=l.day∧0<l2.most=>hd z.1),List.append_nil]
        exact O
    rintro τ H5 ⟨-,v0,v1,rfl,O⟩
    rw [hul] at O
    refine ⟨_,rfl,_,rfl,szl,fun l0 hl0=>?_⟩
    walk_at "nw"
    refine ⟨lw,l0,dZ ls l.day ls.length,[(n:Int)],rfl,rfl,O.sq 1,O.sq 0,?_⟩
    rw [if_neg Bool.false_ne_true]
    exact q _ O.same
end
theorem lK {S:RS} {n:Int} {k:Nat} {l:Lic} (e:n=(k:Int)) (h:S.ls[k]?=some l):S.at_ n=l:=by
  unfold RS.at_
  rw [e,Int.toNat_natCast,List.getD_eq_getElem?_getD,h];rfl
section
variable {K:PySem.W.Frag} {T:eF} {C:Addr} {c:Ec} {A:Rs} {ex:List (Str × V)} {r:List Int} {H0 H:Hp} {B:List (Addr × HO)} {S S':RS} {d:jL} {v:V} {Q:VK} {E:XK} {n:Int} {y:Str} {k:Except EK RS} {ek:EK}
theorem BK (h:¬ (0≤n∧n<S.ls.length)):S.nH n y k=.error .number:=if_pos h
theorem wY (h0:0≤n) (h1:n<S.ls.length) (h:S.ns[n.toNat]?≠some y):S.nH n y k=.error .yours:=by unfold RS.nH;rw [if_neg (not_not_intro ⟨h0,h1⟩),if_pos h]
theorem mj (h0:0≤n) (h1:n<S.ls.length) (h:S.ns[n.toNat]?=some y):S.nH n y k=k:=by unfold RS.nH;rw [if_neg (not_not_intro ⟨h0,h1⟩),if_neg (not_not_intro h)]
theorem After.nH {k:Except EK RS} (q:After K T C c A ex r H0 H B S d v Q E) (hk:step r S d=S.nH n y k) (hnn:S.ns.length=S.ls.length) :
    (¬ (0≤n∧n<S.ns.length)→∀ (e:Addr) (H':Hp),aR T H H'→H' e=none→E (.ref c.number) (some e) H')∧(0≤n→n<S.ns.length→S.ns[n.toNat]?≠some y→∀ (e:Addr) (H':Hp),aR T H H'→H' e=none→E (.ref c.yours) (some e) H') :=
  ⟨fun h=>q.2 .number (hk.trans (BK (by rw [← hnn];exact h))),fun h0 h1 h=>q.2 .yours (hk.trans (wY h0 (by rw [← hnn];exact h1) h))⟩
end
theorem Den.Td {K:PySem.W.Frag} {H:Hp} {a:Addr} {x y:V} {d e:PyData} (h:H a=some (.tup [x,y])) (h1:Den K H x d) (h2:Den K H y e):Den K H (.ref a) (.tuple [d,e]):=.tuple (SqT.of h) (.cons h1 (.cons h2 .nil))
abbrev fU:Stmt:=inClass (top 32) 9
theorem sE:aW ["self","number","holder"] ["self","number","holder"] (ak fU):=⟨rfl,rfl,rfl,by decide +kernel,rfl,by decide +kernel,by decide +kernel⟩
def yh (K:PySem.W.Frag) (T:eF) (C:Addr) (c:Ec):Sp:=fun vs H Q E=>∃ (A:Rs) (ex:List (Str × V)) (H0:Hp) (B:List (Addr × HO)) (r:List Int) (S:RS) (n:Int) (y:Str),vs=[.ref A.p,.int n,.str y]∧RA K T C A ex r H0 H B S∧RP r ex S∧After K T C c A ex r H0 H B S (.drop n y) .non Q E
section
variable {P:Program} {w:World} {K:PySem.W.Frag} {mg:Str→Option Value} {base:Heap} {T:eF} {C:Addr} {c:Ec}
theorem Bf {f f1 f2:Addr} {fd fd1 fd2:FuncData} (D:Dm K C "drop" "Roll.drop" fU ["self","number","holder"] f fd) (R_Roll:RC K C)
    (aG:Dm K C "look_at_holder" "Roll.look_at_holder" aU ["self","number","holder"] f1 fd1) (bM:bQ P w K mg base (CXE P w) 2 f1 fd1 ["self","number","holder"] (jO K T C c.number c.yours))
    (aZ:Df K mg "with_most" dG ["one","most"] f2 fd2) (fV:bQ P w K mg base CX0 1 f2 fd2 ["one","most"] (xU K)):bQ P w K mg base (CXE P w) 3 f fd ["self","number","holder"] (yh K T C c):=by
  have R:=R_Roll
  refine D.F.okX sE (fun vs H Q E h=>?_) (fun cdv A outer s H vs Q E hr h=>?_)
  · obtain ⟨_,_,_,_,_,_,_,_,rfl,_⟩:=h;rfl
  · obtain ⟨A,ex,H0,L,r,S,n,y,rfl,⟨us,vs,O,d0,d1⟩,hp,q⟩:=h
    have hul:us.length=S.ls.length:=by rw [d0.length,List.length_map]
    have hvl:vs.length=S.ds.length:=by rw [d1.length,List.length_map]
    have hnn:=hp.nn
    have hdl:=hp.dl
    obtain ⟨qN,qY⟩:=After.nH (n:=n) (y:=y) q rfl hnn
    refine ⟨_,(au (bG (gB (pv 0) R_Roll.c aG.m bM (hr.mono (by decide)) aG.b .nil kI (aj (pv 1) (aj (pv 2) ao))))
      (au (gY (aO fV (hr.mono (by decide)) rfl aZ.m aZ.F.kp aZ.b .nil bU (aj (aH aJ (cC (pv 0) rfl) (pv 1) (fun _ _=>rfl)) (aj aq ao))) (iW (cC (pv 0) rfl) (pv 1) set_list))
      (aA (bG (j8 PySem.F.plainAttrs_list PySem.F.slot_list_append PySem.F.type_list_append bV (cC (pv 0) rfl) (aj (bA (aj aF (aj (pv 1) (aj (pv 2) ao)))) ao)))))),?_⟩
    refine ⟨_,rfl,A.p,A.dx,_,rfl,O.get 0,(by exact hp.ex.hol),_,rfl,_,rfl,A,ex,S.day,us,S.ns,n,y,rfl,O.get 0,O.sq 3,O.sq 4,by omega,hp.ex,O.same.t1,fun h0 h1 hx=>?_,qN,qY⟩
    have hst:step r S (.drop n y)=.ok ⟨S.day,S.ls.set n.toNat (wm (S.at_ n) 0),S.ns,S.ds++[.drop n y]⟩:=mj h0 (by omega) hx
    obtain ⟨k,rfl⟩:=Int.eq_ofNat_of_zero_le h0
    obtain ⟨l,hl⟩:∃ l,S.ls[k]?=some l:=⟨_,List.getElem?_eq_getElem (by omega)⟩
    obtain ⟨al,hal,hT⟩:=d0.jG hl
    rw [lK rfl hl,Int.toNat_natCast] at hst
    refine ⟨_,rfl,A.p,C,A.dx,_,.ref A.ll,rfl,O.get 0,R.c,R.nL,rfl,_,rfl,A.ll,_,_,_,rfl,rfl,O.sq 3,dW hal,al,l,0,rfl,hT.mo O.same,fun t1 ht1=>?_⟩
    walk_at "nw"
    refine ⟨_,rfl,A.p,C,A.dx,_,.ref A.ll,rfl,O.get 1,R.c,R.nL,rfl,_,rfl,?_⟩
    refine jk O 4 rfl (gC (by omega)) fun H6 O=>?_
    refine ⟨_,rfl,A.p,C,A.dx,_,.ref A.lo,rfl,O.get 1,R.c,R.nO,rfl,.inl ⟨rfl,_,O.sq 6⟩,_,rfl,_,rfl,szl,fun t2 ht2=>?_⟩
    walk_at "nw"
    refine ⟨A.lo,_,_,rfl,rfl,O.get 7,aX (by omega),?_⟩
    generalize hE:upd _ _ _=Hn
    have O:=Ow.nU O 7 rfl hE rfl
    have O:Ow T H0 Hn ((t2,.tup [.str "drop",.int (k:Int),.str y]) :: (t1,.tup (m5 (wm l 0))) :: (RX C A ex r S.day (us.set k (.ref t1)) S.ns (vs++[V.ref t2])++L)):=O
    obtain ⟨Hb,O,sb,e2⟩:=O.frz
    obtain ⟨Hc,O,sc,e1⟩:=O.frz
    have e2:=sc.keep _ _ e2 (fun _ z=>nomatch z)
    refine q.1 _ hst Hc _ (sb.trans sc) ⟨us.set k (.ref t1),vs++[V.ref t2],O,?_,?_⟩
    · rw [List.map_set]
      exact ((d0.mo sb).mo sc).set (Den.lic (l:=wm l 0) (SqT.of e1)) k
    · rw [List.map_append]
      exact ((d1.mo sb).mo sc).append (.cons (.tuple (SqT.of e2) (.cons (.str _) (.cons (.int _) (.cons (.str _) .nil)))) .nil)
end
abbrev fM:Stmt:=inClass (top 32) 7
theorem su:aW ["self","number","holder","to"] ["self","number","holder","to"] (ak fM):=⟨rfl,rfl,rfl,by decide +kernel,rfl,by decide +kernel,by decide +kernel⟩
def xX (K:PySem.W.Frag) (T:eF) (C:Addr) (c:Ec):Sp:=fun vs H Q E=>∃ (A:Rs) (ex:List (Str × V)) (H0:Hp) (B:List (Addr × HO)) (r:List Int) (S:RS) (n:Int) (y z:Str),vs=[.ref A.p,.int n,.str y,.str z]∧RA K T C A ex r H0 H B S∧RP r ex S∧Asc z∧After K T C c A ex r H0 H B S (.sell n y z) .non Q E
section
variable {P:Program} {w:World} {K:PySem.W.Frag} {mg:Str→Option Value} {base:Heap} {T:eF} {C:Addr} {c:Ec}
theorem Av {f f1 f2:Addr} {fd fd1 fd2:FuncData} (D:Dm K C "sell" "Roll.sell" fM ["self","number","holder","to"] f fd) (R_Roll:RC K C)
    (aG:Dm K C "look_at_holder" "Roll.look_at_holder" aU ["self","number","holder"] f1 fd1) (bM:bQ P w K mg base (CXE P w) 2 f1 fd1 ["self","number","holder"] (jO K T C c.number c.yours))
    (bx:Df K mg "look_at_name" bY ["name"] f2 fd2) (gn:bQ P w K mg base (CXE P w) 2 f2 fd2 ["name"] (j4 T c.holder)):bQ P w K mg base (CXE P w) 3 f fd ["self","number","holder","to"] (xX K T C c):=by
  have R:=R_Roll
  refine D.F.okX su (fun vs H Q E h=>?_) (fun cdv A outer s H vs Q E hr h=>?_)
  · obtain ⟨_,_,_,_,_,_,_,_,_,rfl,_⟩:=h;rfl
  · obtain ⟨A,ex,H0,L,r,S,n,y,z,rfl,⟨us,vs,O,d0,d1⟩,hp,az,q⟩:=h
    have hul:us.length=S.ls.length:=by rw [d0.length,List.length_map]
    have hvl:vs.length=S.ds.length:=by rw [d1.length,List.length_map]
    have hnn:=hp.nn
    have hdl:=hp.dl
    obtain ⟨qN,qY⟩:=After.nH (n:=n) (y:=y) q rfl hnn
    refine ⟨_,(au (bG (gB (pv 0) R_Roll.c aG.m bM (hr.mono (by decide)) aG.b .nil kI (aj (pv 1) (aj (pv 2) ao))))
      (au (bG (aO gn (hr.mono (by decide)) rfl bx.m bx.F.kp bx.b .nil kI (aj (pv 3) ao)))
      (au (gY (pv 3) (iW (cC (pv 0) rfl) (pv 1) set_list))
      (aA (bG (j8 PySem.F.plainAttrs_list PySem.F.slot_list_append PySem.F.type_list_append bV (cC (pv 0) rfl) (aj (bA (aj aF (aj (pv 1) (aj (pv 2) (aj (pv 3) ao))))) ao))))))),?_⟩
    refine ⟨_,rfl,A.p,A.dx,_,rfl,O.get 0,(by exact hp.ex.hol),_,rfl,_,rfl,A,ex,S.day,us,S.ns,n,y,rfl,O.get 0,O.sq 3,O.sq 4,by omega,hp.ex,O.same.t1,fun h0 h1 hx=>?_,qN,qY⟩
    have hst:step r S (.sell n y z)=_:=mj h0 (by omega) hx
    refine ⟨_,rfl,z,rfl,az,O.same.t1,fun nz H2 s2=>?_,fun nz e H' s' he=>q.2 .holder (hst.trans (if_pos nz)) e H' s' he⟩
    have hst:=hst.trans (if_neg (not_not_intro nz))
    have O:=O.lZ s2
    obtain ⟨k,rfl⟩:=Int.eq_ofNat_of_zero_le h0
    rw [Int.toNat_natCast] at hst
    refine ⟨_,rfl,_,rfl,A.p,C,A.dx,_,.ref A.ln,rfl,O.get 0,R.c,R.nN,rfl,_,rfl,?_⟩
    refine jk O 4 rfl (gC (by rw [List.length_map];omega)) fun H6 O=>?_
    refine ⟨_,rfl,A.p,C,A.dx,_,.ref A.lo,rfl,O.get 0,R.c,R.nO,rfl,.inl ⟨rfl,_,O.sq 5⟩,_,rfl,_,rfl,_,rfl,szl,fun t2 ht2=>?_⟩
    walk_at "nw"
    refine ⟨A.lo,_,_,rfl,rfl,O.get 6,aX (by omega),?_⟩
    generalize hE:upd _ _ _=Hn
    have O:=Ow.nU O 6 rfl hE rfl
    obtain ⟨Hb,O,sb,e2⟩:=(show Ow T H0 Hn ((t2,.tup [.str "sell",.int (k:Int),.str y,.str z]) :: (RX C A ex r S.day us (S.ns.set k z) (vs++[V.ref t2])++L) ) from by simp only [RX,List.map_set];exact O).frz
    refine q.1 _ hst Hb _ sb ⟨us,vs++[V.ref t2],O,d0.mo sb,?_⟩
    rw [List.map_append]
    exact (d1.mo sb).append (.cons (.tuple (SqT.of e2) (.cons (.str _) (.cons (.int _) (.cons (.str _) (.cons (.str _) .nil))))) .nil)
end
abbrev fO:Stmt:=inClass (top 32) 8
theorem m7:aW ["self","number","holder","most","to","one"] ["self","number","holder","most","to"] (ak fO):=⟨rfl,rfl,rfl,by decide +kernel,rfl,by decide +kernel,by decide +kernel⟩
def xY (K:PySem.W.Frag) (T:eF) (C:Addr) (c:Ec):Sp:=fun vs H Q E=>∃ (A:Rs) (ex:List (Str × V)) (H0:Hp) (B:List (Addr × HO)) (r:List Int) (S:RS) (n:Int) (y:Str) (m:Int) (z:Str),vs=[.ref A.p,.int n,.str y,.int m,.str z]∧RA K T C A ex r H0 H B S∧RP r ex S∧Asc z∧After K T C c A ex r H0 H B S (.part n y m z) (.int (S.ls.length:Int)) Q E
section
variable {P:Program} {w:World} {K:PySem.W.Frag} {mg:Str→Option Value} {base:Heap} {T:eF} {C:Addr} {c:Ec}
theorem Ay {f f1 f2 f3 f4 f5 f6 f7:Addr} {fd fd1 fd2 fd3 fd4 fd5 fd6 fd7:FuncData} (D:Dm K C "part" "Roll.part" fO ["self","number","holder","most","to"] f fd) (B:Blt mg) (R_Roll:RC K C) (X_TooMuch:lO K mg "TooMuch" c.much) (X_NotAlone:lO K mg "NotAlone" c.alone)
    (aG:Dm K C "look_at_holder" "Roll.look_at_holder" aU ["self","number","holder"] f1 fd1) (bM:bQ P w K mg base (CXE P w) 2 f1 fd1 ["self","number","holder"] (jO K T C c.number c.yours))
    (bx:Df K mg "look_at_name" bY ["name"] f2 fd2) (gn:bQ P w K mg base (CXE P w) 2 f2 fd2 ["name"] (j4 T c.holder))
    (bL:Df K mg "most_of" fD ["one"] f3 fd3) (iK:bQ P w K mg base CX0 1 f3 fd3 ["one"] (oh K))
    (fW:Dm K C "is_alone" "Roll.is_alone" bZ ["self","number"] f4 fd4) (pG:bQ P w K mg base CX0 2 f4 fd4 ["self","number"] (vK K T C))
    (bH:Dm K C "look_at_room" "Roll.look_at_room" bF ["self"] f5 fd5) (gD:bQ P w K mg base (CXE P w) 1 f5 fd5 ["self"] (uw K T C c.full))
    (aZ:Df K mg "with_most" dG ["one","most"] f6 fd6) (fV:bQ P w K mg base CX0 1 f6 fd6 ["one","most"] (xU K))
    (dU:Dm K C "enter" "Roll.enter" dO ["self","one","holder"] f7 fd7) (lB:bQ P w K mg base CX0 1 f7 fd7 ["self","one","holder"] (qC C)) :
    bQ P w K mg base (CXE P w) 3 f fd ["self","number","holder","most","to"] (xY K T C c):=by
  have R:=R_Roll
  refine D.F.okX m7 (fun vs H Q E h=>?_) (fun cdv A outer s H vs Q E hr h=>?_)
  · obtain ⟨_,_,_,_,_,_,_,_,_,_,rfl,_⟩:=h;rfl
  · obtain ⟨A,ex,H0,L,r,S,n,y,m,z,rfl,⟨us,vs,O,d0,d1⟩,hp,az,q⟩:=h
    have hul:us.length=S.ls.length:=by rw [d0.length,List.length_map]
    have hvl:vs.length=S.ds.length:=by rw [d1.length,List.length_map]
    have hnn:=hp.nn
    have hdl:=hp.dl
    have hl60:=hp.l60
    obtain ⟨qN,qY⟩:=After.nH (n:=n) (y:=y) q rfl hnn
    refine ⟨_,(au (bG (gB (pv 0) R_Roll.c aG.m bM (hr.mono (by decide)) aG.b .nil kI (aj (pv 1) (aj (pv 2) ao))))
      (au (bG (aO gn (hr.mono (by decide)) rfl bx.m bx.F.kp bx.b .nil kI (aj (pv 4) ao)))
      (au (bw (i:=5) m7.nd rfl (Or.inl rfl) (aH aJ (cC (pv 0) rfl) (pv 1) (fun _ _=>rfl)))
      (au (bT (jP (mG nG qQ aq (pv 3) (aO iK (hr.mono (by decide)) rfl bL.m bL.F.kp bL.b .nil bU (aj (pv 5) ao))))
        (aA (fZ gZ rfl (fun _ _ z=>z) rfl X_TooMuch.m X_TooMuch.q (aj aF ao)))
        aV)
      (au (bT (jP (kW (gB (pv 0) R_Roll.c fW.m pG (hr.mono (by decide)) fW.b .nil bU (aj (pv 1) ao))))
        (aA (fZ gZ rfl (fun _ _ z=>z) rfl X_NotAlone.m X_NotAlone.q (aj aF ao)))
        aV)
      (au (bG (jF (pv 0) R_Roll.c bH.m gD (hr.mono (by decide)) bH.b .nil kI))
      (au (gY (aO fV (hr.mono (by decide)) rfl aZ.m aZ.F.kp aZ.b .nil bU (aj (pv 5) (aj (aY oK (aO iK (hr.mono (by decide)) rfl bL.m bL.F.kp bL.b .nil bU (aj (pv 5) ao)) (pv 3)) ao))) (iW (cC (pv 0) rfl) (pv 1) set_list))
      (au (bG (j8 PySem.F.plainAttrs_list PySem.F.slot_list_append PySem.F.type_list_append bV (cC (pv 0) rfl) (aj (bA (aj aF (aj (pv 1) (aj (pv 2) (aj (pv 3) (aj (pv 4) ao)))))) ao)))
      (aA (bf (gB (pv 0) R_Roll.c dU.m lB (hr.mono (by decide)) dU.b .nil bU (aj (aO fV (hr.mono (by decide)) rfl aZ.m aZ.F.kp aZ.b .nil bU (aj (pv 5) (aj (pv 3) ao))) (aj (pv 4) ao))))))))))))),?_⟩
    refine ⟨_,rfl,A.p,A.dx,_,rfl,O.get 0,(by exact hp.ex.hol),_,rfl,_,rfl,A,ex,S.day,us,S.ns,n,y,rfl,O.get 0,O.sq 3,O.sq 4,by omega,hp.ex,O.same.t1,fun h0 h1 hx=>?_,qN,qY⟩
    have hst:step r S (.part n y m z)=_:=mj h0 (by omega) hx
    refine ⟨_,rfl,z,rfl,az,O.same.t1,fun nz H2 s2=>?_,fun nz e H' s' he=>q.2 .holder (hst.trans (if_pos nz)) e H' s' he⟩
    have hst:=hst.trans (if_neg (not_not_intro nz))
    have O:=O.lZ s2
    obtain ⟨k,rfl⟩:=Int.eq_ofNat_of_zero_le h0
    obtain ⟨l,hl⟩:∃ l,S.ls[k]?=some l:=⟨_,List.getElem?_eq_getElem (by omega)⟩
    obtain ⟨al,hal,hT⟩:=d0.jG hl
    rw [lK rfl hl,Int.toNat_natCast] at hst
    refine ⟨_,rfl,A.p,C,A.dx,_,.ref A.ll,rfl,O.get 0,R.c,R.nL,rfl,_,rfl,A.ll,_,_,_,rfl,rfl,O.sq 3,dW hal,?_⟩
    refine ⟨_,rfl,?_⟩
    have hTm:=hT.mo O.same
    refine ⟨_,_,rfl,rfl,_,rfl,?_⟩
    refine ifD (fun h1=>?_) (fun h1=>?_)
    rotate_left
    · refine ⟨_,rfl,lM ⟨szl,fun e he=>?_⟩⟩
      exact q.2 .much (hst.trans (if_pos fun z=>h1 z.1)) e _ s2 he
    refine ⟨_,rfl,al,l,rfl,hTm,_,_,rfl,rfl,_,rfl,ifN (ifD (fun h2=>?_) (fun h2=>?_))⟩
    rotate_left
    · refine ⟨szl,fun e he=>?_⟩
      exact q.2 .much (hst.trans (if_pos fun z=>h2 z.2)) e _ s2 he
    have hst:=hst.trans (if_neg (not_not_intro ⟨h1,h2⟩))
    refine ⟨_,rfl,A.p,A.dx,_,rfl,O.get 0,(by exact hp.ex.al),_,rfl,A,ex,S.day,us,S.ls,k,l,rfl,O.get 0,O.sq 3,d0.mo O.same,hl,by omega,O.same.t1,fun H3 s3=>?_⟩
    have O:=O.lZ s3
    have hTm:=hT.mo O.same
    refine ⟨_,rfl,ifN (ifD (fun h3=>?_) (fun h3=>?_))⟩
    rotate_left
    · refine ⟨szl,fun e he=>?_⟩
      exact q.2 .alone (hst.trans (if_pos h3)) e _ (s2.trans s3) he
    have hst:=hst.trans (if_neg (not_not_intro h3))
    refine ⟨_,rfl,A.p,A.dx,_,rfl,O.get 0,(by exact hp.ex.room),A,ex,S.day,us,rfl,O.get 0,O.sq 3,O.same.t1,fun h4=>?_,fun h4 e H' s' he=>q.2 .full (hst.trans (if_pos (by omega))) e H' ((s2.trans s3).trans s') he⟩
    have hst:=hst.trans (if_neg (by omega))
    refine ⟨_,rfl,_,rfl,al,l,rfl,hTm,_,rfl,_,_,rfl,rfl,al,l,_,rfl,hTm,fun t1 ht1=>?_⟩
    walk_at "nw"
    refine ⟨_,rfl,A.p,C,A.dx,_,.ref A.ll,rfl,O.get 1,R.c,R.nL,rfl,_,rfl,?_⟩
    refine jk O 4 rfl (gC (by omega)) fun H6 O=>?_
    refine ⟨_,rfl,A.p,C,A.dx,_,.ref A.lo,rfl,O.get 1,R.c,R.nO,rfl,.inl ⟨rfl,_,O.sq 6⟩,_,rfl,_,rfl,_,rfl,_,rfl,szl,fun t2 ht2=>?_⟩
    walk_at "nw"
    refine ⟨A.lo,_,_,rfl,rfl,O.get 7,aX (by omega),?_⟩
    generalize hE:upd _ _ _=Hn
    have O:=Ow.nU O 7 rfl hE rfl
    clear hE
    refine ⟨_,rfl,A.p,A.dx,_,rfl,O.get 2,(by exact hp.ex.ent),_,rfl,_,rfl,al,l,m,rfl,hT.mo O.same,fun t3 ht3=>?_⟩
    walk_at "nw"
    refine ⟨_,rfl,A,ex,S.day,us.set k (.ref t1),S.ns.map V.str,.ref t3,.str z,rfl,O.get 3,O.get 6,O.get 7,by rw [List.length_set];omega,by rw [List.length_map];omega,O.ne 3 6,O.ne 3 7,O.ne 7 6,?_⟩
    have O:=(O.Mf 6 rfl (o':=.lst (us.set k (.ref t1)++[.ref t3])) rfl).Mf 7 rfl (o':=.lst (S.ns.map V.str++[.str z])) rfl
    rw [List.length_set,hul]
    obtain ⟨Hb,O,sb,e3⟩:=(show Ow T H0 _ ((t3,.tup (m5 (wm l m))) :: (t2,.tup [.str "part",.int (k:Int),.str y,.int m,.str z]) :: (t1,.tup (m5 (wm l (l.most - m)))) :: (RX C A ex r S.day (us.set k (.ref t1)++[.ref t3]) (S.ns++[z]) (vs++[V.ref t2])++L)) from by simp only [RX,List.map_append,List.map_cons,List.map_nil];exact O).frz
    obtain ⟨Hc,O,sc,e2⟩:=O.frz
    obtain ⟨Hd,O,sd,e1⟩:=O.frz
    have e3:=(sc.trans sd).keep _ _ e3 (fun _ z=>nomatch z)
    have e2:=sd.keep _ _ e2 (fun _ z=>nomatch z)
    have sx:=sb.trans (sc.trans sd)
    refine q.1 _ hst Hd _ sx ⟨us.set k (.ref t1)++[V.ref t3],vs++[V.ref t2],O,?_,?_⟩
    · rw [List.map_append,List.map_set]
      exact ((d0.mo sx).set (Den.lic (l:=wm l (l.most - m)) (SqT.of e1)) k).append (.cons (Den.lic (l:=wm l m) (SqT.of e3)) .nil)
    · rw [List.map_append]
      exact (d1.mo sx).append (.cons (.tuple (SqT.of e2) (.cons (.str _) (.cons (.int _) (.cons (.str _) (.cons (.int _) (.cons (.str _) .nil)))))) .nil)
end
abbrev cB:Stmt:=inClass (top 32) 11
theorem mU:aW ["self","number","start"] ["self","number","start"] (ak cB):=⟨rfl,rfl,rfl,by decide +kernel,rfl,by decide +kernel,by decide +kernel⟩
def ou:Sp:=fun vs H Q _=>∃ (p n s:V),vs=[p,n,s]∧Q .non H
section
variable {P:Program} {w:World} {K:PySem.W.Frag} {mg:Str→Option Value} {base:Heap} {C:Addr}
theorem sY {f:Addr} {fd:FuncData} (D:Dm K C "look_move" "Roll.look_move" cB ["self","number","start"] f fd):bQ P w K mg base CX0 1 f fd ["self","number","start"] ou:=by
  refine D.F.ok mU (fun vs H Q E h=>?_) (fun cdv A outer s H vs Q E hr h=>?_)
  · obtain ⟨_,_,_,rfl,_⟩:=h;rfl
  · obtain ⟨_,_,_,rfl,q⟩:=h
    exact ⟨_,(aA (bf pZ)),q⟩
end
abbrev fP:Stmt:=inClass (top 32) 10
theorem m8:aW ["self","number","holder","start","one"] ["self","number","holder","start"] (ak fP):=⟨rfl,rfl,rfl,by decide +kernel,rfl,by decide +kernel,by decide +kernel⟩
def xZ (K:PySem.W.Frag) (T:eF) (C:Addr) (c:Ec):Sp:=fun vs H Q E=>∃ (A:Rs) (ex:List (Str × V)) (H0:Hp) (B:List (Addr × HO)) (r:List Int) (S:RS) (n:Int) (y:Str) (st:Int),vs=[.ref A.p,.int n,.str y,.int st]∧RA K T C A ex r H0 H B S∧RP r ex S∧After K T C c A ex r H0 H B S (.move n y st) .non Q E
section
variable {P:Program} {w:World} {K:PySem.W.Frag} {mg:Str→Option Value} {base:Heap} {T:eF} {C:Addr} {c:Ec}
theorem Az {f f1 f2 f3 f4:Addr} {fd fd1 fd2 fd3 fd4:FuncData} (D:Dm K C "move" "Roll.move" fP ["self","number","holder","start"] f fd) (B:Blt mg) (R_Roll:RC K C) (X_NoLicence:lO K mg "NoLicence" c.licence)
    (aG:Dm K C "look_at_holder" "Roll.look_at_holder" aU ["self","number","holder"] f1 fd1) (bM:bQ P w K mg base (CXE P w) 2 f1 fd1 ["self","number","holder"] (jO K T C c.number c.yours))
    (gK:Df K mg "with_start" d8 ["one","start"] f2 fd2) (uf:bQ P w K mg base CX0 1 f2 fd2 ["one","start"] (BZ K))
    (cL:Df K mg "is_licence" dM ["below","one"] f3 fd3) (kY:bQ P w K mg base CX0 2 f3 fd3 ["below","one"] (qz K T))
    (eX:Dm K C "look_move" "Roll.look_move" cB ["self","number","start"] f4 fd4) (nM:bQ P w K mg base CX0 1 f4 fd4 ["self","number","start"] ou):bQ P w K mg base (CXE P w) 3 f fd ["self","number","holder","start"] (xZ K T C c):=by
  have R:=R_Roll
  refine D.F.okX m8 (fun vs H Q E h=>?_) (fun cdv A outer s H vs Q E hr h=>?_)
  · obtain ⟨_,_,_,_,_,_,_,_,_,rfl,_⟩:=h;rfl
  · obtain ⟨A,ex,H0,L,r,S,n,y,st,rfl,⟨us,vs,O,d0,d1⟩,hp,q⟩:=h
    have hul:us.length=S.ls.length:=by rw [d0.length,List.length_map]
    have hvl:vs.length=S.ds.length:=by rw [d1.length,List.length_map]
    have hnn:=hp.nn
    have hdl:=hp.dl
    have hr40:=hp.r40
    obtain ⟨qN,qY⟩:=After.nH (n:=n) (y:=y) q rfl hnn
    have sA:=aR.refl O.same.t1
    refine ⟨_,(au (bG (gB (pv 0) R_Roll.c aG.m bM (hr.mono (by decide)) aG.b .nil kI (aj (pv 1) (aj (pv 2) ao))))
      (au (bw (i:=4) m8.nd rfl (Or.inl rfl) (aO uf (hr.mono (by decide)) rfl gK.m gK.F.kp gK.b .nil bU (aj (aH aJ (cC (pv 0) rfl) (pv 1) (fun _ _=>rfl)) (aj (pv 3) ao))))
      (au (bT (jP (kW (aO kY (hr.mono (by decide)) rfl cL.m cL.F.kp cL.b .nil bU (aj (cC (pv 0) rfl) (aj (pv 4) ao)))))
        (aA (fZ gZ rfl (fun _ _ z=>z) rfl X_NoLicence.m X_NoLicence.q (aj aF ao)))
        aV)
      (au (bG (gB (pv 0) R_Roll.c eX.m nM (hr.mono (by decide)) eX.b .nil bU (aj (pv 1) (aj (pv 3) ao))))
      (au (gY (pv 4) (iW (cC (pv 0) rfl) (pv 1) set_list))
      (aA (bG (j8 PySem.F.plainAttrs_list PySem.F.slot_list_append PySem.F.type_list_append bV (cC (pv 0) rfl) (aj (bA (aj aF (aj (pv 1) (aj (pv 2) (aj (pv 3) ao))))) ao))))))))),?_⟩
    refine ⟨_,rfl,A.p,A.dx,_,rfl,O.get 0,(by exact hp.ex.hol),_,rfl,_,rfl,A,ex,S.day,us,S.ns,n,y,rfl,O.get 0,O.sq 3,O.sq 4,by omega,hp.ex,O.same.t1,fun h0 h1 hx=>?_,qN,qY⟩
    have hst:step r S (.move n y st)=_:=mj h0 (by omega) hx
    obtain ⟨k,rfl⟩:=Int.eq_ofNat_of_zero_le h0
    obtain ⟨l,hl⟩:∃ l,S.ls[k]?=some l:=⟨_,List.getElem?_eq_getElem (by omega)⟩
    obtain ⟨al,hal,hT⟩:=d0.jG hl
    rw [lK rfl hl,Int.toNat_natCast] at hst
    refine ⟨_,rfl,A.p,C,A.dx,_,.ref A.ll,rfl,O.get 0,R.c,R.nL,rfl,_,rfl,A.ll,_,_,_,rfl,rfl,O.sq 3,dW hal,_,rfl,al,l,st,rfl,hT.mo O.same,fun t1 ht1=>?_⟩
    have sA:=sA.upd (o':=.tup (m5 (wst l st))) ht1 (.inl ht1)
    have O:=O.mk' ht1 (o:=.tup (m5 (wst l st))) rfl
    refine ⟨_,rfl,A.p,C,A.dx,_,.ref A.lb,rfl,O.get 1,R.c,R.nB,rfl,_,rfl,A.lb,t1,r,wst l st,rfl,O.sq 3,hp.rv,by omega,O.sqT 0,O.same.t1,fun b H2 s2 hb2=>?_⟩
    have O:=O.lZ s2
    have sA:=sA.trans s2
    refine ⟨_,rfl,?_⟩
    cases b with
    | false =>
      refine lM ⟨szl,fun e he=>?_⟩
      exact q.2 .licence (hst.trans (if_pos fun h=>nomatch hb2.mpr h)) e _ sA he
    | true =>
      refine mW ?_
      have hst:=hst.trans (if_neg (not_not_intro (hb2.mp rfl)))
      refine ⟨_,rfl,A.p,A.dx,_,rfl,O.get 1,(by exact hp.ex.lmv),_,rfl,_,rfl,_,_,_,rfl,?_⟩
      refine ⟨_,rfl,_,rfl,A.p,C,A.dx,_,.ref A.ll,rfl,O.get 1,R.c,R.nL,rfl,_,rfl,?_⟩
      refine jk O 4 rfl (gC (by omega)) fun H6 O=>?_
      refine ⟨_,rfl,A.p,C,A.dx,_,.ref A.lo,rfl,O.get 1,R.c,R.nO,rfl,.inl ⟨rfl,_,O.sq 6⟩,_,rfl,_,rfl,_,rfl,szl,fun t2 ht2=>?_⟩
      walk_at "nw"
      refine ⟨A.lo,_,_,rfl,rfl,O.get 7,aX (by omega),?_⟩
      generalize hE:upd _ _ _=Hn
      have O:=Ow.nU O 7 rfl hE rfl
      clear hE
      obtain ⟨Hb,O,sb,e2⟩:=(show Ow T H0 Hn ((t2,.tup [.str "move",.int (k:Int),.str y,.int st]) :: (t1,.tup (m5 (wst l st))) :: (RX C A ex r S.day (us.set k (.ref t1)) S.ns (vs++[V.ref t2])++L)) from O).frz
      obtain ⟨Hc,O,sc,e1⟩:=O.frz
      have e2:=sc.keep _ _ e2 (fun _ z=>nomatch z)
      have sx:=sb.trans sc
      refine q.1 _ hst Hc _ sx ⟨us.set k (.ref t1),vs++[V.ref t2],O,?_,?_⟩
      · rw [List.map_set]
        exact (d0.mo sx).set (Den.lic (l:=wst l st) (SqT.of e1)) k
      · rw [List.map_append]
        exact (d1.mo sx).append (.cons (.tuple (SqT.of e2) (.cons (.str _) (.cons (.int _) (.cons (.str _) (.cons (.int _) .nil))))) .nil)
end
abbrev fQ:Stmt:=inClass (top 32) 6
theorem kO:aW ["self","holder","start","most","back","stop","one"] ["self","holder","start","most","back"] (ak fQ):=⟨rfl,rfl,rfl,by decide +kernel,rfl,by decide +kernel,by decide +kernel⟩
def yd (K:PySem.W.Frag) (T:eF) (C:Addr) (c:Ec):Sp:=fun vs H Q E=>∃ (A:Rs) (ex:List (Str × V)) (H0:Hp) (B:List (Addr × HO)) (r:List Int) (S:RS) (x:Str) (st m b:Int) (bv:V),vs=[.ref A.p,.str x,.int st,.int m,bv]∧(bv=.non∧b=-1∨bv=.int b)∧RA K T C A ex r H0 H B S∧RP r ex S∧Asc x∧After K T C c A ex r H0 H B S (.file x st m b) (.int (S.ls.length:Int)) Q E
theorem Kz {j:Nat} {σ:St} {H:Hp} {Q:VK} {bv:V} {stop:Int} (hb:bv=.non∧stop=-1∨bv=.int stop) (hj:σ[j]?=some (some bv)) (h:Q (.int stop) H) :
    tIf (Kv (tOp (fun x y H Q=>y=V.non∧Q (V.bl (decide (x=V.non))) H) (Tp j) (tC V.non))) (tC (V.int (-1))) (Tp j) σ H Q:=by
  refine ⟨bv,hj,rfl,_,rfl,?_⟩
  rcases hb with ⟨rfl,rfl⟩ | rfl
  · exact lM h
  · exact mW ⟨_,hj,h⟩
section
variable {P:Program} {w:World} {K:PySem.W.Frag} {mg:Str→Option Value} {base:Heap} {T:eF} {C:Addr} {c:Ec}
theorem Bd {f f1 f2 f3 f4:Addr} {fd fd1 fd2 fd3 fd4:FuncData} (D:DmD K C "file" "Roll.file" fQ ["self","holder","start","most","back"] f fd) (B:Blt mg) (CM:Mth mg) (R_Roll:RC K C) (X_NoLicence:lO K mg "NoLicence" c.licence)
    (bx:Df K mg "look_at_name" bY ["name"] f1 fd1) (gn:bQ P w K mg base (CXE P w) 2 f1 fd1 ["name"] (j4 T c.holder))
    (cL:Df K mg "is_licence" dM ["below","one"] f2 fd2) (kY:bQ P w K mg base CX0 2 f2 fd2 ["below","one"] (qz K T))
    (bH:Dm K C "look_at_room" "Roll.look_at_room" bF ["self"] f3 fd3) (gD:bQ P w K mg base (CXE P w) 1 f3 fd3 ["self"] (uw K T C c.full))
    (dU:Dm K C "enter" "Roll.enter" dO ["self","one","holder"] f4 fd4) (lB:bQ P w K mg base CX0 1 f4 fd4 ["self","one","holder"] (qC C)) :
    bQ P w K mg base (CXE P w) 3 f fd ["self","holder","start","most","back"] (yd K T C c):=by
  obtain ⟨tM,hMOUTH⟩:=CM.MOUTH
  have R:=R_Roll
  refine D.F.okX kO (fun vs H Q E h=>?_) (fun cdv A outer s H vs Q E hr h=>?_)
  · obtain ⟨_,_,_,_,_,_,_,_,_,_,_,rfl,_⟩:=h;rfl
  · obtain ⟨A,ex,H0,L,r,S,x,st,m,b,bv,rfl,hb,⟨us,vs,O,d0,d1⟩,hp,ax,q⟩:=h
    have hul:us.length=S.ls.length:=by rw [d0.length,List.length_map]
    have hvl:vs.length=S.ds.length:=by rw [d1.length,List.length_map]
    have hnn:=hp.nn
    have hdl:=hp.dl
    have hr40:=hp.r40
    have hl60:=hp.l60
    have sA:=aR.refl O.same.t1
    refine ⟨_,(au (bG (aO gn (hr.mono (by decide)) rfl bx.m bx.F.kp bx.b .nil kI (aj (pv 1) ao)))
      (au (bw (i:=5) kO.nd rfl (Or.inl rfl) (Ag (aK yK (pv 4) pZ (aN _)) (iV (v:=.int (-1)) rfl hMOUTH ⟨_,rfl⟩) (pv 4)))
      (au (bw (i:=6) kO.nd rfl (Or.inl rfl) (bA (aj (cC (pv 0) rfl) (aj (pv 2) (aj (pv 5) (aj (pv 3) ao))))))
      (au (bT (PW.pt (pw_or (aK dY (pv 3) aq (aN _)) (pw_or1 (jP (kW (aO kY (hr.mono (by decide)) rfl cL.m cL.F.kp cL.b .nil bU (aj (cC (pv 0) rfl) (aj (pv 6) ao))))))))
        (aA (fZ gZ rfl (fun _ _ z=>z) rfl X_NoLicence.m X_NoLicence.q (aj aF ao)))
        aV)
      (au (bG (jF (pv 0) R_Roll.c bH.m gD (hr.mono (by decide)) bH.b .nil kI))
      (au (bG (j8 PySem.F.plainAttrs_list PySem.F.slot_list_append PySem.F.type_list_append bV (cC (pv 0) rfl) (aj (bA (aj aF (aj (pv 1) (aj (pv 2) (aj (pv 3) (aj (pv 5) ao)))))) ao)))
      (aA (bf (gB (pv 0) R_Roll.c dU.m lB (hr.mono (by decide)) dU.b .nil bU (aj (pv 6) (aj (pv 1) ao))))))))))),?_⟩
    refine ⟨_,rfl,x,rfl,ax,O.same.t1,fun nx H1 s1=>?_,fun nx e H' s' he=>q.2 .holder (if_pos nx) e H' s' he⟩
    have hst:step r S (.file x st m b)=_:=if_neg (not_not_intro nx)
    have O:=O.lZ s1
    refine Kz hb rfl ?_
    refine ⟨_,rfl,A.p,C,A.dx,_,.int S.day,rfl,O.get 0,R.c,R.nD,rfl,_,rfl,_,rfl,_,rfl,szl,fun t1 ht1=>?_⟩
    generalize hE:upd _ _ _=Hn
    have s2:aR T H Hn:=hE ▸ s1.upd (s1.free ht1) (.inl ht1)
    replace O:=Ow.mkE O ht1 hE rfl
    clear hE
    refine ⟨_,rfl,rfl,_,rfl,ifI (fun m0=>?_) (fun m0=>?_)⟩
    · exact ⟨szl,fun e he=>q.2 .licence (hst.trans (if_pos (.inl m0))) e _ s2 he⟩
    refine ⟨_,rfl,A.p,C,A.dx,_,.ref A.lb,rfl,O.get 1,R.c,R.nB,rfl,_,rfl,A.lb,t1,r,⟨S.day,st,b,m⟩,rfl,O.sq 3,hp.rv,by omega,O.sqT 0,O.same.t1,fun bb H2 s3 hb2=>?_⟩
    have O:=O.lZ s3
    cases bb with
    | false=>exact ⟨_,rfl,lM ⟨szl,fun e he=>q.2 .licence (hst.trans (if_pos (.inr fun z=>nomatch hb2.mpr z))) e _ (s2.trans s3) he⟩⟩
    | true =>
    refine ⟨_,rfl,mW ?_⟩
    have hl:=hb2.mp rfl
    have hst:=hst.trans (if_neg (show ¬ (m=0∨¬ jA r ⟨S.day,st,b,m⟩) from fun z=>z.elim m0 fun w=>w hl))
    refine ⟨_,rfl,A.p,A.dx,_,rfl,O.get 1,(by exact hp.ex.room),A,ex,S.day,us,rfl,O.get 1,O.sq 4,O.same.t1,fun h4=>?_,fun h4 e H' s' he=>q.2 .full (hst.trans (if_pos (by omega))) e H' ((s2.trans s3).trans s') he⟩
    have hst:=hst.trans (if_neg (by omega))
    refine ⟨_,rfl,A.p,C,A.dx,_,.ref A.lo,rfl,O.get 1,R.c,R.nO,rfl,.inl ⟨rfl,_,O.sq 6⟩,_,rfl,_,rfl,_,rfl,_,rfl,szl,fun t2 ht2=>?_⟩
    walk_at "nw"
    refine ⟨A.lo,_,_,rfl,rfl,O.get 7,aX (by omega),?_⟩
    generalize hE:upd _ _ _=Hn2
    replace O:=Ow.nU O 7 rfl hE rfl
    clear hE
    refine ⟨_,rfl,A.p,A.dx,_,rfl,O.get 2,(by exact hp.ex.ent),_,rfl,_,rfl,A,ex,S.day,us,S.ns.map V.str,.ref t1,.str x,rfl,O.get 2,O.get 5,O.get 6,by omega,by rw [List.length_map];omega,O.ne 2 5,O.ne 2 6,O.ne 6 5,?_⟩
    have O:=(O.Mf 5 rfl (o':=.lst (us++[.ref t1])) rfl).Mf 6 rfl (o':=.lst (S.ns.map V.str++[.str x])) rfl
    rw [hul]
    obtain ⟨Hb,O,sb,e2⟩:=(show Ow T H0 _ ((t2,.tup [.str "file",.str x,.int st,.int m,.int b]) :: (t1,.tup (m5 ⟨S.day,st,b,m⟩)) :: (RX C A ex r S.day (us++[.ref t1]) (S.ns++[x]) (vs++[V.ref t2])++L)) from by simp only [RX,List.map_append,List.map_cons,List.map_nil];exact O).frz
    obtain ⟨Hc,O,sc,e1⟩:=O.frz
    have e2:=sc.keep _ _ e2 (fun _ z=>nomatch z)
    have sx:=sb.trans sc
    refine q.1 _ hst Hc _ sx ⟨us++[V.ref t1],vs++[V.ref t2],O,?_,?_⟩
    · rw [List.map_append]
      exact (d0.mo sx).append (.cons (Den.lic (l:=⟨S.day,st,b,m⟩) (SqT.of e1)) .nil)
    · rw [List.map_append]
      exact (d1.mo sx).append (.cons (.tuple (SqT.of e2) (.cons (.str _) (.cons (.str _) (.cons (.int _) (.cons (.int _) (.cons (.int _) .nil)))))) .nil)
end
def vU (ls:List Lic) (xs:List Int) (i:Nat):List Lic:=jT (ls.take i) (xs.take i)++ls.drop i
def fall (ls:List Lic) (xs:List Int):Nat→List (Int × Int × Int)
  | 0=>[]
  | i + 1=>fall ls xs i++(match ls[i]?,xs[i]? with | some l,some x=>if x<l.most then [((i:Int),l.most,x)] else [] | _,_=>[])
theorem rD (ls:List Lic) (xs:List Int):∀ i,(fall ls xs i).length≤i
  | 0=>Nat.le_refl _
  | i + 1=>by
    have:=rD ls xs i
    unfold fall
    rw [List.length_append]
    split
    · split <;> simp <;> omega
    · simp;omega
theorem oW (ls:List Lic) (xs:List Int):vU ls xs 0=ls:=by unfold vU jT;simp
theorem oX {ls:List Lic} {xs:List Int} (h:ls.length=xs.length):vU ls xs xs.length=jT ls xs:=by unfold vU;rw [← h,List.take_length,h,List.take_length,← h,List.drop_length,List.append_nil]
theorem qZ {ls:List Lic} {xs:List Int} {i:Nat} {l:Lic} {x:Int} (hl:ls[i]?=some l) (hx:xs[i]?=some x):(vU ls xs i)[i]?=some l∧vU ls xs (i + 1)=(vU ls xs i).set i (wm l (min l.most x)):=by
  have h1:=(List.getElem?_eq_some_iff.mp hl).1
  have h2:=(List.getElem?_eq_some_iff.mp hx).1
  have hn:(jT (ls.take i) (xs.take i)).length=i:=by unfold jT;rw [List.length_zipWith,List.length_take,List.length_take];omega
  have hd:ls.drop i=l :: ls.drop (i + 1):=by
    rw [List.drop_eq_getElem_cons h1]
    rw [List.getElem?_eq_getElem h1] at hl;cases hl;rfl
  unfold vU
  constructor
  · rw [List.getElem?_append_right (by omega),hn,hd,Nat.sub_self];rfl
  · rw [List.set_append_right _ _ (by omega),hn,hd,Nat.sub_self,Tn.jh hl,Tn.jh hx]
    unfold jT
    rw [List.zipWith_append (by rw [List.length_take,List.length_take];omega)]
    simp
theorem tE {ls:List Lic} {xs:List Int} {i:Nat} {l:Lic} {x:Int} (hl:ls[i]?=some l) (hx:xs[i]?=some x) (h:¬ x<l.most):vU ls xs (i + 1)=vU ls xs i:=by
  obtain ⟨h1,h2⟩:=qZ hl hx
  rw [h2,show wm l (min l.most x)=l by unfold wm;rw [Int.min_eq_left (by omega)]]
  obtain ⟨hi,e⟩:=List.getElem?_eq_some_iff.mp h1
  rw [← e];exact List.set_getElem_self hi
abbrev cI:Stmt:=inClass (top 32) 12
theorem cD:aW ["self","numbers","fallen","number","amount","before"] ["self","numbers"] (ak cI):=⟨rfl,rfl,rfl,by decide +kernel,rfl,by decide +kernel,by decide +kernel⟩
def Ac (K:PySem.W.Frag) (T:eF) (C:Addr) (c:Ec):Sp:=fun vs H Q E=>∃ (A:Rs) (ex:List (Str × V)) (H0:Hp) (B:List (Addr × HO)) (r:List Int) (S:RS) (a:Addr) (xs:List Int),vs=[.ref A.p,.ref a]∧RA K T C A ex r H0 H B S∧RP r ex S∧xs.length≤1000∧(∀ (Hb H':Hp) (X:List (Addr × HO)),aR T H0 Hb→Ow T Hb H' (X++B)→SqL K H' a (xs.map V.int)) ∧
  (∀ S',step r S (.lapse xs)=.ok S'→∀ (Hb H':Hp) (fl:Addr) (fs:List V),aR T H0 Hb→RA K T C A ex r Hb H' ((fl,.lst fs) :: B) S'→cR K Hb fs ((fall S.ls xs xs.length).map dMv)→Q (.ref fl) H') ∧
  (∀ k,step r S (.lapse xs)=.error k→∀ (e:Addr) (H':Hp),aR T H H'→H' e=none→E (.ref (c.at_ k)) (some e) H')
section
variable {P:Program} {w:World} {K:PySem.W.Frag} {mg:Str→Option Value} {base:Heap} {T:eF} {C:Addr} {c:Ec}
theorem yQ {f f1 f2 f3:Addr} {fd fd1 fd2 fd3:FuncData} (D:Dm K C "lapse" "Roll.lapse" cI ["self","numbers"] f fd) (B:Blt mg) (R:RC K C) (X_NoNumber:lO K mg "NoNumber" c.number) (X_TooMuch:lO K mg "TooMuch" c.much)
    (cu:Df K mg "is_water" eZ ["amount"] f1 fd1) (jX:bQ P w K mg base CX0 1 f1 fd1 ["amount"] nT)
    (bL:Df K mg "most_of" fD ["one"] f2 fd2) (iK:bQ P w K mg base CX0 1 f2 fd2 ["one"] (oh K))
    (aZ:Df K mg "with_most" dG ["one","most"] f3 fd3) (fV:bQ P w K mg base CX0 1 f3 fd3 ["one","most"] (xU K)) :
    bQ P w K mg base (CXE P w) 2 f fd ["self","numbers"] (Ac K T C c):=by
  refine D.F.okX cD (fun vs H Q E h=>?_) (fun cdv A outer s H vs Q E hr h=>?_)
  · obtain ⟨_,_,_,_,_,_,_,_,rfl,_⟩:=h;rfl
  · obtain ⟨A,ex,H0,L,r,S,a,xs,rfl,⟨us,vs,O,d0,d1⟩,hp,hx1,ha0,q,qx⟩:=h
    refine ⟨_,(au (bT (aK sW (aP aM rfl B.len PySem.boot_len (aj (pv 1) ao)) (aP aM rfl B.len PySem.boot_len (aj (cC (pv 0) rfl) ao)) (aN _))
        (aA (fZ gZ rfl (fun _ _ z=>z) rfl X_NoNumber.m X_NoNumber.q (aj aF ao)))
        aV)
      (au (bT (jP (kW (aP (mL rfl) rfl B.all PyProof.Rows.boot_all (aj (j6 (ak cI) rfl ["self","numbers","fallen","number","amount","before"] rfl ["amount"] [none] (by decide +kernel) (by decide +kernel) (by decide +kernel) rfl (qM (pv 1)) (fun _ _ _=>(bI (i:=0) (show (["amount"]:List Str).Nodup by decide +kernel) rfl (Or.inl rfl))) (fun _ _ _=>ji) (fun _ _ _=>(aO jX (hr.mono (by decide)) rfl cu.m cu.F.kp cu.b .nil bU (aj (pv 0) ao)))) ao))))
        (aA (fZ gZ rfl (fun _ _ z=>z) rfl X_TooMuch.m X_TooMuch.q (aj aF ao)))
        aV)
      (au (bw (i:=2) cD.nd rfl (Or.inl rfl) (bK ao))
      (au (oJ PassesOwn.leaving rfl (lW rfl B.enumerate (aj (pv 1) ao)) (ni rfl (bW (bI (i:=3) cD.nd rfl (Or.inl rfl)) (bW (bI (i:=4) cD.nd rfl (Or.inl rfl)) jj)))
        (au (bw (i:=5) cD.nd rfl (Or.inl rfl) (aO iK (hr.mono (by decide)) rfl bL.m bL.F.kp bL.b .nil bU (aj (aH aJ (cC (pv 0) rfl) (pv 3) (fun _ _=>rfl)) ao)))
        (aA (bT (aK qQ (pv 4) (pv 5) (aN _))
          (au (gY (aO fV (hr.mono (by decide)) rfl aZ.m aZ.F.kp aZ.b .nil bU (aj (aH aJ (cC (pv 0) rfl) (pv 3) (fun _ _=>rfl)) (aj (pv 4) ao))) (iW (cC (pv 0) rfl) (pv 3) set_list))
          (aA (bG (j8 PySem.F.plainAttrs_list PySem.F.slot_list_append PySem.F.type_list_append bV (pv 2) (aj (bA (aj (pv 3) (aj (pv 5) (aj (pv 4) ao)))) ao)))))
          aV))))
      (au (bG (j8 PySem.F.plainAttrs_list PySem.F.slot_list_append PySem.F.type_list_append bV (cC (pv 0) rfl) (aj (bA (aj aF (aj (cJ jd rfl B.tuple PyProof.Rows.boot_tuple (aj (pv 1) ao)) ao))) ao)))
      (aA (bf (pv 2)))))))),?_⟩
    have hul:us.length=S.ls.length:=by rw [d0.length,List.length_map]
    have hvl:vs.length=S.ds.length:=by rw [d1.length,List.length_map]
    have hdl:=hp.dl
    have hl60:=hp.l60
    have hxm:(xs.map V.int).length=xs.length:=List.length_map _
    have sA:=aR.refl O.same.t1
    have t0:=O.same.t0
    have ha:∀ {Hb H':Hp} (X:List (Addr × HO)),aR T H0 Hb→Ow T Hb H' (X++L)→SqL K H' a (xs.map V.int):=fun X s O=>ha0 _ _ X s O
    have ha1:SqL K H a (xs.map V.int):=ha _ (aR.refl t0) O
    refine ⟨_,rfl,a,_,rfl,.inl ha1,_,rfl,A.p,C,A.dx,_,.ref A.ll,rfl,O.get 0,R.c,R.nL,rfl,A.ll,_,rfl,.inl (O.sq 3),rfl,_,rfl,ifN (ifI (fun hlen=>?_) fun hlen=>?_)⟩
    rotate_left
    · refine ⟨szl,fun e he=>qx .number (if_pos (fun z=>hlen (by rw [hxm,hul,z]))) e H sA he⟩
    have hll:S.ls.length=xs.length:=by rw [hxm] at hlen;omega
    have hst:step r S (.lapse xs)=_:=if_neg (not_not_intro hll.symm)
    refine ⟨_,rfl,a,rfl,⟨_,ha1⟩,fun lw hlw=>?_⟩
    refine pC (K:=K) (xs:=xs.map V.int) (fun i τ H'=>Iv (∃ (v0:Option V) (bs:List Bool),τ=[v0]∧bs.length=i∧(bs.all id=true↔∀ x∈xs.take i,0≤x∧x≤1000000000000)∧Ow T H0 H' ((lw,.lst (bs.map V.bl)) :: (RX C A ex r S.day us S.ns vs++L))∧aR T H H')) ⟨trivial,none,[],rfl,rfl,⟨(fun _ x hx=>nomatch hx),fun _=>rfl⟩,O.mk' hlw rfl,sA.upd hlw (.inl hlw)⟩ (fun i τ H' _ ⟨_,_,_,_,_,_,O,_⟩=>ha (_ :: RX C A ex r S.day us S.ns vs) (aR.refl t0) O) ?_ ?_
    · rintro i y τ H4 hy ⟨-,v0,bs,rfl,hbl,hb,O,sA⟩
      obtain ⟨z,hz,rfl⟩:=ints_get hy
      have hi:=(List.getElem?_eq_some_iff.mp hz).1
      refine zX ⟨_,rfl,z,rfl,fun b hbz=>?_⟩
      refine ⟨_,O.get 0,aX (by rw [List.length_map];omega),?_⟩
      have hnew:H lw=none:=hlw
      generalize hE:upd _ _ _=Hn
      have sA:aR T H Hn:=hE ▸ sA.upd hnew (.inr ⟨_,O.get 0,rfl⟩)
      replace O:=Ow.nU O 0 rfl hE rfl
      refine ⟨trivial,_,bs++[b],rfl,by rw [List.length_append,hbl];rfl,?_,?_,sA⟩
      · rw [Tn.jh hz,List.all_append,Bool.and_eq_true,hb]
        constructor
        · rintro ⟨z1,z2⟩ y hy
          rcases List.mem_append.mp hy with h | h
          · exact z1 y h
          · rw [List.mem_singleton.mp h];exact hbz.mp (by simpa using z2)
        · intro w
          exact ⟨fun y hy=>w y (List.mem_append_left _ hy),by simpa using hbz.mpr (w z (List.mem_append_right _ (List.mem_singleton.mpr rfl)))⟩
      · rw [List.map_append];exact O
    clear O sA
    rintro τ H4 ⟨-,v0,bs,rfl,hbl,hb,O,sA⟩
    rw [hxm,List.take_length] at hb
    refine ⟨lw,_,rfl,O.sq 0,?_⟩
    cases hba:bs.all id with
    | false =>
      exact ⟨_,rfl,lM ⟨szl,fun e he=>qx .much (hst.trans (if_pos fun z=>by rw [hb.mpr z] at hba;cases hba)) e _ sA he⟩⟩
    | true =>
    have hxs:=hb.mp hba
    have hst:=hst.trans (if_neg (not_not_intro hxs))
    refine ⟨_,rfl,mW ?_⟩
    clear hb hba
    have O:=O.tail
    refine ⟨szl,fun fl hfl=>?_⟩
    walk_at "nw"
    refine ⟨_,rfl,a,_,rfl,ha (_ :: RX C A ex r S.day us S.ns vs) (aR.refl t0) O,?_⟩
    refine rB (K:=K) (xs:=xs.map V.int) (fun i σ H'=>Iv (∃ (Hb:Hp) (us' fs:List V) (v3 v4 v5:Option V),σ=[some (.ref A.p),some (.ref a),some (.ref fl),v3,v4,v5]∧Ow T Hb H' ((fl,.lst fs) :: (RX C A ex r S.day us' S.ns vs++L))∧aR T H0 Hb∧cR K Hb us' ((vU S.ls xs i).map pK)∧cR K Hb fs ((fall S.ls xs i).map dMv)))
      ⟨trivial,H0,us,[],none,none,none,rfl,O,aR.refl t0,by rw [oW];exact d0,.nil⟩ (fun i σ H' _ ⟨_,Hb,us',_,_,_,_,_,O,s,_⟩=>ha (_ :: RX C A ex r S.day us' S.ns vs) s O) ?_ ?_
    · rintro i y T0 σ H5 hy ⟨-,Hb,us',fs,v3,v4,v5,rfl,O,s0,d0,d2⟩ hT0
      obtain ⟨x,hx,rfl⟩:=ints_get hy
      have hi:=(List.getElem?_eq_some_iff.mp hx).1
      obtain ⟨l,hl⟩:∃ l,S.ls[i]?=some l:=⟨_,List.getElem?_eq_getElem (by omega)⟩
      obtain ⟨e1,e2⟩:=qZ hl hx
      obtain ⟨al,hal,hT⟩:=d0.jG e1
      have hil:i<us'.length:=(List.getElem?_eq_some_iff.mp hal).1
      have hfl2:fs.length≤i:=by have:=rD S.ls xs i;rw [d2.length,List.length_map];exact this
      walk_at "nw"
      refine ⟨T0,_,rfl,O.sqT 0,rfl,_,_,rfl,_,_,rfl,rfl,?_⟩
      have O:=O.tail
      refine ⟨_,rfl,A.p,C,A.dx,_,.ref A.ll,rfl,O.get 1,R.c,R.nL,rfl,_,rfl,A.ll,_,_,_,rfl,rfl,O.sq 4,dW hal,al,_,rfl,hT.mo O.same,?_⟩
      refine ⟨_,rfl,_,rfl,_,_,rfl,rfl,_,rfl,?_⟩
      refine ifD (fun hlt=>?_) (fun hge=>?_)
      · refine ⟨_,rfl,A.p,C,A.dx,_,.ref A.ll,rfl,O.get 1,R.c,R.nL,rfl,_,rfl,A.ll,_,_,_,rfl,rfl,O.sq 4,dW hal,_,rfl,al,l,x,rfl,hT.mo O.same,fun t ht=>?_⟩
        walk_at "nw"
        refine ⟨_,rfl,A.p,C,A.dx,_,.ref A.ll,rfl,O.get 2,R.c,R.nL,rfl,_,rfl,?_⟩
        refine jk O 5 rfl (gC hil) fun H6 O=>?_
        have O:Ow T Hb H6 ((t,.tup (m5 (wm l x))) :: (fl,.lst fs) :: (RX C A ex r S.day (us'.set i (.ref t)) S.ns vs++L)):=O
        refine ⟨_,rfl,.inl ⟨rfl,_,O.sq 1⟩,_,rfl,_,rfl,_,rfl,szl,fun t2 ht2=>?_⟩
        walk_at "nw"
        refine ⟨fl,_,_,rfl,rfl,O.get 2,aX (by omega),?_⟩
        walk_at "pt"
        have O:Ow T Hb _ ((t2,.tup [.int (i:Int),.int l.most,.int x]) :: (t,.tup (m5 (wm l x))) :: (fl,.lst (fs++[.ref t2])) :: (RX C A ex r S.day (us'.set i (.ref t)) S.ns vs++L)):=O
        obtain ⟨Hn2,O,sn,en⟩:=O.frz
        obtain ⟨Hn3,O,sn3,en2⟩:=O.frz
        have en:=sn3.keep _ _ en (fun _ z=>nomatch z)
        have sn:=sn.trans sn3
        refine ⟨trivial,Hn3,us'.set i (.ref t),fs++[V.ref t2],_,_,_,rfl,O,s0.trans sn,?_,?_⟩
        · rw [e2,show wm l (min l.most x)=wm l x by rw [Int.min_eq_right (by omega)],List.map_set]
          exact (d0.mo sn).set (Den.lic (l:=wm l x) (SqT.of en2)) i
        · unfold fall
          rw [hl,hx]
          simp only [if_pos hlt]
          rw [List.map_append]
          exact (d2.mo sn).append (.cons (Den.tup (ns:=[(i:Int),l.most,x]) (SqT.of en)) .nil)
      · refine ⟨trivial,Hb,us',fs,_,_,_,rfl,O,s0,by rw [tE hl hx hge];exact d0,?_⟩
        unfold fall
        rw [hl,hx]
        simp only [if_neg hge,List.append_nil]
        exact d2
    clear O d0
    rintro σ H5 ⟨-,Hb,us',fs,v3,v4,v5,rfl,O,s0,d0,d2⟩
    rw [hxm,oX hll] at d0
    rw [hxm] at d2
    refine ⟨_,rfl,A.p,C,A.dx,_,.ref A.lo,rfl,O.get 1,R.c,R.nO,rfl,.inl ⟨rfl,_,O.sq 6⟩,_,rfl,a,_,rfl,.inl ⟨ha (_ :: RX C A ex r S.day us' S.ns vs) s0 O,fun tt htt=>?_⟩⟩
    walk_at "nw"
    refine ⟨szl,fun t ht=>?_⟩
    walk_at "nw"
    refine ⟨A.lo,_,_,rfl,rfl,O.get 8,aX (by omega),?_⟩
    generalize hE:upd _ _ _=Hn
    have O:=Ow.nU O 8 rfl hE rfl
    obtain ⟨Hc,O,sc,e1⟩:=(show Ow T Hb Hn ((t,.tup [.str "lapse",.ref tt]) :: (tt,.tup (xs.map V.int)) :: (fl,.lst fs) :: (RX C A ex r S.day us' S.ns (vs++[V.ref t])++L)) from O).frz
    obtain ⟨Hd,O,sd,e2⟩:=O.frz
    have e1:=sd.keep _ _ e1 (fun _ z=>nomatch z)
    have sc:=sc.trans sd
    refine ⟨_,rfl,q _ hst Hd _ fl fs (s0.trans sc) ⟨us',vs++[V.ref t],O.mid,d0.mo sc,?_⟩ (d2.mo sc)⟩
    rw [List.map_append]
    exact ((d1.mo s0).mo sc).append (.cons (Den.Td e1 (.str _) (.tuple (SqT.of e2) (cR.ints xs))) .nil)
end
def rO (K:PySem.W.Frag) (T:eF) (C:Addr) (c:Ec):Sp:=fun vs H Q E=>∃ (A:Rs) (ex:List (Str × V)) (H0:Hp) (B:List (Addr × HO)) (r:List Int) (S:RS) (a:Addr) (xs:List Int),vs=[.ref A.p,.ref a]∧RA K T C A ex r H0 H B S∧RP r ex S∧xs.length≤1000∧SqT K H0 a (xs.map V.int) ∧
  (∀ S',step r S (.lapse xs)=.ok S'→∀ (Hb H':Hp) (fl:Addr) (fs:List V),aR T H0 Hb→RA K T C A ex r Hb H' ((fl,.lst fs) :: B) S'→cR K Hb fs ((fall S.ls xs xs.length).map dMv)→Q (.ref fl) H') ∧
  (∀ k,step r S (.lapse xs)=.error k→∀ (e:Addr) (H':Hp),aR T H H'→H' e=none→E (.ref (c.at_ k)) (some e) H')
section
variable {P:Program} {w:World} {K:PySem.W.Frag} {mg:Str→Option Value} {base:Heap} {T:eF} {C:Addr} {c:Ec}
theorem wO {f f1 f2 f3:Addr} {fd fd1 fd2 fd3:FuncData} (D:Dm K C "lapse" "Roll.lapse" cI ["self","numbers"] f fd) (B:Blt mg) (R:RC K C) (X_NoNumber:lO K mg "NoNumber" c.number) (X_TooMuch:lO K mg "TooMuch" c.much)
    (cu:Df K mg "is_water" eZ ["amount"] f1 fd1) (jX:bQ P w K mg base CX0 1 f1 fd1 ["amount"] nT)
    (bL:Df K mg "most_of" fD ["one"] f2 fd2) (iK:bQ P w K mg base CX0 1 f2 fd2 ["one"] (oh K))
    (aZ:Df K mg "with_most" dG ["one","most"] f3 fd3) (fV:bQ P w K mg base CX0 1 f3 fd3 ["one","most"] (xU K)) :
    bQ P w K mg base (CXE P w) 2 f fd ["self","numbers"] (rO K T C c):=by
  refine D.F.okX cD (fun vs H Q E h=>?_) (fun cdv A outer s H vs Q E hr h=>?_)
  · obtain ⟨_,_,_,_,_,_,_,_,rfl,_⟩:=h;rfl
  · obtain ⟨A,ex,H0,L,r,S,a,xs,rfl,⟨us,vs,O,d0,d1⟩,hp,hx1,ha0,q,qx⟩:=h
    refine ⟨_,(au (bT (aK sW (aP aM rfl B.len PySem.boot_len (aj (pv 1) ao)) (aP aM rfl B.len PySem.boot_len (aj (cC (pv 0) rfl) ao)) (aN _))
        (aA (fZ gZ rfl (fun _ _ z=>z) rfl X_NoNumber.m X_NoNumber.q (aj aF ao)))
        aV)
      (au (bT (jP (kW (aP (mL rfl) rfl B.all PyProof.Rows.boot_all (aj (j6 (ak cI) rfl ["self","numbers","fallen","number","amount","before"] rfl ["amount"] [none] (by decide +kernel) (by decide +kernel) (by decide +kernel) rfl (MJ (pv 1)) (fun _ _ _=>(bI (i:=0) (show (["amount"]:List Str).Nodup by decide +kernel) rfl (Or.inl rfl))) (fun _ _ _=>ji) (fun _ _ _=>(aO jX (hr.mono (by decide)) rfl cu.m cu.F.kp cu.b .nil bU (aj (pv 0) ao)))) ao))))
        (aA (fZ gZ rfl (fun _ _ z=>z) rfl X_TooMuch.m X_TooMuch.q (aj aF ao)))
        aV)
      (au (bw (i:=2) cD.nd rfl (Or.inl rfl) (bK ao))
      (au (oJ PassesOwn.leaving rfl (Af rfl B.enumerate (aj (pv 1) ao)) (ni rfl (bW (bI (i:=3) cD.nd rfl (Or.inl rfl)) (bW (bI (i:=4) cD.nd rfl (Or.inl rfl)) jj)))
        (au (bw (i:=5) cD.nd rfl (Or.inl rfl) (aO iK (hr.mono (by decide)) rfl bL.m bL.F.kp bL.b .nil bU (aj (aH aJ (cC (pv 0) rfl) (pv 3) (fun _ _=>rfl)) ao)))
        (aA (bT (aK qQ (pv 4) (pv 5) (aN _))
          (au (gY (aO fV (hr.mono (by decide)) rfl aZ.m aZ.F.kp aZ.b .nil bU (aj (aH aJ (cC (pv 0) rfl) (pv 3) (fun _ _=>rfl)) (aj (pv 4) ao))) (iW (cC (pv 0) rfl) (pv 3) set_list))
          (aA (bG (j8 PySem.F.plainAttrs_list PySem.F.slot_list_append PySem.F.type_list_append bV (pv 2) (aj (bA (aj (pv 3) (aj (pv 5) (aj (pv 4) ao)))) ao)))))
          aV))))
      (au (bG (j8 PySem.F.plainAttrs_list PySem.F.slot_list_append PySem.F.type_list_append bV (cC (pv 0) rfl) (aj (bA (aj aF (aj (cJ jd rfl B.tuple PyProof.Rows.boot_tuple (aj (pv 1) ao)) ao))) ao)))
      (aA (bf (pv 2)))))))),?_⟩
    have hul:us.length=S.ls.length:=by rw [d0.length,List.length_map]
    have hvl:vs.length=S.ds.length:=by rw [d1.length,List.length_map]
    have hdl:=hp.dl
    have hl60:=hp.l60
    have hxm:(xs.map V.int).length=xs.length:=List.length_map _
    have sA:=aR.refl O.same.t1
    have t0:=O.same.t0
    have ha:∀ {Hb H':Hp} (X:List (Addr × HO)),aR T H0 Hb→Ow T Hb H' (X++L)→SqT K H' a (xs.map V.int):=fun X s O=>(s.trans O.same).wH ha0
    have ha1:SqT K H a (xs.map V.int):=ha _ (aR.refl t0) O
    refine ⟨_,rfl,a,_,rfl,.inr ha1,_,rfl,A.p,C,A.dx,_,.ref A.ll,rfl,O.get 0,R.c,R.nL,rfl,A.ll,_,rfl,.inl (O.sq 3),rfl,_,rfl,ifN (ifI (fun hlen=>?_) fun hlen=>?_)⟩
    rotate_left
    · refine ⟨szl,fun e he=>qx .number (if_pos (fun z=>hlen (by rw [hxm,hul,z]))) e H sA he⟩
    have hll:S.ls.length=xs.length:=by rw [hxm] at hlen;omega
    have hst:step r S (.lapse xs)=_:=if_neg (not_not_intro hll.symm)
    refine ⟨_,rfl,a,rfl,⟨_,ha1⟩,fun lw hlw=>?_⟩
    refine Bw (K:=K) (xs:=xs.map V.int) (fun i τ H'=>Iv (∃ (v0:Option V) (bs:List Bool),τ=[v0]∧bs.length=i∧(bs.all id=true↔∀ x∈xs.take i,0≤x∧x≤1000000000000)∧Ow T H0 H' ((lw,.lst (bs.map V.bl)) :: (RX C A ex r S.day us S.ns vs++L))∧aR T H H')) ⟨trivial,none,[],rfl,rfl,⟨(fun _ x hx=>nomatch hx),fun _=>rfl⟩,O.mk' hlw rfl,sA.upd hlw (.inl hlw)⟩ (fun i τ H' _ ⟨_,_,_,_,_,_,O,_⟩=>ha (_ :: RX C A ex r S.day us S.ns vs) (aR.refl t0) O) ?_ ?_
    · rintro i y τ H4 hy ⟨-,v0,bs,rfl,hbl,hb,O,sA⟩
      obtain ⟨z,hz,rfl⟩:=ints_get hy
      have hi:=(List.getElem?_eq_some_iff.mp hz).1
      refine zX ⟨_,rfl,z,rfl,fun b hbz=>?_⟩
      refine ⟨_,O.get 0,aX (by rw [List.length_map];omega),?_⟩
      have hnew:H lw=none:=hlw
      generalize hE:upd _ _ _=Hn
      have sA:aR T H Hn:=hE ▸ sA.upd hnew (.inr ⟨_,O.get 0,rfl⟩)
      replace O:=Ow.nU O 0 rfl hE rfl
      refine ⟨trivial,_,bs++[b],rfl,by rw [List.length_append,hbl];rfl,?_,?_,sA⟩
      · rw [Tn.jh hz,List.all_append,Bool.and_eq_true,hb]
        constructor
        · rintro ⟨z1,z2⟩ y hy
          rcases List.mem_append.mp hy with h | h
          · exact z1 y h
          · rw [List.mem_singleton.mp h];exact hbz.mp (by simpa using z2)
        · intro w
          exact ⟨fun y hy=>w y (List.mem_append_left _ hy),by simpa using hbz.mpr (w z (List.mem_append_right _ (List.mem_singleton.mpr rfl)))⟩
      · rw [List.map_append];exact O
    clear O sA
    rintro τ H4 ⟨-,v0,bs,rfl,hbl,hb,O,sA⟩
    rw [hxm,List.take_length] at hb
    refine ⟨lw,_,rfl,O.sq 0,?_⟩
    cases hba:bs.all id with
    | false =>
      exact ⟨_,rfl,lM ⟨szl,fun e he=>qx .much (hst.trans (if_pos fun z=>by rw [hb.mpr z] at hba;cases hba)) e _ sA he⟩⟩
    | true =>
    have hxs:=hb.mp hba
    have hst:=hst.trans (if_neg (not_not_intro hxs))
    refine ⟨_,rfl,mW ?_⟩
    clear hb hba
    have O:=O.tail
    refine ⟨szl,fun fl hfl=>?_⟩
    walk_at "nw"
    refine ⟨_,rfl,a,_,rfl,ha (_ :: RX C A ex r S.day us S.ns vs) (aR.refl t0) O,?_⟩
    refine zq (K:=K) (xs:=xs.map V.int) (fun i σ H'=>Iv (∃ (Hb:Hp) (us' fs:List V) (v3 v4 v5:Option V),σ=[some (.ref A.p),some (.ref a),some (.ref fl),v3,v4,v5]∧Ow T Hb H' ((fl,.lst fs) :: (RX C A ex r S.day us' S.ns vs++L))∧aR T H0 Hb∧cR K Hb us' ((vU S.ls xs i).map pK)∧cR K Hb fs ((fall S.ls xs i).map dMv)))
      ⟨trivial,H0,us,[],none,none,none,rfl,O,aR.refl t0,by rw [oW];exact d0,.nil⟩ (fun i σ H' _ ⟨_,Hb,us',_,_,_,_,_,O,s,_⟩=>ha (_ :: RX C A ex r S.day us' S.ns vs) s O) ?_ ?_
    · rintro i y T0 σ H5 hy ⟨-,Hb,us',fs,v3,v4,v5,rfl,O,s0,d0,d2⟩ hT0
      obtain ⟨x,hx,rfl⟩:=ints_get hy
      have hi:=(List.getElem?_eq_some_iff.mp hx).1
      obtain ⟨l,hl⟩:∃ l,S.ls[i]?=some l:=⟨_,List.getElem?_eq_getElem (by omega)⟩
      obtain ⟨e1,e2⟩:=qZ hl hx
      obtain ⟨al,hal,hT⟩:=d0.jG e1
      have hil:i<us'.length:=(List.getElem?_eq_some_iff.mp hal).1
      have hfl2:fs.length≤i:=by have:=rD S.ls xs i;rw [d2.length,List.length_map];exact this
      walk_at "nw"
      refine ⟨T0,_,rfl,O.sqT 0,rfl,_,_,rfl,_,_,rfl,rfl,?_⟩
      have O:=O.tail
      refine ⟨_,rfl,A.p,C,A.dx,_,.ref A.ll,rfl,O.get 1,R.c,R.nL,rfl,_,rfl,A.ll,_,_,_,rfl,rfl,O.sq 4,dW hal,al,_,rfl,hT.mo O.same,?_⟩
      refine ⟨_,rfl,_,rfl,_,_,rfl,rfl,_,rfl,?_⟩
      refine ifD (fun hlt=>?_) (fun hge=>?_)
      · refine ⟨_,rfl,A.p,C,A.dx,_,.ref A.ll,rfl,O.get 1,R.c,R.nL,rfl,_,rfl,A.ll,_,_,_,rfl,rfl,O.sq 4,dW hal,_,rfl,al,l,x,rfl,hT.mo O.same,fun t ht=>?_⟩
        walk_at "nw"
        refine ⟨_,rfl,A.p,C,A.dx,_,.ref A.ll,rfl,O.get 2,R.c,R.nL,rfl,_,rfl,?_⟩
        refine jk O 5 rfl (gC hil) fun H6 O=>?_
        have O:Ow T Hb H6 ((t,.tup (m5 (wm l x))) :: (fl,.lst fs) :: (RX C A ex r S.day (us'.set i (.ref t)) S.ns vs++L)):=O
        refine ⟨_,rfl,.inl ⟨rfl,_,O.sq 1⟩,_,rfl,_,rfl,_,rfl,szl,fun t2 ht2=>?_⟩
        walk_at "nw"
        refine ⟨fl,_,_,rfl,rfl,O.get 2,aX (by omega),?_⟩
        walk_at "pt"
        have O:Ow T Hb _ ((t2,.tup [.int (i:Int),.int l.most,.int x]) :: (t,.tup (m5 (wm l x))) :: (fl,.lst (fs++[.ref t2])) :: (RX C A ex r S.day (us'.set i (.ref t)) S.ns vs++L)):=O
        obtain ⟨Hn2,O,sn,en⟩:=O.frz
        obtain ⟨Hn3,O,sn3,en2⟩:=O.frz
        have en:=sn3.keep _ _ en (fun _ z=>nomatch z)
        have sn:=sn.trans sn3
        refine ⟨trivial,Hn3,us'.set i (.ref t),fs++[V.ref t2],_,_,_,rfl,O,s0.trans sn,?_,?_⟩
        · rw [e2,show wm l (min l.most x)=wm l x by rw [Int.min_eq_right (by omega)],List.map_set]
          exact (d0.mo sn).set (Den.lic (l:=wm l x) (SqT.of en2)) i
        · unfold fall
          rw [hl,hx]
          simp only [if_pos hlt]
          rw [List.map_append]
          exact (d2.mo sn).append (.cons (Den.tup (ns:=[(i:Int),l.most,x]) (SqT.of en)) .nil)
      · refine ⟨trivial,Hb,us',fs,_,_,_,rfl,O,s0,by rw [tE hl hx hge];exact d0,?_⟩
        unfold fall
        rw [hl,hx]
        simp only [if_neg hge,List.append_nil]
        exact d2
    clear O d0
    rintro σ H5 ⟨-,Hb,us',fs,v3,v4,v5,rfl,O,s0,d0,d2⟩
    rw [hxm,oX hll] at d0
    rw [hxm] at d2
    refine ⟨_,rfl,A.p,C,A.dx,_,.ref A.lo,rfl,O.get 1,R.c,R.nO,rfl,.inl ⟨rfl,_,O.sq 6⟩,_,rfl,a,_,rfl,.inr ⟨ha (_ :: RX C A ex r S.day us' S.ns vs) s0 O,?_⟩⟩
    refine ⟨szl,fun t ht=>?_⟩
    walk_at "nw"
    refine ⟨A.lo,_,_,rfl,rfl,O.get 7,aX (by omega),?_⟩
    generalize hE:upd _ _ _=Hn
    have O:=Ow.nU O 7 rfl hE rfl
    obtain ⟨Hc,O,sc,e1⟩:=(show Ow T Hb Hn ((t,.tup [.str "lapse",.ref a]) :: (fl,.lst fs) :: (RX C A ex r S.day us' S.ns (vs++[V.ref t])++L)) from O).frz
    refine ⟨_,rfl,q _ hst Hc _ fl fs (s0.trans sc) ⟨us',vs++[V.ref t],O.mid,d0.mo sc,?_⟩ (d2.mo sc)⟩
    rw [List.map_append]
    exact ((d1.mo s0).mo sc).append (.cons (Den.Td e1 (.str _) (.tuple ((s0.trans sc).wH ha0) (cR.ints xs))) .nil)
end
abbrev cg:Stmt:=inClass (top 32) 0
theorem nF:aW ["self","below"] ["self","below"] (ak cg):=⟨rfl,rfl,rfl,by decide +kernel,rfl,by decide +kernel,by decide +kernel⟩
def uy (K:PySem.W.Frag) (T:eF) (C:Addr) (c:Ec):Sp:=fun vs H Q E=>∃ (p dx lv:Addr) (H0:Hp) (B:List (Addr × HO)) (r:List Int),vs=[.ref p,.ref lv]∧Ow T H0 H ((p,.ins C dx []) :: (dx,.own p) :: B)∧SqL K H lv (r.map V.int)∧r.length≤900 ∧
  (Rv.isR r=true→∀ (A:Rs) (H':Hp),A.p=p→Ow T H0 H' (RX C A [] r 0 [] [] []++B)→Q .non H')∧(Rv.isR r=false→∀ (e:Addr) (H':Hp),aR T H H'→H' e=none→E (.ref c.ig) (some e) H')
section
variable {P:Program} {w:World} {K:PySem.W.Frag} {mg:Str→Option Value} {base:Heap} {T:eF} {C:Addr} {c:Ec}
theorem Bb {f f1:Addr} {fd fd1:FuncData} (D:Dm K C "__init__" "Roll.__init__" cg ["self","below"] f fd) (B:Blt mg) (R:RC K C) (X_NoRiver:lO K mg "NoRiver" c.ig)
    (je:Df K mg "is_river" fj ["below"] f1 fd1) (w5:bQ P w K mg base CX0 2 f1 fd1 ["below"] (Ce K)) :
    bQ P w K mg base (CXE P w) 3 f fd ["self","below"] (uy K T C c):=by
  refine D.F.okX nF (fun vs H Q E h=>?_) (fun cdv A outer s H vs Q E hr h=>?_)
  · obtain ⟨_,_,_,_,_,_,rfl,_⟩:=h;rfl
  · obtain ⟨p,dx,lv,H0,L,r,rfl,O,hv,r9,q,qx⟩:=h
    refine ⟨_,(au (bT (jP (kW (aO w5 (hr.mono (by decide)) rfl je.m je.F.kp je.b .nil bU (aj (pv 1) ao))))
        (aA (fZ gZ rfl (fun _ _ z=>z) rfl X_NoRiver.m X_NoRiver.q (aj aF ao)))
        aV)
      (au (sS (pv 0) (cJ dD rfl B.list PyProof.Rows.boot_list (aj (pv 1) ao)) rfl)
      (au (sS (pv 0) aq rfl)
      (au (sS (pv 0) (bK ao) rfl)
      (au (sS (pv 0) (bK ao) rfl)
      (aA (sS (pv 0) (bK ao) rfl))))))),?_⟩
    refine ⟨_,rfl,lv,r,rfl,hv,by omega,fun H1 s1=>?_⟩
    have s1:=aR.of O.same.t1 s1
    cases hR:Rv.isR r with
    | false=>exact ⟨_,rfl,lM ⟨szl,fun e he=>qx hR e _ s1 he⟩⟩
    | true =>
    refine ⟨_,rfl,mW ?_⟩
    have hv:=s1.seq hv
    have O:=O.lZ s1
    refine ⟨_,rfl,lv,_,rfl,.inl hv,fun lb hlb=>?_⟩
    walk_at "nw"
    refine ⟨_,rfl,p,C,dx,_,rfl,O.get 1,R.c,R.nB,(by show 0<1000;decide),?_⟩
    walk_at "pt"
    refine ⟨_,rfl,p,C,dx,_,rfl,O.get 1,R.c,R.nD,(by show 1<1000;decide),?_⟩
    walk_at "pt"
    refine ⟨szl,fun ll hll=>?_⟩
    walk_at "nw"
    refine ⟨_,rfl,p,C,dx,_,rfl,O.get 2,R.c,R.nL,(by show 2<1000;decide),?_⟩
    walk_at "pt"
    refine ⟨szl,fun ln hln=>?_⟩
    walk_at "nw"
    refine ⟨_,rfl,p,C,dx,_,rfl,O.get 3,R.c,R.nN,(by show 3<1000;decide),?_⟩
    walk_at "pt"
    refine ⟨szl,fun lo hlo=>?_⟩
    walk_at "nw"
    refine ⟨_,rfl,p,C,dx,_,rfl,O.get 4,R.c,R.nO,(by show 4<1000;decide),?_⟩
    walk_at "pt"
    have O:=((((O.pull 1 rfl).pull 2 rfl).pull 3 rfl).pull 5 rfl).pull 5 rfl
    exact q hR ⟨p,dx,lb,ll,ln,lo⟩ _ rfl O
end
def DAt (K:PySem.W.Frag) (H:Hp) (t:Addr):jL→Prop
  | .turn=>SqT K H t [.str "turn"]
  | .file x s m b=>SqT K H t [.str "file",.str x,.int s,.int m,.int b]
  | .sell n y z=>SqT K H t [.str "sell",.int n,.str y,.str z]
  | .part n y m z=>SqT K H t [.str "part",.int n,.str y,.int m,.str z]
  | .drop n y=>SqT K H t [.str "drop",.int n,.str y]
  | .move n y s=>SqT K H t [.str "move",.int n,.str y,.int s]
  | .lapse xs=>∃ a,SqT K H t [.str "lapse",.ref a]∧SqT K H a (xs.map V.int)
theorem _root_.L2.Den.str_inv {K:PySem.W.Frag} {H:Hp} {v:V} {x:Str} (h:Den K H v (.str x)):v=.str x:=by cases h;rfl
theorem _root_.L2.cR.cons_inv {K:PySem.W.Frag} {H:Hp} {vs:List V} {d:PyData} {ds:List PyData} (h:cR K H vs (d :: ds)):∃ v us,vs=v :: us∧Den K H v d∧cR K H us ds:=by cases h with | cons a b=>exact ⟨_,_,rfl,a,b⟩
theorem _root_.L2.cR.nil_inv {K:PySem.W.Frag} {H:Hp} {vs:List V} (h:cR K H vs []):vs=[]:=by cases h;rfl
theorem uO {K:PySem.W.Frag} {H:Hp} {v:V} {d:jL} (h:Den K H v (jy d)):∃ t,v=.ref t∧DAt K H t d:=by
  cases d with
  | turn =>
    obtain ⟨t,zs,rfl,hT,dz⟩:=Den.iD h
    obtain ⟨v1,u1,rfl,e1,dn⟩:=dz.cons_inv
    obtain rfl:=e1.str_inv;obtain rfl:=dn.nil_inv
    exact ⟨t,rfl,hT⟩
  | file x s m b =>
    obtain ⟨t,zs,rfl,hT,dz⟩:=Den.iD h
    obtain ⟨v1,u1,rfl,e1,dz⟩:=dz.cons_inv
    obtain ⟨v2,u2,rfl,e2,dz⟩:=dz.cons_inv
    obtain ⟨v3,u3,rfl,e3,dz⟩:=dz.cons_inv
    obtain ⟨v4,u4,rfl,e4,dz⟩:=dz.cons_inv
    obtain ⟨v5,u5,rfl,e5,dn⟩:=dz.cons_inv
    obtain rfl:=e1.str_inv;obtain rfl:=e2.str_inv;obtain rfl:=e3.int_inv;obtain rfl:=e4.int_inv;obtain rfl:=e5.int_inv;obtain rfl:=dn.nil_inv
    exact ⟨t,rfl,hT⟩
  | sell n y z =>
    obtain ⟨t,zs,rfl,hT,dz⟩:=Den.iD h
    obtain ⟨v1,u1,rfl,e1,dz⟩:=dz.cons_inv
    obtain ⟨v2,u2,rfl,e2,dz⟩:=dz.cons_inv
    obtain ⟨v3,u3,rfl,e3,dz⟩:=dz.cons_inv
    obtain ⟨v4,u4,rfl,e4,dn⟩:=dz.cons_inv
    obtain rfl:=e1.str_inv;obtain rfl:=e2.int_inv;obtain rfl:=e3.str_inv;obtain rfl:=e4.str_inv;obtain rfl:=dn.nil_inv
    exact ⟨t,rfl,hT⟩
  | part n y m z =>
    obtain ⟨t,zs,rfl,hT,dz⟩:=Den.iD h
    obtain ⟨v1,u1,rfl,e1,dz⟩:=dz.cons_inv
    obtain ⟨v2,u2,rfl,e2,dz⟩:=dz.cons_inv
    obtain ⟨v3,u3,rfl,e3,dz⟩:=dz.cons_inv
    obtain ⟨v4,u4,rfl,e4,dz⟩:=dz.cons_inv
    obtain ⟨v5,u5,rfl,e5,dn⟩:=dz.cons_inv
    obtain rfl:=e1.str_inv;obtain rfl:=e2.int_inv;obtain rfl:=e3.str_inv;obtain rfl:=e4.int_inv;obtain rfl:=e5.str_inv;obtain rfl:=dn.nil_inv
    exact ⟨t,rfl,hT⟩
  | drop n y =>
    obtain ⟨t,zs,rfl,hT,dz⟩:=Den.iD h
    obtain ⟨v1,u1,rfl,e1,dz⟩:=dz.cons_inv
    obtain ⟨v2,u2,rfl,e2,dz⟩:=dz.cons_inv
    obtain ⟨v3,u3,rfl,e3,dn⟩:=dz.cons_inv
    obtain rfl:=e1.str_inv;obtain rfl:=e2.int_inv;obtain rfl:=e3.str_inv;obtain rfl:=dn.nil_inv
    exact ⟨t,rfl,hT⟩
  | move n y s =>
    obtain ⟨t,zs,rfl,hT,dz⟩:=Den.iD h
    obtain ⟨v1,u1,rfl,e1,dz⟩:=dz.cons_inv
    obtain ⟨v2,u2,rfl,e2,dz⟩:=dz.cons_inv
    obtain ⟨v3,u3,rfl,e3,dz⟩:=dz.cons_inv
    obtain ⟨v4,u4,rfl,e4,dn⟩:=dz.cons_inv
    obtain rfl:=e1.str_inv;obtain rfl:=e2.int_inv;obtain rfl:=e3.str_inv;obtain rfl:=e4.int_inv;obtain rfl:=dn.nil_inv
    exact ⟨t,rfl,hT⟩
  | lapse xs =>
    obtain ⟨t,zs,rfl,hT,dz⟩:=Den.iD h
    obtain ⟨v1,u1,rfl,e1,dz⟩:=dz.cons_inv
    obtain ⟨v2,u2,rfl,e2,dn⟩:=dz.cons_inv
    obtain rfl:=e1.str_inv;obtain rfl:=dn.nil_inv
    obtain ⟨a,ys,rfl,hA,dy⟩:=e2.iD
    obtain rfl:=dy.int_inv
    exact ⟨t,rfl,a,hT,hA⟩
theorem DAt.mo {K:PySem.W.Frag} {T:eF} {H H':Hp} {t:Addr} {d:jL} (h:DAt K H t d) (s:aR T H H'):DAt K H' t d:=by
  cases d with
  | lapse xs=>obtain ⟨a,h1,h2⟩:=h;exact ⟨a,s.wH h1,s.wH h2⟩
  | _=>exact s.wH h
theorem RA.drop {K:PySem.W.Frag} {T:eF} {C:Addr} {A:Rs} {ex:List (Str × V)} {r:List Int} {H0 H:Hp} {x:Addr × HO} {B:List (Addr × HO)} {S:RS} (h:RA K T C A ex r H0 H (x :: B) S):RA K T C A ex r H0 H B S:=by
  obtain ⟨us,vs,O,d0,d1⟩:=h
  exact ⟨us,vs,O.sub (List.Sublist.append_left (List.sublist_cons_self _ _) _),d0,d1⟩
def jo:jL→Prop
  | .file x _ _ _=>Asc x
  | .sell _ y z=>Asc y∧Asc z
  | .part _ y _ z=>Asc y∧Asc z
  | .drop _ y=>Asc y
  | .move _ y _=>Asc y
  | .lapse xs=>xs.length≤1000
  | .turn=>True
theorem qu {r:List Int} {S S':RS} {d:jL} (h:step r S d=.ok S'):S'.ds=S.ds++[d]:=by
  cases d <;> simp only [step,RS.nH] at h <;> (repeat' split at h) <;> first | (cases h;rfl) | cases h
theorem vB {r:List Int} {S S':RS} {d:jL} (h:step r S d=.ok S') (hn:S.ns.length=S.ls.length) (hl:S.ls.length≤60):S'.ns.length=S'.ls.length∧S'.ls.length≤60∧S'.ls.length≤S.ls.length + 1:=by
  cases d <;> simp only [step,RS.nH] at h <;> (repeat' split at h) <;> first | (cases h;done) | (cases h;simp only [List.length_append,List.length_set,List.length_cons,List.length_nil,jT,List.length_zipWith] at *;omega)
theorem xP {r:List Int} {ex:List (Str × V)} {S S':RS} {d:jL} (hp:RP r ex S) (hd:S.ds.length<9000) (h:step r S d=.ok S'):RP r ex S':=by
  obtain ⟨h1,h2,-⟩:=vB h hp.nn hp.l60
  exact ⟨hp.rv,hp.r40,h1,h2,by rw [qu h,List.length_append];exact hd,hp.e9,hp.ex⟩
theorem ifS {x y:Str} {A B:Prop} (h1:x=y→A) (h2:¬ x=y→B):if decide (V.str x=V.str y)=true then A else B:=ifD (fun h=>h1 (V.str.inj h)) (fun h=>h2 fun z=>h (by rw [z]))
theorem jN {x y:Str} {A B:Prop} (h:(x == y)=false) (b:B):if decide (V.str x=V.str y)=true then A else B:=ifS (fun z=>by rw [z,beq_self_eq_true] at h;cases h) fun _=>b
abbrev iH:Stmt:=top 34
theorem pX:aW ["roll","deed","kind"] ["roll","deed"] (ak iH):=⟨rfl,rfl,rfl,by decide +kernel,rfl,by decide +kernel,by decide +kernel⟩
def yq (K:PySem.W.Frag) (T:eF) (C:Addr) (c:Ec):Sp:=fun vs H Q E=>∃ (A:Rs) (ex:List (Str × V)) (H0:Hp) (B:List (Addr × HO)) (r:List Int) (S:RS) (t:Addr) (d:jL),vs=[.ref A.p,.ref t]∧RA K T C A ex r H0 H B S∧RP r ex S∧Den K H0 (.ref t) (jy d)∧jo d∧After K T C c A ex r H0 H B S d .non Q E
section
variable {P:Program} {w:World} {K:PySem.W.Frag} {mg:Str→Option Value} {base:Heap} {T:eF} {C:Addr} {c:Ec}
theorem After.any {A:Rs} {ex:List (Str × V)} {r:List Int} {H0 H:Hp} {B:List (Addr × HO)} {S:RS} {d:jL} {v v':V} {Q Q':VK} {E:XK} (h:After K T C c A ex r H0 H B S d v Q E) (f:∀ H',Q v H'→Q' v' H'):After K T C c A ex r H0 H B S d v' Q' E :=
  ⟨fun S' e Hb H' s a=>f H' (h.1 S' e Hb H' s a),h.2⟩
theorem Lb {f f1 f2 f3 f4 f5 f6 f7:Addr} {fd fd1 fd2 fd3 fd4 fd5 fd6 fd7:FuncData} (D:Df K mg "do_anew" iH ["roll","deed"] f fd) (R_Roll:RC K C)
    (jq:Dm K C "turn" "Roll.turn" fL ["self"] f1 fd1) (vd:bQ P w K mg base CX0 1 f1 fd1 ["self"] (xV K T C c))
    (jw:DmD K C "file" "Roll.file" fQ ["self","holder","start","most","back"] f2 fd2) (vm:bQ P w K mg base (CXE P w) 3 f2 fd2 ["self","holder","start","most","back"] (yd K T C c))
    (jr:Dm K C "sell" "Roll.sell" fM ["self","number","holder","to"] f3 fd3) (vf:bQ P w K mg base (CXE P w) 3 f3 fd3 ["self","number","holder","to"] (xX K T C c))
    (jt:Dm K C "part" "Roll.part" fO ["self","number","holder","most","to"] f4 fd4) (vg:bQ P w K mg base (CXE P w) 3 f4 fd4 ["self","number","holder","most","to"] (xY K T C c))
    (jx:Dm K C "drop" "Roll.drop" fU ["self","number","holder"] f5 fd5) (vo:bQ P w K mg base (CXE P w) 3 f5 fd5 ["self","number","holder"] (yh K T C c))
    (ju:Dm K C "move" "Roll.move" fP ["self","number","holder","start"] f6 fd6) (vh:bQ P w K mg base (CXE P w) 3 f6 fd6 ["self","number","holder","start"] (xZ K T C c))
    (gO:Dm K C "lapse" "Roll.lapse" cI ["self","numbers"] f7 fd7) (uo:bQ P w K mg base (CXE P w) 2 f7 fd7 ["self","numbers"] (rO K T C c)) :
    bQ P w K mg base (CXE P w) 4 f fd ["roll","deed"] (yq K T C c):=by
  refine D.F.okX pX (fun vs H Q E h=>?_) (fun cdv A outer s H vs Q E hr h=>?_)
  · obtain ⟨_,_,_,_,_,_,_,_,rfl,_⟩:=h;rfl
  · obtain ⟨A,ex,H0,L,r,S,t,d,rfl,ra,hp,dd,hok,q⟩:=h
    have hA:H A.p=some (Cr C A ex S.day):=by obtain ⟨us,vs,O,_⟩:=ra;exact O.get 0
    have sH:aR T H0 H:=by obtain ⟨us,vs,O,_⟩:=ra;exact O.same
    obtain ⟨t',e,d0A⟩:=uO dd
    cases e
    have dA:=d0A.mo sH
    refine ⟨_,(au (bw (i:=2) pX.nd rfl (Or.inl rfl) (aH aQ (pv 1) aq (fun _ _=>rfl)))
      (aA (bT (aK dY (pv 2) aF (aN _))
        (aA (bG (jF (pv 0) R_Roll.c jq.m vd (hr.mono (by decide)) jq.b .nil bU)))
        (aA (bT (aK dY (pv 2) aF (aN _))
          (aA (bG (gB (pv 0) R_Roll.c jw.m vm (hr.mono (by decide)) jw.b0 .nil kI (aj (aH aQ (pv 1) aq (fun _ _=>rfl)) (aj (aH aQ (pv 1) aq (fun _ _=>rfl)) (aj (aH aQ (pv 1) aq (fun _ _=>rfl)) (aj (aH aQ (pv 1) aq (fun _ _=>rfl)) ao)))))))
          (aA (bT (aK dY (pv 2) aF (aN _))
            (aA (bG (gB (pv 0) R_Roll.c jr.m vf (hr.mono (by decide)) jr.b .nil kI (aj (aH aQ (pv 1) aq (fun _ _=>rfl)) (aj (aH aQ (pv 1) aq (fun _ _=>rfl)) (aj (aH aQ (pv 1) aq (fun _ _=>rfl)) ao))))))
            (aA (bT (aK dY (pv 2) aF (aN _))
              (aA (bG (gB (pv 0) R_Roll.c jt.m vg (hr.mono (by decide)) jt.b .nil kI (aj (aH aQ (pv 1) aq (fun _ _=>rfl)) (aj (aH aQ (pv 1) aq (fun _ _=>rfl)) (aj (aH aQ (pv 1) aq (fun _ _=>rfl)) (aj (aH aQ (pv 1) aq (fun _ _=>rfl)) ao)))))))
              (aA (bT (aK dY (pv 2) aF (aN _))
                (aA (bG (gB (pv 0) R_Roll.c jx.m vo (hr.mono (by decide)) jx.b .nil kI (aj (aH aQ (pv 1) aq (fun _ _=>rfl)) (aj (aH aQ (pv 1) aq (fun _ _=>rfl)) ao)))))
                (aA (bT (aK dY (pv 2) aF (aN _))
                  (aA (bG (gB (pv 0) R_Roll.c ju.m vh (hr.mono (by decide)) ju.b .nil kI (aj (aH aQ (pv 1) aq (fun _ _=>rfl)) (aj (aH aQ (pv 1) aq (fun _ _=>rfl)) (aj (aH aQ (pv 1) aq (fun _ _=>rfl)) ao))))))
                  (aA (bG (gB (pv 0) R_Roll.c gO.m uo (hr.mono (by decide)) gO.b .nil kI (aj (aH aQ (pv 1) aq (fun _ _=>rfl)) ao))))))))))))))))),?_⟩
    cases d with
    | turn =>
      refine ⟨_,rfl,t,_,0,_,rfl,rfl,dA,rfl,?_⟩
      refine ⟨_,rfl,rfl,_,rfl,lM ?_⟩
      exact ⟨_,rfl,A.p,A.dx,_,rfl,hA,(by exact hp.ex.tn),A,ex,H0,L,r,S,rfl,ra,hp,q.1,fun k e=>by simp only [step] at e;cases e⟩
    | file x st m b =>
      refine ⟨_,rfl,t,_,0,_,rfl,rfl,dA,rfl,?_⟩
      refine ⟨_,rfl,rfl,_,rfl,jN rfl ?_⟩
      refine ⟨_,rfl,rfl,_,rfl,lM ?_⟩
      exact ⟨_,rfl,A.p,A.dx,_,rfl,hA,(by exact hp.ex.fi),_,rfl,t,_,1,_,rfl,rfl,dA,rfl,_,rfl,t,_,2,_,rfl,rfl,dA,rfl,_,rfl,t,_,3,_,rfl,rfl,dA,rfl,_,rfl,t,_,4,_,rfl,rfl,dA,rfl,A,ex,H0,L,r,S,x,st,m,b,_,rfl,.inr rfl,ra,hp,hok,q.any fun _ h=>h⟩
    | sell n y z =>
      refine ⟨_,rfl,t,_,0,_,rfl,rfl,dA,rfl,?_⟩
      refine ⟨_,rfl,rfl,_,rfl,jN rfl ?_⟩
      refine ⟨_,rfl,rfl,_,rfl,jN rfl ?_⟩
      refine ⟨_,rfl,rfl,_,rfl,lM ?_⟩
      exact ⟨_,rfl,A.p,A.dx,_,rfl,hA,(by exact hp.ex.se),_,rfl,t,_,1,_,rfl,rfl,dA,rfl,_,rfl,t,_,2,_,rfl,rfl,dA,rfl,_,rfl,t,_,3,_,rfl,rfl,dA,rfl,A,ex,H0,L,r,S,n,y,z,rfl,ra,hp,hok.2,q⟩
    | part n y m z =>
      refine ⟨_,rfl,t,_,0,_,rfl,rfl,dA,rfl,?_⟩
      refine ⟨_,rfl,rfl,_,rfl,jN rfl ?_⟩
      refine ⟨_,rfl,rfl,_,rfl,jN rfl ?_⟩
      refine ⟨_,rfl,rfl,_,rfl,jN rfl ?_⟩
      refine ⟨_,rfl,rfl,_,rfl,lM ?_⟩
      exact ⟨_,rfl,A.p,A.dx,_,rfl,hA,(by exact hp.ex.pa),_,rfl,t,_,1,_,rfl,rfl,dA,rfl,_,rfl,t,_,2,_,rfl,rfl,dA,rfl,_,rfl,t,_,3,_,rfl,rfl,dA,rfl,_,rfl,t,_,4,_,rfl,rfl,dA,rfl,A,ex,H0,L,r,S,n,y,m,z,rfl,ra,hp,hok.2,q.any fun _ h=>h⟩
    | drop n y =>
      refine ⟨_,rfl,t,_,0,_,rfl,rfl,dA,rfl,?_⟩
      refine ⟨_,rfl,rfl,_,rfl,jN rfl ?_⟩
      refine ⟨_,rfl,rfl,_,rfl,jN rfl ?_⟩
      refine ⟨_,rfl,rfl,_,rfl,jN rfl ?_⟩
      refine ⟨_,rfl,rfl,_,rfl,jN rfl ?_⟩
      refine ⟨_,rfl,rfl,_,rfl,lM ?_⟩
      exact ⟨_,rfl,A.p,A.dx,_,rfl,hA,(by exact hp.ex.dr),_,rfl,t,_,1,_,rfl,rfl,dA,rfl,_,rfl,t,_,2,_,rfl,rfl,dA,rfl,A,ex,H0,L,r,S,n,y,rfl,ra,hp,q⟩
    | move n y st =>
      refine ⟨_,rfl,t,_,0,_,rfl,rfl,dA,rfl,?_⟩
      refine ⟨_,rfl,rfl,_,rfl,jN rfl ?_⟩
      refine ⟨_,rfl,rfl,_,rfl,jN rfl ?_⟩
      refine ⟨_,rfl,rfl,_,rfl,jN rfl ?_⟩
      refine ⟨_,rfl,rfl,_,rfl,jN rfl ?_⟩
      refine ⟨_,rfl,rfl,_,rfl,jN rfl ?_⟩
      refine ⟨_,rfl,rfl,_,rfl,lM ?_⟩
      exact ⟨_,rfl,A.p,A.dx,_,rfl,hA,(by exact hp.ex.mv),_,rfl,t,_,1,_,rfl,rfl,dA,rfl,_,rfl,t,_,2,_,rfl,rfl,dA,rfl,_,rfl,t,_,3,_,rfl,rfl,dA,rfl,A,ex,H0,L,r,S,n,y,st,rfl,ra,hp,q⟩
    | lapse xs =>
      obtain ⟨a,hT0,hAx⟩:=d0A
      have hT:=sH.wH hT0
      refine ⟨_,rfl,t,_,0,_,rfl,rfl,hT,rfl,?_⟩
      refine ⟨_,rfl,rfl,_,rfl,jN rfl ?_⟩
      refine ⟨_,rfl,rfl,_,rfl,jN rfl ?_⟩
      refine ⟨_,rfl,rfl,_,rfl,jN rfl ?_⟩
      refine ⟨_,rfl,rfl,_,rfl,jN rfl ?_⟩
      refine ⟨_,rfl,rfl,_,rfl,jN rfl ?_⟩
      refine ⟨_,rfl,rfl,_,rfl,jN rfl ?_⟩
      exact ⟨_,rfl,A.p,A.dx,_,rfl,hA,(by exact hp.ex.lp),_,rfl,t,_,1,_,rfl,rfl,hT,rfl,A,ex,H0,L,r,S,a,xs,rfl,ra,hp,hok,hAx,fun S' e Hb H' fl fs s ra' _=>q.1 S' e Hb H' s ra'.drop,q.2⟩
end
noncomputable def replay (r:List Int):RS→List jL→Except EK RS
  | S,[]=>.ok S
  | S,d :: ds=>match step r S d with | .ok S'=>replay r S' ds | .error k=>.error k
theorem gA {r:List Int}:∀ {S S':RS} {ds:List jL} {d:jL},replay r S ds=.ok S'→replay r S (ds++[d])=step r S' d
  | S,S',[],d,h=>by
    cases h
    show (match step r S d with | .ok S'=>replay r S' [] | .error k=>.error k)=_
    cases step r S d <;> rfl
  | S,S',e :: ds,d,h=>by
    simp only [replay,List.cons_append] at h ⊢
    cases hs:step r S e with
    | ok S1 =>
      rw [hs] at h
      exact gA h
    | error k=>rw [hs] at h;cases h
theorem mV {r:List Int} {k:EK}:∀ {S S':RS} {ds es:List jL},replay r S ds=.ok S'→replay r S' es=.error k→replay r S (ds++es)=.error k
  | S,S',[],es,h,h2=>by cases h;exact h2
  | S,S',e :: ds,es,h,h2=>by
    simp only [replay,List.cons_append] at h ⊢
    cases hs:step r S e with
    | ok S1=>rw [hs] at h;exact mV h h2
    | error k=>rw [hs] at h;cases h
abbrev RS.new:RS:=⟨0,[],[],[]⟩
theorem Ow.Wn {T:eF} {H0 H:Hp} {L:List (Addr × HO)} {e:Addr} {o:HO} (O:Ow T H0 H L) (he:H e=none):Ow T H0 (upd H e o) L:=O.lZ ((aR.refl O.same.t1).upd he (.inl he))
abbrev eY:Stmt:=top 35
theorem lU:aW ["below","deeds","roll","deed"] ["below","deeds"] (ak eY):=⟨rfl,rfl,rfl,by decide +kernel,rfl,by decide +kernel,by decide +kernel⟩
def qw (K:PySem.W.Frag) (T:eF) (C:Addr) (c:Ec):Sp:=fun vs H Q E=>∃ (lv ld:Addr) (H0:Hp) (B:List (Addr × HO)) (r:List Int) (ts:List V) (ds:List jL),vs=[.ref lv,.ref ld]∧Ow T H0 H B∧SqL K H lv (r.map V.int)∧r.length≤40∧(∀ (Hb H':Hp) (X:List (Addr × HO)),aR T H0 Hb→Ow T Hb H' (X++B)→SqL K H' ld ts)∧cR K H0 ts (ds.map jy)∧(∀ d∈ds,jo d)∧ds.length≤1000∧(Rv.isR r=true→Rv.mq r) ∧
  (Rv.isR r=true→∀ S',replay r RS.new ds=.ok S'→∀ (A:Rs) (Hb H':Hp),aR T H0 Hb→RA K T C A [] r Hb H' B S'→Q (.ref A.p) H') ∧
  (Rv.isR r=true→∀ k,replay r RS.new ds=.error k→∀ (e:Addr) (Hb H':Hp),aR T H0 Hb→Ow T Hb H' B→H' e=none→E (.ref (c.at_ k)) (some e) H') ∧
  (Rv.isR r=false→∀ (e:Addr) (Hb H':Hp),aR T H0 Hb→Ow T Hb H' B→H' e=none→E (.ref c.ig) (some e) H')
section
variable {P:Program} {w:World} {K:PySem.W.Frag} {mg:Str→Option Value} {base:Heap} {T:eF} {C f1:Addr} {c:Ec}
theorem K4 {f f2:Addr} {fd fd1 fd2:FuncData} (D:Df K mg "replayed" eY ["below","deeds"] f fd) (R_Roll:Cl K mg "Roll" C f1 yw)
    (dH:Dm K C "__init__" "Roll.__init__" cg ["self","below"] f1 fd1) (jm:bQ P w K mg base (CXE P w) 3 f1 fd1 ["self","below"] (uy K T C c))
    (jZ:Df K mg "do_anew" iH ["roll","deed"] f2 fd2) (zW:bQ P w K mg base (CXE P w) 4 f2 fd2 ["roll","deed"] (yq K T C c)) :
    bQ P w K mg base (CXE P w) 5 f fd ["below","deeds"] (qw K T C c):=by
  refine D.F.okX lU (fun vs H Q E h=>?_) (fun cdv A outer s H vs Q E hr h=>?_)
  · obtain ⟨_,_,_,_,_,_,_,rfl,_⟩:=h;rfl
  · obtain ⟨lv,ld,H0,L,r,ts,ds,rfl,O,hv,r40,hL,dd,hok,hdl,hRr,q,qE,qR⟩:=h
    have htl:ts.length=ds.length:=by rw [dd.length,List.length_map]
    refine ⟨_,(au (bw (i:=2) lU.nd rfl (Or.inl rfl) (KY R_Roll.k jm (hr.mono (by decide)) rfl R_Roll.m dH.b .nil kI (aj (pv 0) ao)))
      (au (oJ PassesOwn.leaving rfl (qM (pv 1)) (bI (i:=3) lU.nd rfl (Or.inl rfl))
        (aA (bG (aO zW (hr.mono (by decide)) rfl jZ.m jZ.F.kp jZ.b .nil kI (aj (pv 2) (aj (pv 3) ao))))))
      (aA (bf (pv 2))))),?_⟩
    refine ⟨_,rfl,?_⟩
    intro x dx nx ndx nex
    have hx':(upd H dx (HO.own x)) x=none:=by rw [bB nex.symm];exact nx
    have O1:=(O.mk' ndx (o:=.own x) rfl).mk' (a:=x) (o:=.ins C dx []) hx' rfl
    have s1:aR T H (upd (upd H dx (.own x)) x (.ins C dx [])):=((aR.refl O.same.t1).upd ndx (.inl ndx)).upd nx (.inl hx')
    refine ⟨x,dx,lv,H0,_,r,rfl,O1,s1.seq hv,by omega,fun hR A H5 eA O5=>⟨rfl,?_⟩,fun hR e H' s' he=>?_⟩
    rotate_left
    · exact qR hR e H0 H' (aR.refl O.same.t0) ((O1.lZ s').sub (List.Sublist.cons _ (List.sublist_cons_self _ _))) he
    subst eA
    clear O1 nx ndx nex hx' s1
    refine ⟨_,rfl,ld,rfl,⟨_,hL H0 _ _ (aR.refl O.same.t0) O5⟩,?_⟩
    refine Br (K:=K) (xs:=ts) (fun i σ H'=>Iv (∃ (v3:Option V) (Hb:Hp) (S:RS),σ=[some (.ref lv),some (.ref ld),some (.ref A.p),v3]∧aR T H0 Hb∧RA K T C A [] r Hb H' L S∧RP r [] S∧S.ds.length=i∧replay r RS.new (ds.take i)=.ok S))
      ⟨trivial,none,H0,RS.new,rfl,aR.refl O.same.t0,⟨[],[],O5,.nil,.nil⟩,⟨hRr hR,r40,rfl,by decide,by decide,by decide,Mh.nil⟩,rfl,rfl⟩ (fun i σ H' _ ⟨_,_,Hb,S,_,s,⟨us,vs,O,_⟩,_⟩=>hL Hb H' (RX C A [] r S.day us S.ns vs) s O) ?_ ?_
    · clear O O5
      rintro i y σ H6 hy ⟨-,v3,Hb,S,rfl,sb,ra,hp,hSi,hre⟩
      have hi:=(List.getElem?_eq_some_iff.mp hy).1
      obtain ⟨d,hd⟩:∃ d,ds[i]?=some d:=⟨_,List.getElem?_eq_getElem (by omega)⟩
      obtain ⟨v,hv1,hv2⟩:=dd.get (i:=i) (d:=jy d) (by rw [List.getElem?_map,hd];rfl)
      rw [hy] at hv1
      cases hv1
      obtain ⟨t,e,-⟩:=uO hv2
      subst e
      have hsn:replay r RS.new (ds.take (i + 1))=step r S d:=by rw [Tn.jh hd];exact gA hre
      refine ⟨_,rfl,_,rfl,A,[],Hb,L,r,S,t,d,rfl,ra,hp,hv2.mo sb,hok d (List.mem_of_getElem? hd),fun S' hs Hc H7 sc ra'=>?_,fun k hk e H7 s7 he=>?_⟩
      · exact ⟨trivial,_,Hc,S',rfl,sb.trans sc,ra',xP hp (by omega) hs,by rw [qu hs,List.length_append,hSi];rfl,hsn.trans hs⟩
      · obtain ⟨us,vs,O,_⟩:=ra
        refine qE hR k ?_ e Hb H7 sb ((O.lZ s7).sub (List.sublist_append_right _ _)) he
        have h1:ds=ds.take i++(d :: ds.drop (i + 1)):=by
          obtain ⟨h1,h2⟩:=List.getElem?_eq_some_iff.mp hd
          rw [← h2,← List.drop_eq_getElem_cons h1,List.take_append_drop]
        rw [h1]
        refine mV hre ?_
        simp only [replay,hk]
    clear O O5
    rintro σ H6 ⟨-,v3,Hb,S,rfl,sb,ra,hp,hSi,hre⟩
    rw [htl,List.take_length] at hre
    exact ⟨_,rfl,q hR S hre A Hb H6 sb ra⟩
end
theorem Sh.str (n:Nat) {x:Str} (h:Asc x):Sh n (.str x):=by
  refine ⟨?_,by simp [PyData.depth]⟩
  rw [PyData.canLay0]
  show x.cps.all (·<0x110000)=true
  rw [Array.all_eq_true]
  intro i hi
  have:=of_decide_eq_true (Array.all_eq_true.mp h.1 i hi)
  exact decide_eq_true (by omega)
theorem Sh.strs (n:Nat) {xs:List Str} (h:∀ x∈xs,Asc x):Sh (n + 1) (.list (xs.map PyData.str)):=.list fun d hd=>by
  obtain ⟨i,hi,rfl⟩:=List.mem_map.mp hd
  exact Sh.str n (h i hi)
theorem j9:∀ x∈(["turn","file","sell","part","drop","move","lapse"]:List Str),Asc x:=fun x hx=>by
  simp only [List.mem_cons,List.not_mem_nil,or_false] at hx
  rcases hx with rfl | rfl | rfl | rfl | rfl | rfl | rfl <;> exact ⟨by decide +kernel,by decide +kernel⟩
theorem Sh.deed {d:jL} (h:jo d):Sh 2 (jy d):=by
  cases d with
  | turn =>
    exact .tuple fun e he=>by
      simp only [List.mem_cons,List.not_mem_nil,or_false] at he
      subst he;exact Sh.str _ (j9 _ (by simp))
  | file x s m b =>
    exact .tuple fun e he=>by
      simp only [List.mem_cons,List.not_mem_nil,or_false] at he
      rcases he with rfl | rfl | rfl | rfl | rfl
      · exact Sh.str _ (j9 _ (by simp))
      · exact Sh.str _ h
      · exact Sh.int _ _
      · exact Sh.int _ _
      · exact Sh.int _ _
  | sell n y z =>
    exact .tuple fun e he=>by
      simp only [List.mem_cons,List.not_mem_nil,or_false] at he
      rcases he with rfl | rfl | rfl | rfl
      · exact Sh.str _ (j9 _ (by simp))
      · exact Sh.int _ _
      · exact Sh.str _ h.1
      · exact Sh.str _ h.2
  | part n y m z =>
    exact .tuple fun e he=>by
      simp only [List.mem_cons,List.not_mem_nil,or_false] at he
      rcases he with rfl | rfl | rfl | rfl | rfl
      · exact Sh.str _ (j9 _ (by simp))
      · exact Sh.int _ _
      · exact Sh.str _ h.1
      · exact Sh.int _ _
      · exact Sh.str _ h.2
  | drop n y =>
    exact .tuple fun e he=>by
      simp only [List.mem_cons,List.not_mem_nil,or_false] at he
      rcases he with rfl | rfl | rfl
      · exact Sh.str _ (j9 _ (by simp))
      · exact Sh.int _ _
      · exact Sh.str _ h
  | move n y s =>
    exact .tuple fun e he=>by
      simp only [List.mem_cons,List.not_mem_nil,or_false] at he
      rcases he with rfl | rfl | rfl | rfl
      · exact Sh.str _ (j9 _ (by simp))
      · exact Sh.int _ _
      · exact Sh.str _ h
      · exact Sh.int _ _
  | lapse xs =>
    exact .tuple fun e he=>by
      simp only [List.mem_cons,List.not_mem_nil,or_false] at he
      rcases he with rfl | rfl
      · exact Sh.str _ (j9 _ (by simp))
      · exact .tuple fun e he=>by
          obtain ⟨i,_,rfl⟩:=List.mem_map.mp he
          exact Sh.int _ _
theorem Sh.Bu {ds:List jL} (h:∀ d∈ds,jo d):Sh 3 (.list (ds.map jy)):=.list fun e he=>by
  obtain ⟨d,hd,rfl⟩:=List.mem_map.mp he
  exact Sh.deed (h d hd)
abbrev fK:Stmt:=top 38
theorem m6:aW ["cell","place","spot"] ["cell","place"] (ak fK):=⟨rfl,rfl,rfl,by decide +kernel,rfl,by decide +kernel,by decide +kernel⟩
def dv (c k:Int):Int:=(c % 999983 + 400009 + 7001 * k) * (c % 999983 + 400009 + 7001 * k) * (c % 999983 + 400009 + 7001 * k) * (2 * k + 3) % 1000000007
theorem VR (c k:Int):0≤dv c k:=Int.emod_nonneg _ (by decide)
def Mt:Sp:=fun vs H Q _=>∃ (c k:Int),vs=[.int c,.int k]∧0≤k∧k≤1000∧Q (.int (dv c k)) H
theorem Ui {f:Addr} {fd:FuncData} (D:Df K mg "_law_draw" fK ["cell","place"] f fd):bQ P w K mg base CX0 1 f fd ["cell","place"] Mt:=by
  refine D.F.ok m6 (fun vs H Q E h=>?_) (fun cdv A outer s H vs Q E hr h=>?_)
  · obtain ⟨c,k,rfl,_⟩:=h;rfl
  · obtain ⟨c,k,rfl,h0,h1,q⟩:=h
    have a0:=Int.emod_nonneg c (show (999983:Int)≠0 by decide)
    have a1:=Int.emod_lt_of_pos c (show (0:Int)<999983 by decide)
    refine ⟨_,(au (bw (i:=2) m6.nd rfl (Or.inl rfl) (aY iY (aY iY (aY bN (pv 0) aq) aq) (aY nu aq (pv 1))))
      (aA (bf (aY bN (aY nu (aY nu (aY nu (pv 2) (pv 2)) (pv 2)) (aY iY (aY nu aq (pv 1)) aq)) aq)))),?_⟩
    refine ⟨_,rfl,_,_,rfl,rfl,(by show (0:Int)<999983;decide),_,_,rfl,rfl,_,rfl,_,_,rfl,rfl,.inl ⟨by decide,by decide⟩,_,_,rfl,rfl,?_⟩
    exact ⟨_,rfl,_,rfl,_,_,rfl,rfl,.inl ⟨by omega,by omega⟩,_,rfl,_,_,rfl,rfl,.inr ⟨by omega,by omega⟩,_,rfl,_,_,rfl,rfl,.inl ⟨by decide,by decide⟩,_,_,rfl,rfl,_,_,rfl,rfl,.inr ⟨by omega,by omega⟩,_,_,rfl,rfl,(by show (0:Int)<1000000007;decide),q⟩
abbrev dg:Stmt:=top 39
theorem qI:aW ["cell","many"] ["cell","many"] (ak dg):=⟨rfl,rfl,rfl,by decide +kernel,rfl,by decide +kernel,by decide +kernel⟩
def dvs (c:Int) (n:Nat):List Int:=(List.range n).map fun (i:Nat)=>dv c (i:Int)
theorem Bt (c:Int) (n:Nat):dvs c (n + 1)=dvs c n++[dv c (n:Int)]:=by
  unfold dvs;rw [List.range_succ,List.map_append];rfl
theorem mY (c:Int) (n:Nat):(dvs c n).length=n:=by unfold dvs;simp
theorem v7 {c:Int} {n k:Nat} (h:k<n):(dvs c n)[k]?=some (dv c (k:Int)):=by
  unfold dvs;rw [List.getElem?_map,List.getElem?_range h];rfl
def yg (T:eF):Sp:=fun vs H Q _=>∃ (c:Int) (n:Nat),vs=[.int c,.int (n:Int)]∧n≤100∧TabsOk T H∧uW T H (fun xs=>xs=(dvs c n).map V.int) Q
theorem Nf {f f1:Addr} {fd fd1:FuncData} (D:Df K mg "_law_draws" dg ["cell","many"] f fd) (B:Blt mg)
    (iz:Df K mg "_law_draw" fK ["cell","place"] f1 fd1) (u6:bQ P w K mg base CX0 1 f1 fd1 ["cell","place"] Mt):bQ P w K mg base CX0 2 f fd ["cell","many"] (yg T):=by
  refine D.F.ok qI (fun vs H Q E h=>?_) (fun cdv A outer s H vs Q E hr h=>?_)
  · obtain ⟨c,n,rfl,_⟩:=h;rfl
  · obtain ⟨c,n,rfl,h1,tk,q⟩:=h
    refine ⟨_,(aA (bf (j6 (ak dg) rfl ["cell","many"] rfl ["place","cell"] [none,some 0] (by decide +kernel) (by decide +kernel) (by decide +kernel) rfl (jR rfl B.range (aj (pv 1) ao)) (fun _ _ _=>(bI (i:=0) (show (["place","cell"]:List Str).Nodup by decide +kernel) rfl (Or.inl rfl))) (fun _ _ _=>ji) (fun _ _ _=>(aO u6 (hr.mono (by decide)) rfl iz.m iz.F.kp iz.b .nil bU (aj (pv 1) (aj (pv 0) ao))))))),?_⟩
    have O:=Ow.refl tk
    refine ⟨_,rfl,n,rfl,by omega,by omega,fun lw hlw=>?_⟩
    refine jU (fun i τ H'=>Iv (∃ (v0:Option V),τ=[v0,some (.int c)]∧Ow T H H' [(lw,.lst ((dvs c i).map V.int))])) ⟨trivial,none,rfl,O.mk' hlw rfl⟩ ?_ ?_
    · rintro i τ H4 hi ⟨-,v0,rfl,O⟩
      refine zX ⟨_,rfl,_,rfl,c,_,rfl,by omega,by omega,?_⟩
      refine ⟨_,O.get 0,aX (by rw [List.length_map,mY];omega),?_⟩
      walk_at "pt"
      refine ⟨trivial,_,rfl,?_⟩
      rw [Bt,List.map_append,← Int.zero_add (i:Int)];exact O
    rintro τ H4 ⟨-,v0,rfl,O⟩
    rw [show ((n:Int)).toNat=n by omega] at O
    exact O.ret 0 rfl q rfl
abbrev cW:Stmt:=top 40
theorem fY:aW ["cell","xs","many","spots","below","k"] ["cell"] (ak cW):=⟨rfl,rfl,rfl,by decide +kernel,rfl,by decide +kernel,by decide +kernel⟩
def vH (T:eF):Sp:=fun vs H Q _=>∃ (c:Int),vs=[.int c]∧TabsOk T H∧uW T H (fun xs=>∃ r,xs=r.map V.int∧Rv.mq r∧1≤r.length∧r.length≤12) Q
theorem MF {n:Nat} {w:Int} (h0:0≤w) (h1:w<2):∃ s:Int,atI [V.int 1,V.int ((n:Int) - 1)] w=some (V.int s)∧s=(if w=0 then 1 else (n:Int) - 1):=by
  rcases (by omega:w=0∨w=1) with e | e <;> subst e <;> exact ⟨_,rfl,rfl⟩
theorem Al {f f1:Addr} {fd fd1:FuncData} (D:Df K mg "_law_river" cW ["cell"] f fd) (B:Blt mg)
    (bD:Df K mg "_law_draws" dg ["cell","many"] f1 fd1) (iM:bQ P w K mg base CX0 2 f1 fd1 ["cell","many"] (yg T)):bQ P w K mg base CX0 3 f fd ["cell"] (vH T):=by
  refine D.F.ok fY (fun vs H Q E h=>?_) (fun cdv A outer s H vs Q E hr h=>?_)
  · obtain ⟨_,rfl,_⟩:=h;rfl
  · obtain ⟨c,rfl,tk,q⟩:=h
    refine ⟨_,(au (bw (i:=1) fY.nd rfl (Or.inr rfl) (aO iM (hr.mono (by decide)) rfl bD.m bD.F.kp bD.b .nil bU (aj (aY jl (pv 0) aq) (aj aq ao))))
      (au (bw (i:=2) fY.nd rfl (Or.inr rfl) (aY iY aq (aY bN (pv 0) aq)))
      (au (jQ (i:=3) (ak cW) rfl ["cell","xs","many","spots","below","k"] rfl ["k","many","xs"] [none,some 2,some 1] (by decide +kernel) (by decide +kernel) (by decide +kernel) rfl fY.nd rfl rfl (jR rfl B.range (aj (pv 2) ao)) (fun _ _ _=>(bI (i:=0) (show (["k","many","xs"]:List Str).Nodup by decide +kernel) rfl (Or.inl rfl))) (fun _ _ _=>ji) (fun _ _ _=>(aY bN (aY iY (aH (lE (K:=K) rfl) (pv 2) aq (fun _ _=>rfl)) (aY nu (pv 0) (aH (lE (K:=K) rfl) (bK (aj aq (aj (aY oK (pv 1) aq) ao))) (aY bN (aH (lE (K:=K) rfl) (pv 2) aq (fun _ _=>rfl)) aq) (fun _ _=>rfl)))) (pv 1))) rfl)
      (au (jQ (i:=4) (ak cW) rfl ["cell","xs","many","spots","below","k"] rfl ["k"] [none] (by decide +kernel) (by decide +kernel) (by decide +kernel) rfl fY.nd rfl rfl (jR rfl B.range (aj (pv 2) ao)) (fun _ _ _=>(bI (i:=0) (show (["k"]:List Str).Nodup by decide +kernel) rfl (Or.inl rfl))) (fun _ _ _=>ji) (fun _ _ _=>(jc fB aq)) rfl)
      (au (oJ PassesOwn.never rfl (yH rfl B.range (aj aq (aj (pv 2) ao))) (bI (i:=5) fY.nd rfl (Or.inl rfl))
        (aA (bT (aK sW (aY bN (aH aJ (pv 1) (pv 5) (fun _ _=>rfl)) aq) aq (aN _))
          (aA (gY (aH aJ (pv 3) (aY bN (aY jl (aH aJ (pv 1) (pv 5) (fun _ _=>rfl)) aq) (pv 5)) (fun _ _=>rfl)) (iW (pv 4) (aH aJ (pv 3) (pv 5) (fun _ _=>rfl)) set_list)))
          aV)))
      (aA (bf (pv 4)))))))),?_⟩
    have O:=Ow.refl tk
    have c0:=Int.emod_nonneg c (show (12:Int)≠0 by decide)
    have c1:=Int.emod_lt_of_pos c (show (0:Int)<12 by decide)
    refine ⟨_,rfl,_,_,rfl,rfl,⟨by decide,by decide⟩,_,14,rfl,by omega,tk,O.zY fun lx H2 xs O e=>?_⟩
    subst e
    refine ⟨_,rfl,_,_,rfl,rfl,(by show (0:Int)<12;decide),_,_,rfl,rfl,?_⟩
    dsimp only
    obtain ⟨n,hn⟩:∃ n:Nat,1 + c % 12=(n:Int):=⟨(1 + c % 12).toNat,by omega⟩
    rw [hn]
    have n1:1≤n:=by omega
    have n12:n≤12:=by omega
    have hx14:=mY (c / 12) 14
    have g12:(dvs (c / 12) 14)[12]?=some (dv (c / 12) 12):=v7 (by decide)
    have g13:(dvs (c / 12) 14)[13]?=some (dv (c / 12) 13):=v7 (by decide)
    have gk:∀ k:Nat,k<14→(dvs (c / 12) 14)[k]?=some (dv (c / 12) (k:Int)):=fun k hk=>v7 hk
    generalize dvs (c / 12) 14=ys at O hx14 g12 g13 gk
    have w0:=Int.emod_nonneg (dv (c / 12) 13) (show (2:Int)≠0 by decide)
    have w1:=Int.emod_lt_of_pos (dv (c / 12) 13) (show (0:Int)<2 by decide)
    obtain ⟨st,hst,est⟩:=MF (n:=n) w0 w1
    have hst2:st=1∨st=(n:Int) - 1:=by rw [est];split <;> simp
    have nn:(0:Int)<(n:Int):=by omega
    generalize dv (c / 12) 12=x1 at g12
    generalize dv (c / 12) 13=x2 at g13 hst w0 w1
    refine ⟨_,rfl,n,rfl,by omega,by omega,fun acc hacc=>?_⟩
    refine jU (fun i τ H'=>Iv (∃ (v0:Option V),τ=[v0,some (.int (n:Int)),some (.ref lx)]∧Ow T H H' [(acc,.lst ((Rv.spots n x1 st i).map V.int)),(lx,.lst (ys.map V.int))])) ⟨trivial,none,rfl,O.mk' hacc rfl⟩ ?_ ?_
    · rintro i τ H3 hi ⟨-,v0,rfl,O⟩
      have hi:i<n:=by omega
      rw [show (0:Int) + (i:Int)=(i:Int) by omega]
      refine zX ?_
      refine ⟨_,rfl,lx,_,12,_,rfl,rfl,O.sq 1,bJ (i:=12) g12,_,rfl,_,rfl,_,_,rfl,rfl,szl,fun l3 h3=>?_⟩
      walk_at "nw"
      refine ⟨_,rfl,lx,_,13,_,rfl,rfl,O.sq 2,bJ (i:=13) g13,_,_,rfl,rfl,(by show (0:Int)<2;decide),l3,_,_,_,rfl,rfl,O.sq 0,hst,_,_,rfl,rfl,.inl ⟨by omega,by omega⟩,_,_,rfl,rfl,_,rfl,_,_,rfl,rfl,nn,?_⟩
      have O:=O.tail
      refine ⟨_,O.get 0,aX (by rw [List.length_map,Rv.xQ];omega),?_⟩
      walk_at "pt"
      refine ⟨trivial,_,rfl,?_⟩
      rw [Rv.wG,List.map_append]
      rw [Int.mul_comm (i:Int) st] at O
      exact O
    rintro τ H3 ⟨-,v0,rfl,O⟩
    rw [Int.toNat_natCast] at O
    refine ⟨_,rfl,n,rfl,by omega,by omega,fun lb hlb=>?_⟩
    refine jU (fun i τ H'=>Iv (∃ (v0:Option V),τ=[v0]∧Ow T H H' [(lb,.lst ((List.replicate i (-1:Int)).map V.int)),(acc,.lst ((Rv.spots n x1 st n).map V.int)),(lx,.lst (ys.map V.int))])) ⟨trivial,none,rfl,O.mk' hlb rfl⟩ ?_ ?_
    · rintro i τ H3 hi ⟨-,v0,rfl,O⟩
      refine zX ?_
      refine ⟨1,rfl,_,O.get 0,aX (by rw [List.length_map,List.length_replicate];omega),?_⟩
      walk_at "pt"
      refine ⟨trivial,_,rfl,?_⟩
      rw [List.replicate_succ',List.map_append];exact O
    rintro τ H4 ⟨-,v0,rfl,O⟩
    rw [Int.toNat_natCast] at O
    refine ⟨_,rfl,1,(n:Int),rfl,⟨by omega,by omega,by omega,by omega⟩,?_⟩
    rw [show ((n:Int) - 1).toNat=n - 1 by omega]
    refine tH (n:=n - 1) (fun i σ H'=>Iv (∃ (v5:Option V) (b:List Int),σ=[some (.int c),some (.ref lx),some (.int (n:Int)),some (.ref acc),some (.ref lb),v5]∧Rv.Lnk n (Rv.spot n x1 st) (i + 1) b ∧
      Ow T H H' [(lb,.lst (b.map V.int)),(acc,.lst ((Rv.spots n x1 st n).map V.int)),(lx,.lst (ys.map V.int))])) ⟨trivial,none,_,rfl,Rv.Lnk.start _ _,O⟩ ?_ ?_
    · rintro i σ H3 hi ⟨-,v5,b,rfl,L,O⟩
      rw [show (1:Int) + (i:Int)=((i + 1:Nat):Int) by omega]
      have gz:=gk (i + 1) (by omega)
      generalize dv (c / 12) ((i + 1:Nat):Int)=z at gz
      refine ⟨_,rfl,_,rfl,lx,_,_,_,rfl,rfl,O.sq 2,bJ gz,_,_,rfl,rfl,(by show (0:Int)<9;decide),rfl,_,rfl,ifN (ifI (fun hc=>?_) fun hc=>?_)⟩
      · exact ⟨trivial,_,b,rfl,L.skip,O⟩
      · have m0:=Int.emod_nonneg (z / 9) (show ((i + 1:Nat):Int)≠0 by omega)
        have m1:=Int.emod_lt_of_pos (z / 9) (show (0:Int)<((i + 1:Nat):Int) by omega)
        obtain ⟨j,hj⟩:∃ j:Nat,z / 9 % ((i + 1:Nat):Int)=(j:Int):=⟨(z / 9 % ((i + 1:Nat):Int)).toNat,by omega⟩
        have hjk:j<i + 1:=by omega
        refine ⟨_,rfl,_,rfl,_,rfl,lx,_,_,_,rfl,rfl,O.sq 2,bJ gz,_,_,rfl,rfl,⟨by decide,by decide⟩,_,rfl,_,_,rfl,rfl,(by show (0:Int)<((i + 1:Nat):Int);omega),?_⟩
        dsimp only
        rw [hj]
        refine ⟨acc,_,_,_,rfl,rfl,O.sq 1,bJ (Rv.vC (by omega)),?_⟩
        have s0:=Rv.xR (x:=x1) (s:=st) nn (i + 1)
        have s1:=Rv.xT (x:=x1) (s:=st) nn (i + 1)
        refine ⟨_,rfl,_,rfl,_,rfl,acc,_,_,_,rfl,rfl,O.sq 1,bJ (Rv.vC (by omega)),lb,_,_,_,rfl,rfl,O.get 0,Uk s0 (by rw [List.length_map,L.len];exact s1),?_⟩
        walk_at "pt"
        refine ⟨trivial,_,_,rfl,L.turn (by omega) hjk s0,?_⟩
        rw [List.map_set];exact O
    · rintro σ H3 ⟨-,v5,b,rfl,L,O⟩
      refine ⟨_,rfl,O.ret 0 rfl q ⟨b,rfl,L.ig (Rv.xR nn) (Rv.xT nn) (fun j k hj hk h=>Rv.Ab nn hst2 (by omega) (by omega) h) n1,by rw [L.len];exact n1,by rw [L.len];exact n12⟩⟩
abbrev gH:Stmt:=top 42
theorem oE:aW ["below","reach","found"] ["below","reach"] (ak gH):=⟨rfl,rfl,rfl,by decide +kernel,rfl,by decide +kernel,by decide +kernel⟩
theorem K7 {f:Addr} {fd:FuncData} (D:Df K mg "_law_way" gH ["below","reach"] f fd):bQ P w K mg base CX0 1 f fd ["below","reach"] (vD K):=by
  refine D.F.ok oE (fun vs H Q E h=>?_) (fun cdv A outer s H vs Q E hr h=>?_)
  · obtain ⟨a,r,p,rfl,_⟩:=h;rfl
  · obtain ⟨a,r,p,rfl,hS,hR,p0,p1,hn,q⟩:=h
    refine ⟨_,(au (bw (i:=2) oE.nd rfl (Or.inl rfl) (bK (aj (pv 1) ao)))
      (au (vN PassesOwn.never (aK sW (aH aJ (pv 0) (aH aJ (pv 2) (jc fB aq) (fun _ _=>rfl)) (fun _ _=>rfl)) (jc fB aq) (aN _))
        (aA (bG (j8 PySem.F.plainAttrs_list PySem.F.slot_list_append PySem.F.type_list_append bV (pv 2) (aj (aH aJ (pv 0) (aH aJ (pv 2) (jc fB aq) (fun _ _=>rfl)) (fun _ _=>rfl)) ao)))))
      (aA (bf (pv 2))))),?_⟩
    refine ⟨_,rfl,(by show 1≤sizeLine;decide),fun lw hlw=>?_⟩
    refine ⟨fun m σ H'=>∃ (pre:List Int) (z:Int),σ=[some (.ref a),some (.int p),some (.ref lw)]∧Same H H'∧H' lw=some (.lst ((pre++[z]).map V.int))∧0≤z∧z<r.length∧pre++Rv.walk r z=Rv.walk r p∧m=Rv.mea r z,
      ⟨_,[],p,rfl,(Same.refl H).upd hlw,cQ,p0,p1,rfl,rfl⟩,?_⟩
    rintro m σ H2 ⟨pre,z,rfl,s2,h2,z0,z1,e,rfl⟩
    have g:=Rv.jK z0 z1
    have hlen:pre.length + (Rv.walk r z).length≤r.length + 1:=by
      have:=Rv.vp r p
      rw [← e,List.length_append] at this;exact this
    refine ⟨_,rfl,_,rfl,_,rfl,lw,_,_,_,rfl,rfl,SqL.of h2,rE pre z,a,_,_,_,rfl,rfl,s2.seq hS,mH z0 g,1,rfl,rfl,_,rfl,?_⟩
    rcases hR.step z0 z1 with hm | ⟨n0,n1⟩
    · rw [hm]
      refine Nt rfl ?_
      refine ⟨_,rfl,q lw H2 _ s2 hlw h2 ?_⟩
      have ew:Rv.walk r z=[z]:=by rw [Rv.jg hR z0 z1,hm,Rv.ql]
      rw [← e,ew]
    · have hd:(!decide (V.int (Rv.nxt r z)=V.int (-1)))=true:=by
        have:¬ Rv.nxt r z=-1:=by omega
        simp [this]
      rw [hd]
      refine lM ?_
      refine ⟨fun σ' H'=>∃ m',m'<Rv.mea r z∧∃ (pre:List Int) (z:Int),σ'=[some (.ref a),some (.int p),some (.ref lw)]∧Same H H'∧H' lw=some (.lst ((pre++[z]).map V.int))∧0≤z∧z<r.length∧pre++Rv.walk r z=Rv.walk r p∧m'=Rv.mea r z,fun _ _ x=>x,?_⟩
      refine ⟨_,rfl,.inl ⟨rfl,_,SqL.of h2⟩,_,rfl,_,rfl,_,rfl,lw,_,_,_,rfl,rfl,SqL.of h2,rE pre z,a,_,_,_,rfl,rfl,s2.seq hS,mH z0 g,lw,_,_,rfl,rfl,h2,aX ?_,?_⟩
      · rw [List.length_map,List.length_append]
        have:1≤(Rv.walk r z).length:=by rw [Rv.jg hR z0 z1];exact Nat.succ_le_succ (Nat.zero_le _)
        show pre.length + 1≤_
        omega
      · refine ⟨_,Rv.Cp hR z0 z1,pre++[z],Rv.nxt r z,rfl,s2.upd hlw,?_,n0,n1,?_,rfl⟩
        · rw [cQ,List.map_append (l₁:=pre++[z])];rfl
        · rw [List.append_assoc]
          show pre++(z :: Rv.walk r (Rv.nxt r z))=_
          rw [← Rv.jg hR z0 z1];exact e
def Li:EK→Nat
  | .number=>0 | .yours=>1 | .holder=>2 | .licence=>3 | .much=>4 | .alone=>5 | .full=>6 | .ig=>7
def mR:EK→Str
  | .number=>"number" | .yours=>"yours" | .holder=>"holder" | .licence=>"licence" | .much=>"much" | .alone=>"alone" | .full=>"full" | .ig=>"river"
structure wz (K:PySem.W.Frag) (c:Ec) (cl:List Addr) (cS:Addr):Prop where
  m:∀ k,PySem.W.exmOne K (.ref (c.at_ k)) (.ref cS)=some true
  kt:∀ k,∀ j a,cl[j]?=some a→PySem.W.kitOne K (.ref (c.at_ k)) (.ref a)=some (decide (j=Li k))
  kv:∀ k,PySem.W.kitOne K (.ref (c.at_ k)) (.type "ValueError")=some true
  x:∀ k,Ko K (c.at_ k)
def pq (k:EK) (n:Nat):List V:=(List.range n).map fun j=>V.bl (decide (j=Li k))
abbrev cV:Stmt:=top 43
theorem gR:aW ["e","flags","words","found"] ["e"] (ak cV):=⟨rfl,rfl,rfl,by decide +kernel,rfl,by decide +kernel,by decide +kernel⟩
def nR (K:PySem.W.Frag) (T:eF) (c:Ec):Sp:=fun vs H Q _=>∃ (e:Addr) (k:EK),vs=[.ref e]∧H e=some (.ext (XAt e (c.at_ k)))∧TabsOk T H∧uW T H (fun xs=>xs=[.str (mR k)]) Q
section
variable {P:Program} {w:World} {K:PySem.W.Frag} {mg:Str→Option Value} {base:Heap} {T:eF} {c:Ec} {cS b0 b1 b2 b3 b4 b5 b6 b7:Addr}
theorem Aj {f:Addr} {fd:FuncData} (D:Df K mg "_law_words" cV ["e"] f fd) (B:Blt mg) (TT:wz K c [b0,b1,b2,b3,b4,b5,b6,b7] cS)
    (X_NoNumber:lO K mg "NoNumber" b0) (X_NotYours:lO K mg "NotYours" b1) (X_NoHolder:lO K mg "NoHolder" b2) (X_NoLicence:lO K mg "NoLicence" b3) (X_TooMuch:lO K mg "TooMuch" b4) (X_NotAlone:lO K mg "NotAlone" b5) (X_Full:lO K mg "Full" b6) (X_NoRiver:lO K mg "NoRiver" b7):bQ P w K mg base CX0 1 f fd ["e"] (nR K T c):=by
  refine D.F.ok gR (fun vs H Q E h=>?_) (fun cdv A outer s H vs Q E hr h=>?_)
  · obtain ⟨_,_,rfl,_⟩:=h;rfl
  · obtain ⟨e,k,rfl,hX,tk,q⟩:=h
    have hD:=TT.x k
    have kt:=TT.kt k
    have O:=Ow.refl tk
    have hXs:∀ {H'},aR T H H'→H' e=some (.ext (XAt e (c.at_ k))):=fun s=>s.keep _ _ hX (fun _ z=>nomatch z)
    change ∃ t,PSs _ (_ :: _) t∧_
    generalize hc0:Expr.Constant (Const.str "number") 0 ⟨240,13,240,21⟩=a0
    have hA0:∀ X:Cx,PE X a0 (tC (.str "number")):=fun X=>by rw [← hc0];exact aF
    have hN0:∀ (es:List Expr) (env:Env),starEach (a0 :: es) env=(false,eval a0 env) :: starEach es env:=fun es env=>by rw [← hc0];rfl
    generalize hc1:Expr.Constant (Const.str "yours") 0 ⟨240,23,240,30⟩=a1
    have hA1:∀ X:Cx,PE X a1 (tC (.str "yours")):=fun X=>by rw [← hc1];exact aF
    have hN1:∀ (es:List Expr) (env:Env),starEach (a1 :: es) env=(false,eval a1 env) :: starEach es env:=fun es env=>by rw [← hc1];rfl
    generalize hc2:Expr.Constant (Const.str "holder") 0 ⟨240,32,240,40⟩=a2
    have hA2:∀ X:Cx,PE X a2 (tC (.str "holder")):=fun X=>by rw [← hc2];exact aF
    have hN2:∀ (es:List Expr) (env:Env),starEach (a2 :: es) env=(false,eval a2 env) :: starEach es env:=fun es env=>by rw [← hc2];rfl
    generalize hc3:Expr.Constant (Const.str "licence") 0 ⟨240,42,240,51⟩=a3
    have hA3:∀ X:Cx,PE X a3 (tC (.str "licence")):=fun X=>by rw [← hc3];exact aF
    have hN3:∀ (es:List Expr) (env:Env),starEach (a3 :: es) env=(false,eval a3 env) :: starEach es env:=fun es env=>by rw [← hc3];rfl
    generalize hc4:Expr.Constant (Const.str "much") 0 ⟨240,53,240,59⟩=a4
    have hA4:∀ X:Cx,PE X a4 (tC (.str "much")):=fun X=>by rw [← hc4];exact aF
    have hN4:∀ (es:List Expr) (env:Env),starEach (a4 :: es) env=(false,eval a4 env) :: starEach es env:=fun es env=>by rw [← hc4];rfl
    generalize hc5:Expr.Constant (Const.str "alone") 0 ⟨240,61,240,68⟩=a5
    have hA5:∀ X:Cx,PE X a5 (tC (.str "alone")):=fun X=>by rw [← hc5];exact aF
    have hN5:∀ (es:List Expr) (env:Env),starEach (a5 :: es) env=(false,eval a5 env) :: starEach es env:=fun es env=>by rw [← hc5];rfl
    generalize hc6:Expr.Constant (Const.str "full") 0 ⟨240,70,240,76⟩=a6
    have hA6:∀ X:Cx,PE X a6 (tC (.str "full")):=fun X=>by rw [← hc6];exact aF
    have hN6:∀ (es:List Expr) (env:Env),starEach (a6 :: es) env=(false,eval a6 env) :: starEach es env:=fun es env=>by rw [← hc6];rfl
    generalize hc7:Expr.Constant (Const.str "river") 0 ⟨240,78,240,85⟩=a7
    have hA7:∀ X:Cx,PE X a7 (tC (.str "river")):=fun X=>by rw [← hc7];exact aF
    have hN7:∀ (es:List Expr) (env:Env),starEach (a7 :: es) env=(false,eval a7 env) :: starEach es env:=fun es env=>by rw [← hc7];rfl
    refine ⟨_,(au (bw (i:=1) gR.nd rfl (Or.inl rfl) (bK (aj (aP dR rfl B.isinstance PyProof.Rows.boot_isinstance (aj (pv 0) (aj (nj rfl X_NoNumber.m) ao))) (aj (aP dR rfl B.isinstance PyProof.Rows.boot_isinstance (aj (pv 0) (aj (nj rfl X_NotYours.m) ao))) (aj (aP dR rfl B.isinstance PyProof.Rows.boot_isinstance (aj (pv 0) (aj (nj rfl X_NoHolder.m) ao))) (aj (aP dR rfl B.isinstance PyProof.Rows.boot_isinstance (aj (pv 0) (aj (nj rfl X_NoLicence.m) ao))) ao))))))
      (au (bw (i:=1) gR.nd rfl (Or.inl rfl) (aY oM (pv 1) (bK (aj (aP dR rfl B.isinstance PyProof.Rows.boot_isinstance (aj (pv 0) (aj (nj rfl X_TooMuch.m) ao))) (aj (aP dR rfl B.isinstance PyProof.Rows.boot_isinstance (aj (pv 0) (aj (nj rfl X_NotAlone.m) ao))) (aj (aP dR rfl B.isinstance PyProof.Rows.boot_isinstance (aj (pv 0) (aj (nj rfl X_Full.m) ao))) (aj (aP dR rfl B.isinstance PyProof.Rows.boot_isinstance (aj (pv 0) (aj (nj rfl X_NoRiver.m) ao))) ao)))))))
      (au (bw (i:=2) gR.nd rfl (Or.inr rfl) (bK (aj (hA0 _) (aj (hA1 _) (aj (hA2 _) (aj (hA3 _) (aj (hA4 _) (aj (hA5 _) (aj (hA6 _) (aj (hA7 _) ao (hN7 _ _)) (hN6 _ _)) (hN5 _ _)) (hN4 _ _)) (hN3 _ _)) (hN2 _ _)) (hN1 _ _)) (hN0 _ _))))
      (au (jQ (i:=3) (ak cV) rfl ["e","flags","words","found"] rfl ["k","flag","words"] [none,none,some 2] (by decide +kernel) (by decide +kernel) (by decide +kernel) rfl gR.nd rfl rfl (lW rfl B.enumerate (aj (pv 1) ao)) (fun _ _ _=>(qO (K:=K) (n:=2) rfl rfl (bW (bI (i:=0) (show (["k","flag","words"]:List Str).Nodup by decide +kernel) rfl (Or.inl rfl)) (bW (bI (i:=1) (show (["k","flag","words"]:List Str).Nodup by decide +kernel) rfl (Or.inl rfl)) jj)))) (fun _ _ _=>(uE (kW (pv 1)))) (fun _ _ _=>(aH (lE (K:=K) rfl) (pv 2) (pv 0) (fun _ _=>rfl))) rfl)
      (aA (bf (aH aJ (bK (aj (pv 3) (aj (bK (aj aF ao)) ao))) (cJ pD rfl B.int PyProof.Rows.boot_int (aj (MP (aP dR rfl B.isinstance PyProof.Rows.boot_isinstance (aj (pv 0) (aj (KZ (v:=.ty "ValueError") rfl B.ValueError Lx rfl) ao)))) ao)) (fun _ _=>rfl)))))))),?_⟩
    refine ⟨_,rfl,e,_,_,_,_,rfl,hX,hD,.inr ⟨_,rfl,rfl⟩,kt 0 _ rfl,_,rfl,e,_,_,_,_,rfl,hX,hD,.inr ⟨_,rfl,rfl⟩,kt 1 _ rfl,_,rfl,e,_,_,_,_,rfl,hX,hD,.inr ⟨_,rfl,rfl⟩,kt 2 _ rfl,_,rfl,e,_,_,_,_,rfl,hX,hD,.inr ⟨_,rfl,rfl⟩,kt 3 _ rfl,szl,fun l1 h1=>?_⟩
    walk_at "nw"
    refine ⟨_,rfl,_,rfl,e,_,_,_,_,rfl,(hXs O.same),hD,.inr ⟨_,rfl,rfl⟩,kt 4 _ rfl,_,rfl,e,_,_,_,_,rfl,(hXs O.same),hD,.inr ⟨_,rfl,rfl⟩,kt 5 _ rfl,_,rfl,e,_,_,_,_,rfl,(hXs O.same),hD,.inr ⟨_,rfl,rfl⟩,kt 6 _ rfl,_,rfl,e,_,_,_,_,rfl,(hXs O.same),hD,.inr ⟨_,rfl,rfl⟩,kt 7 _ rfl,szl,fun l2 h2=>?_⟩
    walk_at "nw"
    refine ⟨l1,l2,_,_,rfl,rfl,O.get 1,O.get 0,gP (by simp),fun lg hg=>?_⟩
    walk_at "nw"
    have O:=O.two.two
    have O:Ow T H _ [(lg,.lst (pq k 8))]:=O
    refine ⟨szl,fun lw hw=>?_⟩
    walk_at "nw"
    refine ⟨_,rfl,lg,_,rfl,O.sq 1,fun lf hlf=>?_⟩
    refine mJ (K:=K) (xs:=pq k 8) (fun i τ H'=>Iv (∃ (v0 v1:Option V),τ=[v0,v1,some (.ref lw)]∧Ow T H H' [(lf,.lst (if Li k<i then [V.str (mR k)] else [])),(lw,.lst [V.str "number",V.str "yours",V.str "holder",V.str "licence",V.str "much",V.str "alone",V.str "full",V.str "river"]),(lg,.lst (pq k 8))]))
      ⟨trivial,none,none,rfl,O.mk' hlf rfl⟩ (fun i τ H' _ ⟨_,_,_,_,O⟩=>O.sq 2) ?_ ?_
    · clear O
      rintro i y T0 τ H5 hy ⟨-,v0,v1,rfl,O⟩ hT0
      have hi:=(List.getElem?_eq_some_iff.mp hy).1
      have hi16:i<8:=by unfold pq at hi;simpa using hi
      have ey:y=V.bl (decide (i=Li k)):=by
        unfold pq at hy
        rw [List.getElem?_map,List.getElem?_range hi16] at hy
        exact (Option.some.inj hy).symm
      subst ey
      walk_at "nw"
      refine ⟨T0,_,rfl,O.sqT 0,rfl,_,_,rfl,_,_,rfl,rfl,?_⟩
      have O:=O.tail
      refine ⟨_,rfl,_,rfl,ifD (fun he=>?_) (fun he=>?_)⟩
      · rw [if_neg (by omega)] at O
        have hat:atI [V.str "number",V.str "yours",V.str "holder",V.str "licence",V.str "much",V.str "alone",V.str "full",V.str "river"] (i:Int)=some (V.str (mR k)):=by
          rw [he];cases k <;> rfl
        refine ⟨_,rfl,_,rfl,lw,_,_,_,rfl,rfl,O.sq 1,hat,?_⟩
        refine ⟨_,O.get 0,aX (by simp),?_⟩
        walk_at "pt"
        refine ⟨trivial,_,_,rfl,?_⟩
        rw [if_pos (by omega)];exact O
      · refine ⟨trivial,_,_,rfl,?_⟩
        by_cases hlt:Li k<i
        · rw [if_pos hlt] at O;rw [if_pos (by omega)];exact O
        · rw [if_neg hlt] at O;rw [if_neg (by omega)];exact O
    clear O
    rintro τ H5 ⟨-,v0,v1,rfl,O⟩
    have hfl:Li k<(pq k 8).length:=by unfold pq;cases k <;> simp [Li]
    rw [if_pos hfl] at O
    refine ⟨_,rfl,szl,fun lo ho=>?_⟩
    walk_at "nw"
    refine ⟨szl,fun lp hp=>?_⟩
    walk_at "nw"
    refine ⟨_,rfl,e,_,_,_,_,rfl,hXs O.same,hD,.inl ⟨_,rfl,rfl⟩,TT.kv k,?_⟩
    refine ⟨_,rfl,.inr ⟨_,rfl,lp,_,0,_,rfl,rfl,O.sq 0,rfl,?_⟩⟩
    exact O.ret 2 rfl q rfl
end
abbrev cG:Stmt:=top 44
theorem gU:aW ["below","deeds","caught","e"] ["below","deeds"] (ak cG):=⟨rfl,rfl,rfl,by decide +kernel,rfl,by decide +kernel,by decide +kernel⟩
def ux (K:PySem.W.Frag) (T:eF):Sp:=fun vs H Q _=>∃ (lv ld:Addr) (H0:Hp) (B:List (Addr × HO)) (r:List Int) (ts:List V) (ds:List jL) (k:EK),vs=[.ref lv,.ref ld]∧Ow T H0 H B∧SqL K H lv (r.map V.int)∧r.length≤40∧(∀ (Hb H':Hp) (X:List (Addr × HO)),aR T H0 Hb→Ow T Hb H' (X++B)→SqL K H' ld ts)∧cR K H0 ts (ds.map jy)∧(∀ d∈ds,jo d)∧ds.length≤1000∧(Rv.isR r=true→Rv.mq r) ∧
  ((Rv.isR r=true∧replay r RS.new ds=.error k)∨(Rv.isR r=false∧k=.ig))∧∀ (l:Addr) Hb H',aR T H0 Hb→Ow T Hb H' ((l,.lst [.str (mR k)]) :: B)→Q (.ref l) H'
section
variable {P:Program} {w:World} {K:PySem.W.Frag} {mg:Str→Option Value} {base:Heap} {T:eF} {C:Addr} {c:Ec} {cl:List Addr}
theorem K5 {f f1 f2 cS:Addr} {fd fd1 fd2:FuncData} (D:Df K mg "_law_refused" cG ["below","deeds"] f fd) (X_SluiceError:lO K mg "SluiceError" cS) (TT:wz K c cl cS)
    (cj:Df K mg "replayed" eY ["below","deeds"] f1 fd1) (jW:bQ P w K mg base (CXE P w) 5 f1 fd1 ["below","deeds"] (qw K T C c))
    (cM:Df K mg "_law_words" cV ["e"] f2 fd2) (kZ:bQ P w K mg base CX0 1 f2 fd2 ["e"] (nR K T c)):bQ P w K mg base CX0 6 f fd ["below","deeds"] (ux K T):=by
  refine D.F.ok gU (fun vs H Q E h=>?_) (fun cdv A outer s H vs Q E hr h=>?_)
  · obtain ⟨_,_,_,_,_,_,_,_,rfl,_⟩:=h;rfl
  · obtain ⟨lv,ld,H0,L,r,ts,ds,k,rfl,O,hV,r40,hL,dd,hok,hdl,hRr,hk,q⟩:=h
    refine ⟨_,(au (bw (i:=2) gU.nd rfl (Or.inl rfl) pZ)
      (au (Ci (i:=3) ⟨rfl,rfl,rfl⟩ rfl (xq (xr (Kq jW (hr.mono (by decide)) rfl cj.m cj.F.kp cj.b .nil (aj (pv 0) (aj (pv 1) ao))))) rfl X_SluiceError.m gU.nd rfl rfl (fun e =>
        (aA (bw (i:=2) gU.nd rfl (Or.inl rfl) (pv 3)))))
      (au (bT (aK yK (pv 2) pZ (aN _))
        (aA (bf (bK ao)))
        aV)
      (aA (bf (aO kZ (hr.mono (by decide)) rfl cM.m cM.F.kp cM.b .nil bU (aj (pv 2) ao))))))),?_⟩
    have fin:∀ (e:Addr) (Hb H':Hp),aR T H0 Hb→Ow T Hb H' L→H' e=none→∀ {Z:V→Hp→Prop},(∀ (l:Addr) Hb H',aR T H0 Hb→Ow T Hb H' ((l,.lst [.str (mR k)]) :: L)→Z (.ref l) H')→nR K T c [.ref e] (upd H' e (.ext (XAt e (c.at_ k)))) Z E0:=fun e Hb H' sb O he Z hz=>by
      have O:=Ow.Wn (o:=.ext (XAt e (c.at_ k))) O he
      exact ⟨e,k,rfl,cQ,O.same.t1,O.zY fun l H2 xs O2 e2=>by subst e2;exact hz l Hb H2 sb O2⟩
    refine ⟨_,rfl,_,rfl,lv,ld,H0,L,r,ts,ds,rfl,O,hV,r40,hL,dd,hok,hdl,hRr,fun hR S' e=>?_,fun hR k' e ea Hb H' sb O' he=>⟨_,ea,rfl,rfl,TT.m k',?_⟩,fun hR ea Hb H' sb O' he=>⟨_,ea,rfl,rfl,TT.m .ig,?_⟩⟩
    · rcases hk with ⟨_,z⟩ | ⟨z,_⟩
      · rw [z] at e;cases e
      · rw [z] at hR;cases hR
    · have:k'=k:=by
        rcases hk with ⟨_,z⟩ | ⟨z,_⟩
        · rw [z] at e;cases e;rfl
        · rw [z] at hR;cases hR
      subst this
      exact ⟨_,rfl,_,rfl,rfl,_,rfl,mW ⟨_,rfl,fin ea Hb H' sb O' he q⟩⟩
    · have:k=.ig:=by
        rcases hk with ⟨z,_⟩ | ⟨_,z⟩
        · rw [z] at hR;cases hR
        · exact z
      subst this
      exact ⟨_,rfl,_,rfl,rfl,_,rfl,mW ⟨_,rfl,fin ea Hb H' sb O' he q⟩⟩
end
abbrev cX:Stmt:=top 45
theorem gV:aW ["below","caught","e"] ["below"] (ak cX):=⟨rfl,rfl,rfl,by decide +kernel,rfl,by decide +kernel,by decide +kernel⟩
def Cd (K:PySem.W.Frag) (T:eF):Sp:=fun vs H Q _=>∃ (lv:Addr) (H0:Hp) (B:List (Addr × HO)) (r:List Int),vs=[.ref lv]∧Ow T H0 H B∧SqL K H lv (r.map V.int)∧r.length≤900∧Rv.isR r=false∧∀ (l:Addr) H',Ow T H0 H' ((l,.lst [.str "river"]) :: B)→Q (.ref l) H'
section
variable {P:Program} {w:World} {K:PySem.W.Frag} {mg:Str→Option Value} {base:Heap} {T:eF} {C f1:Addr} {c:Ec} {cl:List Addr}
theorem M8 {f f2 cS:Addr} {fd fd1 fd2:FuncData} (D:Df K mg "_law_no_roll" cX ["below"] f fd) (X_SluiceError:lO K mg "SluiceError" cS) (TT:wz K c cl cS) (R_Roll:Cl K mg "Roll" C f1 yw)
    (dH:Dm K C "__init__" "Roll.__init__" cg ["self","below"] f1 fd1) (jm:bQ P w K mg base (CXE P w) 3 f1 fd1 ["self","below"] (uy K T C c))
    (cM:Df K mg "_law_words" cV ["e"] f2 fd2) (kZ:bQ P w K mg base CX0 1 f2 fd2 ["e"] (nR K T c)):bQ P w K mg base CX0 5 f fd ["below"] (Cd K T):=by
  refine D.F.ok gV (fun vs H Q E h=>?_) (fun cdv A outer s H vs Q E hr h=>?_)
  · obtain ⟨_,_,_,_,rfl,_⟩:=h;rfl
  · obtain ⟨lv,H0,L,r,rfl,O,hV,r9,hR,q⟩:=h
    refine ⟨_,(au (bw (i:=1) gV.nd rfl (Or.inl rfl) pZ)
      (au (Ci (i:=2) ⟨rfl,rfl,rfl⟩ rfl (xq (xr (Kp R_Roll.k jm (hr.mono (by decide)) rfl R_Roll.m dH.b .nil (aj (pv 0) ao)))) rfl X_SluiceError.m gV.nd rfl rfl (fun e =>
        (aA (bw (i:=1) gV.nd rfl (Or.inl rfl) (pv 2)))))
      (au (bT (aK yK (pv 1) pZ (aN _))
        (aA (bf (bK ao)))
        aV)
      (aA (bf (aO kZ (hr.mono (by decide)) rfl cM.m cM.F.kp cM.b .nil bU (aj (pv 1) ao))))))),?_⟩
    refine ⟨_,rfl,?_⟩
    intro x dx nx ndx nex
    have hx':(upd H dx (HO.own x)) x=none:=by rw [bB nex.symm];exact nx
    have O1:=(O.mk' ndx (o:=.own x) rfl).mk' (a:=x) (o:=.ins C dx []) hx' rfl
    have s1:aR T H (upd (upd H dx (.own x)) x (.ins C dx [])):=((aR.refl O.same.t1).upd ndx (.inl ndx)).upd nx (.inl hx')
    refine ⟨x,dx,lv,H0,_,r,rfl,O1,s1.seq hV,by omega,(fun z=>by rw [hR] at z;cases z),fun _ ea H' s' he=>⟨_,ea,rfl,rfl,TT.m .ig,?_⟩⟩
    have O:=Ow.Wn (o:=.ext (XAt ea (c.at_ .ig))) ((O1.lZ s').sub (List.Sublist.cons _ (List.sublist_cons_self _ _))) he
    exact ⟨_,rfl,_,rfl,rfl,_,rfl,mW ⟨_,rfl,ea,.ig,rfl,cQ,O.same.t1,O.zY fun l H2 xs O2 e2=>by subst e2;exact q l H2 O2⟩⟩
end
section
variable {S S':RS} {n:Int} {y:Str} {k:Except EK RS} {r:List Int} {d:jL}
theorem jH (h:S.nH n y k=.ok S'):0≤n∧n<S.ls.length∧S.ns[n.toNat]?=some y∧k=.ok S':=by
  unfold RS.nH at h
  split at h
  · cases h
  · rename_i h1
    split at h
    · cases h
    · rename_i h2
      have h1:=Classical.not_not.mp h1
      exact ⟨h1.1,h1.2,Classical.not_not.mp h2,h⟩
theorem vX {x:Str} {s m b:Int} (h:step r S (.file x s m b)=.ok S'):S'=⟨S.day,S.ls++[⟨S.day,s,b,m⟩],S.ns++[x],S.ds++[.file x s m b]⟩:=by
  simp only [step] at h
  repeat' split at h
  all_goals first | (cases h;done) | (cases h;rfl)
theorem qF {z:Str} (h:step r S (.sell n y z)=.ok S'):0≤n∧n<S.ls.length∧S'=⟨S.day,S.ls,S.ns.set n.toNat z,S.ds++[.sell n y z]⟩:=by
  obtain ⟨h0,h1,-,h⟩:=jH h
  split at h
  · cases h
  · cases h;exact ⟨h0,h1,rfl⟩
theorem vO {m:Int} {z:Str} (h:step r S (.part n y m z)=.ok S'):0≤n∧n<S.ls.length∧S'=⟨S.day,S.ls.set n.toNat (wm (S.at_ n) ((S.at_ n).most - m))++[wm (S.at_ n) m],S.ns++[z],S.ds++[.part n y m z]⟩:=by
  obtain ⟨h0,h1,-,h⟩:=jH h
  repeat' split at h
  all_goals first | (cases h;done) | (cases h;exact ⟨h0,h1,rfl⟩)
theorem nW (h:step r S (.drop n y)=.ok S'):0≤n∧n<S.ls.length∧S'=⟨S.day,S.ls.set n.toNat (wm (S.at_ n) 0),S.ns,S.ds++[.drop n y]⟩:=by
  obtain ⟨h0,h1,-,h⟩:=jH h
  cases h;exact ⟨h0,h1,rfl⟩
theorem qU {s:Int} (h:step r S (.move n y s)=.ok S'):0≤n∧n<S.ls.length∧S'=⟨S.day,S.ls.set n.toNat (wst (S.at_ n) s),S.ns,S.ds++[.move n y s]⟩:=by
  obtain ⟨h0,h1,-,h⟩:=jH h
  split at h
  · cases h
  · cases h;exact ⟨h0,h1,rfl⟩
theorem oV {xs:List Int} (h:step r S (.lapse xs)=.ok S'):xs.length=S.ls.length∧S'=⟨S.day,jT S.ls xs,S.ns,S.ds++[.lapse xs]⟩:=by
  simp only [step] at h
  split at h
  · cases h
  · rename_i h1
    split at h
    · cases h
    · cases h;exact ⟨Classical.not_not.mp h1,rfl⟩
end
theorem mD {r:List Int} {S S':RS} {d:jL} (h:step r S d=.ok S'):(d=.turn∧S'.day=S.day + 1)∨(d≠.turn∧S'.day=S.day):=by
  cases d with
  | turn=>cases h;exact .inl ⟨rfl,rfl⟩
  | file x s m b=>exact .inr ⟨(fun z=>nomatch z),by rw [vX h]⟩
  | sell n y z=>exact .inr ⟨(fun z=>nomatch z),by rw [(qF h).2.2]⟩
  | part n y m z=>exact .inr ⟨(fun z=>nomatch z),by rw [(vO h).2.2]⟩
  | drop n y=>exact .inr ⟨(fun z=>nomatch z),by rw [(nW h).2.2]⟩
  | move n y s=>exact .inr ⟨(fun z=>nomatch z),by rw [(qU h).2.2]⟩
  | lapse xs=>exact .inr ⟨(fun z=>nomatch z),by rw [(oV h).2]⟩
abbrev fH:Stmt:=top 49
theorem iG:aW ["deed","day","lines","owners","line","k","one"] ["deed","day","lines","owners"] (ak fH):=⟨rfl,rfl,rfl,by decide +kernel,rfl,by decide +kernel,by decide +kernel⟩
def xW (K:PySem.W.Frag) (T:eF):Sp:=fun vs H Q _=>∃ (r:List Int) (t ll lo:Addr) (day:Int) (H0:Hp) (B:List (Addr × HO)) (us:List V) (S S':RS) (d:jL),vs=[.ref t,.int day,.ref ll,.ref lo]∧Ow T H0 H ((lo,.lst (S.ns.map V.str)) :: (ll,.lst us) :: B)∧cR K H0 us (S.ls.map pK)∧Den K H0 (.ref t) (jy d)∧step r S d=.ok S'∧(S.day=day∨d=.turn)∧S.ns.length=S.ls.length∧S.ls.length≤60 ∧
  ∀ (Hb H':Hp) (us':List V),aR T H0 Hb→Ow T Hb H' ((lo,.lst (S'.ns.map V.str)) :: (ll,.lst us') :: B)→cR K Hb us' (S'.ls.map pK)→Q .non H'
theorem K3 {f:Addr} {fd:FuncData} (D:Df K mg "_law_step" fH ["deed","day","lines","owners"] f fd) (B:Blt mg):bQ P w K mg base CX0 1 f fd ["deed","day","lines","owners"] (xW K T):=by
  refine D.F.ok iG (fun vs H Q E h=>?_) (fun cdv A outer s H vs Q E hr h=>?_)
  · obtain ⟨_,_,_,_,_,_,_,_,_,_,_,rfl,_⟩:=h;rfl
  · obtain ⟨r,t,ll,lo,day,H0,L,us,S,S',d,rfl,O,d0,dd,hst,hday,hnn,hl60,q⟩:=h
    obtain ⟨t',e,d0A⟩:=uO dd
    cases e
    have hul:us.length=S.ls.length:=by rw [d0.length,List.length_map]
    refine ⟨_,(au (bw (i:=4) iG.nd rfl (Or.inl rfl) (bA (aj aq (aj aq (aj (jc fB aq) (aj aq ao))))))
      (au (bT (aK sX (aH aQ (pv 0) aq (fun _ _=>rfl)) (bK (aj aF (aj aF (aj aF (aj aF ao))))) (by rfl))
        (aA (bw (i:=4) iG.nd rfl (Or.inl rfl) (aH aJ (pv 2) (aH aQ (pv 0) aq (fun _ _=>rfl)) (fun _ _=>rfl))))
        aV)
      (aA (bT (aK dY (aH aQ (pv 0) aq (fun _ _=>rfl)) aF (aN _))
        (au (bG (j8 PySem.F.plainAttrs_list PySem.F.slot_list_append PySem.F.type_list_append bV (pv 2) (aj (bA (aj (pv 1) (aj (aH aQ (pv 0) aq (fun _ _=>rfl)) (aj (aH aQ (pv 0) aq (fun _ _=>rfl)) (aj (aH aQ (pv 0) aq (fun _ _=>rfl)) ao))))) ao)))
        (aA (bG (j8 PySem.F.plainAttrs_list PySem.F.slot_list_append PySem.F.type_list_append bV (pv 3) (aj (aH aQ (pv 0) aq (fun _ _=>rfl)) ao)))))
        (aA (bT (aK dY (aH aQ (pv 0) aq (fun _ _=>rfl)) aF (aN _))
          (aA (gY (aH aQ (pv 0) aq (fun _ _=>rfl)) (iW (pv 3) (aH aQ (pv 0) aq (fun _ _=>rfl)) set_list)))
          (aA (bT (aK dY (aH aQ (pv 0) aq (fun _ _=>rfl)) aF (aN _))
            (au (gY (bA (aj (aH aQ (pv 4) aq (fun _ _=>rfl)) (aj (aH aQ (pv 4) aq (fun _ _=>rfl)) (aj (aH aQ (pv 4) aq (fun _ _=>rfl)) (aj (aY oK (aH aQ (pv 4) aq (fun _ _=>rfl)) (aH aQ (pv 0) aq (fun _ _=>rfl))) ao))))) (iW (pv 2) (aH aQ (pv 0) aq (fun _ _=>rfl)) set_list))
            (au (bG (j8 PySem.F.plainAttrs_list PySem.F.slot_list_append PySem.F.type_list_append bV (pv 2) (aj (bA (aj (aH aQ (pv 4) aq (fun _ _=>rfl)) (aj (aH aQ (pv 4) aq (fun _ _=>rfl)) (aj (aH aQ (pv 4) aq (fun _ _=>rfl)) (aj (aH aQ (pv 0) aq (fun _ _=>rfl)) ao))))) ao)))
            (aA (bG (j8 PySem.F.plainAttrs_list PySem.F.slot_list_append PySem.F.type_list_append bV (pv 3) (aj (aH aQ (pv 0) aq (fun _ _=>rfl)) ao))))))
            (aA (bT (aK dY (aH aQ (pv 0) aq (fun _ _=>rfl)) aF (aN _))
              (aA (gY (bA (aj (aH aQ (pv 4) aq (fun _ _=>rfl)) (aj (aH aQ (pv 4) aq (fun _ _=>rfl)) (aj (aH aQ (pv 4) aq (fun _ _=>rfl)) (aj aq ao))))) (iW (pv 2) (aH aQ (pv 0) aq (fun _ _=>rfl)) set_list)))
              (aA (bT (aK dY (aH aQ (pv 0) aq (fun _ _=>rfl)) aF (aN _))
                (aA (gY (bA (aj (aH aQ (pv 4) aq (fun _ _=>rfl)) (aj (aH aQ (pv 0) aq (fun _ _=>rfl)) (aj (aH aQ (pv 4) aq (fun _ _=>rfl)) (aj (aH aQ (pv 4) aq (fun _ _=>rfl)) ao))))) (iW (pv 2) (aH aQ (pv 0) aq (fun _ _=>rfl)) set_list)))
                (aA (bT (aK dY (aH aQ (pv 0) aq (fun _ _=>rfl)) aF (aN _))
                  (aA (oJ PassesOwn.never rfl (lW rfl B.enumerate (aj (cJ dD rfl B.list PyProof.Rows.boot_list (aj (pv 2) ao)) ao)) (ni rfl (bW (bI (i:=5) iG.nd rfl (Or.inl rfl)) (bW (bI (i:=6) iG.nd rfl (Or.inl rfl)) jj)))
                    (aA (gY (bA (aj (aH aQ (pv 6) aq (fun _ _=>rfl)) (aj (aH aQ (pv 6) aq (fun _ _=>rfl)) (aj (aH aQ (pv 6) aq (fun _ _=>rfl)) (aj (aP (zP rfl) rfl B.min PyProof.Rows.boot_min (aj (aH aQ (pv 6) aq (fun _ _=>rfl)) (aj (aH aQ (aH aQ (pv 0) aq (fun _ _=>rfl)) (pv 5) (fun _ _=>rfl)) ao))) ao))))) (iW (pv 2) (pv 5) set_list)))))
                  aV)))))))))))))),?_⟩
    refine ⟨1,rfl,szl,fun tl htl=>?_⟩
    walk_at "nw"
    have dA:=d0A.mo O.same
    cases d with
    | turn =>
      refine ⟨_,rfl,t,_,0,_,rfl,rfl,dA,rfl,szl,fun l4 h4=>?_⟩
      walk_at "nw"
      refine ⟨l4,[V.str "sell",V.str "part",V.str "drop",V.str "move"],rfl,.inl (O.sq 0),rfl,rfl,_,rfl,?_⟩
      rw [if_neg Bool.false_ne_true,show inV (V.str "turn") [V.str "sell",V.str "part",V.str "drop",V.str "move"]=false by decide +kernel]
      have O:=O.tail.tail
      have dA:=d0A.mo O.same
      refine mW ?_
      refine ⟨_,rfl,t,_,0,_,rfl,rfl,dA,rfl,rfl,_,rfl,jN rfl ?_⟩
      refine ⟨_,rfl,t,_,0,_,rfl,rfl,dA,rfl,rfl,_,rfl,jN rfl ?_⟩
      refine ⟨_,rfl,t,_,0,_,rfl,rfl,dA,rfl,rfl,_,rfl,jN rfl ?_⟩
      refine ⟨_,rfl,t,_,0,_,rfl,rfl,dA,rfl,rfl,_,rfl,jN rfl ?_⟩
      refine ⟨_,rfl,t,_,0,_,rfl,rfl,dA,rfl,rfl,_,rfl,jN rfl ?_⟩
      refine ⟨_,rfl,t,_,0,_,rfl,rfl,dA,rfl,rfl,_,rfl,jN rfl ?_⟩
      cases hst
      exact q H0 _ us (aR.refl O.same.t0) O d0
    | file x st m b =>
      have hday:S.day=day:=hday.resolve_right (fun z=>nomatch z)
      subst hday
      refine ⟨_,rfl,t,_,0,_,rfl,rfl,dA,rfl,szl,fun l4 h4=>?_⟩
      walk_at "nw"
      refine ⟨l4,[V.str "sell",V.str "part",V.str "drop",V.str "move"],rfl,.inl (O.sq 0),rfl,rfl,_,rfl,?_⟩
      rw [if_neg Bool.false_ne_true,show inV (V.str "file") [V.str "sell",V.str "part",V.str "drop",V.str "move"]=false by decide +kernel]
      have O:=O.tail.tail
      have dA:=d0A.mo O.same
      refine mW ?_
      refine ⟨_,rfl,t,_,0,_,rfl,rfl,dA,rfl,rfl,_,rfl,lM ?_⟩
      refine ⟨_,rfl,.inl ⟨rfl,_,O.sq 1⟩,_,rfl,_,rfl,t,_,2,_,rfl,rfl,dA,rfl,_,rfl,t,_,4,_,rfl,rfl,dA,rfl,_,rfl,t,_,3,_,rfl,rfl,dA,rfl,szl,fun tn htn=>?_⟩
      walk_at "nw"
      refine ⟨ll,_,_,rfl,rfl,O.get 2,aX (by omega),?_⟩
      walk_at "pt"
      have dA:=d0A.mo O.same
      refine ⟨_,rfl,.inl ⟨rfl,_,O.sq 1⟩,_,rfl,t,_,1,_,rfl,rfl,dA,rfl,lo,_,_,rfl,rfl,O.get 1,aX (by rw [List.length_map];omega),?_⟩
      walk_at "pt"
      have hS:=vX hst
      subst hS
      obtain ⟨Hb,O,sb,e1⟩:=O.frz
      refine q Hb _ (us++[V.ref tn]) sb ?_ ?_
      · rw [List.map_append];exact O
      · rw [List.map_append];exact (d0.mo sb).append (.cons (Den.lic (l:=⟨S.day,st,b,m⟩) (SqT.of e1)) .nil)
    | sell n y z =>
      obtain ⟨h0,h1,hS⟩:=qF hst
      subst hS
      obtain ⟨k,rfl⟩:=Int.eq_ofNat_of_zero_le h0
      obtain ⟨l,hl⟩:∃ l,S.ls[k]?=some l:=⟨_,List.getElem?_eq_getElem (by omega)⟩
      obtain ⟨al,hal,hT⟩:=d0.jG hl
      refine ⟨_,rfl,t,_,0,_,rfl,rfl,dA,rfl,szl,fun l4 h4=>?_⟩
      walk_at "nw"
      refine ⟨l4,[V.str "sell",V.str "part",V.str "drop",V.str "move"],rfl,.inl (O.sq 0),rfl,rfl,_,rfl,?_⟩
      rw [if_neg Bool.false_ne_true,show inV (V.str "sell") [V.str "sell",V.str "part",V.str "drop",V.str "move"]=true by decide +kernel]
      have O:=O.tail.tail
      have dA:=d0A.mo O.same
      refine lM ?_
      refine ⟨_,rfl,_,rfl,t,_,1,_,rfl,rfl,dA,rfl,ll,_,_,_,rfl,rfl,O.sq 1,dW hal,?_⟩
      refine ⟨_,rfl,t,_,0,_,rfl,rfl,dA,rfl,rfl,_,rfl,jN rfl ?_⟩
      refine ⟨_,rfl,t,_,0,_,rfl,rfl,dA,rfl,rfl,_,rfl,lM ?_⟩
      refine ⟨_,rfl,t,_,3,_,rfl,rfl,dA,rfl,_,rfl,_,rfl,t,_,1,_,rfl,rfl,dA,rfl,?_⟩
      refine jk O 0 rfl (gC (by rw [List.length_map];omega)) fun H6 O=>?_
      refine q H0 _ us (aR.refl O.same.t0) ?_ d0
      rw [Int.toNat_natCast,List.map_set];exact O
    | part n y m z =>
      obtain ⟨h0,h1,hS⟩:=vO hst
      subst hS
      obtain ⟨k,rfl⟩:=Int.eq_ofNat_of_zero_le h0
      obtain ⟨l,hl⟩:∃ l,S.ls[k]?=some l:=⟨_,List.getElem?_eq_getElem (by omega)⟩
      obtain ⟨al,hal,hT⟩:=d0.jG hl
      rw [lK rfl hl,Int.toNat_natCast] at q
      refine ⟨_,rfl,t,_,0,_,rfl,rfl,dA,rfl,szl,fun l4 h4=>?_⟩
      walk_at "nw"
      refine ⟨l4,[V.str "sell",V.str "part",V.str "drop",V.str "move"],rfl,.inl (O.sq 0),rfl,rfl,_,rfl,?_⟩
      rw [if_neg Bool.false_ne_true,show inV (V.str "part") [V.str "sell",V.str "part",V.str "drop",V.str "move"]=true by decide +kernel]
      have O:=O.tail.tail
      have dA:=d0A.mo O.same
      refine lM ?_
      refine ⟨_,rfl,_,rfl,t,_,1,_,rfl,rfl,dA,rfl,ll,_,_,_,rfl,rfl,O.sq 1,dW hal,?_⟩
      refine ⟨_,rfl,t,_,0,_,rfl,rfl,dA,rfl,rfl,_,rfl,jN rfl ?_⟩
      refine ⟨_,rfl,t,_,0,_,rfl,rfl,dA,rfl,rfl,_,rfl,jN rfl ?_⟩
      refine ⟨_,rfl,t,_,0,_,rfl,rfl,dA,rfl,rfl,_,rfl,lM ?_⟩
      have hTm:=hT.mo O.same
      refine ⟨_,rfl,al,_,0,_,rfl,rfl,hTm,rfl,_,rfl,al,_,1,_,rfl,rfl,hTm,rfl,_,rfl,al,_,2,_,rfl,rfl,hTm,rfl,_,rfl,al,_,3,_,rfl,rfl,hTm,rfl,_,rfl,t,_,3,_,rfl,rfl,dA,rfl,_,_,rfl,rfl,szl,fun t1 ht1=>?_⟩
      walk_at "nw"
      have dA:=d0A.mo O.same
      refine ⟨_,rfl,_,rfl,t,_,1,_,rfl,rfl,dA,rfl,?_⟩
      refine jk O 2 rfl (gC (by omega)) fun H6 O=>?_
      have dA:=d0A.mo O.same
      have hTm:=hT.mo O.same
      refine ⟨_,rfl,.inl ⟨rfl,_,O.sq 2⟩,_,rfl,al,_,0,_,rfl,rfl,hTm,rfl,_,rfl,al,_,1,_,rfl,rfl,hTm,rfl,_,rfl,al,_,2,_,rfl,rfl,hTm,rfl,_,rfl,t,_,3,_,rfl,rfl,dA,rfl,szl,fun t2 ht2=>?_⟩
      walk_at "nw"
      refine ⟨ll,_,_,rfl,rfl,O.get 3,aX (by rw [List.length_set];omega),?_⟩
      walk_at "pt"
      have dA:=d0A.mo O.same
      refine ⟨_,rfl,.inl ⟨rfl,_,O.sq 2⟩,_,rfl,t,_,4,_,rfl,rfl,dA,rfl,lo,_,_,rfl,rfl,O.get 2,aX (by rw [List.length_map];omega),?_⟩
      walk_at "pt"
      obtain ⟨Hb,O,sb,e2⟩:=O.frz
      obtain ⟨Hc,O,sc,e1⟩:=O.frz
      have e2:=sc.keep _ _ e2 (fun _ z=>nomatch z)
      have sx:=sb.trans sc
      refine q Hc _ (us.set k (V.ref t1)++[V.ref t2]) sx ?_ ?_
      · rw [List.map_append];exact O
      · rw [List.map_append,List.map_set]
        exact ((d0.mo sx).set (Den.lic (l:=wm l (l.most - m)) (SqT.of e1)) k).append (.cons (Den.lic (l:=wm l m) (SqT.of e2)) .nil)
    | drop n y =>
      obtain ⟨h0,h1,hS⟩:=nW hst
      subst hS
      obtain ⟨k,rfl⟩:=Int.eq_ofNat_of_zero_le h0
      obtain ⟨l,hl⟩:∃ l,S.ls[k]?=some l:=⟨_,List.getElem?_eq_getElem (by omega)⟩
      obtain ⟨al,hal,hT⟩:=d0.jG hl
      rw [lK rfl hl,Int.toNat_natCast] at q
      refine ⟨_,rfl,t,_,0,_,rfl,rfl,dA,rfl,szl,fun l4 h4=>?_⟩
      walk_at "nw"
      refine ⟨l4,[V.str "sell",V.str "part",V.str "drop",V.str "move"],rfl,.inl (O.sq 0),rfl,rfl,_,rfl,?_⟩
      rw [if_neg Bool.false_ne_true,show inV (V.str "drop") [V.str "sell",V.str "part",V.str "drop",V.str "move"]=true by decide +kernel]
      have O:=O.tail.tail
      have dA:=d0A.mo O.same
      refine lM ?_
      refine ⟨_,rfl,_,rfl,t,_,1,_,rfl,rfl,dA,rfl,ll,_,_,_,rfl,rfl,O.sq 1,dW hal,?_⟩
      refine ⟨_,rfl,t,_,0,_,rfl,rfl,dA,rfl,rfl,_,rfl,jN rfl ?_⟩
      refine ⟨_,rfl,t,_,0,_,rfl,rfl,dA,rfl,rfl,_,rfl,jN rfl ?_⟩
      refine ⟨_,rfl,t,_,0,_,rfl,rfl,dA,rfl,rfl,_,rfl,jN rfl ?_⟩
      refine ⟨_,rfl,t,_,0,_,rfl,rfl,dA,rfl,rfl,_,rfl,lM ?_⟩
      have hTm:=hT.mo O.same
      refine ⟨_,rfl,al,_,0,_,rfl,rfl,hTm,rfl,_,rfl,al,_,1,_,rfl,rfl,hTm,rfl,_,rfl,al,_,2,_,rfl,rfl,hTm,rfl,szl,fun t1 ht1=>?_⟩
      walk_at "nw"
      have dA:=d0A.mo O.same
      refine ⟨_,rfl,_,rfl,t,_,1,_,rfl,rfl,dA,rfl,?_⟩
      refine jk O 2 rfl (gC (by omega)) fun H6 O=>?_
      obtain ⟨Hb,O,sb,e1⟩:=(show Ow T H0 H6 ((t1,.tup (m5 (wm l 0))) :: (lo,.lst (S.ns.map V.str)) :: (ll,.lst (us.set k (V.ref t1))) :: L) from O).frz
      refine q Hb _ (us.set k (V.ref t1)) sb O ?_
      rw [List.map_set]
      exact (d0.mo sb).set (Den.lic (l:=wm l 0) (SqT.of e1)) k
    | move n y st =>
      obtain ⟨h0,h1,hS⟩:=qU hst
      subst hS
      obtain ⟨k,rfl⟩:=Int.eq_ofNat_of_zero_le h0
      obtain ⟨l,hl⟩:∃ l,S.ls[k]?=some l:=⟨_,List.getElem?_eq_getElem (by omega)⟩
      obtain ⟨al,hal,hT⟩:=d0.jG hl
      rw [lK rfl hl,Int.toNat_natCast] at q
      refine ⟨_,rfl,t,_,0,_,rfl,rfl,dA,rfl,szl,fun l4 h4=>?_⟩
      walk_at "nw"
      refine ⟨l4,[V.str "sell",V.str "part",V.str "drop",V.str "move"],rfl,.inl (O.sq 0),rfl,rfl,_,rfl,?_⟩
      rw [if_neg Bool.false_ne_true,show inV (V.str "move") [V.str "sell",V.str "part",V.str "drop",V.str "move"]=true by decide +kernel]
      have O:=O.tail.tail
      have dA:=d0A.mo O.same
      refine lM ?_
      refine ⟨_,rfl,_,rfl,t,_,1,_,rfl,rfl,dA,rfl,ll,_,_,_,rfl,rfl,O.sq 1,dW hal,?_⟩
      refine ⟨_,rfl,t,_,0,_,rfl,rfl,dA,rfl,rfl,_,rfl,jN rfl ?_⟩
      refine ⟨_,rfl,t,_,0,_,rfl,rfl,dA,rfl,rfl,_,rfl,jN rfl ?_⟩
      refine ⟨_,rfl,t,_,0,_,rfl,rfl,dA,rfl,rfl,_,rfl,jN rfl ?_⟩
      refine ⟨_,rfl,t,_,0,_,rfl,rfl,dA,rfl,rfl,_,rfl,jN rfl ?_⟩
      refine ⟨_,rfl,t,_,0,_,rfl,rfl,dA,rfl,rfl,_,rfl,lM ?_⟩
      have hTm:=hT.mo O.same
      refine ⟨_,rfl,al,_,0,_,rfl,rfl,hTm,rfl,_,rfl,t,_,3,_,rfl,rfl,dA,rfl,_,rfl,al,_,2,_,rfl,rfl,hTm,rfl,_,rfl,al,_,3,_,rfl,rfl,hTm,rfl,szl,fun t1 ht1=>?_⟩
      walk_at "nw"
      have dA:=d0A.mo O.same
      refine ⟨_,rfl,_,rfl,t,_,1,_,rfl,rfl,dA,rfl,?_⟩
      refine jk O 2 rfl (gC (by omega)) fun H6 O=>?_
      obtain ⟨Hb,O,sb,e1⟩:=(show Ow T H0 H6 ((t1,.tup (m5 (wst l st))) :: (lo,.lst (S.ns.map V.str)) :: (ll,.lst (us.set k (V.ref t1))) :: L) from O).frz
      refine q Hb _ (us.set k (V.ref t1)) sb O ?_
      rw [List.map_set]
      exact (d0.mo sb).set (Den.lic (l:=wst l st) (SqT.of e1)) k
    | lapse xs =>
      obtain ⟨hxl,hS⟩:=oV hst
      subst hS
      obtain ⟨a,hT0,hA0⟩:=d0A
      have dA:=O.same.wH hT0
      refine ⟨_,rfl,t,_,0,_,rfl,rfl,dA,rfl,szl,fun l4 h4=>?_⟩
      walk_at "nw"
      refine ⟨l4,[V.str "sell",V.str "part",V.str "drop",V.str "move"],rfl,.inl (O.sq 0),rfl,rfl,_,rfl,?_⟩
      rw [if_neg Bool.false_ne_true,show inV (V.str "lapse") [V.str "sell",V.str "part",V.str "drop",V.str "move"]=false by decide +kernel]
      have O:=O.tail.tail
      have dA:=O.same.wH hT0
      refine mW ?_
      refine ⟨_,rfl,t,_,0,_,rfl,rfl,dA,rfl,rfl,_,rfl,jN rfl ?_⟩
      refine ⟨_,rfl,t,_,0,_,rfl,rfl,dA,rfl,rfl,_,rfl,jN rfl ?_⟩
      refine ⟨_,rfl,t,_,0,_,rfl,rfl,dA,rfl,rfl,_,rfl,jN rfl ?_⟩
      refine ⟨_,rfl,t,_,0,_,rfl,rfl,dA,rfl,rfl,_,rfl,jN rfl ?_⟩
      refine ⟨_,rfl,t,_,0,_,rfl,rfl,dA,rfl,rfl,_,rfl,jN rfl ?_⟩
      refine ⟨_,rfl,t,_,0,_,rfl,rfl,dA,rfl,rfl,_,rfl,lM ?_⟩
      refine ⟨_,rfl,ll,_,rfl,.inl (O.sq 1),fun lc hlc=>?_⟩
      walk_at "nw"
      refine ⟨lc,us,rfl,O.sq 0,?_⟩
      refine rB (K:=K) (xs:=us) (fun i σ H'=>Iv (∃ (Hb:Hp) (us':List V) (v4 v5:Option V),σ=[some (.ref t),some (.int day),some (.ref ll),some (.ref lo),some (.ref tl),v4,v5]∧Ow T Hb H' ((lc,.lst us) :: (lo,.lst (S.ns.map V.str)) :: (ll,.lst us') :: L)∧aR T H0 Hb∧cR K Hb us' ((vU S.ls xs i).map pK)))
        ⟨trivial,H0,us,none,none,rfl,O,aR.refl O.same.t0,by rw [oW];exact d0⟩ (fun i σ H' _ ⟨_,_,_,_,_,_,O,_⟩=>O.sq 0) ?_ ?_
      · clear O
        rintro i y T0 σ H5 hy ⟨-,Hb,us',v4,v5,rfl,O,s0,d2⟩ hT0n
        have hi:=(List.getElem?_eq_some_iff.mp hy).1
        obtain ⟨l,hl⟩:∃ l,S.ls[i]?=some l:=⟨_,List.getElem?_eq_getElem (by omega)⟩
        obtain ⟨x,hx⟩:∃ x,xs[i]?=some x:=⟨_,List.getElem?_eq_getElem (by omega)⟩
        obtain ⟨al,hal,hTl⟩:=d0.jG hl
        rw [hy] at hal
        cases hal
        obtain ⟨e1,e2⟩:=qZ hl hx
        have hul2:us'.length=S.ls.length:=by
          have h1:=(List.getElem?_eq_some_iff.mp e1).1
          rw [d2.length,List.length_map];unfold vU jT;rw [List.length_append,List.length_zipWith,List.length_take,List.length_take,List.length_drop];omega
        walk_at "nw"
        refine ⟨T0,_,rfl,O.sqT 0,rfl,_,_,rfl,_,_,rfl,rfl,?_⟩
        have O:=O.tail
        have sO:=s0.trans O.same
        have hTm:=sO.wH hTl
        refine ⟨_,rfl,al,_,0,_,rfl,rfl,hTm,rfl,_,rfl,al,_,1,_,rfl,rfl,hTm,rfl,_,rfl,al,_,2,_,rfl,rfl,hTm,rfl,_,rfl,al,_,3,_,rfl,rfl,hTm,rfl,_,rfl,t,_,1,_,rfl,rfl,sO.wH hT0,rfl,_,rfl,a,_,_,_,rfl,rfl,sO.wH hA0,bJ hx,_,_,rfl,?_⟩
        refine ⟨szl,fun t1 ht1=>?_⟩
        dsimp only
        rw [show (if x<l.most then x else l.most)=min l.most x by rw [Int.min_def];split <;> split <;> omega]
        walk_at "nw"
        refine ⟨_,rfl,_,rfl,?_⟩
        refine jk O 3 rfl (gC (by omega)) fun H6 O=>?_
        obtain ⟨Hc,O,sc,e1'⟩:=(show Ow T Hb H6 ((t1,.tup (m5 (wm l (min l.most x)))) :: (lc,.lst us) :: (lo,.lst (S.ns.map V.str)) :: (ll,.lst (us'.set i (V.ref t1))) :: L) from O).frz
        refine ⟨trivial,Hc,us'.set i (V.ref t1),_,_,rfl,O,s0.trans sc,?_⟩
        rw [e2,List.map_set]
        exact (d2.mo sc).set (Den.lic (l:=wm l (min l.most x)) (SqT.of e1')) i
      clear O
      rintro σ H5 ⟨-,Hb,us',v4,v5,rfl,O,s0,d2⟩
      rw [hul,← hxl,oX (by omega)] at d2
      exact q Hb _ us' s0 O.tail d2
def gj (ls:List Lic) (n:Nat) (d:Int):Nat→List Int
  | 0=>[]
  | i + 1=>gj ls n d i++(match ls[i]? with | some l=>if i≠n∧l.day=d∧0<l.most then [(i:Int)] else [] | none=>[])
theorem qb (ls:List Lic) (n:Nat) (d:Int):∀ i,(gj ls n d i).length≤i
  | 0=>Nat.le_refl _
  | i + 1=>by
    have:=qb ls n d i
    unfold gj
    rw [List.length_append]
    split
    · split <;> simp <;> omega
    · simp;omega
theorem nA {ls:List Lic} {n:Nat} {l:Lic} (hl:ls[n]?=some l) (hm:0<l.most):∀ i,(gj ls n l.day i=[]→dZ ls l.day i=if n<i then [(n:Int)] else [])∧(gj ls n l.day i≠[]→∃ j:Nat,j≠n∧(j:Int)∈dZ ls l.day i)
  | 0=>⟨fun _=>rfl,fun h=>absurd rfl h⟩
  | i + 1=>by
    obtain ⟨h1,h2⟩:=nA hl hm i
    by_cases hin:i=n
    · subst hin
      have e1:gj ls i l.day (i + 1)=gj ls i l.day i:=by rw [gj,hl];simp
      have e2:dZ ls l.day (i + 1)=dZ ls l.day i++[(i:Int)]:=by rw [dZ,hl];simp [hm]
      rw [e1,e2]
      refine ⟨fun z=>?_,fun z=>?_⟩
      · rw [h1 z,if_neg (Nat.lt_irrefl _),if_pos (Nat.lt_succ_self _)];rfl
      · obtain ⟨j,a,b⟩:=h2 z
        exact ⟨j,a,List.mem_append_left _ b⟩
    · by_cases hq:∃ l2,ls[i]?=some l2∧l2.day=l.day∧0<l2.most
      · obtain ⟨l2,g1,g2,g3⟩:=hq
        have e1:gj ls n l.day (i + 1)=gj ls n l.day i++[(i:Int)]:=by rw [gj,g1];simp [hin,g2,g3]
        have e2:dZ ls l.day (i + 1)=dZ ls l.day i++[(i:Int)]:=by rw [dZ,g1];simp [g2,g3]
        rw [e1,e2]
        refine ⟨fun z=>absurd z (by simp),fun _=>⟨i,hin,List.mem_append_right _ (List.mem_singleton.mpr rfl)⟩⟩
      · have e1:gj ls n l.day (i + 1)=gj ls n l.day i:=by
          rw [gj]
          cases hg:ls[i]? with
          | none=>simp
          | some l2=>simp only;rw [if_neg fun z=>hq ⟨l2,hg,z.2⟩,List.append_nil]
        have e2:dZ ls l.day (i + 1)=dZ ls l.day i:=by
          rw [dZ]
          cases hg:ls[i]? with
          | none=>simp
          | some l2=>simp only;rw [if_neg fun z=>hq ⟨l2,hg,z⟩,List.append_nil]
        rw [e1,e2]
        refine ⟨fun z=>?_,h2⟩
        rw [h1 z]
        by_cases hlt:n<i
        · rw [if_pos hlt,if_pos (by omega)]
        · rw [if_neg hlt,if_neg (by omega)]
theorem sZ {ls:List Lic} {n:Nat} {l:Lic} (hl:ls[n]?=some l) (hm:0<l.most):gj ls n l.day ls.length=[]↔dZ ls l.day ls.length=[(n:Int)]:=by
  obtain ⟨h1,h2⟩:=nA hl hm ls.length
  have hn:=(List.getElem?_eq_some_iff.mp hl).1
  refine ⟨fun h=>by rw [h1 h,if_pos hn],fun h=>Classical.byContradiction fun z=>?_⟩
  obtain ⟨j,a,b⟩:=h2 z
  rw [h] at b
  have:=List.mem_singleton.mp b
  omega
theorem jM (a:Int) (n:Nat) (h:0<n):0≤a % (n:Int)∧a % (n:Int)<n:=⟨Int.emod_nonneg _ (by omega),Int.emod_lt_of_pos _ (by omega)⟩
theorem Cq {q:List Int} {x:Int} (hx:x∈q) (h:x < -1∨(q.length:Int)≤x):Rv.isR q=false:=by
  unfold Rv.isR
  rw [decide_eq_false (p:=Rv.inB q) (fun z=>by have:=z x hx;omega),Bool.and_false,Bool.false_and]
theorem Bk {q:List Int} {p t:Nat} (hp:q[p]?=some (t:Int)) (ht:q[t]?=some (p:Int)):Rv.isR q=false:=by
  have lp:=(List.getElem?_eq_some_iff.mp hp).1
  have lt:=(List.getElem?_eq_some_iff.mp ht).1
  have np:Rv.nxt q (p:Int)=t:=by
    have:=Rv.jK (r:=q) (p:=(p:Int)) (by omega) (by omega)
    rw [Int.toNat_natCast,hp] at this
    exact (Option.some.inj this).symm
  have nt:Rv.nxt q (t:Int)=p:=by
    have:=Rv.jK (r:=q) (p:=(t:Int)) (by omega) (by omega)
    rw [Int.toNat_natCast,ht] at this
    exact (Option.some.inj this).symm
  have key:∀ f (x:Int),x=p∨x=t→Rv.lJ q f x=p∨Rv.lJ q f x=t:=by
    intro f
    induction f with
    | zero=>exact fun x h=>h
    | succ f ih =>
      intro x h
      show Rv.lJ q f (Rv.stp q x)=p∨Rv.lJ q f (Rv.stp q x)=t
      refine ih _ ?_
      unfold Rv.stp
      rcases h with rfl | rfl
      · rw [if_neg (by omega),np];exact .inr rfl
      · rw [if_neg (by omega),nt];exact .inl rfl
  unfold Rv.isR
  rw [decide_eq_false (p:=∀ i,i<q.length→Rv.lJ q q.length (i:Int)=-1) (fun z=>by
    have h1:=z p lp
    rcases key q.length p (.inl rfl) with h | h <;> omega),Bool.and_false]
abbrev dN:Stmt:=top 41
theorem jJ:aW ["below","cell","spot","found"] ["below","cell"] (ak dN):=⟨rfl,rfl,rfl,by decide +kernel,rfl,by decide +kernel,by decide +kernel⟩
def Ca (K:PySem.W.Frag) (T:eF):Sp:=fun vs H Q _=>∃ (a:Addr) (r:List Int) (c:Int),vs=[.ref a,.int c]∧SqL K H a (r.map V.int)∧1≤r.length∧r.length≤40∧TabsOk T H∧uW T H (fun xs=>∃ q:List Int,xs=q.map V.int∧q.length≤40∧Rv.isR q=false) Q
theorem M7 {f:Addr} {fd:FuncData} (D:Df K mg "_law_spoilt" dN ["below","cell"] f fd) (B:Blt mg):bQ P w K mg base CX0 1 f fd ["below","cell"] (Ca K T):=by
  refine D.F.ok jJ (fun vs H Q E h=>?_) (fun cdv A outer s H vs Q E hr h=>?_)
  · obtain ⟨_,_,_,rfl,_⟩:=h;rfl
  · obtain ⟨a,r,c,rfl,hS,r1,r40,tk,q⟩:=h
    have O:=Ow.refl tk
    have hml:(((r.map V.int).length:Nat):Int)=(r.length:Int):=by rw [List.length_map]
    have n0:=jM (c / 8) r.length (by omega)
    have m0:=jM (c / 99) r.length (by omega)
    obtain ⟨sp,hsp⟩:=Int.eq_ofNat_of_zero_le n0.1
    obtain ⟨mp,hmp⟩:=Int.eq_ofNat_of_zero_le m0.1
    have c4:=jM c 4 (by decide)
    refine ⟨_,(au (bw (i:=2) jJ.nd rfl (Or.inl rfl) (aY bN (aY jl (pv 1) aq) (aP aM rfl B.len PySem.boot_len (aj (pv 0) ao))))
      (au (bw (i:=3) jJ.nd rfl (Or.inl rfl) (cJ dD rfl B.list PyProof.Rows.boot_list (aj (pv 0) ao)))
      (au (bT (aK dY (aY bN (pv 1) aq) aq (aN _))
        (aA (bf (bK ao)))
        aV)
      (iI (bT (aK dY (aY bN (pv 1) aq) aq (aN _))
        (aA (gY (aY oK (jc fB aq) (aY bN (aY jl (pv 1) aq) (aY sV aq aq))) (iW (pv 3) (pv 2) set_list)))
        aV)
      (iI (bT (aK dY (aY bN (pv 1) aq) aq (aN _))
        (aA (gY (aY iY (aP aM rfl B.len PySem.boot_len (aj (pv 0) ao)) (aY nu (aY bN (aY jl (pv 1) aq) (aY sV aq aq)) (aY bN (aY jl (pv 1) aq) aq))) (iW (pv 3) (pv 2) set_list)))
        aV)
      (iI (bT (aK dY (aY bN (pv 1) aq) aq (aN _))
        (au (gY (aY bN (aY jl (pv 1) aq) (aP aM rfl B.len PySem.boot_len (aj (pv 0) ao))) (iW (pv 3) (pv 2) set_list))
        (aA (gY (pv 2) (iW (pv 3) (aY bN (aY jl (pv 1) aq) (aP aM rfl B.len PySem.boot_len (aj (pv 0) ao))) set_list))))
        aV)
      (aA (bf (pv 3))))))))),?_⟩
    refine ⟨_,rfl,_,_,rfl,rfl,⟨by decide,by decide⟩,_,rfl,a,_,rfl,.inl hS,_,_,rfl,rfl,(by rw [hml];omega),?_⟩
    dsimp only
    rw [hml,hsp]
    refine ⟨_,rfl,a,_,rfl,.inl hS,fun lf hlf=>?_⟩
    walk_at "nw"
    refine ⟨_,rfl,_,_,rfl,rfl,(by show (0:Int)<4;decide),rfl,_,rfl,ifI (fun _=>?_) (fun h40=>?_)⟩
    · refine ⟨szl,fun l0 h0=>?_⟩
      walk_at "nw"
      exact O.ret 0 rfl q ⟨[],rfl,by decide,rfl⟩
    have h40:¬ c % 4=0:=h40
    refine ⟨fun σ H'=>Iv (∃ q:List Int,σ=[some (.ref a),some (.int c),some (.int (sp:Int)),some (.ref lf)]∧q.length=r.length∧(c % 4=1→Rv.isR q=false)∧(c % 4≠1→q=r)∧Ow T H H' [(lf,.lst (q.map V.int))]),?_,?_⟩
    · refine ⟨_,rfl,_,_,rfl,rfl,(by show (0:Int)<4;decide),rfl,_,rfl,ifI (fun h=>?_) (fun h=>⟨trivial,r,rfl,rfl,(fun z=>absurd z h),(fun _=>rfl),O⟩)⟩
      have h:c % 4=1:=h
      refine ⟨2,rfl,_,rfl,_,_,rfl,rfl,⟨by decide,by decide⟩,_,_,rfl,rfl,⟨by decide,by decide,by decide⟩,_,_,rfl,rfl,(by show (0:Int)<10 ^ (20:Int).toNat;decide),_,_,rfl,rfl,?_⟩
      dsimp only
      have hv:-2 - c / 99 % 10 ^ (20:Int).toNat < -1:=by
        have:=Int.emod_nonneg (c / 99) (show (10:Int) ^ (20:Int).toNat≠0 by decide)
        omega
      generalize -2 - c / 99 % 10 ^ (20:Int).toNat=v at hv
      refine ⟨_,rfl,_,rfl,?_⟩
      refine jk O 0 rfl (gC (by rw [List.length_map];omega)) fun H6 O=>?_
      refine ⟨trivial,r.set sp v,rfl,List.length_set,(fun _=>Cq (x:=v) (List.mem_of_getElem? (List.getElem?_set_self (by omega))) (.inl hv)),(fun z=>absurd h z),?_⟩
      rw [List.map_set];exact O
    clear O
    rintro σ H5 ⟨-,q1,rfl,hl1,f1,f1',O⟩
    refine ⟨fun σ H'=>Iv (∃ q:List Int,σ=[some (.ref a),some (.int c),some (.int (sp:Int)),some (.ref lf)]∧q.length=r.length∧(c % 4=1∨c % 4=2→Rv.isR q=false)∧(c % 4=3→q=r)∧Ow T H H' [(lf,.lst (q.map V.int))]),?_,?_⟩
    · refine ⟨_,rfl,_,_,rfl,rfl,(by show (0:Int)<4;decide),rfl,_,rfl,ifI (fun h=>?_) (fun h=>⟨trivial,q1,rfl,hl1,(fun z=>f1 (z.resolve_right h)),(fun z=>f1' (by omega)),O⟩)⟩
      have h:c % 4=2:=h
      refine ⟨_,rfl,a,_,rfl,.inl (O.same.seq hS),_,rfl,_,_,rfl,rfl,⟨by decide,by decide⟩,_,_,rfl,rfl,⟨by decide,by decide,by decide⟩,_,_,rfl,rfl,(by show (0:Int)<10 ^ (20:Int).toNat;decide),_,rfl,_,_,rfl,rfl,⟨by decide,by decide⟩,_,_,rfl,rfl,(by show (0:Int)<2;decide),_,_,rfl,rfl,?_,_,_,rfl,rfl,?_⟩
      · have:=jM (c / 4) 2 (by decide)
        exact .inr ⟨by omega,by omega⟩
      dsimp only
      rw [hml]
      have hv:(r.length:Int)≤(r.length:Int) + c / 99 % 10 ^ (20:Int).toNat * (c / 4 % 2):=by
        have a1:=Int.emod_nonneg (c / 99) (show (10:Int) ^ (20:Int).toNat≠0 by decide)
        have a2:=jM (c / 4) 2 (by decide)
        have:=Int.mul_nonneg a1 a2.1
        have e:(((2:Nat):Int))=2:=rfl
        rw [e] at this
        omega
      generalize (r.length:Int) + c / 99 % 10 ^ (20:Int).toNat * (c / 4 % 2)=v at hv
      refine ⟨_,rfl,_,rfl,?_⟩
      refine jk O 0 rfl (gC (by rw [List.length_map];omega)) fun H6 O=>?_
      refine ⟨trivial,q1.set sp v,rfl,by rw [List.length_set];exact hl1,(fun _=>Cq (x:=v) (List.mem_of_getElem? (List.getElem?_set_self (by omega))) (.inr (by rw [List.length_set,hl1];exact hv))),(fun z=>absurd h (by omega)),?_⟩
      rw [List.map_set];exact O
    clear O
    rintro σ H6 ⟨-,q2,rfl,hl2,f2,f2',O⟩
    refine ⟨fun σ H'=>Iv (∃ q:List Int,σ=[some (.ref a),some (.int c),some (.int (sp:Int)),some (.ref lf)]∧q.length=r.length∧Rv.isR q=false∧Ow T H H' [(lf,.lst (q.map V.int))]),?_,?_⟩
    · refine ⟨_,rfl,_,_,rfl,rfl,(by show (0:Int)<4;decide),rfl,_,rfl,ifI (fun h=>?_) (fun h=>⟨trivial,q2,rfl,hl2,f2 (by have h:¬ c % 4=3:=h;omega),O⟩)⟩
      have h:c % 4=3:=h
      refine ⟨_,rfl,_,_,rfl,rfl,⟨by decide,by decide⟩,_,rfl,a,_,rfl,.inl (O.same.seq hS),_,_,rfl,rfl,(by rw [hml];omega),?_⟩
      dsimp only
      rw [hml,hmp]
      refine ⟨_,rfl,_,rfl,?_⟩
      refine jk O 0 rfl (gC (by rw [List.length_map];omega)) fun H7 O=>?_
      refine ⟨_,rfl,_,rfl,_,rfl,_,_,rfl,rfl,⟨by decide,by decide⟩,_,rfl,a,_,rfl,.inl (O.same.seq hS),_,_,rfl,rfl,(by rw [hml];omega),?_⟩
      dsimp only
      rw [hml,hmp]
      refine jk O 0 rfl (gC (by rw [List.length_set,List.length_map];omega)) fun H8 O=>?_
      refine ⟨trivial,(q2.set sp (mp:Int)).set mp (sp:Int),rfl,by rw [List.length_set,List.length_set];exact hl2,?_,?_⟩
      · have e2:((q2.set sp (mp:Int)).set mp (sp:Int))[mp]?=some (sp:Int):=List.getElem?_set_self (by rw [List.length_set];omega)
        refine Bk (p:=mp) (t:=sp) e2 ?_
        by_cases he:mp=sp
        · rw [← he] at e2 ⊢;exact e2
        · rw [List.getElem?_set_ne he,List.getElem?_set_self (by omega)]
      · rw [List.map_set,List.map_set];exact O
    clear O
    rintro σ H7 ⟨-,q3,rfl,hl3,f3,O⟩
    exact ⟨_,rfl,O.ret 0 rfl q ⟨q3,rfl,by omega,f3⟩⟩
def dL (t a:Addr):jL→List (Addr × HO)
  | .turn=>[(t,.tup [.str "turn"])]
  | .file x s m b=>[(t,.tup [.str "file",.str x,.int s,.int m,.int b])]
  | .sell n y z=>[(t,.tup [.str "sell",.int n,.str y,.str z])]
  | .part n y m z=>[(t,.tup [.str "part",.int n,.str y,.int m,.str z])]
  | .drop n y=>[(t,.tup [.str "drop",.int n,.str y])]
  | .move n y s=>[(t,.tup [.str "move",.int n,.str y,.int s])]
  | .lapse xs=>[(t,.tup [.str "lapse",.ref a]),(a,.tup (xs.map V.int))]
theorem zG {K:PySem.W.Frag} {T:eF} {H0 H:Hp} {L:List (Addr × HO)} {t a:Addr} {d:jL} (O:Ow T H0 H (dL t a d++L)):∃ Hb,Ow T Hb H L∧aR T H0 Hb∧Den K Hb (.ref t) (jy d):=by
  cases d with
  | turn=>obtain ⟨Hb,O,sb,e⟩:=(show Ow T H0 H (_ :: L) from O).frz;exact ⟨Hb,O,sb,.tuple (SqT.of e) (.cons (.str _) .nil)⟩
  | file x s m b=>obtain ⟨Hb,O,sb,e⟩:=(show Ow T H0 H (_ :: L) from O).frz;exact ⟨Hb,O,sb,.tuple (SqT.of e) (.cons (.str _) (.cons (.str _) (.cons (.int _) (.cons (.int _) (.cons (.int _) .nil)))))⟩
  | sell n y z=>obtain ⟨Hb,O,sb,e⟩:=(show Ow T H0 H (_ :: L) from O).frz;exact ⟨Hb,O,sb,.tuple (SqT.of e) (.cons (.str _) (.cons (.int _) (.cons (.str _) (.cons (.str _) .nil))))⟩
  | part n y m z=>obtain ⟨Hb,O,sb,e⟩:=(show Ow T H0 H (_ :: L) from O).frz;exact ⟨Hb,O,sb,.tuple (SqT.of e) (.cons (.str _) (.cons (.int _) (.cons (.str _) (.cons (.int _) (.cons (.str _) .nil)))))⟩
  | drop n y=>obtain ⟨Hb,O,sb,e⟩:=(show Ow T H0 H (_ :: L) from O).frz;exact ⟨Hb,O,sb,.tuple (SqT.of e) (.cons (.str _) (.cons (.int _) (.cons (.str _) .nil)))⟩
  | move n y s=>obtain ⟨Hb,O,sb,e⟩:=(show Ow T H0 H (_ :: L) from O).frz;exact ⟨Hb,O,sb,.tuple (SqT.of e) (.cons (.str _) (.cons (.int _) (.cons (.str _) (.cons (.int _) .nil))))⟩
  | lapse xs =>
    obtain ⟨Hb,O,sb,e⟩:=(show Ow T H0 H (_ :: _ :: L) from O).frz
    obtain ⟨Hc,O,sc,e2⟩:=O.frz
    have e:=sc.keep _ _ e (fun _ z=>nomatch z)
    exact ⟨Hc,O,sb.trans sc,.tuple (SqT.of e) (.cons (.str _) (.cons (.tuple (SqT.of e2) (cR.ints xs)) .nil))⟩
structure At9 (r:List Int) (S:RS) (i:Nat):Prop where
  rp:RP r [] S
  r1:1≤r.length
  re:replay r RS.new S.ds=.ok S
  le:S.ds.length≤i
  ok:∀ d∈S.ds,jo d
  na:∀ x∈S.ns,iJ x∧Asc x
  lo:∀ l∈S.ls,jA r l
  d0:0≤S.day
  d1:S.day≤(i:Int)
  ll:S.ls.length≤i
theorem za {r:List Int} {S:RS} {n:Int} (h:∀ l∈S.ls,jA r l) (h0:0≤n) (h1:n<S.ls.length):jA r (S.at_ n):=by
  obtain ⟨k,rfl⟩:=Int.eq_ofNat_of_zero_le h0
  obtain ⟨l,hl⟩:∃ l,S.ls[k]?=some l:=⟨_,List.getElem?_eq_getElem (by omega)⟩
  rw [lK rfl hl];exact h l (List.mem_of_getElem? hl)
theorem jA.wm {r:List Int} {l:Lic} {m:Int} (h:jA r l) (h0:0≤m) (h1:m≤l.most):jA r (wm l m):=⟨⟨h.1.1,h.1.2.1,h.1.2.2.1,h.1.2.2.2.1,h0,Int.le_trans h1 h.1.2.2.2.2.2⟩,h.2⟩
theorem KD {r:List Int} {S S':RS} {d:jL} (h:step r S d=.ok S') (hl:∀ l∈S.ls,jA r l):∀ l∈S'.ls,jA r l:=by
  have ap:∀ {l2:Lic} {ls:List Lic},(∀ l∈ls,jA r l)→jA r l2→∀ l∈ls++[l2],jA r l:=fun h1 h2 l hl=>by
    rcases List.mem_append.mp hl with z | z
    · exact h1 l z
    · rw [List.mem_singleton.mp z];exact h2
  have st:∀ {l2:Lic} {k:Nat},jA r l2→∀ l∈S.ls.set k l2,jA r l:=fun h2 l hl'=>by
    rcases List.mem_or_eq_of_mem_set hl' with z | z
    · exact hl l z
    · rw [z];exact h2
  cases d with
  | turn=>cases h;exact hl
  | file x s m b =>
    simp only [step] at h
    split at h
    · cases h
    · split at h
      · cases h
      · rename_i h2
        split at h
        · cases h
        · cases h
          exact ap hl (Classical.not_not.mp fun z=>h2 (.inr z))
  | sell n y z=>obtain ⟨_,_,e⟩:=qF h;subst e;exact hl
  | part n y m z =>
    obtain ⟨h0,h1,_,h⟩:=jH h
    have g:=za hl h0 h1
    split at h
    · cases h
    · split at h
      · cases h
      · rename_i h2
        have h2:=Classical.not_not.mp h2
        split at h
        · cases h
        · split at h
          · cases h
          · cases h
            exact ap (st (g.wm (by omega) (by omega))) (g.wm (by omega) (by omega))
  | drop n y =>
    obtain ⟨h0,h1,e⟩:=nW h
    subst e
    have g:=za hl h0 h1
    exact st (g.wm (by decide) g.1.2.2.2.2.1)
  | move n y s =>
    obtain ⟨h0,h1,_,h⟩:=jH h
    split at h
    · cases h
    · rename_i h2
      cases h
      exact st (Classical.not_not.mp h2)
  | lapse xs =>
    simp only [step] at h
    split at h
    · cases h
    · split at h
      · cases h
      · rename_i h2
        have h2:=Classical.not_not.mp h2
        cases h
        intro l hl'
        show jA r l
        have hl':l∈jT S.ls xs:=hl'
        unfold jT at hl'
        obtain ⟨i,hi⟩:=List.getElem?_of_mem hl'
        rw [List.getElem?_zipWith] at hi
        cases e1:S.ls[i]? with
        | none=>rw [e1] at hi;cases hi
        | some l1 =>
          cases e2:xs[i]? with
          | none=>rw [e1,e2] at hi;cases hi
          | some x =>
            rw [e1,e2] at hi
            have hi:=Option.some.inj hi
            have g:=hl l1 (List.mem_of_getElem? e1)
            have hx:=h2 x (List.mem_of_getElem? e2)
            have hm:=g.1.2.2.2.2.1
            rw [← hi]
            exact g.wm (by rw [Int.min_def];split <;> omega) (Int.min_le_left _ _)
theorem KC {r:List Int} {S S':RS} {d:jL} (h:step r S d=.ok S') (hd:jo d) (hn:∀ x∈S.ns,iJ x∧Asc x):∀ x∈S'.ns,iJ x∧Asc x:=by
  have ap:∀ {z:Str},iJ z→Asc z→∀ x∈S.ns++[z],iJ x∧Asc x:=fun h1 h2 x hx=>by
    rcases List.mem_append.mp hx with e | e
    · exact hn x e
    · rw [List.mem_singleton.mp e];exact ⟨h1,h2⟩
  cases d with
  | file x s m b =>
    simp only [step] at h
    split at h
    · cases h
    · rename_i h1
      have h1:=Classical.not_not.mp h1
      repeat' split at h
      all_goals first | (cases h;done) | (cases h;exact ap h1 hd)
  | sell n y z =>
    obtain ⟨_,_,_,h⟩:=jH h
    split at h
    · cases h
    · rename_i h1
      have h1:=Classical.not_not.mp h1
      cases h
      intro x hx
      rcases List.mem_or_eq_of_mem_set hx with e | e
      · exact hn x e
      · rw [e];exact ⟨h1,hd.2⟩
  | part n y m z =>
    obtain ⟨_,_,_,h⟩:=jH h
    split at h
    · cases h
    · rename_i h1
      have h1:=Classical.not_not.mp h1
      repeat' split at h
      all_goals first | (cases h;done) | (cases h;exact ap h1 hd.2)
  | turn=>cases h;exact hn
  | drop n y=>obtain ⟨_,_,e⟩:=nW h;subst e;exact hn
  | move n y s=>obtain ⟨_,_,e⟩:=qU h;subst e;exact hn
  | lapse xs=>obtain ⟨_,e⟩:=oV h;subst e;exact hn
theorem At9.step {r:List Int} {S S':RS} {i:Nat} {d:jL} (h:At9 r S i) (hi:i≤100) (hs:step r S d=.ok S') (hd:jo d):At9 r S' (i + 1):=by
  have e:=qu hs
  have h0:=h.d0
  have h1:=h.d1
  have h2:=h.ll
  have h3:=h.le
  refine ⟨xP h.rp (by omega) hs,h.r1,?_,by rw [e,List.length_append];simp only [List.length_cons,List.length_nil];omega,fun x hx=>?_,KC hs hd h.na,KD hs h.lo,?_,?_,?_⟩
  · rw [e,gA h.re];exact hs
  · rw [e] at hx
    rcases List.mem_append.mp hx with z | z
    · exact h.ok x z
    · rw [List.mem_singleton.mp z];exact hd
  · rcases mD hs with ⟨_,z⟩ | ⟨_,z⟩ <;> omega
  · rcases mD hs with ⟨_,z⟩ | ⟨_,z⟩ <;> omega
  · obtain ⟨_,_,z⟩:=vB hs h.rp.nn h.rp.l60
    omega
theorem zU {w:Int} (h0:0≤w) (h1:w<3):∃ x:Str,atI [V.str "a",V.str "b",V.str "cd"] w=some (V.str x)∧iJ x∧Asc x:=by
  rcases (by omega:w=0∨w=1∨w=2) with e | e | e <;> subst e <;> exact ⟨_,rfl,⟨by decide +kernel,by decide +kernel,by decide +kernel⟩,by decide +kernel,by decide +kernel⟩
abbrev fJ:Stmt:=top 47
theorem gG:aW ["xs","below","start","far","back","most"] ["xs","below"] (ak fJ):=⟨rfl,rfl,rfl,by decide +kernel,rfl,by decide +kernel,by decide +kernel⟩
def KH (K:PySem.W.Frag) (T:eF):Sp:=fun vs H Q _=>∃ (lx lv:Addr) (xs r:List Int),vs=[.ref lx,.ref lv]∧SqL K H lx (xs.map V.int)∧xs.length=6∧(∀ x∈xs,0≤x)∧SqL K H lv (r.map V.int)∧Rv.mq r∧1≤r.length∧r.length≤40∧TabsOk T H ∧
  ∀ (t:Addr) (x:Str) (st mo bk:Int) H',Ow T H H' [(t,.tup [.str "file",.str x,.int st,.int mo,.int bk])]→iJ x→Asc x→0≤st→st<r.length→(bk=-1∨bk∈(Rv.walk r st).drop 1)→1≤mo→mo≤1000000000000→Q (.ref t) H'
theorem Uh {f f1:Addr} {fd fd1:FuncData} (D:Df K mg "_law_file" fJ ["xs","below"] f fd) (B:Blt mg)
    (jf:Df K mg "_law_way" gH ["below","reach"] f1 fd1) (xg:bQ P w K mg base CX0 1 f1 fd1 ["below","reach"] (vD K)):bQ P w K mg base CX0 2 f fd ["xs","below"] (KH K T):=by
  refine D.F.ok gG (fun vs H Q E h=>?_) (fun cdv A outer s H vs Q E hr h=>?_)
  · obtain ⟨_,_,_,_,rfl,_⟩:=h;rfl
  · obtain ⟨lx,lv,xs,r,rfl,hX,h6,hx0,hV,hR,r1,r40,tk,q⟩:=h
    have hu:=hr.units
    have O:=Ow.refl tk
    have g:∀ k:Nat,k<6→xs[k]?=some (xs.getD k 0):=fun k hk=>o8 (by omega)
    have hml:(((r.map V.int).length:Nat):Int)=(r.length:Int):=by rw [List.length_map]
    refine ⟨_,(au (bw (i:=2) gG.nd rfl (Or.inl rfl) (aY bN (aH aJ (pv 0) aq (fun _ _=>rfl)) (aP aM rfl B.len PySem.boot_len (aj (pv 1) ao))))
      (au (bw (i:=3) gG.nd rfl (Or.inl rfl) (jE lR (aO xg (hr.mono (by decide)) rfl jf.m jf.F.kp jf.b .nil bU (aj (pv 1) (aj (pv 2) ao))) (j5 aq) lV))
      (au (bw (i:=4) gG.nd rfl (Or.inl rfl) (jc fB aq))
      (iI (bT (PW.pt (pw_and (aK (yJ hu) (pv 3) (bK ao) (aN _)) (pw_and1 (aK dY (aY bN (aH aJ (pv 0) aq (fun _ _=>rfl)) aq) aq (aN _)))))
        (aA (bw (i:=4) gG.nd rfl (Or.inl rfl) (aH aJ (pv 3) (aY bN (aH aJ (pv 0) aq (fun _ _=>rfl)) (aP aM rfl B.len PySem.boot_len (aj (pv 3) ao))) (fun _ _=>rfl))))
        aV)
      (au (bw (i:=5) gG.nd rfl (Or.inl rfl) (aH aJ (bK (aj (aY iY aq (aY bN (aH aJ (pv 0) aq (fun _ _=>rfl)) aq)) (aj (aY iY aq (aY bN (aY nu (aH aJ (pv 0) aq (fun _ _=>rfl)) aq) (aY sV aq aq))) ao))) (aY bN (aY jl (aH aJ (pv 0) aq (fun _ _=>rfl)) aq) aq) (fun _ _=>rfl)))
      (aA (bf (bA (aj aF (aj (aH aJ (bK (aj aF (aj aF (aj aF ao)))) (aY bN (aH aJ (pv 0) aq (fun _ _=>rfl)) aq) (fun _ _=>rfl)) (aj (pv 2) (aj (pv 5) (aj (pv 4) ao))))))))))))),?_⟩
    have s0:=jM (xs.getD 1 0) r.length (by omega)
    refine ⟨_,rfl,lx,_,1,_,rfl,rfl,hX,bJ (i:=1) (g 1 (by decide)),_,rfl,lv,_,rfl,.inl hV,_,_,rfl,rfl,(by rw [hml];omega),?_⟩
    dsimp only
    rw [hml]
    generalize xs.getD 1 0 % (r.length:Int)=st at s0
    refine ⟨_,rfl,_,rfl,lv,r,st,rfl,hV,hR,s0.1,s0.2,by omega,O.got fun lw H1 ys O e=>?_⟩
    subst e
    refine ⟨1,rfl,lw,_,rfl,O.sq 0,fun lf hlf=>?_⟩
    walk_at "nw"
    rw [show pH ((Rv.walk r st).map V.int) (some 1) none=((Rv.walk r st).drop 1).map V.int from v8 _ 1] at O
    have O:=O.two
    refine ⟨1,rfl,?_⟩
    refine ⟨fun σ H'=>Iv (∃ bk:Int,σ=[some (.ref lx),some (.ref lv),some (.int st),some (.ref lf),some (.int bk),none]∧(bk=-1∨bk∈(Rv.walk r st).drop 1)∧Ow T H H' []),?_,?_⟩
    · have stay:∀ {H'},Ow T H H' [(lf,.lst (((Rv.walk r st).drop 1).map V.int))]→Iv (∃ bk:Int,[some (V.ref lx),some (.ref lv),some (.int st),some (.ref lf),some (.int (-1)),none]=[some (.ref lx),some (.ref lv),some (.int st),some (.ref lf),some (.int bk),none]∧(bk=-1∨bk∈(Rv.walk r st).drop 1)∧Ow T H H' []):=fun O=>⟨trivial,-1,rfl,.inl rfl,O.tail⟩
      refine ⟨_,rfl,szl,fun lz hlz=>?_⟩
      walk_at "nw"
      refine ⟨lf,lz,_,[],rfl,rfl,O.sq 1,O.sq 0,_,rfl,?_⟩
      rw [if_pos rfl]
      have O:=O.tail
      refine ifN (ifD (fun _=>stay O) (fun hne=>?_))
      refine ⟨_,rfl,lx,_,2,_,rfl,rfl,O.same.seq hX,bJ (i:=2) (g 2 (by decide)),_,_,rfl,rfl,(by show (0:Int)<3;decide),rfl,_,rfl,ifI (fun _=>?_) (fun _=>stay O)⟩
      have hfl:1≤((Rv.walk r st).drop 1).length:=by
        cases hh:(Rv.walk r st).drop 1 with
        | nil=>exact absurd hh hne
        | cons a b=>simp
      have hfm:(((((Rv.walk r st).drop 1).map V.int).length:Nat):Int)=(((Rv.walk r st).drop 1).length:Int):=by rw [List.length_map]
      have b0:=jM (xs.getD 3 0) ((Rv.walk r st).drop 1).length (by omega)
      refine ⟨_,rfl,_,rfl,lx,_,3,_,rfl,rfl,O.same.seq hX,bJ (i:=3) (g 3 (by decide)),_,rfl,lf,_,rfl,.inl (O.sq 0),_,_,rfl,rfl,(by rw [hfm];omega),?_⟩
      dsimp only
      rw [hfm]
      obtain ⟨j,hj⟩:=Int.eq_ofNat_of_zero_le b0.1
      obtain ⟨bk,hbk⟩:∃ bk,((Rv.walk r st).drop 1)[j]?=some bk:=⟨_,List.getElem?_eq_getElem (by omega)⟩
      rw [hj]
      exact ⟨lf,_,_,_,rfl,rfl,O.sq 0,bJ hbk,trivial,bk,rfl,.inr (List.mem_of_getElem? hbk),O.tail⟩
    clear O
    rintro σ H2 ⟨-,bk,rfl,hbk,O⟩
    have p12:(10:Int) ^ (12:Int).toNat=1000000000000:=by decide
    obtain ⟨mo,hmo,m1,m2⟩:∃ mo,atI [V.int (1 + xs.getD 4 0 % 9),V.int (1 + xs.getD 4 0 * 80021 % 10 ^ (12:Int).toNat)] (xs.getD 2 0 / 3 % 2)=some (V.int mo)∧1≤mo∧mo≤1000000000000:=by
      have a1:=jM (xs.getD 4 0) 9 (by decide)
      have a2:=jM (xs.getD 2 0 / 3) 2 (by decide)
      have a3:=Int.emod_nonneg (xs.getD 4 0 * 80021) (show (1000000000000:Int)≠0 by decide)
      have a4:=Int.emod_lt_of_pos (xs.getD 4 0 * 80021) (show (0:Int)<1000000000000 by decide)
      rcases (by omega:xs.getD 2 0 / 3 % 2=0∨xs.getD 2 0 / 3 % 2=1) with e | e <;> rw [e]
      · exact ⟨_,rfl,by omega,by omega⟩
      · exact ⟨_,rfl,by rw [p12];omega,by rw [p12];omega⟩
    refine ⟨_,rfl,lx,_,4,_,rfl,rfl,O.same.seq hX,bJ (i:=4) (g 4 (by decide)),_,_,rfl,rfl,(by show (0:Int)<9;decide),_,_,rfl,rfl,_,rfl,lx,_,4,_,rfl,rfl,O.same.seq hX,bJ (i:=4) (g 4 (by decide)),_,_,rfl,rfl,.inr ⟨by decide,by decide⟩,_,_,rfl,rfl,⟨by decide,by decide,by decide⟩,_,_,rfl,rfl,(by show (0:Int)<10 ^ (12:Int).toNat;decide),_,_,rfl,rfl,szl,fun lp hp=>?_⟩
    walk_at "nw"
    refine ⟨_,rfl,lx,_,2,_,rfl,rfl,O.same.seq hX,bJ (i:=2) (g 2 (by decide)),_,_,rfl,rfl,⟨by decide,by decide⟩,_,_,rfl,rfl,(by show (0:Int)<2;decide),lp,_,_,_,rfl,rfl,O.sq 0,hmo,?_⟩
    have O:=O.tail
    refine ⟨szl,fun ln hn=>?_⟩
    walk_at "nw"
    obtain ⟨x,hx,n1,n2⟩:=zU (jM (xs.getD 5 0) 3 (by decide)).1 (jM (xs.getD 5 0) 3 (by decide)).2
    refine ⟨_,rfl,lx,_,5,_,rfl,rfl,O.same.seq hX,bJ (i:=5) (g 5 (by decide)),_,_,rfl,rfl,(by show (0:Int)<3;decide),ln,_,_,_,rfl,rfl,O.sq 0,hx,_,rfl,_,rfl,_,rfl,szl,fun t ht=>?_⟩
    walk_at "nw"
    exact q t x st mo bk _ (O.sub (List.Sublist.cons₂ _ (List.nil_sublist _))) n1 n2 s0.1 s0.2 hbk m1 m2
abbrev cZ:Stmt:=top 46
theorem qH:aW ["lines","number"] ["lines","number"] (ak cZ):=⟨rfl,rfl,rfl,by decide +kernel,rfl,by decide +kernel,by decide +kernel⟩
def qy (K:PySem.W.Frag) (T:eF):Sp:=fun vs H Q _=>∃ (ll:Addr) (us:List V) (ls:List Lic) (n:Nat) (l:Lic),vs=[.ref ll,.int (n:Int)]∧SqL K H ll us∧cR K H us (ls.map pK)∧ls[n]?=some l∧ls.length≤900∧TabsOk T H∧uW T H (fun xs=>xs=(gj ls n l.day ls.length).map V.int) Q
theorem Am {f:Addr} {fd:FuncData} (D:Df K mg "_law_mates" cZ ["lines","number"] f fd) (B:Blt mg):bQ P w K mg base CX0 1 f fd ["lines","number"] (qy K T):=by
  refine D.F.ok qH (fun vs H Q E h=>?_) (fun cdv A outer s H vs Q E hr h=>?_)
  · obtain ⟨_,_,_,_,_,rfl,_⟩:=h;rfl
  · obtain ⟨ll,us,ls,n,l,rfl,hL,d0,hl,hl9,tk,q⟩:=h
    have O:=Ow.refl tk
    have hul:us.length=ls.length:=by rw [d0.length,List.length_map]
    obtain ⟨al,hal,hT⟩:=d0.jG hl
    refine ⟨_,(aA (bf (j6 (ak cZ) rfl ["lines","number"] rfl ["k","one","number","lines"] [none,none,some 1,some 0] (by decide +kernel) (by decide +kernel) (by decide +kernel) rfl (lW rfl B.enumerate (aj (pv 0) ao)) (fun _ _ _=>(qO (K:=K) (n:=2) rfl rfl (bW (bI (i:=0) (show (["k","one","number","lines"]:List Str).Nodup by decide +kernel) rfl (Or.inl rfl)) (bW (bI (i:=1) (show (["k","one","number","lines"]:List Str).Nodup by decide +kernel) rfl (Or.inl rfl)) jj)))) (fun _ _ _=>(uE (PW.pt (pw_and (aK sW (pv 0) (pv 2) (aN _)) (pw_and (aK dY (aH (oZ (K:=K) rfl) (pv 1) aq (fun _ _=>rfl)) (aH (oZ (K:=K) rfl) (aH (lE (K:=K) rfl) (pv 3) (pv 2) (fun _ _=>rfl)) aq (fun _ _=>rfl)) (aN _)) (pw_and1 (aK Ai (aH (oZ (K:=K) rfl) (pv 1) aq (fun _ _=>rfl)) aq (aN _)))))))) (fun _ _ _=>(pv 0))))),?_⟩
    refine ⟨_,rfl,ll,us,rfl,hL,fun lw hlw=>?_⟩
    refine mJ (K:=K) (xs:=us) (fun i τ H'=>Iv (∃ (v0 v1:Option V),τ=[v0,v1,some (.int (n:Int)),some (.ref ll)]∧Ow T H H' [(lw,.lst ((gj ls n l.day i).map V.int))])) ⟨trivial,none,none,rfl,O.mk' hlw rfl⟩ (fun i τ H' _ ⟨_,_,_,_,O⟩=>O.same.seq hL) ?_ ?_
    · clear O
      rintro i y T0 τ H5 hy ⟨-,v0,v1,rfl,O⟩ hT0
      obtain ⟨a2,l2,rfl,hl2,hT2⟩:=d0.qX hy
      have hi:=(List.getElem?_eq_some_iff.mp hl2).1
      have hml:=qb ls n l.day i
      walk_at "nw"
      refine ⟨T0,_,rfl,O.sqT 0,rfl,_,_,rfl,_,_,rfl,rfl,?_⟩
      have O:=O.tail
      have no:¬ (i≠n∧l2.day=l.day∧0<l2.most)→gj ls n l.day (i + 1)=gj ls n l.day i:=fun h=>by
        rw [gj,hl2];simp only [if_neg h,List.append_nil]
      refine ⟨_,rfl,_,rfl,rfl,_,rfl,ifN (ifI (fun e1=>?_) (fun e1=>?_))⟩
      · exact ⟨trivial,_,_,rfl,by rw [no fun z=>z.1 (by have e1:(i:Int)=(n:Int):=e1;omega)];exact O⟩
      refine ⟨_,rfl,a2,_,0,_,rfl,rfl,hT2.mo O.same,rfl,_,rfl,_,rfl,ll,_,_,_,rfl,rfl,O.same.seq hL,dW hal,al,_,0,_,rfl,rfl,hT.mo O.same,rfl,rfl,_,rfl,ifI (fun e2=>?_) (fun e2=>?_)⟩
      rotate_left
      · exact ⟨trivial,_,_,rfl,by rw [no fun z=>e2 z.2.1];exact O⟩
      refine ⟨_,rfl,a2,_,3,_,rfl,rfl,hT2.mo O.same,rfl,_,_,rfl,rfl,_,rfl,ifD (fun e3=>?_) (fun e3=>?_)⟩
      rotate_left
      · exact ⟨trivial,_,_,rfl,by rw [no fun z=>e3 z.2.2];exact O⟩
      refine ⟨_,rfl,_,O.get 0,aX (by rw [List.length_map];omega),?_⟩
      walk_at "pt"
      refine ⟨trivial,_,_,rfl,?_⟩
      rw [gj,hl2]
      simp only [if_pos (show i≠n∧l2.day=l.day∧0<l2.most from ⟨fun z=>e1 (by rw [z]),e2,e3⟩)]
      rw [List.map_append];exact O
    clear O
    rintro τ H5 ⟨-,v0,v1,rfl,O⟩
    rw [hul] at O
    exact O.ret 0 rfl q rfl
theorem tK (ls:List Lic):PyData.eqv (.list (ls.map pK)) (.list [])=decide (ls.length=0):=by
  cases ls with
  | nil=>rfl
  | cons p ps=>rfl
theorem p8:iJ "b":=⟨by decide +kernel,by decide +kernel,by decide +kernel⟩
theorem uT:Asc "b":=⟨by decide +kernel,by decide +kernel⟩
abbrev eH:Stmt:=top 48
theorem jC:aW ["xs","below","lines","owners","kind","number","line"] ["xs","below","lines","owners"] (ak eH):=⟨rfl,rfl,rfl,by decide +kernel,rfl,by decide +kernel,by decide +kernel⟩
def yj (K:PySem.W.Frag) (T:eF):Sp:=fun vs H Q _=>∃ (lx lv ll ln:Addr) (xs r:List Int) (us:List V) (S:RS) (i:Nat),vs=[.ref lx,.ref lv,.ref ll,.ref ln]∧SqL K H lx (xs.map V.int)∧xs.length=6∧(∀ x∈xs,0≤x)∧SqL K H lv (r.map V.int)∧SqL K H ll us∧cR K H us (S.ls.map pK)∧SqL K H ln (S.ns.map V.str)∧At9 r S i∧i≤50∧TabsOk T H ∧
  ∀ (t a:Addr) (d:jL) (S':RS) H',Ow T H H' (dL t a d)→jo d→step r S d=.ok S'→Q (.ref t) H'
theorem K9 {f f1 f2:Addr} {fd fd1 fd2:FuncData} (D:Df K mg "_law_deed" eH ["xs","below","lines","owners"] f fd) (B:Blt mg)
    (iy:Df K mg "_law_file" fJ ["xs","below"] f1 fd1) (uZ:bQ P w K mg base CX0 2 f1 fd1 ["xs","below"] (KH K T))
    (cO:Df K mg "_law_mates" cZ ["lines","number"] f2 fd2) (lu:bQ P w K mg base CX0 1 f2 fd2 ["lines","number"] (qy K T)):bQ P w K mg base CX0 3 f fd ["xs","below","lines","owners"] (yj K T):=by
  refine D.F.ok jC (fun vs H Q E h=>?_) (fun cdv A outer s H vs Q E hr h=>?_)
  · obtain ⟨_,_,_,_,_,_,_,_,_,rfl,_⟩:=h;rfl
  · obtain ⟨lx,lv,ll,ln,xs,r,us,S,i,rfl,hX,h6,hx0,hV,hL,d0,hN,hA,hi50,tk,q⟩:=h
    have hu:=hr.units
    have O:=Ow.refl tk
    have g:∀ k:Nat,k<6→xs[k]?=some (xs.getD k 0):=fun k hk=>o8 (by omega)
    have gp:∀ k:Nat,k<6→0≤xs.getD k 0:=fun k hk=>hx0 _ (List.mem_of_getElem? (g k hk))
    have hul:us.length=S.ls.length:=by rw [d0.length,List.length_map]
    have hui:((us.length:Nat):Int)=(S.ls.length:Int):=by rw [hul]
    have hml:(((r.map V.int).length:Nat):Int)=(r.length:Int):=by rw [List.length_map]
    have hll:=hA.ll
    have hd0:=hA.d0
    have hd1:=hA.d1
    have hnn:=hA.rp.nn
    have r1:=hA.r1
    refine ⟨_,(au (bw (i:=4) jC.nd rfl (Or.inl rfl) (aY bN (aH aJ (pv 0) aq (fun _ _=>rfl)) aq))
      (au (bT (aK dY (pv 4) aq (aN _))
        (aA (bf (bA (aj aF ao))))
        aV)
      (au (bT (PW.pt (pw_or (aK (p7 hu) (pv 2) (bK ao) (aN _)) (pw_or1 (aK qQ (pv 4) aq (aN _)))))
        (aA (bf (aO uZ (hr.mono (by decide)) rfl iy.m iy.F.kp iy.b .nil bU (aj (pv 0) (aj (pv 1) ao)))))
        aV)
      (au (bw (i:=5) jC.nd rfl (Or.inl rfl) (aY bN (aH aJ (pv 0) aq (fun _ _=>rfl)) (aP aM rfl B.len PySem.boot_len (aj (pv 2) ao))))
      (au (bw (i:=6) jC.nd rfl (Or.inl rfl) (aH aJ (pv 2) (pv 5) (fun _ _=>rfl)))
      (au (bT (aK dY (pv 4) aq (aN _))
        (aA (bf (bA (aj aF (aj (pv 5) (aj (aH aJ (pv 3) (pv 5) (fun _ _=>rfl)) (aj (aH aJ (bK (aj aF (aj aF (aj aF ao)))) (aY bN (aH aJ (pv 0) aq (fun _ _=>rfl)) aq) (fun _ _=>rfl)) ao)))))))
        aV)
      (iI (bT (PW.pt (pw_and (aK dY (pv 4) aq (aN _)) (pw_and (aK Ai (aH aQ (pv 6) aq (fun _ _=>rfl)) aq (aN _)) (pw_and1 (aK (Cm hu) (aO lu (hr.mono (by decide)) rfl cO.m cO.F.kp cO.b .nil bU (aj (pv 2) (aj (pv 5) ao))) (bK ao) (aN _))))))
        (aA (bf (bA (aj aF (aj (pv 5) (aj (aH aJ (pv 3) (pv 5) (fun _ _=>rfl)) (aj (aY iY aq (aY bN (aH aJ (pv 0) aq (fun _ _=>rfl)) (aY oK (aH aQ (pv 6) aq (fun _ _=>rfl)) aq))) (aj aF ao))))))))
        aV)
      (au (bT (aK qQ (pv 4) aq (aN _))
        (aA (bf (bA (aj aF (aj (pv 5) (aj (aH aJ (pv 3) (pv 5) (fun _ _=>rfl)) ao))))))
        aV)
      (au (bT (aK dY (pv 4) aq (aN _))
        (aA (bf (bA (aj aF (aj (pv 5) (aj (aH aJ (pv 3) (pv 5) (fun _ _=>rfl)) (aj (aH aJ (bK (aj (aH aQ (pv 6) aq (fun _ _=>rfl)) (aj (aY bN (aH aJ (pv 0) aq (fun _ _=>rfl)) (aP aM rfl B.len PySem.boot_len (aj (pv 1) ao))) ao))) (cJ pD rfl B.int PyProof.Rows.boot_int (aj (j7 dY (aH aQ (pv 6) aq (fun _ _=>rfl)) (jc fB aq) (aN _)) ao)) (fun _ _=>rfl)) ao)))))))
        aV)
      (aA (bf (bA (aj aF (aj (cJ jd rfl B.tuple PyProof.Rows.boot_tuple (aj (j6 (ak eH) rfl ["xs","below","lines","owners","kind","number","line"] rfl ["k","one","xs"] [none,none,some 0] (by decide +kernel) (by decide +kernel) (by decide +kernel) rfl (lW rfl B.enumerate (aj (pv 2) ao)) (fun _ _ _=>(qO (K:=K) (n:=2) rfl rfl (bW (bI (i:=0) (show (["k","one","xs"]:List Str).Nodup by decide +kernel) rfl (Or.inl rfl)) (bW (bI (i:=1) (show (["k","one","xs"]:List Str).Nodup by decide +kernel) rfl (Or.inl rfl)) jj)))) (fun _ _ _=>ji) (fun _ _ _=>(aP (zQ rfl) rfl B.max PyProof.Rows.boot_max (aj aq (aj (aY oK (aH (oZ (K:=K) rfl) (pv 1) aq (fun _ _=>rfl)) (aY bN (aY jl (aH (lE (K:=K) rfl) (pv 2) aq (fun _ _=>rfl)) (aY iY (pv 0) aq)) aq)) ao))))) ao)) ao)))))))))))))),?_⟩
    refine ⟨_,rfl,lx,_,0,_,rfl,rfl,hX,bJ (i:=0) (g 0 (by decide)),_,_,rfl,rfl,(by show (0:Int)<8;decide),?_⟩
    dsimp only
    generalize xs.getD 0 0 % 8=kd
    refine ⟨_,rfl,rfl,_,rfl,ifI (fun _=>?_) (fun _=>?_)⟩
    · refine ⟨szl,fun t ht=>?_⟩
      walk_at "nw"
      exact q t t .turn _ _ O trivial rfl
    have file:∀ {H'},aR T H H'→∀ {Z:V→Hp→Prop},(∀ (t a:Addr) (d:jL) (S':RS) H',Ow T H H' (dL t a d)→jo d→step r S d=.ok S'→Z (.ref t) H')→KH K T [.ref lx,.ref lv] H' Z E0:=fun {H'} s Z hz=>by
      have O:=(Ow.refl tk).lZ s
      refine ⟨lx,lv,xs,r,rfl,s.seq hX,h6,hx0,s.seq hV,hA.rp.rv,r1,hA.rp.r40,s.t1,fun t x st mo bk H2 O2 n1 n2 s0 s1 hb m1 m2=>?_⟩
      have hl:jA r ⟨S.day,st,bk,mo⟩:=⟨⟨hd0,by show S.day≤1000000;omega,s0,s1,by show 0≤mo;omega,m2⟩,hb⟩
      refine hz t t (.file x st mo bk) ⟨S.day,S.ls++[⟨S.day,st,bk,mo⟩],S.ns++[x],S.ds++[.file x st mo bk]⟩ H2 (by have h:=O.join O2;rw [List.append_nil] at h;exact h) n2 ?_
      simp only [step]
      rw [if_neg (not_not_intro n1),if_neg (show ¬ (mo=0∨¬ jA r ⟨S.day,st,bk,mo⟩) from fun z=>z.elim (by omega) fun w=>w hl),if_neg (by omega)]
    refine ⟨_,rfl,szl,fun l0 h0=>?_⟩
    walk_at "nw"
    refine ⟨_,_,Den.list (O.same.seq hL) (d0.mo O.same),Den.list (ds:=[]) (O.sq 0) .nil,(Sh.roll 0 S.ls).ok (by decide),(Sh.mvs 0 []).ok (by decide),?_⟩
    rw [if_neg Bool.false_ne_true,tK]
    have O:=O.tail
    refine ⟨_,rfl,ifD (fun hc=>?_) (fun hc=>?_)⟩
    · exact ⟨_,rfl,_,rfl,file O.same q⟩
    have hc:¬ S.ls.length=0:=hc
    refine ⟨_,rfl,_,_,rfl,rfl,_,rfl,ifD (fun _=>?_) (fun _=>?_)⟩
    · exact ⟨_,rfl,_,rfl,file O.same q⟩
    clear file
    have n0:=jM (xs.getD 1 0) S.ls.length (by omega)
    refine ⟨_,rfl,lx,_,1,_,rfl,rfl,O.same.seq hX,bJ (i:=1) (g 1 (by decide)),_,rfl,ll,_,rfl,.inl (O.same.seq hL),_,_,rfl,rfl,(by omega),?_⟩
    dsimp only
    rw [hui]
    generalize xs.getD 1 0 % (S.ls.length:Int)=nb at n0
    obtain ⟨n,rfl⟩:=Int.eq_ofNat_of_zero_le n0.1
    obtain ⟨x,hx⟩:∃ x,S.ns[n]?=some x:=⟨_,List.getElem?_eq_getElem (by omega)⟩
    obtain ⟨l,hl⟩:∃ l,S.ls[n]?=some l:=⟨_,List.getElem?_eq_getElem (by omega)⟩
    obtain ⟨al,hal,hT⟩:=d0.jG hl
    have hli:=hA.lo l (List.mem_of_getElem? hl)
    have hxn:=hA.na x (List.mem_of_getElem? hx)
    have hbar:∀ k,S.nH (n:Int) x k=k:=fun k=>mj (by omega) (by omega) (by rw [Int.toNat_natCast];exact hx)
    have hat:S.at_ (n:Int)=l:=lK rfl hl
    have oN:∀ {H'},aR T H H'→SqL K H' ln (S.ns.map V.str)∧atI (S.ns.map V.str) (n:Int)=some (V.str x):=fun s=>⟨s.seq hN,dW (show (S.ns.map V.str)[n]?=some (.str x) by rw [List.getElem?_map,hx];rfl)⟩
    refine ⟨_,rfl,_,rfl,ll,_,_,_,rfl,rfl,O.same.seq hL,dW hal,?_⟩
    refine ⟨_,rfl,rfl,_,rfl,ifI (fun _=>?_) (fun _=>?_)⟩
    · refine ⟨_,rfl,_,rfl,_,rfl,ln,_,_,_,rfl,rfl,(oN O.same).1,(oN O.same).2,szl,fun lp hp=>?_⟩
      walk_at "nw"
      obtain ⟨z,hz,z1,z2⟩:=zU (jM (xs.getD 5 0) 3 (by decide)).1 (jM (xs.getD 5 0) 3 (by decide)).2
      refine ⟨_,rfl,lx,_,5,_,rfl,rfl,O.same.seq hX,bJ (i:=5) (g 5 (by decide)),_,_,rfl,rfl,(by show (0:Int)<3;decide),lp,_,_,_,rfl,rfl,O.sq 0,hz,szl,fun t ht=>?_⟩
      walk_at "nw"
      refine q t t (.sell (n:Int) x z) ⟨S.day,S.ls,S.ns.set (n:Int).toNat z,S.ds++[.sell (n:Int) x z]⟩ _ (O.sub (List.Sublist.cons₂ _ (List.nil_sublist _))) ⟨hxn.2,z2⟩ ?_
      simp only [step]
      rw [hbar,if_neg (not_not_intro z1)]
    refine ⟨fun σ H'=>Iv (σ=[some (.ref lx),some (.ref lv),some (.ref ll),some (.ref ln),some (.int kd),some (.int (n:Int)),some (.ref al)]∧Ow T H H' []),?_,?_⟩
    · refine ⟨_,rfl,rfl,_,rfl,ifI (fun _=>?_) (fun _=>⟨trivial,rfl,O⟩)⟩
      refine ⟨_,rfl,al,_,3,_,rfl,rfl,hT.mo O.same,rfl,_,_,rfl,rfl,_,rfl,ifD (fun hm=>?_) (fun _=>⟨trivial,rfl,O⟩)⟩
      have hm:1<l.most:=hm
      refine ⟨_,rfl,_,rfl,ll,us,S.ls,n,l,rfl,O.same.seq hL,d0.mo O.same,hl,by omega,O.same.t1,O.zY fun lm H4 ms O e=>?_⟩
      subst e
      refine ⟨szl,fun lz hz=>?_⟩
      walk_at "nw"
      refine ⟨lm,lz,_,[],rfl,rfl,O.sq 1,O.sq 0,_,rfl,?_⟩
      rw [if_neg Bool.false_ne_true]
      have O:=O.tail.tail
      refine ifD (fun hme=>?_) (fun _=>⟨trivial,rfl,O⟩)
      have htk:=(sZ hl (show 0<l.most by omega)).mp hme
      have a0:=Int.emod_nonneg (xs.getD 4 0) (show l.most - 1≠0 by omega)
      have a1:=Int.emod_lt_of_pos (xs.getD 4 0) (show (0:Int)<l.most - 1 by omega)
      refine ⟨_,rfl,_,rfl,_,rfl,ln,_,_,_,rfl,rfl,(oN O.same).1,(oN O.same).2,_,rfl,lx,_,4,_,rfl,rfl,O.same.seq hX,bJ (i:=4) (g 4 (by decide)),_,rfl,al,_,3,_,rfl,rfl,hT.mo O.same,rfl,_,_,rfl,rfl,_,_,rfl,rfl,(by show (0:Int)<l.most - 1;omega),_,_,rfl,rfl,szl,fun t ht=>?_⟩
      walk_at "nw"
      refine q t t (.part (n:Int) x (1 + xs.getD 4 0 % (l.most - 1)) "b") ⟨S.day,S.ls.set (n:Int).toNat (wm l (l.most - (1 + xs.getD 4 0 % (l.most - 1))))++[wm l (1 + xs.getD 4 0 % (l.most - 1))],S.ns++[("b":Str)],S.ds++[.part (n:Int) x (1 + xs.getD 4 0 % (l.most - 1)) "b"]⟩ _ O ⟨hxn.2,uT⟩ ?_
      simp only [step]
      rw [hbar,hat,if_neg (not_not_intro p8),if_neg (by omega),htk,if_neg (not_not_intro rfl),if_neg (by omega)]
    clear O
    rintro σ H4 ⟨-,rfl,O⟩
    refine ⟨_,rfl,_,_,rfl,rfl,_,rfl,ifD (fun _=>?_) (fun _=>?_)⟩
    · refine ⟨_,rfl,_,rfl,_,rfl,ln,_,_,_,rfl,rfl,(oN O.same).1,(oN O.same).2,szl,fun t ht=>?_⟩
      walk_at "nw"
      refine q t t (.drop (n:Int) x) ⟨S.day,S.ls.set (n:Int).toNat (wm l 0),S.ns,S.ds++[.drop (n:Int) x]⟩ _ O hxn.2 ?_
      simp only [step]
      rw [hbar,hat]
    refine ⟨_,rfl,rfl,_,rfl,ifI (fun _=>?_) (fun _=>?_)⟩
    · have m0:=jM (xs.getD 4 0) r.length (by omega)
      refine ⟨_,rfl,_,rfl,_,rfl,ln,_,_,_,rfl,rfl,(oN O.same).1,(oN O.same).2,_,rfl,al,_,1,_,rfl,rfl,hT.mo O.same,rfl,_,rfl,lx,_,4,_,rfl,rfl,O.same.seq hX,bJ (i:=4) (g 4 (by decide)),_,rfl,lv,_,rfl,.inl (O.same.seq hV),_,_,rfl,rfl,(by rw [hml];omega),szl,fun lp hp=>?_⟩
      walk_at "nw"
      rw [hml] at O
      obtain ⟨st,hst,hil⟩:∃ st,atI [V.int l.start,V.int (xs.getD 4 0 % (r.length:Int))] (if decide (V.int l.back=V.int (-1))=true then 1 else 0)=some (V.int st)∧jA r (wst l st):=by
        by_cases hb:l.back=-1
        · rw [decide_eq_true (show V.int l.back=V.int (-1) by rw [hb])]
          exact ⟨_,rfl,⟨hli.1.1,hli.1.2.1,m0.1,m0.2,hli.1.2.2.2.2.1,hli.1.2.2.2.2.2⟩,.inl hb⟩
        · rw [decide_eq_false (show ¬ V.int l.back=V.int (-1) from fun z=>hb (V.int.inj z))]
          exact ⟨_,rfl,hli⟩
      refine ⟨_,rfl,al,_,2,_,rfl,rfl,hT.mo O.same,rfl,1,rfl,rfl,.inr ⟨_,rfl,lp,_,_,_,rfl,rfl,O.sq 0,hst,szl,fun t ht=>?_⟩⟩
      walk_at "nw"
      refine q t t (.move (n:Int) x st) ⟨S.day,S.ls.set (n:Int).toNat (wst l st),S.ns,S.ds++[.move (n:Int) x st]⟩ _ (O.sub (List.Sublist.cons₂ _ (List.nil_sublist _))) hxn.2 ?_
      simp only [step]
      rw [hbar,hat,if_neg (not_not_intro hil)]
    refine ⟨_,rfl,ll,us,rfl,O.same.seq hL,fun lw hlw=>?_⟩
    refine mJ (K:=K) (xs:=us) (fun i τ H'=>Iv (∃ (v0 v1:Option V) (ms:List Int),τ=[v0,v1,some (.ref lx)]∧ms.length=i∧(∀ m∈ms,0≤m∧m≤1000000000000)∧Ow T H H' [(lw,.lst (ms.map V.int))])) ⟨trivial,none,none,[],rfl,rfl,(fun m hm=>nomatch hm),O.mk' hlw rfl⟩ (fun i τ H' _ ⟨_,_,_,_,_,_,_,O⟩=>O.same.seq hL) ?_ ?_
    · clear O
      rintro i y T0 τ H5 hy ⟨-,v0,v1,ms,rfl,hml',hmb,O⟩ hT0
      obtain ⟨a2,l2,rfl,hl2,hT2⟩:=d0.qX hy
      have hi:=(List.getElem?_eq_some_iff.mp hl2).1
      have hl2i:=hA.lo l2 (List.mem_of_getElem? hl2)
      walk_at "nw"
      refine ⟨T0,_,rfl,O.sqT 0,rfl,_,_,rfl,_,_,rfl,rfl,?_⟩
      have O:=O.tail
      refine V4 ?_
      have b0:=jM (xs.getD 4 0 / ((i:Int) + 1)) 2 (by decide)
      refine ⟨_,rfl,a2,_,3,_,rfl,rfl,hT2.mo O.same,rfl,_,rfl,lx,_,4,_,rfl,rfl,O.same.seq hX,bJ (i:=4) (g 4 (by decide)),_,rfl,_,_,rfl,rfl,_,_,rfl,rfl,(show Wt _ _ from ⟨by omega,by omega⟩),_,_,rfl,rfl,(by show (0:Int)<2;decide),_,_,rfl,rfl,_,_,rfl,?_⟩
      dsimp only
      have hz:0≤(if l2.most - xs.getD 4 0 / ((i:Int) + 1) % 2 > 0 then l2.most - xs.getD 4 0 / ((i:Int) + 1) % 2 else 0)∧(if l2.most - xs.getD 4 0 / ((i:Int) + 1) % 2 > 0 then l2.most - xs.getD 4 0 / ((i:Int) + 1) % 2 else 0)≤1000000000000:=by
        have:=hl2i.1.2.2.2.2.2
        have e2:((2:Nat):Int)=2:=rfl
        rw [e2] at b0
        split <;> omega
      generalize (if l2.most - xs.getD 4 0 / ((i:Int) + 1) % 2 > 0 then l2.most - xs.getD 4 0 / ((i:Int) + 1) % 2 else 0)=z at hz
      refine ⟨_,O.get 0,aX (by rw [List.length_map];omega),?_⟩
      walk_at "pt"
      refine ⟨trivial,_,_,ms++[z],rfl,by rw [List.length_append,hml'];rfl,fun m hm=>?_,?_⟩
      · rcases List.mem_append.mp hm with h | h
        · exact hmb m h
        · rw [List.mem_singleton.mp h];exact hz
      · rw [List.map_append];exact O
    clear O
    rintro τ H5 ⟨-,v0,v1,ms,rfl,hml',hmb,O⟩
    refine ⟨lw,_,rfl,.inl ⟨O.sq 0,fun tt htt=>?_⟩⟩
    walk_at "nw"
    refine ⟨szl,fun t ht=>?_⟩
    walk_at "nw"
    refine q t tt (.lapse ms) ⟨S.day,jT S.ls ms,S.ns,S.ds++[.lapse ms]⟩ _ (O.sub (List.Sublist.cons₂ _ (List.Sublist.cons₂ _ (List.nil_sublist _)))) (by show ms.length≤1000;omega) ?_
    simp only [step]
    rw [if_neg (not_not_intro (by omega)),if_neg (not_not_intro hmb)]
theorem ud {j:Int} (h0:0≤j) (h1:j<4):∃ x:Str,atI [V.str "",V.str "abcdefghi",V.str "A",V.str "a b"] j=some (V.str x)∧Asc x∧¬ iJ x:=by
  have:j=0∨j=1∨j=2∨j=3:=by omega
  rcases this with rfl | rfl | rfl | rfl
  · exact ⟨_,rfl,⟨by decide +kernel,by decide +kernel⟩,fun z=>absurd z.1 (by decide +kernel)⟩
  · exact ⟨_,rfl,⟨by decide +kernel,by decide +kernel⟩,fun z=>absurd z.2.1 (by decide +kernel)⟩
  · exact ⟨_,rfl,⟨by decide +kernel,by decide +kernel⟩,fun z=>absurd z.2.2 (by decide +kernel)⟩
  · exact ⟨_,rfl,⟨by decide +kernel,by decide +kernel⟩,fun z=>absurd z.2.2 (by decide +kernel)⟩
theorem uU:Asc "a":=⟨by decide +kernel,by decide +kernel⟩
theorem yW:iJ "a":=⟨by decide +kernel,by decide +kernel,by decide +kernel⟩
abbrev cT:Stmt:=top 50
theorem bR:aW ["xs","below","lines","owners","kind","told","number","name","due","other","some"] ["xs","below","lines","owners"] (ak cT):=⟨rfl,rfl,rfl,by decide +kernel,rfl,by decide +kernel,by decide +kernel⟩
def rQ (K:PySem.W.Frag) (T:eF):Sp:=fun vs H Q _=>∃ (lx lv ll ln:Addr) (xs r:List Int) (us:List V) (S:RS) (i:Nat),vs=[.ref lx,.ref lv,.ref ll,.ref ln]∧SqL K H lx (xs.map V.int)∧xs.length=4∧(∀ x∈xs,0≤x)∧SqL K H lv (r.map V.int)∧SqL K H ll us∧cR K H us (S.ls.map pK)∧SqL K H ln (S.ns.map V.str)∧At9 r S i∧i≤50∧TabsOk T H ∧
  ∀ (p t a:Addr) (d:jL) (k:EK) H',Ow T H H' ((p,.tup [.ref t,.str (mR k)]) :: dL t a d)→jo d→step r S d=.error k→Q (.ref p) H'
theorem rK {a b:Int} {j:Int} (h0:0≤j) (h1:j<2):∃ x:Int,atI [V.int a,V.int b] j=some (V.int x)∧(x=a∨x=b):=by
  rcases (by omega:j=0∨j=1) with rfl | rfl
  · exact ⟨_,rfl,.inl rfl⟩
  · exact ⟨_,rfl,.inr rfl⟩
theorem qp {a b c:Int} {j:Int} (h0:0≤j) (h1:j<3):∃ x:Int,atI [V.int a,V.int b,V.int c] j=some (V.int x)∧(x=a∨x=b∨x=c):=by
  rcases (by omega:j=0∨j=1∨j=2) with rfl | rfl | rfl
  · exact ⟨_,rfl,.inl rfl⟩
  · exact ⟨_,rfl,.inr (.inl rfl)⟩
  · exact ⟨_,rfl,.inr (.inr rfl)⟩
theorem Bv (ns:List Int):pH (ns.map V.int) none (some (-1))=(ns.take (ns.length - 1)).map V.int:=by
  show ((ns.map V.int).drop 0).take ((if (-1:Int)<0 then ((-1:Int) + ((ns.map V.int).length:Int)).toNat else min (-1:Int).toNat (ns.map V.int).length) - 0)=_
  rw [if_pos (by decide),List.drop_zero,List.map_take,List.length_map]
  congr 1;omega
theorem Aa (x:Str):(x++("b":Str))≠x:=fun h=>by
  have h:=congrArg (fun z:Str=>z.cps.size) h
  have e:(x++("b":Str)).cps.size=x.cps.size + ("b":Str).cps.size:=by show (x.cps++_).size=_;rw [Array.size_append]
  have e1:("b":Str).cps.size=1:=by decide +kernel
  have h:(x++("b":Str)).cps.size=x.cps.size:=h
  omega
theorem Lz {x y:Str} (hx:Asc x) (hy:Asc y) (h:x.cps.size + y.cps.size≤1000):Asc (x++y):=by
  refine ⟨?_,?_⟩
  · show (x.cps++y.cps).all (·<128)=true
    rw [Array.all_append,hx.1,hy.1];rfl
  · show (x.cps++y.cps).size≤1000
    rw [Array.size_append];exact h
theorem yO {f f2:Addr} {fd fd2:FuncData} (D:Df K mg "_law_forged" cT ["xs","below","lines","owners"] f fd) (B:Blt mg)
    (cO:Df K mg "_law_mates" cZ ["lines","number"] f2 fd2) (lu:bQ P w K mg base CX0 1 f2 fd2 ["lines","number"] (qy K T)):bQ P w K mg base CX0 3 f fd ["xs","below","lines","owners"] (rQ K T):=by
  refine D.F.ok bR (fun vs H Q E h=>?_) (fun cdv A outer s H vs Q E hr h=>?_)
  · obtain ⟨_,_,_,_,_,_,_,_,_,rfl,_⟩:=h;rfl
  · obtain ⟨lx,lv,ll,ln,xs,r,us,S,i,rfl,hX,h4,hx0,hV,hL,d0,hN,hA,hi50,tk,q⟩:=h
    have hu:=hr.units
    have O:=Ow.refl tk
    have g:∀ k:Nat,k<4→xs[k]?=some (xs.getD k 0):=fun k hk=>o8 (by omega)
    have hul:us.length=S.ls.length:=by rw [d0.length,List.length_map]
    have hui:((us.length:Nat):Int)=(S.ls.length:Int):=by rw [hul]
    have hml:(((r.map V.int).length:Nat):Int)=(r.length:Int):=by rw [List.length_map]
    have hll:=hA.ll
    have hd0:=hA.d0
    have hd1:=hA.d1
    have hnn:=hA.rp.nn
    have r1:=hA.r1
    have p12:(10:Int) ^ (12:Int).toNat=1000000000000:=by decide
    refine ⟨_,(@au _ _ _ _ _ (bw (i:=4) bR.nd rfl (Or.inl rfl) (@aY _ _ _ _ _ _ _ _ bN (@aH _ _ _ _ _ _ _ aJ (pv 0) aq (fun _ _=>rfl)) aq))
      (@au _ _ _ _ _ (bw (i:=5) bR.nd rfl (Or.inl rfl) (cJ jd rfl B.tuple PyProof.Rows.boot_tuple (@aD _ _ _ _ _ (j6 (ak cT) rfl ["xs","below","lines","owners","kind","told","number","name","due","other","some"] rfl ["one"] [none] (by decide +kernel) (by decide +kernel) (by decide +kernel) rfl (qM (pv 2)) (fun _ _ _=>(bI (i:=0) (show (["one"]:List Str).Nodup by decide +kernel) rfl (Or.inl rfl))) (fun _ _ _=>ji) (fun _ _ _=>(@aY _ _ _ _ _ _ _ _ jl (@aH _ _ _ _ _ _ _ (oZ (K:=K) rfl) (pv 0) aq (fun _ _=>rfl)) aq))) ao rfl)))
      (@au _ _ _ _ _ (@bT _ _ _ _ _ _ _ _ (aK dY (pv 4) aq (aN _))
        (@aA _ _ _ (@bf _ _ _ _ (@bA _ _ _ _ _ (@aD _ _ _ _ _ (@bA _ _ _ _ _ (@aD _ _ _ _ _ aF (@aD _ _ _ _ _ (@aY _ _ _ _ _ _ _ _ yM (pv 5) (@bA _ _ _ _ _ (@aD _ _ _ _ _ aq ao rfl))) ao rfl) rfl)) (@aD _ _ _ _ _ aF ao rfl) rfl))))
        aV)
      (@au _ _ _ _ _ (@bT _ _ _ _ _ _ _ _ (aK dY (pv 4) aq (aN _))
        (@aA _ _ _ (@bf _ _ _ _ (@bA _ _ _ _ _ (@aD _ _ _ _ _ (@bA _ _ _ _ _ (@aD _ _ _ _ _ aF (@aD _ _ _ _ _ (@aH _ _ _ _ _ _ _ aJ (@bK _ _ _ _ (@aD _ _ _ _ _ aF (@aD _ _ _ _ _ aF (@aD _ _ _ _ _ aF (@aD _ _ _ _ _ aF ao rfl) rfl) rfl) rfl)) (@aY _ _ _ _ _ _ _ _ bN (@aH _ _ _ _ _ _ _ aJ (pv 0) aq (fun _ _=>rfl)) aq) (fun _ _=>rfl)) (@aD _ _ _ _ _ aq (@aD _ _ _ _ _ aq (@aD _ _ _ _ _ (@jc _ _ _ _ _ _ fB aq) ao rfl) rfl) rfl) rfl) rfl)) (@aD _ _ _ _ _ aF ao rfl) rfl))))
        aV)
      (@au _ _ _ _ _ (@bT _ _ _ _ _ _ _ _ (aK dY (pv 4) aq (aN _))
        (@aA _ _ _ (@bf _ _ _ _ (@bA _ _ _ _ _ (@aD _ _ _ _ _ (@bA _ _ _ _ _ (@aD _ _ _ _ _ aF (@aD _ _ _ _ _ aF (@aD _ _ _ _ _ (@aH _ _ _ _ _ _ _ aJ (@bK _ _ _ _ (@aD _ _ _ _ _ (@jc _ _ _ _ _ _ fB aq) (@aD _ _ _ _ _ (aP aM rfl B.len PySem.boot_len (@aD _ _ _ _ _ (pv 1) ao rfl)) ao rfl) rfl)) (@aY _ _ _ _ _ _ _ _ bN (@aH _ _ _ _ _ _ _ aJ (pv 0) aq (fun _ _=>rfl)) aq) (fun _ _=>rfl)) (@aD _ _ _ _ _ aq (@aD _ _ _ _ _ (@jc _ _ _ _ _ _ fB aq) ao rfl) rfl) rfl) rfl) rfl)) (@aD _ _ _ _ _ aF ao rfl) rfl))))
        aV)
      (@au _ _ _ _ _ (@bT _ _ _ _ _ _ _ _ (PW.pt (pw_or (aK dY (pv 4) aq (aN _)) (pw_or1 (aK (p7 hu) (pv 2) (@bK _ _ _ _ ao) (aN _)))))
        (@aA _ _ _ (@bf _ _ _ _ (@bA _ _ _ _ _ (@aD _ _ _ _ _ (@bA _ _ _ _ _ (@aD _ _ _ _ _ aF (@aD _ _ _ _ _ aF (@aD _ _ _ _ _ aq (@aD _ _ _ _ _ (@aH _ _ _ _ _ _ _ aJ (@bK _ _ _ _ (@aD _ _ _ _ _ aq (@aD _ _ _ _ _ (@jc _ _ _ _ _ _ fB aq) (@aD _ _ _ _ _ (@aY _ _ _ _ _ _ _ _ iY (@aY _ _ _ _ _ _ _ _ sV aq aq) aq) ao rfl) rfl) rfl)) (@aY _ _ _ _ _ _ _ _ bN (@aH _ _ _ _ _ _ _ aJ (pv 0) aq (fun _ _=>rfl)) aq) (fun _ _=>rfl)) (@aD _ _ _ _ _ (@jc _ _ _ _ _ _ fB aq) ao rfl) rfl) rfl) rfl) rfl)) (@aD _ _ _ _ _ aF ao rfl) rfl))))
        aV)
      (@au _ _ _ _ _ (bw (i:=6) bR.nd rfl (Or.inl rfl) (@aY _ _ _ _ _ _ _ _ bN (@aH _ _ _ _ _ _ _ aJ (pv 0) aq (fun _ _=>rfl)) (aP aM rfl B.len PySem.boot_len (@aD _ _ _ _ _ (pv 2) ao rfl))))
      (@au _ _ _ _ _ (bw (i:=7) bR.nd rfl (Or.inl rfl) (@aH _ _ _ _ _ _ _ aJ (pv 3) (pv 6) (fun _ _=>rfl)))
      (@au _ _ _ _ _ (@bT _ _ _ _ _ _ _ _ (aK dY (pv 4) aq (aN _))
        (@aA _ _ _ (@bf _ _ _ _ (@bA _ _ _ _ _ (@aD _ _ _ _ _ (@bA _ _ _ _ _ (@aD _ _ _ _ _ aF (@aD _ _ _ _ _ (@aY _ _ _ _ _ _ _ _ yM (jE Mu (pv 5) lV (j5 (@jc _ _ _ _ _ _ fB aq))) (@bA _ _ _ _ _ (@aD _ _ _ _ _ (@aH _ _ _ _ _ _ _ aJ (@bK _ _ _ _ (@aD _ _ _ _ _ (@jc _ _ _ _ _ _ fB aq) (@aD _ _ _ _ _ (@aY _ _ _ _ _ _ _ _ iY (@aY _ _ _ _ _ _ _ _ sV aq aq) aq) ao rfl) rfl)) (@aY _ _ _ _ _ _ _ _ bN (@aH _ _ _ _ _ _ _ aJ (pv 0) aq (fun _ _=>rfl)) aq) (fun _ _=>rfl)) ao rfl))) ao rfl) rfl)) (@aD _ _ _ _ _ aF ao rfl) rfl))))
        aV)
      (@au _ _ _ _ _ (@bT _ _ _ _ _ _ _ _ (aK dY (pv 4) aq (aN _))
        (@aA _ _ _ (@bf _ _ _ _ (@bA _ _ _ _ _ (@aD _ _ _ _ _ (@bA _ _ _ _ _ (@aD _ _ _ _ _ aF (@aD _ _ _ _ _ (pv 6) (@aD _ _ _ _ _ (pv 7) (@aD _ _ _ _ _ (@aH _ _ _ _ _ _ _ aJ (@bK _ _ _ _ (@aD _ _ _ _ _ (@jc _ _ _ _ _ _ fB aq) (@aD _ _ _ _ _ (aP aM rfl B.len PySem.boot_len (@aD _ _ _ _ _ (pv 1) ao rfl)) ao rfl) rfl)) (@aY _ _ _ _ _ _ _ _ bN (@aH _ _ _ _ _ _ _ aJ (pv 0) aq (fun _ _=>rfl)) aq) (fun _ _=>rfl)) ao rfl) rfl) rfl) rfl)) (@aD _ _ _ _ _ aF ao rfl) rfl))))
        aV)
      (@au _ _ _ _ _ (@bT _ _ _ _ _ _ _ _ (aK dY (pv 4) aq (aN _))
        (@aA _ _ _ (@bf _ _ _ _ (@bA _ _ _ _ _ (@aD _ _ _ _ _ (@bA _ _ _ _ _ (@aD _ _ _ _ _ aF (@aD _ _ _ _ _ (pv 6) (@aD _ _ _ _ _ (pv 7) (@aD _ _ _ _ _ (@aH _ _ _ _ _ _ _ aJ (@bK _ _ _ _ (@aD _ _ _ _ _ aq (@aD _ _ _ _ _ (@aH _ _ _ _ _ _ _ aQ (@aH _ _ _ _ _ _ _ aJ (pv 2) (pv 6) (fun _ _=>rfl)) aq (fun _ _=>rfl)) (@aD _ _ _ _ _ (@jc _ _ _ _ _ _ fB aq) ao rfl) rfl) rfl)) (@aY _ _ _ _ _ _ _ _ bN (@aH _ _ _ _ _ _ _ aJ (pv 0) aq (fun _ _=>rfl)) aq) (fun _ _=>rfl)) (@aD _ _ _ _ _ aF ao rfl) rfl) rfl) rfl) rfl)) (@aD _ _ _ _ _ aF ao rfl) rfl))))
        aV)
      (iI (@bT _ _ _ _ _ _ _ _ (PW.pt (pw_and (aK dY (pv 4) aq (aN _)) (pw_and (aK Ai (@aH _ _ _ _ _ _ _ aQ (@aH _ _ _ _ _ _ _ aJ (pv 2) (pv 6) (fun _ _=>rfl)) aq (fun _ _=>rfl)) aq (aN _)) (pw_and1 (aK (yJ hu) (aO lu (hr.mono (by decide)) rfl cO.m cO.F.kp cO.b .nil bU (@aD _ _ _ _ _ (pv 2) (@aD _ _ _ _ _ (pv 6) ao rfl) rfl)) (@bK _ _ _ _ ao) (aN _))))))
        (@aA _ _ _ (@bf _ _ _ _ (@bA _ _ _ _ _ (@aD _ _ _ _ _ (@bA _ _ _ _ _ (@aD _ _ _ _ _ aF (@aD _ _ _ _ _ (pv 6) (@aD _ _ _ _ _ (pv 7) (@aD _ _ _ _ _ aq (@aD _ _ _ _ _ aF ao rfl) rfl) rfl) rfl) rfl)) (@aD _ _ _ _ _ aF ao rfl) rfl))))
        aV)
      (@au _ _ _ _ _ (@bT _ _ _ _ _ _ _ _ (aK dY (pv 4) aq (aN _))
        (@aA _ _ _ (@bf _ _ _ _ (@bA _ _ _ _ _ (@aD _ _ _ _ _ (@bA _ _ _ _ _ (@aD _ _ _ _ _ aF (@aD _ _ _ _ _ (pv 6) (@aD _ _ _ _ _ (pv 7) (@aD _ _ _ _ _ (@aH _ _ _ _ _ _ _ aJ (@bK _ _ _ _ (@aD _ _ _ _ _ aF (@aD _ _ _ _ _ aF (@aD _ _ _ _ _ aF (@aD _ _ _ _ _ aF ao rfl) rfl) rfl) rfl)) (@aY _ _ _ _ _ _ _ _ bN (@aH _ _ _ _ _ _ _ aJ (pv 0) aq (fun _ _=>rfl)) aq) (fun _ _=>rfl)) ao rfl) rfl) rfl) rfl)) (@aD _ _ _ _ _ aF ao rfl) rfl))))
        aV)
      (@au _ _ _ _ _ (bw (i:=8) bR.nd rfl (Or.inl rfl) aF)
      (@au _ _ _ _ _ (bw (i:=9) bR.nd rfl (Or.inl rfl) (@aY _ _ _ _ _ _ _ _ wN (pv 7) aF))
      (iI (@bT _ _ _ _ _ _ _ _ (PW.pt (pw_or (aK dY (pv 4) aq (aN _)) (pw_or1 (aK dY (pv 4) aq (aN _)))))
        (@au _ _ _ _ _ (bw (i:=8) bR.nd rfl (Or.inl rfl) aF)
        (@au _ _ _ _ _ (bw (i:=6) bR.nd rfl (Or.inl rfl) (@aH _ _ _ _ _ _ _ aJ (@bK _ _ _ _ (@aD _ _ _ _ _ (@jc _ _ _ _ _ _ fB aq) (@aD _ _ _ _ _ (aP aM rfl B.len PySem.boot_len (@aD _ _ _ _ _ (pv 2) ao rfl)) ao rfl) rfl)) (@aY _ _ _ _ _ _ _ _ bN (@aH _ _ _ _ _ _ _ aJ (pv 0) aq (fun _ _=>rfl)) aq) (fun _ _=>rfl)))
        (@aA _ _ _ (bw (i:=9) bR.nd rfl (Or.inl rfl) (pv 7)))))
        aV)
      (@au _ _ _ _ _ (bw (i:=10) bR.nd rfl (Or.inl rfl) (@bK _ _ _ _ (@aD _ _ _ _ _ (@bA _ _ _ _ _ (@aD _ _ _ _ _ aF (@aD _ _ _ _ _ (pv 6) (@aD _ _ _ _ _ (pv 9) (@aD _ _ _ _ _ aF ao rfl) rfl) rfl) rfl)) (@aD _ _ _ _ _ (@bA _ _ _ _ _ (@aD _ _ _ _ _ aF (@aD _ _ _ _ _ (pv 6) (@aD _ _ _ _ _ (pv 9) (@aD _ _ _ _ _ aq (@aD _ _ _ _ _ aF ao rfl) rfl) rfl) rfl) rfl)) (@aD _ _ _ _ _ (@bA _ _ _ _ _ (@aD _ _ _ _ _ aF (@aD _ _ _ _ _ (pv 6) (@aD _ _ _ _ _ (pv 9) ao rfl) rfl) rfl)) ao rfl) rfl) rfl)))
      (@aA _ _ _ (@bf _ _ _ _ (@bA _ _ _ _ _ (@aD _ _ _ _ _ (@aH _ _ _ _ _ _ _ aJ (@aY _ _ _ _ _ _ _ _ oM (pv 10) (@bK _ _ _ _ (@aD _ _ _ _ _ (@bA _ _ _ _ _ (@aD _ _ _ _ _ aF (@aD _ _ _ _ _ (pv 6) (@aD _ _ _ _ _ (pv 9) (@aD _ _ _ _ _ aq ao rfl) rfl) rfl) rfl)) ao rfl))) (@aY _ _ _ _ _ _ _ _ bN (@aH _ _ _ _ _ _ _ aJ (pv 0) aq (fun _ _=>rfl)) aq) (fun _ _=>rfl)) (@aD _ _ _ _ _ (pv 8) ao rfl) rfl))))))))))))))))))))),?_⟩
    refine ⟨_,rfl,lx,_,0,_,rfl,rfl,hX,bJ (i:=0) (g 0 (by decide)),_,_,rfl,rfl,(by show (0:Int)<12;decide),?_⟩
    dsimp only
    generalize xs.getD 0 0 % 12=kd
    refine ⟨_,rfl,ll,rfl,⟨_,hL⟩,fun lw hlw=>?_⟩
    refine pC (K:=K) (xs:=us) (fun i τ H'=>Iv (∃ (v0:Option V),τ=[v0]∧Ow T H H' [(lw,.lst (((S.ls.take i).map fun l:Lic=>l.most / 2).map V.int))])) ⟨trivial,none,rfl,O.mk' hlw rfl⟩ (fun i τ H' _ ⟨_,_,_,O⟩=>O.same.seq hL) ?_ ?_
    · clear O
      rintro i y τ H5 hy ⟨-,v0,rfl,O⟩
      obtain ⟨a2,l2,rfl,hl2,hT2⟩:=d0.qX hy
      refine zX ?_
      refine ⟨_,rfl,a2,_,3,_,rfl,rfl,hT2.mo O.same,rfl,_,_,rfl,rfl,⟨by decide,by decide⟩,?_⟩
      refine ⟨_,O.get 0,aX (by rw [List.length_map,List.length_map,List.length_take];omega),?_⟩
      walk_at "pt"
      refine ⟨trivial,_,rfl,?_⟩
      rw [Tn.jh hl2,List.map_append,List.map_append];exact O
    clear O
    rintro τ H5 ⟨-,v0,rfl,O⟩
    rw [hul,List.take_of_length_le (Nat.le_refl _)] at O
    refine ⟨lw,_,rfl,.inl ⟨O.sq 0,fun tt htt=>?_⟩⟩
    walk_at "nw"
    have O:=O.two
    obtain ⟨ms,hms⟩:∃ ms,ms=S.ls.map fun l:Lic=>l.most / 2:=⟨_,rfl⟩
    have hmsl:ms.length=S.ls.length:=by rw [hms,List.length_map]
    rw [← hms] at O
    have Otl:∀ {H'},Ow T H H' [(tt,.tup (ms.map V.int))]→Ow T H H' []:=fun O=>O.tail
    refine ⟨_,rfl,rfl,_,rfl,ifI (fun _=>?_) (fun _=>?_)⟩
    · refine ⟨_,rfl,szl,fun l5 h5=>?_⟩
      walk_at "nw"
      have er:step r S (.lapse (ms++[5]))=.error .number:=by
        simp only [step]
        rw [if_pos (by rw [List.length_append,hmsl];simp)]
      refine ⟨tt,l5,_,_,rfl,rfl,O.sqT 1,O.sqT 0,List.cons_ne_nil _ _,gP (by rw [List.length_map];simp only [List.length_cons,List.length_nil];omega),fun he=>?_,fun he c hc=>?_⟩
      · have he:ms=[]:=List.map_eq_nil_iff.mp he
        subst he
        refine ⟨szl,fun t ht=>?_⟩
        walk_at "nw"
        refine ⟨szl,fun p hp=>?_⟩
        walk_at "nw"
        exact q p t l5 (.lapse ([]++[5])) .number _ (O.sub (.cons₂ _ (.cons₂ _ (.cons₂ _ (List.nil_sublist _))))) (by show ([5]:List Int).length≤1000;decide) er
      · walk_at "nw"
        rw [show ms.map V.int++[V.int 5]=(ms++[5]).map V.int by rw [List.map_append];rfl] at O
        refine ⟨szl,fun t ht=>?_⟩
        walk_at "nw"
        refine ⟨szl,fun p hp=>?_⟩
        walk_at "nw"
        exact q p t c (.lapse (ms++[5])) .number _ (O.sub (.cons₂ _ (.cons₂ _ (.cons₂ _ (List.nil_sublist _))))) (by show (ms++[5]).length≤1000;rw [List.length_append,hmsl];simp only [List.length_cons,List.length_nil];omega) er
    refine ⟨_,rfl,rfl,_,rfl,ifI (fun _=>?_) (fun _=>?_)⟩
    · refine ⟨szl,fun lb hb=>?_⟩
      walk_at "nw"
      obtain ⟨x,hx,x1,x2⟩:=ud (jM (xs.getD 1 0) 4 (by decide)).1 (jM (xs.getD 1 0) 4 (by decide)).2
      refine ⟨_,rfl,lx,_,1,_,rfl,rfl,O.same.seq hX,bJ (i:=1) (g 1 (by decide)),_,_,rfl,rfl,(by show (0:Int)<4;decide),lb,_,_,_,rfl,rfl,O.sq 0,hx,1,rfl,szl,fun t ht=>?_⟩
      walk_at "nw"
      refine ⟨szl,fun p hp=>?_⟩
      walk_at "nw"
      refine q p t t (.file x 0 5 (-1)) .holder _ (O.sub (.cons₂ _ (.cons₂ _ (List.nil_sublist _)))) x1 ?_
      simp only [step]
      rw [if_pos x2]
    refine ⟨_,rfl,rfl,_,rfl,ifI (fun _=>?_) (fun _=>?_)⟩
    · refine ⟨1,rfl,_,rfl,lv,_,rfl,.inl (O.same.seq hV),szl,fun lb hb=>?_⟩
      walk_at "nw"
      rw [hml] at O
      obtain ⟨st,hst,hs⟩:=rK (a:=-1) (b:=r.length) (jM (xs.getD 1 0) 2 (by decide)).1 (jM (xs.getD 1 0) 2 (by decide)).2
      refine ⟨_,rfl,lx,_,1,_,rfl,rfl,O.same.seq hX,bJ (i:=1) (g 1 (by decide)),_,_,rfl,rfl,(by show (0:Int)<2;decide),lb,_,_,_,rfl,rfl,O.sq 0,hst,1,rfl,szl,fun t ht=>?_⟩
      walk_at "nw"
      refine ⟨szl,fun p hp=>?_⟩
      walk_at "nw"
      refine q p t t (.file "a" st 5 (-1)) .licence _ (O.sub (.cons₂ _ (.cons₂ _ (List.nil_sublist _)))) uU ?_
      simp only [step]
      rw [if_neg (not_not_intro yW),if_pos (.inr fun z=>by have z3:=z.1.2.2.1;have z4:=z.1.2.2.2.1;dsimp only at z3 z4;omega)]
    have er3:∀ m:Int,m=0∨m=-5∨m=10 ^ (12:Int).toNat + 1→step r S (.file "a" 0 m (-1))=.error .licence:=fun m hm=>by
      rw [p12] at hm
      simp only [step]
      rw [if_neg (not_not_intro yW),if_pos]
      by_cases h0:m=0
      · exact .inl h0
      · exact .inr fun z=>by have z3:=z.1.2.2.2.2.1;have z4:=z.1.2.2.2.2.2;dsimp only at z3 z4;omega
    refine ⟨_,rfl,rfl,_,rfl,ifI (fun _=>?_) (fun _=>?_)⟩
    · refine ⟨5,rfl,_,_,rfl,rfl,⟨by decide,by decide,by decide⟩,_,_,rfl,rfl,szl,fun lb hb=>?_⟩
      walk_at "nw"
      obtain ⟨m,hm,hm3⟩:=qp (a:=0) (b:=-5) (c:=10 ^ (12:Int).toNat + 1) (jM (xs.getD 1 0) 3 (by decide)).1 (jM (xs.getD 1 0) 3 (by decide)).2
      refine ⟨_,rfl,lx,_,1,_,rfl,rfl,O.same.seq hX,bJ (i:=1) (g 1 (by decide)),_,_,rfl,rfl,(by show (0:Int)<3;decide),lb,_,_,_,rfl,rfl,O.sq 0,hm,1,rfl,szl,fun t ht=>?_⟩
      walk_at "nw"
      refine ⟨szl,fun p hp=>?_⟩
      walk_at "nw"
      exact q p t t (.file "a" 0 m (-1)) .licence _ (O.sub (.cons₂ _ (.cons₂ _ (List.nil_sublist _)))) uU (er3 m hm3)
    refine ⟨_,rfl,szl,fun l0 h0=>?_⟩
    walk_at "nw"
    refine ⟨_,_,Den.list (O.same.seq hL) (d0.mo O.same),Den.list (ds:=[]) (O.sq 0) .nil,(Sh.roll 0 S.ls).ok (by decide),(Sh.mvs 0 []).ok (by decide),?_⟩
    rw [if_neg Bool.false_ne_true,tK]
    have O:=O.tail
    refine ⟨_,rfl,ifD (fun hc=>?_) (fun hc=>?_)⟩
    · refine ⟨5,rfl,_,_,rfl,rfl,⟨by decide,by decide,by decide⟩,_,_,rfl,rfl,szl,fun lb hb=>?_⟩
      walk_at "nw"
      obtain ⟨m,hm,hm3⟩:=qp (a:=0) (b:=-5) (c:=10 ^ (12:Int).toNat + 1) (jM (xs.getD 1 0) 3 (by decide)).1 (jM (xs.getD 1 0) 3 (by decide)).2
      refine ⟨_,rfl,lx,_,1,_,rfl,rfl,O.same.seq hX,bJ (i:=1) (g 1 (by decide)),_,_,rfl,rfl,(by show (0:Int)<3;decide),lb,_,_,_,rfl,rfl,O.sq 0,hm,1,rfl,szl,fun t ht=>?_⟩
      walk_at "nw"
      refine ⟨szl,fun p hp=>?_⟩
      walk_at "nw"
      exact q p t t (.file "a" 0 m (-1)) .licence _ (O.sub (.cons₂ _ (.cons₂ _ (List.nil_sublist _)))) uU (er3 m hm3)
    have hc:¬ S.ls.length=0:=hc
    have n0:=jM (xs.getD 2 0) S.ls.length (by omega)
    refine ⟨_,rfl,lx,_,2,_,rfl,rfl,O.same.seq hX,bJ (i:=2) (g 2 (by decide)),_,rfl,ll,_,rfl,.inl (O.same.seq hL),_,_,rfl,rfl,(by omega),?_⟩
    dsimp only
    rw [hui]
    generalize xs.getD 2 0 % (S.ls.length:Int)=nb at n0
    obtain ⟨n,rfl⟩:=Int.eq_ofNat_of_zero_le n0.1
    obtain ⟨x,hx⟩:∃ x,S.ns[n]?=some x:=⟨_,List.getElem?_eq_getElem (by omega)⟩
    obtain ⟨l,hl⟩:∃ l,S.ls[n]?=some l:=⟨_,List.getElem?_eq_getElem (by omega)⟩
    obtain ⟨al,hal,hT⟩:=d0.jG hl
    have hli:=hA.lo l (List.mem_of_getElem? hl)
    have hxn:=hA.na x (List.mem_of_getElem? hx)
    have hbar:∀ k,S.nH (n:Int) x k=k:=fun k=>mj (by omega) (by omega) (by rw [Int.toNat_natCast];exact hx)
    have hat:S.at_ (n:Int)=l:=lK rfl hl
    refine ⟨_,rfl,_,rfl,ln,_,_,_,rfl,rfl,O.same.seq hN,dW (show (S.ns.map V.str)[n]?=some (.str x) by rw [List.getElem?_map,hx];rfl),?_⟩
    refine ⟨_,rfl,rfl,_,rfl,ifI (fun _=>?_) (fun _=>?_)⟩
    · refine ⟨_,rfl,1,rfl,-1,rfl,tt,_,rfl,O.sqT 0,?_,fun tc htc=>?_⟩
      · intro z
        have z2:=z.2
        have e:((ms.map V.int).length:Nat)=S.ls.length:=by rw [List.length_map,hmsl]
        have z2:(if (-1:Int)<0 then ((-1:Int) + ((ms.map V.int).length:Int)).toNat else min (-1:Int).toNat (ms.map V.int).length)=(ms.map V.int).length:=z2
        rw [if_pos (by decide),e] at z2
        omega
      walk_at "nw"
      rw [show pH (ms.map V.int) none (some (-1))=_ from Bv ms] at O
      refine ⟨1,rfl,_,_,rfl,rfl,⟨by decide,by decide,by decide⟩,_,_,rfl,rfl,szl,fun lb hb=>?_⟩
      walk_at "nw"
      obtain ⟨m,hm,hm2⟩:=rK (a:=-1) (b:=10 ^ (12:Int).toNat + 1) (jM (xs.getD 1 0) 2 (by decide)).1 (jM (xs.getD 1 0) 2 (by decide)).2
      refine ⟨_,rfl,lx,_,1,_,rfl,rfl,O.same.seq hX,bJ (i:=1) (g 1 (by decide)),_,_,rfl,rfl,(by show (0:Int)<2;decide),lb,_,_,_,rfl,rfl,O.sq 0,hm,szl,fun l1 h1=>?_⟩
      walk_at "nw"
      have hlt:(ms.take (ms.length - 1)++[m]).length=S.ls.length:=by rw [List.length_append,List.length_take,hmsl];simp only [List.length_cons,List.length_nil];omega
      have er:step r S (.lapse (ms.take (ms.length - 1)++[m]))=.error .much:=by
        simp only [step]
        rw [if_neg (not_not_intro hlt),if_pos]
        intro z
        have z:=z m (List.mem_append.mpr (.inr (List.mem_singleton.mpr rfl)))
        rw [p12] at hm2
        omega
      refine ⟨tc,l1,_,_,rfl,rfl,O.sqT 2,O.sqT 0,List.cons_ne_nil _ _,gP (by rw [List.length_map,List.length_take];simp only [List.length_cons,List.length_nil];omega),fun he=>?_,fun he c hc=>?_⟩
      · have he:ms.take (ms.length - 1)=[]:=List.map_eq_nil_iff.mp he
        refine ⟨szl,fun t ht=>?_⟩
        walk_at "nw"
        refine ⟨szl,fun p hp=>?_⟩
        walk_at "nw"
        rw [he] at er
        exact q p t l1 (.lapse ([]++[m])) .much _ (O.sub (.cons₂ _ (.cons₂ _ (.cons₂ _ (List.nil_sublist _))))) (by show ([m]:List Int).length≤1000;simp) er
      · walk_at "nw"
        rw [show (ms.take (ms.length - 1)).map V.int++[V.int m]=(ms.take (ms.length - 1)++[m]).map V.int by rw [List.map_append];rfl] at O
        refine ⟨szl,fun t ht=>?_⟩
        walk_at "nw"
        refine ⟨szl,fun p hp=>?_⟩
        walk_at "nw"
        exact q p t c (.lapse (ms.take (ms.length - 1)++[m])) .much _ (O.sub (.cons₂ _ (.cons₂ _ (.cons₂ _ (List.nil_sublist _))))) (by show (ms.take (ms.length - 1)++[m]).length≤1000;omega) er
    have O:=O.tail
    refine ⟨_,rfl,rfl,_,rfl,ifI (fun _=>?_) (fun _=>?_)⟩
    · refine ⟨_,rfl,_,rfl,1,rfl,_,rfl,lv,_,rfl,.inl (O.same.seq hV),szl,fun lb hb=>?_⟩
      walk_at "nw"
      rw [hml] at O
      obtain ⟨st,hst,hs⟩:=rK (a:=-1) (b:=r.length) (jM (xs.getD 1 0) 2 (by decide)).1 (jM (xs.getD 1 0) 2 (by decide)).2
      refine ⟨_,rfl,lx,_,1,_,rfl,rfl,O.same.seq hX,bJ (i:=1) (g 1 (by decide)),_,_,rfl,rfl,(by show (0:Int)<2;decide),lb,_,_,_,rfl,rfl,O.sq 0,hst,szl,fun t ht=>?_⟩
      walk_at "nw"
      refine ⟨szl,fun p hp=>?_⟩
      walk_at "nw"
      refine q p t t (.move (n:Int) x st) .licence _ (O.sub (.cons₂ _ (.cons₂ _ (List.nil_sublist _)))) hxn.2 ?_
      simp only [step]
      rw [hbar,hat,if_pos fun z=>by have z3:=z.1.2.2.1;have z4:=z.1.2.2.2.1;dsimp only [wst] at z3 z4;omega]
    refine ⟨_,rfl,rfl,_,rfl,ifI (fun _=>?_) (fun _=>?_)⟩
    · refine ⟨_,rfl,_,rfl,_,rfl,_,rfl,ll,_,_,_,rfl,rfl,O.same.seq hL,dW hal,al,_,3,_,rfl,rfl,hT.mo O.same,rfl,3,rfl,szl,fun lb hb=>?_⟩
      walk_at "nw"
      obtain ⟨m,hm,hm3⟩:=qp (a:=0) (b:=l.most) (c:=-3) (jM (xs.getD 1 0) 3 (by decide)).1 (jM (xs.getD 1 0) 3 (by decide)).2
      refine ⟨_,rfl,lx,_,1,_,rfl,rfl,O.same.seq hX,bJ (i:=1) (g 1 (by decide)),_,_,rfl,rfl,(by show (0:Int)<3;decide),lb,_,_,_,rfl,rfl,O.sq 0,hm,szl,fun t ht=>?_⟩
      walk_at "nw"
      refine ⟨szl,fun p hp=>?_⟩
      walk_at "nw"
      refine q p t t (.part (n:Int) x m "b") .much _ (O.sub (.cons₂ _ (.cons₂ _ (List.nil_sublist _)))) ⟨hxn.2,uT⟩ ?_
      simp only [step]
      rw [hbar,hat,if_neg (not_not_intro p8),if_pos (by omega)]
    refine ⟨fun σ H'=>Iv (σ=[some (.ref lx),some (.ref lv),some (.ref ll),some (.ref ln),some (.int kd),some (.ref tt),some (.int (n:Int)),some (.str x),none,none,none]∧Ow T H H' []),?_,?_⟩
    · refine ⟨_,rfl,rfl,_,rfl,ifI (fun _=>?_) (fun _=>⟨trivial,rfl,O⟩)⟩
      refine ⟨_,rfl,_,rfl,ll,_,_,_,rfl,rfl,O.same.seq hL,dW hal,al,_,3,_,rfl,rfl,hT.mo O.same,rfl,_,_,rfl,rfl,_,rfl,ifD (fun hm=>?_) (fun _=>⟨trivial,rfl,O⟩)⟩
      have hm:1<l.most:=hm
      refine ⟨_,rfl,_,rfl,ll,us,S.ls,n,l,rfl,O.same.seq hL,d0.mo O.same,hl,by omega,O.same.t1,O.zY fun lm H4 zs O e=>?_⟩
      subst e
      refine ⟨szl,fun lz hz=>?_⟩
      walk_at "nw"
      refine ⟨lm,lz,_,[],rfl,rfl,O.sq 1,O.sq 0,_,rfl,?_⟩
      rw [if_pos rfl]
      have O:=O.tail.tail
      refine ifN (ifD (fun _=>⟨trivial,rfl,O⟩) (fun hme=>?_))
      have htk:¬ dZ S.ls l.day S.ls.length=[(n:Int)]:=fun z=>hme ((sZ hl (show 0<l.most by omega)).mpr z)
      refine ⟨_,rfl,_,rfl,szl,fun t ht=>?_⟩
      walk_at "nw"
      refine ⟨szl,fun p hp=>?_⟩
      walk_at "nw"
      refine q p t t (.part (n:Int) x 1 "b") .alone _ (O.sub (.cons₂ _ (.cons₂ _ (List.nil_sublist _)))) ⟨hxn.2,uT⟩ ?_
      simp only [step]
      rw [hbar,hat,if_neg (not_not_intro p8),if_neg (by omega),if_pos htk]
    clear O
    rintro σ H4 ⟨-,rfl,O⟩
    refine ⟨_,rfl,rfl,_,rfl,ifI (fun _=>?_) (fun _=>?_)⟩
    · refine ⟨_,rfl,_,rfl,szl,fun lb hb=>?_⟩
      walk_at "nw"
      obtain ⟨y,hy,y1,y2⟩:=ud (jM (xs.getD 1 0) 4 (by decide)).1 (jM (xs.getD 1 0) 4 (by decide)).2
      refine ⟨_,rfl,lx,_,1,_,rfl,rfl,O.same.seq hX,bJ (i:=1) (g 1 (by decide)),_,_,rfl,rfl,(by show (0:Int)<4;decide),lb,_,_,_,rfl,rfl,O.sq 0,hy,szl,fun t ht=>?_⟩
      walk_at "nw"
      refine ⟨szl,fun p hp=>?_⟩
      walk_at "nw"
      refine q p t t (.sell (n:Int) x y) .holder _ (O.sub (.cons₂ _ (.cons₂ _ (List.nil_sublist _)))) ⟨hxn.2,y1⟩ ?_
      simp only [step]
      rw [hbar,if_pos y2]
    have hx8:=hxn.1.2.1
    have hb1:("b":Str).cps.size=1:=by decide +kernel
    refine ⟨_,rfl,_,_,rfl,rfl,gP (show x.cps.size + ("b":Str).cps.size≤100000 by omega),?_⟩
    refine ⟨fun σ H'=>Iv (∃ (m:Int) (y:Str) (k:EK),σ=[some (.ref lx),some (.ref lv),some (.ref ll),some (.ref ln),some (.int kd),some (.ref tt),some (.int m),some (.str x),some (.str (mR k)),some (.str y),none]∧Asc y∧(∀ z,S.nH m y z=.error k)∧Ow T H H' []),?_,?_⟩
    · refine ⟨_,rfl,rfl,_,rfl,ifI (fun _=>?_) (fun _=>?_)⟩
      · refine ⟨1,rfl,_,rfl,ll,_,rfl,.inl (O.same.seq hL),szl,fun lb hb=>?_⟩
        walk_at "nw"
        rw [hui] at O
        obtain ⟨m,hm,hm2⟩:=rK (a:=-1) (b:=S.ls.length) (jM (xs.getD 1 0) 2 (by decide)).1 (jM (xs.getD 1 0) 2 (by decide)).2
        refine ⟨_,rfl,lx,_,1,_,rfl,rfl,O.same.seq hX,bJ (i:=1) (g 1 (by decide)),_,_,rfl,rfl,(by show (0:Int)<2;decide),lb,_,_,_,rfl,rfl,O.sq 0,hm,_,rfl,trivial,m,x,.number,rfl,hxn.2,fun z=>?_,O.tail⟩
        unfold RS.nH
        rw [if_pos (by omega)]
      refine ⟨_,rfl,rfl,_,rfl,ifI (fun _=>?_) (fun _=>?_)⟩
      · refine ⟨1,rfl,_,rfl,ll,_,rfl,.inl (O.same.seq hL),szl,fun lb hb=>?_⟩
        walk_at "nw"
        rw [hui] at O
        obtain ⟨m,hm,hm2⟩:=rK (a:=-1) (b:=S.ls.length) (jM (xs.getD 1 0) 2 (by decide)).1 (jM (xs.getD 1 0) 2 (by decide)).2
        refine ⟨_,rfl,lx,_,1,_,rfl,rfl,O.same.seq hX,bJ (i:=1) (g 1 (by decide)),_,_,rfl,rfl,(by show (0:Int)<2;decide),lb,_,_,_,rfl,rfl,O.sq 0,hm,_,rfl,trivial,m,x,.number,rfl,hxn.2,fun z=>?_,O.tail⟩
        unfold RS.nH
        rw [if_pos (by omega)]
      refine ⟨trivial,(n:Int),x++("b":Str),.yours,rfl,Lz hxn.2 uT (by omega),fun z=>?_,O⟩
      unfold RS.nH
      rw [if_neg (not_not_intro ⟨by omega,by omega⟩),if_pos (by rw [Int.toNat_natCast,hx];exact fun e=>Aa x (Option.some.inj e).symm)]
    clear O
    rintro σ H4 ⟨-,m,y,k,rfl,hy,hbs,O⟩
    refine ⟨_,rfl,_,rfl,szl,fun t0 h0=>?_⟩
    walk_at "nw"
    refine ⟨_,rfl,_,rfl,szl,fun t1 h1=>?_⟩
    walk_at "nw"
    refine ⟨_,rfl,_,rfl,szl,fun t2 h2=>?_⟩
    walk_at "nw"
    refine ⟨szl,fun ls hls=>?_⟩
    walk_at "nw"
    refine ⟨_,rfl,_,rfl,_,rfl,szl,fun t3 h3=>?_⟩
    walk_at "nw"
    refine ⟨szl,fun l1 hl1=>?_⟩
    walk_at "nw"
    refine ⟨ls,l1,_,_,rfl,rfl,O.get 2,O.get 0,gP (by simp),fun lc hlc=>?_⟩
    walk_at "nw"
    have j0:=jM (xs.getD 3 0) 4 (by decide)
    refine ⟨_,rfl,lx,_,3,_,rfl,rfl,O.same.seq hX,bJ (i:=3) (g 3 (by decide)),_,_,rfl,rfl,(by show (0:Int)<4;decide),?_⟩
    dsimp only
    rcases (by omega:xs.getD 3 0 % 4=0∨xs.getD 3 0 % 4=1∨xs.getD 3 0 % 4=2∨xs.getD 3 0 % 4=3) with e | e | e | e
    · refine ⟨lc,_,_,.ref t0,rfl,rfl,O.sq 0,by rw [e];rfl,_,rfl,szl,fun p hp=>?_⟩
      walk_at "nw"
      refine q p t0 t0 (.sell m y "a") k _ (O.sub (.cons₂ _ (.cons _ (.cons _ (.cons _ (.cons _ (.cons _ (.cons _ (.cons₂ _ (List.nil_sublist _)))))))))) ⟨hy,uU⟩ ?_
      simp only [step]
      exact hbs _
    · refine ⟨lc,_,_,.ref t1,rfl,rfl,O.sq 0,by rw [e];rfl,_,rfl,szl,fun p hp=>?_⟩
      walk_at "nw"
      refine q p t1 t1 (.part m y 1 "a") k _ (O.sub (.cons₂ _ (.cons _ (.cons _ (.cons _ (.cons _ (.cons _ (.cons₂ _ (List.nil_sublist _))))))))) ⟨hy,uU⟩ ?_
      simp only [step]
      exact hbs _
    · refine ⟨lc,_,_,.ref t2,rfl,rfl,O.sq 0,by rw [e];rfl,_,rfl,szl,fun p hp=>?_⟩
      walk_at "nw"
      refine q p t2 t2 (.drop m y) k _ (O.sub (.cons₂ _ (.cons _ (.cons _ (.cons _ (.cons _ (.cons₂ _ (List.nil_sublist _)))))))) hy ?_
      simp only [step]
      exact hbs _
    · refine ⟨lc,_,_,.ref t3,rfl,rfl,O.sq 0,by rw [e];rfl,_,rfl,szl,fun p hp=>?_⟩
      walk_at "nw"
      refine q p t3 t3 (.move m y 0) k _ (O.sub (.cons₂ _ (.cons _ (.cons _ (.cons₂ _ (List.nil_sublist _)))))) hy ?_
      simp only [step]
      exact hbs _
theorem pY {r:List Int} {rk:Nat→Nat} (h3:∀ (i:Nat) (x:Int),r[i]?=some x→x=-1∨(0≤x∧x<r.length∧rk x.toNat<rk i)):∀ (f:Nat) (p:Int),0≤p→p<r.length→rk p.toNat<f→Rv.lJ r f p=-1
  | 0,p,_,_,h=>absurd h (Nat.not_lt_zero _)
  | f + 1,p,h0,h1,h=>by
    show Rv.lJ r f (Rv.stp r p)=-1
    unfold Rv.stp
    rw [if_neg (by omega)]
    rcases h3 _ _ (Rv.jK h0 h1) with e | ⟨a,b,c⟩
    · rw [e];exact Rv.vq r f
    · exact pY h3 f _ a b (by omega)
theorem sG {r:List Int} (hR:Rv.mq r) (h1:1≤r.length) (h2:r.length≤40):Rv.isR r=true:=by
  obtain ⟨rk,k1,k2⟩:=hR
  have hB:Rv.inB r:=fun x hx=>by
    obtain ⟨i,hi⟩:=List.getElem?_of_mem hx
    rcases k2 i x hi with e | ⟨a,b,_⟩ <;> omega
  unfold Rv.isR
  rw [decide_eq_true (⟨h1,h2⟩:1≤r.length∧r.length≤40),decide_eq_true hB,decide_eq_true (fun i hi=>pY k2 _ _ (by omega) (by omega) (by rw [Int.toNat_natCast];exact k1 i hi))]
  rfl
def flN (k:Nat):Str:=if k % 2=0 then "a" else "b"
def flD (r:List Int) (k:Nat):jL:=.file (flN k) ((k:Int) % (r.length:Int)) (2 + (k:Int)) (-1)
def flL (r:List Int) (d:Int) (k:Nat):Lic:=⟨d,(k:Int) % (r.length:Int),-1,2 + (k:Int)⟩
def o9 (r:List Int) (n:Nat):RS:=⟨1,flL r 0 0 :: (List.range n).map (fun j=>flL r 1 (j + 1)),flN 0 :: (List.range n).map (fun j=>flN (j + 1)),flD r 0 :: .turn :: (List.range n).map (fun j=>flD r (j + 1))⟩
theorem zy (k:Nat):iJ (flN k)∧Asc (flN k):=by
  unfold flN
  split
  · exact ⟨yW,uU⟩
  · exact ⟨p8,uT⟩
theorem S9 {r:List Int} (h:1≤r.length) {d:Int} (d0:0≤d) (d1:d≤1) {k:Nat} (hk:k≤60):jA r (flL r d k):=by
  have m:=jM (k:Int) r.length (by omega)
  exact ⟨⟨d0,by show d≤1000000;omega,m.1,m.2,by show 0≤2 + (k:Int);omega,by show 2 + (k:Int)≤1000000000000;omega⟩,.inl rfl⟩
theorem zx {r:List Int} (h:1≤r.length) {S:RS} {k:Nat} (hk:k≤60) (d0:0≤S.day) (d1:S.day≤1) (hl:S.ls.length<60):step r S (flD r k)=.ok ⟨S.day,S.ls++[flL r S.day k],S.ns++[flN k],S.ds++[flD r k]⟩:=by
  unfold flD
  simp only [step]
  rw [if_neg (not_not_intro (zy k).1),if_neg (fun z=>z.elim (by omega) fun w=>w (S9 h d0 d1 hk)),if_neg (by omega)]
  rfl
theorem rm {r:List Int} (h:1≤r.length):∀ n:Nat,n≤59→replay r RS.new (flD r 0 :: .turn :: (List.range n).map (fun j=>flD r (j + 1)))=.ok (o9 r n)
  | 0,_=>by
    have h1:replay r RS.new ([]++[flD r 0])=_:=(gA (show replay r RS.new []=.ok RS.new from rfl)).trans (zx h (by decide) (by decide) (by decide) (by decide))
    have h2:replay r RS.new (([]++[flD r 0])++[.turn])=_:=gA h1
    exact h2
  | n + 1,hn=>by
    have ih:=rm h n (by omega)
    have e:(flD r 0 :: jL.turn :: (List.range (n + 1)).map (fun j=>flD r (j + 1)))=(flD r 0 :: jL.turn :: (List.range n).map (fun j=>flD r (j + 1)))++[flD r (n + 1)]:=by
      rw [List.range_succ,List.map_append];rfl
    rw [e,gA ih,zx h (by omega) (show (0:Int)≤1 by decide) (show (1:Int)≤1 by decide) (by show (_ :: _:List Lic).length<60;rw [List.length_cons,List.length_map,List.length_range];omega)]
    unfold o9
    rw [List.range_succ,List.map_append,List.map_append,List.map_append]
    rfl
def moD (b:Bool):jL:=if b then .file "b" 0 3 (-1) else .part 0 "a" 1 "b"
theorem Ni (b:Bool):jo (moD b):=by
  cases b
  · exact ⟨uU,uT⟩
  · exact uT
theorem n6 {r:List Int}:∀ n:Nat,1≤n→n≤60→dZ (o9 r 59).ls 0 n=[0]
  | 0,h,_=>by omega
  | 1,_,_=>by
    show []++_=_
    rw [show (o9 r 59).ls[0]?=some (flL r 0 0) from rfl]
    rfl
  | n + 2,_,h=>by
    have ih:=n6 (r:=r) (n + 1) (by omega) (by omega)
    show dZ _ 0 (n + 1)++_=_
    rw [ih]
    have e:(o9 r 59).ls[n + 1]?=some (flL r 1 (n + 1)):=by
      show ((List.range 59).map (fun j=>flL r 1 (j + 1)))[n]?=_
      rw [List.getElem?_map,List.getElem?_range (by omega)];rfl
    rw [e]
    have e2:¬ ((flL r 1 (n + 1)).day=0∧0<(flL r 1 (n + 1)).most):=fun z=>absurd z.1 (by show ¬ (1:Int)=0;decide)
    simp only [if_neg e2,List.append_nil]
theorem Lj {r:List Int} (h:1≤r.length) (b:Bool):step r (o9 r 59) (moD b)=.error .full:=by
  have hl:(o9 r 59).ls.length=60:=by show (_ :: _:List Lic).length=60;rw [List.length_cons,List.length_map,List.length_range]
  cases b
  · show step r (o9 r 59) (.part 0 "a" 1 "b")=_
    simp only [step]
    have hat:(o9 r 59).at_ 0=flL r 0 0:=lK (k:=0) rfl rfl
    rw [mj (by decide) (by rw [hl];decide) rfl,hat,if_neg (not_not_intro p8),if_neg (not_not_intro ⟨by decide,by show (1:Int)<2 + ((0:Nat):Int);decide⟩),hl,show dZ (o9 r 59).ls (flL r 0 0).day 60=[0] from n6 60 (by decide) (by decide),if_neg (not_not_intro rfl),if_pos (by decide)]
  · show step r (o9 r 59) (.file "b" 0 3 (-1))=_
    simp only [step]
    rw [if_neg (not_not_intro p8),if_neg,hl,if_pos (by decide)]
    intro z
    rcases z with z | z
    · exact absurd z (by decide)
    · exact z ⟨⟨by show (0:Int)≤1;decide,by show (1:Int)≤1000000;decide,by show (0:Int)≤0;decide,by show (0:Int)<r.length;omega,by show (0:Int)≤3;decide,by show (3:Int)≤1000000000000;decide⟩,.inl rfl⟩
theorem tO (xs:List V) (k:Nat):pH xs none (some (k:Int))=xs.take k:=by
  unfold pH
  rw [HT.vL,HT.oH,List.drop_zero,Nat.sub_zero]
  rcases Nat.le_total k xs.length with h | h
  · rw [Nat.min_eq_left h]
  · rw [Nat.min_eq_right h,List.take_of_length_le h,List.take_of_length_le (Nat.le_refl _)]
theorem tQ (xs:List V) (k:Nat):pH xs (some (k:Int)) none=xs.drop k:=by
  unfold pH
  rw [HT.vL,HT.oH]
  rcases Nat.le_total k xs.length with h | h
  · rw [Nat.min_eq_left h,List.take_of_length_le (by rw [List.length_drop];exact Nat.le_refl _)]
  · rw [Nat.min_eq_right h,List.drop_of_length_le h,List.drop_of_length_le (Nat.le_refl _),List.take_nil]
abbrev eG:Stmt:=top 51
theorem jB:aW ["below","cell","deeds","more"] ["below","cell"] (ak eG):=⟨rfl,rfl,rfl,by decide +kernel,rfl,by decide +kernel,by decide +kernel⟩
def yc (K:PySem.W.Frag) (T:eF):Sp:=fun vs H Q _=>∃ (lv:Addr) (r:List Int) (c:Int),vs=[.ref lv,.int c]∧SqL K H lv (r.map V.int)∧Rv.mq r∧1≤r.length∧r.length≤40∧TabsOk T H∧∀ H',aR T H H'→Q (.bl true) H'
section
variable {P:Program} {w:World} {K:PySem.W.Frag} {mg:Str→Option Value} {base:Heap} {T:eF} {C f3:Addr} {c:Ec}
theorem K8 {f f1 f2 f4:Addr} {fd fd1 fd2 fd4:FuncData} (D:Df K mg "_law_full" eG ["below","cell"] f fd) (B:Blt mg) (R_Roll:Cl K mg "Roll" C f3 yw)
    (cj:Df K mg "replayed" eY ["below","deeds"] f1 fd1) (jW:bQ P w K mg base (CXE P w) 5 f1 fd1 ["below","deeds"] (qw K T C c))
    (eV:Dm K C "roll" "Roll.roll" eN ["self"] f4 fd4) (mz:bQ P w K mg base CX0 1 f4 fd4 ["self"] (lQ K C "licences"))
    (bh:Df K mg "_law_refused" cG ["below","deeds"] f2 fd2) (gq:bQ P w K mg base CX0 6 f2 fd2 ["below","deeds"] (ux K T)):bQ P w K mg base CX0 7 f fd ["below","cell"] (yc K T):=by
  refine D.F.ok jB (fun vs H Q E h=>?_) (fun cdv A outer s H vs Q E hr h=>?_)
  · obtain ⟨_,_,_,rfl,_⟩:=h;rfl
  · obtain ⟨lv,r,z,rfl,hV,hR,r1,r40,tk,q⟩:=h
    have hu:=hr.units
    have O:=Ow.refl tk
    have hIR:=sG hR r1 (by omega)
    have hml:(((r.map V.int).length:Nat):Int)=(r.length:Int):=by rw [List.length_map]
    refine ⟨_,(@au _ _ _ _ _ (jQ (i:=2) (ak eG) rfl ["below","cell","deeds","more"] rfl ["k","below"] [none,some 0] (by decide +kernel) (by decide +kernel) (by decide +kernel) rfl jB.nd rfl rfl (jR rfl B.range (@aD _ _ _ _ _ aq ao rfl)) (fun _ _ _=>(bI (i:=0) (show (["k","below"]:List Str).Nodup by decide +kernel) rfl (Or.inl rfl))) (fun _ _ _=>ji) (fun _ _ _=>(@bA _ _ _ _ _ (@aD _ _ _ _ _ aF (@aD _ _ _ _ _ (uF aF (@aY _ _ _ _ _ _ _ _ bN (pv 0) aq) (fun _ _=>rfl)) (@aD _ _ _ _ _ (@aY _ _ _ _ _ _ _ _ bN (pv 0) (aP (mK (K:=K) rfl) rfl B.len PySem.boot_len (@aD _ _ _ _ _ (pv 1) ao rfl))) (@aD _ _ _ _ _ (@aY _ _ _ _ _ _ _ _ iY aq (pv 0)) (@aD _ _ _ _ _ (@jc _ _ _ _ _ _ fB aq) ao rfl) rfl) rfl) rfl) rfl))) rfl)
      (@au _ _ _ _ _ (bw (i:=2) jB.nd rfl (Or.inl rfl) (@aY _ _ _ _ _ _ _ _ oM (@aY _ _ _ _ _ _ _ _ oM (jE lR (pv 2) lV (j5 aq)) (@bK _ _ _ _ (@aD _ _ _ _ _ (@bA _ _ _ _ _ (@aD _ _ _ _ _ aF ao rfl)) ao rfl))) (jE lR (pv 2) (j5 aq) lV)))
      (@au _ _ _ _ _ (bw (i:=3) jB.nd rfl (Or.inl rfl) (@aH _ _ _ _ _ _ _ aJ (@bK _ _ _ _ (@aD _ _ _ _ _ (@bA _ _ _ _ _ (@aD _ _ _ _ _ aF (@aD _ _ _ _ _ aF (@aD _ _ _ _ _ aq (@aD _ _ _ _ _ aq (@aD _ _ _ _ _ (@jc _ _ _ _ _ _ fB aq) ao rfl) rfl) rfl) rfl) rfl)) (@aD _ _ _ _ _ (@bA _ _ _ _ _ (@aD _ _ _ _ _ aF (@aD _ _ _ _ _ aq (@aD _ _ _ _ _ aF (@aD _ _ _ _ _ aq (@aD _ _ _ _ _ aF ao rfl) rfl) rfl) rfl) rfl)) ao rfl) rfl)) (@aY _ _ _ _ _ _ _ _ bN (pv 1) aq) (fun _ _=>rfl)))
      (@aA _ _ _ (@bf _ _ _ _ (Ck (j7 dY (aP aM rfl B.len PySem.boot_len (@aD _ _ _ _ _ (jF (aO jW (hr.mono (by decide)) rfl cj.m cj.F.kp cj.b .nil M4 (@aD _ _ _ _ _ (pv 0) (@aD _ _ _ _ _ (pv 2) ao rfl) rfl)) R_Roll.c eV.m mz (hr.mono (by decide)) eV.b .nil bU) ao rfl)) aq (aN _)) (yI (j7 (p7 hu) (aO gq (hr.mono (by decide)) rfl bh.m bh.F.kp bh.b .nil bU (@aD _ _ _ _ _ (pv 0) (@aD _ _ _ _ _ (@aY _ _ _ _ _ _ _ _ oM (pv 2) (@bK _ _ _ _ (@aD _ _ _ _ _ (pv 3) ao rfl))) ao rfl) rfl)) (@bK _ _ _ _ (@aD _ _ _ _ _ aF ao rfl)) (aN _))))))))),?_⟩
    refine ⟨60,rfl,by decide,by decide,fun lw hlw=>?_⟩
    refine jU (fun i τ H'=>Iv (∃ (v0:Option V) (Hb:Hp) (vs:List V),τ=[v0,some (.ref lv)]∧aR T H Hb∧Ow T Hb H' [(lw,.lst vs)]∧cR K Hb vs (((List.range i).map (flD r)).map jy))) ⟨trivial,none,H,[],rfl,aR.refl tk,O.mk' hlw rfl,.nil⟩ ?_ ?_
    · clear O
      rintro i τ H4 hi ⟨-,v0,Hb,vs,rfl,sb,O,dv⟩
      have hvl:vs.length=i:=by rw [dv.length,List.length_map,List.length_map,List.length_range]
      have m2:=jM (0 + (i:Int)) 2 (by decide)
      refine zX ?_
      obtain ⟨ch,hch,hcs⟩:∃ ch,("ab":Str).cps[((0 + (i:Int)) % 2).toNat]?=some ch∧(⟨#[ch]⟩:Str)=flN i:=by
        rcases (by omega:i % 2=0∨i % 2=1) with e | e
        · rw [show (0 + (i:Int)) % 2=0 by omega]
          exact ⟨97,by decide +kernel,by unfold flN;rw [if_pos e];decide +kernel⟩
        · rw [show (0 + (i:Int)) % 2=1 by omega]
          exact ⟨98,by decide +kernel,by unfold flN;rw [if_neg (by omega)];decide +kernel⟩
      refine ⟨_,rfl,_,_,rfl,rfl,(by show (0:Int)<2;decide),_,_,ch,rfl,rfl,m2.1,by omega,by show _<((2:Nat):Int);omega,hch,?_⟩
      rw [hcs]
      refine ⟨_,rfl,_,rfl,lv,_,rfl,.inl ((sb.trans O.same).seq hV),_,_,rfl,rfl,(by rw [hml];omega),_,rfl,_,_,rfl,rfl,1,rfl,szl,fun t ht=>?_⟩
      walk_at "nw"
      refine ⟨_,O.get 1,aX (by omega),?_⟩
      walk_at "pt"
      rw [hml,Int.zero_add] at O
      obtain ⟨Hc,O,sc,e⟩:=O.frz
      refine ⟨trivial,_,Hc,vs++[V.ref t],rfl,sb.trans sc,O,?_⟩
      rw [List.range_succ,List.map_append,List.map_append]
      exact (dv.mo sc).append (.cons (.tuple (SqT.of e) (.cons (.str _) (.cons (.str _) (.cons (.int _) (.cons (.int _) (.cons (.int _) .nil)))))) .nil)
    clear O
    rintro τ H4 ⟨-,v0,Hb,vs,rfl,sb,O,dv⟩
    have dv:cR K Hb vs (jy (flD r 0) :: ((List.range 59).map (fun j=>flD r (j + 1))).map jy):=dv
    cases dv with
    | cons dv0 dv =>
    rename_i x0 vs _
    have hvl:vs.length=59:=by rw [dv.length,List.length_map,List.length_map,List.length_range]
    refine ⟨_,rfl,1,rfl,lw,_,rfl,O.sq 0,fun a1 h1=>?_⟩
    walk_at "nw"
    rw [show pH (x0 :: vs) none (some 1)=[x0] from tO _ 1] at O
    refine ⟨szl,fun t ht=>?_⟩
    walk_at "nw"
    refine ⟨szl,fun b1 hb1=>?_⟩
    walk_at "nw"
    refine ⟨a1,b1,_,_,rfl,rfl,O.get 2,O.get 0,gP (by simp),fun c1 hc1=>?_⟩
    walk_at "nw"
    refine ⟨_,rfl,1,rfl,lw,_,rfl,O.sq 4,fun a2 h2=>?_⟩
    walk_at "nw"
    rw [show pH (x0 :: vs) (some 1) none=vs from tQ _ 1] at O
    refine ⟨c1,a2,_,_,rfl,rfl,O.get 1,O.get 0,gP (by simp only [List.length_append,List.length_cons,List.length_nil];omega),fun ld hld=>?_⟩
    walk_at "nw"
    obtain ⟨Hc,O,sc,e⟩:=O.Lk 4
    have O:Ow T Hc _ [(ld,.lst (x0 :: V.ref t :: vs))]:=O.sub (.cons₂ _ (List.nil_sublist _))
    have ds0:cR K Hc (x0 :: V.ref t :: vs) ((flD r 0 :: .turn :: (List.range 59).map (fun j=>flD r (j + 1))).map jy):=.cons (dv0.mo sc) (.cons (.tuple (SqT.of e) (.cons (.str _) .nil)) (dv.mo sc))
    have sb:=sb.trans sc
    clear sc e dv dv0
    refine ⟨1,rfl,szl,fun m0 hm0=>?_⟩
    walk_at "nw"
    refine ⟨szl,fun m1 hm1=>?_⟩
    walk_at "nw"
    refine ⟨szl,fun lm hlm=>?_⟩
    walk_at "nw"
    obtain ⟨Hd,O,sd,e1⟩:=O.Lk 1
    obtain ⟨He,O,se,e0⟩:=O.Lk 1
    have O:Ow T He _ [(lm,.lst [V.ref m0,V.ref m1]),(ld,.lst (x0 :: V.ref t :: vs))]:=O
    have e1:=se.keep _ _ e1 (fun _ z=>nomatch z)
    have sd:=sd.trans se
    have ds0:=ds0.mo sd
    have sb:=sb.trans sd
    clear sd se
    obtain ⟨mr,bb,hmr,dm⟩:∃ (mr:Addr) (bb:Bool),atI [V.ref m0,V.ref m1] (z % 2)=some (.ref mr)∧Den K He (.ref mr) (jy (moD bb)):=by
      have m2:=jM z 2 (by decide)
      rcases (by omega:z % 2=0∨z % 2=1) with e | e <;> rw [e]
      · exact ⟨m0,true,rfl,.tuple (SqT.of e0) (.cons (.str _) (.cons (.str _) (.cons (.int _) (.cons (.int _) (.cons (.int _) .nil)))))⟩
      · exact ⟨m1,false,rfl,.tuple (SqT.of e1) (.cons (.str _) (.cons (.int _) (.cons (.str _) (.cons (.int _) (.cons (.str _) .nil)))))⟩
    refine ⟨_,rfl,_,_,rfl,rfl,(by show (0:Int)<2;decide),lm,_,_,_,rfl,rfl,O.sq 0,hmr,?_⟩
    have O:=O.tail
    have hok:∀ d∈(flD r 0 :: .turn :: (List.range 59).map (fun j=>flD r (j + 1))),jo d:=fun d hd=>by
      rcases List.mem_cons.mp hd with rfl | hd
      · exact (zy 0).2
      · rcases List.mem_cons.mp hd with rfl | hd
        · trivial
        · obtain ⟨j,-,rfl⟩:=List.mem_map.mp hd
          exact (zy _).2
    have hlen:(flD r 0 :: jL.turn :: (List.range 59).map (fun j=>flD r (j + 1))).length=61:=by rw [List.length_cons,List.length_cons,List.length_map,List.length_range]
    refine ⟨_,rfl,_,rfl,lv,ld,He,_,r,_,_,rfl,O,(sb.trans O.same).seq hV,by omega,(fun Hb H' X s O=>SqL.of (O.at_ _ (List.mem_append_right _ List.mem_cons_self))),ds0,hok,by omega,(fun _=>hR),fun _ S' e A2 Hc H9 sc ra2=>?_,(fun _ k e=>by rw [rm r1 59 (by decide)] at e;cases e),fun z=>by rw [hIR] at z;cases z⟩
    rw [rm r1 59 (by decide)] at e
    cases e
    clear O
    obtain ⟨us2,vs2,O,e0',e1'⟩:=ra2
    have hul:us2.length=60:=by
      rw [e0'.length,List.length_map]
      show (_ :: _:List Lic).length=60
      rw [List.length_cons,List.length_map,List.length_range]
    refine ⟨A2.p,A2.dx,_,rfl,O.get 0,rfl,A2.p,A2.dx,A2.ll,_,_,rfl,O.get 0,rfl,O.sq 3,fun lz hlz=>?_⟩
    walk_at "nw"
    refine ⟨lz,_,rfl,.inl (O.sq 0),rfl,?_⟩
    dsimp only
    rw [hul]
    refine ⟨_,rfl,lM ?_⟩
    have O:Ow T Hc _ [(ld,.lst (x0 :: V.ref t :: vs))]:=O.sub (List.sublist_append_right [_,_,_,_,_,_,_] _)
    refine ⟨_,rfl,_,rfl,_,rfl,szl,fun l1 hl1=>?_⟩
    walk_at "nw"
    refine ⟨ld,l1,_,_,rfl,rfl,O.get 1,O.get 0,gP (by simp only [List.length_cons,List.length_nil];omega),fun l2 hl2=>?_⟩
    walk_at "nw"
    have ds0:=ds0.mo sc
    have sb:=sb.trans sc
    refine ⟨lv,l2,Hc,_,r,_,(flD r 0 :: .turn :: (List.range 59).map (fun j=>flD r (j + 1)))++[moD bb],.full,rfl,O,(sb.trans O.same).seq hV,by omega,(fun Hb H' X s O=>SqL.of (O.at_ _ (List.mem_append_right _ List.mem_cons_self))),?_,?_,by rw [List.length_append,hlen];simp only [List.length_cons,List.length_nil];omega,(fun _=>hR),.inl ⟨hIR,?_⟩,fun l3 Hf H8 sf O=>?_⟩
    · rw [List.map_append]
      exact ds0.append (.cons (dm.mo sc) .nil)
    · intro d hd
      rcases List.mem_append.mp hd with h | h
      · exact hok d h
      · rw [List.mem_singleton.mp h];exact Ni bb
    · rw [gA (rm r1 59 (by decide))]
      exact Lj r1 bb
    refine ⟨szl,fun l4 hl4=>?_⟩
    walk_at "nw"
    have sh:Sh 1 (.list [.str (mR .full)]):=Sh.strs 0 (xs:=[mR .full]) (fun x hx=>by rw [List.mem_singleton.mp hx];exact ⟨by decide +kernel,by decide +kernel⟩)
    refine ⟨_,_,Den.list (O.sq 1) (.cons (.str _) .nil),Den.list (O.sq 0) (.cons (.str _) .nil),sh.ok (by decide),sh.ok (by decide),?_⟩
    rw [if_neg Bool.false_ne_true,iC sh]
    exact q _ ((sb.trans sf).trans O.same)
end
theorem tG {K:PySem.W.Frag} {rows cols:List Addr} {n m:Nat} (h:rows.map (fun a=>cols.map (fun b=>PySem.W.kitOne K (.ref a) (.ref b)))=(List.range n).map fun i=>(List.range m).map fun j=>some (decide (j=i))) {i j:Nat} {a b:Addr} (ha:rows[i]?=some a) (hb:cols[j]?=some b):PySem.W.kitOne K (.ref a) (.ref b)=some (decide (j=i)):=by
  have h1:=congrArg (fun z=>z[i]?) h
  simp only [List.getElem?_map,ha,Option.map_some] at h1
  by_cases hi:i<n
  · rw [List.getElem?_range hi,Option.map_some] at h1
    have h2:=congrArg (fun z=>z[j]?) (Option.some.inj h1)
    simp only [List.getElem?_map,hb,Option.map_some] at h2
    by_cases hj:j<m
    · rw [List.getElem?_range hj,Option.map_some] at h2
      exact Option.some.inj h2
    · rw [List.getElem?_eq_none (by rw [List.length_range];omega)] at h2;cases h2
  · rw [List.getElem?_eq_none (by rw [List.length_range];omega)] at h1;cases h1
theorem Bs (d:jL):(PyData.eqv (jy d) (.tuple [.str (Str.ofString "turn")])=true∧d=.turn)∨(PyData.eqv (jy d) (.tuple [.str (Str.ofString "turn")])=false∧d≠.turn):=by
  have ne:∀ {x:Str} {a:PyData} {ds:List PyData},PyData.eqv (.tuple (.str x :: a :: ds)) (.tuple [.str (Str.ofString "turn")])=false:=by
    intro x a ds
    simp [PyData.eqv,PyData.eqvAll]
  cases d with
  | turn=>exact .inl ⟨iC (Sh.deed (d:=.turn) trivial),rfl⟩
  | file x s m b=>exact .inr ⟨ne,(fun z=>nomatch z)⟩
  | sell n y z=>exact .inr ⟨ne,(fun z=>nomatch z)⟩
  | part n y m z=>exact .inr ⟨ne,(fun z=>nomatch z)⟩
  | drop n y=>exact .inr ⟨ne,(fun z=>nomatch z)⟩
  | move n y s=>exact .inr ⟨ne,(fun z=>nomatch z)⟩
  | lapse xs=>exact .inr ⟨ne,(fun z=>nomatch z)⟩
theorem cR.take' {K:PySem.W.Frag} {H:Hp}:∀ (m:Nat) {vs:List V} {ds:List PyData},cR K H vs ds→cR K H (vs.take m) (ds.take m)
  | 0,_,_,_=>.nil
  | _ + 1,_,_,.nil=>.nil
  | m + 1,_,_,.cons a b=>.cons a (cR.take' m b)
theorem cR.drop' {K:PySem.W.Frag} {H:Hp}:∀ (m:Nat) {vs:List V} {ds:List PyData},cR K H vs ds→cR K H (vs.drop m) (ds.drop m)
  | 0,_,_,h=>h
  | _ + 1,_,_,.nil=>.nil
  | m + 1,_,_,.cons _ b=>cR.drop' m b
theorem wK {r:List Int} {S:RS} {d:jL} {ds:List jL} {k:EK} (h:step r S d=.error k):replay r S (d :: ds)=.error k:=by
  show (match step r S d with | .ok S'=>replay r S' ds | .error k=>.error k)=_
  rw [h]
theorem zT {r:List Int} (hR:Rv.mq r) (r1:1≤r.length) (r40:r.length≤40):At9 r RS.new 0 :=
  ⟨⟨hR,r40,rfl,by decide,by decide,by decide,Mh.nil⟩,r1,rfl,by decide,(fun d hd=>nomatch hd),(fun d hd=>nomatch hd),(fun d hd=>nomatch hd),by decide,by decide,by decide⟩
theorem iT (k:EK):Sh 1 (.list [.str (mR k)]):=Sh.strs 0 (xs:=[mR k]) (fun x hx=>by rw [List.mem_singleton.mp hx];cases k <;> exact ⟨by decide +kernel,by decide +kernel⟩)
def Frg (r:List Int) (S:RS) (df:jL) (kf:EK) (spot i:Nat):Prop:=jo df∧∃ (Sf:RS) (m:Nat),m≤S.ds.length∧replay r RS.new (S.ds.take m)=.ok Sf∧step r Sf df=.error kf∧(spot≤i→m=spot)
abbrev pI:Stmt:=top 52
theorem gF:aW ["script","below","cells","spot","deeds","day","lines","owners","forged","due","k","cell","handed","kept","river","one","spoilt"] ["script"] (ak pI):=⟨rfl,rfl,rfl,by decide +kernel,rfl,by decide +kernel,by decide +kernel⟩
def vI (K:PySem.W.Frag):Sp:=fun vs H Q _=>∃ (a:Addr) (ns:List Int),vs=[.ref a]∧SqL K H a (ns.map V.int)∧ns.length≤63∧∀ H',Q (.bl true) H'
section
variable {P:Program} {w:World} {K:PySem.W.Frag} {mg:Str→Option Value} {base:Heap} {C f2:Addr} {c:Ec}
theorem M9 {f f1 f3 f5 f6 f7 f8 f9 f10 f11 f12 f13 f14 f15 f16:Addr} {fd fd1 fd3 fd5 fd6 fd7 fd8 fd9 fd10 fd11 fd12 fd13 fd14 fd15 fd16:FuncData} (D:Df K mg "law" pI ["script"] f fd) (B:Blt mg) (R_Roll:Cl K mg "Roll" C f2 yw)
    (aL:Df K mg "_law_cell_at" dj ["script","k"] f1 fd1) (dX:bQ P w K mg base CX0 1 f1 fd1 ["script","k"] (yp K))
    (gM:Df K mg "_law_river" cW ["cell"] f3 fd3) (ug:bQ P w K mg base CX0 3 f3 fd3 ["cell"] (vH []))
    (bD:Df K mg "_law_draws" dg ["cell","many"] f5 fd5) (iM:bQ P w K mg base CX0 2 f5 fd5 ["cell","many"] (yg []))
    (cU:Df K mg "_law_forged" cT ["xs","below","lines","owners"] f6 fd6) (mO:bQ P w K mg base CX0 3 f6 fd6 ["xs","below","lines","owners"] (rQ K []))
    (iB:Df K mg "_law_deed" eH ["xs","below","lines","owners"] f7 fd7) (u9:bQ P w K mg base CX0 3 f7 fd7 ["xs","below","lines","owners"] (yj K []))
    (iu:Df K mg "_law_step" fH ["deed","day","lines","owners"] f8 fd8) (uX:bQ P w K mg base CX0 1 f8 fd8 ["deed","day","lines","owners"] (xW K []))
    (bh:Df K mg "_law_refused" cG ["below","deeds"] f9 fd9) (gq:bQ P w K mg base CX0 6 f9 fd9 ["below","deeds"] (ux K []))
    (cj:Df K mg "replayed" eY ["below","deeds"] f10 fd10) (jW:bQ P w K mg base (CXE P w) 5 f10 fd10 ["below","deeds"] (qw K [] C c))
    (iQ:Dm K C "today" "Roll.today" d9 ["self"] f11 fd11) (uh:bQ P w K mg base CX0 1 f11 fd11 ["self"] (vG C))
    (eV:Dm K C "roll" "Roll.roll" eN ["self"] f12 fd12) (mz:bQ P w K mg base CX0 1 f12 fd12 ["self"] (lQ K C "licences"))
    (gw:Dm K C "holders" "Roll.holders" dw ["self"] f13 fd13) (pO:bQ P w K mg base CX0 1 f13 fd13 ["self"] (lQ K C "names"))
    (iR:Dm K C "deeds" "Roll.deeds" eE ["self"] f14 fd14) (uq:bQ P w K mg base CX0 1 f14 fd14 ["self"] (lQ K C "done"))
    (iw:Df K mg "_law_full" eG ["below","cell"] f15 fd15) (uY:bQ P w K mg base CX0 7 f15 fd15 ["below","cell"] (yc K []))
    (gb:Df K mg "_law_spoilt" dN ["below","cell"] f16 fd16) (rF:bQ P w K mg base CX0 1 f16 fd16 ["below","cell"] (Ca K []))
    {f17:Addr} {fd17:FuncData} (fu:Df K mg "_law_no_roll" cX ["below"] f17 fd17) (pN:bQ P w K mg base CX0 5 f17 fd17 ["below"] (Cd K [])):bQ P w K mg base CX0 8 f fd ["script"] (vI K):=by
  refine D.F.ok gF (fun vs H Q E h=>?_) (fun cdv A outer s H vs Q E hr h=>?_)
  · obtain ⟨_,_,rfl,_⟩:=h;rfl
  · obtain ⟨a,ns,rfl,hS,hlen,k⟩:=h
    have hu:=hr.units
    refine ⟨_,(@au _ _ _ _ _ (bw (i:=1) gF.nd rfl (Or.inl rfl) (aO ug (hr.mono (by decide)) rfl gM.m gM.F.kp gM.b .nil bU (@aD _ _ _ _ _ (aO dX (hr.mono (by decide)) rfl aL.m aL.F.kp aL.b .nil bU (@aD _ _ _ _ _ (pv 0) (@aD _ _ _ _ _ aq ao rfl) rfl)) ao rfl)))
      (@au _ _ _ _ _ (bw (i:=2) gF.nd rfl (Or.inl rfl) (jE lR (pv 0) (j5 aq) (j5 aq)))
      (@au _ _ _ _ _ (bw (i:=3) gF.nd rfl (Or.inl rfl) (@aY _ _ _ _ _ _ _ _ bN (aO dX (hr.mono (by decide)) rfl aL.m aL.F.kp aL.b .nil bU (@aD _ _ _ _ _ (pv 0) (@aD _ _ _ _ _ aq ao rfl) rfl)) (@aY _ _ _ _ _ _ _ _ iY (aP aM rfl B.len PySem.boot_len (@aD _ _ _ _ _ (pv 2) ao rfl)) aq)))
      (@au _ _ _ _ _ (bw (i:=4) gF.nd rfl (Or.inl rfl) (@bK _ _ _ _ ao))
      (@au _ _ _ _ _ (bw (i:=5) gF.nd rfl (Or.inl rfl) aq)
      (@au _ _ _ _ _ (bw (i:=6) gF.nd rfl (Or.inl rfl) (@bK _ _ _ _ ao))
      (@au _ _ _ _ _ (bw (i:=7) gF.nd rfl (Or.inl rfl) (@bK _ _ _ _ ao))
      (@au _ _ _ _ _ (gY (aO mO (hr.mono (by decide)) rfl cU.m cU.F.kp cU.b .nil bU (@aD _ _ _ _ _ (aO iM (hr.mono (by decide)) rfl bD.m bD.F.kp bD.b .nil bU (@aD _ _ _ _ _ (aO dX (hr.mono (by decide)) rfl aL.m aL.F.kp aL.b .nil bU (@aD _ _ _ _ _ (pv 0) (@aD _ _ _ _ _ aq ao rfl) rfl)) (@aD _ _ _ _ _ aq ao rfl) rfl)) (@aD _ _ _ _ _ (pv 1) (@aD _ _ _ _ _ (pv 6) (@aD _ _ _ _ _ (pv 7) ao rfl) rfl) rfl) rfl)) (ni rfl (bW (bI (i:=8) gF.nd rfl (Or.inl rfl)) (bW (bI (i:=9) gF.nd rfl (Or.inl rfl)) jj))))
      (@au _ _ _ _ _ (oJ PassesOwn.never rfl (lW rfl B.enumerate (@aD _ _ _ _ _ (pv 2) ao rfl)) (ni rfl (bW (bI (i:=10) gF.nd rfl (Or.inl rfl)) (bW (bI (i:=11) gF.nd rfl (Or.inl rfl)) jj)))
        (@au _ _ _ _ _ (bG (j8 PySem.F.plainAttrs_list PySem.F.slot_list_append PySem.F.type_list_append bV (pv 4) (@aD _ _ _ _ _ (aO u9 (hr.mono (by decide)) rfl iB.m iB.F.kp iB.b .nil bU (@aD _ _ _ _ _ (aO iM (hr.mono (by decide)) rfl bD.m bD.F.kp bD.b .nil bU (@aD _ _ _ _ _ (pv 11) (@aD _ _ _ _ _ aq ao rfl) rfl)) (@aD _ _ _ _ _ (pv 1) (@aD _ _ _ _ _ (pv 6) (@aD _ _ _ _ _ (pv 7) ao rfl) rfl) rfl) rfl)) ao rfl)))
        (@au _ _ _ _ _ (bw (i:=5) gF.nd rfl (Or.inl rfl) (@aY _ _ _ _ _ _ _ _ iY (pv 5) (cJ pD rfl B.int PyProof.Rows.boot_int (@aD _ _ _ _ _ (j7 (p7 hu) (@aH _ _ _ _ _ _ _ aJ (pv 4) (@jc _ _ _ _ _ _ fB aq) (fun _ _=>rfl)) (@bA _ _ _ _ _ (@aD _ _ _ _ _ aF ao rfl)) (aN _)) ao rfl))))
        (@au _ _ _ _ _ (bG (aO uX (hr.mono (by decide)) rfl iu.m iu.F.kp iu.b .nil bU (@aD _ _ _ _ _ (@aH _ _ _ _ _ _ _ aJ (pv 4) (@jc _ _ _ _ _ _ fB aq) (fun _ _=>rfl)) (@aD _ _ _ _ _ (pv 5) (@aD _ _ _ _ _ (pv 6) (@aD _ _ _ _ _ (pv 7) ao rfl) rfl) rfl) rfl)))
        (@aA _ _ _ (@bT _ _ _ _ _ _ _ _ (aK dY (@aY _ _ _ _ _ _ _ _ iY (pv 10) aq) (pv 3) (aN _))
          (@aA _ _ _ (gY (aO mO (hr.mono (by decide)) rfl cU.m cU.F.kp cU.b .nil bU (@aD _ _ _ _ _ (aO iM (hr.mono (by decide)) rfl bD.m bD.F.kp bD.b .nil bU (@aD _ _ _ _ _ (aO dX (hr.mono (by decide)) rfl aL.m aL.F.kp aL.b .nil bU (@aD _ _ _ _ _ (pv 0) (@aD _ _ _ _ _ aq ao rfl) rfl)) (@aD _ _ _ _ _ aq ao rfl) rfl)) (@aD _ _ _ _ _ (pv 1) (@aD _ _ _ _ _ (pv 6) (@aD _ _ _ _ _ (pv 7) ao rfl) rfl) rfl) rfl)) (ni rfl (bW (bI (i:=8) gF.nd rfl (Or.inl rfl)) (bW (bI (i:=9) gF.nd rfl (Or.inl rfl)) jj)))))
          aV))))))
      (@au _ _ _ _ _ (bw (i:=12) gF.nd rfl (Or.inl rfl) (@aY _ _ _ _ _ _ _ _ oM (@aY _ _ _ _ _ _ _ _ oM (jE lR (pv 4) lV (j5 (pv 3))) (@bK _ _ _ _ (@aD _ _ _ _ _ (pv 8) ao rfl))) (jE lR (pv 4) (j5 (pv 3)) lV)))
      (@au _ _ _ _ _ (bw (i:=13) gF.nd rfl (Or.inl rfl) (cJ dD rfl B.list PyProof.Rows.boot_list (@aD _ _ _ _ _ (pv 12) ao rfl)))
      (@au _ _ _ _ _ (bw (i:=14) gF.nd rfl (Or.inl rfl) (cJ dD rfl B.list PyProof.Rows.boot_list (@aD _ _ _ _ _ (pv 1) ao rfl)))
      (@au _ _ _ _ _ (@bT _ _ _ _ _ _ _ _ (PW.pt (pw_or (aK (nq hu) (aO gq (hr.mono (by decide)) rfl bh.m bh.F.kp bh.b .nil bU (@aD _ _ _ _ _ (pv 14) (@aD _ _ _ _ _ (pv 12) ao rfl) rfl)) (@bK _ _ _ _ (@aD _ _ _ _ _ (pv 9) ao rfl)) (aN _)) (pw_or (aK (nq hu) (pv 12) (pv 13) (aN _)) (pw_or1 (aK (yJ hu) (pv 14) (pv 1) (aN _))))))
        (@aA _ _ _ (@bf _ _ _ _ pJ))
        aV)
      (@au _ _ _ _ _ (bw (i:=15) gF.nd rfl (Or.inl rfl) (aO jW (hr.mono (by decide)) rfl cj.m cj.F.kp cj.b .nil M4 (@aD _ _ _ _ _ (pv 14) (@aD _ _ _ _ _ (pv 4) ao rfl) rfl)))
      (@au _ _ _ _ _ (@bT _ _ _ _ _ _ _ _ (PW.pt (pw_or (aK sW (jF (pv 15) R_Roll.c iQ.m uh (hr.mono (by decide)) iQ.b .nil bU) (pv 5) (aN _)) (pw_or (aK (nq hu) (jF (pv 15) R_Roll.c eV.m mz (hr.mono (by decide)) eV.b .nil bU) (pv 6) (aN _)) (pw_or (aK (nq hu) (jF (pv 15) R_Roll.c gw.m pO (hr.mono (by decide)) gw.b .nil bU) (pv 7) (aN _)) (pw_or1 (aK (nq hu) (jF (pv 15) R_Roll.c iR.m uq (hr.mono (by decide)) iR.b .nil bU) (pv 4) (aN _)))))))
        (@aA _ _ _ (@bf _ _ _ _ pJ))
        aV)
      (@au _ _ _ _ _ (@bT _ _ _ _ _ _ _ _ (aK (nq hu) (aO gq (hr.mono (by decide)) rfl bh.m bh.F.kp bh.b .nil bU (@aD _ _ _ _ _ (pv 14) (@aD _ _ _ _ _ (pv 12) ao rfl) rfl)) (@bK _ _ _ _ (@aD _ _ _ _ _ (pv 9) ao rfl)) (aN _))
        (@aA _ _ _ (@bf _ _ _ _ pJ))
        aV)
      (iI (@bT _ _ _ _ _ _ _ _ (PW.pt (pw_and (aK dY (@aY _ _ _ _ _ _ _ _ bN (aO dX (hr.mono (by decide)) rfl aL.m aL.F.kp aL.b .nil bU (@aD _ _ _ _ _ (pv 0) (@aD _ _ _ _ _ aq ao rfl) rfl)) aq) aq (aN _)) (pw_and1 (jP (kW (aO uY (hr.mono (by decide)) rfl iw.m iw.F.kp iw.b .nil bU (@aD _ _ _ _ _ (pv 1) (@aD _ _ _ _ _ (aO dX (hr.mono (by decide)) rfl aL.m aL.F.kp aL.b .nil bU (@aD _ _ _ _ _ (pv 0) (@aD _ _ _ _ _ aq ao rfl) rfl)) ao rfl) rfl)))))))
        (@aA _ _ _ (@bf _ _ _ _ pJ))
        aV)
      (@au _ _ _ _ _ (bw (i:=16) gF.nd rfl (Or.inl rfl) (aO rF (hr.mono (by decide)) rfl gb.m gb.F.kp gb.b .nil bU (@aD _ _ _ _ _ (pv 1) (@aD _ _ _ _ _ (aO dX (hr.mono (by decide)) rfl aL.m aL.F.kp aL.b .nil bU (@aD _ _ _ _ _ (pv 0) (@aD _ _ _ _ _ aq ao rfl) rfl)) ao rfl) rfl)))
      (@au _ _ _ _ _ (@bT _ _ _ _ _ _ _ _ (aK (nq hu) (aO pN (hr.mono (by decide)) rfl fu.m fu.F.kp fu.b .nil bU (@aD _ _ _ _ _ (cJ dD rfl B.list PyProof.Rows.boot_list (@aD _ _ _ _ _ (pv 16) ao rfl)) ao rfl)) (@bK _ _ _ _ (@aD _ _ _ _ _ aF ao rfl)) (aN _))
        (@aA _ _ _ (@bf _ _ _ _ pJ))
        aV)
      (@aA _ _ _ (@bf _ _ _ _ (j7 (p7 hu) (aO gq (hr.mono (by decide)) rfl bh.m bh.F.kp bh.b .nil bU (@aD _ _ _ _ _ (cJ dD rfl B.list PyProof.Rows.boot_list (@aD _ _ _ _ _ (pv 16) ao rfl)) (@aD _ _ _ _ _ (pv 4) ao rfl) rfl)) (@bK _ _ _ _ (@aD _ _ _ _ _ aF ao rfl)) (aN _))))))))))))))))))))))),?_⟩
    have O:=Ow.Ua H
    refine ⟨_,rfl,a,ns,0,rfl,hS,_,rfl,O.same.t1,O.zY fun lv H1 rs O e=>?_⟩
    obtain ⟨r,rfl,hR,r1,r12⟩:=e
    have hIR:=sG hR r1 (by omega)
    have hml:(((r.map V.int).length:Nat):Int)=(r.length:Int):=by rw [List.length_map]
    refine ⟨_,rfl,3,rfl,33,rfl,a,_,rfl,O.same.seq hS,fun lq hlq=>?_⟩
    walk_at "nw"
    rw [show pH (ns.map V.int) (some 3) (some 33)=((ns.drop 3).take 30).map V.int from Te ns 3 33] at O
    have hql:((ns.drop 3).take 30).length≤30:=by rw [List.length_take];omega
    generalize (ns.drop 3).take 30=qs at O hql
    have hqm:(((qs.map V.int).length:Nat):Int)=(qs.length:Int):=by rw [List.length_map]
    have b0:=jM (ns.getD 1 0) (qs.length + 1) (by omega)
    refine ⟨_,rfl,a,ns,1,rfl,O.same.seq hS,_,rfl,lq,_,rfl,.inl (O.sq 0),_,_,rfl,rfl,_,_,rfl,rfl,(by rw [hqm];omega),?_⟩
    dsimp only
    rw [hqm,show (qs.length:Int) + 1=((qs.length + 1:Nat):Int) by omega]
    generalize hsp:ns.getD 1 0 % ((qs.length + 1:Nat):Int)=spt at b0
    obtain ⟨spot,rfl⟩:=Int.eq_ofNat_of_zero_le b0.1
    refine ⟨szl,fun ld hld=>?_⟩
    walk_at "nw"
    refine ⟨szl,fun ll hll=>?_⟩
    walk_at "nw"
    refine ⟨szl,fun ln hln=>?_⟩
    walk_at "nw"
    have hdn:∀ (z:Int) (n:Nat),∀ x∈dvs z n,0≤x:=fun z n x hx=>by
      obtain ⟨j,hj⟩:=List.getElem?_of_mem hx
      have hj8:=(List.getElem?_eq_some_iff.mp hj).1
      rw [mY] at hj8
      rw [v7 hj8] at hj
      rw [← Option.some.inj hj];exact VR _ _
    refine ⟨_,rfl,a,ns,2,rfl,O.same.seq hS,_,4,rfl,by decide,O.same.t1,O.zY fun lx H2 xs O e=>?_⟩
    subst e
    refine ⟨_,rfl,_,rfl,_,rfl,lx,lv,ll,ln,dvs (ns.getD 2 0) 4,r,[],RS.new,0,rfl,O.sq 0,mY _ _,hdn _ _,O.sq 5,O.sq 2,.nil,O.sq 1,zT hR r1 (by omega),by decide,O.same.t1,fun p tf af df kf H3 OD hok her=>?_⟩
    have O:=O.join OD
    clear OD
    refine ⟨p,_,rfl,O.sqT 0,rfl,_,_,rfl,_,_,rfl,rfl,?_⟩
    obtain ⟨Hb,O,sb,dF⟩:=zG (K:=K) (show Ow [] H H3 (dL tf af df++_) from O.tail)
    have O:=O.tail
    refine ⟨_,rfl,lq,_,rfl,O.sq 3,?_⟩
    refine rB (K:=K) (xs:=qs.map V.int) (fun i σ H'=>Iv (∃ (Hb:Hp) (S:RS) (us vt:List V) (tf:Addr) (df:jL) (kf:EK) (v10 v11:Option V),σ=[some (.ref a),some (.ref lv),some (.ref lq),some (.int (spot:Int)),some (.ref ld),some (.int S.day),some (.ref ll),some (.ref ln),some (.ref tf),some (.str (mR kf)),v10,v11,none,none,none,none,none]∧aR [] H Hb ∧
      Ow [] Hb H' [(ln,.lst (S.ns.map V.str)),(ll,.lst us),(ld,.lst vt),(lq,.lst (qs.map V.int)),(lv,.lst (r.map V.int))]∧cR K Hb us (S.ls.map pK)∧cR K Hb vt (S.ds.map jy)∧Den K Hb (.ref tf) (jy df)∧At9 r S i∧S.ds.length=i∧Frg r S df kf spot i))
      ⟨trivial,Hb,RS.new,[],[],tf,df,kf,none,none,rfl,sb,O,.nil,.nil,dF,zT hR r1 (by omega),rfl,hok,RS.new,0,by decide,rfl,her,fun z=>by omega⟩ (fun i σ H' _ ⟨_,_,_,_,_,_,_,_,_,_,_,_,O,_⟩=>O.sq 3) ?_ ?_
    · clear O dF hok her sb
      rintro i y T0 σ H6 hy ⟨-,Hb,S,us,vt,tf,df,kf,v10,v11,rfl,sb,O,d0,d1,dF,hA,hSi,hF⟩ hT0
      obtain ⟨z,hz,rfl⟩:=ints_get hy
      have hi:=(List.getElem?_eq_some_iff.mp hz).1
      have hvt:vt.length=S.ds.length:=by rw [d1.length,List.length_map]
      walk_at "nw"
      refine ⟨T0,_,rfl,O.sqT 0,rfl,_,_,rfl,_,_,rfl,rfl,?_⟩
      have O:=O.tail
      refine ⟨_,rfl,.inl ⟨rfl,_,O.sq 2⟩,_,rfl,z,6,rfl,by decide,O.same.t1,O.zY fun lx H8 xs O e=>?_⟩
      subst e
      refine ⟨_,rfl,_,rfl,_,rfl,lx,lv,ll,ln,dvs z 6,r,us,S,i,rfl,O.sq 0,mY _ _,hdn _ _,O.sq 5,O.sq 2,d0.mo O.same,O.sq 1,hA,by omega,O.same.t1,fun t ad d S' H9 OD hdo hst=>?_⟩
      obtain ⟨Hc,O,sc,dd⟩:=zG (K:=K) (O.join OD)
      clear OD
      have O:=O.tail
      have d0:=d0.mo sc
      have d1:=d1.mo sc
      have dF:=dF.mo sc
      have sb:=sb.trans sc
      clear sc
      refine ⟨ld,_,_,rfl,rfl,O.get 2,aX (by omega),?_⟩
      generalize hE:upd _ _ _=Hn
      have O:=Ow.nU O 2 rfl hE rfl
      clear hE
      have O:Ow [] Hc Hn [(ln,.lst (S.ns.map V.str)),(ll,.lst us),(ld,.lst (vt++[.ref t])),(lq,.lst (qs.map V.int)),(lv,.lst (r.map V.int))]:=O
      refine ⟨_,rfl,_,rfl,1,rfl,ld,_,_,_,rfl,rfl,O.sq 2,Le _ _,szl,fun t2 ht2=>?_⟩
      walk_at "nw"
      refine ⟨_,_,dd.mo O.same,Den.tuple (O.sqT 0) (.cons (.str _) .nil),(Sh.deed hdo).ok (by decide),(Sh.deed (d:=.turn) trivial).ok (by decide),?_⟩
      rw [if_neg Bool.false_ne_true]
      have O:=O.tail
      refine .inr ⟨_,rfl,_,_,rfl,rfl,?_⟩
      dsimp only
      have eday:S.day + (if PyData.eqv (jy d) (.tuple [.str (Str.ofString "turn")])=true then 1 else 0)=S'.day:=by
        rcases Bs d with ⟨e,e2⟩ | ⟨e,e2⟩ <;> rw [e]
        · rcases mD hst with ⟨_,z⟩ | ⟨z,_⟩
          · rw [if_pos rfl,z]
          · exact absurd e2 z
        · rcases mD hst with ⟨z,_⟩ | ⟨_,z⟩
          · exact absurd z e2
          · rw [if_neg Bool.false_ne_true,z,Int.add_zero]
      rw [eday]
      have hdy:S.day=S'.day∨d=.turn:=by
        rcases mD hst with ⟨z,_⟩ | ⟨_,z⟩
        · exact .inr z
        · exact .inl z.symm
      refine ⟨_,rfl,1,rfl,ld,_,_,_,rfl,rfl,O.sq 2,Le _ _,_,rfl,_,rfl,_,rfl,r,t,ll,ln,S'.day,Hc,_,us,S,S',d,rfl,O,d0,dd,hst,hdy,hA.rp.nn,hA.rp.l60,fun Hd H10 us' sd O d0=>?_⟩
      have d1:=d1.mo sd
      have dF:=dF.mo sd
      have dd:=dd.mo sd
      have sb:=sb.trans sd
      clear sd
      have hA':=hA.step (by omega) hst hdo
      have eds:=qu hst
      have d1:cR K Hd (vt++[V.ref t]) (S'.ds.map jy):=by rw [eds,List.map_append];exact d1.append (.cons dd .nil)
      have hSi':S'.ds.length=i + 1:=by rw [eds,List.length_append,hSi];rfl
      refine ⟨_,rfl,_,_,rfl,rfl,_,rfl,rfl,_,rfl,ifI (fun he=>?_) (fun he=>?_)⟩
      · have he:(i:Int) + 1=(spot:Int):=he
        refine ⟨_,rfl,a,ns,2,rfl,(sb.trans O.same).seq hS,_,4,rfl,by decide,O.same.t1,O.zY fun lx H2 xs O e=>?_⟩
        subst e
        refine ⟨_,rfl,_,rfl,_,rfl,lx,lv,ll,ln,dvs (ns.getD 2 0) 4,r,us',S',i + 1,rfl,O.sq 0,mY _ _,hdn _ _,O.sq 5,O.sq 2,d0.mo O.same,O.sq 1,hA',by omega,O.same.t1,fun p tf af df kf H3 OD hok her=>?_⟩
        have O:=O.join OD
        clear OD
        refine ⟨p,_,rfl,O.sqT 0,rfl,_,_,rfl,_,_,rfl,rfl,?_⟩
        obtain ⟨He,O,se,dF⟩:=zG (K:=K) (show Ow [] Hd H3 (dL tf af df++_) from O.tail)
        have O:=O.tail
        exact ⟨trivial,He,S',us',_,tf,df,kf,_,_,rfl,sb.trans se,O,d0.mo se,d1.mo se,dF,hA',hSi',hok,S',i + 1,by omega,by rw [List.take_of_length_le (by omega)];exact hA'.re,her,fun _=>by omega⟩
      · have he:¬ (i:Int) + 1=(spot:Int):=he
        obtain ⟨hok,Sf,m,hm,hre,her,hms⟩:=hF
        exact ⟨trivial,Hd,S',us',_,tf,df,kf,_,_,rfl,sb,O,d0,d1,dF,hA',hSi',hok,Sf,m,by omega,by rw [eds,List.take_append_of_le_length hm];exact hre,her,fun z=>hms (by omega)⟩
    clear O dF hok her sb
    rintro σ H6 ⟨-,Hb,S,us,vt,tf,df,kf,v10,v11,rfl,sb,O,d0,d1,dF,hA,hSi,hok,Sf,m,hm,hre,her,hms⟩
    rw [List.length_map] at hA hSi hms
    have hms:m=spot:=hms (by omega)
    subst hms
    have hvt:vt.length=S.ds.length:=by rw [d1.length,List.length_map]
    refine ⟨_,rfl,_,rfl,_,rfl,ld,_,rfl,O.sq 2,fun l1 h1=>?_⟩
    walk_at "nw"
    rw [tO] at O
    refine ⟨_,rfl,szl,fun l2 h2=>?_⟩
    walk_at "nw"
    refine ⟨l1,l2,_,_,rfl,rfl,O.get 1,O.get 0,gP (by rw [List.length_take];simp only [List.length_cons,List.length_nil];omega),fun l3 h3=>?_⟩
    walk_at "nw"
    refine ⟨_,rfl,_,rfl,_,rfl,ld,_,rfl,O.sq 5,fun l4 h4=>?_⟩
    walk_at "nw"
    rw [tQ] at O
    refine ⟨l3,l4,_,_,rfl,rfl,O.get 1,O.get 0,gP (by rw [List.length_append,List.length_take,List.length_drop];simp only [List.length_cons,List.length_nil];omega),fun lh hlh=>?_⟩
    walk_at "nw"
    have O:=O.two.two.two.two
    have dh:cR K Hb ((vt.take m++[V.ref tf])++vt.drop m) (((S.ds.take m++[df])++S.ds.drop m).map jy):=by
      rw [List.map_append,List.map_append,List.map_take,List.map_drop]
      exact (cR.append (cR.append (cR.take' m d1) (.cons dF .nil)) (cR.drop' m d1))
    have hokh:∀ d∈(S.ds.take m++[df])++S.ds.drop m,jo d:=fun d hd=>by
      rcases List.mem_append.mp hd with h | h
      · rcases List.mem_append.mp h with h | h
        · exact hA.ok d (List.mem_of_mem_take h)
        · rw [List.mem_singleton.mp h];exact hok
      · exact hA.ok d (List.mem_of_mem_drop h)
    have hhl:((S.ds.take m++[df])++S.ds.drop m).length≤1000:=by
      rw [List.length_append,List.length_append,List.length_take,List.length_drop];simp only [List.length_cons,List.length_nil];omega
    have hrh:replay r RS.new ((S.ds.take m++[df])++S.ds.drop m)=.error kf:=by
      rw [List.append_assoc];exact mV hre (wK her)
    generalize (vt.take m++[V.ref tf])++vt.drop m=hv at O dh
    generalize (S.ds.take m++[df])++S.ds.drop m=hds at dh hokh hhl hrh
    clear dF hok her hre hm
    refine ⟨_,rfl,lh,_,rfl,.inl (O.sq 0),fun lk hlk=>?_⟩
    walk_at "nw"
    refine ⟨_,rfl,lv,_,rfl,.inl (O.sq 6),fun lr hlr=>?_⟩
    walk_at "nw"
    refine ⟨_,rfl,_,rfl,lr,lh,Hb,_,r,hv,hds,kf,rfl,O,O.sq 0,by omega,(fun Hb H' X s O=>SqL.of (O.at_ _ (List.mem_append_right _ (.tail _ (.tail _ (.head _)))))),dh,hokh,hhl,(fun _=>hR),.inl ⟨hIR,hrh⟩,fun l5 Hc H7 sc O=>?_⟩
    have d0:=d0.mo sc
    have d1:=d1.mo sc
    have dh:=dh.mo sc
    have sb:=sb.trans sc
    clear sc
    refine ⟨_,rfl,szl,fun l6 h6=>?_⟩
    walk_at "nw"
    refine ⟨_,_,Den.list (O.sq 1) (.cons (.str _) .nil),Den.list (O.sq 0) (.cons (.str _) .nil),(iT kf).ok (by decide),(iT kf).ok (by decide),_,rfl,?_⟩
    rw [if_pos rfl,iC (iT kf)]
    refine mW ?_
    have O:=O.tail.tail
    refine ⟨_,rfl,_,rfl,_,_,Den.list (O.sq 2) (dh.mo O.same),Den.list (O.sq 1) (dh.mo O.same),(Sh.Bu hokh).ok (by decide),(Sh.Bu hokh).ok (by decide),_,rfl,?_⟩
    rw [if_pos rfl,iC (Sh.Bu hokh)]
    refine mW ?_
    refine ⟨_,rfl,_,rfl,lr,lv,r,r,rfl,rfl,O.sq 0,O.sq 7,_,rfl,?_⟩
    rw [if_pos rfl,decide_eq_true rfl]
    refine mW ?_
    refine ⟨_,rfl,_,rfl,lr,ld,Hc,_,r,vt,S.ds,rfl,O,O.sq 0,by omega,(fun Hb H' X s O=>SqL.of (O.at_ _ (List.mem_append_right _ (.tail _ (.tail _ (.tail _ (.tail _ (.tail _ (.head _))))))))),d1,hA.ok,by omega,(fun _=>hR),fun _ S' e A2 Hd H9 sd ra2=>?_,(fun _ k e=>by rw [hA.re] at e;cases e),fun z=>by rw [hIR] at z;cases z⟩
    rw [hA.re] at e
    cases e
    clear O
    obtain ⟨us2,vs2,O,e0,e1⟩:=ra2
    have d0:=d0.mo sd
    have d1:=d1.mo sd
    have dh:=dh.mo sd
    have sb:=sb.trans sd
    clear sd
    refine ⟨_,rfl,A2.p,A2.dx,_,rfl,O.get 0,rfl,A2,[],S.day,rfl,O.get 0,_,rfl,rfl,_,rfl,ifN (ifI (fun _=>?_) (fun z=>absurd rfl z))⟩
    refine ⟨_,rfl,A2.p,A2.dx,_,rfl,O.get 0,rfl,A2.p,A2.dx,A2.ll,_,_,rfl,O.get 0,rfl,O.sq 3,fun l7 h7=>?_⟩
    walk_at "nw"
    refine ⟨_,rfl,_,_,Den.list (O.sq 0) (e0.mo O.same),Den.list (O.sq 11) (d0.mo O.same),(Sh.roll 0 S.ls).ok (by decide),(Sh.roll 0 S.ls).ok (by decide),_,rfl,?_⟩
    rw [if_pos rfl,show PyData.eqv (.list (S.ls.map pK)) (.list (S.ls.map pK))=true from iC (Sh.roll 0 S.ls)]
    refine mW ?_
    have O:=O.tail
    have shn:=Sh.strs 0 (fun x hx=>(hA.na x hx).2)
    have shd:=Sh.Bu hA.ok
    refine ⟨_,rfl,A2.p,A2.dx,_,rfl,O.get 0,rfl,A2.p,A2.dx,A2.ln,_,_,rfl,O.get 0,rfl,O.sq 4,fun l8 h8=>?_⟩
    walk_at "nw"
    refine ⟨_,rfl,_,_,Den.list (O.sq 0) (cR.strs S.ns),Den.list (O.sq 10) (cR.strs S.ns),shn.ok (by decide),shn.ok (by decide),_,rfl,?_⟩
    rw [if_pos rfl,iC shn]
    refine mW ?_
    have O:=O.tail
    refine ⟨_,rfl,A2.p,A2.dx,_,rfl,O.get 0,rfl,A2.p,A2.dx,A2.lo,_,_,rfl,O.get 0,rfl,O.sq 5,fun l9 h9=>?_⟩
    walk_at "nw"
    refine ⟨_,rfl,_,_,Den.list (O.sq 0) (e1.mo O.same),Den.list (O.sq 12) (d1.mo O.same),shd.ok (by decide),shd.ok (by decide),_,rfl,?_⟩
    rw [if_pos rfl,iC shd]
    refine mW ?_
    have O:Ow [] Hd _ [(lr,.lst (r.map V.int)),(lk,.lst hv),(lh,.lst hv),(ln,.lst (S.ns.map V.str)),(ll,.lst us),(ld,.lst vt),(lq,.lst (qs.map V.int)),(lv,.lst (r.map V.int))]:=O.sub (List.sublist_append_right [_,_,_,_,_,_,_] _)
    refine ⟨_,rfl,_,rfl,lr,lh,Hd,_,r,hv,hds,kf,rfl,O,O.sq 0,by omega,(fun Hb H' X s O=>SqL.of (O.at_ _ (List.mem_append_right _ (.tail _ (.tail _ (.head _)))))),dh,hokh,hhl,(fun _=>hR),.inl ⟨hIR,hrh⟩,fun l10 He H10 se O=>?_⟩
    have d1:=d1.mo se
    have sb:=sb.trans se
    clear se dh d0 e0 e1
    refine ⟨_,rfl,szl,fun l6 h6=>?_⟩
    walk_at "nw"
    refine ⟨_,_,Den.list (O.sq 1) (.cons (.str _) .nil),Den.list (O.sq 0) (.cons (.str _) .nil),(iT kf).ok (by decide),(iT kf).ok (by decide),_,rfl,?_⟩
    rw [if_pos rfl,iC (iT kf)]
    refine mW ?_
    have O:Ow [] He _ [(ld,.lst vt),(lv,.lst (r.map V.int))]:=O.sub (.cons _ (.cons _ (.cons _ (.cons _ (.cons _ (.cons _ (.cons _ (.cons₂ _ (.cons _ (.cons₂ _ .slnil))))))))))
    refine ⟨fun σ H'=>Iv (σ=[some (.ref a),some (.ref lv),some (.ref lq),some (.int (m:Int)),some (.ref ld),some (.int S.day),some (.ref ll),some (.ref ln),some (.ref tf),some (.str (mR kf)),v10,v11,some (.ref lh),some (.ref lk),some (.ref lr),some (.ref A2.p),none]∧Ow [] He H' [(ld,.lst vt),(lv,.lst (r.map V.int))]),?_,?_⟩
    · refine ⟨_,rfl,a,ns,1,rfl,(sb.trans O.same).seq hS,_,_,rfl,rfl,(by show (0:Int)<8;decide),rfl,_,rfl,ifI (fun _=>?_) (fun _=>⟨trivial,rfl,O⟩)⟩
      refine ⟨_,rfl,_,rfl,a,ns,2,rfl,(sb.trans O.same).seq hS,lv,r,_,rfl,O.sq 1,hR,r1,by omega,O.same.t1,fun H11 s11=>?_⟩
      have O:=O.lZ s11
      exact ⟨_,rfl,mW ⟨trivial,rfl,O⟩⟩
    clear O
    rintro σ H11 ⟨-,rfl,O⟩
    refine ⟨_,rfl,_,rfl,a,ns,1,rfl,(sb.trans O.same).seq hS,lv,r,_,rfl,O.sq 1,r1,by omega,O.same.t1,O.zY fun lp H12 xs O e=>?_⟩
    obtain ⟨q,rfl,q40,hq⟩:=e
    refine ⟨_,rfl,lp,_,rfl,.inl (O.sq 0),fun ls hls=>?_⟩
    walk_at "nw"
    refine ⟨ls,He,_,q,rfl,O,O.sq 0,by omega,hq,fun l11 H13 O=>?_⟩
    refine ⟨szl,fun l12 h12=>?_⟩
    walk_at "nw"
    refine ⟨_,_,Den.list (O.sq 1) (.cons (.str _) .nil),Den.list (O.sq 0) (.cons (.str _) .nil),(iT .ig).ok (by decide),(iT .ig).ok (by decide),_,rfl,?_⟩
    rw [if_pos rfl,iC (iT .ig)]
    refine mW ?_
    have O:Ow [] He _ [(lp,.lst (q.map V.int)),(ld,.lst vt),(lv,.lst (r.map V.int))]:=O.tail.tail.tail
    refine ⟨_,rfl,lp,_,rfl,.inl (O.sq 0),fun ls2 hls2=>?_⟩
    walk_at "nw"
    refine ⟨_,rfl,ls2,ld,He,_,q,vt,S.ds,.ig,rfl,O,O.sq 0,by omega,(fun Hb H' X s O=>SqL.of (O.at_ _ (List.mem_append_right _ (.tail _ (.tail _ (.head _)))))),d1,hA.ok,by omega,(fun z=>by rw [hq] at z;cases z),.inr ⟨hq,rfl⟩,fun l13 Hf H14 sf O=>?_⟩
    refine ⟨szl,fun l14 h14=>?_⟩
    walk_at "nw"
    refine ⟨_,_,Den.list (O.sq 1) (.cons (.str _) .nil),Den.list (O.sq 0) (.cons (.str _) .nil),(iT .ig).ok (by decide),(iT .ig).ok (by decide),?_⟩
    rw [if_neg Bool.false_ne_true,iC (iT .ig)]
    exact k _
end
theorem iZ {K:PySem.W.Frag} {x qual:Str} {st:Stmt} {f:Addr} {fd:FuncData} {n0:Str} (F:Fun K x qual st f fd) (h:∀ (kV doc pm:Value) (an:Option Addr) (cdv ct u0:Value),bindArgs (PySem.W.fnOf x qual (aC st) (aB st) (ak st) .none kV doc pm an cdv ct) ⟨[u0],[]⟩=pure (([n0]:List Str).zip [u0])):Binds K fd [n0] [] :=
  F.binds (ps:=[n0]) fun kV doc pm an cdv ct us hl=>match us,hl with | [u0],_=>h kV doc pm an cdv ct u0
theorem gJ {K:PySem.W.Frag} {x qual:Str} {st:Stmt} {f:Addr} {fd:FuncData} {n0 n1:Str} (F:Fun K x qual st f fd) (h:∀ (kV doc pm:Value) (an:Option Addr) (cdv ct u0 u1:Value),bindArgs (PySem.W.fnOf x qual (aC st) (aB st) (ak st) .none kV doc pm an cdv ct) ⟨[u0,u1],[]⟩=pure (([n0,n1]:List Str).zip [u0,u1])):Binds K fd [n0,n1] [] :=
  F.binds (ps:=[n0,n1]) fun kV doc pm an cdv ct us hl=>match us,hl with | [u0,u1],_=>h kV doc pm an cdv ct u0 u1
theorem wk {K:PySem.W.Frag} {x qual:Str} {st:Stmt} {f:Addr} {fd:FuncData} {n0 n1 n2:Str} (F:Fun K x qual st f fd) (h:∀ (kV doc pm:Value) (an:Option Addr) (cdv ct u0 u1 u2:Value),bindArgs (PySem.W.fnOf x qual (aC st) (aB st) (ak st) .none kV doc pm an cdv ct) ⟨[u0,u1,u2],[]⟩=pure (([n0,n1,n2]:List Str).zip [u0,u1,u2])):Binds K fd [n0,n1,n2] [] :=
  F.binds (ps:=[n0,n1,n2]) fun kV doc pm an cdv ct us hl=>match us,hl with | [u0,u1,u2],_=>h kV doc pm an cdv ct u0 u1 u2
theorem tY {K:PySem.W.Frag} {x qual:Str} {st:Stmt} {f:Addr} {fd:FuncData} {n0 n1 n2 n3:Str} (F:Fun K x qual st f fd) (h:∀ (kV doc pm:Value) (an:Option Addr) (cdv ct u0 u1 u2 u3:Value),bindArgs (PySem.W.fnOf x qual (aC st) (aB st) (ak st) .none kV doc pm an cdv ct) ⟨[u0,u1,u2,u3],[]⟩=pure (([n0,n1,n2,n3]:List Str).zip [u0,u1,u2,u3])):Binds K fd [n0,n1,n2,n3] [] :=
  F.binds (ps:=[n0,n1,n2,n3]) fun kV doc pm an cdv ct us hl=>match us,hl with | [u0,u1,u2,u3],_=>h kV doc pm an cdv ct u0 u1 u2 u3
theorem Tg {K:PySem.W.Frag} {x qual:Str} {st:Stmt} {f:Addr} {fd:FuncData} {n0 n1 n2 n3 n4:Str} (F:Fun K x qual st f fd) (h:∀ (kV doc pm:Value) (an:Option Addr) (cdv ct u0 u1 u2 u3 u4:Value),bindArgs (PySem.W.fnOf x qual (aC st) (aB st) (ak st) .none kV doc pm an cdv ct) ⟨[u0,u1,u2,u3,u4],[]⟩=pure (([n0,n1,n2,n3,n4]:List Str).zip [u0,u1,u2,u3,u4])):Binds K fd [n0,n1,n2,n3,n4] [] :=
  F.binds (ps:=[n0,n1,n2,n3,n4]) fun kV doc pm an cdv ct us hl=>match us,hl with | [u0,u1,u2,u3,u4],_=>h kV doc pm an cdv ct u0 u1 u2 u3 u4
theorem all_mk {l:PySem.W.OpenLaw} {w:World} {K:PySem.W.Frag} {h:Heap} {mg:Str→Option Value} {fa f0 f1 f2 f3 f4 f5 f6 f7 f8 f9 f10 f11 f12 f13 f14 f15 f16 f17 f18 f19 f20 f21 f22 f23 f24 f25 f26 f27 f28 cR_Roll fm_Roll___init__ fm_Roll_today fm_Roll_roll fm_Roll_holders fm_Roll_deeds fm_Roll_turn fm_Roll_file dT_Roll_file fm_Roll_sell fm_Roll_part fm_Roll_drop fm_Roll_move fm_Roll_look_move fm_Roll_lapse fm_Roll_enter fm_Roll_is_alone fm_Roll_look_at_number fm_Roll_look_at_holder fm_Roll_look_at_room cX_SluiceError cX_NoNumber cX_NotYours cX_NoHolder cX_NoLicence cX_TooMuch cX_NotAlone cX_Full cX_NoRiver:Addr} (X:K.In h) (G:h.Ns mainGlobals mg) (hfa:mg "law"=some (.ref fa))
    {odM0 anM0 odM1 anM1 odM2 anM2 odM3 anM3 odM4 anM4 odM5 anM5 odM6 anM6 odM7 anM7 odM8 anM8 odM9 anM9 odM10 anM10 odM11 anM11 odM12 anM12 odM13 anM13 odM14 anM14 odM15 anM15 odM16 anM16 odM17 anM17:Option Addr} {slM0 slM1 slM2 slM3 slM4 slM5 slM6 slM7 slM8 slM9 slM10 slM11 slM12 slM13 slM14 slM15 slM16 slM17:Array (Option Value)} {ocM0 kVM0 dcM0 pmM0 cdM0 ctM0 ocM1 kVM1 dcM1 pmM1 cdM1 ctM1 ocM2 kVM2 dcM2 pmM2 cdM2 ctM2 ocM3 kVM3 dcM3 pmM3 cdM3 ctM3 ocM4 kVM4 dcM4 pmM4 cdM4 ctM4 ocM5 kVM5 dcM5 pmM5 cdM5 ctM5 ocM6 kVM6 dcM6 pmM6 cdM6 ctM6 ocM7 kVM7 dcM7 pmM7 cdM7 ctM7 ocM8 kVM8 dcM8 pmM8 cdM8 ctM8 ocM9 kVM9 dcM9 pmM9 cdM9 ctM9 ocM10 kVM10 dcM10 pmM10 cdM10 ctM10 ocM11 kVM11 dcM11 pmM11 cdM11 ctM11 ocM12 kVM12 dcM12 pmM12 cdM12 ctM12 ocM13 kVM13 dcM13 pmM13 cdM13 ctM13 ocM14 kVM14 dcM14 pmM14 cdM14 ctM14 ocM15 kVM15 dcM15 pmM15 cdM15 ctM15 ocM16 kVM16 dcM16 pmM16 cdM16 ctM16 ocM17 kVM17 dcM17 pmM17 cdM17 ctM17:Value} {oT_Roll_file:Obj}
    {od0 an0 od1 an1 od2 an2 od3 an3 od4 an4 od5 an5 od6 an6 od7 an7 od8 an8 od9 an9 od10 an10 od11 an11 od12 an12 od13 an13 od14 an14 od15 an15 od16 an16 od17 an17 od18 an18 od19 an19 od20 an20 od21 an21 od22 an22 od23 an23 od24 an24 od25 an25 od26 an26 od27 an27 od28 an28:Option Addr} {sl0 sl1 sl2 sl3 sl4 sl5 sl6 sl7 sl8 sl9 sl10 sl11 sl12 sl13 sl14 sl15 sl16 sl17 sl18 sl19 sl20 sl21 sl22 sl23 sl24 sl25 sl26 sl27 sl28:Array (Option Value)} {oc0 kV0 dc0 pm0 cd0 ct0 oc1 kV1 dc1 pm1 cd1 ct1 oc2 kV2 dc2 pm2 cd2 ct2 oc3 kV3 dc3 pm3 cd3 ct3 oc4 kV4 dc4 pm4 cd4 ct4 oc5 kV5 dc5 pm5 cd5 ct5 oc6 kV6 dc6 pm6 cd6 ct6 oc7 kV7 dc7 pm7 cd7 ct7 oc8 kV8 dc8 pm8 cd8 ct8 oc9 kV9 dc9 pm9 cd9 ct9 oc10 kV10 dc10 pm10 cd10 ct10 oc11 kV11 dc11 pm11 cd11 ct11 oc12 kV12 dc12 pm12 cd12 ct12 oc13 kV13 dc13 pm13 cd13 ct13 oc14 kV14 dc14 pm14 cd14 ct14 oc15 kV15 dc15 pm15 cd15 ct15 oc16 kV16 dc16 pm16 cd16 ct16 oc17 kV17 dc17 pm17 cd17 ct17 oc18 kV18 dc18 pm18 cd18 ct18 oc19 kV19 dc19 pm19 cd19 ct19 oc20 kV20 dc20 pm20 cd20 ct20 oc21 kV21 dc21 pm21 cd21 ct21 oc22 kV22 dc22 pm22 cd22 ct22 oc23 kV23 dc23 pm23 cd23 ct23 oc24 kV24 dc24 pm24 cd24 ct24 oc25 kV25 dc25 pm25 cd25 ct25 oc26 kV26 dc26 pm26 cd26 ct26 oc27 kV27 dc27 pm27 cd27 ct27 oc28 kV28 dc28 pm28 cd28 ct28:Value} {t0 t1 t2 t3 t4 t5 t6:Tok}
    (a0:PySem.W.nsIn K mainGlobals "is_water"=some (some (.ref f0))) (l0:K.lookup f0=some ⟨oc0,od0,.func (PySem.W.fnOf "is_water" "is_water" (aC eZ) (aB eZ) (ak eZ) .none kV0 dc0 pm0 an0 cd0 ct0),sl0⟩) (c0:PySem.W.codeIn K cd0 "is_water"=true) (k0:PySem.W.keepIn K (.ref f0)=true)
    (a1:PySem.W.nsIn K mainGlobals "is_name"=some (some (.ref f1))) (l1:K.lookup f1=some ⟨oc1,od1,.func (PySem.W.fnOf "is_name" "is_name" (aC gW) (aB gW) (ak gW) .none kV1 dc1 pm1 an1 cd1 ct1),sl1⟩) (c1:PySem.W.codeIn K cd1 "is_name"=true) (k1:PySem.W.keepIn K (.ref f1)=true)
    (a2:PySem.W.nsIn K mainGlobals "comes_to_mouth"=some (some (.ref f2))) (l2:K.lookup f2=some ⟨oc2,od2,.func (PySem.W.fnOf "comes_to_mouth" "comes_to_mouth" (aC cA) (aB cA) (ak cA) .none kV2 dc2 pm2 an2 cd2 ct2),sl2⟩) (c2:PySem.W.codeIn K cd2 "comes_to_mouth"=true) (k2:PySem.W.keepIn K (.ref f2)=true)
    (a3:PySem.W.nsIn K mainGlobals "is_river"=some (some (.ref f3))) (l3:K.lookup f3=some ⟨oc3,od3,.func (PySem.W.fnOf "is_river" "is_river" (aC fj) (aB fj) (ak fj) .none kV3 dc3 pm3 an3 cd3 ct3),sl3⟩) (c3:PySem.W.codeIn K cd3 "is_river"=true) (k3:PySem.W.keepIn K (.ref f3)=true)
    (a4:PySem.W.nsIn K mainGlobals "way_of"=some (some (.ref f4))) (l4:K.lookup f4=some ⟨oc4,od4,.func (PySem.W.fnOf "way_of" "way_of" (aC jD) (aB jD) (ak jD) .none kV4 dc4 pm4 an4 cd4 ct4),sl4⟩) (c4:PySem.W.codeIn K cd4 "way_of"=true) (k4:PySem.W.keepIn K (.ref f4)=true)
    (a5:PySem.W.nsIn K mainGlobals "is_licence"=some (some (.ref f5))) (l5:K.lookup f5=some ⟨oc5,od5,.func (PySem.W.fnOf "is_licence" "is_licence" (aC dM) (aB dM) (ak dM) .none kV5 dc5 pm5 an5 cd5 ct5),sl5⟩) (c5:PySem.W.codeIn K cd5 "is_licence"=true) (k5:PySem.W.keepIn K (.ref f5)=true)
    (a6:PySem.W.nsIn K mainGlobals "day_filed"=some (some (.ref f6))) (l6:K.lookup f6=some ⟨oc6,od6,.func (PySem.W.fnOf "day_filed" "day_filed" (aC fG) (aB fG) (ak fG) .none kV6 dc6 pm6 an6 cd6 ct6),sl6⟩) (c6:PySem.W.codeIn K cd6 "day_filed"=true) (k6:PySem.W.keepIn K (.ref f6)=true)
    (a7:PySem.W.nsIn K mainGlobals "most_of"=some (some (.ref f7))) (l7:K.lookup f7=some ⟨oc7,od7,.func (PySem.W.fnOf "most_of" "most_of" (aC fD) (aB fD) (ak fD) .none kV7 dc7 pm7 an7 cd7 ct7),sl7⟩) (c7:PySem.W.codeIn K cd7 "most_of"=true) (k7:PySem.W.keepIn K (.ref f7)=true)
    (a8:PySem.W.nsIn K mainGlobals "with_start"=some (some (.ref f8))) (l8:K.lookup f8=some ⟨oc8,od8,.func (PySem.W.fnOf "with_start" "with_start" (aC d8) (aB d8) (ak d8) .none kV8 dc8 pm8 an8 cd8 ct8),sl8⟩) (c8:PySem.W.codeIn K cd8 "with_start"=true) (k8:PySem.W.keepIn K (.ref f8)=true)
    (a9:PySem.W.nsIn K mainGlobals "with_most"=some (some (.ref f9))) (l9:K.lookup f9=some ⟨oc9,od9,.func (PySem.W.fnOf "with_most" "with_most" (aC dG) (aB dG) (ak dG) .none kV9 dc9 pm9 an9 cd9 ct9),sl9⟩) (c9:PySem.W.codeIn K cd9 "with_most"=true) (k9:PySem.W.keepIn K (.ref f9)=true)
    (a10:PySem.W.nsIn K mainGlobals "look_at_name"=some (some (.ref f10))) (l10:K.lookup f10=some ⟨oc10,od10,.func (PySem.W.fnOf "look_at_name" "look_at_name" (aC bY) (aB bY) (ak bY) .none kV10 dc10 pm10 an10 cd10 ct10),sl10⟩) (c10:PySem.W.codeIn K cd10 "look_at_name"=true) (k10:PySem.W.keepIn K (.ref f10)=true)
    (a11:PySem.W.nsIn K mainGlobals "do_anew"=some (some (.ref f11))) (l11:K.lookup f11=some ⟨oc11,od11,.func (PySem.W.fnOf "do_anew" "do_anew" (aC iH) (aB iH) (ak iH) .none kV11 dc11 pm11 an11 cd11 ct11),sl11⟩) (c11:PySem.W.codeIn K cd11 "do_anew"=true) (k11:PySem.W.keepIn K (.ref f11)=true)
    (a12:PySem.W.nsIn K mainGlobals "replayed"=some (some (.ref f12))) (l12:K.lookup f12=some ⟨oc12,od12,.func (PySem.W.fnOf "replayed" "replayed" (aC eY) (aB eY) (ak eY) .none kV12 dc12 pm12 an12 cd12 ct12),sl12⟩) (c12:PySem.W.codeIn K cd12 "replayed"=true) (k12:PySem.W.keepIn K (.ref f12)=true)
    (a13:PySem.W.nsIn K mainGlobals "_law_cell_at"=some (some (.ref f13))) (l13:K.lookup f13=some ⟨oc13,od13,.func (PySem.W.fnOf "_law_cell_at" "_law_cell_at" (aC dj) (aB dj) (ak dj) .none kV13 dc13 pm13 an13 cd13 ct13),sl13⟩) (c13:PySem.W.codeIn K cd13 "_law_cell_at"=true) (k13:PySem.W.keepIn K (.ref f13)=true)
    (a14:PySem.W.nsIn K mainGlobals "_law_draw"=some (some (.ref f14))) (l14:K.lookup f14=some ⟨oc14,od14,.func (PySem.W.fnOf "_law_draw" "_law_draw" (aC fK) (aB fK) (ak fK) .none kV14 dc14 pm14 an14 cd14 ct14),sl14⟩) (c14:PySem.W.codeIn K cd14 "_law_draw"=true) (k14:PySem.W.keepIn K (.ref f14)=true)
    (a15:PySem.W.nsIn K mainGlobals "_law_draws"=some (some (.ref f15))) (l15:K.lookup f15=some ⟨oc15,od15,.func (PySem.W.fnOf "_law_draws" "_law_draws" (aC dg) (aB dg) (ak dg) .none kV15 dc15 pm15 an15 cd15 ct15),sl15⟩) (c15:PySem.W.codeIn K cd15 "_law_draws"=true) (k15:PySem.W.keepIn K (.ref f15)=true)
    (a16:PySem.W.nsIn K mainGlobals "_law_river"=some (some (.ref f16))) (l16:K.lookup f16=some ⟨oc16,od16,.func (PySem.W.fnOf "_law_river" "_law_river" (aC cW) (aB cW) (ak cW) .none kV16 dc16 pm16 an16 cd16 ct16),sl16⟩) (c16:PySem.W.codeIn K cd16 "_law_river"=true) (k16:PySem.W.keepIn K (.ref f16)=true)
    (a17:PySem.W.nsIn K mainGlobals "_law_spoilt"=some (some (.ref f17))) (l17:K.lookup f17=some ⟨oc17,od17,.func (PySem.W.fnOf "_law_spoilt" "_law_spoilt" (aC dN) (aB dN) (ak dN) .none kV17 dc17 pm17 an17 cd17 ct17),sl17⟩) (c17:PySem.W.codeIn K cd17 "_law_spoilt"=true) (k17:PySem.W.keepIn K (.ref f17)=true)
    (a18:PySem.W.nsIn K mainGlobals "_law_way"=some (some (.ref f18))) (l18:K.lookup f18=some ⟨oc18,od18,.func (PySem.W.fnOf "_law_way" "_law_way" (aC gH) (aB gH) (ak gH) .none kV18 dc18 pm18 an18 cd18 ct18),sl18⟩) (c18:PySem.W.codeIn K cd18 "_law_way"=true) (k18:PySem.W.keepIn K (.ref f18)=true)
    (a19:PySem.W.nsIn K mainGlobals "_law_words"=some (some (.ref f19))) (l19:K.lookup f19=some ⟨oc19,od19,.func (PySem.W.fnOf "_law_words" "_law_words" (aC cV) (aB cV) (ak cV) .none kV19 dc19 pm19 an19 cd19 ct19),sl19⟩) (c19:PySem.W.codeIn K cd19 "_law_words"=true) (k19:PySem.W.keepIn K (.ref f19)=true)
    (a20:PySem.W.nsIn K mainGlobals "_law_refused"=some (some (.ref f20))) (l20:K.lookup f20=some ⟨oc20,od20,.func (PySem.W.fnOf "_law_refused" "_law_refused" (aC cG) (aB cG) (ak cG) .none kV20 dc20 pm20 an20 cd20 ct20),sl20⟩) (c20:PySem.W.codeIn K cd20 "_law_refused"=true) (k20:PySem.W.keepIn K (.ref f20)=true)
    (a21:PySem.W.nsIn K mainGlobals "_law_no_roll"=some (some (.ref f21))) (l21:K.lookup f21=some ⟨oc21,od21,.func (PySem.W.fnOf "_law_no_roll" "_law_no_roll" (aC cX) (aB cX) (ak cX) .none kV21 dc21 pm21 an21 cd21 ct21),sl21⟩) (c21:PySem.W.codeIn K cd21 "_law_no_roll"=true) (k21:PySem.W.keepIn K (.ref f21)=true)
    (a22:PySem.W.nsIn K mainGlobals "_law_mates"=some (some (.ref f22))) (l22:K.lookup f22=some ⟨oc22,od22,.func (PySem.W.fnOf "_law_mates" "_law_mates" (aC cZ) (aB cZ) (ak cZ) .none kV22 dc22 pm22 an22 cd22 ct22),sl22⟩) (c22:PySem.W.codeIn K cd22 "_law_mates"=true) (k22:PySem.W.keepIn K (.ref f22)=true)
    (a23:PySem.W.nsIn K mainGlobals "_law_file"=some (some (.ref f23))) (l23:K.lookup f23=some ⟨oc23,od23,.func (PySem.W.fnOf "_law_file" "_law_file" (aC fJ) (aB fJ) (ak fJ) .none kV23 dc23 pm23 an23 cd23 ct23),sl23⟩) (c23:PySem.W.codeIn K cd23 "_law_file"=true) (k23:PySem.W.keepIn K (.ref f23)=true)
    (a24:PySem.W.nsIn K mainGlobals "_law_deed"=some (some (.ref f24))) (l24:K.lookup f24=some ⟨oc24,od24,.func (PySem.W.fnOf "_law_deed" "_law_deed" (aC eH) (aB eH) (ak eH) .none kV24 dc24 pm24 an24 cd24 ct24),sl24⟩) (c24:PySem.W.codeIn K cd24 "_law_deed"=true) (k24:PySem.W.keepIn K (.ref f24)=true)
    (a25:PySem.W.nsIn K mainGlobals "_law_step"=some (some (.ref f25))) (l25:K.lookup f25=some ⟨oc25,od25,.func (PySem.W.fnOf "_law_step" "_law_step" (aC fH) (aB fH) (ak fH) .none kV25 dc25 pm25 an25 cd25 ct25),sl25⟩) (c25:PySem.W.codeIn K cd25 "_law_step"=true) (k25:PySem.W.keepIn K (.ref f25)=true)
    (a26:PySem.W.nsIn K mainGlobals "_law_forged"=some (some (.ref f26))) (l26:K.lookup f26=some ⟨oc26,od26,.func (PySem.W.fnOf "_law_forged" "_law_forged" (aC cT) (aB cT) (ak cT) .none kV26 dc26 pm26 an26 cd26 ct26),sl26⟩) (c26:PySem.W.codeIn K cd26 "_law_forged"=true) (k26:PySem.W.keepIn K (.ref f26)=true)
    (a27:PySem.W.nsIn K mainGlobals "_law_full"=some (some (.ref f27))) (l27:K.lookup f27=some ⟨oc27,od27,.func (PySem.W.fnOf "_law_full" "_law_full" (aC eG) (aB eG) (ak eG) .none kV27 dc27 pm27 an27 cd27 ct27),sl27⟩) (c27:PySem.W.codeIn K cd27 "_law_full"=true) (k27:PySem.W.keepIn K (.ref f27)=true)
    (a28:PySem.W.nsIn K mainGlobals "law"=some (some (.ref f28))) (l28:K.lookup f28=some ⟨oc28,od28,.func (PySem.W.fnOf "law" "law" (aC pI) (aB pI) (ak pI) .none kV28 dc28 pm28 an28 cd28 ct28),sl28⟩) (c28:PySem.W.codeIn K cd28 "law"=true) (k28:PySem.W.keepIn K (.ref f28)=true)
    (e0:PySem.W.nsIn K mainGlobals "MOST_WATER"=some (some (.int (1000000000000) t0)))
    (e1:PySem.W.nsIn K mainGlobals "LONGEST_NAME"=some (some (.int (8) t1)))
    (e2:PySem.W.nsIn K mainGlobals "LETTERS"=some (some (.str "abcdefghijklmnopqrstuvwxyz" t2)))
    (e3:PySem.W.nsIn K mainGlobals "MOST_REACHES"=some (some (.int (40) t3)))
    (e4:PySem.W.nsIn K mainGlobals "MOUTH"=some (some (.int (-1) t4)))
    (e5:PySem.W.nsIn K mainGlobals "LAST_DAY"=some (some (.int (1000000) t5)))
    (e6:PySem.W.nsIn K mainGlobals "MOST_LICENCES"=some (some (.int (60) t6)))
    (n_Roll:PySem.W.nsIn K mainGlobals "Roll"=some (some (.ref cR_Roll))) (ka_Roll:PySem.W.plainGet K cR_Roll Str.empty=true) (kb_Roll:PySem.W.hasDictIn K cR_Roll=true) (kc_Roll:PySem.W.plainOver K cR_Roll=true) (kd_Roll:PySem.W.findIn K (.ref cR_Roll) "__setattr__"=some (some (.builtin "object.__setattr__")))
    (ke_Roll:PySem.W.makesIn K cR_Roll=true) (kf_Roll:PySem.W.keepIn K (.ref cR_Roll)=true)
    (kn_Roll_below:PySem.W.findIn K (.ref cR_Roll) "below"=some none)
    (kn_Roll_day:PySem.W.findIn K (.ref cR_Roll) "day"=some none)
    (kn_Roll_licences:PySem.W.findIn K (.ref cR_Roll) "licences"=some none)
    (kn_Roll_names:PySem.W.findIn K (.ref cR_Roll) "names"=some none)
    (kn_Roll_done:PySem.W.findIn K (.ref cR_Roll) "done"=some none)
    (ma_Roll___init__:PySem.W.findIn K (.ref cR_Roll) "__init__"=some (some (.ref fm_Roll___init__))) (mf_Roll___init__:PySem.W.isFn K (.ref fm_Roll___init__)=true) (mk_Roll___init__:PySem.W.keepIn K (.ref fm_Roll___init__)=true) (ml_Roll___init__:K.lookup fm_Roll___init__=some ⟨ocM0,odM0,.func (PySem.W.fnOf "__init__" "Roll.__init__" (aC cg) (aB cg) (ak cg) .none kVM0 dcM0 pmM0 anM0 cdM0 ctM0),slM0⟩) (mc_Roll___init__:PySem.W.codeIn K cdM0 "Roll.__init__"=true)
    (ma_Roll_today:PySem.W.findIn K (.ref cR_Roll) "today"=some (some (.ref fm_Roll_today))) (mf_Roll_today:PySem.W.isFn K (.ref fm_Roll_today)=true) (mk_Roll_today:PySem.W.keepIn K (.ref fm_Roll_today)=true) (ml_Roll_today:K.lookup fm_Roll_today=some ⟨ocM1,odM1,.func (PySem.W.fnOf "today" "Roll.today" (aC d9) (aB d9) (ak d9) .none kVM1 dcM1 pmM1 anM1 cdM1 ctM1),slM1⟩) (mc_Roll_today:PySem.W.codeIn K cdM1 "Roll.today"=true)
    (ma_Roll_roll:PySem.W.findIn K (.ref cR_Roll) "roll"=some (some (.ref fm_Roll_roll))) (mf_Roll_roll:PySem.W.isFn K (.ref fm_Roll_roll)=true) (mk_Roll_roll:PySem.W.keepIn K (.ref fm_Roll_roll)=true) (ml_Roll_roll:K.lookup fm_Roll_roll=some ⟨ocM2,odM2,.func (PySem.W.fnOf "roll" "Roll.roll" (aC eN) (aB eN) (ak eN) .none kVM2 dcM2 pmM2 anM2 cdM2 ctM2),slM2⟩) (mc_Roll_roll:PySem.W.codeIn K cdM2 "Roll.roll"=true)
    (ma_Roll_holders:PySem.W.findIn K (.ref cR_Roll) "holders"=some (some (.ref fm_Roll_holders))) (mf_Roll_holders:PySem.W.isFn K (.ref fm_Roll_holders)=true) (mk_Roll_holders:PySem.W.keepIn K (.ref fm_Roll_holders)=true) (ml_Roll_holders:K.lookup fm_Roll_holders=some ⟨ocM3,odM3,.func (PySem.W.fnOf "holders" "Roll.holders" (aC dw) (aB dw) (ak dw) .none kVM3 dcM3 pmM3 anM3 cdM3 ctM3),slM3⟩) (mc_Roll_holders:PySem.W.codeIn K cdM3 "Roll.holders"=true)
    (ma_Roll_deeds:PySem.W.findIn K (.ref cR_Roll) "deeds"=some (some (.ref fm_Roll_deeds))) (mf_Roll_deeds:PySem.W.isFn K (.ref fm_Roll_deeds)=true) (mk_Roll_deeds:PySem.W.keepIn K (.ref fm_Roll_deeds)=true) (ml_Roll_deeds:K.lookup fm_Roll_deeds=some ⟨ocM4,odM4,.func (PySem.W.fnOf "deeds" "Roll.deeds" (aC eE) (aB eE) (ak eE) .none kVM4 dcM4 pmM4 anM4 cdM4 ctM4),slM4⟩) (mc_Roll_deeds:PySem.W.codeIn K cdM4 "Roll.deeds"=true)
    (ma_Roll_turn:PySem.W.findIn K (.ref cR_Roll) "turn"=some (some (.ref fm_Roll_turn))) (mf_Roll_turn:PySem.W.isFn K (.ref fm_Roll_turn)=true) (mk_Roll_turn:PySem.W.keepIn K (.ref fm_Roll_turn)=true) (ml_Roll_turn:K.lookup fm_Roll_turn=some ⟨ocM5,odM5,.func (PySem.W.fnOf "turn" "Roll.turn" (aC fL) (aB fL) (ak fL) .none kVM5 dcM5 pmM5 anM5 cdM5 ctM5),slM5⟩) (mc_Roll_turn:PySem.W.codeIn K cdM5 "Roll.turn"=true)
    (ma_Roll_file:PySem.W.findIn K (.ref cR_Roll) "file"=some (some (.ref fm_Roll_file))) (mf_Roll_file:PySem.W.isFn K (.ref fm_Roll_file)=true) (mk_Roll_file:PySem.W.keepIn K (.ref fm_Roll_file)=true) (ml_Roll_file:K.lookup fm_Roll_file=some ⟨ocM6,odM6,.func (PySem.W.fnOf "file" "Roll.file" (aC fQ) (aB fQ) (ak fQ) (.ref dT_Roll_file) kVM6 dcM6 pmM6 anM6 cdM6 ctM6),slM6⟩) (mc_Roll_file:PySem.W.codeIn K cdM6 "Roll.file"=true)
    (mt_Roll_file:K.lookup dT_Roll_file=some oT_Roll_file) (mu_Roll_file:∃ n,oT_Roll_file.data=.seq #[.none] n)
    (ma_Roll_sell:PySem.W.findIn K (.ref cR_Roll) "sell"=some (some (.ref fm_Roll_sell))) (mf_Roll_sell:PySem.W.isFn K (.ref fm_Roll_sell)=true) (mk_Roll_sell:PySem.W.keepIn K (.ref fm_Roll_sell)=true) (ml_Roll_sell:K.lookup fm_Roll_sell=some ⟨ocM7,odM7,.func (PySem.W.fnOf "sell" "Roll.sell" (aC fM) (aB fM) (ak fM) .none kVM7 dcM7 pmM7 anM7 cdM7 ctM7),slM7⟩) (mc_Roll_sell:PySem.W.codeIn K cdM7 "Roll.sell"=true)
    (ma_Roll_part:PySem.W.findIn K (.ref cR_Roll) "part"=some (some (.ref fm_Roll_part))) (mf_Roll_part:PySem.W.isFn K (.ref fm_Roll_part)=true) (mk_Roll_part:PySem.W.keepIn K (.ref fm_Roll_part)=true) (ml_Roll_part:K.lookup fm_Roll_part=some ⟨ocM8,odM8,.func (PySem.W.fnOf "part" "Roll.part" (aC fO) (aB fO) (ak fO) .none kVM8 dcM8 pmM8 anM8 cdM8 ctM8),slM8⟩) (mc_Roll_part:PySem.W.codeIn K cdM8 "Roll.part"=true)
    (ma_Roll_drop:PySem.W.findIn K (.ref cR_Roll) "drop"=some (some (.ref fm_Roll_drop))) (mf_Roll_drop:PySem.W.isFn K (.ref fm_Roll_drop)=true) (mk_Roll_drop:PySem.W.keepIn K (.ref fm_Roll_drop)=true) (ml_Roll_drop:K.lookup fm_Roll_drop=some ⟨ocM9,odM9,.func (PySem.W.fnOf "drop" "Roll.drop" (aC fU) (aB fU) (ak fU) .none kVM9 dcM9 pmM9 anM9 cdM9 ctM9),slM9⟩) (mc_Roll_drop:PySem.W.codeIn K cdM9 "Roll.drop"=true)
    (ma_Roll_move:PySem.W.findIn K (.ref cR_Roll) "move"=some (some (.ref fm_Roll_move))) (mf_Roll_move:PySem.W.isFn K (.ref fm_Roll_move)=true) (mk_Roll_move:PySem.W.keepIn K (.ref fm_Roll_move)=true) (ml_Roll_move:K.lookup fm_Roll_move=some ⟨ocM10,odM10,.func (PySem.W.fnOf "move" "Roll.move" (aC fP) (aB fP) (ak fP) .none kVM10 dcM10 pmM10 anM10 cdM10 ctM10),slM10⟩) (mc_Roll_move:PySem.W.codeIn K cdM10 "Roll.move"=true)
    (ma_Roll_look_move:PySem.W.findIn K (.ref cR_Roll) "look_move"=some (some (.ref fm_Roll_look_move))) (mf_Roll_look_move:PySem.W.isFn K (.ref fm_Roll_look_move)=true) (mk_Roll_look_move:PySem.W.keepIn K (.ref fm_Roll_look_move)=true) (ml_Roll_look_move:K.lookup fm_Roll_look_move=some ⟨ocM11,odM11,.func (PySem.W.fnOf "look_move" "Roll.look_move" (aC cB) (aB cB) (ak cB) .none kVM11 dcM11 pmM11 anM11 cdM11 ctM11),slM11⟩) (mc_Roll_look_move:PySem.W.codeIn K cdM11 "Roll.look_move"=true)
    (ma_Roll_lapse:PySem.W.findIn K (.ref cR_Roll) "lapse"=some (some (.ref fm_Roll_lapse))) (mf_Roll_lapse:PySem.W.isFn K (.ref fm_Roll_lapse)=true) (mk_Roll_lapse:PySem.W.keepIn K (.ref fm_Roll_lapse)=true) (ml_Roll_lapse:K.lookup fm_Roll_lapse=some ⟨ocM12,odM12,.func (PySem.W.fnOf "lapse" "Roll.lapse" (aC cI) (aB cI) (ak cI) .none kVM12 dcM12 pmM12 anM12 cdM12 ctM12),slM12⟩) (mc_Roll_lapse:PySem.W.codeIn K cdM12 "Roll.lapse"=true)
    (ma_Roll_enter:PySem.W.findIn K (.ref cR_Roll) "enter"=some (some (.ref fm_Roll_enter))) (mf_Roll_enter:PySem.W.isFn K (.ref fm_Roll_enter)=true) (mk_Roll_enter:PySem.W.keepIn K (.ref fm_Roll_enter)=true) (ml_Roll_enter:K.lookup fm_Roll_enter=some ⟨ocM13,odM13,.func (PySem.W.fnOf "enter" "Roll.enter" (aC dO) (aB dO) (ak dO) .none kVM13 dcM13 pmM13 anM13 cdM13 ctM13),slM13⟩) (mc_Roll_enter:PySem.W.codeIn K cdM13 "Roll.enter"=true)
    (ma_Roll_is_alone:PySem.W.findIn K (.ref cR_Roll) "is_alone"=some (some (.ref fm_Roll_is_alone))) (mf_Roll_is_alone:PySem.W.isFn K (.ref fm_Roll_is_alone)=true) (mk_Roll_is_alone:PySem.W.keepIn K (.ref fm_Roll_is_alone)=true) (ml_Roll_is_alone:K.lookup fm_Roll_is_alone=some ⟨ocM14,odM14,.func (PySem.W.fnOf "is_alone" "Roll.is_alone" (aC bZ) (aB bZ) (ak bZ) .none kVM14 dcM14 pmM14 anM14 cdM14 ctM14),slM14⟩) (mc_Roll_is_alone:PySem.W.codeIn K cdM14 "Roll.is_alone"=true)
    (ma_Roll_look_at_number:PySem.W.findIn K (.ref cR_Roll) "look_at_number"=some (some (.ref fm_Roll_look_at_number))) (mf_Roll_look_at_number:PySem.W.isFn K (.ref fm_Roll_look_at_number)=true) (mk_Roll_look_at_number:PySem.W.keepIn K (.ref fm_Roll_look_at_number)=true) (ml_Roll_look_at_number:K.lookup fm_Roll_look_at_number=some ⟨ocM15,odM15,.func (PySem.W.fnOf "look_at_number" "Roll.look_at_number" (aC bC) (aB bC) (ak bC) .none kVM15 dcM15 pmM15 anM15 cdM15 ctM15),slM15⟩) (mc_Roll_look_at_number:PySem.W.codeIn K cdM15 "Roll.look_at_number"=true)
    (ma_Roll_look_at_holder:PySem.W.findIn K (.ref cR_Roll) "look_at_holder"=some (some (.ref fm_Roll_look_at_holder))) (mf_Roll_look_at_holder:PySem.W.isFn K (.ref fm_Roll_look_at_holder)=true) (mk_Roll_look_at_holder:PySem.W.keepIn K (.ref fm_Roll_look_at_holder)=true) (ml_Roll_look_at_holder:K.lookup fm_Roll_look_at_holder=some ⟨ocM16,odM16,.func (PySem.W.fnOf "look_at_holder" "Roll.look_at_holder" (aC aU) (aB aU) (ak aU) .none kVM16 dcM16 pmM16 anM16 cdM16 ctM16),slM16⟩) (mc_Roll_look_at_holder:PySem.W.codeIn K cdM16 "Roll.look_at_holder"=true)
    (ma_Roll_look_at_room:PySem.W.findIn K (.ref cR_Roll) "look_at_room"=some (some (.ref fm_Roll_look_at_room))) (mf_Roll_look_at_room:PySem.W.isFn K (.ref fm_Roll_look_at_room)=true) (mk_Roll_look_at_room:PySem.W.keepIn K (.ref fm_Roll_look_at_room)=true) (ml_Roll_look_at_room:K.lookup fm_Roll_look_at_room=some ⟨ocM17,odM17,.func (PySem.W.fnOf "look_at_room" "Roll.look_at_room" (aC bF) (aB bF) (ak bF) .none kVM17 dcM17 pmM17 anM17 cdM17 ctM17),slM17⟩) (mc_Roll_look_at_room:PySem.W.codeIn K cdM17 "Roll.look_at_room"=true)
    (z_len:PySem.W.nsIn K mainGlobals "len"=some none)
    (z_range:PySem.W.nsIn K mainGlobals "range"=some none)
    (z_list:PySem.W.nsIn K mainGlobals "list"=some none)
    (z_isinstance:PySem.W.nsIn K mainGlobals "isinstance"=some none)
    (z_bool:PySem.W.nsIn K mainGlobals "bool"=some none)
    (z_int:PySem.W.nsIn K mainGlobals "int"=some none)
    (z_all:PySem.W.nsIn K mainGlobals "all"=some none)
    (z_min:PySem.W.nsIn K mainGlobals "min"=some none)
    (z_max:PySem.W.nsIn K mainGlobals "max"=some none)
    (z_sum:PySem.W.nsIn K mainGlobals "sum"=some none)
    (z_sorted:PySem.W.nsIn K mainGlobals "sorted"=some none)
    (z_zip:PySem.W.nsIn K mainGlobals "zip"=some none)
    (z_tuple:PySem.W.nsIn K mainGlobals "tuple"=some none)
    (z_str:PySem.W.nsIn K mainGlobals "str"=some none)
    (z_any:PySem.W.nsIn K mainGlobals "any"=some none)
    (z_enumerate:PySem.W.nsIn K mainGlobals "enumerate"=some none)
    (z_reversed:PySem.W.nsIn K mainGlobals "reversed"=some none)
    (z_abs:PySem.W.nsIn K mainGlobals "abs"=some none)
    (z_ValueError:PySem.W.nsIn K mainGlobals "ValueError"=some none)
    (z_set:PySem.W.nsIn K mainGlobals "set"=some none)
    (n_SluiceError:PySem.W.nsIn K mainGlobals "SluiceError"=some (some (.ref cX_SluiceError))) (q_SluiceError:PySem.W.excIn K cX_SluiceError wX "ValueError.__new__"=true)
    (xa_SluiceError:PySem.W.findIn K (.ref cX_SluiceError) "__getattribute__"=some (some (.builtin "BaseException.__getattribute__"))) (xb_SluiceError:PySem.W.findIn K (.ref cX_SluiceError) "__getattr__"=some none) (xc_SluiceError:PySem.W.findIn K (.ref cX_SluiceError) "__class__"=some (some (.builtin "object.__class__")))
    (xd_SluiceError:PySem.W.specialIn K (.builtin "object.__class__") "__get__"=some (some (.builtin "getset_descriptor.__get__"))) (xe_SluiceError:PySem.W.takesIn K (.builtin "object.__class__")=some true) (xf_SluiceError:PySem.W.mroIn K cX_SluiceError (.type "object")=some true) (xg_SluiceError:PySem.W.mroIn K cX_SluiceError (.type "BaseException")=some true) (xh_SluiceError:(PySem.W.clsIn K cX_SluiceError).isSome=true)
    (n_NoNumber:PySem.W.nsIn K mainGlobals "NoNumber"=some (some (.ref cX_NoNumber))) (q_NoNumber:PySem.W.excIn K cX_NoNumber wX "ValueError.__new__"=true)
    (xa_NoNumber:PySem.W.findIn K (.ref cX_NoNumber) "__getattribute__"=some (some (.builtin "BaseException.__getattribute__"))) (xb_NoNumber:PySem.W.findIn K (.ref cX_NoNumber) "__getattr__"=some none) (xc_NoNumber:PySem.W.findIn K (.ref cX_NoNumber) "__class__"=some (some (.builtin "object.__class__")))
    (xd_NoNumber:PySem.W.specialIn K (.builtin "object.__class__") "__get__"=some (some (.builtin "getset_descriptor.__get__"))) (xe_NoNumber:PySem.W.takesIn K (.builtin "object.__class__")=some true) (xf_NoNumber:PySem.W.mroIn K cX_NoNumber (.type "object")=some true) (xg_NoNumber:PySem.W.mroIn K cX_NoNumber (.type "BaseException")=some true) (xh_NoNumber:(PySem.W.clsIn K cX_NoNumber).isSome=true)
    (n_NotYours:PySem.W.nsIn K mainGlobals "NotYours"=some (some (.ref cX_NotYours))) (q_NotYours:PySem.W.excIn K cX_NotYours wX "ValueError.__new__"=true)
    (xa_NotYours:PySem.W.findIn K (.ref cX_NotYours) "__getattribute__"=some (some (.builtin "BaseException.__getattribute__"))) (xb_NotYours:PySem.W.findIn K (.ref cX_NotYours) "__getattr__"=some none) (xc_NotYours:PySem.W.findIn K (.ref cX_NotYours) "__class__"=some (some (.builtin "object.__class__")))
    (xd_NotYours:PySem.W.specialIn K (.builtin "object.__class__") "__get__"=some (some (.builtin "getset_descriptor.__get__"))) (xe_NotYours:PySem.W.takesIn K (.builtin "object.__class__")=some true) (xf_NotYours:PySem.W.mroIn K cX_NotYours (.type "object")=some true) (xg_NotYours:PySem.W.mroIn K cX_NotYours (.type "BaseException")=some true) (xh_NotYours:(PySem.W.clsIn K cX_NotYours).isSome=true)
    (n_NoHolder:PySem.W.nsIn K mainGlobals "NoHolder"=some (some (.ref cX_NoHolder))) (q_NoHolder:PySem.W.excIn K cX_NoHolder wX "ValueError.__new__"=true)
    (xa_NoHolder:PySem.W.findIn K (.ref cX_NoHolder) "__getattribute__"=some (some (.builtin "BaseException.__getattribute__"))) (xb_NoHolder:PySem.W.findIn K (.ref cX_NoHolder) "__getattr__"=some none) (xc_NoHolder:PySem.W.findIn K (.ref cX_NoHolder) "__class__"=some (some (.builtin "object.__class__")))
    (xd_NoHolder:PySem.W.specialIn K (.builtin "object.__class__") "__get__"=some (some (.builtin "getset_descriptor.__get__"))) (xe_NoHolder:PySem.W.takesIn K (.builtin "object.__class__")=some true) (xf_NoHolder:PySem.W.mroIn K cX_NoHolder (.type "object")=some true) (xg_NoHolder:PySem.W.mroIn K cX_NoHolder (.type "BaseException")=some true) (xh_NoHolder:(PySem.W.clsIn K cX_NoHolder).isSome=true)
    (n_NoLicence:PySem.W.nsIn K mainGlobals "NoLicence"=some (some (.ref cX_NoLicence))) (q_NoLicence:PySem.W.excIn K cX_NoLicence wX "ValueError.__new__"=true)
    (xa_NoLicence:PySem.W.findIn K (.ref cX_NoLicence) "__getattribute__"=some (some (.builtin "BaseException.__getattribute__"))) (xb_NoLicence:PySem.W.findIn K (.ref cX_NoLicence) "__getattr__"=some none) (xc_NoLicence:PySem.W.findIn K (.ref cX_NoLicence) "__class__"=some (some (.builtin "object.__class__")))
    (xd_NoLicence:PySem.W.specialIn K (.builtin "object.__class__") "__get__"=some (some (.builtin "getset_descriptor.__get__"))) (xe_NoLicence:PySem.W.takesIn K (.builtin "object.__class__")=some true) (xf_NoLicence:PySem.W.mroIn K cX_NoLicence (.type "object")=some true) (xg_NoLicence:PySem.W.mroIn K cX_NoLicence (.type "BaseException")=some true) (xh_NoLicence:(PySem.W.clsIn K cX_NoLicence).isSome=true)
    (n_TooMuch:PySem.W.nsIn K mainGlobals "TooMuch"=some (some (.ref cX_TooMuch))) (q_TooMuch:PySem.W.excIn K cX_TooMuch wX "ValueError.__new__"=true)
    (xa_TooMuch:PySem.W.findIn K (.ref cX_TooMuch) "__getattribute__"=some (some (.builtin "BaseException.__getattribute__"))) (xb_TooMuch:PySem.W.findIn K (.ref cX_TooMuch) "__getattr__"=some none) (xc_TooMuch:PySem.W.findIn K (.ref cX_TooMuch) "__class__"=some (some (.builtin "object.__class__")))
    (xd_TooMuch:PySem.W.specialIn K (.builtin "object.__class__") "__get__"=some (some (.builtin "getset_descriptor.__get__"))) (xe_TooMuch:PySem.W.takesIn K (.builtin "object.__class__")=some true) (xf_TooMuch:PySem.W.mroIn K cX_TooMuch (.type "object")=some true) (xg_TooMuch:PySem.W.mroIn K cX_TooMuch (.type "BaseException")=some true) (xh_TooMuch:(PySem.W.clsIn K cX_TooMuch).isSome=true)
    (n_NotAlone:PySem.W.nsIn K mainGlobals "NotAlone"=some (some (.ref cX_NotAlone))) (q_NotAlone:PySem.W.excIn K cX_NotAlone wX "ValueError.__new__"=true)
    (xa_NotAlone:PySem.W.findIn K (.ref cX_NotAlone) "__getattribute__"=some (some (.builtin "BaseException.__getattribute__"))) (xb_NotAlone:PySem.W.findIn K (.ref cX_NotAlone) "__getattr__"=some none) (xc_NotAlone:PySem.W.findIn K (.ref cX_NotAlone) "__class__"=some (some (.builtin "object.__class__")))
    (xd_NotAlone:PySem.W.specialIn K (.builtin "object.__class__") "__get__"=some (some (.builtin "getset_descriptor.__get__"))) (xe_NotAlone:PySem.W.takesIn K (.builtin "object.__class__")=some true) (xf_NotAlone:PySem.W.mroIn K cX_NotAlone (.type "object")=some true) (xg_NotAlone:PySem.W.mroIn K cX_NotAlone (.type "BaseException")=some true) (xh_NotAlone:(PySem.W.clsIn K cX_NotAlone).isSome=true)
    (n_Full:PySem.W.nsIn K mainGlobals "Full"=some (some (.ref cX_Full))) (q_Full:PySem.W.excIn K cX_Full wX "ValueError.__new__"=true)
    (xa_Full:PySem.W.findIn K (.ref cX_Full) "__getattribute__"=some (some (.builtin "BaseException.__getattribute__"))) (xb_Full:PySem.W.findIn K (.ref cX_Full) "__getattr__"=some none) (xc_Full:PySem.W.findIn K (.ref cX_Full) "__class__"=some (some (.builtin "object.__class__")))
    (xd_Full:PySem.W.specialIn K (.builtin "object.__class__") "__get__"=some (some (.builtin "getset_descriptor.__get__"))) (xe_Full:PySem.W.takesIn K (.builtin "object.__class__")=some true) (xf_Full:PySem.W.mroIn K cX_Full (.type "object")=some true) (xg_Full:PySem.W.mroIn K cX_Full (.type "BaseException")=some true) (xh_Full:(PySem.W.clsIn K cX_Full).isSome=true)
    (n_NoRiver:PySem.W.nsIn K mainGlobals "NoRiver"=some (some (.ref cX_NoRiver))) (q_NoRiver:PySem.W.excIn K cX_NoRiver wX "ValueError.__new__"=true)
    (xa_NoRiver:PySem.W.findIn K (.ref cX_NoRiver) "__getattribute__"=some (some (.builtin "BaseException.__getattribute__"))) (xb_NoRiver:PySem.W.findIn K (.ref cX_NoRiver) "__getattr__"=some none) (xc_NoRiver:PySem.W.findIn K (.ref cX_NoRiver) "__class__"=some (some (.builtin "object.__class__")))
    (xd_NoRiver:PySem.W.specialIn K (.builtin "object.__class__") "__get__"=some (some (.builtin "getset_descriptor.__get__"))) (xe_NoRiver:PySem.W.takesIn K (.builtin "object.__class__")=some true) (xf_NoRiver:PySem.W.mroIn K cX_NoRiver (.type "object")=some true) (xg_NoRiver:PySem.W.mroIn K cX_NoRiver (.type "BaseException")=some true) (xh_NoRiver:(PySem.W.clsIn K cX_NoRiver).isSome=true)
    (m_NoNumber_SluiceError:PySem.W.exmOne K (.ref cX_NoNumber) (.ref cX_SluiceError)=some true)
    (m_NotYours_SluiceError:PySem.W.exmOne K (.ref cX_NotYours) (.ref cX_SluiceError)=some true)
    (m_NoHolder_SluiceError:PySem.W.exmOne K (.ref cX_NoHolder) (.ref cX_SluiceError)=some true)
    (m_NoLicence_SluiceError:PySem.W.exmOne K (.ref cX_NoLicence) (.ref cX_SluiceError)=some true)
    (m_TooMuch_SluiceError:PySem.W.exmOne K (.ref cX_TooMuch) (.ref cX_SluiceError)=some true)
    (m_NotAlone_SluiceError:PySem.W.exmOne K (.ref cX_NotAlone) (.ref cX_SluiceError)=some true)
    (m_Full_SluiceError:PySem.W.exmOne K (.ref cX_Full) (.ref cX_SluiceError)=some true)
    (m_NoRiver_SluiceError:PySem.W.exmOne K (.ref cX_NoRiver) (.ref cX_SluiceError)=some true)
    (i_NoNumber_ValueError:PySem.W.kitOne K (.ref cX_NoNumber) (.type "ValueError")=some true)
    (i_NotYours_ValueError:PySem.W.kitOne K (.ref cX_NotYours) (.type "ValueError")=some true)
    (i_NoHolder_ValueError:PySem.W.kitOne K (.ref cX_NoHolder) (.type "ValueError")=some true)
    (i_NoLicence_ValueError:PySem.W.kitOne K (.ref cX_NoLicence) (.type "ValueError")=some true)
    (i_TooMuch_ValueError:PySem.W.kitOne K (.ref cX_TooMuch) (.type "ValueError")=some true)
    (i_NotAlone_ValueError:PySem.W.kitOne K (.ref cX_NotAlone) (.type "ValueError")=some true)
    (i_Full_ValueError:PySem.W.kitOne K (.ref cX_Full) (.type "ValueError")=some true)
    (i_NoRiver_ValueError:PySem.W.kitOne K (.ref cX_NoRiver) (.type "ValueError")=some true)
    (m_kall:([cX_NoNumber,cX_NotYours,cX_NoHolder,cX_NoLicence,cX_TooMuch,cX_NotAlone,cX_Full,cX_NoRiver]:List Addr).map (fun a=>([cX_NoNumber,cX_NotYours,cX_NoHolder,cX_NoLicence,cX_TooMuch,cX_NotAlone,cX_Full,cX_NoRiver]:List Addr).map (fun b=>PySem.W.kitOne K (.ref a) (.ref b)))=(List.range 8).map fun i=>(List.range 8).map fun j=>some (decide (j=i)))
    : ∃ fd:FuncData,(∀ (s:Shared) (v:Value),BindsTo s fd ⟨[v],[]⟩ [("script",v)])∧∀ base:Heap,K.In base→base.Ns mainGlobals mg→bQ l.prog w K mg base CX0 8 fa fd ["script"] (vI K):=by
  have e:=hfa.symm.trans (PySem.W.mg_of X G a28)
  cases e
  have B:Blt mg:=⟨PySem.W.mg_none_of X G z_len,PySem.W.mg_none_of X G z_range,PySem.W.mg_none_of X G z_list,PySem.W.mg_none_of X G z_isinstance,PySem.W.mg_none_of X G z_bool,PySem.W.mg_none_of X G z_int,PySem.W.mg_none_of X G z_all,PySem.W.mg_none_of X G z_min,PySem.W.mg_none_of X G z_max,PySem.W.mg_none_of X G z_sum,PySem.W.mg_none_of X G z_sorted,PySem.W.mg_none_of X G z_zip,PySem.W.mg_none_of X G z_tuple,PySem.W.mg_none_of X G z_str,PySem.W.mg_none_of X G z_any,PySem.W.mg_none_of X G z_enumerate,PySem.W.mg_none_of X G z_reversed,PySem.W.mg_none_of X G z_abs,PySem.W.mg_none_of X G z_ValueError,PySem.W.mg_none_of X G z_set⟩
  have h_MOST_WATER:∃ t,mg "MOST_WATER"=some (.int (1000000000000) t):=⟨_,PySem.W.mg_of X G e0⟩
  have h_LONGEST_NAME:∃ t,mg "LONGEST_NAME"=some (.int (8) t):=⟨_,PySem.W.mg_of X G e1⟩
  have h_LETTERS:∃ t,mg "LETTERS"=some (.str "abcdefghijklmnopqrstuvwxyz" t):=⟨_,PySem.W.mg_of X G e2⟩
  have h_MOST_REACHES:∃ t,mg "MOST_REACHES"=some (.int (40) t):=⟨_,PySem.W.mg_of X G e3⟩
  have h_MOUTH:∃ t,mg "MOUTH"=some (.int (-1) t):=⟨_,PySem.W.mg_of X G e4⟩
  have h_LAST_DAY:∃ t,mg "LAST_DAY"=some (.int (1000000) t):=⟨_,PySem.W.mg_of X G e5⟩
  have h_MOST_LICENCES:∃ t,mg "MOST_LICENCES"=some (.int (60) t):=⟨_,PySem.W.mg_of X G e6⟩
  have FM_Roll___init__:=bO (st:=cg) ml_Roll___init__ mc_Roll___init__ mk_Roll___init__
  have dH:Dm K cR_Roll "__init__" "Roll.__init__" cg ["self","below"] fm_Roll___init__ _:=⟨FM_Roll___init__,gJ FM_Roll___init__ (fun _ _ _ _ _ _ _ _=>rfl),⟨ma_Roll___init__,mf_Roll___init__,mk_Roll___init__⟩⟩
  have FM_Roll_today:=bO (st:=d9) ml_Roll_today mc_Roll_today mk_Roll_today
  have iQ:Dm K cR_Roll "today" "Roll.today" d9 ["self"] fm_Roll_today _:=⟨FM_Roll_today,iZ FM_Roll_today (fun _ _ _ _ _ _ _=>rfl),⟨ma_Roll_today,mf_Roll_today,mk_Roll_today⟩⟩
  have FM_Roll_roll:=bO (st:=eN) ml_Roll_roll mc_Roll_roll mk_Roll_roll
  have eV:Dm K cR_Roll "roll" "Roll.roll" eN ["self"] fm_Roll_roll _:=⟨FM_Roll_roll,iZ FM_Roll_roll (fun _ _ _ _ _ _ _=>rfl),⟨ma_Roll_roll,mf_Roll_roll,mk_Roll_roll⟩⟩
  have FM_Roll_holders:=bO (st:=dw) ml_Roll_holders mc_Roll_holders mk_Roll_holders
  have gw:Dm K cR_Roll "holders" "Roll.holders" dw ["self"] fm_Roll_holders _:=⟨FM_Roll_holders,iZ FM_Roll_holders (fun _ _ _ _ _ _ _=>rfl),⟨ma_Roll_holders,mf_Roll_holders,mk_Roll_holders⟩⟩
  have FM_Roll_deeds:=bO (st:=eE) ml_Roll_deeds mc_Roll_deeds mk_Roll_deeds
  have iR:Dm K cR_Roll "deeds" "Roll.deeds" eE ["self"] fm_Roll_deeds _:=⟨FM_Roll_deeds,iZ FM_Roll_deeds (fun _ _ _ _ _ _ _=>rfl),⟨ma_Roll_deeds,mf_Roll_deeds,mk_Roll_deeds⟩⟩
  have FM_Roll_turn:=bO (st:=fL) ml_Roll_turn mc_Roll_turn mk_Roll_turn
  have jq:Dm K cR_Roll "turn" "Roll.turn" fL ["self"] fm_Roll_turn _:=⟨FM_Roll_turn,iZ FM_Roll_turn (fun _ _ _ _ _ _ _=>rfl),⟨ma_Roll_turn,mf_Roll_turn,mk_Roll_turn⟩⟩
  obtain ⟨nT_Roll_file,mu_Roll_file⟩:=mu_Roll_file
  have FM_Roll_file:Mg K "file" "Roll.file" fQ [.none] fm_Roll_file _:=⟨⟨_,_,_,_,_,_,_,_,_,_,_,_,rfl,ml_Roll_file,mc_Roll_file,mt_Roll_file,mu_Roll_file⟩,mk_Roll_file⟩
  have jw:DmD K cR_Roll "file" "Roll.file" fQ ["self","holder","start","most","back"] fm_Roll_file _:=⟨FM_Roll_file,FM_Roll_file.binds (fun _ _ _ _ _ _ _ us hl=>match us,(show us.length=5 by simpa using hl) with | [u0,u1,u2,u3,u4],_=>⟨_,rfl,rfl⟩),FM_Roll_file.binds (fun _ _ _ _ _ _ _ us hl=>match us,(show us.length=4 by simpa using hl) with | [u0,u1,u2,u3],_=>⟨_,rfl,rfl⟩),⟨ma_Roll_file,mf_Roll_file,mk_Roll_file⟩⟩
  have FM_Roll_sell:=bO (st:=fM) ml_Roll_sell mc_Roll_sell mk_Roll_sell
  have jr:Dm K cR_Roll "sell" "Roll.sell" fM ["self","number","holder","to"] fm_Roll_sell _:=⟨FM_Roll_sell,tY FM_Roll_sell (fun _ _ _ _ _ _ _ _ _ _=>rfl),⟨ma_Roll_sell,mf_Roll_sell,mk_Roll_sell⟩⟩
  have FM_Roll_part:=bO (st:=fO) ml_Roll_part mc_Roll_part mk_Roll_part
  have jt:Dm K cR_Roll "part" "Roll.part" fO ["self","number","holder","most","to"] fm_Roll_part _:=⟨FM_Roll_part,Tg FM_Roll_part (fun _ _ _ _ _ _ _ _ _ _ _=>rfl),⟨ma_Roll_part,mf_Roll_part,mk_Roll_part⟩⟩
  have FM_Roll_drop:=bO (st:=fU) ml_Roll_drop mc_Roll_drop mk_Roll_drop
  have jx:Dm K cR_Roll "drop" "Roll.drop" fU ["self","number","holder"] fm_Roll_drop _:=⟨FM_Roll_drop,wk FM_Roll_drop (fun _ _ _ _ _ _ _ _ _=>rfl),⟨ma_Roll_drop,mf_Roll_drop,mk_Roll_drop⟩⟩
  have FM_Roll_move:=bO (st:=fP) ml_Roll_move mc_Roll_move mk_Roll_move
  have ju:Dm K cR_Roll "move" "Roll.move" fP ["self","number","holder","start"] fm_Roll_move _:=⟨FM_Roll_move,tY FM_Roll_move (fun _ _ _ _ _ _ _ _ _ _=>rfl),⟨ma_Roll_move,mf_Roll_move,mk_Roll_move⟩⟩
  have FM_Roll_look_move:=bO (st:=cB) ml_Roll_look_move mc_Roll_look_move mk_Roll_look_move
  have eX:Dm K cR_Roll "look_move" "Roll.look_move" cB ["self","number","start"] fm_Roll_look_move _:=⟨FM_Roll_look_move,wk FM_Roll_look_move (fun _ _ _ _ _ _ _ _ _=>rfl),⟨ma_Roll_look_move,mf_Roll_look_move,mk_Roll_look_move⟩⟩
  have FM_Roll_lapse:=bO (st:=cI) ml_Roll_lapse mc_Roll_lapse mk_Roll_lapse
  have gO:Dm K cR_Roll "lapse" "Roll.lapse" cI ["self","numbers"] fm_Roll_lapse _:=⟨FM_Roll_lapse,gJ FM_Roll_lapse (fun _ _ _ _ _ _ _ _=>rfl),⟨ma_Roll_lapse,mf_Roll_lapse,mk_Roll_lapse⟩⟩
  have FM_Roll_enter:=bO (st:=dO) ml_Roll_enter mc_Roll_enter mk_Roll_enter
  have dU:Dm K cR_Roll "enter" "Roll.enter" dO ["self","one","holder"] fm_Roll_enter _:=⟨FM_Roll_enter,wk FM_Roll_enter (fun _ _ _ _ _ _ _ _ _=>rfl),⟨ma_Roll_enter,mf_Roll_enter,mk_Roll_enter⟩⟩
  have FM_Roll_is_alone:=bO (st:=bZ) ml_Roll_is_alone mc_Roll_is_alone mk_Roll_is_alone
  have fW:Dm K cR_Roll "is_alone" "Roll.is_alone" bZ ["self","number"] fm_Roll_is_alone _:=⟨FM_Roll_is_alone,gJ FM_Roll_is_alone (fun _ _ _ _ _ _ _ _=>rfl),⟨ma_Roll_is_alone,mf_Roll_is_alone,mk_Roll_is_alone⟩⟩
  have FM_Roll_look_at_number:=bO (st:=bC) ml_Roll_look_at_number mc_Roll_look_at_number mk_Roll_look_at_number
  have cP:Dm K cR_Roll "look_at_number" "Roll.look_at_number" bC ["self","number"] fm_Roll_look_at_number _:=⟨FM_Roll_look_at_number,gJ FM_Roll_look_at_number (fun _ _ _ _ _ _ _ _=>rfl),⟨ma_Roll_look_at_number,mf_Roll_look_at_number,mk_Roll_look_at_number⟩⟩
  have FM_Roll_look_at_holder:=bO (st:=aU) ml_Roll_look_at_holder mc_Roll_look_at_holder mk_Roll_look_at_holder
  have aG:Dm K cR_Roll "look_at_holder" "Roll.look_at_holder" aU ["self","number","holder"] fm_Roll_look_at_holder _:=⟨FM_Roll_look_at_holder,wk FM_Roll_look_at_holder (fun _ _ _ _ _ _ _ _ _=>rfl),⟨ma_Roll_look_at_holder,mf_Roll_look_at_holder,mk_Roll_look_at_holder⟩⟩
  have FM_Roll_look_at_room:=bO (st:=bF) ml_Roll_look_at_room mc_Roll_look_at_room mk_Roll_look_at_room
  have bH:Dm K cR_Roll "look_at_room" "Roll.look_at_room" bF ["self"] fm_Roll_look_at_room _:=⟨FM_Roll_look_at_room,iZ FM_Roll_look_at_room (fun _ _ _ _ _ _ _=>rfl),⟨ma_Roll_look_at_room,mf_Roll_look_at_room,mk_Roll_look_at_room⟩⟩
  have R_Roll:Cl K mg "Roll" cR_Roll fm_Roll___init__ ["below","day","licences","names","done"]:=⟨⟨ka_Roll,kb_Roll,kc_Roll,kd_Roll⟩,⟨ke_Roll,ma_Roll___init__,mf_Roll___init__,kf_Roll⟩,PySem.W.mg_of X G n_Roll,by
    simp only [List.mem_cons,List.not_mem_nil,or_false,forall_eq_or_imp,forall_eq]
    exact ⟨kn_Roll_below,kn_Roll_day,kn_Roll_licences,kn_Roll_names,kn_Roll_done⟩⟩
  have X_SluiceError:lO K mg "SluiceError" cX_SluiceError:=⟨PySem.W.mg_of X G n_SluiceError,q_SluiceError,⟨xa_SluiceError,xb_SluiceError,xc_SluiceError,xd_SluiceError,xe_SluiceError,xf_SluiceError,xg_SluiceError,xh_SluiceError⟩⟩
  have X_NoNumber:lO K mg "NoNumber" cX_NoNumber:=⟨PySem.W.mg_of X G n_NoNumber,q_NoNumber,⟨xa_NoNumber,xb_NoNumber,xc_NoNumber,xd_NoNumber,xe_NoNumber,xf_NoNumber,xg_NoNumber,xh_NoNumber⟩⟩
  have X_NotYours:lO K mg "NotYours" cX_NotYours:=⟨PySem.W.mg_of X G n_NotYours,q_NotYours,⟨xa_NotYours,xb_NotYours,xc_NotYours,xd_NotYours,xe_NotYours,xf_NotYours,xg_NotYours,xh_NotYours⟩⟩
  have X_NoHolder:lO K mg "NoHolder" cX_NoHolder:=⟨PySem.W.mg_of X G n_NoHolder,q_NoHolder,⟨xa_NoHolder,xb_NoHolder,xc_NoHolder,xd_NoHolder,xe_NoHolder,xf_NoHolder,xg_NoHolder,xh_NoHolder⟩⟩
  have X_NoLicence:lO K mg "NoLicence" cX_NoLicence:=⟨PySem.W.mg_of X G n_NoLicence,q_NoLicence,⟨xa_NoLicence,xb_NoLicence,xc_NoLicence,xd_NoLicence,xe_NoLicence,xf_NoLicence,xg_NoLicence,xh_NoLicence⟩⟩
  have X_TooMuch:lO K mg "TooMuch" cX_TooMuch:=⟨PySem.W.mg_of X G n_TooMuch,q_TooMuch,⟨xa_TooMuch,xb_TooMuch,xc_TooMuch,xd_TooMuch,xe_TooMuch,xf_TooMuch,xg_TooMuch,xh_TooMuch⟩⟩
  have X_NotAlone:lO K mg "NotAlone" cX_NotAlone:=⟨PySem.W.mg_of X G n_NotAlone,q_NotAlone,⟨xa_NotAlone,xb_NotAlone,xc_NotAlone,xd_NotAlone,xe_NotAlone,xf_NotAlone,xg_NotAlone,xh_NotAlone⟩⟩
  have X_Full:lO K mg "Full" cX_Full:=⟨PySem.W.mg_of X G n_Full,q_Full,⟨xa_Full,xb_Full,xc_Full,xd_Full,xe_Full,xf_Full,xg_Full,xh_Full⟩⟩
  have X_NoRiver:lO K mg "NoRiver" cX_NoRiver:=⟨PySem.W.mg_of X G n_NoRiver,q_NoRiver,⟨xa_NoRiver,xb_NoRiver,xc_NoRiver,xd_NoRiver,xe_NoRiver,xf_NoRiver,xg_NoRiver,xh_NoRiver⟩⟩
  have F0:=bO (st:=eZ) l0 c0 k0
  have cu:Df K mg "is_water" eZ ["amount"] _ _:=⟨F0,iZ F0 (fun _ _ _ _ _ _ _=>rfl),PySem.W.mg_of X G a0⟩
  have F1:=bO (st:=gW) l1 c1 k1
  have jY:Df K mg "is_name" gW ["text"] _ _:=⟨F1,iZ F1 (fun _ _ _ _ _ _ _=>rfl),PySem.W.mg_of X G a1⟩
  have F2:=bO (st:=cA) l2 c2 k2
  have dJ:Df K mg "comes_to_mouth" cA ["below","start"] _ _:=⟨F2,gJ F2 (fun _ _ _ _ _ _ _ _=>rfl),PySem.W.mg_of X G a2⟩
  have F3:=bO (st:=fj) l3 c3 k3
  have je:Df K mg "is_river" fj ["below"] _ _:=⟨F3,iZ F3 (fun _ _ _ _ _ _ _=>rfl),PySem.W.mg_of X G a3⟩
  have F4:=bO (st:=jD) l4 c4 k4
  have lF:Df K mg "way_of" jD ["below","reach"] _ _:=⟨F4,gJ F4 (fun _ _ _ _ _ _ _ _=>rfl),PySem.W.mg_of X G a4⟩
  have F5:=bO (st:=dM) l5 c5 k5
  have cL:Df K mg "is_licence" dM ["below","one"] _ _:=⟨F5,gJ F5 (fun _ _ _ _ _ _ _ _=>rfl),PySem.W.mg_of X G a5⟩
  have F6:=bO (st:=fG) l6 c6 k6
  have eU:Df K mg "day_filed" fG ["one"] _ _:=⟨F6,iZ F6 (fun _ _ _ _ _ _ _=>rfl),PySem.W.mg_of X G a6⟩
  have F7:=bO (st:=fD) l7 c7 k7
  have bL:Df K mg "most_of" fD ["one"] _ _:=⟨F7,iZ F7 (fun _ _ _ _ _ _ _=>rfl),PySem.W.mg_of X G a7⟩
  have F8:=bO (st:=d8) l8 c8 k8
  have gK:Df K mg "with_start" d8 ["one","start"] _ _:=⟨F8,gJ F8 (fun _ _ _ _ _ _ _ _=>rfl),PySem.W.mg_of X G a8⟩
  have F9:=bO (st:=dG) l9 c9 k9
  have aZ:Df K mg "with_most" dG ["one","most"] _ _:=⟨F9,gJ F9 (fun _ _ _ _ _ _ _ _=>rfl),PySem.W.mg_of X G a9⟩
  have F10:=bO (st:=bY) l10 c10 k10
  have bx:Df K mg "look_at_name" bY ["name"] _ _:=⟨F10,iZ F10 (fun _ _ _ _ _ _ _=>rfl),PySem.W.mg_of X G a10⟩
  have F11:=bO (st:=iH) l11 c11 k11
  have jZ:Df K mg "do_anew" iH ["roll","deed"] _ _:=⟨F11,gJ F11 (fun _ _ _ _ _ _ _ _=>rfl),PySem.W.mg_of X G a11⟩
  have F12:=bO (st:=eY) l12 c12 k12
  have cj:Df K mg "replayed" eY ["below","deeds"] _ _:=⟨F12,gJ F12 (fun _ _ _ _ _ _ _ _=>rfl),PySem.W.mg_of X G a12⟩
  have F13:=bO (st:=dj) l13 c13 k13
  have aL:Df K mg "_law_cell_at" dj ["script","k"] _ _:=⟨F13,gJ F13 (fun _ _ _ _ _ _ _ _=>rfl),PySem.W.mg_of X G a13⟩
  have F14:=bO (st:=fK) l14 c14 k14
  have iz:Df K mg "_law_draw" fK ["cell","place"] _ _:=⟨F14,gJ F14 (fun _ _ _ _ _ _ _ _=>rfl),PySem.W.mg_of X G a14⟩
  have F15:=bO (st:=dg) l15 c15 k15
  have bD:Df K mg "_law_draws" dg ["cell","many"] _ _:=⟨F15,gJ F15 (fun _ _ _ _ _ _ _ _=>rfl),PySem.W.mg_of X G a15⟩
  have F16:=bO (st:=cW) l16 c16 k16
  have gM:Df K mg "_law_river" cW ["cell"] _ _:=⟨F16,iZ F16 (fun _ _ _ _ _ _ _=>rfl),PySem.W.mg_of X G a16⟩
  have F17:=bO (st:=dN) l17 c17 k17
  have gb:Df K mg "_law_spoilt" dN ["below","cell"] _ _:=⟨F17,gJ F17 (fun _ _ _ _ _ _ _ _=>rfl),PySem.W.mg_of X G a17⟩
  have F18:=bO (st:=gH) l18 c18 k18
  have jf:Df K mg "_law_way" gH ["below","reach"] _ _:=⟨F18,gJ F18 (fun _ _ _ _ _ _ _ _=>rfl),PySem.W.mg_of X G a18⟩
  have F19:=bO (st:=cV) l19 c19 k19
  have cM:Df K mg "_law_words" cV ["e"] _ _:=⟨F19,iZ F19 (fun _ _ _ _ _ _ _=>rfl),PySem.W.mg_of X G a19⟩
  have F20:=bO (st:=cG) l20 c20 k20
  have bh:Df K mg "_law_refused" cG ["below","deeds"] _ _:=⟨F20,gJ F20 (fun _ _ _ _ _ _ _ _=>rfl),PySem.W.mg_of X G a20⟩
  have F21:=bO (st:=cX) l21 c21 k21
  have fu:Df K mg "_law_no_roll" cX ["below"] _ _:=⟨F21,iZ F21 (fun _ _ _ _ _ _ _=>rfl),PySem.W.mg_of X G a21⟩
  have F22:=bO (st:=cZ) l22 c22 k22
  have cO:Df K mg "_law_mates" cZ ["lines","number"] _ _:=⟨F22,gJ F22 (fun _ _ _ _ _ _ _ _=>rfl),PySem.W.mg_of X G a22⟩
  have F23:=bO (st:=fJ) l23 c23 k23
  have iy:Df K mg "_law_file" fJ ["xs","below"] _ _:=⟨F23,gJ F23 (fun _ _ _ _ _ _ _ _=>rfl),PySem.W.mg_of X G a23⟩
  have F24:=bO (st:=eH) l24 c24 k24
  have iB:Df K mg "_law_deed" eH ["xs","below","lines","owners"] _ _:=⟨F24,tY F24 (fun _ _ _ _ _ _ _ _ _ _=>rfl),PySem.W.mg_of X G a24⟩
  have F25:=bO (st:=fH) l25 c25 k25
  have iu:Df K mg "_law_step" fH ["deed","day","lines","owners"] _ _:=⟨F25,tY F25 (fun _ _ _ _ _ _ _ _ _ _=>rfl),PySem.W.mg_of X G a25⟩
  have F26:=bO (st:=cT) l26 c26 k26
  have cU:Df K mg "_law_forged" cT ["xs","below","lines","owners"] _ _:=⟨F26,tY F26 (fun _ _ _ _ _ _ _ _ _ _=>rfl),PySem.W.mg_of X G a26⟩
  have F27:=bO (st:=eG) l27 c27 k27
  have iw:Df K mg "_law_full" eG ["below","cell"] _ _:=⟨F27,gJ F27 (fun _ _ _ _ _ _ _ _=>rfl),PySem.W.mg_of X G a27⟩
  have F28:=bO (st:=pI) l28 c28 k28
  have V2:Df K mg "law" pI ["script"] _ _:=⟨F28,iZ F28 (fun _ _ _ _ _ _ _=>rfl),PySem.W.mg_of X G a28⟩
  refine ⟨PySem.W.fnOf "law" "law" (aC pI) (aB pI) (ak pI) .none kV28 dc28 pm28 an28 cd28 ct28,fun s v=>.of_eq rfl,fun base _ _=>?_⟩
  have RR:RC K cR_Roll:=KQ R_Roll
  have TT9:wz K (⟨cX_NoNumber,cX_NotYours,cX_NoHolder,cX_NoLicence,cX_TooMuch,cX_NotAlone,cX_Full,cX_NoRiver⟩:Ec) [cX_NoNumber,cX_NotYours,cX_NoHolder,cX_NoLicence,cX_TooMuch,cX_NotAlone,cX_Full,cX_NoRiver] cX_SluiceError:=⟨fun k=>match k with | .number=>m_NoNumber_SluiceError | .yours=>m_NotYours_SluiceError | .holder=>m_NoHolder_SluiceError | .licence=>m_NoLicence_SluiceError | .much=>m_TooMuch_SluiceError | .alone=>m_NotAlone_SluiceError | .full=>m_Full_SluiceError | .ig=>m_NoRiver_SluiceError,fun k j a h=>match k with | .number=>tG m_kall (i:=0) rfl h | .yours=>tG m_kall (i:=1) rfl h | .holder=>tG m_kall (i:=2) rfl h | .licence=>tG m_kall (i:=3) rfl h | .much=>tG m_kall (i:=4) rfl h | .alone=>tG m_kall (i:=5) rfl h | .full=>tG m_kall (i:=6) rfl h | .ig=>tG m_kall (i:=7) rfl h,fun k=>match k with | .number=>i_NoNumber_ValueError | .yours=>i_NotYours_ValueError | .holder=>i_NoHolder_ValueError | .licence=>i_NoLicence_ValueError | .much=>i_TooMuch_ValueError | .alone=>i_NotAlone_ValueError | .full=>i_Full_ValueError | .ig=>i_NoRiver_ValueError,fun k=>match k with | .number=>X_NoNumber.x | .yours=>X_NotYours.x | .holder=>X_NoHolder.x | .licence=>X_NoLicence.x | .much=>X_TooMuch.x | .alone=>X_NotAlone.x | .full=>X_Full.x | .ig=>X_NoRiver.x⟩
  have C:Mth mg:=⟨h_MOUTH⟩
  have CS:Cst mg:=⟨h_MOUTH,h_MOST_REACHES⟩
  have CNm:CN mg:=⟨h_LONGEST_NAME,h_LETTERS⟩
  have g1:=M6 (P:=l.prog) (w:=w) (base:=base) lF C
  have g2:=Aq (P:=l.prog) (w:=w) (base:=base) dJ B CS
  have g3:=Nb je B CS dJ g2
  have g4:=Ak (P:=l.prog) (w:=w) (base:=base) cu h_MOST_WATER
  have g5:=Ao (T:=[]) cL B C h_LAST_DAY cu g4 lF g1
  have g6:=La (P:=l.prog) (w:=w) (base:=base) aL B
  have g7:=yN (P:=l.prog) (w:=w) (base:=base) (T:=[]) jY B CNm
  have g8:=uG (T:=[]) bx X_NoHolder jY g7
  have g9:=Ax (P:=l.prog) (w:=w) (base:=base) (mg:=mg) eV B RR
  have g10:=uJ (P:=l.prog) (w:=w) (base:=base) (mg:=mg) gw B RR
  have g11:=yS (P:=l.prog) (w:=w) (base:=base) (mg:=mg) iR B RR
  have g12:=yP (P:=l.prog) (w:=w) (base:=base) (mg:=mg) iQ RR
  have g13:=Ar (P:=l.prog) (w:=w) (base:=base) (mg:=mg) (T:=[]) (c:=(⟨cX_NoNumber,cX_NotYours,cX_NoHolder,cX_NoLicence,cX_TooMuch,cX_NotAlone,cX_Full,cX_NoRiver⟩:Ec)) jq RR
  have g14:=yR (P:=l.prog) (w:=w) (base:=base) (mg:=mg) dU B RR
  have g15:=Aw (P:=l.prog) (w:=w) (base:=base) (mg:=mg) (T:=[]) bH B RR X_Full h_MOST_LICENCES
  have g16:=uH (P:=l.prog) (w:=w) (base:=base) (mg:=mg) (T:=[]) cP B RR X_NoNumber
  have g17:=uI (T:=[]) aG B RR X_NotYours cP g16
  have g18:=Ng (P:=l.prog) (w:=w) (base:=base) eU
  have g19:=K6 (P:=l.prog) (w:=w) (base:=base) bL
  have g20:=Ug (P:=l.prog) (w:=w) (base:=base) aZ
  have g21:=M5 (P:=l.prog) (w:=w) (base:=base) gK
  have g22:=yU (T:=[]) fW B RR eU g18 bL g19
  have g23:=Bf (T:=[]) (c:=(⟨cX_NoNumber,cX_NotYours,cX_NoHolder,cX_NoLicence,cX_TooMuch,cX_NotAlone,cX_Full,cX_NoRiver⟩:Ec)) jx RR aG g17 aZ g20
  have g24:=Av (T:=[]) (c:=(⟨cX_NoNumber,cX_NotYours,cX_NoHolder,cX_NoLicence,cX_TooMuch,cX_NotAlone,cX_Full,cX_NoRiver⟩:Ec)) jr RR aG g17 bx g8
  have g25:=Ay (T:=[]) (c:=(⟨cX_NoNumber,cX_NotYours,cX_NoHolder,cX_NoLicence,cX_TooMuch,cX_NotAlone,cX_Full,cX_NoRiver⟩:Ec)) jt B RR X_TooMuch X_NotAlone aG g17 bx g8 bL g19 fW g22 bH g15 aZ g20 dU g14
  have g26:=sY (P:=l.prog) (w:=w) (base:=base) (mg:=mg) eX
  have g27:=Az (T:=[]) (c:=(⟨cX_NoNumber,cX_NotYours,cX_NoHolder,cX_NoLicence,cX_TooMuch,cX_NotAlone,cX_Full,cX_NoRiver⟩:Ec)) ju B RR X_NoLicence aG g17 gK g21 cL g5 eX g26
  have g28:=Bd (T:=[]) (c:=(⟨cX_NoNumber,cX_NotYours,cX_NoHolder,cX_NoLicence,cX_TooMuch,cX_NotAlone,cX_Full,cX_NoRiver⟩:Ec)) jw B C RR X_NoLicence bx g8 cL g5 bH g15 dU g14
  have g29:=yQ (T:=[]) (c:=(⟨cX_NoNumber,cX_NotYours,cX_NoHolder,cX_NoLicence,cX_TooMuch,cX_NotAlone,cX_Full,cX_NoRiver⟩:Ec)) gO B RR X_NoNumber X_TooMuch cu g4 bL g19 aZ g20
  have g30:=wO (T:=[]) (c:=(⟨cX_NoNumber,cX_NotYours,cX_NoHolder,cX_NoLicence,cX_TooMuch,cX_NotAlone,cX_Full,cX_NoRiver⟩:Ec)) gO B RR X_NoNumber X_TooMuch cu g4 bL g19 aZ g20
  have g31:=Bb (T:=[]) (c:=(⟨cX_NoNumber,cX_NotYours,cX_NoHolder,cX_NoLicence,cX_TooMuch,cX_NotAlone,cX_Full,cX_NoRiver⟩:Ec)) dH B RR X_NoRiver je g3
  have g32:=Lb (T:=[]) (c:=(⟨cX_NoNumber,cX_NotYours,cX_NoHolder,cX_NoLicence,cX_TooMuch,cX_NotAlone,cX_Full,cX_NoRiver⟩:Ec)) jZ RR jq g13 jw g28 jr g24 jt g25 jx g23 ju g27 gO g30
  have g33:=K4 (T:=[]) (c:=(⟨cX_NoNumber,cX_NotYours,cX_NoHolder,cX_NoLicence,cX_TooMuch,cX_NotAlone,cX_Full,cX_NoRiver⟩:Ec)) cj R_Roll dH g31 jZ g32
  have g34:=Ui (P:=l.prog) (w:=w) (base:=base) iz
  have g35:=Nf (T:=[]) bD B iz g34
  have g36:=Al (T:=[]) gM B bD g35
  have g37:=K7 (P:=l.prog) (w:=w) (base:=base) jf
  have g38:=Aj (P:=l.prog) (w:=w) (base:=base) (T:=[]) (c:=(⟨cX_NoNumber,cX_NotYours,cX_NoHolder,cX_NoLicence,cX_TooMuch,cX_NotAlone,cX_Full,cX_NoRiver⟩:Ec)) cM B TT9 X_NoNumber X_NotYours X_NoHolder X_NoLicence X_TooMuch X_NotAlone X_Full X_NoRiver
  have g39:=K5 (T:=[]) (c:=(⟨cX_NoNumber,cX_NotYours,cX_NoHolder,cX_NoLicence,cX_TooMuch,cX_NotAlone,cX_Full,cX_NoRiver⟩:Ec)) bh X_SluiceError TT9 cj g33 cM g38
  have g40:=M8 (T:=[]) (c:=(⟨cX_NoNumber,cX_NotYours,cX_NoHolder,cX_NoLicence,cX_TooMuch,cX_NotAlone,cX_Full,cX_NoRiver⟩:Ec)) fu X_SluiceError TT9 R_Roll dH g31 cM g38
  have g41:=K3 (P:=l.prog) (w:=w) (base:=base) (T:=[]) iu B
  have g42:=M7 (P:=l.prog) (w:=w) (base:=base) (T:=[]) gb B
  have g43:=Uh (T:=[]) iy B jf g37
  have g44:=Am (P:=l.prog) (w:=w) (base:=base) (T:=[]) cO B
  have g45:=K9 (T:=[]) iB B iy g43 cO g44
  have g46:=yO (T:=[]) cU B cO g44
  have g47:=K8 (T:=[]) (c:=(⟨cX_NoNumber,cX_NotYours,cX_NoHolder,cX_NoLicence,cX_TooMuch,cX_NotAlone,cX_Full,cX_NoRiver⟩:Ec)) iw B R_Roll cj g33 eV g9 bh g39
  exact M9 V2 B R_Roll aL g6 gM g36 bD g35 cU g46 iB g45 iu g41 bh g39 cj g33 iQ g12 eV g9 gw g10 iR g11 iw g47 gb g42 fu g40
theorem walk {l:PySem.W.OpenLaw} {q:Program} {loose:List Str} {XP:(Str→Option Value)→Heap→Prop} {YP:World→Heap→Prop} {d:DefRec} {K:Params→PySem.W.Frag} (hn:l.most=some 63) (hdf:d.params.defaults=[])
    (hY:∀ (w:World) (h:Heap),YP w h→(K w.params).In h)
    (F:∀ (w:World) (mg:Str→Option Value) (fa:Addr) (h:Heap),(K w.params).In h→h.Ns mainGlobals mg→mg d.name=some (.ref fa) →
      ∃ fd:FuncData,(∀ (s:Shared) (u:Value),BindsTo s fd ⟨[u],[]⟩ [("script",u)])∧∀ base:Heap,(K w.params).In base→base.Ns mainGlobals mg→bQ l.prog w (K w.params) mg base CX0 8 fa fd ["script"] (vI (K w.params))) :
    PySem.W.WalkO q loose XP YP l.row.toRowW d [] (fun f vs=>PySem.call f vs) :=
  L2.Ks (n:=63) (k:=8) (x:="script") (CX:=fun _=>CX0) (sp:=fun w=>vI (K w.params)) hn (by decide) hdf ⟨rfl,by decide,by decide⟩ hY F (fun _ _ a ns hl _ hS=>⟨a,ns,rfl,hS,hl,fun _=>rfl⟩) fun _ _ _ _ _ z=>z
end My
open PySem PySem.W PyProof.Rows
set_option maxRecDepth 100000 in
set_option maxHeartbeats 0 in
theorem PySem.Challenge.cw_sluice_k59_replays_refused_holds : PySem.Challenge.rw_sluice_k59_replays_refused.Holds := by
  w_on;o_law
  refine PySem.W.holds_open (q:=My.qv) (loose:=My.vR) (Xt:=(fun s=>PySem.W.xlAt My.qv [] s && PySem.W.recOk (PySem.W.RowW.records PySem.Challenge.rw_sluice_k59_replays_refused.row.toRowW) s)) (XP:=PySem.W.XL My.qv []) (Yf:=PySem.W.Hook.obs (PySem.W.kHook My.Kf My.asK My.hkE)) (Ya:=PySem.W.Hook.val (PySem.W.kHook My.Kf My.asK My.hkE)) (YP:=PySem.W.Hook.says (PySem.W.kHook My.Kf My.asK My.hkE)) (N:=7460) My.hlE (PySem.W.Hook.of (PySem.W.kHook My.Kf My.asK My.hkE)) (PySem.W.Hook.keeps (PySem.W.kHook My.Kf My.asK My.hkE)) (fun s e=>PySem.W.xl_of s (Bool.and_eq_true_iff.mp e).1) PySem.W.XL.keeps (by rfl) (by rfl) (by rfl) (fun s e=>PySem.W.recFacts_of (Bool.and_eq_true_iff.mp e).2) (by rfl) (by first | assumption | decide +kernel) (by decide +kernel) ⟨rfl,rfl,rfl,rfl,rfl,by decide +kernel⟩ ?hw ?hc
  case hw=>w_witness2
  k_fill
  refine My.walk (l:=PySem.Challenge.rw_sluice_k59_replays_refused) rfl rfl (fun w h Y=>PySem.W.kIn_of Y) ?F
  case F =>
    intro w mg fa h KX G hmg
    refine' My.all_mk KX G hmg ?a0 ?l0 ?c0 ?k0 ?a1 ?l1 ?c1 ?k1 ?a2 ?l2 ?c2 ?k2 ?a3 ?l3 ?c3 ?k3 ?a4 ?l4 ?c4 ?k4 ?a5 ?l5 ?c5 ?k5 ?a6 ?l6 ?c6 ?k6 ?a7 ?l7 ?c7 ?k7 ?a8 ?l8 ?c8 ?k8 ?a9 ?l9 ?c9 ?k9 ?a10 ?l10 ?c10 ?k10 ?a11 ?l11 ?c11 ?k11 ?a12 ?l12 ?c12 ?k12 ?a13 ?l13 ?c13 ?k13 ?a14 ?l14 ?c14 ?k14 ?a15 ?l15 ?c15 ?k15 ?a16 ?l16 ?c16 ?k16 ?a17 ?l17 ?c17 ?k17 ?a18 ?l18 ?c18 ?k18 ?a19 ?l19 ?c19 ?k19 ?a20 ?l20 ?c20 ?k20 ?a21 ?l21 ?c21 ?k21 ?a22 ?l22 ?c22 ?k22 ?a23 ?l23 ?c23 ?k23 ?a24 ?l24 ?c24 ?k24 ?a25 ?l25 ?c25 ?k25 ?a26 ?l26 ?c26 ?k26 ?a27 ?l27 ?c27 ?k27 ?a28 ?l28 ?c28 ?k28 ?e0 ?e1 ?e2 ?e3 ?e4 ?e5 ?e6 ?n_Roll ?ka_Roll ?kb_Roll ?kc_Roll ?kd_Roll ?ke_Roll ?kf_Roll ?kn_Roll_below ?kn_Roll_day ?kn_Roll_licences ?kn_Roll_names ?kn_Roll_done ?ma_Roll___init__ ?mf_Roll___init__ ?mk_Roll___init__ ?ml_Roll___init__ ?mc_Roll___init__ ?ma_Roll_today ?mf_Roll_today ?mk_Roll_today ?ml_Roll_today ?mc_Roll_today ?ma_Roll_roll ?mf_Roll_roll ?mk_Roll_roll ?ml_Roll_roll ?mc_Roll_roll ?ma_Roll_holders ?mf_Roll_holders ?mk_Roll_holders ?ml_Roll_holders ?mc_Roll_holders ?ma_Roll_deeds ?mf_Roll_deeds ?mk_Roll_deeds ?ml_Roll_deeds ?mc_Roll_deeds ?ma_Roll_turn ?mf_Roll_turn ?mk_Roll_turn ?ml_Roll_turn ?mc_Roll_turn ?ma_Roll_file ?mf_Roll_file ?mk_Roll_file ?ml_Roll_file ?mc_Roll_file ?mt_Roll_file ?mu_Roll_file ?ma_Roll_sell ?mf_Roll_sell ?mk_Roll_sell ?ml_Roll_sell ?mc_Roll_sell ?ma_Roll_part ?mf_Roll_part ?mk_Roll_part ?ml_Roll_part ?mc_Roll_part ?ma_Roll_drop ?mf_Roll_drop ?mk_Roll_drop ?ml_Roll_drop ?mc_Roll_drop ?ma_Roll_move ?mf_Roll_move ?mk_Roll_move ?ml_Roll_move ?mc_Roll_move ?ma_Roll_look_move ?mf_Roll_look_move ?mk_Roll_look_move ?ml_Roll_look_move ?mc_Roll_look_move ?ma_Roll_lapse ?mf_Roll_lapse ?mk_Roll_lapse ?ml_Roll_lapse ?mc_Roll_lapse ?ma_Roll_enter ?mf_Roll_enter ?mk_Roll_enter ?ml_Roll_enter ?mc_Roll_enter ?ma_Roll_is_alone ?mf_Roll_is_alone ?mk_Roll_is_alone ?ml_Roll_is_alone ?mc_Roll_is_alone ?ma_Roll_look_at_number ?mf_Roll_look_at_number ?mk_Roll_look_at_number ?ml_Roll_look_at_number ?mc_Roll_look_at_number ?ma_Roll_look_at_holder ?mf_Roll_look_at_holder ?mk_Roll_look_at_holder ?ml_Roll_look_at_holder ?mc_Roll_look_at_holder ?ma_Roll_look_at_room ?mf_Roll_look_at_room ?mk_Roll_look_at_room ?ml_Roll_look_at_room ?mc_Roll_look_at_room ?z_len ?z_range ?z_list ?z_isinstance ?z_bool ?z_int ?z_all ?z_min ?z_max ?z_sum ?z_sorted ?z_zip ?z_tuple ?z_str ?z_any ?z_enumerate ?z_reversed ?z_abs ?z_ValueError ?z_set ?n_SluiceError ?q_SluiceError ?xa_SluiceError ?xb_SluiceError ?xc_SluiceError ?xd_SluiceError ?xe_SluiceError ?xf_SluiceError ?xg_SluiceError ?xh_SluiceError ?n_NoNumber ?q_NoNumber ?xa_NoNumber ?xb_NoNumber ?xc_NoNumber ?xd_NoNumber ?xe_NoNumber ?xf_NoNumber ?xg_NoNumber ?xh_NoNumber ?n_NotYours ?q_NotYours ?xa_NotYours ?xb_NotYours ?xc_NotYours ?xd_NotYours ?xe_NotYours ?xf_NotYours ?xg_NotYours ?xh_NotYours ?n_NoHolder ?q_NoHolder ?xa_NoHolder ?xb_NoHolder ?xc_NoHolder ?xd_NoHolder ?xe_NoHolder ?xf_NoHolder ?xg_NoHolder ?xh_NoHolder ?n_NoLicence ?q_NoLicence ?xa_NoLicence ?xb_NoLicence ?xc_NoLicence ?xd_NoLicence ?xe_NoLicence ?xf_NoLicence ?xg_NoLicence ?xh_NoLicence ?n_TooMuch ?q_TooMuch ?xa_TooMuch ?xb_TooMuch ?xc_TooMuch ?xd_TooMuch ?xe_TooMuch ?xf_TooMuch ?xg_TooMuch ?xh_TooMuch ?n_NotAlone ?q_NotAlone ?xa_NotAlone ?xb_NotAlone ?xc_NotAlone ?xd_NotAlone ?xe_NotAlone ?xf_NotAlone ?xg_NotAlone ?xh_NotAlone ?n_Full ?q_Full ?xa_Full ?xb_Full ?xc_Full ?xd_Full ?xe_Full ?xf_Full ?xg_Full ?xh_Full ?n_NoRiver ?q_NoRiver ?xa_NoRiver ?xb_NoRiver ?xc_NoRiver ?xd_NoRiver ?xe_NoRiver ?xf_NoRiver ?xg_NoRiver ?xh_NoRiver ?m_NoNumber_SluiceError ?m_NotYours_SluiceError ?m_NoHolder_SluiceError ?m_NoLicence_SluiceError ?m_TooMuch_SluiceError ?m_NotAlone_SluiceError ?m_Full_SluiceError ?m_NoRiver_SluiceError ?i_NoNumber_ValueError ?i_NotYours_ValueError ?i_NoHolder_ValueError ?i_NoLicence_ValueError ?i_TooMuch_ValueError ?i_NotAlone_ValueError ?i_Full_ValueError ?i_NoRiver_ValueError ?m_kall
    (case a0=>k_is)
    (case l0=>k_is)
    (case c0=>k_is)
    (case k0=>k_is)
    (case a1=>k_is)
    (case l1=>k_is)
    (case c1=>k_is)
    (case k1=>k_is)
    (case a2=>k_is)
    (case l2=>k_is)
    (case c2=>k_is)
    (case k2=>k_is)
    (case a3=>k_is)
    (case l3=>k_is)
    (case c3=>k_is)
    (case k3=>k_is)
    (case a4=>k_is)
    (case l4=>k_is)
    (case c4=>k_is)
    (case k4=>k_is)
    (case a5=>k_is)
    (case l5=>k_is)
    (case c5=>k_is)
    (case k5=>k_is)
    (case a6=>k_is)
    (case l6=>k_is)
    (case c6=>k_is)
    (case k6=>k_is)
    (case a7=>k_is)
    (case l7=>k_is)
    (case c7=>k_is)
    (case k7=>k_is)
    (case a8=>k_is)
    (case l8=>k_is)
    (case c8=>k_is)
    (case k8=>k_is)
    (case a9=>k_is)
    (case l9=>k_is)
    (case c9=>k_is)
    (case k9=>k_is)
    (case a10=>k_is)
    (case l10=>k_is)
    (case c10=>k_is)
    (case k10=>k_is)
    (case a11=>k_is)
    (case l11=>k_is)
    (case c11=>k_is)
    (case k11=>k_is)
    (case a12=>k_is)
    (case l12=>k_is)
    (case c12=>k_is)
    (case k12=>k_is)
    (case a13=>k_is)
    (case l13=>k_is)
    (case c13=>k_is)
    (case k13=>k_is)
    (case a14=>k_is)
    (case l14=>k_is)
    (case c14=>k_is)
    (case k14=>k_is)
    (case a15=>k_is)
    (case l15=>k_is)
    (case c15=>k_is)
    (case k15=>k_is)
    (case a16=>k_is)
    (case l16=>k_is)
    (case c16=>k_is)
    (case k16=>k_is)
    (case a17=>k_is)
    (case l17=>k_is)
    (case c17=>k_is)
    (case k17=>k_is)
    (case a18=>k_is)
    (case l18=>k_is)
    (case c18=>k_is)
    (case k18=>k_is)
    (case a19=>k_is)
    (case l19=>k_is)
    (case c19=>k_is)
    (case k19=>k_is)
    (case a20=>k_is)
    (case l20=>k_is)
    (case c20=>k_is)
    (case k20=>k_is)
    (case a21=>k_is)
    (case l21=>k_is)
    (case c21=>k_is)
    (case k21=>k_is)
    (case a22=>k_is)
    (case l22=>k_is)
    (case c22=>k_is)
    (case k22=>k_is)
    (case a23=>k_is)
    (case l23=>k_is)
    (case c23=>k_is)
    (case k23=>k_is)
    (case a24=>k_is)
    (case l24=>k_is)
    (case c24=>k_is)
    (case k24=>k_is)
    (case a25=>k_is)
    (case l25=>k_is)
    (case c25=>k_is)
    (case k25=>k_is)
    (case a26=>k_is)
    (case l26=>k_is)
    (case c26=>k_is)
    (case k26=>k_is)
    (case a27=>k_is)
    (case l27=>k_is)
    (case c27=>k_is)
    (case k27=>k_is)
    (case a28=>k_is)
    (case l28=>k_is)
    (case c28=>k_is)
    (case k28=>k_is)
    (case e0=>k_is)
    (case e1=>k_is)
    (case e2=>k_is)
    (case e3=>k_is)
    (case e4=>k_is)
    (case e5=>k_is)
    (case e6=>k_is)
    (case n_Roll=>k_is)
    (case ka_Roll=>(first | k_is | kernel_rfl | rfl))
    (case kb_Roll=>(first | k_is | kernel_rfl | rfl))
    (case kc_Roll=>(first | k_is | kernel_rfl | rfl))
    (case kd_Roll=>(first | k_is | kernel_rfl | rfl))
    (case ke_Roll=>(first | k_is | kernel_rfl | rfl))
    (case kf_Roll=>(first | k_is | kernel_rfl | rfl))
    (case kn_Roll_below=>(first | k_is | kernel_rfl | rfl))
    (case kn_Roll_day=>(first | k_is | kernel_rfl | rfl))
    (case kn_Roll_licences=>(first | k_is | kernel_rfl | rfl))
    (case kn_Roll_names=>(first | k_is | kernel_rfl | rfl))
    (case kn_Roll_done=>(first | k_is | kernel_rfl | rfl))
    (case ma_Roll___init__=>k_is)
    (case mf_Roll___init__=>(first | k_is | kernel_rfl | rfl))
    (case mk_Roll___init__=>k_is)
    (case ml_Roll___init__=>k_is)
    (case mc_Roll___init__=>k_is)
    (case ma_Roll_today=>k_is)
    (case mf_Roll_today=>(first | k_is | kernel_rfl | rfl))
    (case mk_Roll_today=>k_is)
    (case ml_Roll_today=>k_is)
    (case mc_Roll_today=>k_is)
    (case ma_Roll_roll=>k_is)
    (case mf_Roll_roll=>(first | k_is | kernel_rfl | rfl))
    (case mk_Roll_roll=>k_is)
    (case ml_Roll_roll=>k_is)
    (case mc_Roll_roll=>k_is)
    (case ma_Roll_holders=>k_is)
    (case mf_Roll_holders=>(first | k_is | kernel_rfl | rfl))
    (case mk_Roll_holders=>k_is)
    (case ml_Roll_holders=>k_is)
    (case mc_Roll_holders=>k_is)
    (case ma_Roll_deeds=>k_is)
    (case mf_Roll_deeds=>(first | k_is | kernel_rfl | rfl))
    (case mk_Roll_deeds=>k_is)
    (case ml_Roll_deeds=>k_is)
    (case mc_Roll_deeds=>k_is)
    (case ma_Roll_turn=>k_is)
    (case mf_Roll_turn=>(first | k_is | kernel_rfl | rfl))
    (case mk_Roll_turn=>k_is)
    (case ml_Roll_turn=>k_is)
    (case mc_Roll_turn=>k_is)
    (case ma_Roll_file=>k_is)
    (case mf_Roll_file=>(first | k_is | kernel_rfl | rfl))
    (case mk_Roll_file=>k_is)
    (case ml_Roll_file=>k_is)
    (case mc_Roll_file=>k_is)
    (case mt_Roll_file=>k_is)
    (case mu_Roll_file=>exact ⟨_,rfl⟩)
    (case ma_Roll_sell=>k_is)
    (case mf_Roll_sell=>(first | k_is | kernel_rfl | rfl))
    (case mk_Roll_sell=>k_is)
    (case ml_Roll_sell=>k_is)
    (case mc_Roll_sell=>k_is)
    (case ma_Roll_part=>k_is)
    (case mf_Roll_part=>(first | k_is | kernel_rfl | rfl))
    (case mk_Roll_part=>k_is)
    (case ml_Roll_part=>k_is)
    (case mc_Roll_part=>k_is)
    (case ma_Roll_drop=>k_is)
    (case mf_Roll_drop=>(first | k_is | kernel_rfl | rfl))
    (case mk_Roll_drop=>k_is)
    (case ml_Roll_drop=>k_is)
    (case mc_Roll_drop=>k_is)
    (case ma_Roll_move=>k_is)
    (case mf_Roll_move=>(first | k_is | kernel_rfl | rfl))
    (case mk_Roll_move=>k_is)
    (case ml_Roll_move=>k_is)
    (case mc_Roll_move=>k_is)
    (case ma_Roll_look_move=>k_is)
    (case mf_Roll_look_move=>(first | k_is | kernel_rfl | rfl))
    (case mk_Roll_look_move=>k_is)
    (case ml_Roll_look_move=>k_is)
    (case mc_Roll_look_move=>k_is)
    (case ma_Roll_lapse=>k_is)
    (case mf_Roll_lapse=>(first | k_is | kernel_rfl | rfl))
    (case mk_Roll_lapse=>k_is)
    (case ml_Roll_lapse=>k_is)
    (case mc_Roll_lapse=>k_is)
    (case ma_Roll_enter=>k_is)
    (case mf_Roll_enter=>(first | k_is | kernel_rfl | rfl))
    (case mk_Roll_enter=>k_is)
    (case ml_Roll_enter=>k_is)
    (case mc_Roll_enter=>k_is)
    (case ma_Roll_is_alone=>k_is)
    (case mf_Roll_is_alone=>(first | k_is | kernel_rfl | rfl))
    (case mk_Roll_is_alone=>k_is)
    (case ml_Roll_is_alone=>k_is)
    (case mc_Roll_is_alone=>k_is)
    (case ma_Roll_look_at_number=>k_is)
    (case mf_Roll_look_at_number=>(first | k_is | kernel_rfl | rfl))
    (case mk_Roll_look_at_number=>k_is)
    (case ml_Roll_look_at_number=>k_is)
    (case mc_Roll_look_at_number=>k_is)
    (case ma_Roll_look_at_holder=>k_is)
    (case mf_Roll_look_at_holder=>(first | k_is | kernel_rfl | rfl))
    (case mk_Roll_look_at_holder=>k_is)
    (case ml_Roll_look_at_holder=>k_is)
    (case mc_Roll_look_at_holder=>k_is)
    (case ma_Roll_look_at_room=>k_is)
    (case mf_Roll_look_at_room=>(first | k_is | kernel_rfl | rfl))
    (case mk_Roll_look_at_room=>k_is)
    (case ml_Roll_look_at_room=>k_is)
    (case mc_Roll_look_at_room=>k_is)
    (case z_len=>k_is)
    (case z_range=>k_is)
    (case z_list=>k_is)
    (case z_isinstance=>k_is)
    (case z_bool=>k_is)
    (case z_int=>k_is)
    (case z_all=>k_is)
    (case z_min=>k_is)
    (case z_max=>k_is)
    (case z_sum=>k_is)
    (case z_sorted=>k_is)
    (case z_zip=>k_is)
    (case z_tuple=>k_is)
    (case z_str=>k_is)
    (case z_any=>k_is)
    (case z_enumerate=>k_is)
    (case z_reversed=>k_is)
    (case z_abs=>k_is)
    (case z_ValueError=>k_is)
    (case z_set=>k_is)
    (case n_SluiceError=>k_is)
    (case q_SluiceError=>(first | k_is | kernel_rfl))
    (case xa_SluiceError=>(first | k_is | kernel_rfl))
    (case xb_SluiceError=>(first | k_is | kernel_rfl))
    (case xc_SluiceError=>(first | k_is | kernel_rfl))
    (case xd_SluiceError=>(first | k_is | kernel_rfl))
    (case xe_SluiceError=>(first | k_is | kernel_rfl))
    (case xf_SluiceError=>(first | k_is | kernel_rfl))
    (case xg_SluiceError=>(first | k_is | kernel_rfl))
    (case xh_SluiceError=>(first | k_is | kernel_rfl))
    (case n_NoNumber=>k_is)
    (case q_NoNumber=>(first | k_is | kernel_rfl))
    (case xa_NoNumber=>(first | k_is | kernel_rfl))
    (case xb_NoNumber=>(first | k_is | kernel_rfl))
    (case xc_NoNumber=>(first | k_is | kernel_rfl))
    (case xd_NoNumber=>(first | k_is | kernel_rfl))
    (case xe_NoNumber=>(first | k_is | kernel_rfl))
    (case xf_NoNumber=>(first | k_is | kernel_rfl))
    (case xg_NoNumber=>(first | k_is | kernel_rfl))
    (case xh_NoNumber=>(first | k_is | kernel_rfl))
    (case n_NotYours=>k_is)
    (case q_NotYours=>(first | k_is | kernel_rfl))
    (case xa_NotYours=>(first | k_is | kernel_rfl))
    (case xb_NotYours=>(first | k_is | kernel_rfl))
    (case xc_NotYours=>(first | k_is | kernel_rfl))
    (case xd_NotYours=>(first | k_is | kernel_rfl))
    (case xe_NotYours=>(first | k_is | kernel_rfl))
    (case xf_NotYours=>(first | k_is | kernel_rfl))
    (case xg_NotYours=>(first | k_is | kernel_rfl))
    (case xh_NotYours=>(first | k_is | kernel_rfl))
    (case n_NoHolder=>k_is)
    (case q_NoHolder=>(first | k_is | kernel_rfl))
    (case xa_NoHolder=>(first | k_is | kernel_rfl))
    (case xb_NoHolder=>(first | k_is | kernel_rfl))
    (case xc_NoHolder=>(first | k_is | kernel_rfl))
    (case xd_NoHolder=>(first | k_is | kernel_rfl))
    (case xe_NoHolder=>(first | k_is | kernel_rfl))
    (case xf_NoHolder=>(first | k_is | kernel_rfl))
    (case xg_NoHolder=>(first | k_is | kernel_rfl))
    (case xh_NoHolder=>(first | k_is | kernel_rfl))
    (case n_NoLicence=>k_is)
    (case q_NoLicence=>(first | k_is | kernel_rfl))
    (case xa_NoLicence=>(first | k_is | kernel_rfl))
    (case xb_NoLicence=>(first | k_is | kernel_rfl))
    (case xc_NoLicence=>(first | k_is | kernel_rfl))
    (case xd_NoLicence=>(first | k_is | kernel_rfl))
    (case xe_NoLicence=>(first | k_is | kernel_rfl))
    (case xf_NoLicence=>(first | k_is | kernel_rfl))
    (case xg_NoLicence=>(first | k_is | kernel_rfl))
    (case xh_NoLicence=>(first | k_is | kernel_rfl))
    (case n_TooMuch=>k_is)
    (case q_TooMuch=>(first | k_is | kernel_rfl))
    (case xa_TooMuch=>(first | k_is | kernel_rfl))
    (case xb_TooMuch=>(first | k_is | kernel_rfl))
    (case xc_TooMuch=>(first | k_is | kernel_rfl))
    (case xd_TooMuch=>(first | k_is | kernel_rfl))
    (case xe_TooMuch=>(first | k_is | kernel_rfl))
    (case xf_TooMuch=>(first | k_is | kernel_rfl))
    (case xg_TooMuch=>(first | k_is | kernel_rfl))
    (case xh_TooMuch=>(first | k_is | kernel_rfl))
    (case n_NotAlone=>k_is)
    (case q_NotAlone=>(first | k_is | kernel_rfl))
    (case xa_NotAlone=>(first | k_is | kernel_rfl))
    (case xb_NotAlone=>(first | k_is | kernel_rfl))
    (case xc_NotAlone=>(first | k_is | kernel_rfl))
    (case xd_NotAlone=>(first | k_is | kernel_rfl))
    (case xe_NotAlone=>(first | k_is | kernel_rfl))
    (case xf_NotAlone=>(first | k_is | kernel_rfl))
    (case xg_NotAlone=>(first | k_is | kernel_rfl))
    (case xh_NotAlone=>(first | k_is | kernel_rfl))
    (case n_Full=>k_is)
    (case q_Full=>(first | k_is | kernel_rfl))
    (case xa_Full=>(first | k_is | kernel_rfl))
    (case xb_Full=>(first | k_is | kernel_rfl))
    (case xc_Full=>(first | k_is | kernel_rfl))
    (case xd_Full=>(first | k_is | kernel_rfl))
    (case xe_Full=>(first | k_is | kernel_rfl))
    (case xf_Full=>(first | k_is | kernel_rfl))
    (case xg_Full=>(first | k_is | kernel_rfl))
    (case xh_Full=>(first | k_is | kernel_rfl))
    (case n_NoRiver=>k_is)
    (case q_NoRiver=>(first | k_is | kernel_rfl))
    (case xa_NoRiver=>(first | k_is | kernel_rfl))
    (case xb_NoRiver=>(first | k_is | kernel_rfl))
    (case xc_NoRiver=>(first | k_is | kernel_rfl))
    (case xd_NoRiver=>(first | k_is | kernel_rfl))
    (case xe_NoRiver=>(first | k_is | kernel_rfl))
    (case xf_NoRiver=>(first | k_is | kernel_rfl))
    (case xg_NoRiver=>(first | k_is | kernel_rfl))
    (case xh_NoRiver=>(first | k_is | kernel_rfl))
    (case m_NoNumber_SluiceError=>(first | k_is | kernel_rfl))
    (case m_NotYours_SluiceError=>(first | k_is | kernel_rfl))
    (case m_NoHolder_SluiceError=>(first | k_is | kernel_rfl))
    (case m_NoLicence_SluiceError=>(first | k_is | kernel_rfl))
    (case m_TooMuch_SluiceError=>(first | k_is | kernel_rfl))
    (case m_NotAlone_SluiceError=>(first | k_is | kernel_rfl))
    (case m_Full_SluiceError=>(first | k_is | kernel_rfl))
    (case m_NoRiver_SluiceError=>(first | k_is | kernel_rfl))
    (case i_NoNumber_ValueError=>(first | k_is | kernel_rfl))
    (case i_NotYours_ValueError=>(first | k_is | kernel_rfl))
    (case i_NoHolder_ValueError=>(first | k_is | kernel_rfl))
    (case i_NoLicence_ValueError=>(first | k_is | kernel_rfl))
    (case i_TooMuch_ValueError=>(first | k_is | kernel_rfl))
    (case i_NotAlone_ValueError=>(first | k_is | kernel_rfl))
    (case i_Full_ValueError=>(first | k_is | kernel_rfl))
    (case i_NoRiver_ValueError=>(first | k_is | kernel_rfl))
    (case m_kall=>(first | k_is | kernel_rfl))
